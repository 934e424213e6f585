import PyProof.Rows.All
import OpenK.KLine
import KE.RegKIsAll
import KE.RegKTryMore
import Lean
import PyProof.EqAt
import PyProof.EqKinds
import PyProof.TupleCall
import KE.KTupSum
import KE.KItem
import PySem.Challenge.RW_cagebells_k34_whole_first_refusal
set_option Elab.async false
set_option linter.all false
set_option maxRecDepth 100000
set_option compiler.extract_closed false
abbrev WA:=PySem.W.Frag
theorem WB{α β}{l:List α}(f:α→β):(l.map f).length=l.length:=List.length_map f
namespace PySem.W.Fast
abbrev T:=True
theorem t:T:=⟨⟩
def tw13215326141854239149:=t
def tw861502493610598483:=t
def tw9075320774682361017:=t
def tw11895137114770202065:=t
def tw7803841389314116483:=t
def tw11938172151560616342:=t
def tw8156932348028877967:=t
def tw926038926055079427:=t
def tw7774113678449685934:=t
def tw14797863916429433284:=t
def tw13049043944605299518:=t
def tw13406377419850843074:=t
def tw4038046598495731775:=t
def tw18430476961869974472:=t
def tw13359257691425115219:=t
def tw10321690164698994850:=t
def tw8917917961894373751:=t
def tw9721000390032803332:=t
def tw18017129668781235815:=t
def tw17723881924890802966:=t
def tw13797646191491285992:=t
def tw9023412946914863120:=t
def tw3071672057996947647:=t
def tw6605169337270321112:=t
def tw17391296394322583936:=t
def tw15018716904364860632:=t
def tw14565471765716263578:=t
def tw12145756527313086355:=t
def tw3719891259706897012:=t
def tw15279809834360698895:=t
def tw431221854992830470:=t
def tw2127061852082412059:=t
def tw11863963456291920697:=t
def tw3507769193172341495:=t
def tw10146569101766770184:=t
def tw15627779663793561183:=t
def tw6973427100653255629:=t
def tw11589282660436910429:=t
def tw17680797132471856694:=t
def tw542136212441584030:=t
def tw9385439782273163706:=t
def tw17137270108147033825:=t
def tw16945406819829945896:=t
def tw8392358500681263680:=t
def tw211337195705725219:=t
def tw14329579894275425762:=t
def tw15499940227032437249:=t
def tw14454166528178196959:=t
def tw17047726808428361225:=t
def tw11076892268299887525:=t
def tw6851275008772768644:=t
def tw14859695947638507448:=t
def tw6248682570935725439:=t
def tw13343918040275786880:=t
def tw11153475782318119604:=t
def tw12528533614272120300:=t
def tw6594970650091316094:=t
def tw13385558918117058561:=t
def tw561727478393794602:=t
def tw2983127059725616120:=t
def tw13205091638197436094:=t
def tw10368827614151553891:=t
def tw9004299641416957276:=t
def tw8412748745612879247:=t
def tw14334995849660946996:=t
def tw9872438946963307937:=t
def tw18183970276198133131:=t
def tw8498532028676091811:=t
def tw10741264400317747893:=t
def tw18293242582946804979:=t
def tw10988312798546598065:=t
def tw8413399678365625193:=t
def tw12461081396071149458:=t
def tw4693966885379303072:=t
def tw8210202977690762169:=t
def tw3208522521903949160:=t
def tw7985883749528016586:=t
def tw5812350808301622050:=t
def tw14540961386073393648:=t
def tw13539809779269347639:=t
def tw9162645422354645296:=t
def tw18400553757987027518:=t
def tw16506471722634982818:=t
def tw13601115934706021691:=t
def tw11151835277377553703:=t
def tw8757050672659960515:=t
def tw11024694936033576346:=t
def tw10470340158578859262:=t
def tw4102176305081739490:=t
def tw2597523674469684444:=t
def tw10550934584343373414:=t
def tw4449799235075362730:=t
def tw7764699552788554220:=t
def tw7926090574327391632:=t
def tw2527701527901579348:=t
def tw12876709506271813870:=t
def tw8428246938381088814:=t
def tw10282777137419654623:=t
def tw15805137534098808535:=t
def tw8431482922422412695:=t
def tw7353485770183898095:=t
def tw7509565986652818475:=t
def tw9818998656811842119:=t
def tw7900394595670775223:=t
def tw7484994123860896570:=t
def tw11180800956215176064:=t
def tw4772062507164038959:=t
def tw17577329170770402720:=t
def tw4470585836733325578:=t
def tw6880980288501444468:=t
def tw17713387462200973399:=t
def tw13851515409511356469:=t
def tw7607420049574824106:=t
def tw5920806927976990809:=t
def tw11009225556382593827:=t
def tw11272164335830466941:=t
def tw2875624504187281209:=t
def tw10149570385669482864:=t
def tw16746677531222629524:=t
def tw2956708394376553000:=t
def tw15699961213505342161:=t
def tw9719393640593047967:=t
def tw12041797014711123256:=t
def tw18127189064453720709:=t
def tw3971525946579005399:=t
def tw726351398001015727:=t
def tw1045582712504079209:=t
def tw6194202620331982285:=t
def tw5233118043267047457:=t
def tw5205737364524765896:=t
def tw9678289623588505577:=t
def tw16765560720781731146:=t
def tw11373181179767321252:=t
def tw17890440400047909864:=t
def tw2997492091776894028:=t
def tw14801369171006070438:=t
def tw6094820017090691545:=t
def tw12477129341811645039:=t
def tw9553971096990549364:=t
def tw16103829930404553856:=t
def tw12091442091272426231:=t
def tw2216542800690825051:=t
def tw578191462805490351:=t
def tw10624116801336726872:=t
def tw16086907953836968628:=t
def tw11717715558655726156:=t
def tw7403982271040965895:=t
def tw12064304430848566033:=t
def tw14556482736207283325:=t
def tw761803264340522177:=t
def tw14321067358777074657:=t
def tw14904287247971174143:=t
def tw727924238349540522:=t
def tw5459702643516471331:=t
def tw2483321941437592071:=t
def tw376983999666122830:=t
def tw2333105410213810865:=t
def tw13257414776242894994:=t
def tw12524954882073270795:=t
def tw15171223727094530161:=t
def tw17871049288011112270:=t
def tw10095894221667365369:=t
def tw6942634455013318504:=t
def tw10886659093417053267:=t
def tw3997487885647526937:=t
def tw1181674027530198351:=t
def tw13037224057902187189:=t
def tw18220031379085947620:=t
def tw10956520680868813917:=t
def tw14958820412457663293:=t
def tw8191318114535113306:=t
def tw14081431093454284249:=t
def tw8151759404152838978:=t
def tw7372170664606466022:=t
def tw9388066449989048879:=t
def tw17508347553164502932:=t
def tw14617222483516278133:=t
def tw15895094517606616290:=t
def tw15060872555676474952:=t
def tw8185220541750880888:=t
def tw5376530373609499990:=t
def tw15685335758407661847:=t
def tw13669536469129627823:=t
def tw261171577418715137:=t
def tw15771247859494662083:=t
def tw17163426234232328066:=t
def tw2041926188850086339:=t
def tw12750670339961964742:=t
def tw5805800948307579973:=t
def tw6701911527682315725:=t
def tw15227483606004533461:=t
def tw14284835775768690865:=t
def tw5874822333441161849:=t
def tw3676754643040562684:=t
def tw16212330677787901120:=t
def tw12715800853834201459:=t
def tw9619071485814978506:=t
def tw5037459499596335280:=t
def tw8622715204490130888:=t
def tw13937768818610491111:=t
def tw7181997581385953548:=t
def tw6702445572142316249:=t
def tw5171440476677080432:=t
def tw13468011388731342839:=t
def tw13631397514672939371:=t
def tw16422413458241162112:=t
def tw10851082721055443051:=t
def tw3945831679567021610:=t
def tw16822532161544500889:=t
def tw1866716027138748530:=t
def tw3099597729799864441:=t
def tw1158361714356455011:=t
def tw1442379640649564109:=t
def tw18048741565030583774:=t
def tw14592624751514493413:=t
def tw5816495043963226922:=t
def tw15577281813014381367:=t
def tw6125853113672642322:=t
def tw18003772858949239459:=t
def tw7374399212775623666:=t
def tw15401437161963490237:=t
def tw4483904966330829159:=t
def tw11513857634932158529:=t
def tw16766484511958638138:=t
def tw4046790133079468173:=t
def tw7212858340449540239:=t
def tw1401067106901849026:=t
def tw15235614512728720:=t
def tw6751970477201280107:=t
def tw17558320327384617127:=t
def tw10539347186207431242:=t
def tw8535803893964050539:=t
def tw1937721966566455358:=t
def tw17339309145561079191:=t
def tw10406584006884427733:=t
def tw11481637867367846703:=t
def tw17518593693041627797:=t
def tw13164499291161521807:=t
def tw247591363613054380:=t
def tw6030501089693204938:=t
def tw17267597263503486738:=t
def tw14577027041581768965:=t
def tw14932756227218503593:=t
def tw17916429707943930468:=t
def tw5634867526602368427:=t
def tw17397653436517662659:=t
def tw172746767574481773:=t
def tw9646623106273453227:=t
def tw9630203353718772412:=t
def tw6128106870883400570:=t
def tw8044325682031459534:=t
def tw8432719020341155521:=t
def tw7921390202802761869:=t
def tw12147665669636231765:=t
def tw3713540243193553862:=t
def tw11853640710764476214:=t
def tw14553807712399142462:=t
def tw4026147355466621588:=t
def tw17271881437230615512:=t
def tw4773484457636388862:=t
def tw6044648929357246223:=t
def tw13557862171009465336:=t
def tw14520296925931582552:=t
def tw7164969610272591079:=t
def tw11692469974320434101:=t
def tw3374319085511977134:=t
def tw8318101203651539667:=t
def tw11512705759438076691:=t
def tw2641800013201688601:=t
def tw15418674001244492974:=t
def tw4091352561680426876:=t
def tw1599053048872161195:=t
def tw8916268530333523031:=t
def tw17261404542052806724:=t
def tw1683588176727124409:=t
def tw1630143524128594353:=t
def tw4309217394794523951:=t
def tw13861969467909019144:=t
def tw2228412568605170491:=t
def tw12330612334027959195:=t
def tw7220529860990300233:=t
def tw16116027297012810434:=t
def tw16802631365582062104:=t
def tw11408881796089955267:=t
def tw14710976976299594304:=t
def tw757356599333046425:=t
def tw3671519592330383864:=t
def tw6338894885288841830:=t
def tw2087409540819079288:=t
def tw1467881925912835984:=t
def tw10953238642706405951:=t
def tw7046044490832178742:=t
def tw10186303709888756887:=t
def tw599730875272715187:=t
def tw3520257249291928256:=t
def tw12298192366917762067:=t
def tw16140922888777852060:=t
def tw16101134707931498060:=t
def tw1342123614928995077:=t
def tw7943549864190904611:=t
def tw14847308668706973960:=t
def tw2546767868308347339:=t
def tw17312402878845073609:=t
def tw13484562703626004877:=t
def tw547895379624588593:=t
def tw14727194681476072466:=t
def tw8356303796347215682:=t
def tw18310463660012746435:=t
def tw4859391219904099992:=t
def tw16583815154217966991:=t
def tw18441984877410159329:=t
def tw9947508896943372755:=t
def tw1062514266329012355:=t
def tw9003107776662980439:=t
def tw17614877247268290040:=t
def tw8278001386518606062:=t
def tw5395340147747708899:=t
def tw5522115075389312692:=t
def tw16902085369446701243:=t
def tw15166322114958858414:=t
def tw6128145076113358165:=t
def tw8297923619242306668:=t
def tw11205608169257636508:=t
def tw360634875079729221:=t
def tw1891733041441978011:=t
def tw6631347999910079877:=t
def tw14569604634059749682:=t
def tw13831308528885131752:=t
def tw2213964242967304950:=t
def tw7942791058656714990:=t
def tw13931877327420345601:=t
def tw10228342955482612591:=t
def tw17852080271459398996:=t
def tw16773468814595293053:=t
def tw2990168724187919761:=t
def tw17986951261819808105:=t
def tw5694767641087392711:=t
def tw16309811473084048462:=t
def tw12058884036946728934:=t
def tw14261769069557060686:=t
def tw7478123994339007903:=t
def tw5341297951324810720:=t
def tw4860023922305330110:=t
def tw10576836333797772347:=t
def tw11525993766095887173:=t
def tw8565224436197482051:=t
def tw9676783613728631035:=t
def tw12396662096508845406:=t
def tw4490611911172417597:=t
def tw8915285831880473931:=t
def tw3303267245142563540:=t
def tw16721508838639397229:=t
def tw16217903435359918192:=t
def tw14811107726043686439:=t
def tw5000232492035539693:=t
def tw3238445694619138142:=t
def tw15831126876759372255:=t
def tw1922157984580058403:=t
def tw11662115353561507501:=t
def tw3233987462203235646:=t
def tw16607193741793207195:=t
def tw5953359166732830163:=t
def tw4600438763894957952:=t
def tw7485256538410118956:=t
def tw12901003280762261817:=t
def tw9285211346045004284:=t
def tw16654469307462801742:=t
def tw14819390147424179368:=t
def tw9223045988441327695:=t
def tw577049184839899653:=t
def tw11095110211248682772:=t
def tw5515903443438498500:=t
def tw7882045510503734624:=t
def tw1484650774730072618:=t
def tw17963105932079019327:=t
def tw8222940686941784037:=t
def tw2741014181512449073:=t
def tw9317495090193701157:=t
def tw8115137120850386438:=t
def tw17382457898008728272:=t
def tw11153126096140912846:=t
def tw14935156969734317764:=t
def tw6575520176995025181:=t
def tw2392593158011319353:=t
def tw5449563278759341024:=t
def tw14479964200598819128:=t
def tw17659185236578331656:=t
def tw3846801734645722302:=t
def tw12076989928817844590:=t
def tw6284410105664486691:=t
def tw10085292869130188298:=t
def tw7792700002687035005:=t
def tw18383651708701053236:=t
def tw6278996535519779258:=t
def tw11107512795663914464:=t
def tw14715273107921467267:=t
def tw1956775160557780875:=t
def tw16728255500844073214:=t
def tw13394580363473044415:=t
def tw9757595895972200118:=t
def tw2466311954974566718:=t
def tw2399617604181995578:=t
def tw2925816871977632210:=t
def tw5662061979359257339:=t
def tw6607644564249050058:=t
def tw3778530596728393105:=t
def tw14196522196718054806:=t
def tw3581434408401558974:=t
def tw17877845533520812795:=t
def tw17360015989920007124:=t
def tw8924819469995637033:=t
def tw4884199854448574:=t
def tw3075201292733833056:=t
def tw15142666989864626641:=t
def tw424408320835691240:=t
def tw16035376269474964883:=t
def tw13032259773685033708:=t
def tw8185545411690514434:=t
def tw12717557048674177747:=t
def tw8833496514701923757:=t
def tw5137589814051832496:=t
def tw11219443903484984970:=t
def tw15326580083554890809:=t
def tw12315944733273679750:=t
def tw4858918184162951299:=t
def tw17184031218471190783:=t
def tw6557801498797044033:=t
def tw1941844328875101383:=t
def tw2813801546833155447:=t
def tw1835071406663858368:=t
def tw1378205811072252300:=t
def tw8752102160057688731:=t
def tw17678831435119133177:=t
def tw5610444585433571239:=t
def tw11402884983299125971:=t
def tw10297410513487048360:=t
def tw17937168697417666835:=t
def tw7001957589650049515:=t
def tw11859619671507778021:=t
def tw10538165733446703262:=t
def tw11033627544408312984:=t
def tw11434409910335936926:=t
def tw1293241653719404408:=t
def tw3953844824629472508:=t
def tw12003660372656728261:=t
def tw14849461344987154502:=t
def tw10341888390210383824:=t
def tw10295913840692754127:=t
def tw14811890972901180937:=t
def tw15590096980072825465:=t
def tw4766597723019941021:=t
def tw9530734954097333506:=t
def tw5221592684559293012:=t
def tw1607123104830579860:=t
def tw6945566481307383155:=t
def tw4189273013823423559:=t
def tw18073898193381586223:=t
def tw12441744018607269044:=t
def tw7151132215420815488:=t
def tw9869809959619462935:=t
def tw5322009542560784348:=t
def tw1125065396945160393:=t
def tw17691633702590694504:=t
def tw12884060626414724322:=t
def tw11911167908941700269:=t
def tw885948055608056263:=t
def tw17346623794827051843:=t
def tw9215358943560890414:=t
def tw699815216081779126:=t
def tw4063829332388037331:=t
def tw9104974531708491489:=t
def tw1887573119177674980:=t
def tw15214748959534726111:=t
def tw7538781388859322016:=t
def tw14647417624928369756:=t
def tw4903002758410956813:=t
def tw13571862603940711859:=t
def tw13439652990877377571:=t
def tw12132732476715806282:=t
def tw8319933024895762948:=t
def tw1932759071263863916:=t
def tw18124618509676941091:=t
def tw13069393092227542028:=t
def tw11368310244458860372:=t
def tw10236332898609347644:=t
def tw17823556299335049440:=t
def tw4607425872040536859:=t
def tw3456351732281881909:=t
def tw7053471978191194526:=t
def tw7873786274422454737:=t
def tw987426779421491659:=t
def tw15733337929971156237:=t
def tw9959121941294770655:=t
def tw5285915839522022235:=t
def tw14294133066467233204:=t
def tw7091221385724896812:=t
def tw6084841979344569690:=t
def tw11063759124802658401:=t
def tw13705283562680751584:=t
def tw8212203176049278890:=t
def tw11212356425047092601:=t
def tw8981176238543900561:=t
def tw16864618592142003386:=t
def tw15870398105094248349:=t
def tw12250869413391326473:=t
def tw3335794202401238526:=t
def tw2810200551564342888:=t
def tw6329614223026926184:=t
def tw4267111383703672358:=t
def tw1848955828906020544:=t
def tw10395332584310045583:=t
def tw14332157829676619468:=t
def tw2983494736656345032:=t
def tw1405720946626083897:=t
def tw11449968299874610285:=t
end PySem.W.Fast
section
open PySem PySem.W PyProof.Rows
set_option maxHeartbeats 0 in
open_top hd for PySem.Challenge.rw_cagebells_k34_whole_first_refusal
end
set_option Elab.async false
set_option linter.all false
set_option maxRecDepth 100000
namespace L2
open PySem PySem.Spec PyProof.Rows
abbrev Key:=Sum Int Str
def J0:Key->Value->Bool
 | .inl k,v=>Value.isInt k v
 | .inr x,v=>Value.isStrOf x v
def Ny (w:World):Key->Int
 | .inl k=>hashInt k
 | .inr x=>hashStr w x
theorem df:∀{k:Key} {v:Value},J0 k v=true->(∃i t,k=Sum.inl i/\v=Value.int i t)\/(∃x t,k=Sum.inr x/\v=Value.str x t)
 | .inl i,v,h=>by
  obtain ⟨t,e⟩:=Value.isInt_shape (k:=i) (v:=v) h
  exact .inl ⟨i,t,rfl,e⟩
 | .inr x,v,h=>by
  obtain ⟨t,e⟩:=Value.isStrOf_shape (x:=x) (v:=v) h
  exact .inr ⟨x,t,rfl,e⟩
theorem KQ (a b:Int):decide ((Sum.inl a:Key)=Sum.inl b)=(a == b):=by
 by_cases e:a=b
 ·subst e;simp
 ·have h:¬(Sum.inl a:Key)=Sum.inl b:=fun q=>e (Sum.inl.inj q)
  rw [decide_eq_false h]
  exact (beq_eq_false_iff_ne.mpr e).symm
theorem KR (a b:Str):decide ((Sum.inr a:Key)=Sum.inr b)=decide (a=b):=by
 by_cases e:a=b
 ·subst e;simp
 ·have h:¬(Sum.inr a:Key)=Sum.inr b:=fun q=>e (Sum.inr.inj q)
  rw [decide_eq_false h,decide_eq_false e]
theorem KS (a:Int)(b:Str):decide ((Sum.inl a:Key)=Sum.inr b)=false:=decide_eq_false (fun q=>nomatch q)
theorem KU (a:Str)(b:Int):decide ((Sum.inr a:Key)=Sum.inl b)=false:=decide_eq_false (fun q=>nomatch q)
def yX (prog:Program)(w:World):PySem.KeyKind prog w Key where
 is:=J0
 hash:=Ny w
 inj:=fun v a b ha hb=>by
  rcases df ha with ⟨i,t,rfl,rfl⟩ | ⟨x,t,rfl,rfl⟩
  ·rcases df hb with ⟨j,u,rfl,e⟩ | ⟨y,u,rfl,e⟩
   ·injection e with e1 _;rw [e1]
   ·exact nomatch e
  ·rcases df hb with ⟨j,u,rfl,e⟩ | ⟨y,u,rfl,e⟩
   ·exact nomatch e
   ·injection e with e1 _;rw [e1]
 byValue:=fun k v h=>by
  rcases df h with ⟨i,t,rfl,rfl⟩ | ⟨x,t,rfl,rfl⟩<;>rfl
 pyHash:=fun hv h=>by
  rcases df hv with ⟨i,t,rfl,rfl⟩ | ⟨x,t,rfl,rfl⟩
  ·exact wpAny_pyHash_int h
  ·exact wpAny_pyHash_str h
 eqBool:=fun hu hv h=>by
  rcases df hu with ⟨i,t,rfl,rfl⟩ | ⟨x,t,rfl,rfl⟩
  ·rcases df hv with ⟨j,u,rfl,rfl⟩ | ⟨y,u,rfl,rfl⟩
   ·rw [KQ] at h;exact wpAny_eqBool_int h
   ·rw [KS] at h;exact SeqAt.EqAt.int_str i t y u _ _ _ _ h
  ·rcases df hv with ⟨j,u,rfl,rfl⟩ | ⟨y,u,rfl,rfl⟩
   ·rw [KU] at h;exact SeqAt.EqAt.str_int x t j u _ _ _ _ h
   ·rw [KR] at h;exact wpAny_eqBool_str h
 «strs»:=fun k x t v h=>by
  rcases df h with ⟨i,u,rfl,e⟩ | ⟨y,u,rfl,e⟩
  ·exact nomatch e
  ·injection e with e1 _
   subst e1
   cases v<;>rfl
inductive V where
 | non | bl (b:Bool) | int (i:Int) | str (x:Str) | byt (b:Array UInt8) | flt (b:UInt64) | ref (a:Addr) | ty (n:String)
 deriving DecidableEq
def bK:V->Value->Prop
 | .non,u=>u=Value.none
 | .bl b,u=>u=Value.bool b
 | .int i,u=>∃t,u=Value.int i t
 | .str x,u=>∃t,u=Value.str x t
 | .byt b,u=>∃t,u=Value.bytes b t
 | .flt b,u=>∃t,u=Value.float b t
 | .ref a,u=>u=Value.ref a
 | .ty n,u=>u=Value.type n
abbrev br:List V->List Value->Prop:=Paired bK
theorem br.length {xs:List V}{us:List Value}(r:br xs us):xs.length=us.length:=Paired.length r
theorem br.get:∀{xs:List V} {us:List Value} {i:Nat} {x:V},br xs us->xs[i]?=some x->∃u,us[i]?=some u/\bK x u
 | _,_,_,_,.nil,e=>by simp at e
 | _,_,0,_,.cons r _,e=>by simp at e;subst e;exact ⟨_,rfl,r⟩
 | _,_,i+1,x,.cons _ t,e=>by
  obtain ⟨u,h1,h2⟩:=br.get (i:=i) (x:=x) t (by simpa using e)
  exact ⟨u,by simpa using h1,h2⟩
theorem br.set {x:V}{u:Value}(r:bK x u):∀{xs:List V} {us:List Value} (i:Nat),br xs us->br (xs.set i x) (us.set i u)
 | _,_,_,.nil=>.nil
 | _,_,0,.cons _ t=>.cons r t
 | _,_,i+1,.cons q t=>.cons q (br.set r i t)
theorem br.append:∀{xs ys:List V} {us ws:List Value},br xs us->br ys ws->br (xs++ys) (us++ws)
 | _,_,_,_,.nil,s=>s
 | _,_,_,_,.cons r t,s=>.cons r (br.append t s)
theorem br.take:∀{xs:List V} {us:List Value} (n:Nat),br xs us->br (xs.take n) (us.take n)
 | _,_,0,_=>.nil
 | _,_,_+1,.nil=>.nil
 | _,_,n+1,.cons r t=>.cons r (br.take n t)
theorem br.drop:∀{xs:List V} {us:List Value} (n:Nat),br xs us->br (xs.drop n) (us.drop n)
 | _,_,0,r=>r
 | _,_,_+1,.nil=>.nil
 | _,_,n+1,.cons _ t=>br.drop n t
def wM:Option V->Option Value->Prop
 | some v,some u=>bK v u
 | none,none=>True
 | _,_=>False
def KV {κ:Type}:List (κ×V)->List (κ×Value)->Prop:=Paired fun (p:κ×V) (q:κ×Value)=>p.1=q.1/\bK p.2 q.2
def kV:Key->V
 | .inl i=>.int i
 | .inr x=>.str x
inductive HO where
 | lst (xs:List V)
 | tup (xs:List V)
 | dK (kvs:List (Key×V)) | dT (kvs:List (List Key×V))
 | set (S:Int->Bool) (n:Nat)
 | ins (C dx:Addr) (fs:List (Str×V))
 | own (x:Addr)
 | xd (fs:List (Str×V))
 | met (f x:Addr)
 | rng (lo hi:Int)
 | frz (o:Obj) (u:HO)
 | tbl (ps:Array Value)
 | ext (φ:Heap->Prop)
abbrev Hp:=Addr->Option HO
def upd (H:Hp)(a:Addr)(o:HO):Hp:=fun b=>if b=a then some o else H b
theorem ag {H:Hp}{a:Addr}{o:HO}:upd H a o a=some o:=by unfold upd;rw [if_pos rfl]
theorem aJ {H:Hp}{a b:Addr}{o:HO}(h:b≠a):upd H a o b=H b:=by unfold upd;rw [if_neg h]
theorem HX {H:Hp}{a:Addr}{o u:HO}:upd (upd H a o) a u=upd H a u:=by
 funext b;unfold upd;split<;>rfl
theorem ak {H:Hp}{a b:Addr}{o:HO}(h:H a=some o)(h':H b=none):a≠b:=by
 intro e;subst e;rw [h] at h';cases h'
def iP (h:Heap)(a:Addr)(items:Array Value):Prop:=∃o,h.get? a=some o/\(o.cls=.type "tuple"/\∃n,o.data=.seq items n)/\o.dict=none
theorem iP.tup {h:Heap}{a:Addr}{items:Array Value}(x:iP h a items):IsTup h a items:=let ⟨o,e,c,_⟩:=x;⟨o,e,c⟩
theorem iP.lt {h:Heap}{a:Addr}{items:Array Value}(x:iP h a items):a < h.objs.size:=let ⟨_,e,_⟩:=x;Heap.lt_size e
theorem iP.new (h:Heap)(items:Array Value):iP (h.push {cls:=.type "tuple",data:=.seq items}) h.objs.size items:=⟨_,Heap.get?_push_size _ rfl,⟨rfl,_,rfl⟩,rfl⟩
section
variable (P:Program)(w:World)
def fK (H:Hp)(h:Heap)(a:Addr):HO->Prop
 | .lst xs=>xs.length<=sizeLine/\∃(its:List Value) (n:Nat),br xs its/\h.get? a=some {cls:=.type "list",data:=.seq its.toArray n}
 | .tup xs=>xs.length<=sizeLine/\∃its:List Value,br xs its/\iP h a its.toArray
 | .dK kvs=>kvs.length<=sizeLine/\(a == sysModules)=false/\∃vs,KV kvs vs/\h.DictOf (yX P w) a vs
 | .dT kvs=>kvs.length<=sizeLine/\(a == sysModules)=false/\∃xs:List (List Key×Addr×Value),
   Paired (fun (p:List Key×V) (q:List Key×Addr×Value)=>p.1=q.1/\H q.2.1=some (.tup (p.1.map kV))/\bK p.2 q.2.2) kvs xs/\
   ∃o es ep,h.get? a=some o/\o.ExactDict/\o.data=.dict es ep/\es.toList=xs.map (entryOfKey (tupleKind (yX P w)))/\(xs.map (·.1)).Nodup
 | .set S n=>h.SetOf (intKind P w) a S n
 | .ins C dx fs=>H dx=some (.own a)/\fs.length<=1000/\dx≠a/\h.get? a=some (W.instObj C dx)/\
   ∃mA,h.Ns1 dx mA/\(∀f,wM (fs.lookup f) (mA f))/\PySem.Within mA (fs.map (·.1))
 | .own _=>∃o,h.get? a=some o
 | .xd fs=>∃mA,h.Ns1 a mA/\∀f,wM (fs.lookup f) (mA f)
 | .rng lo hi=>∃t u v,h.get? a=some {cls:=.type "range",data:=.fields #[.int lo t,.int hi u,.int 1 v]}
 | .frz o u=>h.get? a=some o/\fK H h a u
 | .tbl ps=>h.get? a=some {cls:=.none,data:=.fields ps}
 | .met f x=>h.get? a=some (W.methodObj (.ref f) (.ref x))
 | .ext φ=>φ h/\(∃o,h.get? a=some o)/\∀h1 h2:Heap,φ h1->(∀o,h1.get? a=some o->h2.get? a=some o)->φ h2
def HOk (H:Hp)(h:Heap):Prop:=∀a o,H a=some o->fK P w H h a o
end
section
variable {P:Program}{w:World}{H H':Hp}{h h':Heap}{a:Addr}{o:HO}
theorem fK.lt (x:fK P w H h a o):a < h.objs.size:=by
 cases o with
 | lst xs=>obtain ⟨_,_,_,_,e⟩:=x;exact Heap.lt_size e
 | tup xs=>obtain ⟨_,_,_,p⟩:=x;exact p.lt
 | dK kvs=>obtain ⟨_,_,_,_,o,_,_,e,_⟩:=x;exact Heap.lt_size e
 | dT kvs=>obtain ⟨_,_,_,_,o,_,_,e,_⟩:=x;exact Heap.lt_size e
 | set S n=>obtain ⟨o,_,_,_,e,_⟩:=x;exact Heap.lt_size e
 | ins C dx fs=>obtain ⟨_,_,_,e,_⟩:=x;exact Heap.lt_size e
 | own y=>obtain ⟨_,e⟩:=x;exact Heap.lt_size e
 | xd fs=>obtain ⟨_,⟨_,_,_,e,_⟩,_⟩:=x;exact Heap.lt_size e
 | rng lo hi=>obtain ⟨_,_,_,e⟩:=x;exact Heap.lt_size e
 | frz ob u=>obtain ⟨e,_⟩:=x;exact Heap.lt_size e
 | tbl ps=>exact Heap.lt_size (show h.get? a=some _ from x)
 | met f y=>exact Heap.lt_size (show h.get? a=some _ from x)
 | ext φ=>obtain ⟨_,⟨_,e⟩,_⟩:=x;exact Heap.lt_size e
theorem Paired.mapP {α β:Type}{F G:α->β->Prop}:∀{l₁:List α} {l₂:List β},Paired F l₁ l₂->(∀a b,F a b->G a b)->Paired G l₁ l₂
 | _,_,.nil,_=>.nil
 | _,_,.cons r t,f=>.cons (f _ _ r) (Paired.mapP t f)
theorem fK.stay (x:fK P w H h a o)(k:∀b u,(b=a\/H b=some (.own a))->h.get? b=some u->h'.get? b=some u)
  (ho:∀b,H b=some (.own a)->H' b=some (.own a)) (ht:∀b xs,H b=some (.tup xs)->H' b=some (.tup xs)):fK P w H' h' a o:=by
 induction o with
 | lst xs=>obtain ⟨z,its,n,r,e⟩:=x;exact ⟨z,its,n,r,k _ _ (.inl rfl) e⟩
 | tup xs=>obtain ⟨z,its,r,ob,e,c⟩:=x;exact ⟨z,its,r,ob,k _ _ (.inl rfl) e,c⟩
 | dK kvs=>obtain ⟨z,y,vs,r,ob,es,ep,e,c⟩:=x;exact ⟨z,y,vs,r,ob,es,ep,k _ _ (.inl rfl) e,c⟩
 | dT kvs=>
  obtain ⟨z,y,xs,r,ob,es,ep,e,c⟩:=x
  exact ⟨z,y,xs,Paired.mapP r fun p q z=>⟨z.1,ht _ _ z.2.1,z.2.2⟩,ob,es,ep,k _ _ (.inl rfl) e,c⟩
 | set S n=>obtain ⟨ob,es,ep,t,e,c⟩:=x;exact ⟨ob,es,ep,t,k _ _ (.inl rfl) e,c⟩
 | ins C dx fs=>
  obtain ⟨d,z,ne,e,mA,⟨od,es,ep,e2,c⟩,r⟩:=x
  exact ⟨ho _ d,z,ne,k _ _ (.inl rfl) e,mA,⟨od,es,ep,k _ _ (.inr d) e2,c⟩,r⟩
 | own y=>obtain ⟨ob,e⟩:=x;exact ⟨ob,k _ _ (.inl rfl) e⟩
 | xd fs=>obtain ⟨mA,⟨od,es,ep,e,c⟩,r⟩:=x;exact ⟨mA,⟨od,es,ep,k _ _ (.inl rfl) e,c⟩,r⟩
 | rng lo hi=>obtain ⟨t,u,v,e⟩:=x;exact ⟨t,u,v,k _ _ (.inl rfl) e⟩
 | frz ob u ih=>obtain ⟨e,q⟩:=x;exact ⟨k _ _ (.inl rfl) e,ih q⟩
 | tbl ps=>
  have e:h.get? a=some {cls:=.none,data:=.fields ps}:=x
  show h'.get? a=some {cls:=.none,data:=.fields ps}
  exact k a _ (.inl rfl) e
 | met f y=>
  have e:h.get? a=some (W.methodObj (.ref f) (.ref y)):=x
  show h'.get? a=some (W.methodObj (.ref f) (.ref y))
  exact k a _ (.inl rfl) e
 | ext φ=>obtain ⟨p,⟨o,e⟩,st⟩:=x;exact ⟨st _ _ p fun o q=>k _ _ (.inl rfl) q,⟨o,k _ _ (.inl rfl) e⟩,st⟩
theorem HOk.lt (x:HOk P w H h)(e:H a=some o):a < h.objs.size:=(x a o e).lt
theorem HOk.fresh (x:HOk P w H h)(e:h.objs.size<=a):H a=none:=by
 cases q:H a with
 | none=>rfl
 | some u=>exact absurd (Nat.lt_of_lt_of_le (x.lt q) e) (Nat.lt_irrefl _)
theorem HOk.kept (x:HOk P w H h)(k:∀b u,h.get? b=some u->h'.get? b=some u):HOk P w H h':=fun a o e=>
 (x a o e).stay (fun b u _ q=>k b u q) (fun _ q=>q) fun _ _ q=>q
theorem HOk.laid (x:HOk P w H h)(k:∀b u,h.get? b=some u->h'.get? b=some u)(hp:h.objs.size<=a)(new:fK P w (upd H a o) h' a o):HOk P w (upd H a o) h':=fun b u e=>by
 have hn:=x.fresh hp
 by_cases hb:b=a
 ·subst hb;rw [ag] at e;cases e;exact new
 ·rw [aJ hb] at e
  exact (x b u e).stay (fun c v _ q=>k c v q) (fun c q=>by rw [aJ (ak q hn)];exact q) fun c xs q=>by rw [aJ (ak q hn)];exact q
end
def Rd (H:Hp)(a:Addr)(u:HO):Prop:=H a=some u\/∃o,H a=some (.frz o u)
theorem Rd.ok {P:Program}{w:World}{H:Hp}{h:Heap}{a:Addr}{u:HO}(r:Rd H a u)(x:HOk P w H h):fK P w H h a u:=by
 rcases r with r | ⟨o,r⟩
 ·exact x a u r
 ·obtain ⟨_,q⟩:=x a _ r
  exact q
def Mut:Option HO->Prop
 | some (.lst _)=>True
 | some (.dK _)=>True
 | some (.dT _)=>True
 | some (.set _ _)=>True
 | some (.ins _ _ _)=>True
 | some (.ext _)=>True
 | _=>False
section
variable {P:Program}{w:World}{H:Hp}{h h':Heap}{x e:Addr}{o':HO}
theorem HOk.write (ok:HOk P w H h)(mu:Mut (H x))(he:e=x\/H e=some (.own x))(k:∀b u,b≠e->h.get? b=some u->h'.get? b=some u)(heo:∃u,h'.get? e=some u)
  (new:fK P w (upd H x o') h' x o'):HOk P w (upd H x o') h':=fun b u q=>by
 have nown:∀c y,H c=some (.own y)->c≠x:=fun c y r z=>by subst z;rw [r] at mu;exact mu
 have ntup:∀c xs,H c=some (.tup xs)->c≠x:=fun c xs r z=>by subst z;rw [r] at mu;exact mu
 by_cases hb:b=x
 ·subst hb;rw [ag] at q;cases q;exact new
 ·rw [aJ hb] at q
  by_cases hbe:b=e
  ·have q':H b=some (.own x):=by
    rcases he with z | z
    ·exact absurd (hbe.trans z) hb
    ·rw [hbe];exact z
   rw [q] at q';cases q'
   obtain ⟨v,hv⟩:=heo
   exact ⟨v,by rw [hbe];exact hv⟩
  ·refine (ok b u q).stay (fun c v hc r=>k c v ?_ r) (fun c r=>by rw [aJ (nown c b r)];exact r) fun c xs r=>by rw [aJ (ntup c xs r)];exact r
   rcases hc with rfl | hc
   ·exact hbe
   ·rintro rfl
    rcases he with z | z
    ·exact nown c b hc z
    ·rw [hc] at z;cases z;exact hb rfl
end
structure Un (fs ex:List Addr)(H H':Hp)(h h':Heap):Prop where
 keep:∀b o,h.get? b=some o->H b=none->b∉fs->b∉ex->h'.get? b=some o
 slot:∀b o,h.get? b=some o->H b=none->b∈fs->b∉ex->∃sl,h'.get? b=some {o with slots:=sl}
 free:∀b o,h.get? b=some o->H b=none->b∉ex->H' b=none
 there:∀b o,h.get? b=some o->b∉ex->∃o',h'.get? b=some o'
 tups:∀b xs,H b=some (.tup xs)->H' b=some (.tup xs)
 frzs:∀b o u,H b=some (.frz o u)->H' b=some (.frz o u)
 tbls:∀b ps,H b=some (.tbl ps)->∃more,H' b=some (.tbl (ps++more))
section
variable {fs fs' ex ex':List Addr}{H H1 H2:Hp}{h h1 h2 h':Heap}{a x e:Addr}{o:HO}
theorem Un.any (u:Un fs ex H H1 h h1){b:Addr}{ob:Obj}(q:h.get? b=some ob)(n:H b=none)(hx:b∉ex):∃sl,h1.get? b=some {ob with slots:=sl}:=by
 by_cases hb:b∈fs
 ·exact u.slot b ob q n hb hx
 ·exact ⟨ob.slots,u.keep b ob q n hb hx⟩
theorem Un.kept (k:∀b u,h.get? b=some u->h'.get? b=some u):Un fs ex H H h h':=
 ⟨fun b ob q _ _ _=>k b ob q,fun b ob q _ _ _=>⟨ob.slots,k b ob q⟩,fun _ _ _ n _=>n,fun b ob q _=>⟨ob,k b ob q⟩,fun _ _ q=>q,fun _ _ _ q=>q,fun _ ps q=>⟨#[],by rw [q];simp⟩⟩
theorem Un.refl:Un fs ex H H h h:=Un.kept fun _ _ q=>q
theorem Un.laid (k:∀b u,h.get? b=some u->h'.get? b=some u)(hp:h.objs.size<=a)(hn:H a=none):Un fs ex H (upd H a o) h h' where
 keep:=fun b u q _ _ _=>k b u q
 slot:=fun b u q _ _ _=>⟨u.slots,k b u q⟩
 free:=fun b u q n _=>by rw [aJ (Nat.ne_of_lt (Nat.lt_of_lt_of_le (Heap.lt_size q) hp))];exact n
 there:=fun b u q _=>⟨u,k b u q⟩
 tups:=fun b xs q=>by rw [aJ (ak q hn)];exact q
 frzs:=fun b u xs q=>by rw [aJ (ak q hn)];exact q
 tbls:=fun b ps q=>⟨#[],by rw [aJ (ak q hn),q];simp⟩
theorem Un.write (mu:Mut (H x))(he:e=x\/H e=some (.own x))(k:∀b u,b≠e->h.get? b=some u->h'.get? b=some u)(heo:∃u,h'.get? e=some u):Un fs ex H (upd H x o) h h':=by
 have hx:∀b,H b=none->b≠x:=fun b n z=>by subst z;rw [n] at mu;exact mu
 have hb:∀b,H b=none->b≠e:=fun b n z=>by
  subst z
  rcases he with r | r
  ·exact hx b n r
  ·rw [n] at r;cases r
 have hm:∀b u,H b=some u->¬Mut (some u)->b≠x:=fun b u q nm z=>by subst z;rw [q] at mu;exact nm mu
 refine ⟨fun b u q n _ _=>k b u (hb b n) q,fun b u q n _ _=>⟨u.slots,k b u (hb b n) q⟩,fun b u q n _=>by rw [aJ (hx b n)];exact n,fun b u q _=>?_,
  fun b xs q=>by rw [aJ (hm b _ q fun z=>z)];exact q,fun b u xs q=>by rw [aJ (hm b _ q fun z=>z)];exact q,fun b ps q=>⟨#[],by rw [aJ (hm b _ q fun z=>z),q];simp⟩⟩
 by_cases hbe:b=e
 ·subst hbe;exact heo
 ·exact ⟨u,k b u hbe q⟩
end
def trk (h:Heap)(H:Hp):List Addr:=(List.range h.objs.size).filter fun a=>(H a).isSome
def yY (h:Heap)(H:Hp):Heap:=W.hideAll h (trk h H)
theorem Ez (h:Heap)(H:Hp):(yY h H).objs.size=h.objs.size:=W.hideAll_size _ _
theorem FA {h:Heap}{H:Hp}{b:Addr}{o:Obj}(e:h.get? b=some o)(n:H b=none):(yY h H).get? b=some o:=
 W.hideAll_get _ e fun hm=>by
  have q:(H b).isSome=true:=(List.mem_filter.mp hm).2
  rw [n] at q;simp at q
theorem HY {h:Heap}{H:Hp}{b:Addr}{o:Obj}(e:(yY h H).get? b=some o):h.get? b=some o/\H b=none:=by
 have e':h.get? b=some o:=W.of_hideAll (trk h H) e
 refine ⟨e',?_⟩
 cases q:H b with
 | none=>rfl
 | some x=>
  have hm:b∈trk h H:=List.mem_filter.mpr ⟨List.mem_range.mpr (Heap.lt_size e'),by simp [q]⟩
  have z:(yY h H).get? b=none:=W.hideAll_none (trk h H) hm
  rw [z] at e;cases e
def HZ (g h:Heap)(L:Addr):List (Addr×Obj):=(List.range h.objs.size).filterMap fun a=>if a=L\/(g.get? a).isSome=true then none else (h.get? a).map fun o=>(a,o)
def rR (g h:Heap)(L d:Addr):List (Addr×Obj):=(HZ g h L).filter fun p=>decide (p.1≠d)
structure Mod (K:WA)(mg:Str->Option Value)(base:Heap):Prop where
 kin:K.In base
 glob:base.Ns mainGlobals mg
 blt:∃mb,base.Ns builtinsNs mb/\∀x:Str,x≠"__name__"->mb x=bootBuiltins x
 nolimit:base.NoLimit
structure Cx where
 prog:Program
 w:World
 K:WA
 mg:Str->Option Value
 base:Heap
 A:Around
 N:List Str
 s₀:Shared
 H₀:Hp
 env:Env
 outer:List Env
 stack:List Env
 ex:List Addr
 fn:Str->Bool
 calm:Bool
 pn:List (Addr×Obj)
 xe:Value->Shared->Prop
def frs (l:List Env):List Addr:=l.filterMap (·.frame)
abbrev Cx.fs (X:Cx):List Addr:=frs X.outer
def Vis (sc:Scope)(x:Str):Prop:=sc.names.lookup x=some .local\/sc.names.lookup x=some .cell\/sc.names.lookup x=some .free
def Loc (sc:Scope)(x:Str):Prop:=sc.names.lookup x=some .local\/sc.names.lookup x=some .cell
def Nz (env:Env)(h:Heap)(m:Str->Option Value)(x:Str)(u:Value):Prop:=
 (env.kindOf x=some .local/\m x=some u)\/((env.kindOf x=some .cell\/env.kindOf x=some .free)/\∃c,env.cells.lookup x=some c/\h.IsCell c (some u))
structure Cx.Ok (X:Cx):Prop where
 mod:Mod X.K X.mg X.base
 kind:X.env.scope.kind=.function
 glob:X.env.globals=mainGlobals
 blt:X.env.builtins=builtinsNs
 above:X.s₀.heap.objs.size<=X.env.locals
 inj:∀x y c,X.env.cells.lookup x=some c->X.env.cells.lookup y=some c->x=y
 has:∀x,(X.env.kindOf x=some .cell\/X.env.kindOf x=some .free)->∃c,X.env.cells.lookup x=some c
 cab:∀x c,X.fn x=true->X.env.cells.lookup x=some c->X.s₀.heap.objs.size<=c
 hd:X.calm=true->X.A.handled=none
 frames:X.A.frames=some X.stack
 stk:X.stack=X.outer\/(X.stack=X.env::X.outer/\X.env.frame=some X.env.locals)
 exf:∀b∈X.ex,b≠X.env.locals/\∀x c,X.env.cells.lookup x=some c->c≠b
 bs:∀b o,X.base.get? b=some o->X.s₀.heap.get? b=some o/\X.H₀ b=none
 bsz:X.base.objs.size<=X.s₀.heap.objs.size
 noex:∀b o,X.base.get? b=some o->b∉X.ex
 exfs:∀b∈X.ex,b∉X.fs
 funs:X.s₀.heap.FunFrames X.base X.outer
 frf:∀b∈X.fs,X.H₀ b=none
structure Inv (X:Cx)(pins:List (Addr×Obj))(σ:List (Option V))(H:Hp)(s:Shared):Prop where
 ok:X.Ok
 os:s.os=X.s₀.os
 bare:AllBare s.gens
 base:Un X.fs X.ex X.H₀ H X.s₀.heap s.heap
 loc:∃m,s.heap.Ns X.env.locals m/\∀(i:Nat) (x:Str) (v:V),X.N[i]?=some x->σ[i]?=some (some v)->Vis X.env.scope x->∃u,bK v u/\Nz X.env s.heap m x u
 cell:∀x c,X.env.cells.lookup x=some c->∃v,s.heap.IsCell c v
 free:H X.env.locals=none
 freeC:∀x c,X.env.cells.lookup x=some c->H c=none
 pin:∀p∈X.pn++pins,s.heap.get? p.1=some p.2/\H p.1=none/\p.1≠X.env.locals/\p.1∉X.fs/\∀v,p.2.data≠.cell v
 hok:HOk X.prog X.w H s.heap
 len:σ.length=X.N.length
section
variable {X:Cx}{pins:List (Addr×Obj)}{σ:List (Option V)}{H H':Hp}{s:Shared}{h':Heap}
theorem Cx.Ok.nofr (ok:X.Ok){b:Addr}{o:Obj}(e:X.base.get? b=some o):b∉X.fs:=fun hb=>by
 have:=(ok.funs.mem hb).1
 rw [e] at this;cases this
theorem Inv.bs (I:Inv X pins σ H s):∀b o,X.base.get? b=some o->s.heap.get? b=some o/\H b=none:=fun b o e=>
 ⟨I.base.keep b o (I.ok.bs b o e).1 (I.ok.bs b o e).2 (I.ok.nofr e) (I.ok.noex b o e),I.base.free b o (I.ok.bs b o e).1 (I.ok.bs b o e).2 (I.ok.noex b o e)⟩
theorem Inv.bk (I:Inv X pins σ H s):∀b o,X.base.get? b=some o->s.heap.get? b=some o:=fun b o e=>(I.bs b o e).1
theorem Inv.mod (I:Inv X pins σ H s):Mod X.K X.mg X.base:=I.ok.mod
theorem Inv.kIn (I:Inv X pins σ H s):X.K.In s.heap:=I.ok.mod.kin.keeps I.bk
theorem Inv.fr (I:Inv X pins σ H s):∃m,Fr X.base X.env.locals s.heap m:=
 let ⟨m,hn,_⟩:=I.loc
 ⟨m,hn,I.bk,Nat.le_trans I.ok.bsz I.ok.above⟩
theorem Inv.lt (I:Inv X pins σ H s):X.env.locals < s.heap.objs.size:=let ⟨_,hn,_⟩:=I.loc;hn.lt
theorem Inv.sz (I:Inv X pins σ H s):X.s₀.heap.objs.size<=s.heap.objs.size:=Nat.le_trans I.ok.above (Nat.le_of_lt I.lt)
theorem Inv.nofs (I:Inv X pins σ H s){a:Addr}(h:s.heap.objs.size<=a):a∉X.fs:=fun hb=>by
 obtain ⟨_,o,ho,_⟩:=I.ok.funs.mem hb
 exact absurd (Nat.lt_of_lt_of_le (Heap.lt_size ho) (Nat.le_trans I.sz h)) (Nat.lt_irrefl _)
theorem Inv.cne (I:Inv X pins σ H s):∀x c,X.env.cells.lookup x=some c->c≠X.env.locals:=fun x c e z=>by
 obtain ⟨v,o,ho,hd⟩:=I.cell x c e
 obtain ⟨m,⟨o',es,ep,ho',hd',_⟩,_⟩:=I.loc
 rw [z,ho'] at ho;cases ho;rw [hd'] at hd;cases hd
theorem Inv.funs (I:Inv X pins σ H s):s.heap.FunFrames X.base X.outer:=by
 have all:∀(l:List Env),(∀b∈frs l,b∈X.fs)->X.s₀.heap.FunFrames X.base l->s.heap.FunFrames X.base l:=by
  intro l
  induction l with
  | nil=>intro _ _;trivial
  | cons env r ih=>
   intro hs hl
   obtain ⟨hk,⟨L,o,hf,hn,ho,hd⟩,hr⟩:=hl
   have hL:L∈X.fs:=hs L (by unfold frs;rw [List.filterMap_cons,hf];exact List.mem_cons_self)
   obtain ⟨sl,e⟩:=I.base.slot L o ho (I.ok.frf L hL) hL fun z=>I.ok.exfs L z hL
   exact ⟨hk,⟨L,_,hf,hn,e,hd⟩,ih (fun b hb=>hs b (by unfold frs;rw [List.filterMap_cons,hf];exact List.mem_cons_of_mem _ hb)) hr⟩
 exact all X.outer (fun _ hb=>hb) I.ok.funs
theorem Inv.stack (I:Inv X pins σ H s):s.heap.FunFrames X.base X.stack:=by
 rcases I.ok.stk with e | ⟨e,hf⟩
 ·rw [e];exact I.funs
 ·rw [e]
  obtain ⟨m,hn,_⟩:=I.loc
  refine .cons (by rw [I.ok.kind];decide) hf hn ?_ I.funs
  exact Heap.get?_none_of_le (Nat.le_trans I.ok.bsz I.ok.above)
theorem Inv.stkSub (I:Inv X pins σ H s):∀b∈frs X.stack,b∈X.env.locals::X.fs:=fun b hb=>by
 rcases I.ok.stk with e | ⟨e,hf⟩
 ·rw [e] at hb;exact List.mem_cons_of_mem _ hb
 ·rw [e] at hb
  unfold frs at hb
  rw [List.filterMap_cons,hf] at hb
  exact hb
theorem Inv.stkFree (I:Inv X pins σ H s):∀b∈frs X.stack,H b=none:=fun b hb=>by
 rcases List.mem_cons.mp (I.stkSub b hb) with e | hb
 ·rw [e];exact I.free
 ·obtain ⟨_,o,ho,_⟩:=I.ok.funs.mem hb
  exact I.base.free b o ho (I.ok.frf b hb) fun z=>I.ok.exfs b z hb
theorem Inv.step {g':Array GenState}{t':Nat}{d':Drawn}{ch:List Addr}(I:Inv X pins σ H s)
  (hch:∀b∈ch,(b∈X.ex\/X.s₀.heap.objs.size<=b)/\b≠X.env.locals/\(∀x c,X.env.cells.lookup x=some c->c≠b)/\∀p∈X.pn++pins,p.1≠b)
  (keep:∀b o,b≠X.env.locals->b∉X.fs->b∉ch->s.heap.get? b=some o->H b=none->h'.get? b=some o)
  (slot:∀b o,b≠X.env.locals->b∈X.fs->b∉ch->s.heap.get? b=some o->H b=none->∃sl,h'.get? b=some {o with slots:=sl}) (free:∀b o,b∉ch->s.heap.get? b=some o->H b=none->H' b=none)
  (there:∀b o,b∉ch->s.heap.get? b=some o->∃o',h'.get? b=some o')
  (tups:∀b xs,H b=some (.tup xs)->H' b=some (.tup xs)) (frzs:∀b o u,H b=some (.frz o u)->H' b=some (.frz o u)) (tbls:∀b ps,H b=some (.tbl ps)->∃more,H' b=some (.tbl (ps++more)))
  (ns:∀m,s.heap.Ns X.env.locals m->h'.Ns X.env.locals m) (hok:HOk X.prog X.w H' h') (hg:AllBare g') :
  Inv X pins σ H' {s with heap:=h',gens:=g',drawn:=d',toks:=t'}:=by
 have neL:∀b o,X.s₀.heap.get? b=some o->b≠X.env.locals:=fun b o e=>Nat.ne_of_lt (Nat.lt_of_lt_of_le (Heap.lt_size e) I.ok.above)
 have neC:∀b o,X.s₀.heap.get? b=some o->b∉X.ex->b∉ch:=fun b o e hx hb=>by
  rcases (hch b hb).1 with z | z
  ·exact hx z
  ·exact absurd (Nat.lt_of_lt_of_le (Heap.lt_size e) z) (Nat.lt_irrefl _)
 have cellK:∀x c,X.env.cells.lookup x=some c->∀v,s.heap.IsCell c v->h'.IsCell c v:=fun x c e v ⟨o,ho,hd⟩=>by
  have nch:c∉ch:=fun z=>(hch c z).2.2.1 x c e rfl
  by_cases hc:c∈X.fs
  ·obtain ⟨sl,q⟩:=slot c o (I.cne x c e) hc nch ho (I.freeC x c e)
   exact ⟨_,q,hd⟩
  ·exact ⟨o,keep c o (I.cne x c e) hc nch ho (I.freeC x c e),hd⟩
 refine ⟨I.ok,I.os,hg,⟨fun b o e n hb hx=>?_,fun b o e n hb hx=>?_,fun b o e n hx=>?_,fun b o e hx=>?_,fun b xs e=>tups b xs (I.base.tups b xs e),fun b o xs e=>frzs b o xs (I.base.frzs b o xs e),fun b ps e=>?_⟩,?_,fun x c e=>?_,?_,fun x c e=>?_,fun p hp=>?_,hok,I.len⟩
 ·exact keep b o (neL b o e) hb (neC b o e hx) (I.base.keep b o e n hb hx) (I.base.free b o e n hx)
 ·obtain ⟨sl,e1⟩:=I.base.slot b o e n hb hx
  obtain ⟨sl',e2⟩:=slot b _ (neL b o e) hb (neC b o e hx) e1 (I.base.free b o e n hx)
  exact ⟨sl',e2⟩
 ·obtain ⟨o',e1⟩:=I.base.there b o e hx
  exact free b o' (neC b o e hx) e1 (I.base.free b o e n hx)
 ·obtain ⟨o',e1⟩:=I.base.there b o e hx
  exact there b o' (neC b o e hx) e1
 ·obtain ⟨m1,e1⟩:=I.base.tbls b ps e
  obtain ⟨m2,e2⟩:=tbls b _ e1
  exact ⟨m1++m2,by rw [e2,Array.append_assoc]⟩
 ·obtain ⟨m,hn,hl⟩:=I.loc
  refine ⟨m,ns m hn,fun i x v e1 e2 e3=>?_⟩
  obtain ⟨u,r,l⟩:=hl i x v e1 e2 e3
  refine ⟨u,r,?_⟩
  rcases l with l | ⟨k,c,e,z⟩
  ·exact .inl l
  ·exact .inr ⟨k,c,e,cellK x c e _ z⟩
 ·obtain ⟨v,z⟩:=I.cell x c e
  exact ⟨v,cellK x c e v z⟩
 ·obtain ⟨m,⟨o,_,_,ho,_⟩,_⟩:=I.loc
  exact free _ o (fun z=>(hch _ z).2.1 rfl) ho I.free
 ·obtain ⟨v,o,ho,hd⟩:=I.cell x c e
  exact free c o (fun z=>(hch c z).2.2.1 x c e rfl) ho (I.freeC x c e)
 ·obtain ⟨e,n,ne,nf,d⟩:=I.pin p hp
  have nch:p.1∉ch:=fun z=>(hch p.1 z).2.2.2 p hp rfl
  exact ⟨keep p.1 p.2 ne nf nch e n,free p.1 p.2 nch e n,ne,nf,d⟩
theorem Inv.un {t':Nat}(I:Inv X pins σ H s)(u:Un X.fs [] H H' s.heap h')(hok:HOk X.prog X.w H' h'):Inv X pins σ H' {s with heap:=h',toks:=t'}:=by
 obtain ⟨m,⟨o,es,ep,ho,r⟩,_⟩:=id I.loc
 obtain ⟨sl,hL⟩:=u.any ho I.free (by simp)
 exact I.step (g':=s.gens) (d':=s.drawn) (ch:=[]) (fun _ z=>nomatch z) (fun b o _ hb _ e n=>u.keep b o e n hb (by simp)) (fun b o _ hb _ e n=>u.slot b o e n hb (by simp)) (fun b o _ e n=>u.free b o e n (by simp)) (fun b o _ e=>u.there b o e (by simp)) u.tups u.frzs u.tbls (fun m' hm=>by
  obtain ⟨o',es',ep',ho',r'⟩:=hm
  rw [ho] at ho';cases ho'
  exact ⟨_,es',ep',hL,r'⟩) hok I.bare
theorem Inv.call {g':Array GenState}{t':Nat}{d':Drawn}{ch:List Addr}(I:Inv X pins σ H s)(u:Un (frs X.stack) ch H H' s.heap h')(hok:HOk X.prog X.w H' h')(hg:AllBare g')
  (hch:∀b∈ch,(b∈X.ex\/X.s₀.heap.objs.size<=b)/\b≠X.env.locals/\(∀x c,X.env.cells.lookup x=some c->c≠b)/\∀p∈X.pn++pins,p.1≠b) :
  Inv X pins σ H' {s with heap:=h',gens:=g',drawn:=d',toks:=t'}:=by
 obtain ⟨m,⟨o,es,ep,ho,r⟩,_⟩:=id I.loc
 obtain ⟨sl,hL⟩:=u.any ho I.free fun z=>(hch _ z).2.1 rfl
 exact I.step (ch:=ch) hch (fun b o hL hb hc e n=>u.keep b o e n (fun z=>(List.mem_cons.mp (I.stkSub b z)).elim hL hb) hc) (fun b o _ _ hc e n=>u.any e n hc) (fun b o hc e n=>u.free b o e n hc) (fun b o hc e=>u.there b o e hc) u.tups u.frzs u.tbls (fun m' hm=>by
  obtain ⟨o',es',ep',ho',r'⟩:=hm
  rw [ho] at ho';cases ho'
  exact ⟨_,es',ep',hL,r'⟩) hok hg
theorem Inv.turned {t':Nat}{it:Addr}(I:Inv X pins σ H s)(k:∀b o,b≠it->s.heap.get? b=some o->h'.get? b=some o)(hn:H it=none)(hL:it≠X.env.locals)
  (h1:it∈X.ex\/X.s₀.heap.objs.size<=it) (h2:∀x c,X.env.cells.lookup x=some c->c≠it) (h3:∀p∈X.pn++pins,p.1≠it):Inv X pins σ H {s with heap:=h',toks:=t'}:=by
 have nit:∀b u,H b=some u->b≠it:=fun b u e z=>by rw [z,hn] at e;cases e
 refine I.step (g':=s.gens) (d':=s.drawn) (ch:=[it]) (fun b hb=>?_) (fun b o _ _ hc e _=>k b o (fun z=>hc (by simp [z])) e) (fun b o _ _ hc e _=>⟨o.slots,k b o (fun z=>hc (by simp [z])) e⟩) (fun _ _ _ _ n=>n)
  (fun b o hc e=>⟨o,k b o (fun z=>hc (by simp [z])) e⟩) (fun _ _ e=>e) (fun _ _ _ e=>e) (fun b ps e=>⟨#[],by rw [e];simp⟩) (fun m hm=>?_) (fun b u e=>?_) I.bare
 ·have e:b=it:=by simpa using hb
  subst e
  exact ⟨h1,hL,h2,h3⟩
 ·obtain ⟨o,es,ep,ho,r⟩:=hm
  exact ⟨o,es,ep,k _ o (Ne.symm hL) ho,r⟩
 ·refine (I.hok b u e).stay (fun c v hc q=>k c v ?_ q) (fun _ q=>q) fun _ _ q=>q
  rcases hc with z | z
  ·rw [z];exact nit b u e
  ·exact nit c _ z
theorem Inv.tok (I:Inv X pins σ H s)(t:Nat):Inv X pins σ H {s with toks:=t}:=I.un (h':=s.heap) (t':=t) Un.refl I.hok
theorem Inv.kept {t':Nat}(I:Inv X pins σ H s)(k:∀b u,s.heap.get? b=some u->h'.get? b=some u):Inv X pins σ H {s with heap:=h',toks:=t'}:=I.un (Un.kept k) (I.hok.kept k)
theorem Inv.laid {a:Addr}{o:HO}{t':Nat}(I:Inv X pins σ H s)(k:∀b u,s.heap.get? b=some u->h'.get? b=some u)(hp:s.heap.objs.size<=a)(new:fK X.prog X.w (upd H a o) h' a o) :
  Inv X pins σ (upd H a o) {s with heap:=h',toks:=t'}:=I.un (Un.laid k hp (I.hok.fresh hp)) (I.hok.laid k hp new)
theorem Inv.write {x e:Addr}{o:HO}{t':Nat}(I:Inv X pins σ H s)(mu:Mut (H x))(he:e=x\/H e=some (.own x))(k:∀b u,b≠e->s.heap.get? b=some u->h'.get? b=some u)(heo:∃u,h'.get? e=some u)
  (new:fK X.prog X.w (upd H x o) h' x o):Inv X pins σ (upd H x o) {s with heap:=h',toks:=t'}:=I.un (Un.write mu he k heo) (I.hok.write mu he k heo new)
theorem Inv.weak {σ':List (Option V)}(I:Inv X pins σ H s)(hl:σ'.length=σ.length)(w:∀(i:Nat) v,σ'[i]?=some (some v)->σ[i]?=some (some v)):Inv X pins σ' H s:=
 ⟨I.ok,I.os,I.bare,I.base,let ⟨m,hn,hl'⟩:=I.loc;⟨m,hn,fun i x v e1 e2 e3=>hl' i x v e1 (w i v e2) e3⟩,I.cell,I.free,I.freeC,I.pin,I.hok,hl.trans I.len⟩
theorem Inv.pins_of {pins':List (Addr×Obj)}(I:Inv X pins σ H s)(h:∀p∈pins',s.heap.get? p.1=some p.2/\H p.1=none/\p.1≠X.env.locals/\p.1∉X.fs/\∀v,p.2.data≠.cell v):Inv X pins' σ H s:=
 ⟨I.ok,I.os,I.bare,I.base,I.loc,I.cell,I.free,I.freeC,fun p hp=>(List.mem_append.mp hp).elim (fun z=>I.pin p (List.mem_append_left _ z)) (h p),I.hok,I.len⟩
theorem uR {N:List Str}(hN:N.Nodup){i j:Nat}{x:Str}(a:N[i]?=some x)(b:N[j]?=some x):i=j:=by
 obtain ⟨h1,e1⟩:=List.getElem?_eq_some_iff.mp a
 obtain ⟨h2,e2⟩:=List.getElem?_eq_some_iff.mp b
 exact (List.getElem_inj hN).mp (e1.trans e2.symm)
theorem rS {M:Model}{A:Around}{E:Value->Shared->Prop}{i:Nat}{x:Str}{v:V}{u:Value}{Q:Unit->Shared->Prop}(I:Inv X pins σ H s)(hN:X.N.Nodup)(hi:X.N[i]?=some x)(hx:Loc X.env.scope x)(r:bK v u)
  (h:∀s',Inv X pins (σ.set i (some v)) H s'->(∃a,Heap.SameBut a s.heap s'.heap/\(a=X.env.locals\/X.env.cells.lookup x=some a))->Q () s') (hf:X.fn x=true\/X.env.scope.names.lookup x=some .local:=by first | exact .inl rfl | exact .inr rfl | assumption):wpAny M A (storeName X.env x u) Q E s:=by
 obtain ⟨m,hn,hl⟩:=id I.loc
 have hcls:(X.env.scope.kind == .class || (X.env.scope.kind == .module && X.env.locals != X.env.globals))=false:=by rw [I.ok.kind];rfl
 have hiσ:i < σ.length:=by rw [I.len];exact (List.getElem?_eq_some_iff.mp hi).1
 have cne:=I.cne
 have tracked:∀{a:Addr} {h':Heap},(∃o,s.heap.get? a=some o/\H a=none)->Heap.SameBut a s.heap h'->HOk X.prog X.w H h':=fun {a h'} ha hs b ob e=>by
  obtain ⟨_,_,hfree⟩:=ha
  refine (I.hok b ob e).stay (fun c w' hc q=>(hs.2 c ?_).trans q) (fun _ q=>q) fun _ _ q=>q
  rintro rfl
  rcases hc with rfl | hc
  ·rw [hfree] at e;cases e
  ·rw [hfree] at hc;cases hc
 rcases hx with hk | hk
 ·refine wpAny_storeName_local hk hn (fun h' hn' hs=>?_) hcls
  obtain ⟨oL,_,_,hoL,_⟩:=id hn
  refine h _ ⟨I.ok,I.os,I.bare,⟨fun b o e n hb hx=>?_,fun b o e n hb hx=>?_,I.base.free,fun b o e hx=>?_,I.base.tups,I.base.frzs,I.base.tbls⟩,⟨_,hn',fun j y v' e1 e2 e3=>?_⟩,fun y c e=>?_,I.free,I.freeC,fun p hp=>?_,tracked ⟨oL,hoL,I.free⟩ hs,by simpa using I.len⟩ ⟨_,hs,.inl rfl⟩
  ·exact (hs.2 b (Nat.ne_of_lt (Nat.lt_of_lt_of_le (Heap.lt_size e) I.ok.above))).trans (I.base.keep b o e n hb hx)
  ·obtain ⟨sl,e1⟩:=I.base.slot b o e n hb hx
   exact ⟨sl,(hs.2 b (Nat.ne_of_lt (Nat.lt_of_lt_of_le (Heap.lt_size e) I.ok.above))).trans e1⟩
  ·obtain ⟨o',e1⟩:=I.base.there b o e hx
   exact ⟨o',(hs.2 b (Nat.ne_of_lt (Nat.lt_of_lt_of_le (Heap.lt_size e) I.ok.above))).trans e1⟩
  ·by_cases hj:j=i
   ·subst hj
    rw [hi] at e1;cases e1
    rw [List.getElem?_set_self hiσ] at e2
    cases e2
    exact ⟨u,r,.inl ⟨hk,by simp⟩⟩
   ·rw [List.getElem?_set_ne (Ne.symm hj)] at e2
    obtain ⟨u',r',q⟩:=hl j y v' e1 e2 e3
    refine ⟨u',r',?_⟩
    rcases q with ⟨k,e⟩ | ⟨k,c,e,z⟩
    ·refine .inl ⟨k,?_⟩
     have:y≠x:=fun e=>hj (uR hN e1 (e▸hi))
     simp [this,e]
    ·exact .inr ⟨k,c,e,z.sameBut hs (cne y c e)⟩
  ·obtain ⟨w',z⟩:=I.cell y c e
   exact ⟨w',z.sameBut hs (cne y c e)⟩
  ·obtain ⟨e,n,ne,nf,d⟩:=I.pin p hp
   exact ⟨(hs.2 p.1 ne).trans e,n,ne,nf,d⟩
 ·have hfn:X.fn x=true:=by
   rcases hf with z | z
   ·exact z
   ·rw [z] at hk;cases hk
  obtain ⟨c,hc⟩:=I.ok.has x (.inl hk)
  obtain ⟨w',z⟩:=I.cell x c hc
  refine wpAny_storeName_cell I.ok.kind hk hc z (fun h' hc' hs=>?_)
  obtain ⟨oc,hoc,hocd⟩:=id z
  refine h {s with heap:=h'} ⟨I.ok,I.os,I.bare,⟨fun b o e n hb hx=>?_,fun b o e n hb hx=>?_,I.base.free,fun b o e hx=>?_,I.base.tups,I.base.frzs,I.base.tbls⟩,⟨m,hn.sameBut hs (Ne.symm (cne x c hc)),fun j y v' e1 e2 e3=>?_⟩,fun y c' e=>?_,I.free,I.freeC,fun p hp=>?_,tracked ⟨oc,hoc,I.freeC x c hc⟩ hs,by simpa using I.len⟩ ⟨c,hs,.inr hc⟩
  ·exact (hs.2 b (Nat.ne_of_lt (Nat.lt_of_lt_of_le (Heap.lt_size e) (I.ok.cab x c hfn hc)))).trans (I.base.keep b o e n hb hx)
  ·obtain ⟨sl,e1⟩:=I.base.slot b o e n hb hx
   exact ⟨sl,(hs.2 b (Nat.ne_of_lt (Nat.lt_of_lt_of_le (Heap.lt_size e) (I.ok.cab x c hfn hc)))).trans e1⟩
  ·obtain ⟨o',e1⟩:=I.base.there b o e hx
   exact ⟨o',(hs.2 b (Nat.ne_of_lt (Nat.lt_of_lt_of_le (Heap.lt_size e) (I.ok.cab x c hfn hc)))).trans e1⟩
  ·by_cases hj:j=i
   ·subst hj
    rw [hi] at e1;cases e1
    rw [List.getElem?_set_self hiσ] at e2
    cases e2
    exact ⟨u,r,.inr ⟨.inl hk,c,hc,hc'⟩⟩
   ·rw [List.getElem?_set_ne (Ne.symm hj)] at e2
    obtain ⟨u',r',q⟩:=hl j y v' e1 e2 e3
    refine ⟨u',r',?_⟩
    rcases q with q | ⟨k,c',e,z'⟩
    ·exact .inl q
    ·refine .inr ⟨k,c',e,z'.sameBut hs ?_⟩
     rintro rfl
     exact hj (uR hN e1 (I.ok.inj _ _ _ e hc▸hi))
  ·by_cases hcc:c'=c
   ·subst hcc;exact ⟨_,hc'⟩
   ·obtain ⟨w2,z2⟩:=I.cell y c' e
    exact ⟨w2,z2.sameBut hs hcc⟩
  ·obtain ⟨e,n,ne,nf,d⟩:=I.pin p hp
   refine ⟨(hs.2 p.1 ?_).trans e,n,ne,nf,d⟩
   intro q
   rw [q,hoc] at e
   have q':oc=p.2:=Option.some.inj e
   exact d w' (by rw [←q'];exact hocd)
theorem kD {M:Model}{A:Around}{E:Value->Shared->Prop}{i:Nat}{x:Str}{v:V}{u:Value}{Q:Unit->Shared->Prop}(I:Inv X pins σ H s)(hN:X.N.Nodup)(hi:X.N[i]?=some x)(hx:Loc X.env.scope x)(r:bK v u)
  (h:∀s',Inv X pins (σ.set i (some v)) H s'->Q () s') (hf:X.fn x=true\/X.env.scope.names.lookup x=some .local:=by first | exact .inl rfl | exact .inr rfl | assumption):wpAny M A (storeName X.env x u) Q E s:=
 rS I hN hi hx r (fun s' I' _=>h s' I') hf
theorem Inv.call' {s':Shared}{ch:List Addr}(I:Inv X pins σ H s)(ho:s'.os=s.os)(u:Un (frs X.stack) ch H H' s.heap s'.heap)(hok:HOk X.prog X.w H' s'.heap)(hg:AllBare s'.gens)
  (hch:∀b∈ch,(b∈X.ex\/X.s₀.heap.objs.size<=b)/\b≠X.env.locals/\(∀x c,X.env.cells.lookup x=some c->c≠b)/\∀p∈X.pn++pins,p.1≠b):Inv X pins σ H' s':=by
 obtain ⟨h',g',d',t',o'⟩:=s'
 have e:o'=s.os:=ho
 subst e
 exact I.call (g':=g') (t':=t') (d':=d') u hok hg hch
end
abbrev XK:=Value->Option Addr->Hp->Prop
abbrev St:=List (Option V)
abbrev VK:=V->Hp->Prop
abbrev TE:=St->Hp->VK->Prop
abbrev TT:=St->Hp->(Bool->Hp->Prop)->Prop
abbrev TA:=St->Hp->(List V->Hp->Prop)->Prop
structure gO where
 nx:St->Hp->Prop
 rt:VK
 bk:St->Hp->Prop:=fun _ _=>False
 ct:St->Hp->Prop:=fun _ _=>False
abbrev TS:=gO->St->Hp->Prop
def EP (X:Cx)(pins:List (Addr×Obj))(σ:St)(Q:VK)(u:Value)(s':Shared):Prop:=∃v H',Inv X pins σ H' s'/\bK v u/\Q v H'
def TP (X:Cx)(pins:List (Addr×Obj))(σ:St)(Q:Bool->Hp->Prop)(b:Bool)(s':Shared):Prop:=∃H',Inv X pins σ H' s'/\Q b H'
def AP (X:Cx)(pins:List (Addr×Obj))(σ:St)(Q:List V->Hp->Prop)(us:List Value)(s':Shared):Prop:=∃vs H',Inv X pins σ H' s'/\br vs us/\Q vs H'
def SP (X:Cx)(pins:List (Addr×Obj))(D:gO)(f:Flow)(s':Shared):Prop:=
 match f with
 | .next=>∃σ' H',Inv X pins σ' H' s'/\D.nx σ' H'
 | .brk=>∃σ' H',Inv X pins σ' H' s'/\D.bk σ' H'
 | .cont=>∃σ' H',Inv X pins σ' H' s'/\D.ct σ' H'
 | .ret u=>∃v σ' H',Inv X pins σ' H' s'/\bK v u/\D.rt v H'
def PE (X:Cx)(e:Expr)(t:TE):Prop:=
 ∀(pins:List (Addr×Obj)) (s:Shared) (σ:St) (H:Hp) (Q:VK),Inv X pins σ H s->t σ H Q->wpAny (model X.prog X.w) X.A (eval e X.env) (EP X pins σ Q) X.xe s
def PT (X:Cx)(e:Expr)(t:TT):Prop:=
 ∀(pins:List (Addr×Obj)) (s:Shared) (σ:St) (H:Hp) (Q:Bool->Hp->Prop),Inv X pins σ H s->t σ H Q->wpAny (model X.prog X.w) X.A (isTrue e X.env (eval e X.env)) (TP X pins σ Q) X.xe s
def PW (X:Cx)(e:Expr)(t:TT):Prop:=
 ∀(cu:Sem Value) (pins:List (Addr×Obj)) (s:Shared) (σ:St) (H:Hp) (Q:Bool->Hp->Prop),Inv X pins σ H s->t σ H Q->wpAny (model X.prog X.w) X.A (isTrue e X.env cu) (TP X pins σ Q) X.xe s
theorem PW.pt {X:Cx}{e:Expr}{t:TT}(h:PW X e t):PT X e t:=h _
def PA (X:Cx)(es:List Expr)(t:TA):Prop:=
 ∀(pos:Pos) (pins:List (Addr×Obj)) (s:Shared) (σ:St) (H:Hp) (Q:List V->Hp->Prop),Inv X pins σ H s->t σ H Q->wpAny (model X.prog X.w) X.A (spliced (backTo pos (starEach es X.env))) (AP X pins σ Q) X.xe s
def PS (X:Cx)(st:Stmt)(t:TS):Prop:=
 ∀(pins:List (Addr×Obj)) (s:Shared) (σ:St) (H:Hp) (D:gO),Inv X pins σ H s->t D σ H->wpAny (model X.prog X.w) X.A (exec st X.env) (SP X pins D) X.xe s
def PSs (X:Cx)(st:List Stmt)(t:TS):Prop:=
 ∀(pins:List (Addr×Obj)) (s:Shared) (σ:St) (H:Hp) (D:gO),Inv X pins σ H s->t D σ H->wpAny (model X.prog X.w) X.A (execs st X.env) (SP X pins D) X.xe s
theorem thn {α:Type}{t:Sem α}{Q Q':α->Shared->Prop}{M:Model}{A:Around}{E:Value->Shared->Prop}{s:Shared}(h:wpAny M A t Q E s)(hQ:∀a s,Q a s->Q' a s):wpAny M A t Q' E s:=wpAny_mono h hQ fun _ _ x=>x
section
variable {X:Cx}
theorem bin {a b:Expr}{ta tb:TE}(ha:PE X a ta)(hb:PE X b tb){pins:List (Addr×Obj)}{s:Shared}{σ:St}{H:Hp}{R:V->V->Hp->Prop}(I:Inv X pins σ H s)(h:ta σ H fun x H1=>tb σ H1 fun y H2=>R x y H2)
  {α:Type} {Q:α->Shared->Prop} {f:Value->Value->Sem α}
  (hf:∀v u s2 x y H2,Inv X pins σ H2 s2->bK x v->bK y u->R x y H2->wpAny (model X.prog X.w) X.A (f v u) Q X.xe s2) :
  wpAny (model X.prog X.w) X.A (eval a X.env) (fun v s₁=>wpAny (model X.prog X.w) X.A (eval b X.env) (fun u s₂=>wpAny (model X.prog X.w) X.A (f v u) Q X.xe s₂) X.xe s₁) X.xe s:=by
 refine thn (ha pins s σ H _ I h) fun v s1 ⟨x,H1,I1,r1,q1⟩=>?_
 refine thn (hb pins s1 σ H1 _ I1 q1) fun u s2 ⟨y,H2,I2,r2,q2⟩=>?_
 exact hf v u s2 x y H2 I2 r1 r2 q2
def KW (i:Nat):TE:=fun σ H Q=>∃v,σ[i]?=some (some v)/\Q v H
def tC (v:V):TE:=fun _ H Q=>Q v H
theorem KY {i:Nat}{x:Str}{pos:Pos}(hN:X.N[i]?=some x)(hv:Vis X.env.scope x)(hd:(x == ("__debug__":Str))=false:=by decide)(hcd:(x == ("__classdict__":Str))=false:=by decide):PE X (.Name x pos) (KW i):=by
 intro pins s σ H Q I h
 obtain ⟨v,e,h⟩:=h
 obtain ⟨m,hn,hl⟩:=I.loc
 obtain ⟨u,r,l⟩:=hl i x v hN e hv
 have fin:EP X pins σ Q u s:=⟨v,H,I,r,h⟩
 rcases l with ⟨hk,hm⟩ | ⟨hk,c,hc,hcell⟩
 ·exact wpAny_Name (wpAny_loadName_local I.ok.kind hk hn hm fin) hd
 ·rcases hk with hk | hk
  ·exact wpAny_Name (wpAny_loadName_cell I.ok.kind hk hc hcell fin) hd
  ·exact wpAny_Name (wpAny_loadName_free I.ok.kind hk hc hcell fin hcd) hd
theorem af {i j pos}:PE X (.Constant (.int i) j pos) (tC (.int i)):=fun _ _ _ H _ I h=>wpAny_Constant_int ⟨.int i,H,I.tok _,⟨_,rfl⟩,h⟩
theorem iQ {b j pos}:PE X (.Constant (.bool b) j pos) (tC (.bl b)):=fun _ _ _ H _ I h=>Constant_bool ⟨.bl b,H,I,rfl,h⟩
theorem eJ {j pos}:PE X (.Constant .none j pos) (tC .non):=fun _ _ _ H _ I h=>Constant_none ⟨.non,H,I,rfl,h⟩
theorem aE {x j pos}:PE X (.Constant (.str x) j pos) (tC (.str x)):=fun _ _ _ H _ I h=>Calls.Constant_str ⟨.str x,H,I.tok _,⟨_,rfl⟩,h⟩
def Gl (X:Cx)(x:Str):Prop:=X.env.kindOf x=some .globalImplicit
theorem qk {E:Value->Shared->Prop}{pins:List (Addr×Obj)}{s:Shared}{σ:St}{H:Hp}{x:Str}{u:Value}{pos:Pos}{Q:Value->Shared->Prop}(I:Inv X pins σ H s)(hg:Gl X x)(hm:X.mg x=some u)(h:Q u s)
  (hd:(x == ("__debug__":Str))=false:=by decide):wpAny (model X.prog X.w) X.A (eval (.Name x pos) X.env) Q E s:=
 Calls.Name_function_global I.ok.kind hg (Calls.loadGlobal_global (by rw [I.ok.glob];exact I.mod.glob.keeps I.bk) hm h) hd
theorem kX {E:Value->Shared->Prop}{pins:List (Addr×Obj)}{s:Shared}{σ:St}{H:Hp}{x:Str}{u:Value}{pos:Pos}{Q:Value->Shared->Prop}(I:Inv X pins σ H s)(hg:Gl X x)(hm:X.mg x=none)(hv:bootBuiltins x=some u)(h:Q u s)
  (hn:x≠"__name__":=by decide) (hd:(x == ("__debug__":Str))=false:=by decide):wpAny (model X.prog X.w) X.A (eval (.Name x pos) X.env) Q E s:=by
 obtain ⟨mb,h1,h2⟩:=I.mod.blt
 exact Calls.Name_function_global I.ok.kind hg (Calls.loadGlobal_builtin (by rw [I.ok.glob];exact I.mod.glob.keeps I.bk) hm (by rw [I.ok.blt];exact h1.keeps I.bk) ((h2 x hn).trans hv) h) hd
theorem uF {x:Str}{v:V}{u:Value}{pos:Pos}(hg:Gl X x)(hm:X.mg x=some u)(r:bK v u)(hd:(x == ("__debug__":Str))=false:=by decide):PE X (.Name x pos) (tC v):=
 fun _ _ _ H _ I h=>qk I hg hm ⟨v,H,I,r,h⟩ hd
theorem fu {x:Str}{v:V}{u:Value}{pos:Pos}(hg:Gl X x)(hm:X.mg x=none)(hv:bootBuiltins x=some u)(r:bK v u)(hn:x≠"__name__":=by decide)(hd:(x == ("__debug__":Str))=false:=by decide):PE X (.Name x pos) (tC v):=
 fun _ _ _ H _ I h=>kX I hg hm hv ⟨v,H,I,r,h⟩ hn hd
variable {a b:Expr}{ta tb:TE}{pos:Pos}
def PC (X:Cx)(op:CmpOp)(a b:Expr)(t:TE):Prop:=
 ∀(pins:List (Addr×Obj)) (s:Shared) (σ:St) (H:Hp) (Q:VK),Inv X pins σ H s->t σ H Q->
  wpAny (model X.prog X.w) X.A (eval a X.env) (fun v s₁=>wpAny (model X.prog X.w) X.A (eval b X.env) (fun u s₂=>wpAny (model X.prog X.w) X.A (compareOp op v u) (EP X pins σ Q) X.xe s₂) X.xe s₁) X.xe s
theorem FC (b:Expr){op:CmpOp}(h:op≠.In)(h2:op≠.NotIn):behindInMarks op b=false:=by
 have e1:(op == CmpOp.In)=false:=by cases op<;>first | rfl | exact absurd rfl h
 have e2:(op == CmpOp.NotIn)=false:=by cases op<;>first | rfl | exact absurd rfl h2
 cases b<;>simp [behindInMarks,e1,e2]
def tB (t:TE):TT:=fun σ H Q=>t σ H fun x H1=>∃c,x=.bl c/\Q c H1
theorem NA {op:CmpOp}{t:TE}(h:PC X op a b t)(h1:behindInMarks op b=false:=by first | exact FC _ (by decide) (by decide) | rfl):PT X (.Compare a [op] [b] pos) (tB t):=by
 intro pins s σ H Q I hw
 refine wpAny_isTrue_Compare1 (thn (h pins s σ H _ I hw) fun v s1 h1=>thn h1 fun u s2 h2=>thn h2 fun c s3 ⟨x,H1,I1,r1,q1⟩=>?_) h1
 obtain ⟨d,rfl,q⟩:=q1
 cases r1
 exact wpAny_truthy_bool ⟨H1,I1,q⟩
theorem KZ {e:Expr}{t:TE}(h:PE X e t)(he:∀cu,isTrue e X.env cu=(do let v ←cu;standAt e.pos;holding [v] (truthy v)):=by intro _;rfl):PT X e (tB t):=by
 intro pins s σ H Q I hw
 refine isTrue_plain (thn (h pins s σ H _ I hw) fun v s1 ⟨x,H1,I1,r1,q1⟩=>?_) (he _)
 obtain ⟨d,rfl,q⟩:=q1
 cases r1
 exact wpAny_truthy_bool ⟨H1,I1,q⟩
variable {tA tB':TT}{rR:List Expr}
def MD (t u:TT):TT:=fun σ H Q=>t σ H fun c H1=>if c=true then u σ H1 Q else Q false H1
def tOr (t u:TT):TT:=fun σ H Q=>t σ H fun c H1=>if c=true then Q true H1 else u σ H1 Q
def ME (t:TT):TT:=fun σ H Q=>t σ H fun c H1=>Q (!c) H1
theorem jy (ha:PT X a tA):PW X (.BoolOp .And [a] pos) tA:=by
 intro wh pins s σ H Q I h
 refine isTrue_and (thn (ha pins s σ H Q I h) fun c s1 e=>?_)
 cases c with
 | true=>exact isTrue_and_nil e
 | false=>exact e
theorem kY (ha:PT X a tA):PW X (.BoolOp .Or [a] pos) tA:=by
 intro wh pins s σ H Q I h
 refine isTrue_or (thn (ha pins s σ H Q I h) fun c s1 e=>?_)
 cases c with
 | false=>exact isTrue_or_nil e
 | true=>exact e
theorem kZ (ha:PT X a tA)(hb:PW X (.BoolOp .And (b::rR) pos) tB'):PW X (.BoolOp .And (a::b::rR) pos) (MD tA tB'):=by
 intro wh pins s σ H Q I h
 refine isTrue_and (thn (ha pins s σ H _ I h) fun c s1 ⟨H1,I1,q1⟩=>?_)
 cases c with
 | true=>exact hb wh pins s1 σ H1 Q I1 q1
 | false=>exact ⟨H1,I1,q1⟩
theorem oC (ha:PT X a tA)(hb:PW X (.BoolOp .Or (b::rR) pos) tB'):PW X (.BoolOp .Or (a::b::rR) pos) (tOr tA tB'):=by
 intro wh pins s σ H Q I h
 refine isTrue_or (thn (ha pins s σ H _ I h) fun c s1 ⟨H1,I1,q1⟩=>?_)
 cases c with
 | true=>exact ⟨H1,I1,q1⟩
 | false=>exact hb wh pins s1 σ H1 Q I1 q1
theorem eK (ha:PT X a tA):PT X (.UnaryOp .Not a pos) (ME tA):=by
 intro pins s σ H Q I h
 exact isTrue_not (ha pins s σ H (fun c H1=>Q (!c) H1) I h)
def J1 (ta tb:TE):TE:=fun σ H Q=>ta σ H fun x H1=>∃c,x=.bl c/\if c=true then tb σ H1 Q else Q (.bl false) H1
def J2 (ta:TE):TE:=fun σ H Q=>ta σ H fun x H1=>∃c,x=.bl c/\Q (.bl (!c)) H1
theorem my {op}{t:TE}(h:PE X a t):PE X (.BoolOp op [a] pos) t:=fun pins s σ H Q I hw=>BoolOp_one (h pins s σ H Q I hw)
theorem K0 (ha:PE X a ta)(hb:PE X (.BoolOp .And (b::rR) pos) tb):PE X (.BoolOp .And (a::b::rR) pos) (J1 ta tb):=by
 intro pins s σ H Q I h
 refine BoolOp_and (thn (ha pins s σ H _ I h) fun v s1 ⟨x,H1,I1,r1,q1⟩=>?_)
 obtain ⟨c,rfl,q1⟩:=q1
 cases r1
 refine wpAny_truthy_bool ?_
 cases c with
 | true=>exact hb pins s1 σ H1 Q I1 q1
 | false=>exact ⟨.bl false,H1,I1,rfl,q1⟩
theorem K1 (ha:PE X a ta):PE X (.UnaryOp .Not a pos) (J2 ta):=by
 intro pins s σ H Q I h
 refine UnaryOp_ (thn (ha pins s σ H _ I h) fun v s1 ⟨x,H1,I1,r1,q1⟩=>?_)
 obtain ⟨c,rfl,q1⟩:=q1
 cases r1
 exact not_of (wpAny_truthy_bool ⟨.bl (!c),H1,I1,rfl,q1⟩)
def tIf (t:TT)(ta tb:TE):TE:=fun σ H Q=>t σ H fun c H1=>if c=true then ta σ H1 Q else tb σ H1 Q
theorem Ah {c:Expr}(hc:PT X c tA)(ha:PE X a ta)(hb:PE X b tb):PE X (.IfExp c a b pos) (tIf tA ta tb):=by
 intro pins s σ H Q I h
 refine wpAny_IfExp (thn (hc pins s σ H _ I h) fun d s1 ⟨H1,I1,q1⟩=>?_)
 cases d with
 | true=>exact ha pins s1 σ H1 Q I1 q1
 | false=>exact hb pins s1 σ H1 Q I1 q1
end
def SqL (K:WA)(H:Hp)(a:Addr)(xs:List V):Prop:=
 Rd H a (.lst xs)\/
  ∃(o:Obj) (its:Array Value) (n:Nat),K.lookup a=some o/\o.cls=.type "list"/\o.dict=none/\o.data=.seq its n/\its.size<=sizeLine/\br xs its.toList
def SqT (K:WA)(H:Hp)(a:Addr)(xs:List V):Prop:=
 Rd H a (.tup xs)\/
  ∃(o:Obj) (its:Array Value) (n:Nat),K.lookup a=some o/\o.cls=.type "tuple"/\o.data=.seq its n/\its.size<=sizeLine/\br xs its.toList
def NB:Value->Option V
 | .none=>some .non
 | .bool b=>some (.bl b)
 | .int i _=>some (.int i)
 | .str x _=>some (.str x)
 | .bytes b _=>some (.byt b)
 | .float b _=>some (.flt b)
 | .ref a=>some (.ref a)
 | .type n=>some (.ty n)
 | _=>none
theorem bK.abs {x:V}{u:Value}(r:bK x u):NB u=some x:=by
 cases x with
 | non=>cases r;rfl
 | bl _=>cases r;rfl
 | int _=>obtain ⟨t,rfl⟩:=r;rfl
 | str _=>obtain ⟨t,rfl⟩:=r;rfl
 | byt _=>obtain ⟨t,rfl⟩:=r;rfl
 | flt _=>obtain ⟨t,rfl⟩:=r;rfl
 | ref _=>cases r;rfl
 | ty _=>cases r;rfl
theorem bK.inj {x y:V}{u:Value}(r:bK x u)(q:bK y u):x=y:=Option.some.inj (r.abs.symm.trans q.abs)
theorem br.inj:∀{xs ys:List V} {us:List Value},br xs us->br ys us->xs=ys
 | _,_,_,.nil,.nil=>rfl
 | _,_,_,.cons r t,.cons r' t'=>by rw [r.inj r',br.inj t t']
section
variable {X:Cx}{pins:List (Addr×Obj)}{σ:St}{H:Hp}{s:Shared}{a:Addr}{xs ys:List V}
theorem SqL.of {K:WA}(h:H a=some (.lst xs)):SqL K H a xs:=.inl (.inl h)
theorem SqT.of {K:WA}(h:H a=some (.tup xs)):SqT K H a xs:=.inl (.inl h)
theorem Inv.list (I:Inv X pins σ H s)(h:SqL X.K H a xs):∃its:List Value,br xs its/\PlainL s.heap a its.toArray/\xs.length<=sizeLine:=by
 rcases h with h | ⟨o,its,n,hk,hc,hd,hs,hz,r⟩
 ·obtain ⟨z,its,n,r,e⟩:=h.ok I.hok
  exact ⟨its,r,⟨_,n,e,rfl,rfl,rfl⟩,z⟩
 ·refine ⟨its.toList,r,⟨o,n,I.kIn a o hk,hc,hd,by simpa using hs⟩,?_⟩
  have e:=r.length
  simp only [Array.length_toList] at e
  omega
theorem Inv.tuple (I:Inv X pins σ H s)(h:SqT X.K H a xs):∃its:List Value,br xs its/\IsTup s.heap a its.toArray/\xs.length<=sizeLine:=by
 rcases h with h | ⟨o,its,n,hk,hc,hs,hz,r⟩
 ·obtain ⟨z,its,r,p⟩:=h.ok I.hok
  exact ⟨its,r,p.tup,z⟩
 ·refine ⟨its.toList,r,⟨o,I.kIn a o hk,hc,n,by simpa using hs⟩,?_⟩
  have e:=r.length
  simp only [Array.length_toList] at e
  omega
theorem Inv.list_inj (I:Inv X pins σ H s)(h:SqL X.K H a xs)(h':SqL X.K H a ys):xs=ys:=by
 obtain ⟨its,r,⟨o,n,e,_,_,d⟩,_⟩:=I.list h
 obtain ⟨its',r',⟨o',n',e',_,_,d'⟩,_⟩:=I.list h'
 rw [e] at e';cases e'
 rw [d] at d'
 injection d' with d1 _
 have:its=its':=by simpa using congrArg Array.toList d1
 subst this
 exact r.inj r'
end
abbrev Cx.wish (X:Cx)(E:Value->Shared->Prop):Cx:={X with xe:=E}
abbrev Cx.nox (X:Cx):Cx:=X.wish fun _ _=>False
theorem Cx.Ok.wish {X:Cx}(ok:X.Ok)(E:Value->Shared->Prop):(X.wish E).Ok:=
 ⟨ok.mod,ok.kind,ok.glob,ok.blt,ok.above,ok.inj,ok.has,ok.cab,ok.hd,ok.frames,ok.stk,ok.exf,ok.bs,ok.bsz,ok.noex,ok.exfs,ok.funs,ok.frf⟩
theorem Cx.Ok.unwish {X:Cx}{E:Value->Shared->Prop}(ok:(X.wish E).Ok):X.Ok:=
 ⟨ok.mod,ok.kind,ok.glob,ok.blt,ok.above,ok.inj,ok.has,ok.cab,ok.hd,ok.frames,ok.stk,ok.exf,ok.bs,ok.bsz,ok.noex,ok.exfs,ok.funs,ok.frf⟩
section
variable {X:Cx}{pins:List (Addr×Obj)}{σ:St}{H:Hp}{s:Shared}{E:Value->Shared->Prop}
theorem Inv.wish (I:Inv X pins σ H s)(E:Value->Shared->Prop):Inv (X.wish E) pins σ H s:=⟨I.ok.wish E,I.os,I.bare,I.base,I.loc,I.cell,I.free,I.freeC,I.pin,I.hok,I.len⟩
theorem Inv.unwish (I:Inv (X.wish E) pins σ H s):Inv X pins σ H s:=⟨I.ok.unwish,I.os,I.bare,I.base,I.loc,I.cell,I.free,I.freeC,I.pin,I.hok,I.len⟩
theorem SP.unwish {D:gO}{f:Flow}{s':Shared}(h:SP (X.wish E) pins D f s'):SP X pins D f s':=by
 cases f with
 | next=>obtain ⟨σ',H',I,q⟩:=h;exact ⟨σ',H',I.unwish,q⟩
 | brk=>obtain ⟨σ',H',I,q⟩:=h;exact ⟨σ',H',I.unwish,q⟩
 | cont=>obtain ⟨σ',H',I,q⟩:=h;exact ⟨σ',H',I.unwish,q⟩
 | ret u=>obtain ⟨v,σ',H',I,r,q⟩:=h;exact ⟨v,σ',H',I.unwish,r,q⟩
theorem PSs.nox {st:List Stmt}{t:TS}(h:PSs X.nox st t):PSs X st t:=fun pins s σ H D I hw=>
 wpAny_mono (h pins s σ H D (I.wish _) hw) (fun _ _ q=>q.unwish) fun _ _ z=>False.elim z
end
section
variable {X:Cx}{st:Stmt}{rR:List Stmt}{t u:TS}{e:Expr}{te:TE}{pos:Pos}
def J3:TS:=fun D σ H=>D.nx σ H
def K2 (t u:TS):TS:=fun D σ H=>t {D with nx:=u D} σ H
theorem aC:PSs X [] J3:=fun _ _ σ H _ I h=>wpAny_execs_nil ⟨σ,H,I,h⟩
theorem ae (h1:PS X st t)(h2:PSs X rR u):PSs X (st::rR) (K2 t u):=by
 intro pins s σ H D I h
 refine wpAny_execs_cons (thn (h1 pins s σ H {D with nx:=u D} I h) fun f s1 q=>?_)
 cases f with
 | next=>
  obtain ⟨σ',H',I',q⟩:=q
  exact h2 pins s1 σ' H' D I' q
 | ret v=>exact q
 | brk=>exact q
 | cont=>exact q
theorem ah (h1:PS X st t):PSs X [st] t:=by
 intro pins s σ H D I h
 refine wpAny_execs_cons (thn (h1 pins s σ H D I h) fun f s1 q=>?_)
 cases f with
 | next=>exact wpAny_execs_nil q
 | ret v=>exact q
 | brk=>exact q
 | cont=>exact q
theorem Inv.quiet {pins:List (Addr×Obj)}{σ:St}{H:Hp}{s:Shared}(I:Inv X pins σ H s):interactive X.env=false:=by simp [interactive,I.ok.kind]
def J4 (te:TE):TS:=fun D σ H=>te σ H fun _ H1=>D.nx σ H1
theorem bb (he:PE X e te)(hs:swapsWith e none pos.line X.env=pure false:=by rfl):PS X (.Expr e pos) (J4 te):=by
 intro pins s σ H D I h
 exact wpAny_Expr_any (thn (he pins s σ H _ I h) fun v s1 ⟨x,H1,I1,r1,q1⟩=>⟨σ,H1,I1,q1⟩) I.quiet hs
def MF (te:TE):TS:=fun D σ H=>te σ H D.rt
theorem az (he:PE X e te):PS X (.Return (some e) pos) (MF te):=by
 intro pins s σ H D I h
 exact wpAny_Return_some (thn (he pins s σ H _ I h) fun v s1 ⟨x,H1,I1,r1,q1⟩=>⟨x,σ,H1,I1,r1,q1⟩)
def K3 (c:TT)(t u:TS):TS:=fun D σ H=>c σ H fun b H1=>if b=true then t D σ H1 else u D σ H1
theorem aN {c:Expr}{a b:List Stmt}{tc:TT}(hc:PT X c tc)(ha:PSs X a t)(hb:PSs X b u):PS X (.If c a b pos) (K3 tc t u):=by
 intro pins s σ H D I h
 refine wpAny_If (thn (hc pins s σ H _ I h) fun d s1 ⟨H1,I1,q1⟩=>?_)
 cases d with
 | true=>exact ha pins s1 σ H1 D I1 q1
 | false=>exact hb pins s1 σ H1 D I1 q1
end
abbrev TG:=V->St->Hp->(St->Hp->Prop)->Prop
abbrev TGs:=List V->St->Hp->(St->Hp->Prop)->Prop
def PG (X:Cx)(target:Expr)(t:TG):Prop:=
 ∀(pins:List (Addr×Obj)) (s:Shared) (σ:St) (H:Hp) (v:V) (u:Value) (Q:St->Hp->Prop),Inv X pins σ H s->bK v u->t v σ H Q->
  wpAny (model X.prog X.w) X.A (assign target X.env u) (fun _ s'=>∃σ' H',Inv X pins σ' H' s'/\Q σ' H') X.xe s
def PGs (X:Cx)(ts:List Expr)(t:TGs):Prop:=
 ∀(pins:List (Addr×Obj)) (s:Shared) (σ:St) (H:Hp) (vs:List V) (us:List Value) (Q:St->Hp->Prop),Inv X pins σ H s->br vs us->t vs σ H Q->
  wpAny (model X.prog X.w) X.A (assignInOrder ((assignEach ts X.env).map (·.2)) us) (fun _ s'=>∃σ' H',Inv X pins σ' H' s'/\Q σ' H') X.xe s
abbrev K4:=V->V->V->Hp->(Hp->Prop)->Prop
def K5 (X:Cx)(t:K4):Prop:=
 ∀(pins:List (Addr×Obj)) (s:Shared) (σ:St) (H:Hp) (o i v:V) (ov iv u:Value) (Q:Hp->Prop),Inv X pins σ H s->bK o ov->bK i iv->bK v u->t o i v H Q->
  wpAny (model X.prog X.w) X.A (setItem ov iv u) (fun _ s'=>∃H',Inv X pins σ H' s'/\Q H') X.xe s
section
variable {X:Cx}{pos:Pos}
def et (i:Nat):TG:=fun v σ H Q=>Q (σ.set i (some v)) H
theorem aB {i:Nat}{x:Str}(hN:X.N.Nodup)(hi:X.N[i]?=some x)(hx:Loc X.env.scope x)(hf:X.fn x=true\/X.env.scope.names.lookup x=some .local:=by first | exact .inl rfl | exact .inr rfl | assumption):PG X (.Name x pos) (et i):=by
 intro pins s σ H v u Q I r h
 exact wpAny_assign_Name (kD I hN hi hx r (fun s' I'=>⟨_,H,I',h⟩) hf)
def K6:TGs:=fun vs σ H Q=>vs=[]/\Q σ H
def Ai (t:TG)(u:TGs):TGs:=fun vs σ H Q=>∃v r,vs=v::r/\t v σ H fun σ' H'=>u r σ' H' Q
theorem Ia:PGs X [] K6:=by
 intro pins s σ H vs us Q I r h
 obtain ⟨e,h⟩:=h
 subst e
 cases r
 exact assignInOrder_nil ⟨σ,H,I,h⟩
theorem FD {e:Expr}{es:List Expr}{t:TG}{u:TGs}(h1:PG X e t)(h2:PGs X es u)
  (hs:(assignEach (e::es) X.env).map (·.2)=assign e X.env::(assignEach es X.env).map (·.2):=by rfl):PGs X (e::es) (Ai t u):=by
 intro pins s σ H vs us Q I r h
 obtain ⟨v,vr,e1,h⟩:=h
 subst e1
 cases r with
 | cons r rr=>
  rw [hs]
  refine assignInOrder_cons (thn (h1 pins s σ H _ _ _ I r h) fun _ s1 ⟨σ1,H1,I1,q1⟩=>?_)
  exact h2 pins s1 σ1 H1 _ _ Q I1 rr q1
def K7 (K:WA)(n:Nat)(t:TGs):TG:=fun v σ H Q=>∃a xs,v=.ref a/\SqT K H a xs/\xs.length=n/\t xs σ H Q
theorem K8 {es:List Expr}{k:Nat}{t:TGs}{n:Nat}(hc:X.calm=true)(h:PGs X es t)
  (hn:(assignEach es X.env).length=n:=by rfl) (hst:(assignEach es X.env).findIdx? (·.1)=none:=by rfl):PG X (.Tuple es k pos) (K7 X.K n t):=by
 intro pins s σ H v u Q I r hw
 obtain ⟨a,xs,e1,hq,hl,hw⟩:=hw
 subst e1
 cases r
 obtain ⟨its,rv,ht,hz⟩:=I.tuple hq
 refine assign_Tuple_tuple (I.ok.hd hc) ht (by simp [hn,←hl,rv.length]) hst fun h' hx=>?_
 have I1:Inv X pins σ H {s with heap:=h'}:=I.kept (t':=s.toks) fun b o e=>hx b o (Nat.ne_of_lt (Heap.lt_size e)) e
 exact h pins _ σ H xs _ Q I1 (by simpa using rv) hw
def MG (to ti:TE)(t:K4):TG:=fun v σ H Q=>to σ H fun o H1=>ti σ H1 fun i H2=>t o i v H2 fun H3=>Q σ H3
theorem rT {o i:Expr}{to ti:TE}{t:K4}(ho:PE X o to)(hi:PE X i ti)(hs:K5 X t)
  (ha:∀v,assign (.Subscript o i pos) X.env v=(do
   let ov ←holding [v] (eval o X.env)
   let iv ←holding [v,ov] (eval i X.env)
   standAt pos
   holding [v,ov,iv] (setItem ov iv v)
   release [v,ov,iv] []):=by intro _;rfl):PG X (.Subscript o i pos) (MG to ti t):=by
 intro pins s σ H v u Q I r h
 rw [ha]
 refine wpAny_bind (wpAny_holding (thn (ho pins s σ H _ I h) fun ov s1 ⟨x,H1,I1,r1,q1⟩=>?_))
 refine wpAny_bind (wpAny_holding (thn (hi pins s1 σ H1 _ I1 q1) fun iv s2 ⟨y,H2,I2,r2,q2⟩=>?_))
 refine wpAny_bind (wpAny_standAt (wpAny_bind (wpAny_holding (thn (hs pins s2 σ H2 x y v ov iv u _ I2 r1 r2 r q2) fun _ s3 ⟨H3,I3,q3⟩=>?_))))
 exact wpAny_release ⟨σ,H3,I3,q3⟩
def Aj (te:TE)(g:TG):TS:=fun D σ H=>te σ H fun x H1=>g x σ H1 D.nx
theorem gP {tg e:Expr}{te:TE}{g:TG}(he:PE X e te)(hg:PG X tg g)(hs:swapsWithSole [tg] e pos.line X.env=pure false:=by rfl)(hw:swappedStores [tg] e X.env=pure none:=by rfl)
  (h1:(assignEach [tg] X.env).map (·.2)=[assign tg X.env]:=by rfl):PS X (.Assign [tg] e pos) (Aj te g):=by
 intro pins s σ H D I h
 refine wpAny_Assign_stores (thn (he pins s σ H _ I h) fun v s1 ⟨x,H1,I1,r1,q1⟩=>?_) hs hw
 rw [h1]
 exact thn (hg pins s1 σ H1 x v _ I1 r1 q1) fun _ s2 q=>q
theorem aD {i:Nat}{x:Str}{e:Expr}{te:TE}{pos':Pos}(hN:X.N.Nodup)(hi:X.N[i]?=some x)(hx:Loc X.env.scope x)(he:PE X e te)(hs:swapsWith e (some (.Name x pos')) pos.line X.env=pure false:=by rfl)(hf:X.fn x=true\/X.env.scope.names.lookup x=some .local:=by first | exact .inl rfl | exact .inr rfl | assumption) :
  PS X (.Assign [.Name x pos'] e pos) (Aj te (et i)):=by
 intro pins s σ H D I h
 refine wpAny_Assign_Name (thn (he pins s σ H _ I h) fun v s1 ⟨y,H1,I1,r1,q1⟩=>?_) hs
 exact kD I1 hN hi hx r1 (fun s2 I2=>⟨_,H1,I2,q1⟩) hf
def MH (i j:Nat)(ta:TA):TS:=fun D σ H=>ta σ H fun vs H1=>∃v w,vs=[v,w]/\D.nx ((σ.set i (some v)).set j (some w)) H1
theorem K9 {i j:Nat}{x y:Str}{a b:Expr}{ta:TA}{px py pt:Pos}{kt k2 pt2}(hc:X.calm=true)(hN:X.N.Nodup)(hi:X.N[i]?=some x)(hj:X.N[j]?=some y)(hij:i≠j)
  (hx:X.env.scope.names.lookup x=some .local) (hy:X.env.scope.names.lookup y=some .local) (ha:PA X [a,b] ta)
  (hw:swappedStores [.Tuple [.Name x px,.Name y py] kt pt] (.Tuple [a,b] k2 pt2) X.env=pure (some [x,y]))
  (hs:swapsWithSole [.Tuple [.Name x px,.Name y py] kt pt] (.Tuple [a,b] k2 pt2) pos.line X.env=pure false:=by rfl) :
  PS X (.Assign [.Tuple [.Name x px,.Name y py] kt pt] (.Tuple [a,b] k2 pt2) pos) (MH i j ta):=by
 intro pins s σ H D I h
 rw [exec_Assign_arm]
 refine wpAny_bind (wpAny_standAt ?_)
 rw [hs]
 refine wpAny_bind (wpAny_pure ?_)
 rw [if_neg (by decide)]
 refine wpAny_bind (Tuple_ (thn (ha _ pins s σ H _ I h) fun us s1 ⟨vs,H1,I1,r1,q1⟩=>?_))
 obtain ⟨v,w,e1,q1⟩:=q1
 subst e1
 obtain ⟨u1,u2,rfl,rv,rw'⟩:∃u1 u2,us=[u1,u2]/\bK v u1/\bK w u2:=by
  cases r1 with
  | cons p q=>
   cases q with
   | cons p' q'=>
    cases q'
    exact ⟨_,_,rfl,p,p'⟩
 refine wpAny_newObj_type ?_ (by show 2<=sizeLine;decide)
 have I2:Inv X pins σ H1 {s1 with heap:=s1.heap.push {cls:=.type "tuple",data:=.seq [u1,u2].toArray}}:=I1.kept (t':=s1.toks) fun b o e=>Heap.get?_push_of_some _ e
 rw [hw]
 refine wpAny_bind (wpAny_pure ?_)
 show wpAny (model X.prog X.w) X.A (do rule "assign.swapped-stores";let items ←unpackItems (.ref s1.heap.objs.size) 2 none;assignInOrder [fun v=>bindName X.env y v,fun v=>bindName X.env x v] items.reverse;pure Flow.next) _ _ _
 refine wpAny_bind (wpAny_rule (wpAny_bind (unpackItems_tuple (items:=#[u1,u2]) (I.ok.hd hc) (IsTup.new s1.heap _) fun h' hx'=>?_)))
 have I3:=I2.kept (h':=h') (t':=s1.toks) fun b o e=>hx' b o (Nat.ne_of_lt (Heap.lt_size e)) e
 show wpAny _ _ (assignInOrder [fun v=>bindName X.env y v,fun v=>bindName X.env x v] [u2,u1] >>= fun _=>pure Flow.next) _ _ _
 refine wpAny_bind (assignInOrder_cons (wpAny_bindName (kD I3 hN hj (.inl hy) rw' (fun s2 I4=>?_) (.inr hy))))
 refine assignInOrder_cons (wpAny_bindName (kD I4 hN hi (.inl hx) rv (fun s3 I5=>assignInOrder_nil (wpAny_pure ?_)) (.inr hx)))
 rw [List.set_comm _ _ (Ne.symm hij)] at I5
 exact ⟨_,H1,I5,q1⟩
end
section
variable {X:Cx}{pos:Pos}
def FE (c:TT)(tb:TS):TS:=fun D σ H=>∃W:Nat->St->Hp->Prop,(∃m,W m σ H)/\∀m σ H,W m σ H->
 c σ H fun b H1=>if b=true then ∃N:St->Hp->Prop,(∀σ' H',N σ' H'->∃m',m' < m/\W m' σ' H')/\tb {D with nx:=N,ct:=N,bk:=D.nx} σ H1 else D.nx σ H1
theorem FG {c:Expr}{body:List Stmt}{tc:TT}{tb:TS}(hp:PassesOwn (model X.prog X.w) X.A X.env X.xe)(hc:PT X c tc)(hb:PSs X body tb):PS X (.While c body [] pos) (FE tc tb):=by
 intro pins s σ H D I h
 obtain ⟨W,⟨m0,w0⟩,turn⟩:=h
 refine wpAny_While (codeAny_whileLoop (fun n s'=>∃σ' H',Inv X pins σ' H' s'/\W n σ' H') ?_ m0 ⟨σ,H,I,w0⟩)
 rintro n s1 ⟨σ1,H1,I1,w1⟩
 refine wpAny_passesOwn hp (thn (hc pins s1 σ1 H1 _ I1 (turn n σ1 H1 w1)) fun b s2 ⟨H2,I2,q2⟩=>?_)
 cases b with
 | true=>
  obtain ⟨N,hN,q2⟩:=q2
  rw [if_pos rfl]
  refine wpAny_passesOwn hp (thn (hb pins s2 σ1 H2 _ I2 q2) fun f s3 q3=>?_)
  cases f with
  | next=>
   obtain ⟨σ3,H3,I3,n3⟩:=q3
   obtain ⟨m',hm,w3⟩:=hN σ3 H3 n3
   exact ⟨m',hm,σ3,H3,I3,w3⟩
  | cont=>
   obtain ⟨σ3,H3,I3,n3⟩:=q3
   obtain ⟨m',hm,w3⟩:=hN σ3 H3 n3
   exact ⟨m',hm,σ3,H3,I3,w3⟩
  | brk=>exact q3
  | ret v=>exact q3
 | false=>
  rw [if_neg Bool.false_ne_true]
  exact wpAny_execs_nil ⟨σ1,H2,I2,q2⟩
end
structure It where
 go:Nat->Hp->Prop
 yld:Nat->Hp->V->Hp->Prop
 stop:Nat->Hp->Prop
def rV (X:Cx)(pins:List (Addr×Obj))(H:Hp)(b:Addr):Prop:=
 H b=none/\b≠X.env.locals/\b∉X.fs/\(b∈X.ex\/X.s₀.heap.objs.size<=b)/\(∀x c,X.env.cells.lookup x=some c->c≠b)/\∀p∈X.pn++pins,p.1≠b
theorem Inv.fpOk {X:Cx}{pins:List (Addr×Obj)}{σ:St}{H H':Hp}{s:Shared}{b:Addr}(I:Inv X pins σ H s)(hb:s.heap.objs.size<=b)(hn:H' b=none):rV X pins H' b:=by
 refine ⟨hn,Nat.ne_of_gt (Nat.lt_of_lt_of_le I.lt hb),I.nofs hb,.inr (Nat.le_trans I.sz hb),fun x c e z=>?_,fun p hp z=>?_⟩
 ·obtain ⟨v,q⟩:=I.cell x c e
  exact absurd (Nat.lt_of_lt_of_le q.lt (by rw [z];exact hb)) (Nat.lt_irrefl _)
 ·exact absurd (Nat.lt_of_lt_of_le (Heap.lt_size (I.pin p hp).1) (by rw [z];exact hb)) (Nat.lt_irrefl _)
structure EA (P:Program)(w:World)(K:WA)(tg:Expr)(J:It)(fp:List Addr)(it:Addr)(tn:Nat->Heap->Prop):Prop where
 mem:it∈fp
 obj:∀i h,tn i h->∀b∈fp,∃o,h.get? b=some o/\∀v,o.data≠.cell v
 keep:∀i h h',tn i h->(∀b∈fp,∀o,h.get? b=some o->h'.get? b=some o)->tn i h'
 item:∀(X:Cx),X.prog=P->X.w=w->X.K=K->X.calm=true->∀(i:Nat) (pins:List (Addr×Obj)) (s:Shared) (σ:St) (H:Hp) (E:Value->Shared->Prop),Inv X pins σ H s->(∀b∈fp,rV X pins H b)->tn i s.heap->J.go i H->
  wpAny (model P w) X.A (pyNext (.ref it)) (fun r s1=>∃u,r=some u/\
   wpAny (model P w) X.A (letOwnedTupleGo tg (.ref it) u) (fun _ s2=>∃x H',Inv X pins σ H' s2/\bK x u/\J.yld i H x H'/\tn (i+1) s2.heap/\∀b∈fp,H' b=none) E s1) E s
 done:∀(X:Cx),X.prog=P->X.w=w->X.K=K->X.calm=true->∀(i:Nat) (pins:List (Addr×Obj)) (s:Shared) (σ:St) (H:Hp) (E:Value->Shared->Prop),Inv X pins σ H s->(∀b∈fp,rV X pins H b)->tn i s.heap->J.stop i H->
  wpAny (model P w) X.A (pyNext (.ref it)) (fun r s1=>r=none/\Inv X pins σ H s1) E s
 self:∀(A:Around) (i:Nat) (s:Shared) (Q:Value->Shared->Prop) (E:Value->Shared->Prop),tn i s.heap->Q (.ref it) s->wpAny (model P w) A (pyIter (.ref it)) Q E s
abbrev TI:=St->Hp->(It->Hp->Prop)->Prop
def PIE (X:Cx)(pins:List (Addr×Obj))(σ:St)(tg:Expr)(R:It->Hp->Prop)(itv:Value)(s2:Shared):Prop:=
 ∃(it:Addr) (fp:List Addr) (tn:Nat->Heap->Prop) (J:It) (H':Hp),itv=.ref it/\Inv X pins σ H' s2/\EA X.prog X.w X.K tg J fp it tn/\tn 0 s2.heap/\(∀b∈fp,rV X pins H' b)/\R J H'
def PI (X:Cx)(tg iter:Expr)(wi:TI):Prop:=
 ∀(pins:List (Addr×Obj)) (s:Shared) (σ:St) (H:Hp) (R:It->Hp->Prop),Inv X pins σ H s->wi σ H R->
  wpAny (model X.prog X.w) X.A (eval iter X.env) (fun v s1=>wpAny (model X.prog X.w) X.A (pyIter v) (PIE X pins σ tg R) X.xe s1) X.xe s
theorem Ka {M:Model}{A:Around}{E:Value->Shared->Prop}{s:Shared}{tg:Expr}{it:Addr}{u:Value}{o:Obj}{n:String}{vs:Array Value}{Q:Unit->Shared->Prop}(ho:s.heap.get? it=some o)(hc:o.cls=.type n)(hd:o.data=.fields vs)
  (hn:["enumerate","zip","dict_itemiterator","dict_reverseitemiterator","odict_iterator","itertools.zip_longest","itertools.pairwise"].contains n=false) (hQ:Q () s):wpAny M A (letOwnedTupleGo tg (.ref it) u) Q E s:=by
 unfold letOwnedTupleGo
 cases tg<;>first
  | exact wpAny_pure hQ
  | (cases u<;>first
    | exact wpAny_pure hQ
    | (refine wpAny_bind (wpAny_load ho ?_)
       rw [hc,hd]
       show wpAny M A (if (["enumerate","zip","dict_itemiterator","dict_reverseitemiterator","odict_iterator","itertools.zip_longest","itertools.pairwise"].contains n && vs[0]? == some (rawInt _))=true then _ else _) Q E s
       rw [if_neg (by intro h;rw [hn,Bool.false_and] at h;cases h)]
       exact wpAny_pure hQ))
def Itl (K:WA)(a:Addr):It:=
 ⟨fun i H=>∃xs x,SqL K H a xs/\xs[i]?=some x,fun i H x H'=>H'=H/\∀xs,SqL K H a xs->xs[i]?=some x,fun i H=>∃xs,SqL K H a xs/\xs.length<=i⟩
def Itr (lo:Int)(n:Nat):It:=⟨fun i _=>i < n,fun i H x H'=>H'=H/\x=.int (lo+i),fun i _=>n<=i⟩
theorem EB {P:Program}{w:World}{K:WA}{tg:Expr}(a it:Addr):EA P w K tg (Itl K a) [it] it (fun i h=>h.IsListIter it a i) where
 mem:=by simp
 obj:=fun i h st b hb=>by
  have e:b=it:=by simpa using hb
  subst e
  obtain ⟨o,e,c,d⟩:=st
  exact ⟨o,e,fun v z=>by rw [d] at z;cases z⟩
 keep:=fun i h h' st k=>st.at fun o e=>k it (by simp) o e
 item:=by
  intro X hP hw hK hc i pins s σ H E I hf st hg
  subst hP hw hK
  obtain ⟨xs,x,hq,hx⟩:=hg
  obtain ⟨its,rv,p,hz⟩:=I.list hq
  obtain ⟨u,hu,ru⟩:=rv.get hx
  obtain ⟨f0,f1,f2,f3,f4,f5⟩:=hf it (by simp)
  refine wpAny_pyNext_list_item st p.isList (x:=u) (by simpa using hu) fun h' st' sb=>?_
  have I1:Inv X pins σ H {s with heap:=h'}:=I.turned (t':=s.toks) (fun b o hb e=>(sb.2 b hb).trans e) f0 f1 f3 f4 f5
  obtain ⟨o,e,c,d⟩:=id st'
  exact ⟨u,rfl,Ka (s:={s with heap:=h'}) e c d (by decide) ⟨x,H,I1,ru,⟨rfl,fun ys hy=>by rw [I.list_inj hy hq];exact hx⟩,st',fun b hb=>(hf b hb).1⟩⟩
 done:=by
  intro X hP hw hK hc i pins s σ H E I hf st hg
  subst hP hw hK
  obtain ⟨xs,hq,hx⟩:=hg
  obtain ⟨its,rv,p,hz⟩:=I.list hq
  obtain ⟨f0,f1,f2,f3,f4,f5⟩:=hf it (by simp)
  have hl:=rv.length
  exact wpAny_pyNext_list_end (I.ok.hd hc) st p.isList (by simp;omega) fun h' eb=>⟨rfl,I.turned (t':=s.toks) (fun b o hb e=>eb b o hb e) f0 f1 f3 f4 f5⟩
 self:=fun _ _ _ _ _ st h=>wpAny_pyIter_listiter st h
theorem B7 {P:Program}{w:World}{K:WA}{tg:Expr}(it:Addr)(lo:Int)(n:Nat):EA P w K tg (Itr lo n) [it] it (fun i h=>IsRangeIter h it (lo+(i:Nat) * 1) ((n:Int) - (i:Nat)) 1) where
 mem:=by simp
 obj:=fun i h st b hb=>by
  have e:b=it:=by simpa using hb
  subst e
  exact ⟨_,st,fun v z=>by
   have z':Data.fields _=Data.cell v:=z
   cases z'⟩
 keep:=fun i h h' st k=>k it (by simp) _ st
 item:=by
  intro X hP hw hK hc i pins s σ H E I hf st hg
  subst hP hw hK
  obtain ⟨f0,f1,f2,f3,f4,f5⟩:=hf it (by simp)
  have W:=Walks.range (prog:=X.prog) (w:=X.w) (I.ok.hd hc) it lo 1 n
  refine W.item i s _ _ hg st fun v h' tk hv st' kk=>?_
  obtain ⟨t,rfl⟩:=hv
  have I1:Inv X pins σ H {s with heap:=h',toks:=tk}:=I.turned (fun b o hb e=>kk b o (by simpa using hb) e) f0 f1 f3 f4 f5
  refine ⟨_,rfl,Ka (s:={s with heap:=h',toks:=tk}) (n:="range_iterator") st' rfl rfl (by decide) ⟨.int (lo+i),H,I1,⟨t,?_⟩,⟨rfl,rfl⟩,st',fun b hb=>(hf b hb).1⟩⟩
  rw [Int.mul_one]
 done:=by
  intro X hP hw hK hc i pins s σ H E I hf st hg
  subst hP hw hK
  obtain ⟨f0,f1,f2,f3,f4,f5⟩:=hf it (by simp)
  exact wpAny_pyNext_range_end (I.ok.hd hc) st (by have:n<=i:=hg;omega) fun h' eb=>⟨rfl,I.turned (t':=s.toks) (fun b o hb e=>eb b o hb e) f0 f1 f3 f4 f5⟩
 self:=fun _ _ _ _ _ st h=>wpAny_pyIter_rangeiter st h
section
variable {X:Cx}{tg:Expr}
def Kb (K:WA)(tl:TE):TI:=fun σ H R=>tl σ H fun x H1=>∃a,x=.ref a/\(∃xs,SqL K H1 a xs)/\R (Itl K a) H1
theorem Ib {l:Expr}{tl:TE}(hl:PE X l tl):PI X tg l (Kb X.K tl):=by
 intro pins s σ H R I h
 refine thn (hl pins s σ H _ I h) fun v s1 ⟨x,H1,I1,r1,q1⟩=>?_
 obtain ⟨a,e,⟨xs,hq⟩,q⟩:=q1
 subst e
 cases r1
 obtain ⟨its,rv,p,hz⟩:=I1.list hq
 refine wpAny_pyIter_list p.isList ?_
 refine ⟨s1.heap.objs.size,[s1.heap.objs.size],_,_,H1,rfl,I1.kept (t':=s1.toks) fun b o e=>Heap.get?_push_of_some _ e,EB a _,⟨_,Heap.get?_push_size _ rfl,rfl,rfl⟩,fun b hb=>?_,q⟩
 have e:b=s1.heap.objs.size:=by simpa using hb
 subst e
 exact I1.fpOk (Nat.le_refl _) (I1.hok.fresh (Nat.le_refl _))
theorem Ak {pins:List (Addr×Obj)}{σ:St}{H:Hp}{s:Shared}{R:It->Hp->Prop}{E:Value->Shared->Prop}{lo hi:Int}{t u v:Tok}{tk:Nat}(I:Inv X pins σ H s)(h1:-(2 ^ 62)<=lo)(h2:lo < 2 ^ 62)(h3:-(2 ^ 62)<=hi)(h4:hi < 2 ^ 62)
  (q:R (Itr lo (hi - lo).toNat) H):wpAny (model X.prog X.w) X.A (pyIter (.ref s.heap.objs.size)) (PIE X pins σ tg R) E {s with heap:=s.heap.push {cls:=.type "range",data:=.fields #[.int lo t,.int hi u,.int 1 v]},toks:=tk}:=by
 refine wpAny_pyIter_range (IsRange.new ..) (small_one h1 h2 h3 h4) ?_
 have I1:Inv X pins σ H {s with heap:=s.heap.push {cls:=.type "range",data:=.fields #[.int lo t,.int hi u,.int 1 v]},toks:=tk}:=I.kept fun b o e=>Heap.get?_push_of_some _ e
 refine ⟨(s.heap.push {cls:=.type "range",data:=.fields #[.int lo t,.int hi u,.int 1 v]}).objs.size,[(s.heap.push {cls:=.type "range",data:=.fields #[.int lo t,.int hi u,.int 1 v]}).objs.size],_,_,H,rfl,
  I1.kept (t':=tk) fun b o e=>Heap.get?_push_of_some _ e,B7 _ lo (hi - lo).toNat,?_,fun b hb=>?_,q⟩
 ·have e1:lo+((0:Nat):Int) * 1=lo:=by simp
  have e2:(((hi - lo).toNat:Nat):Int) - ((0:Nat):Int)=Builtin.Range.rangeSize lo hi 1:=by rw [rangeSize_one];split<;>omega
  show IsRangeIter _ _ (lo+((0:Nat):Int) * 1) ((((hi - lo).toNat:Nat):Int) - ((0:Nat):Int)) 1
  rw [e1,e2]
  exact Heap.get?_push_size _ rfl
 ·have e:b=(s.heap.push {cls:=.type "range",data:=.fields #[.int lo t,.int hi u,.int 1 v]}).objs.size:=by simpa using hb
  subst e
  exact I1.fpOk (Nat.le_refl _) (I1.hok.fresh (Nat.le_refl _))
def Kc (ta:TA):TI:=fun σ H R=>ta σ H fun vs H1=>∃j:Int,vs=[.int j]/\-(2 ^ 62)<=j/\j < 2 ^ 62/\R (Itr 0 j.toNat) H1
def Kd (ta:TA):TI:=fun σ H R=>ta σ H fun vs H1=>∃i j:Int,vs=[.int i,.int j]/\(-(2 ^ 62)<=i/\i < 2 ^ 62/\-(2 ^ 62)<=j/\j < 2 ^ 62)/\R (Itr i (j - i).toNat) H1
theorem EC {a:Expr}{ta:TA}{p pos:Pos}(hg:Gl X "range")(hm:X.mg "range"=none)(ha:PA X [a] ta)(hs:starEach [a] X.env=[(false,eval a X.env)]:=by rfl):PI X tg (.Call (.Name "range" p) [a] [] pos) (Kc ta):=by
 intro pins s σ H R I h
 refine Call_ (kX I hg hm boot_range (PyProof.Rows.callWith_type1 (thn (ha pos pins s σ H _ I h) fun us s1 ⟨vs,H1,I1,r1,q1⟩=>?_) hs rfl))
 obtain ⟨j,e,q1,q2,q⟩:=q1
 subst e
 cases r1 with
 | cons r rr=>
  cases rr
  obtain ⟨t,rfl⟩:=r
  exact call_range_1 (Ak I1 (by omega) (by omega) q1 q2 (by simpa using q))
theorem ED {a b:Expr}{ta:TA}{p pos:Pos}(hg:Gl X "range")(hm:X.mg "range"=none)(ha:PA X [a,b] ta)(hs:starEach [a,b] X.env=[(false,eval a X.env),(false,eval b X.env)]:=by rfl)(hs2:starEach [b] X.env=[(false,eval b X.env)]:=by rfl) :
  PI X tg (.Call (.Name "range" p) [a,b] [] pos) (Kd ta):=by
 intro pins s σ H R I h
 refine Call_ (kX I hg hm boot_range (PyProof.Rows.callWith_type1 (thn (ha pos pins s σ H _ I h) fun us s1 ⟨vs,H1,I1,r1,q1⟩=>?_) (by rw [hs,hs2]) (by rw [hs2];rfl)))
 obtain ⟨i,j,e,⟨q1,q2,q3,q4⟩,q⟩:=q1
 subst e
 cases r1 with
 | cons r rr=>
  cases rr with
  | cons r' rr=>
   cases rr
   obtain ⟨t,rfl⟩:=r
   obtain ⟨t',rfl⟩:=r'
   exact call_range_2 (Ak I1 q1 q2 q3 q4 q)
def MJ (wi:TI)(g:TG)(tb:TS):TS:=fun D σ H=>wi σ H fun J H1=>∃W:Nat->Nat->St->Hp->Prop,(∃m,W 0 m σ H1)/\∀i m σ H,W i m σ H->
 (J.stop i H/\D.nx σ H)\/(J.go i H/\∃N:St->Hp->Prop,(∀σ' H',N σ' H'->∃m',m' < m/\W (i+1) m' σ' H')/\∀x H',J.yld i H x H'->g x σ H' fun σ2 H2=>tb {D with nx:=N,ct:=N,bk:=D.nx} σ2 H2)
def uS (fp:List Addr)(h:Heap):List (Addr×Obj):=fp.filterMap fun b=>(h.get? b).map fun o=>(b,o)
theorem lg {fp:List Addr}{h:Heap}{b:Addr}{o:Obj}(hb:b∈fp)(e:h.get? b=some o):(b,o)∈uS fp h:=List.mem_filterMap.mpr ⟨b,hb,by rw [e];rfl⟩
theorem EE {fp:List Addr}{h:Heap}{p:Addr×Obj}(hp:p∈uS fp h):p.1∈fp/\h.get? p.1=some p.2:=by
 obtain ⟨b,hb,e⟩:=List.mem_filterMap.mp hp
 cases q:h.get? b with
 | none=>rw [q] at e;cases e
 | some o=>
  rw [q] at e
  have e':(b,o)=p:=Option.some.inj e
  subst e'
  exact ⟨hb,q⟩
theorem Inv.pinned {pins:List (Addr×Obj)}{σ:St}{H:Hp}{s:Shared}{fp:List Addr}(I:Inv X pins σ H s)(hf:∀b∈fp,rV X pins H b)(ho:∀b∈fp,∃o,s.heap.get? b=some o/\∀v,o.data≠.cell v):Inv X (pins++uS fp s.heap) σ H s:=
 I.pins_of fun p hp=>(List.mem_append.mp hp).elim (fun z=>I.pin p (List.mem_append_right _ z)) fun z=>by
  obtain ⟨hb,e⟩:=EE z
  obtain ⟨f0,f1,f2,_⟩:=hf p.1 hb
  obtain ⟨o,e',d⟩:=ho p.1 hb
  rw [e] at e';cases e'
  exact ⟨e,f0,f1,f2,d⟩
theorem Inv.unpinned {pins pl:List (Addr×Obj)}{σ:St}{H:Hp}{s:Shared}(I:Inv X (pins++pl) σ H s):Inv X pins σ H s:=I.pins_of fun p hp=>I.pin p (List.mem_append_right _ (List.mem_append_left _ hp))
theorem cX {iter:Expr}{body:List Stmt}{wi:TI}{g:TG}{tb:TS}{pos:Pos}(hp:PassesOwn (model X.prog X.w) X.A X.env X.xe)(hc:X.calm=true)(hi:PI X tg iter wi)(hg:PG X tg g)(hb:PSs X body tb)
  (hs:∀x,foldedSetIterable iter X.env x=pure x:=by intro _;rfl):PS X (.For tg iter body [] pos) (MJ wi g tb):=by
 intro pins s σ H D I h
 refine wpAny_For (thn (hi pins s σ H _ I h) fun v s1 h1=>thn h1 fun itv s2 h2=>?_) hs
 obtain ⟨it,fp,tn,J,H2,e,I2,T,st2,f2,W,⟨m0,w0⟩,turn⟩:=h2
 subst e
 have stat:∀{H':Hp},(∀b∈fp,H' b=none)->∀b∈fp,rV X pins H' b:=fun hn b hb=>⟨hn b hb,(f2 b hb).2⟩
 refine codeAny_forLoop_any (fun n s'=>∃i σ' H',Inv X pins σ' H' s'/\tn i s'.heap/\(∀b∈fp,H' b=none)/\W i n σ' H') ?_ m0 ⟨0,σ,H2,I2,st2,fun b hb=>(f2 b hb).1,w0⟩
 rintro n s3 ⟨i,σ3,H3,I3,st3,fr3,w3⟩
 rcases turn i n σ3 H3 w3 with ⟨stop,qn⟩ | ⟨go,N,hN,step⟩
 ·refine wpAny_passesOwn hp (thn (T.done X rfl rfl rfl hc i pins s3 σ3 H3 X.xe I3 (stat fr3) st3 stop) fun r s4 ⟨hr,I4⟩=>?_)
  subst hr
  exact wpAny_execs_nil ⟨σ3,H3,I4,qn⟩
 ·refine wpAny_passesOwn hp (thn (T.item X rfl rfl rfl hc i pins s3 σ3 H3 X.xe I3 (stat fr3) st3 go) fun r s4 ⟨u,hr,h4⟩=>?_)
  subst hr
  refine wpAny_passesOwn hp (thn h4 fun _ s5 ⟨x,H5,I5,r5,y5,st5,fr5⟩=>?_)
  have I5':=I5.pinned (stat fr5) (T.obj _ _ st5)
  refine wpAny_passesOwn hp (thn (hg _ s5 σ3 H5 x u _ I5' r5 (step x H5 y5)) fun _ s6 ⟨σ6,H6,I6,q6⟩=>?_)
  refine wpAny_passesOwn hp (thn (hb _ s6 σ6 H6 _ I6 q6) fun f s7 q7=>?_)
  have again:∀{σ7:St} {H7:Hp},Inv X (pins++uS fp s5.heap) σ7 H7 s7->N σ7 H7->∃m,m < n/\∃i σ' H',Inv X pins σ' H' s7/\tn i s7.heap/\(∀b∈fp,H' b=none)/\W i m σ' H':=fun {σ7 H7} I7 n7=>by
   obtain ⟨m',hm,w7⟩:=hN σ7 H7 n7
   refine ⟨m',hm,i+1,σ7,H7,I7.unpinned,T.keep _ _ _ st5 fun b hb o e=>(I7.pin (b,o) (List.mem_append_right _ (List.mem_append_right _ (lg hb e)))).1,fun b hb=>?_,w7⟩
   obtain ⟨o,e,d⟩:=T.obj _ _ st5 b hb
   exact (I7.pin (b,o) (List.mem_append_right _ (List.mem_append_right _ (lg hb e)))).2.1
  cases f with
  | next=>obtain ⟨σ7,H7,I7,n7⟩:=q7;exact again I7 n7
  | cont=>obtain ⟨σ7,H7,I7,n7⟩:=q7;exact again I7 n7
  | brk=>obtain ⟨σ7,H7,I7,q7⟩:=q7;exact ⟨σ7,H7,I7.unpinned,q7⟩
  | ret v=>obtain ⟨x7,σ7,H7,I7,r7,q7⟩:=q7;exact ⟨x7,σ7,H7,I7.unpinned,r7,q7⟩
end
theorem FH {K:WA}{a:Addr}{xs:List V}{g:TG}{tb:TS}{D:gO}{σ:St}{H:Hp}(Pv:Nat->St->Hp->Prop)(h0:Pv 0 σ H)(hl:∀i σ H,i<=xs.length->Pv i σ H->SqL K H a xs)
  (hs:∀i x σ H,xs[i]?=some x->Pv i σ H->g x σ H fun σ2 H2=>tb {D with nx:=Pv (i+1),ct:=Pv (i+1),bk:=D.nx} σ2 H2) (hd:∀σ H,Pv xs.length σ H->D.nx σ H) :
  ∃W:Nat->Nat->St->Hp->Prop,(∃m,W 0 m σ H)/\∀i m σ H,W i m σ H->
   ((Itl K a).stop i H/\D.nx σ H)\/((Itl K a).go i H/\∃N:St->Hp->Prop,(∀σ' H',N σ' H'->∃m',m' < m/\W (i+1) m' σ' H')/\∀x H',(Itl K a).yld i H x H'->g x σ H' fun σ2 H2=>tb {D with nx:=N,ct:=N,bk:=D.nx} σ2 H2):=by
 refine ⟨fun i m σ H=>m=xs.length - i/\i<=xs.length/\Pv i σ H,⟨xs.length,by simp,Nat.zero_le _,h0⟩,?_⟩
 rintro i m σ H ⟨rfl,hi,p⟩
 have q:=hl i σ H hi p
 by_cases hlt:i < xs.length
 ·refine .inr ⟨⟨xs,xs[i],q,by simp [hlt]⟩,Pv (i+1),fun σ' H' p'=>⟨xs.length - (i+1),by omega,rfl,hlt,p'⟩,fun x H' y=>?_⟩
  obtain ⟨e,y⟩:=y
  subst e
  exact hs i x σ _ (y xs q) p
 ·have e:i=xs.length:=by omega
  subst e
  exact .inl ⟨⟨xs,q,Nat.le_refl _⟩,hd σ H p⟩
theorem EF {lo:Int}{n:Nat}{g:TG}{tb:TS}{D:gO}{σ:St}{H:Hp}(Pv:Nat->St->Hp->Prop)(h0:Pv 0 σ H)
  (hs:∀i σ H,i < n->Pv i σ H->g (.int (lo+i)) σ H fun σ2 H2=>tb {D with nx:=Pv (i+1),ct:=Pv (i+1),bk:=D.nx} σ2 H2) (hd:∀σ H,Pv n σ H->D.nx σ H) :
  ∃W:Nat->Nat->St->Hp->Prop,(∃m,W 0 m σ H)/\∀i m σ H,W i m σ H->
   ((Itr lo n).stop i H/\D.nx σ H)\/((Itr lo n).go i H/\∃N:St->Hp->Prop,(∀σ' H',N σ' H'->∃m',m' < m/\W (i+1) m' σ' H')/\∀x H',(Itr lo n).yld i H x H'->g x σ H' fun σ2 H2=>tb {D with nx:=N,ct:=N,bk:=D.nx} σ2 H2):=by
 refine ⟨fun i m σ H=>m=n - i/\i<=n/\Pv i σ H,⟨n,by simp,Nat.zero_le _,h0⟩,?_⟩
 rintro i m σ H ⟨rfl,hi,p⟩
 by_cases hlt:i < n
 ·refine .inr ⟨hlt,Pv (i+1),fun σ' H' p'=>⟨n - (i+1),by omega,rfl,hlt,p'⟩,fun x H' y=>?_⟩
  obtain ⟨e,y⟩:=y
  subst e y
  exact hs i σ _ hlt p
 ·have e:i=n:=by omega
  subst e
  exact .inl ⟨Nat.le_refl _,hd σ H p⟩
theorem FI {c:TT}{tb:TS}{D:gO}{σ:St}{H:Hp}(Pv:St->Hp->Prop)(μ:St->Hp->Nat)(h0:Pv σ H)
  (hs:∀σ H,Pv σ H->c σ H fun b H1=>if b=true then tb {D with nx:=fun σ' H'=>Pv σ' H'/\μ σ' H' < μ σ H,ct:=fun σ' H'=>Pv σ' H'/\μ σ' H' < μ σ H,bk:=D.nx} σ H1 else D.nx σ H1)
  (mono:∀σ H Q Q',(∀b H1,Q b H1->Q' b H1)->c σ H Q->c σ H Q'):FE c tb D σ H:=by
 refine ⟨fun m σ H=>m=μ σ H/\Pv σ H,⟨_,rfl,h0⟩,?_⟩
 rintro m σ H ⟨rfl,p⟩
 refine mono σ H _ _ (fun b H1 q=>?_) (hs σ H p)
 cases b with
 | true=>exact ⟨_,fun σ' H' ⟨p',l⟩=>⟨_,l,rfl,p'⟩,q⟩
 | false=>exact q
abbrev R2:=V->V->Hp->VK->Prop
def OpR (X:Cx)(f:Value->Value->Sem Value)(r:R2):Prop:=
 ∀(pins:List (Addr×Obj)) (s:Shared) (σ:St) (H:Hp) (x y:V) (v u:Value) (Q:VK),Inv X pins σ H s->bK x v->bK y u->r x y H Q->
  wpAny (model X.prog X.w) X.A (f v u) (EP X pins σ Q) X.xe s
def UnR (X:Cx)(f:Value->Sem Value)(r:V->Hp->VK->Prop):Prop:=
 ∀(pins:List (Addr×Obj)) (s:Shared) (σ:St) (H:Hp) (x:V) (v:Value) (Q:VK),Inv X pins σ H s->bK x v->r x H Q->
  wpAny (model X.prog X.w) X.A (f v) (EP X pins σ Q) X.xe s
def ez (X:Cx)(f:Value)(r:List V->Hp->VK->Prop):Prop:=
 ∀(pins:List (Addr×Obj)) (s:Shared) (σ:St) (H:Hp) (xs:List V) (us:List Value) (Q:VK),Inv X pins σ H s->br xs us->r xs H Q->
  wpAny (model X.prog X.w) X.A (call f us) (EP X pins σ Q) X.xe s
def NC (X:Cx)(r:V->Hp->(Bool->Hp->Prop)->Prop):Prop:=
 ∀(pins:List (Addr×Obj)) (s:Shared) (σ:St) (H:Hp) (x:V) (v:Value) (Q:Bool->Hp->Prop),Inv X pins σ H s->bK x v->r x H Q->
  wpAny (model X.prog X.w) X.A (truthy v) (TP X pins σ Q) X.xe s
def tOp (r:R2)(ta tb:TE):TE:=fun σ H Q=>ta σ H fun x H1=>tb σ H1 fun y H2=>r x y H2 Q
def tUn (r:V->Hp->VK->Prop)(ta:TE):TE:=fun σ H Q=>ta σ H fun x H1=>r x H1 Q
def rI (C:Int->Int->Prop)(g:Int->Int->V):R2:=fun x y H Q=>∃i j,x=.int i/\y=.int j/\C i j/\Q (g i j) H
def rI0 (g:Int->Int->V):R2:=fun x y H Q=>∃i j,x=.int i/\y=.int j/\Q (g i j) H
def rU (g:Int->V):V->Hp->VK->Prop:=fun x H Q=>∃i,x=.int i/\Q (g i) H
section
variable {X:Cx}{a b c:Expr}{ta tb tc:TE}{pos:Pos}
theorem La (ha:PE X a ta)(hb:PE X b tb){pins:List (Addr×Obj)}{s:Shared}{σ:St}{H:Hp}{R:V->V->Hp->Prop}(I:Inv X pins σ H s)
  (h:ta σ H fun x H1=>tb σ H1 fun y H2=>R x y H2) {Q:Value->Shared->Prop} {f:Value->Value->Sem Value}
  (hf:∀v u s2 x y H2,Inv X pins σ H2 s2->bK x v->bK y u->R x y H2->wpAny (model X.prog X.w) X.A (f v u) Q X.xe s2) :
  wpAny (model X.prog X.w) X.A (eval a X.env) (fun v s₁=>wpAny (model X.prog X.w) X.A (eval b X.env) (fun u s₂=>wpAny (model X.prog X.w) X.A (f v u) Q X.xe s₂) X.xe s₁) X.xe s:=by
 refine thn (ha pins s σ H _ I h) fun v s1 ⟨x,H1,I1,r1,q1⟩=>?_
 refine thn (hb pins s1 σ H1 _ I1 q1) fun u s2 ⟨y,H2,I2,r2,q2⟩=>?_
 exact hf v u s2 x y H2 I2 r1 r2 q2
theorem aP {op:Operator}{r:R2}(ho:OpR X (binaryOp op) r)(ha:PE X a ta)(hb:PE X b tb):PE X (.BinOp a op b pos) (tOp r ta tb):=by
 intro pins s σ H Q I h
 exact wpAny_BinOp (La ha hb I h fun v u s2 x y H2 I2 rx ry q=>ho pins s2 σ H2 x y v u Q I2 rx ry q)
theorem gJ {op:UnaryOp}{r:V->Hp->VK->Prop}(ho:UnR X (unaryOp op) r)(ha:PE X a ta):PE X (.UnaryOp op a pos) (tUn r ta):=by
 intro pins s σ H Q I h
 exact UnaryOp_ (thn (ha pins s σ H _ I h) fun v s1 ⟨x,H1,I1,r1,q1⟩=>ho pins s1 σ H1 x v Q I1 r1 q1)
theorem opI {f:Value->Value->Sem Value}{C:Int->Int->Prop}{g:Int->Int->Int}
  (rule:∀(i j:Int) (t u:Tok) (s:Shared) (Q:Value->Shared->Prop) (E:Value->Shared->Prop),C i j->Q (.int (g i j) s.toks) {s with toks:=s.toks+1}->wpAny (model X.prog X.w) X.A (f (.int i t) (.int j u)) Q E s) :
  OpR X f (rI C fun i j=>.int (g i j)):=by
 intro pins s σ H x y v u Q I rx ry h
 obtain ⟨i,j,rfl,rfl,hc,q⟩:=h
 obtain ⟨t,rfl⟩:=rx
 obtain ⟨t',rfl⟩:=ry
 exact rule i j t t' s _ _ hc ⟨.int (g i j),H,I.tok _,⟨_,rfl⟩,q⟩
theorem MK {f:Value->Value->Sem Value}{g:Int->Int->Int}
  (rule:∀(i j:Int) (t u:Tok) (s:Shared) (Q:Value->Shared->Prop) (E:Value->Shared->Prop),Q (.int (g i j) s.toks) {s with toks:=s.toks+1}->wpAny (model X.prog X.w) X.A (f (.int i t) (.int j u)) Q E s) :
  OpR X f (rI0 fun i j=>.int (g i j)):=by
 intro pins s σ H x y v u Q I rx ry h
 obtain ⟨i,j,rfl,rfl,q⟩:=h
 obtain ⟨t,rfl⟩:=rx
 obtain ⟨t',rfl⟩:=ry
 exact rule i j t t' s _ _ ⟨.int (g i j),H,I.tok _,⟨_,rfl⟩,q⟩
theorem Ic {f:Value->Value->Sem Value}{g:Int->Int->Bool}
  (rule:∀(i j:Int) (t u:Tok) (s:Shared) (Q:Value->Shared->Prop) (E:Value->Shared->Prop),Q (.bool (g i j)) s->wpAny (model X.prog X.w) X.A (f (.int i t) (.int j u)) Q E s) :
  OpR X f (rI0 fun i j=>.bl (g i j)):=by
 intro pins s σ H x y v u Q I rx ry h
 obtain ⟨i,j,rfl,rfl,q⟩:=h
 obtain ⟨t,rfl⟩:=rx
 obtain ⟨t',rfl⟩:=ry
 exact rule i j t t' s _ _ ⟨.bl (g i j),H,I,rfl,q⟩
def FJ (i j:Int):Prop:=0 < j/\j < 1073741824
def Lb (i j:Int):Prop:=0<=j/\j<=1000000/\i.natAbs < 2 ^ 64
def uT (i j:Int):Prop:=(-(2 ^ 64) < i/\i < 2 ^ 64)\/(-(2 ^ 64) < j/\j < 2 ^ 64)
theorem uT.ok {i j:Int}(h:uT i j):IntMulOk i j:=by
 rcases h with ⟨h1,h2⟩ | ⟨h1,h2⟩
 ·exact .of_left (intBits_le_64 h1 h2)
 ·exact .of_right (intBits_le_64 h1 h2)
theorem Lc:OpR X (binaryOp .Add) (rI0 fun i j=>.int (i+j)):=MK fun _ _ _ _ _ _ _ q=>add_int q
theorem Le:OpR X (binaryOp .Sub) (rI0 fun i j=>.int (i - j)):=MK fun _ _ _ _ _ _ _ q=>sub_int q
theorem B8:OpR X (binaryOp .Mult) (rI uT fun i j=>.int (i * j)):=opI fun _ _ _ _ _ _ _ hc q=>mul_int q hc.ok
theorem Ie:OpR X (binaryOp .FloorDiv) (rI FJ fun i j=>.int (i / j)):=opI fun i j _ _ _ _ _ hc q=>by
 have h1:(0:Int) < j:=hc.1
 have h2:j < 1073741824:=hc.2
 exact floordiv_int (by omega) (by rw [Int.fdiv_eq_ediv_of_nonneg i (by omega)];exact q) (.inl (PyProof.noPylong_small (by omega)))
theorem FK:OpR X (binaryOp .Mod) (rI (fun _ j=>0 < j) fun i j=>.int (i % j)):=opI fun i j _ _ _ _ _ hc q=>by
 have h1:(0:Int) < j:=hc
 exact mod_int' (by omega) (by rw [Int.fmod_eq_emod_of_nonneg i (by omega)];exact q)
theorem Lf:OpR X (binaryOp .Pow) (rI Lb fun i j=>.int (i ^ j.toNat)):=opI fun _ _ _ _ _ _ _ hc q=>pow_int_small hc.1 hc.2.1 hc.2.2 q
theorem unI {f:Value->Sem Value}{g:Int->Int}
  (rule:∀(i:Int) (t:Tok) (s:Shared) (Q:Value->Shared->Prop) (E:Value->Shared->Prop),Q (.int (g i) s.toks) {s with toks:=s.toks+1}->wpAny (model X.prog X.w) X.A (f (.int i t)) Q E s) :
  UnR X f (rU fun i=>.int (g i)):=by
 intro pins s σ H x v Q I rx h
 obtain ⟨i,rfl,q⟩:=h
 obtain ⟨t,rfl⟩:=rx
 exact rule i t s _ _ ⟨.int (g i),H,I.tok _,⟨_,rfl⟩,q⟩
theorem Lg:UnR X (unaryOp .USub) (rU fun i=>.int (-i)):=unI fun _ _ _ _ _ q=>neg_int q
end
def wN:V->V->Bool
 | .non,.non=>true | .non,.int _=>true | .int _,.non=>true | .non,.bl _=>true | .bl _,.non=>true | .non,.str _=>true | .str _,.non=>true
 | .int _,.int _=>true | .bl _,.bl _=>true | .str _,.str _=>true | .byt _,.byt _=>true
 | .int _,.str _=>true | .str _,.int _=>true | .bl _,.str _=>true | .str _,.bl _=>true
 | _,_=>false
def rEq:R2:=fun x y H Q=>wN x y=true/\Q (.bl (decide (x=y))) H
def rNe:R2:=fun x y H Q=>wN x y=true/\Q (.bl (!decide (x=y))) H
theorem DE {i j:Int}:decide (V.int i=V.int j)=(i == j):=by
 rw [Bool.eq_iff_iff]
 simp
theorem FL {i j:Bool}:decide (V.bl i=V.bl j)=(i == j):=by
 rw [Bool.eq_iff_iff]
 simp
theorem DF {i j:Str}:decide (V.str i=V.str j)=(i == j):=by
 rw [Bool.eq_iff_iff]
 simp
theorem DG {i j:Array UInt8}:decide (V.byt i=V.byt j)=(i.toList == j.toList):=by
 rw [Bool.eq_iff_iff]
 cases i
 cases j
 simp
section
variable {X:Cx}{a b c:Expr}{ta tb tc:TE}{pos:Pos}
theorem bU {pins:List (Addr×Obj)}{σ:St}{H:Hp}{s:Shared}{Q:VK}{k k':Bool}(I:Inv X pins σ H s)(q:Q (.bl k) H)(e:k=k'):EP X pins σ Q (.bool k') s:=by
 subst e
 exact ⟨.bl k,H,I,rfl,q⟩
theorem Ke:OpR X (compareOp .Eq) rEq:=by
 intro pins s σ H x y v u Q I rx ry h
 obtain ⟨hs,q⟩:=h
 cases x with
 | non=>
  cases rx
  cases y with
  | non=>cases ry;exact PySem.EqNone.eq_none_none (bU I q (by simp))
  | bl j=>cases ry;exact PySem.EqNone.eq_none_bool (bU I q (by simp))
  | int j=>obtain ⟨t',rfl⟩:=ry;exact PySem.EqNone.eq_none_int (bU I q (by simp))
  | str j=>obtain ⟨t',rfl⟩:=ry;exact PySem.EqNone.eq_none_str (bU I q (by simp))
  | _=>exact absurd (show false=true from hs) Bool.false_ne_true
 | bl i=>
  cases rx
  cases y with
  | non=>cases ry;exact PySem.EqNone.eq_bool_none (bU I q (by simp))
  | bl j=>cases ry;exact eq_bool (bU I q FL)
  | str j=>obtain ⟨t',rfl⟩:=ry;exact PySem.EqMixed.eq_bool_str (bU I q (by simp))
  | _=>exact absurd (show false=true from hs) Bool.false_ne_true
 | int i=>
  obtain ⟨t,rfl⟩:=rx
  cases y with
  | non=>cases ry;exact PySem.EqNone.eq_int_none (bU I q (by simp))
  | int j=>obtain ⟨t',rfl⟩:=ry;exact eq_int (bU I q DE)
  | str j=>obtain ⟨t',rfl⟩:=ry;exact PySem.EqMixed.eq_int_str (bU I q (by simp))
  | _=>exact absurd (show false=true from hs) Bool.false_ne_true
 | str i=>
  obtain ⟨t,rfl⟩:=rx
  cases y with
  | non=>cases ry;exact PySem.EqNone.eq_str_none (bU I q (by simp))
  | bl j=>cases ry;exact PySem.EqMixed.eq_str_bool (bU I q (by simp))
  | int j=>obtain ⟨t',rfl⟩:=ry;exact PySem.EqMixed.eq_str_int (bU I q (by simp))
  | str j=>obtain ⟨t',rfl⟩:=ry;exact eq_str (bU I q DF)
  | _=>exact absurd (show false=true from hs) Bool.false_ne_true
 | byt i=>
  obtain ⟨t,rfl⟩:=rx
  cases y with
  | byt j=>obtain ⟨t',rfl⟩:=ry;exact W.eq_bytes (bU I q DG)
  | _=>exact absurd (show false=true from hs) Bool.false_ne_true
 | _=>cases y<;>exact absurd (show false=true from hs) Bool.false_ne_true
theorem ML:OpR X (compareOp .NotEq) rNe:=by
 intro pins s σ H x y v u Q I rx ry h
 obtain ⟨hs,q⟩:=h
 cases x with
 | non=>
  cases rx
  cases y with
  | non=>cases ry;exact PySem.EqNone.ne_none_none (bU I q (by simp))
  | bl j=>cases ry;exact PySem.EqNone.ne_none_bool (bU I q (by simp))
  | int j=>obtain ⟨t',rfl⟩:=ry;exact PySem.EqNone.ne_none_int (bU I q (by simp))
  | str j=>obtain ⟨t',rfl⟩:=ry;exact PySem.EqNone.ne_none_str (bU I q (by simp))
  | _=>exact absurd (show false=true from hs) Bool.false_ne_true
 | bl i=>
  cases rx
  cases y with
  | non=>cases ry;exact PySem.EqNone.ne_bool_none (bU I q (by simp))
  | bl j=>cases ry;exact ne_bool (bU I q (congrArg not FL))
  | str j=>obtain ⟨t',rfl⟩:=ry;exact PySem.EqMixed.ne_bool_str (bU I q (by simp))
  | _=>exact absurd (show false=true from hs) Bool.false_ne_true
 | int i=>
  obtain ⟨t,rfl⟩:=rx
  cases y with
  | non=>cases ry;exact PySem.EqNone.ne_int_none (bU I q (by simp))
  | int j=>obtain ⟨t',rfl⟩:=ry;exact ne_int (bU I q (congrArg not DE))
  | str j=>obtain ⟨t',rfl⟩:=ry;exact PySem.EqMixed.ne_int_str (bU I q (by simp))
  | _=>exact absurd (show false=true from hs) Bool.false_ne_true
 | str i=>
  obtain ⟨t,rfl⟩:=rx
  cases y with
  | non=>cases ry;exact PySem.EqNone.ne_str_none (bU I q (by simp))
  | bl j=>cases ry;exact PySem.EqMixed.ne_str_bool (bU I q (by simp))
  | int j=>obtain ⟨t',rfl⟩:=ry;exact PySem.EqMixed.ne_str_int (bU I q (by simp))
  | str j=>obtain ⟨t',rfl⟩:=ry;exact ne_str (bU I q (congrArg not DF))
  | _=>exact absurd (show false=true from hs) Bool.false_ne_true
 | byt i=>
  obtain ⟨t,rfl⟩:=rx
  cases y with
  | byt j=>obtain ⟨t',rfl⟩:=ry;exact W.ne_bytes (bU I q (congrArg not DG))
  | _=>exact absurd (show false=true from hs) Bool.false_ne_true
 | _=>cases y<;>exact absurd (show false=true from hs) Bool.false_ne_true
theorem Kf:OpR X (compareOp .Lt) (rI0 fun i j=>.bl (decide (i < j))):=Ic fun _ _ _ _ _ _ _ q=>lt_int q
theorem Kg:OpR X (compareOp .LtE) (rI0 fun i j=>.bl (decide (i<=j))):=Ic fun _ _ _ _ _ _ _ q=>le_int q
theorem MM:OpR X (compareOp .Gt) (rI0 fun i j=>.bl (decide (j < i))):=Ic fun _ _ _ _ _ _ _ q=>gt_int q
theorem Kh:OpR X (compareOp .GtE) (rI0 fun i j=>.bl (decide (j<=i))):=Ic fun _ _ _ _ _ _ _ q=>ge_int q
theorem Lh:OpR X (compareOp .Is) (fun x y H Q=>y=.non/\Q (.bl (decide (x=.non))) H):=by
 intro pins s σ H x y v u Q I rx ry h
 obtain ⟨rfl,q⟩:=h
 cases ry
 refine is_none_gen (bU I q ?_)
 cases x<;>first
  | (cases rx;rfl)
  | (obtain ⟨t,rfl⟩:=rx;rfl)
theorem Ig:OpR X (compareOp .IsNot) (fun x y H Q=>y=.non/\Q (.bl (!decide (x=.non))) H):=by
 intro pins s σ H x y v u Q I rx ry h
 obtain ⟨rfl,q⟩:=h
 cases ry
 refine isnot_none_gen (bU I q ?_)
 cases x<;>first
  | (cases rx;rfl)
  | (obtain ⟨t,rfl⟩:=rx;rfl)
theorem bL (b:Expr){op:CmpOp}(h:op≠.In:=by decide)(h2:op≠.NotIn:=by decide):behindInMarks op b=false:=by
 have e1:(op == CmpOp.In)=false:=by cases op<;>first | rfl | exact absurd rfl h
 have e2:(op == CmpOp.NotIn)=false:=by cases op<;>first | rfl | exact absurd rfl h2
 cases b<;>simp [behindInMarks,e1,e2]
theorem cG {op:CmpOp}{r:R2}(ho:OpR X (compareOp op) r)(ha:PE X a ta)(hb:PE X b tb)(hm:behindInMarks op b=false):PE X (.Compare a [op] [b] pos) (tOp r ta tb):=by
 intro pins s σ H Q I h
 exact wpAny_Compare1 (La ha hb I h fun v u s2 x y H2 I2 rx ry q=>ho pins s2 σ H2 x y v u Q I2 rx ry q) hm
def mz (t:TE):TT:=fun σ H Q=>t σ H fun x H'=>∃k,x=.bl k/\Q k H'
theorem iw {op:CmpOp}{r:R2}(ho:OpR X (compareOp op) r)(ha:PE X a ta)(hb:PE X b tb)(hm:behindInMarks op b=false):PT X (.Compare a [op] [b] pos) (mz (tOp r ta tb)):=by
 intro pins s σ H Q I h
 refine wpAny_isTrue_Compare1 (thn (ha pins s σ H _ I h) fun v s1 ⟨x,H1,I1,r1,q1⟩=>thn (hb pins s1 σ H1 _ I1 q1) fun u s2 ⟨y,H2,I2,r2,q2⟩=>
  thn (ho pins s2 σ H2 x y v u _ I2 r1 r2 q2) fun c s3 ⟨z,H3,I3,r3,k,e,q3⟩=>?_) hm
 subst e
 cases r3
 exact wpAny_truthy_bool ⟨H3,I3,q3⟩
def MN (K:WA)(x:V)(H:Hp)(k:Bool):Prop:=
 match x with
 | .non=>k=false
 | .bl b=>k=b
 | .int i=>k=(i != 0)
 | .str y=>y.length<=sizeLine/\k=((y.length:Int) != 0)
 | .byt y=>y.size<=sizeLine/\k=((y.size:Int) != 0)
 | .ref p=>(∃xs,SqL K H p xs/\k=!xs.isEmpty)\/(∃xs,SqT K H p xs/\k=!xs.isEmpty)\/∃kvs,H p=some (.dK kvs)/\k=!kvs.isEmpty
 | _=>False
theorem B9 {κ:Type}{kvs:List (κ×V)}{vs:List (κ×Value)}(r:KV kvs vs):(!vs.isEmpty)=!kvs.isEmpty:=by
 cases r<;>rfl
theorem uU {xs:List V}{its:List Value}(r:br xs its):(!its.toArray.isEmpty)=!xs.isEmpty:=by
 cases r<;>simp
theorem rW:(sizeLine:Nat) < 2 ^ 63:=by rw [sizeLine_eq];decide
theorem Li:NC X (fun x H Q=>∃k,MN X.K x H k/\Q k H):=by
 intro pins s σ H x v Q I rx h
 obtain ⟨k,e,q⟩:=h
 have hl:=rW
 have hs:sizeLine=16777216:=sizeLine_eq
 cases x with
 | non=>
  cases rx
  have e':k=false:=e
  subst e'
  exact truthy_none ⟨H,I,q⟩
 | bl b=>
  cases rx
  have e':k=b:=e
  subst e'
  exact wpAny_truthy_bool ⟨H,I,q⟩
 | int i=>
  obtain ⟨t,rfl⟩:=rx
  have e':k=(i != 0):=e
  subst e'
  exact PySem.P.truthy_int ⟨H,I,q⟩
 | str y=>
  obtain ⟨t,rfl⟩:=rx
  obtain ⟨hy,e'⟩:y.length<=sizeLine/\k=((y.length:Int) != 0):=e
  subst e'
  exact PySem.P.truthy_str (by omega) ⟨H,I.tok _,q⟩
 | byt y=>
  obtain ⟨t,rfl⟩:=rx
  obtain ⟨hy,e'⟩:y.size<=sizeLine/\k=((y.size:Int) != 0):=e
  subst e'
  exact W.truthy_bytes (by omega) ⟨H,I.tok _,q⟩
 | ref p=>
  cases rx
  have e':(∃xs,SqL X.K H p xs/\k=!xs.isEmpty)\/(∃xs,SqT X.K H p xs/\k=!xs.isEmpty)\/∃kvs,H p=some (.dK kvs)/\k=!kvs.isEmpty:=e
  rcases e' with ⟨xs,hx,e'⟩ | ⟨xs,hx,e'⟩ | ⟨kvs,hx,e'⟩
  ·subst e'
   obtain ⟨its,r,pl,hz⟩:=I.list hx
   have hlen:=r.length
   exact wpAny_truthy_list pl.isList (by simp only [List.size_toArray];omega) ⟨H,I.tok _,by rw [uU r];exact q⟩
  ·subst e'
   obtain ⟨its,r,pl,hz⟩:=I.tuple hx
   have hlen:=r.length
   exact truthy_tuple pl (by simp only [List.size_toArray];omega) ⟨H,I.tok _,by rw [uU r];exact q⟩
  ·subst e'
   obtain ⟨hz,hS,vs,r,m⟩:kvs.length<=sizeLine/\(p == sysModules)=false/\∃vs,KV kvs vs/\s.heap.DictOf (yX X.prog X.w) p vs:=I.hok p _ hx
   have hlen:kvs.length=vs.length:=Paired.length r
   exact wpAny_truthy_dict hS m (by omega) ⟨H,I.tok _,by rw [B9 r];exact q⟩
 | _=>exact (show False from e).elim
theorem uV (ha:PE X a ta)(he:∀cu,isTrue a X.env cu=(do let v ←cu;standAt a.pos;holding [v] (truthy v))) :
  PT X a (fun σ H Q=>ta σ H fun x H'=>∃k,MN X.K x H' k/\Q k H'):=by
 intro pins s σ H Q I h
 exact isTrue_plain (thn (ha pins s σ H _ I h) fun v s1 ⟨x,H1,I1,r1,q1⟩=>Li pins s1 σ H1 x v Q I1 r1 q1) (he _)
theorem ql {x:V}{us:List Value}(r:br [x] us):∃u,us=[u]/\bK x u:=by
 cases r with
 | cons r1 r2=>cases r2;exact ⟨_,rfl,r1⟩
theorem DH {x y:V}{us:List Value}(r:br [x,y] us):∃u w',us=[u,w']/\bK x u/\bK y w':=by
 cases r with
 | cons r1 r2=>
  cases r2 with
  | cons r3 r4=>cases r4;exact ⟨_,_,rfl,r1,r3⟩
theorem FN:ez X (.builtin "abs") (fun xs H Q=>∃i,xs=[.int i]/\Q (.int (if i < 0 then -i else i)) H):=by
 intro pins s σ H xs us Q I r h
 obtain ⟨i,rfl,q⟩:=h
 obtain ⟨u,rfl,t,rfl⟩:=ql r
 exact call_abs_int fun u tk=>⟨.int (if i < 0 then -i else i),H,I.tok _,⟨_,rfl⟩,q⟩
theorem EG (hc:X.calm=true):ez X (.builtin "min") (fun xs H Q=>∃i j,xs=[.int i,.int j]/\Q (.int (if j < i then j else i)) H):=by
 intro pins s σ H xs us Q I r h
 obtain ⟨i,j,rfl,q⟩:=h
 obtain ⟨u,w',rfl,⟨t,rfl⟩,⟨t',rfl⟩⟩:=DH r
 refine min_two_ints (I.ok.hd hc) fun h' tk k=>⟨_,H,I.kept k,?_,q⟩
 by_cases hj:j < i
 ·rw [if_pos hj,if_pos hj];exact ⟨_,rfl⟩
 ·rw [if_neg hj,if_neg hj];exact ⟨_,rfl⟩
theorem EH:ez X (.type "int") (fun xs H Q=>(∃i,xs=[.int i]/\Q (.int i) H)\/∃k,xs=[.bl k]/\Q (.int (if k then 1 else 0)) H):=by
 intro pins s σ H xs us Q I r h
 rcases h with ⟨i,rfl,q⟩ | ⟨k,rfl,q⟩
 ·obtain ⟨u,rfl,t,rfl⟩:=ql r
  exact call_int_int ⟨.int i,H,I,⟨_,rfl⟩,q⟩
 ·obtain ⟨u,rfl,r1⟩:=ql r
  cases r1
  exact call_int_bool ⟨.int (if k then 1 else 0),H,I.tok _,⟨_,rfl⟩,q⟩
end
structure Ca (h:Heap)(x dx C:Addr)(mA:Str->Option Value):Prop where
 obj:h.get? x=some (W.instObj C dx)
 ns:h.Ns1 dx mA
 ne:dx≠x
theorem EI {h:Heap}{dx:Addr}{mA:Str->Option Value}(n:h.Ns1 dx mA):∃od,h.get? dx=some od/\∀name,W.lookIn name od=some (mA name):=by
 obtain ⟨o,es,ep,ho,hd,hk,_,hm⟩:=n
 refine ⟨o,ho,fun name=>?_⟩
 have e:=hm name
 unfold nsFind findBy at e
 rw [←Array.find?_toList] at e
 unfold W.lookIn
 rw [hd]
 dsimp only
 split
 ·rename_i y q
  rw [q] at e
  exact congrArg some e
 ·rename_i q
  rw [q] at e
  have a:es.toList.any (·.refKey)=false:=by
   rw [List.any_eq_false]
   intro y hy
   obtain ⟨z,t,hkey⟩:=hk y (Array.mem_toList_iff.mp hy)
   simp [DictEntry.refKey,hkey]
  have a':¬es.toList.any (·.refKey)=true:=by rw [a];exact Bool.false_ne_true
  rw [if_neg a']
  exact congrArg some e
theorem Ca.look {h:Heap}{x dx C:Addr}{mA:Str->Option Value}(I:Ca h x dx C mA):∃od,W.InstAt h x (W.instObj C dx) C (some od)/\∀name,W.lookIn name od=some (mA name):=
 let ⟨od,ho,hl⟩:=EI I.ns
 ⟨od,⟨I.obj,rfl,rfl,ho⟩,hl⟩
section
variable {prog:Program}{w:World}{A:Around}{E:Value->Shared->Prop}{s:Shared}{K:WA}{x dx C f:Addr}{mA:Str->Option Value}{name:Str}{v:Value}
theorem Ih {expr:Bool}{Q:Value->Shared->Prop}(X:K.In s.heap)(I:Ca s.heap x dx C mA)(hg:W.plainGet K C name=true)(hh:W.hasDictIn K C=true)
  (ha:W.findIn K (.ref C) name=some none) (hv:mA name=some v) (hv':W.handedIn v=true) (h:Q v {s with toks:=s.toks+1}) :
  wpAny (model prog w) A (getAttr (.ref x) name expr) Q E s:=by
 obtain ⟨od,J,hl⟩:=I.look
 exact W.get_value X J (W.plainGet_of hg).1 (W.findObj_own hh ha rfl (by rw [hl,hv])) hv' h
theorem FO {pl:Sem Bool}{Q:Value×List Value->Shared->Prop}(X:K.In s.heap)(I:Ca s.heap x dx C mA)(hg:W.plainGet K C name=true)
  (hf:W.findIn K (.ref C) name=some (some (.ref f))) (ht:W.isFn K (.ref f)=true) (hv:mA name=none) (h:Q (.ref f,[.ref x]) s) :
  wpAny (model prog w) A (getMethod (.ref x) name pl) Q E s:=by
 obtain ⟨od,J,hl⟩:=I.look
 exact W.method_fn X J (W.plainGet_of hg).1 (W.plainGet_of hg).2 hf (beq_iff_eq.mp ht) (by show (W.lookIn name od).map (·.isSome)=some false;rw [hl,hv];rfl) h
theorem Ii {ns:List Str}{Q:Unit->Shared->Prop}(X:K.In s.heap)(I:Ca s.heap x dx C mA)
  (hs:W.findIn K (.ref C) "__setattr__"=some (some (.builtin "object.__setattr__"))) (hp:W.plainOver K C=true) (ht:W.takerIn K C name=some none) (hh:W.hasDictIn K C=true)
  (hw:PySem.Within mA ns) (hsz:ns.length<=sizeLine)
  (h:∀h',Ca h' x dx C (fun y=>if y=name then some v else mA y)->Heap.SameBut dx s.heap h'->Q () {s with heap:=h',toks:=s.toks+2}) :
  wpAny (model prog w) A (setAttr (.ref x) name v) Q E s:=by
 obtain ⟨od,J,hl⟩:=I.look
 refine W.set_plain X J hs (W.osa_open (s:={s with toks:=s.toks+1}) (r:=none) X J hp ht fun b=>?_)
 obtain ⟨cd,hc,hd'⟩:=W.any_some hh
 have hx:s.heap.get? x=some ⟨.ref C,some dx,.plain,#[]⟩:=I.obj
 refine wpAny_bind (wpAny_pure (wpAny_bind (wpAny_bind (wpAny_loadPart hx (wpAny_bind (W.Looks.here (s:={s with toks:=s.toks+1}) (W.looks_clsIn X hc) ?_))))))
 rw [hd']
 refine wpAny_pure (a:=some dx) (wpAny_bind (wpAny_pure (wpAny_bind ?_)))
 refine wpAny_nsSet1 (s:={s with toks:=s.toks+1}) I.ns fun h' hn2 hs2=>?_
 obtain ⟨oD,esD,epD,hoD,hdD,hcD⟩:=hn2.count (PySem.Within.cons name v hw)
 refine wpAny_bind (wpAny_lookBehind hoD (by rw [hdD];exact pastItsLine_dict (Nat.le_trans hcD (by rw [List.length_cons];omega))) ?_)
 exact wpAny_pure (h _ ⟨(hs2.2 _ (Ne.symm I.ne)).trans I.obj,hn2,I.ne⟩ hs2)
theorem FP {R:Result->Shared->Prop}{vs:List Value}{kw:List (Str×Value)}(X:K.In s.heap)(hm:W.makesIn K C=true)
  (hi:W.findIn K (.ref C) "__init__"=some (some (.ref f))) (hf:W.typeIn K (.ref f)=some (.type "function"))
  (h:codeAny (model prog w) (A.under (.builtin "type.__call__" ⟨.ref C::vs,kw⟩)) (.call (.ref f) ⟨.ref (s.heap.objs.size+1)::vs,kw⟩) (W.InitBack (s.heap.objs.size+1) R)
   {s with heap:=(s.heap.push W.emptyDict).push (W.instObj C s.heap.objs.size)}) :
  codeAny (model prog w) A (.call (.ref C) ⟨vs,kw⟩) R s:=by
 obtain ⟨hh,g,d,t,os⟩:=s
 exact W.make_core (W.makes_of X hm) (W.looks_findIn X hi) (fun self=>W.bind_fn X self hf) (.inl rfl) h
end
def bw (f:Str)(v:V):List (Str×V)->List (Str×V)
 | []=>[(f,v)]
 | (g,x)::r=>if g=f then (g,v)::r else (g,x)::bw f v r
theorem tM (f g:Str)(v:V):∀fs:List (Str×V),(bw f v fs).lookup g=if g=f then some v else fs.lookup g
 | []=>by
  show List.lookup g [(f,v)]=_
  by_cases h:g=f
  ·have hb:(g == f)=true:=beq_iff_eq.mpr h
   simp only [List.lookup,hb,if_pos h]
  ·have hb:(g == f)=false:=beq_eq_false_iff_ne.mpr h
   simp only [List.lookup,hb,if_neg h]
 | (k,x)::r=>by
  have ih:=tM f g v r
  rw [show bw f v ((k,x)::r)=(if k=f then (k,v)::r else (k,x)::bw f v r) from rfl]
  by_cases hk:k=f
  ·rw [if_pos hk]
   by_cases h:g=k
   ·have hb:(g == k)=true:=beq_iff_eq.mpr h
    simp only [List.lookup,hb,if_pos (h.trans hk)]
   ·have hb:(g == k)=false:=beq_eq_false_iff_ne.mpr h
    simp only [List.lookup,hb,if_neg (fun e:g=f=>h (e.trans hk.symm))]
  ·rw [if_neg hk]
   by_cases h:g=k
   ·have hb:(g == k)=true:=beq_iff_eq.mpr h
    simp only [List.lookup,hb,if_neg (fun e:g=f=>hk (h.symm.trans e))]
   ·have hb:(g == k)=false:=beq_eq_false_iff_ne.mpr h
    simp only [List.lookup,hb]
    exact ih
theorem rX (f:Str)(v:V):∀fs:List (Str×V),f∈(bw f v fs).map (·.1)/\∀g,g∈fs.map (·.1)->g∈(bw f v fs).map (·.1)
 | []=>⟨by simp [bw],fun g h=>by simp at h⟩
 | (k,x)::r=>by
  obtain ⟨i1,i2⟩:=rX f v r
  rw [show bw f v ((k,x)::r)=(if k=f then (k,v)::r else (k,x)::bw f v r) from rfl]
  by_cases hk:k=f
  ·rw [if_pos hk]
   subst hk
   exact ⟨by simp,fun g h=>by simpa using h⟩
  ·rw [if_neg hk]
   refine ⟨?_,fun g h=>?_⟩
   ·rw [List.map_cons]
    exact List.mem_cons_of_mem _ i1
   ·rw [List.map_cons] at h ⊢
    rcases List.mem_cons.mp h with e | e
    ·exact List.mem_cons.mpr (.inl e)
    ·exact List.mem_cons_of_mem _ (i2 g e)
theorem mB (f:Str)(v:V):∀fs:List (Str×V),(bw f v fs).length<=fs.length+1
 | []=>by simp [bw]
 | (k,x)::r=>by
  have ih:=mB f v r
  rw [show bw f v ((k,x)::r)=(if k=f then (k,v)::r else (k,x)::bw f v r) from rfl]
  by_cases hk:k=f
  ·rw [if_pos hk,List.length_cons,List.length_cons];omega
  ·rw [if_neg hk,List.length_cons,List.length_cons];omega
theorem wM.some_of {v:V}{o:Option Value}(r:wM (some v) o):∃u,o=some u/\bK v u:=by
 cases o with
 | none=>exact (show False from r).elim
 | some u=>exact ⟨u,rfl,r⟩
theorem wM.none_of {o:Option Value}(r:wM none o):o=none:=by
 cases o with
 | none=>rfl
 | some u=>exact (show False from r).elim
theorem EJ {v:V}{u:Value}(r:bK v u):W.handedIn u=true:=by
 cases v with
 | non=>cases (show u=Value.none from r);rfl
 | bl b=>cases (show u=Value.bool b from r);rfl
 | int i=>obtain ⟨t,e⟩:=(show ∃t,u=Value.int i t from r);cases e;rfl
 | str x=>obtain ⟨t,e⟩:=(show ∃t,u=Value.str x t from r);cases e;rfl
 | byt b=>obtain ⟨t,e⟩:=(show ∃t,u=Value.bytes b t from r);cases e;rfl
 | flt b=>obtain ⟨t,e⟩:=(show ∃t,u=Value.float b t from r);cases e;rfl
 | ref a=>cases (show u=Value.ref a from r);rfl
 | ty n=>cases (show u=Value.type n from r);rfl
section
variable {P:Program}{w:World}{H H':Hp}{h h':Heap}{a C dx:Addr}{fs fs':List (Str×V)}
theorem yZ (hok:HOk P w H h)(e:H a=some (.ins C dx fs)):∃mA,Ca h a dx C mA/\(∀f,wM (fs.lookup f) (mA f))/\PySem.Within mA (fs.map (·.1))/\fs.length<=1000/\H dx=some (.own a):=by
 obtain ⟨d,z,ne,ob,mA,n,r,q⟩:=(show fK P w H h a (.ins C dx fs) from hok a _ e)
 exact ⟨mA,⟨ob,n,ne⟩,r,q,z,d⟩
end
structure Cls (K:WA)(C:Addr):Prop where
 pg:W.plainGet K C Str.empty=true
 hd:W.hasDictIn K C=true
 po:W.plainOver K C=true
 sa:W.findIn K (.ref C) "__setattr__"=some (some (.builtin "object.__setattr__"))
theorem Cls.get {K:WA}{C:Addr}(c:Cls K C)(f:Str):W.plainGet K C f=true:=c.pg
def aX (K:WA)(C:Addr)(f:Str):Prop:=W.findIn K (.ref C) f=some none
theorem aX.taker {K:WA}{C:Addr}{f:Str}(n:aX K C f):W.takerIn K C f=some none:=by
 unfold W.takerIn
 rw [show W.findIn K (.ref C) f=some none from n]
 rfl
structure Al (K:WA)(C:Addr)(m:Str)(f:Addr):Prop where
 at_:W.findIn K (.ref C) m=some (some (.ref f))
 fn:W.isFn K (.ref f)=true
 kp:W.keepIn K (.ref f)=true
section
variable {X:Cx}{pins:List (Addr×Obj)}{σ:St}{H:Hp}{s:Shared}{a C dx:Addr}{fs:List (Str×V)}{f:Str}{v:V}{A:Around}{E:Value->Shared->Prop}
theorem Cb {b:Bool}{Q:Value->Shared->Prop}(I:Inv X pins σ H s)(e:H a=some (.ins C dx fs))(c:Cls X.K C)(n:aX X.K C f)(l:fs.lookup f=some v)
  (h:∀u s',Inv X pins σ H s'->bK v u->Q u s'):wpAny (model X.prog X.w) A (getAttr (.ref a) f b) Q E s:=by
 obtain ⟨mA,O,r,_,_,_⟩:=yZ I.hok e
 obtain ⟨u,hu,ru⟩:=wM.some_of (v:=v) (o:=mA f) (by rw [←l];exact r f)
 exact Ih I.kIn O (c.get f) c.hd n hu (EJ ru) (h u _ (I.tok _) ru)
theorem lh {m:Str}{g:Addr}{pl:Sem Bool}{Q:Value×List Value->Shared->Prop}(I:Inv X pins σ H s)(e:H a=some (.ins C dx fs))(c:Cls X.K C)(k:Al X.K C m g)(l:fs.lookup m=none)
  (h:Q (.ref g,[.ref a]) s):wpAny (model X.prog X.w) A (getMethod (.ref a) m pl) Q E s:=by
 obtain ⟨mA,O,r,_,_,_⟩:=yZ I.hok e
 have hn:mA m=none:=wM.none_of (by rw [←l];exact r m)
 exact FO I.kIn O (c.get m) k.at_ k.fn hn h
theorem Cc {y:V}{u:Value}{Q:Unit->Shared->Prop}(I:Inv X pins σ H s)(e:H a=some (.ins C dx fs))(c:Cls X.K C)(n:aX X.K C f)(hl:fs.length < 1000)(ry:bK y u)
  (h:∀s',Inv X pins σ (upd H a (.ins C dx (bw f y fs))) s'->Q () s'):wpAny (model X.prog X.w) A (setAttr (.ref a) f u) Q E s:=by
 obtain ⟨mA,O,r,wi,_,ho⟩:=yZ I.hok e
 have hz:(fs.map (·.1)).length<=sizeLine:=by rw [WB,sizeLine_eq];omega
 refine Ii I.kIn O c.sa c.po n.taker c.hd wi hz fun h' O' sb=>h _ ?_
 have hd:∃o,h'.get? dx=some o:=let ⟨o,_,_,e',_⟩:=O'.ns;⟨o,e'⟩
 refine I.write (x:=a) (e:=dx) (by rw [e];exact True.intro) (.inr ho) (fun b q hb z=>(sb.2 b hb).trans z) hd ?_
 refine ⟨by rw [aJ O.ne];exact ho,?_,O.ne,O'.obj,_,O'.ns,fun g=>?_,fun g hg=>?_⟩
 ·have:=mB f y fs;omega
 ·show wM ((bw f y fs).lookup g) (if g=f then some u else mA g)
  rw [tM]
  by_cases q:g=f
  ·rw [if_pos q,if_pos q];exact ry
  ·rw [if_neg q,if_neg q];exact r g
 ·by_cases q:g=f
  ·rw [q];exact (rX f y fs).1
  ·refine (rX f y fs).2 g (wi g fun z=>hg ?_)
   show (if g=f then some u else mA g)=none
   rw [if_neg q];exact z
theorem Inv.made (I:Inv X pins σ H s):Inv X pins σ (upd (upd H s.heap.objs.size (.own (s.heap.objs.size+1))) (s.heap.objs.size+1) (.ins C s.heap.objs.size []))
  {s with heap:=(s.heap.push W.emptyDict).push (W.instObj C s.heap.objs.size)}:=by
 have e1:(s.heap.push W.emptyDict).get? s.heap.objs.size=some W.emptyDict:=Heap.get?_push_size s.heap rfl
 have e2:((s.heap.push W.emptyDict).push (W.instObj C s.heap.objs.size)).get? (s.heap.objs.size+1)=some (W.instObj C s.heap.objs.size):=by
  have:=Heap.get?_push_size (s.heap.push W.emptyDict) (o:=W.instObj C s.heap.objs.size) rfl
  rwa [Heap.size_push] at this
 have e3:(s.heap.push W.emptyDict).Ns s.heap.objs.size (fun _=>none):=⟨W.emptyDict,#[],_,e1,rfl,(fun e he=>absurd he (by simp)),fun _=>rfl⟩
 have I1:=I.laid (a:=s.heap.objs.size) (o:=.own (s.heap.objs.size+1)) (h':=s.heap.push W.emptyDict) (t':=s.toks) (fun b u q=>Heap.get?_push_of_some _ q) (Nat.le_refl _) ⟨_,e1⟩
 refine I1.laid (a:=s.heap.objs.size+1) (o:=.ins C s.heap.objs.size []) (t':=s.toks) (fun b u q=>Heap.get?_push_of_some _ q) (Nat.le_of_eq (Heap.size_push _ _)) ?_
 have ne:s.heap.objs.size≠s.heap.objs.size+1:=Nat.ne_of_lt (Nat.lt_succ_self _)
 refine ⟨by rw [aJ ne,ag],Nat.zero_le _,ne,e2,fun _=>none,(Heap.Ns1.of_empty e3).at fun o q=>Heap.get?_push_of_some _ q,fun _=>True.intro,fun y hy=>absurd rfl hy⟩
theorem Ij {prog:Program}{w:World}{env:Env}{e:Expr}{f:Str}{pos:Pos}{s:Shared}{Q:Value->Shared->Prop}(hb:attributeBase e f env (eval e env)=eval e env)
  (h:wpAny (model prog w) A (eval e env) (fun o s₁=>wpAny (model prog w) A (getAttr o f true) Q E s₁) E s):wpAny (model prog w) A (eval (.Attribute e f pos) env) Q E s:=
 Attribute_any_ h (by rw [arm_eval_Attribute,hb])
end
def MO (K:WA)(ta:TE)(f:Str):TE:=fun σ H Q=>ta σ H fun x H1=>∃a C dx fs v,x=.ref a/\H1 a=some (.ins C dx fs)/\Cls K C/\aX K C f/\fs.lookup f=some v/\Q v H1
def MP (K:WA)(ta tv:TE)(f:Str):TS:=fun D σ H=>tv σ H fun y H1=>ta σ H1 fun x H2=>∃a C dx fs,x=.ref a/\H2 a=some (.ins C dx fs)/\Cls K C/\aX K C f/\fs.length < 1000/\
 D.nx σ (upd H2 a (.ins C dx (bw f y fs)))
section
variable {X:Cx}{o e value:Expr}{f:Str}{pos pos' tpos:Pos}{ta tv:TE}
theorem Lj (he:PE X e ta)(hb:attributeBase e f X.env (eval e X.env)=eval e X.env):PE X (.Attribute e f pos) (MO X.K ta f):=by
 intro pins s σ H Q I h
 refine Ij hb (thn (he pins s σ H _ I h) fun u s1 ⟨x,H1,I1,rx,a,C,dx,fs,v,ex,ea,c,n,l,q⟩=>?_)
 subst ex
 obtain rfl:u=Value.ref a:=rx
 exact Cb I1 ea c n l fun u' s2 I2 ru=>⟨v,H1,I2,ru,q⟩
theorem Lk (ha:PE X o ta)(hv:PE X value tv)(hs:swapsWith value (some (.Attribute o f pos')) pos.line X.env=pure false):PS X (.Assign [.Attribute o f pos'] value pos) (MP X.K ta tv f):=by
 intro pins s σ H D I h
 refine plainObj_wpAny_Assign_Attribute (thn (hv pins s σ H _ I h) fun u s1 ⟨y,H1,I1,ry,q⟩=>thn (ha pins s1 σ H1 _ I1 q) fun ov s2 ⟨x,H2,I2,rx,a,C,dx,fs,ex,ea,c,n,l,q2⟩=>?_) hs
 subst ex
 obtain rfl:ov=Value.ref a:=rx
 exact Cc I2 ea c n l ry fun s3 I3=>⟨σ,_,I3,q2⟩
theorem Ki {pl:Sem Bool}{m:Str}{apos:Pos}{args:List Expr}{pins:List (Addr×Obj)}{s:Shared}{σ:St}{H:Hp}{Q:Value->Shared->Prop}{te:TE}(he:PE X e te)(I:Inv X pins σ H s)
  (h:te σ H fun x H1=>∃a C dx fs g,x=.ref a/\H1 a=some (.ins C dx fs)/\Cls X.K C/\Al X.K C m g/\fs.lookup m=none/\
   ∀s1,Inv X pins σ H1 s1->wpAny (model X.prog X.w) X.A (callWith pos (.ref g) [.ref a] (backTo pos (starEach args X.env)) (backToKw pos (keywordEach [] X.env))) Q X.xe s1)
  (ht:eval (.Call (.Attribute e m apos) args [] pos) X.env=(do
   let ov ←eval e X.env
   standAt apos.atName
   let (f,first) ←holding [ov] (getMethod ov m pl)
   callWith pos f first (backTo pos (starEach args X.env)) (backToKw pos (keywordEach [] X.env)))) :
  wpAny (model X.prog X.w) X.A (eval (.Call (.Attribute e m apos) args [] pos) X.env) Q X.xe s:=by
 refine W.methodCall_KW (pl:=pl) (thn (he pins s σ H _ I h) fun u s1 ⟨x,H1,I1,rx,a,C,dx,fs,g,ex,ea,c,k,l,q⟩=>?_) ht
 subst ex
 obtain rfl:u=Value.ref a:=rx
 exact lh I1 ea c k l (q s1 I1)
end
structure dH (k:Nat)(A:Around):Prop where
 hd:A.handled=none
 dp:A.depth+3 * k+5 < recursionLimit
 un:A.units+16 * k+200 < cLine
theorem dH.mono {j k:Nat}{A:Around}(r:dH k A)(h:j<=k):dH j A:=⟨r.hd,by have:=r.dp;omega,by have:=r.un;omega⟩
theorem dH.deeper {k:Nat}{A:Around}(r:dH (k+1) A)(env:Env):dH k (A.deeper env):=
 ⟨r.hd,by have:=r.dp;show A.depth+1+3 * k+5 < _;omega,by have:=r.un;show A.units+3+16 * k+200 < _;omega⟩
theorem Ce {A:Around}{C:Addr}{us:List Value}{kw:List (Str×Value)}:(A.under (.builtin "type.__call__" ⟨.ref C::us,kw⟩)).depth=A.depth+1:=by
 first | rfl | simp [Around.under,Code.weight,Code.isCreation,Code.isGuard,Code.isCaller,Code.frames,Code.isFrame,guardIds]
theorem Cf {A:Around}{C:Addr}{us:List Value}{kw:List (Str×Value)}:(A.under (.builtin "type.__call__" ⟨.ref C::us,kw⟩)).units=A.units+1:=by
 first | rfl | simp [Around.under,Code.cUnits,Code.frames,Code.isFrame]
theorem dH.make {k:Nat}{A:Around}(r:dH (k+1) A)(C:Addr)(us:List Value)(kw:List (Str×Value)):dH k (A.under (.builtin "type.__call__" ⟨.ref C::us,kw⟩)):=
 ⟨r.hd,by have:=r.dp;rw [Ce];omega,by have:=r.un;rw [Cf];omega⟩
theorem dH.depth {k:Nat}{A:Around}(r:dH k A):A.depth < recursionLimit:=by have:=r.dp;omega
theorem dH.units0 {k:Nat}{A:Around}(r:dH k A):A.units < cLine:=by have:=r.un;omega
def wO:TA:=fun _ H Q=>Q [] H
def kE (ta:TE)(tr:TA):TA:=fun σ H Q=>ta σ H fun x H1=>tr σ H1 fun xs H2=>Q (x::xs) H2
section
variable {X:Cx}{e:Expr}{es:List Expr}{te:TE}{t:TA}{pos:Pos}
theorem ff:PA X [] wO:=fun _ _ _ _ H Q I h=>Calls.spliced_nil ⟨[],H,I,.nil,h⟩
theorem cV (ha:PE X e te)(hr:PA X es t)(hs:starEach (e::es) X.env=(false,eval e X.env)::starEach es X.env:=by rfl):PA X (e::es) (kE te t):=by
 intro pos pins s σ H Q I h
 rw [hs]
 show wpAny _ _ (spliced ((false,eval e X.env)::backTo pos (starEach es X.env))) _ _ s
 refine Calls.spliced_cons (thn (ha pins s σ H _ I h) fun u s1 ⟨x,H1,I1,r1,q1⟩=>?_)
 exact thn (hr pos pins s1 σ H1 _ I1 q1) fun us s2 ⟨xs,H2,I2,r2,q2⟩=>⟨x::xs,H2,I2,.cons r1 r2,q2⟩
def MQ (t:TA):TE:=fun σ H Q=>t σ H fun xs H1=>xs.length<=sizeLine/\∀p,H1 p=none->Q (.ref p) (upd H1 p (.tup xs))
def Ll (t:TA):TE:=fun σ H Q=>t σ H fun xs H1=>xs.length<=sizeLine/\∀p,H1 p=none->Q (.ref p) (upd H1 p (.lst xs))
theorem aQ {x1}(h:PA X es t):PE X (.Tuple es x1 pos) (MQ t):=by
 intro pins s σ H Q I hq
 refine wpAny_Tuple_spliced (thn (h pos pins s σ H _ I hq) fun us s1 ⟨xs,H1,I1,r,z,q⟩=>⟨by rw [←r.length];exact z,?_⟩)
 have hf:H1 s1.heap.objs.size=none:=I1.hok.fresh (Nat.le_refl _)
 refine ⟨.ref s1.heap.objs.size,upd H1 s1.heap.objs.size (.tup xs),I1.laid (t':=s1.toks) (fun b u e=>Heap.get?_push_of_some _ e) (Nat.le_refl _) ?_,rfl,q _ hf⟩
 exact ⟨z,us,r,⟨_,Heap.get?_push_size _ rfl,⟨rfl,_,rfl⟩,rfl⟩⟩
theorem bc (h:PA X es t):PE X (.List es pos) (Ll t):=by
 intro pins s σ H Q I hq
 refine wpAny_List_spliced (thn (h pos pins s σ H _ I hq) fun us s1 ⟨xs,H1,I1,r,z,q⟩=>⟨by rw [←r.length];exact z,?_⟩)
 have hf:H1 s1.heap.objs.size=none:=I1.hok.fresh (Nat.le_refl _)
 refine ⟨.ref s1.heap.objs.size,upd H1 s1.heap.objs.size (.lst xs),I1.laid (t':=s1.toks) (fun b u e=>Heap.get?_push_of_some _ e) (Nat.le_refl _) ?_,rfl,q _ hf⟩
 exact ⟨z,us,0,r,Heap.get?_push_size _ rfl⟩
end
abbrev Sp:=List V->Hp->VK->XK->Prop
abbrev CXT:=List Env->Hp->Shared->XK->Value->Shared->Prop
structure Cg (P:Program)(w:World)(K:WA)(mg:Str->Option Value)(base:Heap)(A:Around)(outer:List Env)(s:Shared)(H:Hp):Prop where
 frames:A.frames=some outer
 mod:Mod K mg base
 bs:∀b o,base.get? b=some o->s.heap.get? b=some o/\H b=none
 bsz:base.objs.size<=s.heap.objs.size
 funs:s.heap.FunFrames base outer
 frf:∀b∈frs outer,H b=none
 hok:HOk P w H s.heap
 bare:AllBare s.gens
def CE (outer:List Env)(P:Program)(w:World)(H:Hp)(s:Shared)(Q:VK)(u:Value)(s':Shared):Prop:=
 ∃v H',s'.os=s.os/\AllBare s'.gens/\Un (frs outer) [] H H' s.heap s'.heap/\HOk P w H' s'.heap/\bK v u/\Q v H'
def CR (CX:CXT)(outer:List Env)(P:Program)(w:World)(H:Hp)(s:Shared)(Q:VK)(E:XK)(r:Result)(s':Shared):Prop:=
 match r with
 | .ok (.ret u)=>CE outer P w H s Q u s'
 | .ok _=>False
 | .error e=>CX outer H s E e s'
structure fM (P:Program)(w:World)(K:WA)(mg:Str->Option Value)(base:Heap)(CX:CXT)(k:Nat)(f:Addr)(fd:FuncData)(ps:List Str)(sp:Sp):Prop where
 len:∀vs H Q E,sp vs H Q E->vs.length=ps.length
 run:∀(A:Around) (outer:List Env) (s:Shared) (H:Hp) (args:Args) (us:List Value) (vs:List V) (Q:VK) (E:XK),dH k A->Cg P w K mg base A outer s H->BindsTo s fd args (ps.zip us)->br vs us->sp vs H Q E->
  codeAny (model P w) A (.call (.ref f) args) (CR CX outer P w H s Q E) s
theorem fM.imp {P:Program}{w:World}{K:WA}{mg:Str->Option Value}{base:Heap}{CX:CXT}{k:Nat}{f:Addr}{fd:FuncData}{ps:List Str}{sp sp':Sp}(F:fM P w K mg base CX k f fd ps sp)
  (h:∀vs H Q E,sp' vs H Q E->sp vs H Q E):fM P w K mg base CX k f fd ps sp':=
 ⟨fun vs H Q E q=>F.len vs H Q E (h _ _ _ _ q),fun A outer s H args us vs Q E hr he hb hv hs=>F.run A outer s H args us vs Q E hr he hb hv (h _ _ _ _ hs)⟩
theorem Cg.make {P:Program}{w:World}{K:WA}{mg:Str->Option Value}{base:Heap}{A:Around}{outer:List Env}{s:Shared}{H:Hp}(e:Cg P w K mg base A outer s H)(C:Addr)(us:List Value)(kw:List (Str×Value)) :
  Cg P w K mg base (A.under (.builtin "type.__call__" ⟨.ref C::us,kw⟩)) outer s H:=⟨by first | exact e.frames | (simpa [Around.under,Code.envs,Code.isFrame,pushEnvs] using e.frames),e.mod,e.bs,e.bsz,e.funs,e.frf,e.hok,e.bare⟩
section
variable {X:Cx}{pins:List (Addr×Obj)}{σ:St}{H:Hp}{s s':Shared}
theorem Inv.env0 (I:Inv X pins σ H s):Cg X.prog X.w X.K X.mg X.base X.A X.stack s H:=
 ⟨I.ok.frames,I.ok.mod,I.bs,Nat.le_trans I.ok.bsz I.sz,I.stack,I.stkFree,I.hok,I.bare⟩
theorem Inv.after {Q:VK}{u:Value}(I:Inv X pins σ H s)(h:CE X.stack X.prog X.w H s Q u s'):EP X pins σ Q u s':=by
 obtain ⟨v,H',os,bare,un,hok,r,q⟩:=h
 obtain ⟨hh,g,d,t,os'⟩:=s'
 obtain rfl:os'=s.os:=os
 exact ⟨v,H',I.call (h':=hh) (g':=g) (d':=d) (t':=t) (ch:=[]) un hok bare (fun b z=>absurd z (by simp)),r,q⟩
end
def Am (sp:Sp)(dvs:List V)(E:XK)(t:TA):TE:=fun σ H Q=>t σ H fun vs H1=>sp (vs++dvs) H1 Q E
def xR (C:Addr)(m:Str)(sp:Sp)(dvs:List V)(E:XK)(ta:TE)(t:TA):TE:=fun σ H Q=>ta σ H fun x H1=>∃a dx fs,x=.ref a/\H1 a=some (.ins C dx fs)/\fs.lookup m=none/\
 t σ H1 fun vs H2=>sp (x::(vs++dvs)) H2 Q E
def FQ (C:Addr)(sp:Sp)(dvs:List V)(E:XK)(t:TA):TE:=fun σ H Q=>t σ H fun vs H1=>∀x dx,H1 x=none->H1 dx=none->dx≠x->
 sp (.ref x::(vs++dvs)) (upd (upd H1 dx (.own x)) x (.ins C dx [])) (fun v H2=>v=.non/\Q (.ref x) H2) E
def dQ (K:WA)(fd:FuncData)(ps:List Str)(ds:List Value):Prop:=
 ∀(s:Shared) (us:List Value),K.In s.heap->(us++ds).length=ps.length->BindsTo s fd ⟨us,[]⟩ (ps.zip (us++ds))
theorem dQ.all {K:WA}{fd:FuncData}{ps:List Str}(h:∀us:List Value,us.length=ps.length->bindArgs fd ⟨us,[]⟩=pure (ps.zip us)):dQ K fd ps []:=fun s us _ hl=>by
 rw [List.append_nil] at hl ⊢
 exact .of_eq (h us hl)
def fN (CX:CXT)(X:Cx)(E:XK):Prop:=∀(pins:List (Addr×Obj)) (σ:St) (H:Hp) (s:Shared) (e:Value) (s':Shared),Inv X pins σ H s->CX X.stack H s E e s'->X.xe e s'
section
variable {X:Cx}{CX:CXT}{k:Nat}{f C:Addr}{fd:FuncData}{ps:List Str}{sp:Sp}{dvs:List V}{ds:List Value}{E:XK}{x m:Str}{p pos apos:Pos}{e o:Expr}{es:List Expr}{ta:TE}{t:TA}
theorem Ci {pins:List (Addr×Obj)}{σ:St}{H:Hp}{s:Shared}{Q:VK}{us:List Value}{vs:List V}(F:fM X.prog X.w X.K X.mg X.base CX k f fd ps sp)(hr:dH k X.A)(hb:dQ X.K fd ps ds)(hd:br dvs ds)(hx:fN CX X E)
  (I:Inv X pins σ H s) (r:br vs us) (h:sp (vs++dvs) H Q E):wpAny (model X.prog X.w) X.A (call (.ref f) us) (EP X pins σ Q) X.xe s:=by
 have r2:br (vs++dvs) (us++ds):=r.append hd
 have hl:(us++ds).length=ps.length:=by rw [←r2.length];exact F.len _ _ _ _ h
 refine wpAny_call (codeAny_mono (F.run X.A X.stack s H ⟨us,[]⟩ (us++ds) (vs++dvs) Q E hr I.env0 (hb s us I.kIn hl) r2 h) fun r s' hq=>?_)
 cases r with
 | error e=>exact hx pins σ H s e s' I hq
 | ok fl=>
  cases fl with
  | ret u=>exact I.after hq
  | next=>exact False.elim hq
  | brk=>exact False.elim hq
  | cont=>exact False.elim hq
theorem Ik (F:fM X.prog X.w X.K X.mg X.base CX k f fd ps sp)(hr:dH k X.A)(hg:Gl X x)(hm:X.mg x=some (.ref f))(hk:W.keepIn X.K (.ref f)=true)(hb:dQ X.K fd ps ds)(hd:br dvs ds)(hx:fN CX X E)
  (ha:PA X (e::es) t) (hdb:(x == ("__debug__":Str))=false:=by decide) (he:starEach (e::es) X.env=(false,eval e X.env)::starEach es X.env:=by rfl) (hpl:(backTo pos (starEach es X.env)).any (·.1)=false:=by rfl) :
  PE X (.Call (.Name x p) (e::es) [] pos) (Am sp dvs E t):=by
 intro pins s σ H Q I h
 refine wpAny_Call_Name_kw (qk I hg hm ?_ hdb)
 refine W.callWith_K (h₀:=X.base) I.ok.mod.kin hk (thn (ha pos pins s σ H _ I h) fun us s1 ⟨vs,H1,I1,r,q⟩=>⟨I1.kIn,?_⟩) he hpl
 exact Ci F hr hb hd hx I1 r q
theorem Il {pl:Sem Bool}(he:PE X o ta)(c:Cls X.K C)(hm:Al X.K C m f)(F:fM X.prog X.w X.K X.mg X.base CX k f fd ps sp)(hr:dH k X.A)(hb:dQ X.K fd ps ds)(hd:br dvs ds)(hx:fN CX X E)(ha:PA X (e::es) t)
  (hst:starEach (e::es) X.env=(false,eval e X.env)::starEach es X.env:=by rfl) (hpl:(backTo pos (starEach es X.env)).any (·.1)=false:=by rfl)
  (ht:eval (.Call (.Attribute o m apos) (e::es) [] pos) X.env=(do
   let ov ←eval o X.env
   standAt apos.atName
   let (f,first) ←holding [ov] (getMethod ov m pl)
   callWith pos f first (backTo pos (starEach (e::es) X.env)) (backToKw pos (keywordEach [] X.env))):=by rfl) :
  PE X (.Call (.Attribute o m apos) (e::es) [] pos) (xR C m sp dvs E ta t):=by
 intro pins s σ H Q I h
 refine W.methodCall_KW (pl:=pl) (thn (he pins s σ H _ I h) fun u s1 ⟨x,H1,I1,rx,a,dx,fs,ex,ea,l,q⟩=>?_) ht
 subst ex
 obtain rfl:u=Value.ref a:=rx
 refine lh I1 ea c hm l ?_
 refine W.callWith_K (first:=[.ref a]) (h₀:=X.base) I.ok.mod.kin hm.kp (thn (ha pos pins s1 σ H1 _ I1 q) fun us s2 ⟨vs,H2,I2,r,q2⟩=>⟨I2.kIn,?_⟩) hst hpl
 exact Ci (us:=.ref a::us) (vs:=.ref a::vs) F hr hb hd hx I2 (.cons rfl r) q2
theorem FR {pl:Sem Bool}(he:PE X o ta)(c:Cls X.K C)(hm:Al X.K C m f)(F:fM X.prog X.w X.K X.mg X.base CX k f fd ps sp)(hr:dH k X.A)(hb:dQ X.K fd ps ds)(hd:br dvs ds)(hx:fN CX X E)
  (ht:eval (.Call (.Attribute o m apos) [] [] pos) X.env=(do
   let ov ←eval o X.env
   standAt apos.atName
   let (f,first) ←holding [ov] (getMethod ov m pl)
   callWith pos f first (backTo pos (starEach [] X.env)) (backToKw pos (keywordEach [] X.env))):=by rfl) :
  PE X (.Call (.Attribute o m apos) [] [] pos) (xR C m sp dvs E ta wO):=by
 intro pins s σ H Q I h
 refine W.methodCall_KW (pl:=pl) (thn (he pins s σ H _ I h) fun u s1 ⟨x,H1,I1,rx,a,dx,fs,ex,ea,l,q⟩=>?_) ht
 subst ex
 obtain rfl:u=Value.ref a:=rx
 refine lh I1 ea c hm l ?_
 exact W.callWith_K0 (first:=[.ref a]) I1.kIn hm.kp (Ci (us:=[.ref a]) (vs:=[.ref a]) F hr hb hd hx I1 (.cons rfl .nil) q)
structure Mk (K:WA)(C f:Addr):Prop where
 makes:W.makesIn K C=true
 init:W.findIn K (.ref C) "__init__"=some (some (.ref f))
 fn:W.isFn K (.ref f)=true
 kp:W.keepIn K (.ref C)=true
theorem FT {pins:List (Addr×Obj)}{σ:St}{H:Hp}{s:Shared}{Q:VK}{us:List Value}{vs:List V}(M:Mk X.K C f)(F:fM X.prog X.w X.K X.mg X.base CX k f fd ps sp)(hr:dH (k+1) X.A)(hb:dQ X.K fd ps ds)(hd:br dvs ds)
  (hx:fN CX X E) (I:Inv X pins σ H s) (r:br vs us)
  (h:∀x dx,H x=none->H dx=none->dx≠x->sp (.ref x::(vs++dvs)) (upd (upd H dx (.own x)) x (.ins C dx [])) (fun v H2=>v=.non/\Q (.ref x) H2) E) :
  wpAny (model X.prog X.w) X.A (call (.ref C) us) (EP X pins σ Q) X.xe s:=by
 have hq:=h (s.heap.objs.size+1) s.heap.objs.size (I.hok.fresh (Nat.le_succ _)) (I.hok.fresh (Nat.le_refl _)) (Nat.ne_of_lt (Nat.lt_succ_self _))
 have I2:=Inv.made (C:=C) I
 have r2:br (V.ref (s.heap.objs.size+1)::(vs++dvs)) (Value.ref (s.heap.objs.size+1)::(us++ds)):=.cons rfl (r.append hd)
 have hl:(Value.ref (s.heap.objs.size+1)::us++ds).length=ps.length:=by
  have e:=r2.length
  rw [F.len _ _ _ _ hq] at e
  exact e.symm
 refine wpAny_call (FP (f:=f) I.kIn M.makes M.init (beq_iff_eq.mp M.fn) (codeAny_mono (F.run _ X.stack _ _ ⟨Value.ref (s.heap.objs.size+1)::us,[]⟩ (Value.ref (s.heap.objs.size+1)::(us++ds)) _ _ E (hr.make C us [])
  (I2.env0.make C us []) (hb _ (Value.ref (s.heap.objs.size+1)::us) I2.kIn hl) r2 hq) fun r s' hq'=>?_))
 cases r with
 | error e=>exact hx pins σ _ _ e s' I2 hq'
 | ok fl=>
  cases fl with
  | ret u=>
   obtain ⟨v,H',I3,rv,ev,q3⟩:=I2.after hq'
   subst ev
   exact ⟨rv,⟨V.ref (s.heap.objs.size+1),H',I3,rfl,q3⟩⟩
  | next=>exact False.elim hq'
  | brk=>exact False.elim hq'
  | cont=>exact False.elim hq'
theorem Im (M:Mk X.K C f)(F:fM X.prog X.w X.K X.mg X.base CX k f fd ps sp)(hr:dH (k+1) X.A)(hg:Gl X x)(hm:X.mg x=some (.ref C))(hb:dQ X.K fd ps ds)(hd:br dvs ds)(hx:fN CX X E)
  (ha:PA X (e::es) t) (hdb:(x == ("__debug__":Str))=false:=by decide) (he:starEach (e::es) X.env=(false,eval e X.env)::starEach es X.env:=by rfl) (hpl:(backTo pos (starEach es X.env)).any (·.1)=false:=by rfl) :
  PE X (.Call (.Name x p) (e::es) [] pos) (FQ C sp dvs E t):=by
 intro pins s σ H Q I h
 refine wpAny_Call_Name_kw (qk I hg hm ?_ hdb)
 refine W.callWith_K (h₀:=X.base) I.ok.mod.kin M.kp (thn (ha pos pins s σ H _ I h) fun us s1 ⟨vs,H1,I1,r,q⟩=>⟨I1.kIn,?_⟩) he hpl
 exact FT M F hr hb hd hx I1 r q
end
structure ay (N P:List Str)(sc:Scope):Prop where
 kind:sc.kind=.function
 co:sc.isCoroutine=false
 gen:sc.isGenerator=false
 nd:N.Nodup
 pre:N.take P.length=P
 par:∀x∈P,sc.names.lookup x=some .local\/sc.names.lookup x=some .cell
 nofree:∀y∈sc.names,y.2≠.free
theorem xS {kindOf:Str->Option NameKind}{x:Str}:∀{binds:List (Str×Value)} {m:Str->Option Value},(∀v,(x,v)∉binds)->bindL kindOf binds m x=m x
 | [],_,_=>rfl
 | (n,v)::r,m,h=>by
  unfold bindL
  rw [xS fun w hw=>h w (List.mem_cons_of_mem _ hw)]
  split
  ·have:x≠n:=by rintro rfl;exact h v List.mem_cons_self
   simp [this]
  ·rfl
theorem xT {kindOf:Str->Option NameKind}{x:Str}:∀{binds:List (Str×Value)} {m:Str->Option Value},(∀v,(x,v)∉binds)->bindC kindOf binds m x=m x
 | [],_,_=>rfl
 | (n,v)::r,m,h=>by
  unfold bindC
  rw [xT fun w hw=>h w (List.mem_cons_of_mem _ hw)]
  split
  ·rfl
  ·have:x≠n:=by rintro rfl;exact h v List.mem_cons_self
   simp [this]
theorem xU {kindOf:Str->Option NameKind}{x:Str}{v:Value}:∀{P:List Str} {vs:List Value} {i:Nat} {m:Str->Option Value},P.Nodup->P[i]?=some x->vs[i]?=some v->kindOf x=some .local->
  bindL kindOf (P.zip vs) m x=some v
 | [],_,_,_,_,h,_,_=>by simp at h
 | _::_,[],_,_,_,_,h,_=>by simp at h
 | p::P,w::vs,0,m,nd,h1,h2,hk=>by
  simp at h1 h2;subst h1;subst h2
  show bindL kindOf ((p,w)::P.zip vs) m p=_
  unfold bindL
  rw [xS fun v hv=>(List.nodup_cons.mp nd).1 (List.of_mem_zip hv).1,if_pos hk]
  simp
 | p::P,w::vs,i+1,m,nd,h1,h2,hk=>by
  show bindL kindOf ((p,w)::P.zip vs) m x=_
  unfold bindL
  exact xU (i:=i) (List.nodup_cons.mp nd).2 (by simpa using h1) (by simpa using h2) hk
theorem xV {kindOf:Str->Option NameKind}{x:Str}{v:Value}:∀{P:List Str} {vs:List Value} {i:Nat} {m:Str->Option Value},P.Nodup->P[i]?=some x->vs[i]?=some v->kindOf x≠some .local->
  bindC kindOf (P.zip vs) m x=some v
 | [],_,_,_,_,h,_,_=>by simp at h
 | _::_,[],_,_,_,_,h,_=>by simp at h
 | p::P,w::vs,0,m,nd,h1,h2,hk=>by
  simp at h1 h2;subst h1;subst h2
  show bindC kindOf ((p,w)::P.zip vs) m p=_
  unfold bindC
  rw [xT fun v hv=>(List.nodup_cons.mp nd).1 (List.of_mem_zip hv).1,if_neg hk]
  simp
 | p::P,w::vs,i+1,m,nd,h1,h2,hk=>by
  show bindC kindOf ((p,w)::P.zip vs) m x=_
  unfold bindC
  exact xV (i:=i) (List.nodup_cons.mp nd).2 (by simpa using h1) (by simpa using h2) hk
def mh (N:List Str)(vs:List V):St:=vs.map some++List.replicate (N.length - vs.length) none
def oq (CX:CXT)(P:Program)(w:World)(K:WA)(mg:Str->Option Value)(base:Heap)(N:List Str)(qual:Str)(scope:Scope)(f:Addr)(cd:Value)(A:Around)(outer:List Env)(s:Shared)(H:Hp)(E:XK):Cx where
 prog:=P
 w:=w
 K:=K
 mg:=mg
 base:=base
 A:=A.deeper (envOfC qual scope s.heap.objs.size f cd)
 N:=N
 s₀:=s
 H₀:=H
 env:=envOfC qual scope s.heap.objs.size f cd
 outer:=outer
 stack:=envOfC qual scope s.heap.objs.size f cd::outer
 ex:=[]
 calm:=true
 fn:=fun _=>true
 pn:=[]
 xe:=fun e s'=>wpAny (model P w) (A.deeper (envOfC qual scope s.heap.objs.size f cd)) (leaving (envOfC qual scope s.heap.objs.size f cd) e) (fun _ s''=>CX outer H s E e s'') (fun e' s''=>CX outer H s E e' s'') s'
theorem An {sc:Scope}{n:Nat}{x:Str}(h:sc.names.lookup x=some .cell):∃c,(cellsFrom n sc.names []).lookup x=some c:=by
 have q:=W.cellsFrom_some sc.names n [] (.inl h)
 exact Option.isSome_iff_exists.mp q
theorem EK {CX:CXT}{P:Program}{w:World}{K:WA}{mg:Str->Option Value}{base:Heap}{N ps:List Str}{qual:Str}{scope:Scope}{f:Addr}{cd:Value}{A:Around}{outer:List Env}{s s1:Shared}{H:Hp}{E:XK}{us:List Value}{vs:List V}
  (S:ay N ps scope) (hd:A.handled=none) (e0:Cg P w K mg base A outer s H) (hl:vs.length=ps.length) (r:br vs us)
  (x:InCallC s s.heap.objs.size (bindL (envOfC qual scope s.heap.objs.size f cd).kindOf (ps.zip us) fun _=>none) (cellsFrom (s.heap.objs.size+1) scope.names []) (bindC (envOfC qual scope s.heap.objs.size f cd).kindOf (ps.zip us) fun _=>none) s1) :
  Inv (oq CX P w K mg base N qual scope f cd A outer s H E) [] (mh N vs) H s1:=by
 have hpl:ps.length<=N.length:=by have:=congrArg List.length S.pre;rw [List.length_take] at this;omega
 obtain ⟨h1,tk,rfl,hk⟩:=x.done
 have noA:∀b:Addr,b∉(oq CX P w K mg base N qual scope f cd A outer s H E).ex:=fun b z=>absurd (show b∈([]:List Addr) from z) (by simp)
 refine ⟨⟨e0.mod,S.kind,rfl,rfl,Nat.le_refl _,fun y z c h1 h2=>?_,fun y hy=>?_,fun y c _ h=>?_,fun _=>hd,Around.frames_deeper e0.frames,.inr ⟨rfl,rfl⟩,fun b z=>absurd z (noA b),e0.bs,e0.bsz,fun b _ _=>noA b,fun b z=>absurd z (noA b),e0.funs,e0.frf⟩,
  rfl,e0.bare,Un.kept hk,⟨_,x.toInCall.ns,fun i y v h1 h2 h3=>?_⟩,fun y c h=>⟨_,x.cell y c h⟩,e0.hok.fresh (Nat.le_refl _),fun y c h=>?_,fun p hp=>absurd (show p∈([]:List (Addr×Obj)) from hp) (by simp),e0.hok.kept hk,?_⟩
 ·exact name_of_addr x.apart (PySem.mem_of_lookup h1) (PySem.mem_of_lookup h2)
 ·have hy:scope.names.lookup y=some .cell\/scope.names.lookup y=some .free:=hy
  rcases hy with hy | hy
  ·exact An hy
  ·exact absurd rfl (S.nofree _ (PySem.mem_of_lookup hy))
 ·exact Nat.le_of_lt (x.above y c (PySem.mem_of_lookup h))
 ·have hi:i < vs.length:=by
   unfold mh at h2
   by_cases hi:i < vs.length
   ·exact hi
   ·rw [List.getElem?_append_right (by simpa using hi)] at h2
    rw [List.getElem?_replicate] at h2
    split at h2<;>cases h2
  have ha:vs[i]?=some v:=by
   unfold mh at h2
   rw [List.getElem?_append_left (by simpa using hi),List.getElem?_map] at h2
   cases e:vs[i]? with
   | none=>rw [e] at h2;cases h2
   | some a=>rw [e] at h2;cases h2;rfl
  obtain ⟨u,hu,rv⟩:=r.get ha
  have hp:ps[i]?=some y:=by
   rw [←S.pre,List.getElem?_take_of_lt (by omega)];exact h1
  have ndP:ps.Nodup:=by rw [←S.pre];exact S.nd.sublist (List.take_sublist _ _)
  refine ⟨u,rv,?_⟩
  rcases S.par y (List.mem_of_getElem? hp) with k | k
  ·exact .inl ⟨k,xU ndP hp hu k⟩
  ·obtain ⟨c,e⟩:=An (n:=s.heap.objs.size+1) k
   refine .inr ⟨.inl k,c,e,?_⟩
   have q:=x.cell y c e
   rw [xV ndP hp hu (by show scope.names.lookup y≠_;rw [k];decide)] at q
   exact q
 ·exact e0.hok.fresh (Nat.le_of_lt (x.above y c (PySem.mem_of_lookup h)))
 ·unfold mh
  show _=N.length
  rw [List.length_append,WB,List.length_replicate]
  omega
theorem Kj {CX:CXT}{P:Program}{w:World}{K:WA}{mg:Str->Option Value}{base:Heap}{k:Nat}{f:Addr}{name qual:Str}{params:Arguments}{body:List Stmt}{scope:Scope}{dV kV doc pm cdv ct oc:Value}{an od:Option Addr}
  {osl:Array (Option Value)} {N ps:List Str} {sp:Sp} (lk:K.lookup f=some ⟨oc,od,.func (W.fnOf name qual params body scope dV kV doc pm an cdv ct),osl⟩) (hcd:W.codeIn K cdv qual=true) (S:ay N ps scope)
  (len:∀vs H Q E,sp vs H Q E->vs.length=ps.length)
  (hbody:∀(A:Around) (outer:List Env) (s:Shared) (H:Hp) (vs:List V) (Q:VK) (E:XK),dH k (A.deeper (envOfC qual scope s.heap.objs.size f cdv))->sp vs H Q E->
   ∃t,PSs (oq CX P w K mg base N qual scope f cdv A outer s H E) body t/\t {nx:=fun _ H'=>Q .non H',rt:=Q} (mh N vs) H) :
  fM P w K mg base CX (k+1) f (W.fnOf name qual params body scope dV kV doc pm an cdv ct) ps sp:=by
 refine ⟨len,fun A outer s H args us vs Q E hr e0 hb r hsp=>?_⟩
 have hl:=len _ _ _ _ hsp
 have KX:K.In s.heap:=e0.mod.kin.keeps fun b o e=>(e0.bs b o e).1
 have lim:s.heap.NoLimit:=e0.mod.nolimit.keeps fun b o e=>(e0.bs b o e).1
 have hkind:∀y∈ps.zip us,scope.names.lookup y.1=some .local\/(scope.names.lookup y.1=some .cell/\((cellsFrom (s.heap.objs.size+1) scope.names []).lookup y.1).isSome=true):=fun ⟨n,v⟩ hy=>by
  rcases S.par n (List.of_mem_zip hy).1 with q | q
  ·exact .inl q
  ·exact .inr ⟨q,W.cellsFrom_some _ _ _ (.inl q)⟩
 refine codeAny_call_function hr.depth (KX _ _ lk) rfl S.co S.gen rfl (W.codeRec_of KX hcd) (hb _ _ _ _ ?_)
 refine wpAny_newFunctionEnv_cells S.kind hkind fun env he s1 x=>?_
 subst he
 refine ⟨lim.keeps x.toInCall.keep,codeAny_func ?_⟩
 obtain ⟨t,ht,hq⟩:=hbody A outer s H vs Q E (hr.deeper _) hsp
 have I:Inv (oq CX P w K mg base N qual scope f cdv A outer s H E) [] (mh N vs) H s1:=EK S hr.hd e0 hl r x
 refine wpAny_mono (ht [] s1 (mh N vs) H _ I hq) (fun fl s' hs=>?_) fun e s' hs=>hs
 have fin:∀{σ':St} {H':Hp} {v:V} {u:Value},Inv (oq CX P w K mg base N qual scope f cdv A outer s H E) [] σ' H' s'->bK v u->Q v H'->CE outer P w H s Q u s':=
  fun {σ' H' v u} J rv q=>⟨v,H',J.os,J.bare,J.base,J.hok,rv,q⟩
 cases fl with
 | ret u=>
  obtain ⟨v,σ',H',J,rv,q⟩:=hs
  exact fin J rv q
 | next=>
  obtain ⟨σ',H',J,q⟩:=hs
  exact fin (v:=V.non) (u:=Value.none) J rfl q
 | brk=>
  obtain ⟨_,_,_,q⟩:=hs
  exact False.elim q
 | cont=>
  obtain ⟨_,_,_,q⟩:=hs
  exact False.elim q
section
variable {X:Cx}{x:Str}{p pos:Pos}{e:Expr}{es:List Expr}{t:TA}{id T:String}{r:List V->Hp->VK->Prop}
def tCB (r:List V->Hp->VK->Prop)(t:TA):TE:=fun σ H Q=>t σ H fun vs H1=>r vs H1 Q
theorem aH (hc:ez X (.builtin id) r)(hg:Gl X x)(hm:X.mg x=none)(hv:bootBuiltins x=some (.builtin id))(ha:PA X (e::es) t)(hn:x≠"__name__":=by decide)(hdb:(x == ("__debug__":Str))=false:=by decide)
  (he:starEach (e::es) X.env=(false,eval e X.env)::starEach es X.env:=by rfl) (hpl:(backTo pos (starEach es X.env)).any (·.1)=false:=by rfl):PE X (.Call (.Name x p) (e::es) [] pos) (tCB r t):=by
 intro pins s σ H Q I h
 refine wpAny_Call_Name_kw (kX I hg hm hv ?_ hn hdb)
 exact PyProof.Rows.callWith_builtin1 (thn (ha pos pins s σ H _ I h) fun us s1 ⟨vs,H1,I1,r1,q1⟩=>hc pins s1 σ H1 vs us Q I1 r1 q1) he hpl
theorem bg (hc:ez X (.type T) r)(hg:Gl X x)(hm:X.mg x=none)(hv:bootBuiltins x=some (.type T))(ha:PA X (e::es) t)(hn:x≠"__name__":=by decide)(hdb:(x == ("__debug__":Str))=false:=by decide)
  (he:starEach (e::es) X.env=(false,eval e X.env)::starEach es X.env:=by rfl) (hpl:(backTo pos (starEach es X.env)).any (·.1)=false:=by rfl):PE X (.Call (.Name x p) (e::es) [] pos) (tCB r t):=by
 intro pins s σ H Q I h
 refine wpAny_Call_Name_kw (kX I hg hm hv ?_ hn hdb)
 exact PyProof.Rows.callWith_type1 (thn (ha pos pins s σ H _ I h) fun us s1 ⟨vs,H1,I1,r1,q1⟩=>hc pins s1 σ H1 vs us Q I1 r1 q1) he hpl
end
end L2
namespace HT
open PySem PyProof.Rows
section
open PySem.SeqAt
open PySem.AutoSeq1 (wpAny_loadPart')
open PySem.MeetsSeq PySem.MeetsSeq2 PySem.MeetsSeq3
end
section
variable {prog:Program}{w:World}{A:Around}{E:Value->Shared->Prop}{s:Shared}
theorem Io {t b:Addr}{vs ws:List Value}{Q:Value->Shared->Prop}(ht:IsTup s.heap t vs.toArray)(hb:IsTup s.heap b ws.toArray)(hv:vs≠[])
  (h1:ws=[]->Q (.ref t) s) (h2:ws≠[]->Q (.ref s.heap.objs.size) {s with heap:=s.heap.push {cls:=.type "tuple",data:=.seq (vs++ws).toArray}})
  (hsz:vs.length+ws.length<=sizeLine):wpAny (model prog w) A (binaryOp .Add (.ref t) (.ref b)) Q E s:=by
 obtain ⟨⟨cls,dd,data,sl⟩,ho,hc,n,hd⟩:=id ht
 obtain ⟨⟨cls2,dd2,data2,sl2⟩,ho2,hc2,n2,hd2⟩:=id hb
 simp only at hc hd hc2 hd2
 subst hc hd hc2 hd2
 have e:vs.toArray++ws.toArray=(vs++ws).toArray:=by simp
 by_cases hw:ws=[]
 ·exact concat_meets ⟨_,ho,rfl⟩ ⟨_,ho2,rfl⟩ noFill_tuple_add seq_tuple_add PySem.F.slot_tuple_add PySem.F.entry_tuple_add (PySem.F.args_tuple_add_2 _ _)
   (tuple_addW1 t b vs.toArray ws.toArray n n2 dd dd2 sl sl2 (by simpa using hv) (by simp [hw])) ⟨ho,ho2,h1 hw⟩
 ·refine concat_meets ⟨_,ho,rfl⟩ ⟨_,ho2,rfl⟩ noFill_tuple_add seq_tuple_add PySem.F.slot_tuple_add PySem.F.entry_tuple_add (PySem.F.args_tuple_add_2 _ _)
   (tuple_addW2 t b vs.toArray ws.toArray n n2 dd dd2 sl sl2 (by simpa using hv) (by simpa using hw) (by rw [List.size_toArray,List.size_toArray];exact hsz)) ⟨ho,ho2,?_⟩
  rw [e]
  exact h2 hw
def sIx (n d:Nat):Option Int->Nat
 | none=>d
 | some v=>if v < 0 then (v+(n:Int)).toNat else min v.toNat n
theorem Ip (n d k:Nat):sIx n d (some (k:Int))=min k n:=by
 show (if (k:Int) < 0 then ((k:Int)+(n:Int)).toNat else min (k:Int).toNat n)=min k n
 rw [if_neg (by omega),Int.toNat_natCast]
theorem Lm (n d:Nat)(hd:d<=n)(o:Option Int):sIx n d o<=n:=by
 cases o with
 | none=>exact hd
 | some v=>
  show (if v < 0 then (v+(n:Int)).toNat else min v.toNat n)<=n
  by_cases hv:v < 0
  ·rw [if_pos hv];omega
  ·rw [if_neg hv];exact Nat.min_le_right _ _
theorem y0 (v:Int)(n d:Nat):(if v < 0 then max (v+(n:Int)) 0 else min v (n:Int))=((sIx n d (some v):Nat):Int):=by
 show (if v < 0 then max (v+(n:Int)) 0 else min v (n:Int))=(((if v < 0 then (v+(n:Int)).toNat else min v.toNat n):Nat):Int)
 by_cases hv:v < 0
 ·simp only [if_pos hv];omega
 ·simp only [if_neg hv];omega
theorem Cj (lo hi:Option Int)(n:Nat):Builtin.Slice.sliceAdjust lo hi 1 (n:Int)=(((sIx n 0 lo:Nat):Int),((sIx n n hi:Nat):Int)):=by
 have h1:¬((1:Int) < 0):=by omega
 unfold Builtin.Slice.sliceAdjust
 simp only [h1,if_false]
 refine Prod.ext ?_ ?_
 ·cases lo with
  | none=>rfl
  | some v=>exact y0 v n 0
 ·cases hi with
  | none=>rfl
  | some v=>exact y0 v n n
theorem Ck (i j:Nat):Builtin.Slice.slicePlaces (i:Int) (j:Int) 1=j - i:=by
 unfold Builtin.Slice.slicePlaces
 have h1:(1:Int) > 0:=by omega
 simp only [h1,if_true,Int.ediv_one]
 split<;>omega
theorem uW {v:Value}{o:Option Int}{Q:Option Int->Shared->Prop}(p:IsPart v o)(h:Q o s):wpAny (model prog w) A (Builtin.Slice.slicePartIndex v) Q E s:=by
 cases p with
 | none=>exact slicePart_none h
 | int i t=>exact slicePart_int h
theorem rY {sl:Addr}{vl vu:Value}{lo hi:Option Int}{n:Nat}{Q:Int×Int×Nat->Shared->Prop}(hs:s.heap.IsSliceOf sl vl vu .none)(pl:IsPart vl lo)(pu:IsPart vu hi)
  (h:Q (((sIx n 0 lo:Nat):Int),1,sIx n n hi - sIx n 0 lo) s):wpAny (model prog w) A (Builtin.Slice.sliceApplied (.ref sl) (pure (n:Int))) Q E s:=by
 obtain ⟨os,hos,hcs,hds⟩:=id hs
 unfold Builtin.Slice.sliceApplied Builtin.Slice.sliceFields
 refine wpAny_bind (wpAny_bind (wpAny_field hos hds (x:=vl) rfl (wpAny_bind (wpAny_field hos hds (x:=vu) rfl (wpAny_bind (wpAny_field hos hds (x:=.none) rfl (wpAny_pure ?_)))))))
 refine wpAny_bind (slicePart_none ?_)
 show wpAny _ _ (if ((1:Int) == 0)=true then _ else _) _ _ s
 rw [if_neg (by decide)]
 refine wpAny_bind (uW pl (wpAny_bind (uW pu (wpAny_bind (wpAny_pure ?_)))))
 show wpAny _ _ (match Builtin.Slice.sliceAdjust lo hi 1 (n:Int) with | (lo,hi)=>pure (lo,(1:Int),Builtin.Slice.slicePlaces lo hi 1)) _ _ s
 rw [Cj lo hi n]
 show wpAny _ _ (pure (((sIx n 0 lo:Nat):Int),(1:Int),Builtin.Slice.slicePlaces ((sIx n 0 lo:Nat):Int) ((sIx n n hi:Nat):Int) 1)) _ _ s
 rw [Ck]
 exact wpAny_pure h
theorem FU (xs:Array Value)(i k:Nat):((List.range k).filterMap fun (m:Nat)=>xs[((i:Int)+(m:Int) * 1).toNat]?).toArray=((xs.toList.drop i).take k).toArray:=by
 have e:(fun (m:Nat)=>xs[((i:Int)+(m:Int) * 1).toNat]?)=fun m=>xs[i+m]?:=by
  funext m
  have:((i:Int)+(m:Int) * 1).toNat=i+m:=by omega
  rw [this]
 rw [e]
 have:=pick_run xs i k
 rw [List.filterMap_map] at this
 have e2:((fun x=>xs[x]?) ∘ fun x=>i+x)=fun m=>xs[i+m]?:=rfl
 rw [e2] at this
 rw [this]
theorem qm {t sl:Addr}{items:Array Value}{vl vu:Value}{lo hi:Option Int}{Q:Value->Shared->Prop}(ht:IsTup s.heap t items)(hs:s.heap.IsSliceOf sl vl vu .none)(pl:IsPart vl lo)(pu:IsPart vu hi)
  (hw:¬(sIx items.size 0 lo=0/\sIx items.size items.size hi=items.size))
  (h:Q (.ref s.heap.objs.size) {s with heap:=s.heap.push {cls:=.type "tuple",data:=.seq ((items.toList.drop (sIx items.size 0 lo)).take (sIx items.size items.size hi - sIx items.size 0 lo)).toArray}})
  (hsz:items.size<=sizeLine):wpAny (model prog w) A (getItem (.ref t) (.ref sl)) Q E s:=by
 have htake:sizeOk (.seq ((items.toList.drop (sIx items.size 0 lo)).take (sIx items.size items.size hi - sIx items.size 0 lo)).toArray):=by
  show ((items.toList.drop (sIx items.size 0 lo)).take (sIx items.size items.size hi - sIx items.size 0 lo)).toArray.size<=sizeLine
  rw [List.size_toArray,List.length_take,List.length_drop,Array.length_toList]
  omega
 have hj:sIx items.size items.size hi<=items.size:=Lm _ _ (Nat.le_refl _) hi
 obtain ⟨os,hos,hcs,hds⟩:=id hs
 have hTs:s.TypeIs (.ref sl) "slice":=⟨os,hos,hcs⟩
 unfold getItem
 try with_reducible refine wpAny_holding ?_
 first | refine wpAny_bind (wpAny_pure ?_) | skip
 refine wpAny_bind (wpAny_sequenceKey ht.typeIs (by decide) ?_)
 refine wpAny_bind (wpAny_callSpecial?_slot (name:=Str.ofString "__getitem__") ht.typeIs PyProof.Rows.slot_tuple_getitem
  (wpAny_call_entry PyProof.Rows.slot_tuple_getitem ht.typeIs entry_tuple_getitem ?_ (args_tuple_getitem _ _)))
 show wpAny _ _ (Builtin.Tuple.tupleItemsOf (.ref t) >>= _) _ _ s
 refine wpAny_bind (tupleItemsOf_ ht ?_)
 refine wpAny_bind (wpAny_typeOf hTs ?_)
 rw [if_pos (by decide)]
 refine wpAny_bind (rY hs pl pu ?_)
 have hno:¬((((sIx items.size 0 lo:Nat):Int) == 0 && (1:Int) == 1 && (sIx items.size items.size hi - sIx items.size 0 lo) == items.size)=true):=by
  intro q
  rw [Bool.and_eq_true,Bool.and_eq_true] at q
  have q1:((sIx items.size 0 lo:Nat):Int)=0:=eq_of_beq q.1.1
  have q2:sIx items.size items.size hi - sIx items.size 0 lo=items.size:=eq_of_beq q.2
  exact hw ⟨by omega,by omega⟩
 show wpAny _ _ (if (((sIx items.size 0 lo:Nat):Int) == 0 && (1:Int) == 1 && (sIx items.size items.size hi - sIx items.size 0 lo) == items.size)=true then _ else _) _ _ s
 rw [if_neg hno,FU]
 first
  | exact wpAny_bind (m:=Builtin.Tuple.tupleExact _) (wpAny_newObj_type (wpAny_pure ⟨_,rfl,wpAny_pure h⟩) htake)
  | exact wpAny_bind (m:=Builtin.Tuple.tupleExact _) (wpAny_newObj_type (wpAny_bind (wpAny_pure (wpAny_pure ⟨_,rfl,wpAny_pure h⟩))) htake)
  | exact wpAny_bind (wpAny_bind (m:=Builtin.Tuple.tupleExact _) (wpAny_newObj_type (wpAny_pure (wpAny_pure ⟨_,rfl,wpAny_pure h⟩)) htake))
  | exact wpAny_bind (wpAny_bind (m:=Builtin.Tuple.tupleExact _) (wpAny_newObj_type (wpAny_pure ⟨_,rfl,wpAny_pure h⟩) htake))
end
end HT
namespace L2
open PySem PySem.Spec PyProof.Rows
abbrev TO:=St->Hp->(Option Int->Hp->Prop)->Prop
def PO (X:Cx)(e:Option Expr)(t:TO):Prop:=
 ∀(pins:List (Addr×Obj)) (s:Shared) (σ:St) (H:Hp) (Q:Option Int->Hp->Prop),Inv X pins σ H s->t σ H Q->
  wpAny (model X.prog X.w) X.A (evalPart e X.env) (fun u s'=>∃o H',Inv X pins σ H' s'/\IsPart u o/\Q o H') X.xe s
def DJ:TO:=fun _ H Q=>Q none H
def Kk (t:TE):TO:=fun σ H Q=>t σ H fun x H1=>∃i,x=.int i/\Q (some i) H1
section
variable {X:Cx}{e:Expr}{te:TE}{lo hi:Option Expr}{tl th:TO}{pos p2:Pos}
theorem uG:PO X none DJ:=by
 intro pins s σ H Q I h
 rw [evalPart_none]
 exact wpAny_pure ⟨none,H,I,.none,h⟩
theorem Iq (h:PE X e te):PO X (some e) (Kk te):=by
 intro pins s σ H Q I hw
 rw [evalPart_some]
 refine thn (h pins s σ H _ I hw) fun u s1 ⟨x,H1,I1,r1,q1⟩=>?_
 obtain ⟨i,rfl,q⟩:=q1
 obtain ⟨t,rfl⟩:=r1
 exact ⟨some i,H1,I1,.int i t,q⟩
def SlR (X:Cx)(r:V->Option Int->Option Int->Hp->VK->Prop):Prop:=
 ∀(pins:List (Addr×Obj)) (s:Shared) (σ:St) (H:Hp) (x:V) (v vl vu:Value) (lo hi:Option Int) (sl:Addr) (Q:VK),Inv X pins σ H s->bK x v->s.heap.IsSliceOf sl vl vu .none->IsPart vl lo->IsPart vu hi->r x lo hi H Q->
  ∃T id,typeLookup (.type T) "__getitem__"=pure (some (.builtin id))/\s.TypeIs v T/\wpAny (model X.prog X.w) X.A (getItem v (.ref sl)) (EP X pins σ Q) X.xe s
noncomputable def tSl (r:V->Option Int->Option Int->Hp->VK->Prop)(te:TE)(tl th:TO):TE:=fun σ H Q=>te σ H fun x H1=>tl σ H1 fun l H2=>th σ H2 fun u H3=>r x l u H3 Q
theorem iR {r:V->Option Int->Option Int->Hp->VK->Prop}(hr:SlR X r)(he:PE X e te)(hl:PO X lo tl)(hu:PO X hi th):PE X (.Subscript e (.Slice lo hi none p2) pos) (tSl r te tl th):=by
 intro pins s σ H Q I h
 refine Subscript_ (thn (he pins s σ H _ I h) fun v s1 ⟨x,H1,I1,r1,q1⟩=>?_)
 refine wpAny_Slice (thn (hl pins s1 σ H1 _ I1 q1) fun vl s2 ⟨l,H2,I2,pl,q2⟩=>thn (hu pins s2 σ H2 _ I2 q2) fun vu s3 ⟨u,H3,I3,pu,q3⟩=>?_)
 rw [evalPart_none]
 refine wpAny_pure ?_
 have I4:Inv X pins σ H3 {s3 with heap:=s3.heap.push {cls:=.type "slice",data:=.fields #[vl,vu,.none]}}:=I3.kept (t':=s3.toks) fun b ob q=>Heap.get?_push_of_some _ q
 obtain ⟨T,id,hT,ht,hg⟩:=hr pins {s3 with heap:=s3.heap.push {cls:=.type "slice",data:=.fields #[vl,vu,.none]}} σ H3 x v vl vu l u s3.heap.objs.size Q I4 r1 (Heap.IsSliceOf.new ..) pl pu q3
 show wpAny (model X.prog X.w) X.A (subscriptTail e (.Slice lo hi none p2) v (.ref s3.heap.objs.size)) (EP X pins σ Q) X.xe {s3 with heap:=s3.heap.push {cls:=.type "slice",data:=.fields #[vl,vu,.none]}}
 exact tail_any (ops:=[.ref s3.heap.objs.size,v]) ht hT hg (by with_unfolding_all rfl)
noncomputable def qo (xs:List V)(lo hi:Option Int):List V:=(xs.drop (HT.sIx xs.length 0 lo)).take (HT.sIx xs.length xs.length hi - HT.sIx xs.length 0 lo)
theorem jz (xs:List V)(lo hi:Option Int):(qo xs lo hi).length<=xs.length:=by
 unfold qo
 rw [List.length_take,List.length_drop]
 omega
noncomputable def MR (K:WA):V->Option Int->Option Int->Hp->VK->Prop:=fun x lo hi H Q=>∃a xs,x=.ref a/\SqT K H a xs/\
 ¬(HT.sIx xs.length 0 lo=0/\HT.sIx xs.length xs.length hi=xs.length)/\∀p,H p=none->Q (.ref p) (upd H p (.tup (qo xs lo hi)))
theorem Ln:SlR X (MR X.K):=by
 intro pins s σ H x v vl vu lo hi sl Q I rx hs pl pu h
 obtain ⟨a,xs,rfl,hx,hw,q⟩:=h
 cases rx
 obtain ⟨its,r,ht,hz⟩:=I.tuple hx
 have hlen:its.toArray.size=xs.length:=by rw [List.size_toArray];exact r.length.symm
 refine ⟨"tuple",_,PyProof.Rows.slot_tuple_getitem.lookup,ht.typeIs,?_⟩
 refine HT.qm ht hs pl pu (by rw [hlen];exact hw) ?_ (by rw [hlen];exact hz)
 rw [hlen]
 refine ⟨.ref s.heap.objs.size,_,I.laid (t':=s.toks) (o:=.tup (qo xs lo hi)) (fun b ob q=>Heap.get?_push_of_some _ q) (Nat.le_refl _) ?_,rfl,q _ (I.hok.fresh (Nat.le_refl _))⟩
 exact ⟨Nat.le_trans (jz xs lo hi) hz,_,(r.drop (HT.sIx xs.length 0 lo)).take (HT.sIx xs.length xs.length hi - HT.sIx xs.length 0 lo),iP.new _ _⟩
noncomputable def Kl (K:WA):R2:=fun x y H Q=>∃a b xs ys,x=.ref a/\y=.ref b/\SqT K H a xs/\SqT K H b ys/\xs≠[]/\xs.length+ys.length<=sizeLine/\
 (ys=[]->Q (.ref a) H)/\(ys≠[]->∀p,H p=none->Q (.ref p) (upd H p (.tup (xs++ys))))
theorem br.nil_iff {xs:List V}{us:List Value}(r:br xs us):us=[]↔xs=[]:=by
 cases r with
 | nil=>simp
 | cons _ _=>simp
theorem DK:OpR X (binaryOp .Add) (Kl X.K):=by
 intro pins s σ H x y v u Q I rx ry h
 obtain ⟨a,b,xs,ys,rfl,rfl,ha,hb,hx,hz,q1,q2⟩:=h
 cases rx
 cases ry
 obtain ⟨its,r1,p1,_⟩:=I.tuple ha
 obtain ⟨its2,r2,p2,_⟩:=I.tuple hb
 refine HT.Io p1 p2 (fun z=>hx (r1.nil_iff.mp z)) (fun z=>⟨.ref a,H,I,rfl,q1 (r2.nil_iff.mp z)⟩) (fun z=>?_) (by rw [←r1.length,←r2.length];exact hz)
 refine ⟨.ref s.heap.objs.size,_,I.laid (t':=s.toks) (o:=.tup (xs++ys)) (fun b ob q=>Heap.get?_push_of_some _ q) (Nat.le_refl _) ?_,rfl,q2 (fun w=>z (r2.nil_iff.mpr w)) _ (I.hok.fresh (Nat.le_refl _))⟩
 exact ⟨by rw [List.length_append];exact hz,_,r1.append r2,iP.new _ _⟩
end
noncomputable def ixN (n:Nat)(i:Int):Option Nat:=if 0<=i then (if i < n then some i.toNat else none) else if -(n:Int)<=i then some (i+n).toNat else none
noncomputable def atI {α:Type}(xs:List α)(i:Int):Option α:=(ixN xs.length i).bind fun j=>xs[j]?
theorem DL {n:Nat}{i:Int}{j:Nat}(h:ixN n i=some j):seqIndex? i n=some j/\j < n/\-(n:Int)<=i/\i < n:=by
 unfold ixN at h
 by_cases h0:0<=i
 ·rw [if_pos h0] at h
  by_cases h1:i < n
  ·rw [if_pos h1] at h
   have e:i.toNat=j:=Option.some.inj h
   exact ⟨by rw [seqIndex_of h0 h1,e],by omega,by omega,h1⟩
  ·rw [if_neg h1] at h;cases h
 ·rw [if_neg h0] at h
  by_cases h1:-(n:Int)<=i
  ·rw [if_pos h1] at h
   have e:(i+n).toNat=j:=Option.some.inj h
   exact ⟨by rw [seqIndex_neg (by omega) h1,e],by omega,h1,by omega⟩
  ·rw [if_neg h1] at h;cases h
theorem y3 {α:Type}{xs:List α}{i:Int}{v:α}(h:atI xs i=some v):∃j,seqIndex? i xs.length=some j/\xs[j]?=some v/\j < xs.length/\-(xs.length:Int)<=i/\i < xs.length:=by
 unfold atI at h
 cases e:ixN xs.length i with
 | none=>rw [e] at h;cases h
 | some j=>
  rw [e] at h
  obtain ⟨h1,h2,h3,h4⟩:=DL e
  exact ⟨j,h1,h,h2,h3,h4⟩
theorem DM {α:Type}{xs:List α}{j:Nat}{v:α}(h:xs[j]?=some v):atI xs (j:Int)=some v:=by
 have hj:j < xs.length:=(List.getElem?_eq_some_iff.mp h).1
 have e:ixN xs.length (j:Int)=some j:=by
  unfold ixN
  rw [if_pos (by omega),if_pos (by omega)];simp
 unfold atI;rw [e];exact h
theorem FV {α:Type}(xs:List α)(v:α):atI (xs++[v]) (-1)=some v:=by
 have hl:(xs++[v]).length=xs.length+1:=by simp
 have e:ixN (xs++[v]).length (-1)=some xs.length:=by
  unfold ixN
  rw [hl,if_neg (by decide),if_pos (by omega)]
  congr 1
  omega
 unfold atI
 rw [e]
 show (xs++[v])[xs.length]?=some v
 simp
def DN (b:Expr):Prop:=∀o i,subscripted b false o i=operate [o,i] (getItem o i)
def IxR (X:Cx)(r:R2):Prop:=
 ∀(value slice:Expr) (pins:List (Addr×Obj)) (s:Shared) (σ:St) (H:Hp) (x y:V) (v u:Value) (Q:VK),Inv X pins σ H s->bK x v->bK y u->r x y H Q->
  subscripted slice false v u=operate [v,u] (getItem v u)->wpAny (model X.prog X.w) X.A (subscriptTail value slice v u) (EP X pins σ Q) X.xe s
def MtR (X:Cx)(id:String)(r:V->List V->Hp->VK->Prop):Prop:=
 ∀(pins:List (Addr×Obj)) (s:Shared) (σ:St) (H:Hp) (x:V) (xs:List V) (v:Value) (us:List Value) (Q:VK),Inv X pins σ H s->bK x v->br xs us->r x xs H Q->
  wpAny (model X.prog X.w) X.A (call (.builtin id) (v::us)) (EP X pins σ Q) X.xe s
section
variable {X:Cx}{a b:Expr}{ta tb:TE}{pos:Pos}
theorem IxR.or {r r':R2}(h:IxR X r)(h':IxR X r'):IxR X (fun x y H Q=>r x y H Q\/r' x y H Q):=by
 intro value slice pins s σ H x y v u Q I rx ry q hs
 rcases q with q | q
 ·exact h value slice pins s σ H x y v u Q I rx ry q hs
 ·exact h' value slice pins s σ H x y v u Q I rx ry q hs
theorem MS {r:R2}(hr:IxR X r)(ha:PE X a ta)(hb:PE X b tb)(hs:DN b):PE X (.Subscript a b pos) (tOp r ta tb):=by
 intro pins s σ H Q I h
 exact Subscript_ (La ha hb I h fun v u s2 x y H2 I2 rx ry q=>hr a b pins s2 σ H2 x y v u Q I2 rx ry q (hs _ _))
noncomputable def Lo (K:WA):R2:=fun x y H Q=>∃p xs i v,x=.ref p/\y=.int i/\SqL K H p xs/\atI xs i=some v/\Q v H
noncomputable def Lp (K:WA):R2:=fun x y H Q=>∃p xs i v,x=.ref p/\y=.int i/\SqT K H p xs/\atI xs i=some v/\Q v H
noncomputable def MT:R2:=fun x y H Q=>∃z i c,x=.str z/\y=.int i/\z.length<=sizeLine/\atI z.cps.toList i=some c/\Q (.str ⟨#[c]⟩) H
theorem DO:IxR X (Lo X.K):=by
 intro value slice pins s σ H x y v u Q I rx ry h hs
 obtain ⟨p,xs,i,z,rfl,rfl,hq,he,q⟩:=h
 cases rx
 obtain ⟨t,rfl⟩:=ry
 obtain ⟨its,r,pl,hz⟩:=I.list hq
 obtain ⟨j,h1,h2,h3,h4,h5⟩:=y3 he
 obtain ⟨w,ew,rw'⟩:=r.get h2
 have hl:=r.length
 have hn:=rW
 have fin:EP X pins σ Q w s:=⟨z,H,I,rw',q⟩
 by_cases h0:0<=i
 ·have hj:i.toNat=j:=by
   rw [seqIndex_of h0 h5] at h1
   exact Option.some.inj h1
  exact item_listR pl.isList h0 (by omega) (by rw [hj];simpa using ew) fin hs
 ·have hj:(i+(its.toArray.size:Int)).toNat=j:=by
   rw [seqIndex_neg (by omega) h4] at h1
   rw [List.size_toArray,←hl]
   exact Option.some.inj h1
  exact subscriptTail_builtinR (x:=w) pl.isList.typeIs slot_list_getitem.lookup
   (wpAny_getItem_list_neg (Q:=fun r s'=>r=w/\EP X pins σ Q r s') pl.isList (by omega) (by rw [List.size_toArray]<;>omega) (by omega) (by rw [hj];simpa using ew) ⟨rfl,fin⟩) hs
theorem FW:IxR X (Lp X.K):=by
 intro value slice pins s σ H x y v u Q I rx ry h hs
 obtain ⟨p,xs,i,z,rfl,rfl,hq,he,q⟩:=h
 cases rx
 obtain ⟨t,rfl⟩:=ry
 obtain ⟨its,r,pl,hz⟩:=I.tuple hq
 obtain ⟨j,h1,h2,h3,h4,h5⟩:=y3 he
 obtain ⟨w,ew,rw'⟩:=r.get h2
 have hl:=r.length
 have hn:=rW
 have fin:EP X pins σ Q w s:=⟨z,H,I,rw',q⟩
 exact subscriptTail_builtinR (x:=w) pl.typeIs slot_tuple_getitem.lookup
  (getItem_tuple (j:=j) (Q:=fun r s'=>r=w/\EP X pins σ Q r s') pl (by omega) (by omega) (by rw [List.size_toArray,←hl];exact h1) (by simpa using ew) ⟨rfl,fin⟩) hs
theorem Lq:IxR X MT:=by
 intro value slice pins s σ H x y v u Q I rx ry h hs
 obtain ⟨z,i,c,rfl,rfl,hz,he,q⟩:=h
 obtain ⟨t,rfl⟩:=rx
 obtain ⟨t',rfl⟩:=ry
 obtain ⟨j,h1,h2,h3,h4,h5⟩:=y3 he
 have hl:z.cps.toList.length=z.length:=by simp [Str.length]
 rw [hl] at h1 h4 h5
 have hn:=rW
 exact tail_any (typeIs_str s z t) slot_str_getitem.lookup (getItem_str (c:=c) (by
  have e1:decide (i < -(2 ^ 63:Int))=false:=decide_eq_false (by omega)
  have e2:decide (i≥2 ^ 63)=false:=decide_eq_false (by omega)
  rw [e1,e2,Bool.or_false]) (by rw [h1];simpa using h2) ⟨.str ⟨#[c]⟩,H,I.tok _,⟨_,rfl⟩,q⟩) hs
noncomputable def rIx (K:WA):R2:=fun x y H Q=>Lo K x y H Q\/Lp K x y H Q\/MT x y H Q
theorem FX:IxR X (rIx X.K):=DO.or (FW.or Lq)
theorem Cm (its:List Value)(n j:Nat)(u:Value):Obj.mapSeq (·.setIfInBounds j u) {cls:=.type "list",data:=.seq its.toArray n}={cls:=.type "list",data:=.seq (its.set j u).toArray n}:=by
 simp [Obj.mapSeq]
theorem Inv.lst {pins:List (Addr×Obj)}{σ:St}{H:Hp}{s:Shared}{p:Addr}{xs:List V}(I:Inv X pins σ H s)(h:H p=some (.lst xs)) :
  ∃(its:List Value) (n:Nat),br xs its/\s.heap.get? p=some {cls:=.type "list",data:=.seq its.toArray n}/\xs.length<=sizeLine:=by
 obtain ⟨z,its,n,r,e⟩:=I.hok p _ h
 exact ⟨its,n,r,e,z⟩
theorem Inv.lstUpd {pins:List (Addr×Obj)}{σ:St}{H:Hp}{s:Shared}{p:Addr}{xs ys:List V}{its its':List Value}{n n':Nat}{f:Obj->Obj}(I:Inv X pins σ H s)(h:H p=some (.lst xs))
  (ho:s.heap.get? p=some {cls:=.type "list",data:=.seq its.toArray n}) (hf:f {cls:=.type "list",data:=.seq its.toArray n}={cls:=.type "list",data:=.seq its'.toArray n'}) (r:br ys its') (hz:ys.length<=sizeLine) (t:Nat) :
  Inv X pins σ (upd H p (.lst ys)) {s with heap:=s.heap.update p f,toks:=t}:=by
 have e:(s.heap.update p f).get? p=some {cls:=.type "list",data:=.seq its'.toArray n'}:=by
  rw [Heap.get?_update_self f ho (by rw [hf]<;>rfl),hf]
 refine I.write (x:=p) (e:=p) (by rw [h];trivial) (.inl rfl) (fun b u hb q=>(Heap.get?_update_other _ _ (Ne.symm hb)).trans q) ⟨_,e⟩ ?_
 exact ⟨hz,its',n',r,e⟩
noncomputable def Km:V->V->V->Hp->(Hp->Prop)->Prop:=fun o i v H Q=>∃p xs k j,o=.ref p/\i=.int k/\H p=some (.lst xs)/\ixN xs.length k=some j/\Q (upd H p (.lst (xs.set j v)))
theorem FY:K5 X Km:=by
 intro pins s σ H o i v ov iv u Q I ro ri rv h
 obtain ⟨p,xs,k,j,rfl,rfl,hp,hj,q⟩:=h
 cases ro
 obtain ⟨t,rfl⟩:=ri
 obtain ⟨its,n,r,ho,hz⟩:=I.lst hp
 obtain ⟨h1,h2,h3,h4⟩:=DL hj
 have hl:=r.length
 have hn:=rW
 have I':Inv X pins σ (upd H p (.lst (xs.set j v))) {s with heap:=s.heap.update p (Obj.mapSeq (·.setIfInBounds j u))}:=
  I.lstUpd hp ho (Cm its n j u) (r.set rv j) (by rw [List.length_set];exact hz) s.toks
 by_cases h0:0<=k
 ·have hk:k.toNat=j:=by
   rw [seqIndex_of h0 h4] at h1
   exact Option.some.inj h1
  exact W.ki_setAt ho h0 (by omega) (by rw [List.size_toArray,←hl];exact h4) (by rw [hk];exact ⟨_,I',q⟩)
 ·have hk:(k+(its.toArray.size:Int)).toNat=j:=by
   rw [seqIndex_neg (by omega) h3] at h1
   rw [List.size_toArray,←hl]
   exact Option.some.inj h1
  exact W.ki_setBack ho (by omega) (by rw [List.size_toArray,←hl];exact h3) (by omega) (by rw [hk];exact ⟨_,I',q⟩)
theorem y4 (lo hi:Option Int)(n:Nat):(sliceBounds lo hi none n).1=((HT.sIx n 0 lo:Nat):Int)/\(sliceBounds lo hi none n).2.1=((HT.sIx n n hi:Nat):Int)/\(sliceBounds lo hi none n).2.2=1:=by
 refine ⟨?_,?_,rfl⟩
 ·cases lo with
  | none=>simp [sliceBounds,HT.sIx]
  | some i=>
   simp only [sliceBounds,HT.sIx,Option.getD_none,show (1:Int) > 0 by decide,if_true]
   by_cases h:i < 0
   ·simp only [h,if_true]<;>omega
   ·simp only [h,if_false]<;>omega
 ·cases hi with
  | none=>simp [sliceBounds,HT.sIx]
  | some i=>
   simp only [sliceBounds,HT.sIx,Option.getD_none,show (1:Int) > 0 by decide,if_true]
   by_cases h:i < 0
   ·simp only [h,if_true]<;>omega
   ·simp only [h,if_false]<;>omega
theorem wQ (its:List Value)(lo hi:Option Int):slicePick its.toArray lo hi none=((its.drop (HT.sIx its.length 0 lo)).take (HT.sIx its.length its.length hi - HT.sIx its.length 0 lo)).toArray:=by
 obtain ⟨h1,h2,h3⟩:=y4 lo hi its.toArray.size
 unfold slicePick
 rw [h1,h2,h3]
 simp only [sliceRange_one,pick_run,List.size_toArray]<;>rfl
noncomputable def MU (K:WA):V->Option Int->Option Int->Hp->VK->Prop:=fun x lo hi H Q=>∃a xs,x=.ref a/\SqL K H a xs/\∀p,H p=none->Q (.ref p) (upd H p (.lst (qo xs lo hi)))
theorem Ir:SlR X (MU X.K):=by
 intro pins s σ H x v vl vu lo hi sl Q I rx hs pl pu h
 obtain ⟨a,xs,rfl,hx,q⟩:=h
 cases rx
 obtain ⟨its,r,ht,hz⟩:=I.list hx
 have hlen:=r.length
 refine ⟨"list",_,slot_list_getitem.lookup,ht.isList.typeIs,?_⟩
 refine wpAny_getItem_list_slice ht.isList hs pl pu .none (by simp) ?_ (by rw [List.size_toArray]<;>omega)
 rw [wQ,←hlen]
 refine ⟨.ref s.heap.objs.size,_,I.laid (t':=s.toks) (o:=.lst (qo xs lo hi)) (fun b ob q=>Heap.get?_push_of_some _ q) (Nat.le_refl _) ?_,rfl,q _ (I.hok.fresh (Nat.le_refl _))⟩
 exact ⟨Nat.le_trans (jz xs lo hi) hz,_,0,(r.drop (HT.sIx xs.length 0 lo)).take (HT.sIx xs.length xs.length hi - HT.sIx xs.length 0 lo),Heap.get?_push_size _ rfl⟩
noncomputable def bO:V->Bool
 | .non=>true
 | .bl _=>true
 | .int _=>true
 | .str _=>true
 | _=>false
noncomputable def eqV:V->V->Bool
 | .non,.non=>true
 | .bl a,.bl b=>a == b
 | .bl a,.int b=>(if a then 1 else 0) == b
 | .int a,.bl b=>a == (if b then 1 else 0)
 | .int a,.int b=>a == b
 | .str a,.str b=>a == b
 | _,_=>false
theorem rZ {A:Around}{s:Shared}{y x:V}{u v:Value}(ry:bK y u)(rx:bK x v)(fy:bO y=true)(fx:bO x=true):SeqAt.EqAt A s u v (eqV y x):=by
 cases y with
 | non=>
  cases ry
  cases x with
  | non=>cases rx;exact SeqAt.EqAt.same _
  | bl b=>cases rx;exact SeqAt.EqAt.none_bool b
  | int b=>obtain ⟨t,rfl⟩:=rx;exact SeqAt.EqAt.none_int b t
  | str b=>obtain ⟨t,rfl⟩:=rx;exact SeqAt.EqAt.none_str b t
  | _=>exact absurd (show false=true from fx) Bool.false_ne_true
 | bl a=>
  cases ry
  cases x with
  | non=>cases rx;exact SeqAt.EqAt.bool_none a
  | bl b=>cases rx;exact SeqAt.EqAt.bool_bool a b
  | int b=>obtain ⟨t,rfl⟩:=rx;exact SeqAt.EqAt.bool_int a b t
  | str b=>obtain ⟨t,rfl⟩:=rx;exact SeqAt.EqAt.bool_str a b t
  | _=>exact absurd (show false=true from fx) Bool.false_ne_true
 | int a=>
  obtain ⟨t',rfl⟩:=ry
  cases x with
  | non=>cases rx;exact SeqAt.EqAt.int_none a t'
  | bl b=>cases rx;exact SeqAt.EqAt.int_bool a t' b
  | int b=>obtain ⟨t,rfl⟩:=rx;exact SeqAt.EqAt.int_int a t' b t
  | str b=>obtain ⟨t,rfl⟩:=rx;exact SeqAt.EqAt.int_str a t' b t
  | _=>exact absurd (show false=true from fx) Bool.false_ne_true
 | str a=>
  obtain ⟨t',rfl⟩:=ry
  cases x with
  | non=>cases rx;exact SeqAt.EqAt.str_none a t'
  | bl b=>cases rx;exact SeqAt.EqAt.str_bool a t' b
  | int b=>obtain ⟨t,rfl⟩:=rx;exact SeqAt.EqAt.str_int a t' b t
  | str b=>obtain ⟨t,rfl⟩:=rx;exact SeqAt.EqAt.str_str a t' b t
  | _=>exact absurd (show false=true from fx) Bool.false_ne_true
 | _=>exact absurd (show false=true from fy) Bool.false_ne_true
noncomputable def eqU (x:V)(u:Value):Bool:=match u with
 | .none=>eqV .non x
 | .bool b=>eqV (.bl b) x
 | .int i _=>eqV (.int i) x
 | .str z _=>eqV (.str z) x
 | _=>false
theorem FZ {x y:V}{u:Value}(r:bK y u)(f:bO y=true):eqU x u=eqV y x:=by
 cases y with
 | non=>cases r;rfl
 | bl b=>cases r;rfl
 | int i=>obtain ⟨t,rfl⟩:=r;rfl
 | str z=>obtain ⟨t,rfl⟩:=r;rfl
 | _=>exact absurd (show false=true from f) Bool.false_ne_true
theorem qp {x:V}:∀{xs:List V} {us:List Value},br xs us->xs.all bO=true->us.any (eqU x)=xs.any fun y=>eqV y x
 | _,_,.nil,_=>rfl
 | y::xs,u::us,.cons r t,f=>by
  rw [List.all_cons,Bool.and_eq_true] at f
  rw [List.any_cons,List.any_cons,FZ r f.1,qp t f.2]
theorem mD {A:Around}{s:Shared}{x:V}{v:Value}(rx:bK x v)(fx:bO x=true):∀{xs:List V} {us:List Value},br xs us->xs.all bO=true->∀u∈us,SeqAt.EqAt A s u v (eqU x u)
 | _,_,.nil,_=>fun u hu=>by cases hu
 | y::xs,u::us,.cons r t,f=>fun u' hu=>by
  rw [List.all_cons,Bool.and_eq_true] at f
  rcases List.mem_cons.mp hu with rfl | hu
  ·rw [FZ r f.1];exact rZ r rx f.1 fx
  ·exact mD rx fx t f.2 u' hu
noncomputable def inV (x:V)(xs:List V):Bool:=xs.any fun y=>eqV y x
noncomputable def rIn (K:WA)(neg:Bool):R2:=fun x y H Q=>∃p xs,y=.ref p/\(SqL K H p xs\/SqT K H p xs)/\bO x=true/\xs.all bO=true/\Q (.bl (if neg then !inV x xs else inV x xs)) H
theorem EL:OpR X (compareOp .In) (rIn X.K false):=by
 intro pins s σ H x y v u Q I rx ry h
 obtain ⟨p,xs,rfl,hq,fx,fs,q⟩:=h
 cases ry
 rcases hq with hq | hq
 ·obtain ⟨its,r,pl,hz⟩:=I.list hq
  refine SeqAt.in_listAt (eqU x) pl.isList (fun w hw=>mD rx fx r fs w (by simpa using hw)) ⟨.bl _,H,I,rfl,?_⟩
  rw [show its.toArray.any (eqU x)=its.any (eqU x) by simp,qp r fs]
  exact q
 ·obtain ⟨its,r,pl,hz⟩:=I.tuple hq
  refine SeqAt.in_tupleAt (eqU x) pl (fun w hw=>mD rx fx r fs w (by simpa using hw)) ⟨.bl _,H,I,rfl,?_⟩
  rw [show its.toArray.any (eqU x)=its.any (eqU x) by simp,qp r fs]
  exact q
theorem y6:OpR X (compareOp .NotIn) (rIn X.K true):=by
 intro pins s σ H x y v u Q I rx ry h
 obtain ⟨p,xs,rfl,hq,fx,fs,q⟩:=h
 cases ry
 rcases hq with hq | hq
 ·obtain ⟨its,r,pl,hz⟩:=I.list hq
  refine SeqAt.notIn_listAt (eqU x) pl.isList (fun w hw=>mD rx fx r fs w (by simpa using hw)) ⟨.bl _,H,I,rfl,?_⟩
  rw [show its.toArray.any (eqU x)=its.any (eqU x) by simp,qp r fs]
  exact q
 ·obtain ⟨its,r,pl,hz⟩:=I.tuple hq
  refine SeqAt.notIn_tupleAt (eqU x) pl (fun w hw=>mD rx fx r fs w (by simpa using hw)) ⟨.bl _,H,I,rfl,?_⟩
  rw [show its.toArray.any (eqU x)=its.any (eqU x) by simp,qp r fs]
  exact q
theorem y8:ez X (.builtin "len") (fun xs H Q=>∃p ys,xs=[.ref p]/\(SqL X.K H p ys\/SqT X.K H p ys)/\Q (.int ys.length) H):=by
 intro pins s σ H xs us Q I r h
 obtain ⟨p,ys,rfl,hq,q⟩:=h
 obtain ⟨u,rfl,rx⟩:=ql r
 cases rx
 have hn:=rW
 rcases hq with hq | hq
 ·obtain ⟨its,r',pl,hz⟩:=I.list hq
  have hlen:=r'.length
  exact Calls.call_len_list pl.isList (by simp only [List.size_toArray]<;>omega) ⟨.int ys.length,H,I.tok _,⟨s.toks+1,by rw [List.size_toArray,hlen]⟩,q⟩
 ·obtain ⟨its,r',pl,hz⟩:=I.tuple hq
  have hlen:=r'.length
  exact len_tuple pl (by simp only [List.size_toArray]<;>omega) ⟨.int ys.length,H,I.tok _,⟨s.toks+1,by rw [List.size_toArray,hlen]⟩,q⟩
theorem y9:ez X (.type "list") (fun xs H Q=>∃p ys,xs=[.ref p]/\(SqL X.K H p ys\/SqT X.K H p ys)/\∀l,H l=none->Q (.ref l) (upd H l (.lst ys))):=by
 intro pins s σ H xs us Q I r h
 obtain ⟨p,ys,rfl,hq,q⟩:=h
 obtain ⟨u,rfl,rx⟩:=ql r
 cases rx
 have fin:∀(its:List Value),br ys its->ys.length<=sizeLine->∀(h':Heap) (c':Nat),(∀b o',s.heap.get? b=some o'->h'.get? b=some o')->
   h'.get? s.heap.objs.size=some {cls:=.type "list",dict:=none,data:=.seq its.toArray c',slots:=#[]}->EP X pins σ Q (.ref s.heap.objs.size) {s with heap:=h'}:=fun its r' hz h' c' kp e=>
  ⟨.ref s.heap.objs.size,_,I.laid (t':=s.toks) kp (Nat.le_refl _) (show fK X.prog X.w _ h' _ (.lst ys) from ⟨hz,its,c',r',e⟩),rfl,q _ (I.hok.fresh (Nat.le_refl _))⟩
 rcases hq with hq | hq
 ·obtain ⟨its,r',pl,hz⟩:=I.list hq
  have hlen:=r'.length
  obtain ⟨o,ho,hc,n,hd⟩:=pl.isList
  exact call_list_seq p (.inl rfl) ho hc hd (fun h' c' kp e=>fin its r' hz h' c' kp e) (by simp only [List.size_toArray]<;>omega)
 ·obtain ⟨its,r',pl,hz⟩:=I.tuple hq
  have hlen:=r'.length
  obtain ⟨o,ho,hc,n,hd⟩:=pl
  exact call_list_seq p (.inr rfl) ho hc hd (fun h' c' kp e=>fin its r' hz h' c' kp e) (by simp only [List.size_toArray]<;>omega)
theorem wR:ez X (.type "tuple") (fun xs H Q=>∃p ys,xs=[.ref p]/\((SqL X.K H p ys/\∀l,H l=none->Q (.ref l) (upd H l (.tup ys)))\/(SqT X.K H p ys/\Q (.ref p) H))):=by
 intro pins s σ H xs us Q I r h
 obtain ⟨p,ys,rfl,h⟩:=h
 obtain ⟨u,rfl,rx⟩:=ql r
 cases rx
 rcases h with ⟨hq,q⟩ | ⟨hq,q⟩
 ·obtain ⟨its,r',pl,hz⟩:=I.list hq
  have hlen:=r'.length
  refine call_tuple_list pl.isList (fun h' kp=>?_) (by simp only [List.size_toArray]<;>omega)
  have I1:Inv X pins σ H {s with heap:=h'}:=I.kept (t':=s.toks) kp
  have I2:Inv X pins σ (upd H h'.objs.size (.tup ys)) {s with heap:=h'.push {cls:=.type "tuple",data:=.seq its.toArray}}:=
   I1.laid (t':=s.toks) (fun b o e=>Heap.get?_push_of_some _ e) (Nat.le_refl _) (show fK X.prog X.w _ _ _ (.tup ys) from ⟨hz,its,r',iP.new _ _⟩)
  exact ⟨.ref h'.objs.size,_,I2,rfl,q _ (I1.hok.fresh (Nat.le_refl _))⟩
 ·obtain ⟨its,r',pl,hz⟩:=I.tuple hq
  exact call_tuple_same pl ⟨.ref p,H,I,rfl,q⟩
def tyV (K:WA)(T:String)(x:V)(H:Hp):Prop:=match x with
 | .str _=>T="str"
 | .int _=>T="int"
 | .ref p=>(T="list"/\∃xs,SqL K H p xs)\/(T="tuple"/\∃o,K.lookup p=some o/\o.cls=.type "tuple"/\o.dict=none)\/
   (T="dict"/\((∃kvs,H p=some (.dK kvs))\/∃kvs,H p=some (.dT kvs)))\/(T="set"/\∃S n,H p=some (.set S n))
 | _=>False
theorem Ga {pins:List (Addr×Obj)}{σ:St}{H:Hp}{s:Shared}{T:String}{x:V}{v:Value}(I:Inv X pins σ H s)(r:bK x v)(ty:tyV X.K T x H) :
  s.TypeIs v T/\∀a,v=.ref a->∃ob,s.heap.get? a=some ob/\ob.dict=none:=by
 cases x with
 | str z=>
  obtain ⟨t,rfl⟩:=r
  cases (show T="str" from ty)
  exact ⟨typeIs_str s z t,fun _ e=>nomatch e⟩
 | int i=>
  obtain ⟨t,rfl⟩:=r
  cases (show T="int" from ty)
  exact ⟨typeIs_int s i t,fun _ e=>nomatch e⟩
 | ref p=>
  cases r
  rcases ty with ⟨rfl,xs,hq⟩ | ⟨rfl,o,hk,hc,hd⟩ | ⟨rfl,hk⟩ | ⟨rfl,S,n,hk⟩
  ·obtain ⟨its,_,pl,_⟩:=I.list hq
   refine ⟨pl.isList.typeIs,fun a e=>?_⟩
   cases e
   obtain ⟨o,n,e,c,hd,_⟩:=pl
   exact ⟨o,e,hd⟩
  ·refine ⟨⟨o,I.kIn p o hk,hc⟩,fun a e=>?_⟩
   cases e
   exact ⟨o,I.kIn _ o hk,hd⟩
  ·have z:∃o,s.heap.get? p=some o/\o.ExactDict:=by
    rcases hk with ⟨kvs,hk⟩ | ⟨kvs,hk⟩
    ·obtain ⟨_,_,_,_,o,_,_,e,ex,_⟩:=I.hok p _ hk
     exact ⟨o,e,ex⟩
    ·obtain ⟨_,_,_,_,o,_,_,e,ex,_⟩:=I.hok p _ hk
     exact ⟨o,e,ex⟩
   obtain ⟨o,e,ex⟩:=z
   refine ⟨⟨o,e,ex.1⟩,fun a e2=>?_⟩
   cases e2
   exact ⟨o,e,ex.2.1⟩
  ·obtain ⟨o,_,_,_,e,ex,_⟩:=I.hok p _ hk
   refine ⟨⟨o,e,ex.1⟩,fun a e2=>?_⟩
   cases e2
   exact ⟨o,e,ex.2.1⟩
 | _=>exact False.elim ty
noncomputable def MV (K:WA)(T:String)(r:V->List V->Hp->VK->Prop)(to:TE):TE:=fun σ H Q=>to σ H fun x H1=>tyV K T x H1/\r x [] H1 Q
noncomputable def tBM (K:WA)(T:String)(r:V->List V->Hp->VK->Prop)(to:TE)(t:TA):TE:=fun σ H Q=>to σ H fun x H1=>tyV K T x H1/\t σ H1 fun xs H2=>r x xs H2 Q
variable {o e:Expr}{es:List Expr}{to:TE}{t:TA}{name:Str}{apos cpos:Pos}{T id:String}{r:V->List V->Hp->VK->Prop}
theorem uX (pa:PlainAttrs T)(slot:Slot T name id)(hty:typeOf (.builtin id)=pure (.type "method_descriptor"))(hm:MtR X id r)(ho:PE X o to)
  (hbase:attributeBase o name X.env (eval o X.env)=eval o X.env:=by rfl) (hline:(apos.endLine == cpos.line)=true:=by rfl):PE X (.Call (.Attribute o name apos) [] [] cpos) (MV X.K T r to):=by
 intro pins s σ H Q I h
 refine wpAny_Call_method0_late hbase hline (thn (ho pins s σ H _ I h) fun v s1 ⟨x,H1,I1,r1,ty,q1⟩=>?_)
 obtain ⟨h1,h2⟩:=Ga I1 r1 ty
 exact ⟨T,id,pa,slot,hty,h1,h2,Calls.callWith_builtin rfl (PySem.evalArgs_none (hm pins s1 σ H1 x [] v [] Q I1 r1 .nil q1))⟩
theorem oE (pa:PlainAttrs T)(slot:Slot T name id)(hty:typeOf (.builtin id)=pure (.type "method_descriptor"))(hm:MtR X id r)(ho:PE X o to)(ha:PA X (e::es) t)
  (hbase:attributeBase o name X.env (eval o X.env)=eval o X.env:=by rfl)
  (hfew:((backTo cpos (starEach (e::es) X.env)).all (fun x=>!x.1) && (backToKw cpos (keywordEach [] X.env)).all (fun x=>x.1.isSome)
   && decide ((e::es).length+([]:List Keyword).length+(if ([]:List Keyword).isEmpty then 0 else 1) < 30))=true:=by rfl)
  (hline:(apos.endLine == cpos.line)=true:=by rfl) (hs:starEach (e::es) X.env=(false,eval e X.env)::starEach es X.env:=by rfl) (hplain:(backTo cpos (starEach es X.env)).any (·.1)=false:=by rfl) :
  PE X (.Call (.Attribute o name apos) (e::es) [] cpos) (tBM X.K T r to t):=by
 intro pins s σ H Q I h
 refine wpAny_Call_method_late hbase hfew hline rfl (thn (ho pins s σ H _ I h) fun v s1 ⟨x,H1,I1,r1,ty,q1⟩=>?_)
 obtain ⟨h1,h2⟩:=Ga I1 r1 ty
 refine ⟨T,id,pa,slot,hty,h1,h2,?_⟩
 have hA:=ha cpos pins s1 σ H1 _ I1 q1
 rw [hs] at hA ⊢
 refine Calls.callWith_builtin (by show (false || (backTo cpos (starEach es X.env)).any (·.1))=false;rw [hplain]<;>rfl) (Calls.evalArgs_plain ?_)
 exact thn hA fun us s2 ⟨vs,H2,I2,r2,q2⟩=>hm pins s2 σ H2 x vs v us Q I2 r1 r2 q2
end
def MtM (X:Cx)(id:String)(r:V->List V->Hp->VK->Prop):Prop:=
 ∀(pins:List (Addr×Obj)) (s:Shared) (σ:St) (H:Hp) (x:V) (xs:List V) (v:Value) (us:List Value) (Q:VK),Inv X pins σ H s->bK x v->br xs us->r x xs H Q->
  wpAny (model X.prog X.w) X.A (call (.builtin id) (v::us)) (EP X pins σ Q) X.xe s
theorem br.one:∀{x:V} {us:List Value},br [x] us->∃u,us=[u]/\bK x u
 | _,_,.cons r .nil=>⟨_,rfl,r⟩
theorem br.two:∀{x y:V} {us:List Value},br [x,y] us->∃u v,us=[u,v]/\bK x u/\bK y v
 | _,_,_,.cons r (.cons q .nil)=>⟨_,_,rfl,r,q⟩
theorem br.zero:∀{us:List Value},br [] us->us=[]
 | _,.nil=>rfl
theorem br.dropLast {xs:List V}{us:List Value}(h:br xs us):br xs.dropLast us.dropLast:=by
 induction h with
 | nil=>exact .nil
 | cons r t ih=>
  cases t with
  | nil=>exact .nil
  | cons q t'=>exact .cons r ih
theorem Cn {α:Type}(l:List α):l.eraseIdx (l.length - 1)=l.dropLast:=by
 induction l with
 | nil=>rfl
 | cons a r ih=>
  cases r with
  | nil=>rfl
  | cons b r=>
   have e:(a::b::r).length - 1=((b::r).length - 1)+1:=by
    have h1:(a::b::r).length=r.length+2:=rfl
    have h2:(b::r).length=r.length+1:=rfl
    omega
   rw [e,List.eraseIdx_cons_succ,ih]
   all_goals rfl
theorem xW (its:List Value):∀(k:Nat) (acc:List Value),
  List.foldl (fun x1 x2=>x1++x2) acc.toArray (List.replicate k its.toArray)=(acc++(List.replicate k its).flatten).toArray
 | 0,acc=>by simp
 | k+1,acc=>by
  have e:acc.toArray++its.toArray=(acc++its).toArray:=by simp
  have e2:(acc++its)++(List.replicate k its).flatten=acc++(List.replicate (k+1) its).flatten:=by
   rw [List.replicate_succ,List.flatten_cons,List.append_assoc]
  rw [←e2,←xW its k (acc++its),←e,List.replicate_succ,List.foldl_cons]
section
variable {X:Cx}{pins:List (Addr×Obj)}{σ:St}{H:Hp}{s:Shared}{l b:Addr}{xs ys zs:List V}
theorem Inv.lset {its its':List Value}{n:Nat}{f:Array Value->Array Value}{t':Nat}(I:Inv X pins σ H s)(hH:H l=some (.lst xs))
  (e:s.heap.get? l=some {cls:=.type "list",data:=.seq its.toArray n}) (hf:f its.toArray=its'.toArray) (hv:br ys its') (hz:ys.length<=sizeLine) :
  Inv X pins σ (upd H l (.lst ys)) {s with heap:=s.heap.update l (Obj.mapSeq f),toks:=t'}:=by
 have q:=PySem.IsL.update e f
 rw [hf] at q
 refine I.write (x:=l) (e:=l) (by rw [hH];exact trivial) (.inl rfl) (fun b' u hb hu=>(Heap.get?_update_other s.heap (Obj.mapSeq f) (Ne.symm hb)).trans hu) ⟨_,q⟩ ?_
 exact ⟨hz,its',_,hv,q⟩
theorem Inv.lnew {its:List Value}{t':Nat}(I:Inv X pins σ H s)(hv:br ys its)(hz:ys.length<=sizeLine) :
  Inv X pins σ (upd H s.heap.objs.size (.lst ys)) {s with heap:=s.heap.push {cls:=.type "list",data:=.seq its.toArray},toks:=t'}:=
 I.laid (fun _ _ q=>Heap.get?_push_of_some _ q) (Nat.le_refl _) ⟨hz,its,0,hv,Heap.get?_push_size _ rfl⟩
theorem Inv.fresh (I:Inv X pins σ H s):H s.heap.objs.size=none:=I.hok.fresh (Nat.le_refl _)
theorem Inv.lstM (I:Inv X pins σ H s)(hH:H l=some (.lst xs)):xs.length<=sizeLine/\∃(its:List Value) (n:Nat),br xs its/\xs.length=its.length/\s.heap.get? l=some {cls:=.type "list",data:=.seq its.toArray n}:=by
 obtain ⟨z,its,n,r,e⟩:=I.hok l _ hH
 exact ⟨z,its,n,r,r.length,e⟩
theorem Gb {n:Nat}(h:n<=sizeLine):Builtin.List.listTooLong n=false:=by
 unfold Builtin.List.listTooLong
 exact decide_eq_false (by omega)
end
section
variable {X:Cx}
noncomputable def DP:V->List V->Hp->VK->Prop:=fun x vs H Q=>∃l xs y,x=.ref l/\vs=[y]/\H l=some (.lst xs)/\xs.length < sizeLine/\Q .non (upd H l (.lst (xs++[y])))
theorem EM:MtM X "list.append" DP:=by
 intro pins s σ H x vs v us Q I rx rv h
 obtain ⟨l,xs,y,rfl,rfl,hH,hz,q⟩:=h
 cases rx
 obtain ⟨u,rfl,ru⟩:=rv.one
 obtain ⟨z,its,n,r,hl,e⟩:=I.lstM hH
 refine call_meets F.slot_list_append ⟨_,e,rfl⟩ F.entry_list_append (F.args_list_append_2 _ _) (PySem.list_append l its.toArray n u (by rw [List.size_toArray];omega)) ⟨e,?_⟩
 refine ⟨.non,_,I.lset (its':=its++[u]) hH e (by simp) (r.append (.cons ru .nil)) ?_,rfl,q⟩
 rw [List.length_append,List.length_singleton]
 omega
noncomputable def Iu:V->List V->Hp->VK->Prop:=fun x vs H Q=>∃l b xs zs,x=.ref l/\vs=[.ref b]/\H l=some (.lst xs)/\H b=some (.lst zs)/\xs.length+zs.length<=sizeLine/\Q .non (upd H l (.lst (xs++zs)))
theorem MC:MtM X "list.extend" Iu:=by
 intro pins s σ H x vs v us Q I rx rv h
 obtain ⟨l,b,xs,zs,rfl,rfl,hH,hB,hz,q⟩:=h
 cases rx
 obtain ⟨u,rfl,ru⟩:=rv.one
 cases ru
 obtain ⟨z,its,n,r,hl,e⟩:=I.lstM hH
 obtain ⟨z2,its2,n2,r2,hl2,e2⟩:=I.lstM hB
 have hsz:its.toArray.size+its2.toArray.size<=sizeLine:=by rw [List.size_toArray,List.size_toArray];omega
 have hlong:¬(!its.toArray.isEmpty && Builtin.List.listTooLong (its.toArray.size+its2.toArray.size))=true:=by
  rw [Gb hsz,Bool.and_false]
  exact Bool.false_ne_true
 refine call_meets F.slot_list_extend ⟨_,e,rfl⟩ F.entry_list_extend (F.args_list_extend_2 _ _)
  (AutoSeq1.list_extend_list_list_0 l its.toArray n b its2.toArray n2 hlong (by rw [List.size_toArray];omega) (by omega)) ⟨e,e2,?_⟩
 refine ⟨.non,_,I.lset (its':=its++its2) hH e (by simp) (r.append r2) ?_,rfl,q⟩
 rw [List.length_append]
 omega
noncomputable def Lr:V->List V->Hp->VK->Prop:=fun x vs H Q=>∃l xs y,x=.ref l/\vs=[]/\H l=some (.lst xs)/\xs[xs.length - 1]?=some y/\Q y (upd H l (.lst xs.dropLast))
theorem Ls:MtM X "list.pop" Lr:=by
 intro pins s σ H x vs v us Q I rx rv h
 obtain ⟨l,xs,y,rfl,rfl,hH,hy,q⟩:=h
 cases rx
 have hus:=rv.zero
 subst hus
 obtain ⟨z,its,n,r,hl,e⟩:=I.lstM hH
 obtain ⟨u,hu,ru⟩:=r.get hy
 have hy':its.toArray[its.toArray.size - 1]?=some u:=by
  show its.toArray[its.length - 1]?=some u
  rw [←Array.getElem?_toList,←hl]
  exact hu
 refine call_meets F.slot_list_pop ⟨_,e,rfl⟩ F.entry_list_pop (F.args_list_pop_1 _) (MeetsSeq.list_pop_last l its.toArray n u hy' (by rw [List.size_toArray];omega)) ⟨e,?_⟩
 refine ⟨y,_,I.lset (its':=its.dropLast) hH e ?_ r.dropLast ?_,ru,q⟩
 ·show its.toArray.eraseIdxIfInBounds (its.toArray.size - 1)=its.dropLast.toArray
  rw [List.size_toArray,List.eraseIdxIfInBounds_toArray,Cn]
 ·rw [List.length_dropLast]
  omega
noncomputable def Co:V->List V->Hp->VK->Prop:=fun x vs H Q=>∃l xs,x=.ref l/\vs=[]/\H l=some (.lst xs)/\Q .non (upd H l (.lst []))
theorem Gc:MtM X "list.clear" Co:=by
 intro pins s σ H x vs v us Q I rx rv h
 obtain ⟨l,xs,rfl,rfl,hH,q⟩:=h
 cases rx
 have hus:=rv.zero
 subst hus
 obtain ⟨z,its,n,r,hl,e⟩:=I.lstM hH
 refine call_meets F.slot_list_clear ⟨_,e,rfl⟩ F.entry_list_clear (F.args_list_clear_1 _) (AutoSeq1.list_clear_list_0 l its.toArray n (by rw [List.size_toArray];omega)) ⟨e,?_⟩
 exact ⟨.non,_,I.lset (its':=[]) (ys:=[]) hH e rfl .nil (Nat.zero_le _),rfl,q⟩
noncomputable def MW:R2:=fun x y H Q=>∃l b xs zs,x=.ref l/\y=.ref b/\H l=some (.lst xs)/\H b=some (.lst zs)/\xs.length+zs.length<=sizeLine/\∀p,H p=none->Q (.ref p) (upd H p (.lst (xs++zs)))
theorem Lu:OpR X (binaryOp .Add) MW:=by
 intro pins s σ H x y v u Q I rx ry h
 obtain ⟨l,b,xs,zs,rfl,rfl,hH,hB,hz,q⟩:=h
 cases rx
 cases ry
 obtain ⟨z,its,n,r,hl,e⟩:=I.lstM hH
 obtain ⟨z2,its2,n2,r2,hl2,e2⟩:=I.lstM hB
 refine PySem.P.add_list e e2 ?_ (by rw [List.size_toArray,List.size_toArray];omega)
 have ea:its.toArray++its2.toArray=(its++its2).toArray:=by simp
 rw [ea]
 exact ⟨.ref _,_,I.lnew (t':=s.toks) (r.append r2) (by rw [List.length_append];omega),rfl,q _ I.fresh⟩
end
section
variable {prog:Program}{w:World}{A:Around}{E:Value->Shared->Prop}{s:Shared}
set_option maxRecDepth 100000 in
end
end L2
namespace Att
open PySem PySem.W PySem.Calls PyProof.Rows
theorem uk {P:Params}{h:Heap}:∀(ns:List Int) (vs:List Value),WellAll P h vs (ns.map WData.int)->IntsAre vs ns:=by
 intro ns
 induction ns with
 | nil=>
  intro vs w
  rw [List.map_nil] at w
  cases w
  exact .nil
 | cons n ns ih=>
  intro vs w
  rw [List.map_cons] at w
  cases w with
  | cons a b=>
   cases a
   exact .cons _ _ (ih _ b)
theorem EN {l:OpenLaw}{n:Nat}(hn:l.most=some n){P:Params}{h:Heap}{args:List WData}{vals:List Value}
  (hpre:l.row.toRowW.claim.pre args=true) (hwl:WellAll P h vals args) :
  ∃a vs ns,vals=[Value.ref a]/\args=[WData.list (ns.map WData.int)]/\h.get? a=some {cls:=.type "list",data:=.seq vs.toArray}/\IntsAre vs ns/\ns.length<=n:=by
 have hsh:WShape.hasAll [] args [.list .int]=true:=(pre_splitW hpre).1
 have hc:l.pre.holds [] {args:=args}=true:=(pre_splitW hpre).2
 obtain ⟨d,r,rfl,h1,h2⟩:=hasAllW_cons hsh
 obtain rfl:=hasAllW_nil h2
 obtain ⟨xs,rfl,h3⟩:=hasW_list h1
 obtain ⟨ns,rfl⟩:=items_int h3
 have hlen:ns.length<=n:=by
  unfold OpenLaw.pre at hc
  have h4:(WTm.not (.lt (.lit (.int (n:Int))) (.len (.arg 0)))).holds [] {args:=[.list (ns.map .int)]}=true:=by
   have h4:=(holds_andW hc).1
   rw [hn] at h4
   exact h4
  have h5:=condW_of h4 (w_not (w_lt w_lit (w_len_list (w_arg rfl))))
  rw [WB] at h5
  refine Nat.le_of_not_lt fun q=>?_
  have q':(n:Int) < ((ns.length:Nat):Int):=by omega
  first
   | (rw [decide_eq_true q'] at h5;exact absurd h5 (by decide))
   | (simp at h5;omega)
 cases hwl with
 | cons w1 w2=>
  cases w2
  cases w1 with
  | list ho hall=>exact ⟨_,_,ns,rfl,rfl,ho,uk ns _ hall,hlen⟩
theorem EO (l:OpenLaw)(args:List WData):l.row.toRowW.claim.post args (.bool true) args=true:=
 postW_of (r:=l.row.toRowW) (X:=(true == true))
  (show WShape.has [] (.bool true) .bool=true by first | rfl | decide | simp [WShape.has,WShape.arms,WShape.armsAll])
  (show (WTm.eq .res (.lit (.bool true))).value [] {args:=args,res:=some (.bool true),after:=args}=some (.bool (true == true)) from w_eq_bool (w_res rfl) w_lit) rfl
theorem Ao {l:OpenLaw}{n:Nat}{q:Program}{loose:List Str}{XP:(Str->Option Value)->Heap->Prop}{YP:World->Heap->Prop}{d:DefRec}
  (hn:l.most=some n) (hdf:d.params.defaults=[])
  (call:∀(w:World) (s₀ s₁:Shared) (mg mb:Str->Option Value) (fa:Addr) (o:Obj) (pm cd doc:Value) (a:Addr) (vs:List Value) (ns:List Int),
   Ground q loose [] XP w s₀ mg mb s₁.heap->YP w s₁.heap->
   s₁.heap.get? fa=some o->o.data=.func (docDef d.name d.params d.body d.scope pm cd doc)->s₁.heap.CodeRec cd d.name->mg d.name=some (.ref fa)->
   s₁.heap.get? a=some {cls:=.type "list",data:=.seq vs.toArray}->IntsAre vs ns->ns.length<=n->s₁.gens=#[]->
   codeAny (model l.prog w) callerA (.call (.ref fa) ⟨[.ref a],[]⟩) (fun r s'=>r=.ok (.ret (.bool true))/\OldK s₁.heap s'.heap/\s'.os=s₁.os/\AllBare s'.gens) s₁) :
  WalkO q loose XP YP l.row.toRowW d [] (fun f vs=>PySem.call f vs):=by
 intro w s₀ s₁ mg mb G Y fa o pm cd doc dV kV ho hd hcd hD hmg hg args vals as hpre hlay hrd hwl hlo
 obtain rfl:dV=.none:=Dflts.none hD hdf
 obtain rfl:kV=.none:=Dflts.noKw hD
 obtain ⟨a,vs,ns,rfl,rfl,hobj,hints,hlen⟩:=EN hn hpre hwl
 refine enter_call (codeAny_mono (call w s₀ s₁ mg mb fa o pm cd doc a vs ns G Y ho (fd_plain hd) hcd hmg hobj hints hlen hg) fun r s' hq=>?_)
 obtain ⟨rfl,h2,h3,h4⟩:=hq
 exact ⟨.inl ⟨.bool true,.bool true,[],rfl,fun _=>rfl,.bool true,EO l _,fun _=>⟨List.Pairwise.nil,fun _ hm=>(nomatch hm)⟩⟩,h2,h3,h4⟩
end Att
namespace L2
open PySem PySem.Spec PyProof.Rows
theorem xX:∀{vs:List Value} {ns:List Int},IntsAre vs ns->br (ns.map V.int) vs
 | _,_,.nil=>.nil
 | _,_,.cons n t h=>.cons ⟨t,rfl⟩ (xX h)
def Lv (H:Hp):Prop:=∀b,H b=none\/∃o xs,H b=some (.frz o (.lst xs))
theorem Gd {P:Program}{w:World}{K:WA}{mg mb:Str->Option Value}{CX:CXT}{k:Nat}{fa a:Addr}{fd:FuncData}{x:Str}{sp:Sp}{s₁:Shared}{vs:List Value}{ns:List Int}
  (KX:K.In s₁.heap) (hns:s₁.heap.Ns mainGlobals mg) (hb:s₁.heap.Ns builtinsNs mb) (hbb:∀x:Str,x≠"__name__"->mb x=bootBuiltins x) (hlim:s₁.heap.NoLimit) (hg:s₁.gens=#[])
  (ha:s₁.heap.get? a=some {cls:=.type "list",data:=.seq vs.toArray}) (hi:IntsAre vs ns) (hl:ns.length<=sizeLine) (hr:dH k callerA)
  (F:∀base:Heap,K.In base->base.Ns mainGlobals mg->fM P w K mg base CX k fa fd [x] sp) (hbind:∀(s:Shared) (u:Value),BindsTo s fd ⟨[u],[]⟩ [(x,u)])
  (hsp:∀H:Hp,Lv H->SqL K H a (ns.map V.int)->sp [.ref a] H (fun v _=>v=.bl true) fun _ _ _=>False)
  (hCX:∀H e s',CX [] H s₁ (fun _ _ _=>False) e s'->False) :
  codeAny (model P w) callerA (.call (.ref fa) ⟨[.ref a],[]⟩) (fun r s'=>r=.ok (.ret (.bool true))/\OldK s₁.heap s'.heap/\s'.os=s₁.os/\AllBare s'.gens) s₁:=by
 have rv:=xX hi
 have lenV:=hi.length
 have core:∀H:Hp,Lv H->SqL K H a (ns.map V.int)->HOk P w H s₁.heap->(∀b,H b≠none->b=a)->(H a≠none->K.lookup a=none)->
   codeAny (model P w) callerA (.call (.ref fa) ⟨[.ref a],[]⟩) (fun r s'=>r=.ok (.ret (.bool true))/\OldK s₁.heap s'.heap/\s'.os=s₁.os/\AllBare s'.gens) s₁:=by
  intro H hO hS hok hA hK
  have base_of:∀{b:Addr} {o:Obj},s₁.heap.get? b=some o->H b=none->(yY s₁.heap H).get? b=some o:=fun e n=>FA e n
  have noA:∀{b:Addr} {o:Obj} {es:Array DictEntry} {ep:Nat},s₁.heap.get? b=some o->o.data=.dict es ep->H b=none:=fun {b o es ep} e d=>by
   cases q:H b with
   | none=>rfl
   | some u=>
    have e':b=a:=hA b (by rw [q];simp)
    subst e'
    rw [ha] at e;cases e
    have d':Data.seq vs.toArray _=Data.dict es ep:=d
    cases d'
  have nsK:∀{b:Addr} {m:Str->Option Value},s₁.heap.Ns b m->(yY s₁.heap H).Ns b m:=fun {b m} ⟨o,es,ep,e,d,r⟩=>⟨o,es,ep,base_of e (noA e d),d,r⟩
  have hKb:K.In (yY s₁.heap H):=fun b o e=>base_of (KX b o e) (by
   cases q:H b with
   | none=>rfl
   | some u=>
    have e':b=a:=hA b (by rw [q];simp)
    subst e'
    rw [hK (by rw [q];simp)] at e;cases e)
  have hM:Mod K mg (yY s₁.heap H):=⟨hKb,nsK hns,⟨mb,nsK hb,hbb⟩,let ⟨mc,h1,h2⟩:=hlim;⟨mc,nsK h1,h2⟩⟩
  have e0:Cg P w K mg (yY s₁.heap H) callerA [] s₁ H:=⟨rfl,hM,fun b o e=>HY e,Nat.le_of_eq (Ez _ _),trivial,fun b hb=>absurd (show b∈([]:List Addr) from hb) (by simp),hok,.of_eq hg⟩
  refine codeAny_mono ((F _ hKb (nsK hns)).run callerA [] s₁ H ⟨[.ref a],[]⟩ [.ref a] [.ref a] _ _ hr e0 (hbind s₁ (.ref a)) (.cons rfl .nil) (hsp H hO hS)) fun r s' h=>?_
  cases r with
  | error e=>exact (hCX H e s' h).elim
  | ok fl=>
   cases fl with
   | next=>exact False.elim h
   | brk=>exact False.elim h
   | cont=>exact False.elim h
   | ret u=>
    obtain ⟨v,H',os,bare,un,hok',r',q⟩:=h
    have q':v=.bl true:=q
    subst q'
    obtain rfl:u=Value.bool true:=r'
    refine ⟨rfl,OldK.of_keep fun b o e=>?_,os,bare⟩
    cases q:H b with
    | none=>exact un.keep b o e q (by intro z;exact absurd (show b∈([]:List Addr) from z) (by simp)) (by simp)
    | some u=>
     rcases hO b with z | ⟨ob,xs,z⟩
     ·rw [q] at z;cases z
     ·have z2:=un.frzs b ob _ z
      obtain ⟨e1,_⟩:=hok b _ z
      obtain ⟨e2,_⟩:=hok' b _ z2
      rw [e] at e1;cases e1
      exact e2
 cases hk:K.lookup a with
 | some o=>
  have e:=KX a o hk
  rw [ha] at e
  cases e
  refine core (fun _=>none) (fun _=>.inl rfl) (.inr ⟨_,vs.toArray,_,hk,rfl,rfl,rfl,by rw [List.size_toArray,lenV];exact hl,by simpa using rv⟩) (fun b u z=>by have z':(none:Option HO)=some u:=z;cases z') (fun b z=>absurd rfl z) fun z=>absurd rfl z
 | none=>
  refine core (fun b=>if b=a then some (.frz {cls:=.type "list",data:=.seq vs.toArray} (.lst (ns.map V.int))) else none) (fun b=>?_) (.inl (.inr ⟨{cls:=.type "list",data:=.seq vs.toArray},if_pos rfl⟩)) (fun b u z=>?_) (fun b z=>?_) fun _=>hk
  ·by_cases hb:b=a
   ·exact .inr ⟨_,_,if_pos hb⟩
   ·exact .inl (if_neg hb)
  ·by_cases hb:b=a
   ·have z':=(if_pos hb).symm.trans z
    cases z'
    subst hb
    exact ⟨ha,by rw [WB];exact hl,vs,_,rv,ha⟩
   ·have z':=(if_neg hb).symm.trans z
    cases z'
  ·by_cases hb:b=a
   ·exact hb
   ·exact absurd (if_neg hb) z
theorem Iv {l:W.OpenLaw}{n k:Nat}{q:Program}{loose:List Str}{XP:(Str->Option Value)->Heap->Prop}{YP:World->Heap->Prop}{d:DefRec}{K:Params->WA}{CX:World->CXT}{sp:World->Sp}{x:Str}
  (hn:l.most=some n) (hn2:n<=sizeLine) (hdf:d.params.defaults=[]) (hr:dH k callerA)
  (hY:∀(w:World) (h:Heap),YP w h->(K w.params).In h)
  (F:∀(w:World) (mg:Str->Option Value) (fa:Addr) (h:Heap),(K w.params).In h->h.Ns mainGlobals mg->mg d.name=some (.ref fa)->
   ∃fd:FuncData,(∀(s:Shared) (u:Value),BindsTo s fd ⟨[u],[]⟩ [(x,u)])/\
    ∀base:Heap,(K w.params).In base->base.Ns mainGlobals mg->fM l.prog w (K w.params) mg base (CX w) k fa fd [x] (sp w))
  (hsp:∀(w:World) (H:Hp) (a:Addr) (ns:List Int),ns.length<=n->Lv H->SqL (K w.params) H a (ns.map V.int)->sp w [.ref a] H (fun v _=>v=.bl true) fun _ _ _=>False)
  (hCX:∀(w:World) (H:Hp) (s:Shared) (e:Value) (s':Shared),CX w [] H s (fun _ _ _=>False) e s'->False) :
  W.WalkO q loose XP YP l.row.toRowW d [] (fun f vs=>PySem.call f vs):=by
 refine Att.Ao hn hdf fun w s₀ s₁ mg mb fa o pm cd doc a vs ns G Y ho hd hcd hmg hobj hints hlen hg=>?_
 have KX:=hY w _ Y
 obtain ⟨fd,hb,hF⟩:=F w mg fa _ KX G.T.g hmg
 exact Gd KX G.T.g G.T.b G.T.builtins G.T.nolimit hg hobj hints (Nat.le_trans hlen hn2) hr hF hb (fun H hO hS=>hsp w H a ns hlen hO hS) fun H e s'=>hCX w H s₁ e s'
noncomputable def aO (s:Stmt)(j:Nat):Stmt:=match s with
 | .ClassDef _ _ _ body _ _ _ _ _ _ _=>body.getD j (.Pass ⟨0,0,0,0⟩)
 | _=>.Pass ⟨0,0,0,0⟩
noncomputable def dJ (s:Stmt):Arguments:=match s with
 | .FunctionDef _ a _ _ _ _ _ _ _ _=>a
 | _=>{posonlyargs:=[],args:=[],vararg:=none,kwonlyargs:=[],kw_defaults:=[],kwarg:=none,defaults:=[]}
noncomputable def bH (s:Stmt):List Stmt:=match s with
 | .FunctionDef _ _ b _ _ _ _ _ _ _=>b
 | _=>[]
noncomputable def aj (s:Stmt):Scope:=match s with
 | .FunctionDef _ _ _ _ _ _ sc _ _ _=>sc
 | _=>{kind:=.function,names:=[],isGenerator:=false,isCoroutine:=false}
noncomputable abbrev CX0:CXT:=fun _ _ _ _ _ _=>False
noncomputable abbrev E0:XK:=fun _ _ _=>False
theorem aY {X:Cx}:fN CX0 X E0:=fun _ _ _ _ _ _ _ h=>h.elim
structure Fun (K:WA)(x qual:Str)(st:Stmt)(f:Addr)(fd:FuncData):Prop where
 ex:∃(oc:Value) (od:Option Addr) (kV doc pm:Value) (an:Option Addr) (cdv ct:Value) (osl:Array (Option Value)),
  fd=W.fnOf x qual (dJ st) (bH st) (aj st) .none kV doc pm an cdv ct/\K.lookup f=some ⟨oc,od,.func fd,osl⟩/\W.codeIn K cdv qual=true
 kp:W.keepIn K (.ref f)=true
section
variable {P:Program}{w:World}{K:WA}{mg:Str->Option Value}{base:Heap}
theorem Fun.ok {x qual:Str}{st:Stmt}{f:Addr}{fd:FuncData}{N ps:List Str}{k:Nat}{sp:Sp}(F:Fun K x qual st f fd)(S:ay N ps (aj st))(len:∀vs H Q E,sp vs H Q E->vs.length=ps.length)
  (hbody:∀(cdv:Value) (A:Around) (outer:List Env) (s:Shared) (H:Hp) (vs:List V) (Q:VK) (E:XK),dH k (A.deeper (envOfC qual (aj st) s.heap.objs.size f cdv))->sp vs H Q E->
   ∃t,PSs (oq CX0 P w K mg base N qual (aj st) f cdv A outer s H E).nox (bH st) t/\t {nx:=fun _ H'=>Q .non H',rt:=Q} (mh N vs) H):fM P w K mg base CX0 (k+1) f fd ps sp:=by
 obtain ⟨oc,od,kV,doc,pm,an,cdv,ct,osl,rfl,lk,hcd⟩:=F.ex
 refine Kj lk hcd S len fun A outer s H vs Q E hr hsp=>?_
 obtain ⟨t,h,q⟩:=hbody cdv A outer s H vs Q E hr hsp
 exact ⟨t,h.nox,q⟩
theorem Fun.binds {x qual:Str}{st:Stmt}{f:Addr}{fd:FuncData}{ps:List Str}(F:Fun K x qual st f fd)
  (h:∀(kV doc pm:Value) (an:Option Addr) (cdv ct:Value) (us:List Value),us.length=ps.length->bindArgs (W.fnOf x qual (dJ st) (bH st) (aj st) .none kV doc pm an cdv ct) ⟨us,[]⟩=pure (ps.zip us)):dQ K fd ps []:=by
 obtain ⟨oc,od,kV,doc,pm,an,cdv,ct,osl,rfl,lk,hcd⟩:=F.ex
 exact .all (h kV doc pm an cdv ct)
theorem Cp {x qual:Str}{st:Stmt}{f:Addr}{oc:Value}{od an:Option Addr}{osl:Array (Option Value)}{kV doc pm cdv ct:Value}(l:K.lookup f=some ⟨oc,od,.func (W.fnOf x qual (dJ st) (bH st) (aj st) .none kV doc pm an cdv ct),osl⟩)
  (c:W.codeIn K cdv qual=true) (k:W.keepIn K (.ref f)=true):Fun K x qual st f (W.fnOf x qual (dJ st) (bH st) (aj st) .none kV doc pm an cdv ct):=⟨⟨oc,od,kV,doc,pm,an,cdv,ct,osl,rfl,l,c⟩,k⟩
end
theorem cy {n:Nat}(h:n<=1000):n < sizeLine:=Nat.lt_of_le_of_lt h (by decide)
section
variable {X:Cx}
theorem pv (i:Nat){x:Str}{pos:Pos}(hN:X.N[i]?=some x:=by rfl)(hv:Vis X.env.scope x:=by first | exact Or.inl rfl | exact Or.inr (Or.inl rfl) | exact Or.inr (Or.inr rfl))(hd:(x == ("__debug__":Str))=false:=by decide)
  (hcd:(x == ("__classdict__":Str))=false:=by decide):PE X (.Name x pos) (KW i):=KY hN hv hd hcd
end
theorem MX {A B:Prop}(h:B):if false=true then A else B:=by
 rw [if_neg Bool.false_ne_true]
 exact h
theorem MY {A B:Prop}(h:A):if true=true then A else B:=by
 rw [if_pos rfl]
 exact h
def aq (H H':Hp):Prop:=∀b o,H b=some o->H' b=some o
theorem aq.refl (H:Hp):aq H H:=fun _ _ h=>h
theorem aq.trans {H H1 H2:Hp}(a:aq H H1)(b:aq H1 H2):aq H H2:=fun c o h=>b c o (a c o h)
theorem aq.free {H H':Hp}(e:aq H H'){l:Addr}(h:H' l=Option.none):H l=Option.none:=by
 cases q:H l with
 | none=>rfl
 | some o=>
  rw [e l o q] at h
  cases h
theorem aq.seq {K:WA}{H H':Hp}{a:Addr}{xs:List V}(e:aq H H')(h:SqL K H a xs):SqL K H' a xs:=by
 rcases h with (h | ⟨o,h⟩) | h
 ·exact .inl (.inl (e _ _ h))
 ·exact .inl (.inr ⟨o,e _ _ h⟩)
 ·exact .inr h
end L2
set_option maxHeartbeats 4000000
namespace L2
open PySem PySem.Spec PyProof.Rows
noncomputable def iS (cells:List (Str×Addr)):List (Str×NameKind)->List (Str×Addr)->List (Str×Addr)
 | [],acc=>acc
 | (n,k)::r,acc=>if (k == NameKind.free)=true then (match cells.lookup n with | some c=>iS cells r ((n,c)::acc) | none=>iS cells r acc) else iS cells r acc
theorem iT {scope:Scope}{env:Env}(h:∀y∈scope.names,y.2=.free->∃c,env.cells.lookup y.1=some c):closureFor scope env=pure (iS env.cells scope.names []):=by
 have key:∀(l:List (Str×NameKind)) (acc:List (Str×Addr)),(∀y∈l,y.2=.free->∃c,env.cells.lookup y.1=some c)->
   (forIn l acc fun x s=>if (x.snd == NameKind.free)=true then do
       let c ←cellOf env x.fst
       pure (ForInStep.yield ((x.fst,c)::s))
      else pure (ForInStep.yield s))=(pure (iS env.cells l acc):Sem _):=by
  intro l
  induction l with
  | nil=>intro acc _;rfl
  | cons y r ih=>
   intro acc hy
   obtain ⟨n,k⟩:=y
   have ih':=fun a=>ih a fun z hz=>hy z (List.mem_cons_of_mem _ hz)
   by_cases hk:(k == NameKind.free)=true
   ·obtain ⟨c,hc⟩:=hy (n,k) List.mem_cons_self (by simpa using hk)
    have hc':env.cells.lookup n=some c:=hc
    simp only [List.forIn_cons,hk,if_true,cellOf,hc',pure_bind,iS]
    exact ih' _
   ·simp only [List.forIn_cons,hk,if_false,pure_bind,iS]
    exact ih' _
 simp only [closureFor]
 rw [key _ _ h]
 rfl
theorem uH {cells:List (Str×Addr)}:∀{l:List (Str×NameKind)} {acc:List (Str×Addr)} {x:Str} {c:Addr},(∀x c,acc.lookup x=some c->cells.lookup x=some c)->(iS cells l acc).lookup x=some c->cells.lookup x=some c
 | [],acc,x,c,h,e=>h x c e
 | (n,k)::r,acc,x,c,h,e=>by
  unfold iS at e
  split at e
  ·split at e
   ·rename_i d hd
    refine uH (l:=r) (acc:=(n,d)::acc) (fun y b hy=>?_) e
    rw [List.lookup_cons] at hy
    split at hy
    ·rename_i z
     have zn:y=n:=by simpa using z
     cases hy
     rw [zn];exact hd
    ·exact h y b hy
   ·exact uH h e
  ·exact uH h e
theorem qr {cells:List (Str×Addr)}{x:Str}:∀{l:List (Str×NameKind)} {acc:List (Str×Addr)},(∃c,acc.lookup x=some c)->∃c,(iS cells l acc).lookup x=some c
 | [],acc,h=>h
 | (n,k)::r,acc,h=>by
  unfold iS
  split
  ·split
   ·rename_i d hd
    refine qr (l:=r) ?_
    rw [List.lookup_cons]
    split
    ·exact ⟨_,rfl⟩
    ·exact h
   ·exact qr h
  ·exact qr h
theorem mE {cells:List (Str×Addr)}{x:Str}:∀{l:List (Str×NameKind)} {acc:List (Str×Addr)},l.lookup x=some .free->(∃c,cells.lookup x=some c)->∃c,(iS cells l acc).lookup x=some c
 | [],acc,h,_=>by simp at h
 | (n,k)::r,acc,h,hc=>by
  rw [List.lookup_cons] at h
  unfold iS
  split at h
  ·rename_i z
   have zn:x=n:=by simpa using z
   cases h
   subst zn
   obtain ⟨c,hc⟩:=hc
   rw [if_pos (by decide),hc]
   refine qr ⟨c,?_⟩
   rw [List.lookup_cons]
   simp
  ·split
   ·split
    ·exact mE h hc
    ·exact mE h hc
   ·exact mE h hc
theorem il {env:Env}:∀{names:List (Str×NameKind)} {x:Str},names.lookup x=some .free->
  (names.map fun (n,k)=>if (k == NameKind.free && env.scope.kind == .function && env.kindOf n == some .cell) then (n,NameKind.cell) else (n,k)).lookup x=some .cell\/
  (names.map fun (n,k)=>if (k == NameKind.free && env.scope.kind == .function && env.kindOf n == some .cell) then (n,NameKind.cell) else (n,k)).lookup x=some .free
 | [],_,h=>by simp at h
 | (n,k)::r,x,h=>by
  have ih:=@il env r x
  show List.lookup x ((if (k == NameKind.free && env.scope.kind == .function && env.kindOf n == some .cell)=true then (n,NameKind.cell) else (n,k))::_)=_\/List.lookup x ((if (k == NameKind.free && env.scope.kind == .function && env.kindOf n == some .cell)=true then (n,NameKind.cell) else (n,k))::_)=_
  cases hx:x == n with
  | true=>
   simp only [List.lookup_cons,hx] at h
   cases h
   by_cases hc:(NameKind.free == NameKind.free && env.scope.kind == .function && env.kindOf n == some .cell)=true
   ·rw [if_pos hc];left;simp only [List.lookup_cons,hx]
   ·rw [if_neg hc];right;simp only [List.lookup_cons,hx]
  | false=>
   simp only [List.lookup_cons,hx] at h
   by_cases hc:(k == NameKind.free && env.scope.kind == .function && env.kindOf n == some .cell)=true
   ·rw [if_pos hc];simp only [List.lookup_cons,hx];exact ih h
   ·rw [if_neg hc];simp only [List.lookup_cons,hx];exact ih h
theorem ip {env:Env}:∀{names:List (Str×NameKind)} {x:Str},(∀y∈names,y.2≠NameKind.cell)->
  ((names.map fun (n,k)=>if (k == NameKind.free && env.scope.kind == .function && env.kindOf n == some .cell) then (n,NameKind.cell) else (n,k)).lookup x=some .cell\/
  (names.map fun (n,k)=>if (k == NameKind.free && env.scope.kind == .function && env.kindOf n == some .cell) then (n,NameKind.cell) else (n,k)).lookup x=some .free)->names.lookup x=some .free
 | [],_,_,h=>by simp at h
 | (n,k)::r,x,hn,h=>by
  have ih:=@ip env r x fun y hy=>hn y (List.mem_cons_of_mem _ hy)
  have h':List.lookup x ((if (k == NameKind.free && env.scope.kind == .function && env.kindOf n == some .cell)=true then (n,NameKind.cell) else (n,k))::(r.map fun (n,k)=>if (k == NameKind.free && env.scope.kind == .function && env.kindOf n == some .cell) then (n,NameKind.cell) else (n,k)))=some .cell\/List.lookup x ((if (k == NameKind.free && env.scope.kind == .function && env.kindOf n == some .cell)=true then (n,NameKind.cell) else (n,k))::(r.map fun (n,k)=>if (k == NameKind.free && env.scope.kind == .function && env.kindOf n == some .cell) then (n,NameKind.cell) else (n,k)))=some .free:=h
  cases hx:x == n with
  | true=>
   simp only [List.lookup_cons,hx]
   by_cases hc:(k == NameKind.free && env.scope.kind == .function && env.kindOf n == some .cell)=true
   ·have hk:k=NameKind.free:=by
     rw [Bool.and_eq_true,Bool.and_eq_true] at hc
     simpa using hc.1.1
    rw [hk]
   ·rw [if_neg hc] at h'
    simp only [List.lookup_cons,hx] at h'
    rcases h' with h' | h'
    ·exact absurd (Option.some.inj h') (hn (n,k) List.mem_cons_self)
    ·exact h'
  | false=>
   simp only [List.lookup_cons,hx]
   by_cases hc:(k == NameKind.free && env.scope.kind == .function && env.kindOf n == some .cell)=true
   ·rw [if_pos hc] at h';simp only [List.lookup_cons,hx] at h';exact ih h'
   ·rw [if_neg hc] at h';simp only [List.lookup_cons,hx] at h';exact ih h'
noncomputable def blk (X:Cx)(Nc:List Str)(scope:Scope)(C:Addr)(s₀:Shared)(H₀:Hp)(ex:List Addr):Cx:=
 {X with N:=Nc,s₀:=s₀,H₀:=H₀,env:=compEnvC scope (iS X.env.cells scope.names []) C X.env,outer:=X.stack,ex:=ex,fn:=fun _=>false,pn:=[],xe:=fun _ _=>False}
noncomputable def cA (cm:List (Option Nat))(σ:St):St:=cm.map fun o=>match o with
 | none=>none
 | some i=>(σ[i]?).getD none
def Wk (σ σ':St):Prop:=σ.length=σ'.length/\∀(i:Nat) (v:V),σ[i]?=some (some v)->σ'[i]?=some (some v)
noncomputable def uY (wi:TI)(g:TG)(tc:TT)(te:TE)(cm:List (Option Nat)):TE:=fun σ H Q=>wi σ H fun J H1=>∃W:Nat->Nat->List V->Hp->Prop,(∃m,W 0 m [] H1)/\∀i m acc H,W i m acc H->
 (J.stop i H/\∀p,H p=none->Q (.ref p) (upd H p (.lst acc)))\/
 (J.go i H/\acc.length < sizeLine/\∀x H',J.yld i H x H'->g x (cA cm σ) H' fun σ2 H2=>Wk (cA cm σ) σ2/\tc σ2 H2 fun b H3=>if b=true then te σ2 H3 fun v H4=>∃m',m' < m/\W (i+1) m' (acc++[v]) H4 else ∃m',m' < m/\W (i+1) m' acc H3)
def PIf (X:Cx)(ifs:List Expr)(t:TT):Prop:=
 ∀(pins:List (Addr×Obj)) (s:Shared) (σ:St) (H:Hp) (Q:Bool->Hp->Prop),Inv X pins σ H s->t σ H Q->
  wpAny (model X.prog X.w) X.A (forIn ifs true fun c r=>if r=true then do let ok ←isTrue c X.env (eval c X.env);pure (ForInStep.yield ok) else pure (ForInStep.yield r)) (TP X pins σ Q) X.xe s
noncomputable def um:TT:=fun _ H Q=>Q true H
theorem fO {X:Cx}:PIf X [] um:=fun _ _ σ H _ I h=>wpAny_pure ⟨H,I,h⟩
theorem ix {X:Cx}{c:Expr}{t:TT}(h:PT X c t):PIf X [c] t:=fun pins s σ H Q I q=>wpAny_tests_one (h pins s σ H Q I q)
theorem Inv.track {X:Cx}{pins:List (Addr×Obj)}{σ:St}{H:Hp}{s:Shared}{D:Addr}{o:HO}(I:Inv X pins σ H s)(hn:H D=none)(h0:X.s₀.heap.objs.size<=D)(hL:D≠X.env.locals)
  (hcl:∀x c,X.env.cells.lookup x=some c->c≠D) (hp:∀p∈X.pn++pins,p.1≠D) (new:fK X.prog X.w (upd H D o) s.heap D o):Inv X pins σ (upd H D o) s:=by
 have hb:∀b u,X.s₀.heap.get? b=some u->b≠D:=fun b u e=>Nat.ne_of_lt (Nat.lt_of_lt_of_le (Heap.lt_size e) h0)
 refine ⟨I.ok,I.os,I.bare,⟨I.base.keep,I.base.slot,fun b u e n hx=>?_,I.base.there,fun b xs e=>?_,fun b u xs e=>?_,fun b ps e=>?_⟩,I.loc,I.cell,?_,fun x c e=>?_,fun p hpp=>?_,fun b u e=>?_,I.len⟩
 ·rw [aJ (hb b u e)];exact I.base.free b u e n hx
 ·have q:=I.base.tups b xs e;rw [aJ (ak q hn)];exact q
 ·have q:=I.base.frzs b u xs e;rw [aJ (ak q hn)];exact q
 ·obtain ⟨more,q⟩:=I.base.tbls b ps e;exact ⟨more,by rw [aJ (ak q hn)];exact q⟩
 ·rw [aJ (Ne.symm hL)];exact I.free
 ·rw [aJ (hcl x c e)];exact I.freeC x c e
 ·obtain ⟨a,b,c⟩:=I.pin p hpp
  exact ⟨a,by rw [aJ (hp p hpp)];exact b,c⟩
 ·by_cases hb:b=D
  ·subst hb;rw [ag] at e;cases e;exact new
  ·rw [aJ hb] at e
   exact (I.hok b u e).stay (fun c v _ q=>q) (fun c q=>by rw [aJ (ak q hn)];exact q) fun c xs q=>by rw [aJ (ak q hn)];exact q
theorem gK {env:Env}{yc:Str}:∀{names:List (Str×NameKind)} {x:Str},(∀z∈names,z.2=NameKind.cell->z.1=yc)->
  ((names.map fun (n,k)=>if (k == NameKind.free && env.scope.kind == .function && env.kindOf n == some .cell) then (n,NameKind.cell) else (n,k)).lookup x=some .cell\/
  (names.map fun (n,k)=>if (k == NameKind.free && env.scope.kind == .function && env.kindOf n == some .cell) then (n,NameKind.cell) else (n,k)).lookup x=some .free)->x=yc\/names.lookup x=some .free
 | [],_,_,h=>by simp at h
 | (n,k)::r,x,hn,h=>by
  have ih:=@gK env yc r x fun y hy=>hn y (List.mem_cons_of_mem _ hy)
  have h':List.lookup x ((if (k == NameKind.free && env.scope.kind == .function && env.kindOf n == some .cell)=true then (n,NameKind.cell) else (n,k))::(r.map fun (n,k)=>if (k == NameKind.free && env.scope.kind == .function && env.kindOf n == some .cell) then (n,NameKind.cell) else (n,k)))=some .cell\/List.lookup x ((if (k == NameKind.free && env.scope.kind == .function && env.kindOf n == some .cell)=true then (n,NameKind.cell) else (n,k))::(r.map fun (n,k)=>if (k == NameKind.free && env.scope.kind == .function && env.kindOf n == some .cell) then (n,NameKind.cell) else (n,k)))=some .free:=h
  cases hx:x == n with
  | true=>
   simp only [List.lookup_cons,hx]
   by_cases hc:(k == NameKind.free && env.scope.kind == .function && env.kindOf n == some .cell)=true
   ·have hk:k=NameKind.free:=by
     rw [Bool.and_eq_true,Bool.and_eq_true] at hc
     simpa using hc.1.1
    rw [hk];exact .inr rfl
   ·rw [if_neg hc] at h'
    simp only [List.lookup_cons,hx] at h'
    rcases h' with h' | h'
    ·have e:=hn (n,k) List.mem_cons_self (Option.some.inj h')
     have:x=n:=by simpa using hx
     exact .inl (this.trans e)
    ·exact .inr h'
  | false=>
   simp only [List.lookup_cons,hx]
   by_cases hc:(k == NameKind.free && env.scope.kind == .function && env.kindOf n == some .cell)=true
   ·rw [if_pos hc] at h';simp only [List.lookup_cons,hx] at h';exact ih h'
   ·rw [if_neg hc] at h';simp only [List.lookup_cons,hx] at h';exact ih h'
noncomputable def gQ (yo:Option Str)(C:Addr)(cl:List (Str×Addr)):List (Str×Addr):=match yo with | some yc=>(yc,C+1)::cl | none=>cl
noncomputable def fnG (yo:Option Str):Str->Bool:=match yo with | some yc=>fun x=>x == yc | none=>fun _=>false
noncomputable def Ge (X:Cx)(Nc:List Str)(scope:Scope)(yo:Option Str)(C:Addr)(s₀:Shared)(H₀:Hp)(ex:List Addr):Cx:=
 {X with N:=Nc,s₀:=s₀,H₀:=H₀,env:=compEnvC scope (gQ yo C (iS X.env.cells scope.names [])) C X.env,outer:=X.stack,ex:=ex,fn:=fnG yo,pn:=[],xe:=fun _ _=>False}
theorem r6 {yo:Option Str}{C:Addr}{cl:List (Str×Addr)}{x:Str}(h:yo≠some x):(gQ yo C cl).lookup x=cl.lookup x:=by
 cases yo with
 | none=>rfl
 | some yc=>show List.lookup x ((yc,C+1)::cl)=_;rw [List.lookup_cons,show (x == yc)=false by simpa using fun z=>h (by rw [z])]
theorem ER {yo:Option Str}{C c:Addr}{cl:List (Str×Addr)}{x:Str}(e:(gQ yo C cl).lookup x=some c):(yo=some x/\c=C+1)\/(yo≠some x/\cl.lookup x=some c):=by
 by_cases h:yo=some x
 ·rw [h] at e
  have e':List.lookup x ((x,C+1)::cl)=some c:=e
  rw [List.lookup_cons] at e'
  simp at e'
  exact .inl ⟨h,e'.symm⟩
 ·rw [r6 h] at e
  exact .inr ⟨h,e⟩
theorem Lw {yo:Option Str}{x:Str}(e:fnG yo x=true):yo=some x:=by
 cases yo with
 | none=>cases e
 | some yc=>rw [show x=yc from eq_of_beq e]
theorem mF {env:Env}{yo:Option Str}{names:List (Str×NameKind)}{x:Str}(hn:∀z∈names,z.2=NameKind.cell->yo=some z.1)
  (h:(names.map fun (n,k)=>if (k == NameKind.free && env.scope.kind == .function && env.kindOf n == some .cell) then (n,NameKind.cell) else (n,k)).lookup x=some .cell\/
  (names.map fun (n,k)=>if (k == NameKind.free && env.scope.kind == .function && env.kindOf n == some .cell) then (n,NameKind.cell) else (n,k)).lookup x=some .free):yo=some x\/names.lookup x=some .free:=by
 cases yo with
 | none=>exact .inr (ip (fun y hy e=>by cases hn y hy e) h)
 | some yc=>exact (gK (fun z hz e=>(Option.some.inj (hn z hz e)).symm) h).imp (fun e=>by rw [e]) id
section
variable {X:Cx}
theorem r8 {tg iter elt:Expr}{ifs:List Expr}{scope:Scope}{pos:Pos}{Nc:List Str}{cm:List (Option Nat)}{g:TG}{tc:TT}{te:TE}{yo:Option Str}{pins:List (Addr×Obj)}{σ:St}{it:Addr}{fp:List Addr}{tn:Nat->Heap->Prop}{J:It}{H2:Hp}{s2:Shared}{W:Nat->Nat->List V->Hp->Prop}{m0:Nat}{h₁:Heap}{QV:VK}{use:Option (Value->Sem Unit)}{R:Value->Shared->Prop}
  (hc:X.calm=true) (hkind:scope.kind=.function) (hcell:∀z∈scope.names,z.2=.cell->yo=some z.1) (hyc:∀yc,yo=some yc->scope.names.lookup yc=some .cell)
  (hfr:∀y∈scope.names,y.2=.free->∃c,X.env.cells.lookup y.1=some c) (hlen:cm.length=Nc.length)
  (hcm:∀(j:Nat) (x:Str) (i:Nat),Nc[j]?=some x->cm[j]?=some (some i)->X.N[i]?=some x/\scope.names.lookup x=some .free/\(X.env.kindOf x=some .cell\/X.env.kindOf x=some .free))
  (hg:∀C s₀ H₀ ex,PG (Ge X Nc scope yo C s₀ H₀ ex) tg g) (ht:∀C s₀ H₀ ex,PIf (Ge X Nc scope yo C s₀ H₀ ex) ifs tc) (he:∀C s₀ H₀ ex,PE (Ge X Nc scope yo C s₀ H₀ ex) elt te)
  (I2:Inv X pins σ H2 s2) (T:EA X.prog X.w X.K tg J fp it tn) (st2:tn 0 s2.heap) (f2:∀b∈fp,rV X pins H2 b) (w0:W 0 m0 [] H2)
  (turn:∀i m acc H,W i m acc H->(J.stop i H/\∀p,H p=none->QV (.ref p) (upd H p (.lst acc)))\/(J.go i H/\acc.length < sizeLine/\∀x H',J.yld i H x H'->g x (cA cm σ) H' fun σ2 H2=>Wk (cA cm σ) σ2/\tc σ2 H2 fun b H3=>if b=true then te σ2 H3 fun v H4=>∃m',m' < m/\W (i+1) m' (acc++[v]) H4 else ∃m',m' < m/\W (i+1) m' acc H3))
  (hns₁:h₁.Ns (s2.heap.push {cls:=.type "list",dict:=none,data:=.seq ([]:List Value).toArray}).objs.size fun _=>none) (keep1:∀b u,(s2.heap.push {cls:=.type "list",dict:=none,data:=.seq ([]:List Value).toArray}).get? b=some u->h₁.get? b=some u)
  (hcl₁:∀yc,yo=some yc->h₁.IsCell ((s2.heap.push {cls:=.type "list",dict:=none,data:=.seq ([]:List Value).toArray}).objs.size+1) none)
  (fin:∀(s6:Shared) (H5:Hp) (acc:List V) (m:Str->Option Value),s6.heap.Ns (s2.heap.push {cls:=.type "list",dict:=none,data:=.seq ([]:List Value).toArray}).objs.size m->rV X pins (upd H5 s2.heap.objs.size (.lst acc)) (s2.heap.push {cls:=.type "list",dict:=none,data:=.seq ([]:List Value).toArray}).objs.size->
   (∀h',Heap.SameBut (s2.heap.push {cls:=.type "list",dict:=none,data:=.seq ([]:List Value).toArray}).objs.size s6.heap h'->Inv X pins σ (upd H5 s2.heap.objs.size (.lst acc)) {s6 with heap:=h'})->QV (.ref s2.heap.objs.size) (upd H5 s2.heap.objs.size (.lst acc))->
   ∀fl,compPost (model X.prog X.w) X.A X.xe use R (.ref s2.heap.objs.size) (s2.heap.push {cls:=.type "list",dict:=none,data:=.seq ([]:List Value).toArray}).objs.size (.ok fl) s6) :
  codeAny (model X.prog X.w) X.A (.compStart (.ListComp elt [⟨tg,iter,ifs,0⟩] scope pos) 0 (.ref it) (.ref s2.heap.objs.size) (compEnvC scope (gQ yo (s2.heap.push {cls:=.type "list",dict:=none,data:=.seq ([]:List Value).toArray}).objs.size (iS X.env.cells scope.names [])) (s2.heap.push {cls:=.type "list",dict:=none,data:=.seq ([]:List Value).toArray}).objs.size X.env))
   (compPost (model X.prog X.w) X.A X.xe use R (.ref s2.heap.objs.size) (s2.heap.push {cls:=.type "list",dict:=none,data:=.seq ([]:List Value).toArray}).objs.size) {s2 with heap:=h₁,toks:=s2.toks+([]:List (Str×Value)).length}:=by
 have hk3:∀b u,s2.heap.get? b=some u->(s2.heap.push {cls:=.type "list",dict:=none,data:=.seq ([]:List Value).toArray}).get? b=some u:=fun b u q=>Heap.get?_push_of_some _ q
 have I3:Inv X pins σ H2 {s2 with heap:=s2.heap.push {cls:=.type "list",dict:=none,data:=.seq ([]:List Value).toArray},toks:=s2.toks}:=I2.kept hk3
 have hD3:(s2.heap.push {cls:=.type "list",dict:=none,data:=.seq ([]:List Value).toArray}).get? s2.heap.objs.size=some {cls:=.type "list",data:=.seq ([]:List Value).toArray}:=Heap.get?_push_size _ rfl
 have hCs:(s2.heap.push {cls:=.type "list",dict:=none,data:=.seq ([]:List Value).toArray}).objs.size=s2.heap.objs.size+1:=Heap.size_push _ _
 have hDn:H2 s2.heap.objs.size=none:=I2.hok.fresh (Nat.le_refl _)
 have st3:tn 0 (s2.heap.push {cls:=.type "list",dict:=none,data:=.seq ([]:List Value).toArray}):=T.keep _ _ _ st2 fun b _ o q=>hk3 b o q
 have fpD:∀b∈fp,b < s2.heap.objs.size:=fun b hb=>by
  obtain ⟨o,e,_⟩:=T.obj _ _ st2 b hb
  exact Heap.lt_size e
 have DX:rV X pins H2 s2.heap.objs.size:=I2.fpOk (Nat.le_refl _) hDn
 generalize hs3:s2.heap.push {cls:=.type "list",dict:=none,data:=.seq ([]:List Value).toArray}=h3 at *
 generalize hDg:s2.heap.objs.size=D at *
 have exX:∀b∈D::fp,rV X pins H2 b:=fun b hb=>by
  rcases List.mem_cons.mp hb with z | z
  ·rw [z];exact DX
  ·exact f2 b z
 have exC:∀b∈D::fp,b < h3.objs.size:=fun b hb=>by
  rcases List.mem_cons.mp hb with z | z
  ·rw [z,hCs];exact Nat.lt_succ_self _
  ·rw [hCs];exact Nat.lt_succ_of_lt (fpD b z)
 have exS:∀b∈D::fp,b∉frs X.stack:=fun b hb z=>by
  obtain ⟨_,n1,n2,_⟩:=exX b hb
  rcases List.mem_cons.mp (I2.stkSub b z) with y | y
  ·exact n1 y
  ·exact n2 y
 have clo:∀x c,(iS X.env.cells scope.names []).lookup x=some c->X.env.cells.lookup x=some c:=fun x c e=>uH (acc:=[]) (fun _ _ z=>by simp at z) e
 have ltX:∀x c,X.env.cells.lookup x=some c->c < h3.objs.size:=fun x c e=>by
  obtain ⟨v,z⟩:=I3.cell x c e
  exact z.lt
 have cloC:∀x c,(gQ yo h3.objs.size (iS X.env.cells scope.names [])).lookup x=some c->(yo=some x/\c=h3.objs.size+1)\/(yo≠some x/\X.env.cells.lookup x=some c):=fun x c e=>(ER e).imp id fun h=>⟨h.1,clo x c h.2⟩
 have cellne:∀b,b < h3.objs.size->(∀x c,X.env.cells.lookup x=some c->c≠b)->∀x c,(gQ yo h3.objs.size (iS X.env.cells scope.names [])).lookup x=some c->c≠b:=fun b hb hn x c e=>by
  rcases cloC x c e with ⟨_,z⟩ | ⟨_,z⟩
  ·rw [z];exact Nat.ne_of_gt (Nat.lt_succ_of_lt hb)
  ·exact hn x c z
 let s3:Shared:={s2 with heap:=h3}
 let X':Cx:=Ge X Nc scope yo h3.objs.size s3 H2 (D::fp)
 have hX':X'=Ge X Nc scope yo h3.objs.size s3 H2 (D::fp):=rfl
 have okX:X'.Ok:=by
  refine ⟨I3.ok.mod,hkind,I3.ok.glob,I3.ok.blt,Nat.le_refl _,fun x y c e1 e2=>(by
   rcases cloC x c e1 with ⟨a1,a2⟩ | ⟨_,a2⟩
   ·rcases cloC y c e2 with ⟨b1,b2⟩ | ⟨_,b2⟩
    ·exact Option.some.inj (a1.symm.trans b1)
    ·exact absurd (ltX y c b2) (by rw [a2];exact Nat.not_lt.mpr (Nat.le_succ _))
   ·rcases cloC y c e2 with ⟨b1,b2⟩ | ⟨_,b2⟩
    ·exact absurd (ltX x c a2) (by rw [b2];exact Nat.not_lt.mpr (Nat.le_succ _))
    ·exact I3.ok.inj x y c a2 b2),fun x hx=>?_,fun x c e z=>(cloC x c z).elim (fun h=>by rw [h.2];exact Nat.le_succ _) (fun h=>absurd (Lw e) h.1),I3.ok.hd,I3.ok.frames,.inl rfl,fun b hb=>⟨Nat.ne_of_lt (exC b hb),cellne b (exC b hb) (exX b hb).2.2.2.2.1⟩,
   I3.bs,?_,fun b o e hb=>?_,exS,I3.stack,I3.stkFree⟩
  ·rcases mF (env:=X.env) hcell hx with hx' | hx'
   ·exact ⟨h3.objs.size+1,by show List.lookup x (gQ yo h3.objs.size _)=_;rw [hx'];show List.lookup x ((x,h3.objs.size+1)::_)=_;rw [List.lookup_cons];simp⟩
   have hmem:(x,NameKind.free)∈scope.names:=by
    have:∀(l:List (Str×NameKind)),l.lookup x=some .free->(x,NameKind.free)∈l:=by
     intro l
     induction l with
     | nil=>intro z;simp at z
     | cons a r ih=>
      obtain ⟨n,k⟩:=a
      intro z
      rw [List.lookup_cons] at z
      split at z
      ·rename_i y
       have yn:x=n:=by simpa using y
       cases z
       rw [yn];exact List.mem_cons_self
      ·exact List.mem_cons_of_mem _ (ih z)
    exact this _ hx'
   have nx:yo≠some x:=fun z=>by rw [hyc x z] at hx';cases hx'
   obtain ⟨c,hc⟩:=mE (acc:=[]) hx' (hfr (x,.free) hmem rfl)
   exact ⟨c,by show List.lookup x (gQ yo _ _)=_;rw [r6 nx];exact hc⟩
  ·exact Nat.le_trans I3.ok.bsz I3.sz
  ·rcases (exX b hb).2.2.2.1 with z | z
   ·exact I3.ok.noex b o e z
   ·exact absurd (Nat.lt_of_lt_of_le (Heap.lt_size (I3.ok.bs b o e).1) z) (Nat.lt_irrefl _)
 have hσl:(cA cm σ).length=Nc.length:=by
  unfold cA
  rw [WB];exact hlen
 have I4:Inv X' [] (cA cm σ) H2 {s2 with heap:=h₁,toks:=s2.toks+([]:List (Str×Value)).length}:=by
  refine ⟨okX,rfl,I3.bare,Un.kept keep1,⟨_,hns₁,fun j x v e1 e2 e3=>?_⟩,fun x c e=>?_,?_,fun x c e=>(cloC x c e).elim (fun h=>by rw [h.2];exact I3.hok.fresh (Nat.le_succ _)) (fun h=>I3.freeC x c h.2),(fun p hp=>absurd (show p∈([]:List (Addr×Obj)) from hp) (by simp)),I3.hok.kept keep1,hσl⟩
  ·have e2':∃i,cm[j]?=some (some i)/\σ[i]?=some (some v):=by
    unfold cA at e2
    rw [List.getElem?_map] at e2
    cases q:cm[j]? with
    | none=>rw [q] at e2;simp at e2
    | some o=>
     rw [q] at e2
     cases o with
     | none=>simp at e2
     | some i=>
      refine ⟨i,rfl,?_⟩
      simp only [Option.map_some,Option.some.injEq] at e2
      cases q2:σ[i]? with
      | none=>rw [q2] at e2;simp at e2
      | some o2=>rw [q2] at e2;simp at e2;rw [e2]
   obtain ⟨i,ej,ei⟩:=e2'
   obtain ⟨n1,n2,n3⟩:=hcm j x i e1 ej
   obtain ⟨m,hn,hl⟩:=I3.loc
   have n3':Vis X.env.scope x:=by
    rcases n3 with z | z
    ·exact .inr (.inl z)
    ·exact .inr (.inr z)
   obtain ⟨u,r,l⟩:=hl i x v n1 ei n3'
   refine ⟨u,r,?_⟩
   rcases l with ⟨l,_⟩ | ⟨_,c,ec,ic⟩
   ·rcases n3 with z | z
    ·rw [l] at z;cases z
    ·rw [l] at z;cases z
   ·obtain ⟨c',ec'⟩:=mE (cells:=X.env.cells) (acc:=[]) n2 ⟨c,ec⟩
    have hcc:=clo x c' ec'
    rw [ec] at hcc;cases hcc
    obtain ⟨oc,hoc,hdc⟩:=ic
    have nx:yo≠some x:=fun z=>by rw [hyc x z] at n2;cases n2
    refine .inr ⟨?_,c,(by show List.lookup x (gQ yo _ _)=_;rw [r6 nx];exact ec'),oc,keep1 _ _ hoc,hdc⟩
    exact il (env:=X.env) n2
  ·rcases cloC x c e with ⟨z0,z⟩ | ⟨_,z⟩
   ·rw [z];exact ⟨none,hcl₁ _ z0⟩
   ·obtain ⟨v,oc,hoc,hdc⟩:=I3.cell x c z
    exact ⟨v,oc,keep1 _ _ hoc,hdc⟩
  ·exact I3.hok.fresh (Nat.le_refl _)
 have stat:∀{H':Hp} {pl:List (Addr×Obj)},(∀b∈fp,H' b=none)->(∀p∈pl,p.1=D)->∀b∈fp,rV X' pl H' b:=fun {H' pl} hn hpl b hb=>
  ⟨hn b hb,Nat.ne_of_lt (exC b (List.mem_cons_of_mem _ hb)),exS b (List.mem_cons_of_mem _ hb),.inl (List.mem_cons_of_mem _ hb),cellne b (exC b (List.mem_cons_of_mem _ hb)) (f2 b hb).2.2.2.2.1,fun p hp z=>by
   have:p∈pl:=(List.mem_append.mp hp).elim (fun z=>absurd (show p∈([]:List (Addr×Obj)) from z) (by simp)) fun z=>z
   have e:=hpl p this
   rw [e] at z
   exact absurd (fpD b hb) (by rw [←z];exact Nat.lt_irrefl _)⟩
 have hDC:D≠h3.objs.size:=by rw [hCs];exact Nat.ne_of_lt (Nat.lt_succ_self _)
 have hDs:D∉frs X.stack:=exS D List.mem_cons_self
 have loop:∀s5:Shared,s5={s2 with heap:=h₁,toks:=s2.toks+([]:List (Str×Value)).length}->
   codeAny (model X.prog X.w) X.A (.compLoop (.ListComp elt [⟨tg,iter,ifs,0⟩] scope pos) 0 (.ref it) (.ref D) (compEnvC scope (gQ yo h3.objs.size (iS X.env.cells scope.names [])) h3.objs.size X.env))
    (compPost (model X.prog X.w) X.A X.xe use R (.ref D) h3.objs.size) s5:=by
  rintro s5 rfl
  refine codeAny_loop rfl (fun n s'=>∃i acc its k H',Inv X' [] (cA cm σ) H' s'/\tn i s'.heap/\(∀b∈fp,H' b=none)/\s'.heap.get? D=some {cls:=.type "list",data:=.seq (List.toArray its) k}/\H' D=none/\br acc its/\acc.length<=sizeLine/\W i n acc H') (fun n s' hI=>?_) m0
   ⟨0,[],[],0,H2,I4,T.keep _ _ _ st3 fun b _ o q=>keep1 b o q,fun b hb=>(f2 b hb).1,keep1 _ _ hD3,hDn,.nil,Nat.zero_le _,w0⟩
  obtain ⟨i,acc,its,k,H5,J5,t5,fr5,d5,dn5,va5,ac5,w5⟩:=hI
  show wpAny _ X.A ((compTurn (.ListComp elt [⟨tg,iter,ifs,0⟩] scope pos) 0 (.ref it) (.ref D) (compEnvC scope (gQ yo h3.objs.size (iS X.env.cells scope.names [])) h3.objs.size X.env)).onRaise (fun x=>do noteFrame x (compEnvC scope (gQ yo h3.objs.size (iS X.env.cells scope.names [])) h3.objs.size X.env);theTreesLotGoes x)) _ _ s'
  refine wpAny_noted ?_
  rw [compTurn_list]
  have nocell:∀v,({cls:=.type "list",data:=.seq (List.toArray its) k}:Obj).data≠.cell v:=fun v z=>nomatch z
  have P5:Inv X' [(D,{cls:=.type "list",data:=.seq (List.toArray its) k})] (cA cm σ) H5 s':=J5.pins_of fun p hp=>by
   have e:p=(D,{cls:=.type "list",data:=.seq (List.toArray its) k}):=by simpa using hp
   subst e
   exact ⟨d5,dn5,hDC,hDs,nocell⟩
  have pl1:∀p∈[((D,{cls:=.type "list",data:=.seq (List.toArray its) k}):Addr×Obj)],p.1=D:=fun p hp=>by
   have e:p=(D,{cls:=.type "list",data:=.seq (List.toArray its) k}):=by simpa using hp
   rw [e]
  rcases turn i n acc H5 w5 with ⟨stop,qn⟩ | ⟨go,hsz,step⟩
  ·refine wpAny_bind (wpAny_standAt (wpAny_bind (wpAny_mono (T.done X' rfl rfl rfl hc i _ s' _ H5 (fun _ _=>False) P5 (stat fr5 pl1) t5 stop) (fun r s6 ⟨hr,J6⟩=>?_) fun _ _ f=>f.elim)))
   subst hr
   refine wpAny_pure ?_
   obtain ⟨mC,hnC,_⟩:=J6.loc
   have hCn:H5 h3.objs.size=none:=J6.free
   obtain ⟨dg,dg2,_⟩:=J6.pin (D,{cls:=.type "list",data:=.seq (List.toArray its) k}) (by simp)
   refine fin s6 H5 acc mC hnC (I3.fpOk (b:=h3.objs.size) (H':=upd H5 D (.lst acc)) (Nat.le_refl _) (by rw [aJ (Ne.symm hDC)];exact hCn)) (fun h' hsb=>?_) (qn D dg2) _
   have toh:∀b u,b≠h3.objs.size->s6.heap.get? b=some u->h'.get? b=some u:=fun b u hb q=>(hsb.2 b hb).trans q
   have hok':HOk X.prog X.w H5 h':=fun a o e=>(J6.hok a o e).stay (fun b u hb q=>toh b u (by
    rintro rfl
    rcases hb with z | z
    ·rw [←z,hCn] at e;cases e
    ·rw [hCn] at z;cases z) q) (fun _ q=>q) fun _ _ q=>q
   have ltC:∀{b:Addr} {u:Obj},h3.get? b=some u->b≠h3.objs.size:=fun q=>Nat.ne_of_lt (Heap.lt_size q)
   have un':Un (frs X.stack) (D::fp) H2 H5 h3 h':=by
    have u:=J6.base
    refine ⟨fun b o e n hb hx=>toh b o (ltC e) (u.keep b o e n hb hx),fun b o e n hb hx=>?_,u.free,fun b o e hx=>?_,u.tups,u.frzs,u.tbls⟩
    ·obtain ⟨sl,q⟩:=u.slot b o e n hb hx
     exact ⟨sl,toh b _ (ltC e) q⟩
    ·obtain ⟨o',q⟩:=u.there b o e hx
     exact ⟨o',toh b _ (ltC e) q⟩
   have J7:Inv X pins σ H5 {s6 with heap:=h'}:=Inv.call' (s':={s6 with heap:=h'}) (ch:=D::fp) I3 J6.os un' hok' J6.bare fun b hb=>by
    obtain ⟨_,n1,n2,n3,n4,n5⟩:=exX b hb
    exact ⟨n3,n1,n4,n5⟩
   obtain ⟨_,n1,n2,n3,n4,n5⟩:=exX D List.mem_cons_self
   have n3':X.s₀.heap.objs.size<=D:=by
    have:=I2.sz
    rw [hDg] at this
    exact this
   exact J7.track (o:=.lst acc) dg2 n3' n1 n4 n5 ⟨ac5,its,k,va5,toh _ _ hDC dg⟩
  ·refine wpAny_bind (wpAny_standAt (wpAny_bind (wpAny_mono (T.item X' rfl rfl rfl hc i _ s' _ H5 (fun _ _=>False) P5 (stat fr5 pl1) t5 go) (fun r s6 ⟨u,hr,h6⟩=>?_) fun _ _ f=>f.elim)))
   subst hr
   refine wpAny_bind (wpAny_mono h6 (fun _ s7 ⟨x,H7,J7,r7,y7,t7,fr7⟩=>?_) fun _ _ f=>f.elim)
   have P7:=J7.pinned (stat fr7 pl1) (T.obj _ _ t7)
   refine wpAny_bind (wpAny_mono (hg _ _ _ _ _ s7 _ H7 x u _ P7 r7 (step x H7 y7)) (fun _ s8 ⟨σ8,H8,J8,wk8,q8⟩=>?_) fun _ _ f=>f.elim)
   refine wpAny_bind (wpAny_mono (ht _ _ _ _ _ s8 σ8 H8 _ J8 q8) (fun b s9 ⟨H9,J9,q9⟩=>?_) fun _ _ f=>f.elim)
   have back:∀{Ha:Hp} {sa:Shared},Inv X' ([(D,{cls:=.type "list",data:=.seq (List.toArray its) k})]++uS fp s7.heap) σ8 Ha sa->
     Inv X' [] (cA cm σ) Ha sa/\tn (i+1) sa.heap/\(∀b∈fp,Ha b=none)/\sa.heap.get? D=some {cls:=.type "list",data:=.seq (List.toArray its) k}/\Ha D=none:=fun {Ha sa} Ja=>by
    refine ⟨(Ja.weak wk8.1 wk8.2).pins_of fun p hp=>absurd hp (by simp),T.keep _ _ _ t7 fun b hb o e=>(Ja.pin (b,o) (List.mem_append_right _ (List.mem_append_right _ (lg hb e)))).1,fun b hb=>?_,?_⟩
    ·obtain ⟨o,e,d⟩:=T.obj _ _ t7 b hb
     exact (Ja.pin (b,o) (List.mem_append_right _ (List.mem_append_right _ (lg hb e)))).2.1
    ·obtain ⟨z1,z2,_⟩:=Ja.pin (D,{cls:=.type "list",data:=.seq (List.toArray its) k}) (by simp)
     exact ⟨z1,z2⟩
   cases b with
   | false=>
    simp only [Bool.false_eq_true,if_false] at q9 ⊢
    obtain ⟨m',hm,w'⟩:=q9
    obtain ⟨z0,z1,z2,z3,z4⟩:=back J9
    exact wpAny_pure ⟨rfl,m',hm,i+1,acc,its,k,H9,z0,z1,z2,z3,z4,va5,ac5,w'⟩
   | true=>
    simp only [if_true] at q9 ⊢
    refine wpAny_bind (wpAny_bind (wpAny_mono (he _ _ _ _ _ s9 σ8 H9 _ J9 q9) (fun y s10 ⟨v,H10,J10,rv,q10⟩=>wpAny_bind ?_) fun _ _ f=>f.elim))
    obtain ⟨m',hm,w'⟩:=q10
    obtain ⟨z0,z1,z2,z3,z4⟩:=back J10
    have hli:=va5.length
    refine call_meets F.slot_list_append ⟨_,z3,rfl⟩ F.entry_list_append (F.args_list_append_2 _ _) (PySem.list_append D its.toArray k y (by rw [List.size_toArray];omega)) ⟨z3,?_⟩
    obtain ⟨k',q⟩:∃k',(s10.heap.update D (Obj.mapSeq (·.push y))).get? D=some {cls:=.type "list",data:=.seq (List.toArray (its++[y])) k'}:=by
     have q:=PySem.IsL.update z3 (·.push y)
     have e:its.toArray.push y=(its++[y]).toArray:=by simp
     rw [e] at q
     exact ⟨_,q⟩
    refine wpAny_pure (wpAny_pure ⟨rfl,m',hm,i+1,acc++[v],its++[y],k',H10,z0.turned (it:=D) (fun b o hb hu=>(Heap.get?_update_other s10.heap (Obj.mapSeq (·.push y)) (Ne.symm hb)).trans hu) z4 hDC (.inl List.mem_cons_self) (cellne D (exC D List.mem_cons_self) (exX D List.mem_cons_self).2.2.2.2.1) (fun p hp=>absurd (show p∈([]:List (Addr×Obj)) from hp) (by simp)),
     T.keep _ _ _ z1 fun b hb o e=>(Heap.get?_update_other s10.heap (Obj.mapSeq (·.push y)) (Nat.ne_of_gt (fpD b hb))).trans e,z2,q,z4,va5.append (.cons rv .nil),by rw [List.length_append,List.length_singleton];omega,w'⟩)
 exact codeAny_compStart_list (loop _ rfl) (T.self X.A 0 _ _ _ (T.keep _ _ _ st3 fun b _ o q=>keep1 b o q) (loop _ rfl))
theorem Iw {tg iter elt:Expr}{ifs:List Expr}{scope:Scope}{pos:Pos}{Nc:List Str}{cm:List (Option Nat)}{wi:TI}{g:TG}{tc:TT}{te:TE}
  (hc:X.calm=true) (hi:PI X tg iter wi) (hkind:scope.kind=.function) (hcell:∀y∈scope.names,y.2≠.cell) (hnames:∀y∈scope.names,y.2=.local->scope.names.lookup y.1=some .local)
  (hfree:∀y∈scope.names,y.2=.free->X.env.kindOf y.1=some .cell\/X.env.kindOf y.1=some .free) (hlen:cm.length=Nc.length)
  (hcm:∀(j:Nat) (x:Str) (i:Nat),Nc[j]?=some x->cm[j]?=some (some i)->X.N[i]?=some x/\scope.names.lookup x=some .free/\(X.env.kindOf x=some .cell\/X.env.kindOf x=some .free))
  (hg:∀C s₀ H₀ ex,PG (blk X Nc scope C s₀ H₀ ex) tg g) (ht:∀C s₀ H₀ ex,PIf (blk X Nc scope C s₀ H₀ ex) ifs tc) (he:∀C s₀ H₀ ex,PE (blk X Nc scope C s₀ H₀ ex) elt te)
  (hs:∀x,foldedSetIterable iter X.env x=pure x:=by intro _;rfl):PE X (.ListComp elt [⟨tg,iter,ifs,0⟩] scope pos) (uY wi g tc te cm):=by
 intro pins s σ H Q I h
 rw [eval_ListComp]
 have hfr:∀y∈scope.names,y.2=.free->∃c,X.env.cells.lookup y.1=some c:=fun y hy e=>I.ok.has y.1 (hfree y hy e)
 refine wpAny_comprehension_free (use:=none) rfl hs (iT hfr) hkind hnames (thn (hi pins s σ H _ I h) fun v s1 h1=>thn h1 fun itv s2 h2=>?_)
 obtain ⟨it,fp,tn,J,H2,e,I2,T,st2,f2,W,⟨m0,w0⟩,turn⟩:=h2
 subst e
 refine wpAny_newObj_type (wpAny_newFunctionEnv hcell (by intro y hy;simp at hy) (fun h₁ hns₁ hsb₁=>?_) hkind)
 dsimp only at hns₁ hsb₁ ⊢
 have keepA:∀b u,(s2.heap.push {cls:=.type "list",dict:=none,data:=.seq ([]:List Value).toArray}).get? b=some u->h₁.get? b=some u:=fun b u q=>(hsb₁.2 b (Nat.ne_of_lt (Heap.lt_size q))).trans (Heap.get?_push_of_some _ q)
 exact r8 (yo:=none) hc hkind (fun z hz e=>absurd e (hcell z hz)) (fun _ e=>by cases e) hfr hlen hcm hg ht he I2 T st2 f2 w0 turn hns₁ keepA (fun _ e=>by cases e) fun s6 H5 acc m hm _ J qn _=>⟨m,hm,fun h' hsb=>⟨.ref s2.heap.objs.size,_,J h' hsb,rfl,qn⟩⟩
end
theorem Lx {lo:Int}{n:Nat}{g:TG}{tc:TT}{te:TE}{cm:List (Option Nat)}{σ:St}{H:Hp}{Q:VK}(Pv:Nat->List V->Hp->Prop)(h0:Pv 0 [] H)
  (hs:∀i acc H,i < n->Pv i acc H->acc.length < sizeLine/\g (.int (lo+i)) (cA cm σ) H fun σ2 H2=>Wk (cA cm σ) σ2/\tc σ2 H2 fun b H3=>if b=true then te σ2 H3 fun v H4=>Pv (i+1) (acc++[v]) H4 else Pv (i+1) acc H3)
  (mono:∀x σ H N N',(∀σ2 H2,N σ2 H2->N' σ2 H2)->g x σ H N->g x σ H N':=by exact fun _ _ _ _ _ h q=>h _ _ q)
  (monoc:∀σ H N N',(∀b H2,N b H2->N' b H2)->tc σ H N->tc σ H N') (monoe:∀σ H N N',(∀v H2,N v H2->N' v H2)->te σ H N->te σ H N')
  (hd:∀acc H,Pv n acc H->∀p,H p=none->Q (.ref p) (upd H p (.lst acc))) :
  ∃W:Nat->Nat->List V->Hp->Prop,(∃m,W 0 m [] H)/\∀i m acc H,W i m acc H->
   ((Itr lo n).stop i H/\∀p,H p=none->Q (.ref p) (upd H p (.lst acc)))\/
   ((Itr lo n).go i H/\acc.length < sizeLine/\∀x H',(Itr lo n).yld i H x H'->g x (cA cm σ) H' fun σ2 H2=>Wk (cA cm σ) σ2/\tc σ2 H2 fun b H3=>if b=true then te σ2 H3 fun v H4=>∃m',m' < m/\W (i+1) m' (acc++[v]) H4 else ∃m',m' < m/\W (i+1) m' acc H3):=by
 refine ⟨fun i m acc H=>m=n - i/\i<=n/\Pv i acc H,⟨n,by simp,Nat.zero_le _,h0⟩,?_⟩
 rintro i m acc H ⟨rfl,hi,p⟩
 by_cases hlt:i < n
 ·obtain ⟨hz,q⟩:=hs i acc H hlt p
  refine .inr ⟨hlt,hz,fun x H' y=>?_⟩
  obtain ⟨e,y⟩:=y
  subst e y
  refine mono _ _ _ _ _ (fun σ2 H2 ⟨wk,q⟩=>⟨wk,monoc _ _ _ _ (fun b H3 q=>?_) q⟩) q
  cases b with
  | true=>exact monoe _ _ _ _ (fun v H4 q=>⟨n - (i+1),by omega,rfl,hlt,q⟩) q
  | false=>exact ⟨n - (i+1),by omega,rfl,hlt,q⟩
 ·have e:i=n:=by omega
  subst e
  exact .inl ⟨Nat.le_refl _,hd acc H p⟩
theorem uZ {lo:Int}{n:Nat}{te:TE}{cm:List (Option Nat)}{σ:St}{H:Hp}{Q:VK}(f:Nat->V)(hn:n<=sizeLine){j:Nat}(hj:(cA cm σ)[j]?=some none)
  (hs:∀i,i < n->∀N:VK,N (f i) H->te ((cA cm σ).set j (some (.int (lo+i)))) H N)
  (hd:∀p,H p=none->Q (.ref p) (upd H p (.lst ((List.range n).map f)))) :
  ∃W:Nat->Nat->List V->Hp->Prop,(∃m,W 0 m [] H)/\∀i m acc H,W i m acc H->
   ((Itr lo n).stop i H/\∀p,H p=none->Q (.ref p) (upd H p (.lst acc)))\/
   ((Itr lo n).go i H/\acc.length < sizeLine/\∀x H',(Itr lo n).yld i H x H'->et j x (cA cm σ) H' fun σ2 H2=>Wk (cA cm σ) σ2/\um σ2 H2 fun b H3=>if b=true then te σ2 H3 fun v H4=>∃m',m' < m/\W (i+1) m' (acc++[v]) H4 else ∃m',m' < m/\W (i+1) m' acc H3):=by
 refine ⟨fun i m acc H'=>m=n - i/\i<=n/\H'=H/\acc=(List.range i).map f,⟨n,by simp,Nat.zero_le _,rfl,rfl⟩,?_⟩
 rintro i m acc H' ⟨rfl,hi,rfl,rfl⟩
 by_cases hlt:i < n
 ·refine .inr ⟨hlt,by rw [WB,List.length_range];omega,fun x H' y=>?_⟩
  obtain ⟨e,y⟩:=y
  subst e y
  refine ⟨⟨by simp,fun k v e=>?_⟩,?_⟩
  ·by_cases hk:j=k
   ·subst hk;rw [hj] at e;cases e
   ·rw [List.getElem?_set_ne hk];exact e
  ·unfold um;dsimp only
   split
   ·refine hs i hlt _ ⟨n - (i+1),by omega,rfl,hlt,rfl,?_⟩
    rw [List.range_succ,List.map_append];rfl
   ·rename_i z;exact absurd rfl z
 ·have e:i=n:=by omega
  subst e
  exact .inl ⟨Nat.le_refl _,hd⟩
theorem wU {K:WA}{a:Addr}{xs:List V}{tc:TT}{te:TE}{cm:List (Option Nat)}{σ:St}{H:Hp}{Q:VK}(p:V->Bool)(f:V->V)(hl:SqL K H a xs)(hn:xs.length<=sizeLine){j:Nat}(hj:(cA cm σ)[j]?=some none)
  (hc:∀x,x∈xs->∀N:Bool->Hp->Prop,N (p x) H->tc ((cA cm σ).set j (some x)) H N)
  (hs:∀x,x∈xs->p x=true->∀N:VK,N (f x) H->te ((cA cm σ).set j (some x)) H N)
  (hd:∀b,H b=none->Q (.ref b) (upd H b (.lst ((xs.filter p).map f)))) :
  ∃W:Nat->Nat->List V->Hp->Prop,(∃m,W 0 m [] H)/\∀i m acc H,W i m acc H->
   ((Itl K a).stop i H/\∀p,H p=none->Q (.ref p) (upd H p (.lst acc)))\/
   ((Itl K a).go i H/\acc.length < sizeLine/\∀x H',(Itl K a).yld i H x H'->et j x (cA cm σ) H' fun σ2 H2=>Wk (cA cm σ) σ2/\tc σ2 H2 fun b H3=>if b=true then te σ2 H3 fun v H4=>∃m',m' < m/\W (i+1) m' (acc++[v]) H4 else ∃m',m' < m/\W (i+1) m' acc H3):=by
 refine ⟨fun i m acc H'=>m=xs.length - i/\i<=xs.length/\H'=H/\acc=((xs.take i).filter p).map f,⟨xs.length,by simp,Nat.zero_le _,rfl,by simp⟩,?_⟩
 rintro i m acc H' ⟨rfl,hi,rfl,rfl⟩
 by_cases hlt:i < xs.length
 ·have hx:xs[i]?=some xs[i]:=by simp [hlt]
  have hle:(((xs.take i).filter p).map f).length < sizeLine:=by
   rw [WB]
   have:=List.length_filter_le p (xs.take i)
   rw [List.length_take] at this
   omega
  refine .inr ⟨⟨xs,xs[i],hl,hx⟩,hle,fun x H' y=>?_⟩
  obtain ⟨e,y⟩:=y
  subst e
  have hy:=y xs hl
  rw [hx] at hy;cases hy
  have hmem:xs[i]∈xs:=List.getElem_mem hlt
  refine ⟨⟨by simp,fun k v e=>?_⟩,hc _ hmem _ ?_⟩
  ·by_cases hk:j=k
   ·subst hk;rw [hj] at e;cases e
   ·rw [List.getElem?_set_ne hk];exact e
  ·have hstep:((xs.take (i+1)).filter p).map f=((xs.take i).filter p).map f++(if p xs[i] then [f xs[i]] else []):=by
    rw [take_succ_filter p xs i _ hx,List.map_append]
    cases p xs[i]<;>rfl
   cases hp:p xs[i] with
   | true=>
    refine MY (hs _ hmem hp _ ⟨xs.length - (i+1),by omega,rfl,hlt,rfl,?_⟩)
    rw [hstep,hp];rfl
   | false=>
    refine MX ⟨xs.length - (i+1),by omega,rfl,hlt,rfl,?_⟩
    rw [hstep,hp];simp
 ·have e:i=xs.length:=by omega
  subst e
  refine .inl ⟨⟨xs,hl,Nat.le_refl _⟩,?_⟩
  rw [List.take_length]
  exact hd
theorem qs {lo:Int}{n:Nat}{tc:TT}{te:TE}{cm:List (Option Nat)}{σ:St}{H:Hp}{Q:VK}(p:Nat->Bool)(f:Nat->V)(hn:n<=sizeLine){j:Nat}(hj:(cA cm σ)[j]?=some none)
  (hc:∀i,i < n->∀N:Bool->Hp->Prop,N (p i) H->tc ((cA cm σ).set j (some (.int (lo+i)))) H N)
  (hs:∀i,i < n->p i=true->∀N:VK,N (f i) H->te ((cA cm σ).set j (some (.int (lo+i)))) H N)
  (hd:∀b,H b=none->Q (.ref b) (upd H b (.lst (((List.range n).filter p).map f)))) :
  ∃W:Nat->Nat->List V->Hp->Prop,(∃m,W 0 m [] H)/\∀i m acc H,W i m acc H->
   ((Itr lo n).stop i H/\∀p,H p=none->Q (.ref p) (upd H p (.lst acc)))\/
   ((Itr lo n).go i H/\acc.length < sizeLine/\∀x H',(Itr lo n).yld i H x H'->et j x (cA cm σ) H' fun σ2 H2=>Wk (cA cm σ) σ2/\tc σ2 H2 fun b H3=>if b=true then te σ2 H3 fun v H4=>∃m',m' < m/\W (i+1) m' (acc++[v]) H4 else ∃m',m' < m/\W (i+1) m' acc H3):=by
 refine ⟨fun i m acc H'=>m=n - i/\i<=n/\H'=H/\acc=((List.range i).filter p).map f,⟨n,by simp,Nat.zero_le _,rfl,by simp⟩,?_⟩
 rintro i m acc H' ⟨rfl,hi,rfl,rfl⟩
 by_cases hlt:i < n
 ·have hle:(((List.range i).filter p).map f).length < sizeLine:=by
   rw [WB]
   have:=List.length_filter_le p (List.range i)
   rw [List.length_range] at this
   omega
  refine .inr ⟨hlt,hle,fun x H' y=>?_⟩
  obtain ⟨e,y⟩:=y
  subst e y
  refine ⟨⟨by simp,fun k v e=>?_⟩,hc _ hlt _ ?_⟩
  ·by_cases hk:j=k
   ·subst hk;rw [hj] at e;cases e
   ·rw [List.getElem?_set_ne hk];exact e
  ·have hstep:((List.range (i+1)).filter p).map f=((List.range i).filter p).map f++(if p i then [f i] else []):=by
    rw [List.range_succ,List.filter_append,List.map_append]
    cases hp:p i<;>simp [hp]
   cases hp:p i with
   | true=>
    refine MY (hs _ hlt hp _ ⟨n - (i+1),by omega,rfl,hlt,rfl,?_⟩)
    rw [hstep,hp];rfl
   | false=>
    refine MX ⟨n - (i+1),by omega,rfl,hlt,rfl,?_⟩
    rw [hstep,hp];simp
 ·have e:i=n:=by omega
  subst e
  exact .inl ⟨Nat.le_refl _,hd⟩
section
variable {X:Cx}
def Kn (i j:Int):Prop:=0 < j/\j < 2 ^ 200
theorem Gf:OpR X (binaryOp .FloorDiv) (rI Kn fun i j=>.int (i / j)):=opI fun i j _ _ _ _ _ hc q=>by
 have hj:j.natAbs.log2 < 9000:=by
  have h1:j.natAbs < 2 ^ 200:=by have:=hc.2;have:=hc.1;omega
  have h0:j.natAbs≠0:=by have:=hc.1;omega
  exact Nat.lt_of_lt_of_le ((Nat.log2_lt h0).mpr h1) (by decide)
 have e:i.fdiv j=i / j:=Int.fdiv_eq_ediv_of_nonneg _ (Int.le_of_lt hc.1)
 exact floordiv_int (by have:=hc.1;omega) (by rw [e];exact q) (.inl (PyProof.noPylong_of_log2 hj))
end
theorem ba:bootBuiltins "len"=some (.builtin "len"):=by decide +kernel
theorem bJ:bootBuiltins "isinstance"=some (.builtin "isinstance"):=by decide +kernel
theorem Cq:bootBuiltins "min"=some (.builtin "min"):=by decide +kernel
theorem Gg:bootBuiltins "abs"=some (.builtin "abs"):=by decide +kernel
theorem xY:bootBuiltins "sorted"=some (.builtin "sorted"):=by decide +kernel
theorem mG:bootBuiltins "int"=some (.type "int"):=by decide +kernel
theorem DQ:bootBuiltins "bool"=some (.type "bool"):=by decide +kernel
theorem Gh:bootBuiltins "str"=some (.type "str"):=by decide +kernel
theorem cW:bootBuiltins "list"=some (.type "list"):=by decide +kernel
theorem mH:bootBuiltins "tuple"=some (.type "tuple"):=by decide +kernel
theorem Ly:bootBuiltins "set"=some (.type "set"):=by decide +kernel
theorem Gi:bootBuiltins "range"=some (.type "range"):=by decide +kernel
theorem Lz:bootBuiltins "zip"=some (.type "zip"):=by decide +kernel
theorem lj:bootBuiltins "enumerate"=some (.type "enumerate"):=by decide +kernel
noncomputable def Cr (X:Cx)(scope:Scope):Bool:=scope.names.all fun y=>y.2 != .free || (X.env.kindOf y.1 == some .cell || X.env.kindOf y.1 == some .free)
noncomputable def LA (X:Cx)(scope:Scope)(Nc:List Str)(cm:List (Option Nat)):Bool:=(Nc.zip cm).all fun p=>match p.2 with
 | none=>true
 | some i=>X.N[i]? == some p.1 && (scope.names.lookup p.1 == some .free && (X.env.kindOf p.1 == some .cell || X.env.kindOf p.1 == some .free))
theorem jA {X:Cx}{tg iter elt:Expr}{ifs:List Expr}{scope:Scope}{pos:Pos}(Nc:List Str)(cm:List (Option Nat)){wi:TI}{g:TG}{tc:TT}{te:TE}
  (hi:PI X tg iter wi) (hg:∀C s₀ H₀ ex,PG (blk X Nc scope C s₀ H₀ ex) tg g) (ht:∀C s₀ H₀ ex,PIf (blk X Nc scope C s₀ H₀ ex) ifs tc) (he:∀C s₀ H₀ ex,PE (blk X Nc scope C s₀ H₀ ex) elt te)
  (hc:X.calm=true:=by rfl) (hkind:scope.kind=.function:=by rfl) (hcell:∀y∈scope.names,y.2≠.cell:=by decide +kernel) (hnames:∀y∈scope.names,y.2=.local->scope.names.lookup y.1=some .local:=by decide +kernel)
  (hfree:Cr X scope=true:=by rfl) (hlen:cm.length=Nc.length:=by rfl) (hcm:LA X scope Nc cm=true:=by rfl)
  (hs:∀x,foldedSetIterable iter X.env x=pure x:=by intro _;rfl):PE X (.ListComp elt [⟨tg,iter,ifs,0⟩] scope pos) (uY wi g tc te cm):=by
 refine Iw hc hi hkind hcell hnames (fun y hy e=>?_) hlen (fun j x i e1 e2=>?_) hg ht he hs
 ·have h:=List.all_eq_true.mp hfree y hy
  rw [e] at h
  simpa using h
 ·have hj:(Nc.zip cm)[j]?=some (x,some i):=by
   rw [List.getElem?_zip_eq_some];exact ⟨e1,e2⟩
  have h:=List.all_eq_true.mp hcm _ (List.mem_of_getElem? hj)
  simpa using h
theorem LB {CX:CXT}{P:Program}{w:World}{K:WA}{mg:Str->Option Value}{base:Heap}{N:List Str}{qual:Str}{scope:Scope}{f:Addr}{cd:Value}{A:Around}{outer:List Env}{s:Shared}{H:Hp}{E:XK} :
  (oq CX P w K mg base N qual scope f cd A outer s H E).K=K:=rfl
theorem dh {ns:List Int}{k:Int}(h0:0<=k)(h1:k < ns.length):atI (ns.map V.int) k=some (.int (ns.getD k.toNat 0)):=by
 have hl:k.toNat < ns.length:=by omega
 have q:(ns.map V.int)[k.toNat]?=some (.int (ns.getD k.toNat 0)):=by
  rw [List.getElem?_map,List.getD_eq_getElem?_getD,List.getElem?_eq_getElem hl]
  rfl
 have q2:=DM q
 rw [show ((k.toNat:Nat):Int)=k by omega] at q2
 exact q2
theorem gL {ns:List Int}{k:Nat}(h1:k < ns.length):atI (ns.map V.int) (k:Int)=some (.int (ns.getD k 0)):=by
 have:=dh (ns:=ns) (k:=(k:Int)) (by omega) (by omega)
 simpa using this
theorem Gj {ns:List Int}{k:Nat}(h:ns.length<=k):ns.getD k 0=0:=by
 rw [List.getD_eq_getElem?_getD,List.getElem?_eq_none_iff.mpr h];rfl
structure cf (ds:List Int):Prop where
 l2:2<=ds.length
 l6:ds.length<=6
 lo:∀d∈ds,0<=d
 hi:∀d∈ds,d<=500
 up:ds.Pairwise (· < ·)
theorem cf.get {ds:List Int}(h:cf ds){i:Nat}(hi:i < ds.length):0<=ds.getD i 0/\ds.getD i 0<=500:=by
 rw [List.getD_eq_getElem?_getD,List.getElem?_eq_getElem hi,Option.getD_some]
 exact ⟨h.lo _ (List.getElem_mem hi),h.hi _ (List.getElem_mem hi)⟩
theorem cf.lt {ds:List Int}(h:cf ds){i j:Nat}(hij:i < j)(hj:j < ds.length):ds.getD i 0 < ds.getD j 0:=by
 have hi:i < ds.length:=Nat.lt_trans hij hj
 rw [List.getD_eq_getElem?_getD,List.getElem?_eq_getElem hi,List.getD_eq_getElem?_getD,List.getElem?_eq_getElem hj,Option.getD_some,Option.getD_some]
 exact List.pairwise_iff_getElem.mp h.up i j hi hj hij
noncomputable def cu (ds:List Int):Int:=ds.getD (ds.length - 1) 0
theorem cf.le_whole {ds:List Int}(h:cf ds){d:Int}(hd:d∈ds):d<=cu ds:=by
 obtain ⟨i,hi,rfl⟩:=List.getElem_of_mem hd
 have e:ds[i]=ds.getD i 0:=by rw [List.getD_eq_getElem?_getD,List.getElem?_eq_getElem hi];rfl
 rw [e]
 unfold cu
 by_cases hl:i=ds.length - 1
 ·rw [hl];exact Int.le_refl _
 ·exact Int.le_of_lt (h.lt (by omega) (by have:=h.l2;omega))
theorem cf.whole_mem {ds:List Int}(h:cf ds):cu ds∈ds:=by
 have hl:=h.l2
 unfold cu
 rw [List.getD_eq_getElem?_getD,List.getElem?_eq_getElem (by omega:ds.length - 1 < ds.length),Option.getD_some]
 exact List.getElem_mem _
theorem cf.even {n:Nat}{g:Int}(h2:2<=n)(h6:n<=6)(g1:1<=g)(g2:g<=100):cf ((List.range n).map fun (i:Nat)=>g * (i:Int)):=by
 refine ⟨by simpa using h2,by simpa using h6,fun d hd=>?_,fun d hd=>?_,?_⟩
 ·obtain ⟨i,hi,rfl⟩:=List.mem_map.mp hd
  exact Int.mul_nonneg (by omega) (by omega)
 ·obtain ⟨i,hi,rfl⟩:=List.mem_map.mp hd
  have hi':=List.mem_range.mp hi
  have a:g * (i:Int)<=g * 5:=Int.mul_le_mul_of_nonneg_left (by omega) (by omega)
  omega
 ·rw [List.pairwise_map]
  refine List.Pairwise.imp_of_mem (fun {a b} ha hb hab=>?_) List.pairwise_lt_range
  exact Int.mul_lt_mul_of_pos_left (by omega) (by omega)
structure lq (ds:List Int)(l:Int):Prop where
 lo:∀d∈ds,0<=d
 hi:∀d∈ds,d<=l
 up:ds.Pairwise (· < ·)
 l0:-1<=l
theorem lq.nil:lq [] (-1):=⟨by simp,by simp,List.Pairwise.nil,by omega⟩
theorem lq.snoc {ds:List Int}{l r:Int}(h:lq ds l)(h0:0<=r):lq (ds++[l+1+r]) (l+1+r):=by
 have l0:=h.l0
 refine ⟨fun d hd=>?_,fun d hd=>?_,?_,by omega⟩
 ·rcases List.mem_append.mp hd with z | z
  ·exact h.lo d z
  ·have:d=l+1+r:=by simpa using z
   omega
 ·rcases List.mem_append.mp hd with z | z
  ·have:=h.hi d z;omega
  ·have:d=l+1+r:=by simpa using z
   omega
 ·rw [List.pairwise_append]
  refine ⟨h.up,by simp,fun a ha b hb=>?_⟩
  have hb':b=l+1+r:=by simpa using hb
  have:=h.hi a ha;omega
theorem lq.shaft {ds:List Int}{l:Int}(h:lq ds l)(hl:l<=500)(h2:2<=ds.length)(h6:ds.length<=6):cf ds:=
 ⟨h2,h6,h.lo,fun d hd=>Int.le_trans (h.hi d hd) hl,h.up⟩
theorem cf.ends {ds:List Int}(h:cf ds):cf ([0]++(ds.drop 1).take (ds.length - 1 - 1)++[500]):=by
 have l2:=h.l2
 have l6:=h.l6
 have hlen:((ds.drop 1).take (ds.length - 1 - 1)).length=ds.length - 2:=by
  rw [List.length_take,List.length_drop];omega
 have hmem:∀d,d∈(ds.drop 1).take (ds.length - 1 - 1)->0 < d/\d < 500:=fun d hd=>by
  obtain ⟨i,hi,rfl⟩:=List.getElem_of_mem hd
  rw [hlen] at hi
  have e:((ds.drop 1).take (ds.length - 1 - 1))[i]'(by rw [hlen];exact hi)=ds.getD (1+i) 0:=by
   rw [List.getElem_take,List.getElem_drop,List.getD_eq_getElem?_getD,List.getElem?_eq_getElem (by omega)]
   rfl
  rw [e]
  have a:=h.lt (i:=0) (j:=1+i) (by omega) (by omega)
  have b:=h.lt (i:=1+i) (j:=ds.length - 1) (by omega) (by omega)
  have c:=(h.get (i:=0) (by omega)).1
  have d:=(h.get (i:=ds.length - 1) (by omega)).2
  omega
 refine ⟨by simp [hlen]<;>omega,by simp [hlen]<;>omega,fun d hd=>?_,fun d hd=>?_,?_⟩
 ·rcases List.mem_append.mp hd with z | z
  ·rcases List.mem_append.mp z with z | z
   ·have:d=0:=by simpa using z
    omega
   ·have:=hmem d z;omega
  ·have:d=500:=by simpa using z
   omega
 ·rcases List.mem_append.mp hd with z | z
  ·rcases List.mem_append.mp z with z | z
   ·have:d=0:=by simpa using z
    omega
   ·have:=hmem d z;omega
  ·have:d=500:=by simpa using z
   omega
 ·rw [List.pairwise_append,List.pairwise_append]
  refine ⟨⟨by simp,(h.up.drop).take,fun a ha b hb=>?_⟩,by simp,fun a ha b hb=>?_⟩
  ·have ha':a=0:=by simpa using ha
   have:=hmem b hb;omega
  ·have hb':b=500:=by simpa using hb
   rcases List.mem_append.mp ha with z | z
   ·have:a=0:=by simpa using z
    omega
   ·have:=hmem a z;omega
def DR (J:It)(g:TG)(tb:TS)(D:gO)(σ:St)(H1:Hp):Prop:=∃W:Nat->Nat->St->Hp->Prop,(∃m,W 0 m σ H1)/\∀i m σ H,W i m σ H->
 (J.stop i H/\D.nx σ H)\/(J.go i H/\∃N:St->Hp->Prop,(∀σ' H',N σ' H'->∃m',m' < m/\W (i+1) m' σ' H')/\∀x H',J.yld i H x H'->g x σ H' fun σ2 H2=>tb {D with nx:=N,ct:=N,bk:=D.nx} σ2 H2)
theorem Iy (wi:TI)(g:TG)(tb:TS)(D:gO)(σ:St)(H:Hp):MJ wi g tb D σ H=wi σ H fun J H1=>DR J g tb D σ H1:=rfl
def oF (J:It)(g:TG)(tc:TT)(te:TE)(cm:List (Option Nat))(σ:St)(Q:VK)(H1:Hp):Prop:=∃W:Nat->Nat->List V->Hp->Prop,(∃m,W 0 m [] H1)/\∀i m acc H,W i m acc H->
 (J.stop i H/\∀p,H p=none->Q (.ref p) (upd H p (.lst acc)))\/
 (J.go i H/\acc.length < sizeLine/\∀x H',J.yld i H x H'->g x (cA cm σ) H' fun σ2 H2=>Wk (cA cm σ) σ2/\tc σ2 H2 fun b H3=>if b=true then te σ2 H3 fun v H4=>∃m',m' < m/\W (i+1) m' (acc++[v]) H4 else ∃m',m' < m/\W (i+1) m' acc H3)
theorem Gk (wi:TI)(g:TG)(tc:TT)(te:TE)(cm:List (Option Nat))(σ:St)(H:Hp)(Q:VK):uY wi g tc te cm σ H Q=wi σ H fun J H1=>oF J g tc te cm σ Q H1:=rfl
theorem cj {lo:Int}{n:Nat}{g:TG}{tb:TS}{D:gO}{σ:St}{H:Hp}(Pv:Nat->St->Hp->Prop)(h0:Pv 0 σ H)
  (hs:∀i σ H,i < n->Pv i σ H->g (.int (lo+i)) σ H fun σ2 H2=>tb {D with nx:=Pv (i+1),ct:=Pv (i+1),bk:=D.nx} σ2 H2) (hd:∀σ H,Pv n σ H->D.nx σ H):DR (Itr lo n) g tb D σ H:=EF Pv h0 hs hd
theorem iK {K:WA}{a:Addr}(xs:List V){g:TG}{tb:TS}{D:gO}{σ:St}{H:Hp}(Pv:Nat->St->Hp->Prop)(h0:Pv 0 σ H)(hl:∀i σ H,i<=xs.length->Pv i σ H->SqL K H a xs)
  (hs:∀i x σ H,xs[i]?=some x->Pv i σ H->g x σ H fun σ2 H2=>tb {D with nx:=Pv (i+1),ct:=Pv (i+1),bk:=D.nx} σ2 H2) (hd:∀σ H,Pv xs.length σ H->D.nx σ H):DR (Itl K a) g tb D σ H:=FH Pv h0 hl hs hd
theorem zc {lo:Int}{n:Nat}{te:TE}{cm:List (Option Nat)}{σ:St}{H:Hp}{Q:VK}(f:Nat->V)(hn:n<=sizeLine){j:Nat}(hj:(cA cm σ)[j]?=some none)
  (hs:∀i,i < n->∀N:VK,N (f i) H->te ((cA cm σ).set j (some (.int (lo+i)))) H N)
  (hd:∀p,H p=none->Q (.ref p) (upd H p (.lst ((List.range n).map f)))):oF (Itr lo n) (et j) um te cm σ Q H:=uZ f hn hj hs hd
theorem dR {lo:Int}{n:Nat}{tc:TT}{te:TE}{cm:List (Option Nat)}{σ:St}{H:Hp}{Q:VK}(p:Nat->Bool)(f:Nat->V)(hn:n<=sizeLine){j:Nat}(hj:(cA cm σ)[j]?=some none)
  (hc:∀i,i < n->∀N:Bool->Hp->Prop,N (p i) H->tc ((cA cm σ).set j (some (.int (lo+i)))) H N)
  (hs:∀i,i < n->p i=true->∀N:VK,N (f i) H->te ((cA cm σ).set j (some (.int (lo+i)))) H N)
  (hd:∀b,H b=none->Q (.ref b) (upd H b (.lst (((List.range n).filter p).map f)))):oF (Itr lo n) (et j) tc te cm σ Q H:=qs p f hn hj hc hs hd
theorem tN {K:WA}{a:Addr}{xs:List V}{tc:TT}{te:TE}{cm:List (Option Nat)}{σ:St}{H:Hp}{Q:VK}(p:V->Bool)(f:V->V)(hl:SqL K H a xs)(hn:xs.length<=sizeLine){j:Nat}(hj:(cA cm σ)[j]?=some none)
  (hc:∀x,x∈xs->∀N:Bool->Hp->Prop,N (p x) H->tc ((cA cm σ).set j (some x)) H N)
  (hs:∀x,x∈xs->p x=true->∀N:VK,N (f x) H->te ((cA cm σ).set j (some x)) H N)
  (hd:∀b,H b=none->Q (.ref b) (upd H b (.lst ((xs.filter p).map f)))):oF (Itl K a) (et j) tc te cm σ Q H:=wU p f hl hn hj hc hs hd
theorem upo {H:Hp}{a b:Addr}{o u:HO}(h:H b=some u)(hn:H a=none):upd H a o b=some u:=by rw [aJ (ak h hn)];exact h
theorem upn {H:Hp}{a b:Addr}{o:HO}(h:upd H a o b=none):H b=none:=by
 by_cases e:b=a
 ·subst e;rw [ag] at h;cases h
 ·rw [aJ e] at h;exact h
theorem aq.lay {H H':Hp}{a:Addr}{o:HO}(s:aq H H')(hn:H' a=none):aq H (upd H' a o):=fun b u e=>upo (s b u e) hn
theorem aq.rewr {H H':Hp}{a:Addr}{o:HO}(s:aq H H')(hn:H a=none):aq H (upd H' a o):=fun b u e=>by rw [aJ (ak e hn)];exact s b u e
theorem Iz {n d:Nat}(h:1<=n):HT.sIx n d (some 1)=1:=by
 have:=HT.Ip n d 1
 rw [show ((1:Nat):Int)=1 from rfl] at this
 omega
theorem LC {n d:Nat}(h:1<=n):HT.sIx n d (some (-1))=n - 1:=by
 have:=HT.y0 (-1) n d
 rw [if_pos (by decide)] at this
 omega
theorem Gm (ds:List Int)(h:2<=ds.length):qo (ds.map V.int) (some 1) (some (-1))=((ds.drop 1).take (ds.length - 1 - 1)).map V.int:=by
 unfold qo
 rw [WB,Iz (by omega),LC (by omega),List.map_take,List.map_drop]
theorem Cs {ds:List Int}(h:0 < ds.length):atI (ds.map V.int) (-1)=some (.int (cu ds)):=by
 unfold atI ixN
 rw [if_neg (by decide),WB,if_pos (by omega),Option.bind_some,List.getElem?_map,show (-1+(ds.length:Int)).toNat=ds.length - 1 by omega,List.getElem?_eq_getElem (by omega)]
 unfold cu
 rw [List.getD_eq_getElem?_getD,List.getElem?_eq_getElem (by omega)]
 rfl
theorem zd (a b:Int):eqV (.int a) (.int b)=decide (a=b):=by
 simp [eqV,Bool.beq_eq_decide_eq]
theorem nZ (d:Int)(ds:List Int):inV (.int d) (ds.map V.int)=decide (d∈ds):=by
 unfold inV
 rw [List.any_map]
 by_cases h:d∈ds
 ·rw [decide_eq_true h,List.any_eq_true]
  exact ⟨d,h,by simp [zd]⟩
 ·rw [decide_eq_false h,List.any_eq_false]
  intro x hx
  simp [zd]
  rintro rfl
  exact h hx
theorem lr {xs:List Int}{i:Nat}{x:V}(h:(xs.map V.int)[i]?=some x):∃z,x=V.int z/\xs[i]?=some z/\z∈xs:=by
 rw [List.getElem?_map] at h
 cases e:xs[i]? with
 | none=>rw [e] at h;cases h
 | some z=>rw [e] at h;exact ⟨z,(Option.some.inj h).symm,rfl,List.mem_of_getElem? e⟩
section
variable {X:Cx}
theorem Ap:ez X (.type "range") (fun xs H Q=>∃j:Int,xs=[.int j]/\∀p,H p=none->Q (.ref p) (upd H p (.rng 0 j))):=by
 intro pins s σ H xs us Q I r h
 obtain ⟨j,rfl,q⟩:=h
 obtain ⟨u,rfl,t,rfl⟩:=ql r
 refine call_range_1 ?_
 exact ⟨.ref s.heap.objs.size,_,I.laid (o:=.rng 0 j) (fun b o e=>Heap.get?_push_of_some _ e) (Nat.le_refl _) ⟨_,_,_,Heap.get?_push_size _ rfl⟩,rfl,q _ I.fresh⟩
theorem wV (hc:X.calm=true):ez X (.type "list") (fun xs H Q=>∃(r:Addr) (n:Nat),xs=[.ref r]/\H r=some (.rng 0 (n:Int))/\n<=100000/\∀p,H p=none->Q (.ref p) (upd H p (.lst ((List.range n).map fun (i:Nat)=>V.int (i:Int))))):=by
 intro pins s σ H xs us Q I rr h
 obtain ⟨r,n,rfl,hr,hn,q⟩:=h
 obtain ⟨u,rfl,ru⟩:=ql rr
 cases ru
 obtain ⟨t,u,v,e⟩:=I.hok r _ hr
 have hsz:Builtin.Range.rangeSize 0 (n:Int) 1=((n:Nat):Int):=by rw [rangeSize_one];split<;>omega
 refine call_list_range (I.ok.hd hc) (show IsRange s.heap r 0 n 1 t u v from e) (small_one (by omega) (by omega) (by omega) (by omega)) hsz (by omega) fun h' tk acc c' hk hS hacc=>?_
 have hv:br ((List.range n).map fun (i:Nat)=>V.int (i:Int)) acc.toList:=by
  have:∀(m:Nat) (us:List Value) (k:Nat),us.length=m->(∀(j:Nat) v,us[j]?=some v->∃t,v=Value.int ((k:Int)+j) t)->br ((List.range' k m).map fun (i:Nat)=>V.int (i:Int)) us:=by
   intro m
   induction m with
   | zero=>intro us k hl _;cases us with
    | nil=>exact .nil
    | cons=>simp at hl
   | succ m ih=>intro us k hl ha;cases us with
    | nil=>simp at hl
    | cons x r=>
     obtain ⟨t,e⟩:=ha 0 x rfl
     refine .cons ⟨t,by simpa using e⟩ (ih r (k+1) (by simpa using hl) fun j v hv=>?_)
     obtain ⟨t,e⟩:=ha (j+1) v (by simpa using hv)
     exact ⟨t,by rw [e];congr 1;push_cast;omega⟩
  rw [List.range_eq_range']
  refine this n acc.toList 0 (by simpa using hacc.1) fun j v hv=>?_
  obtain ⟨t,e⟩:=hacc.2 j v (by simpa using hv)
  exact ⟨t,by rw [e];congr 1;omega⟩
 refine ⟨.ref s.heap.objs.size,_,I.laid (o:=.lst ((List.range n).map fun (i:Nat)=>V.int (i:Int))) hk (Nat.le_refl _) ⟨by rw [WB,List.length_range];exact Nat.le_of_lt (Nat.lt_of_le_of_lt hn (by decide)),acc.toList,c',hv,by simpa using hS⟩,rfl,q _ I.fresh⟩
end
theorem DS (d x y:Int):inV (.int d) [.int x,.int y]=decide (d=x\/d=y):=by
 have:=nZ d [x,y]
 simpa [eq_comm] using this
theorem Ct {w s:Int}(hw:0<=w)(hs:0 < s):0<=(w+s - 1) / s/\w<=(w+s - 1) / s * s/\((w+s - 1) / s - 1) * s < w/\(w+s - 1) / s<=w:=by
 have e:=Int.emod_add_mul_ediv (w+s - 1) s
 have r0:=Int.emod_nonneg (w+s - 1) (by omega:s≠0)
 have r1:=Int.emod_lt_of_pos (w+s - 1) hs
 have e2:s * ((w+s - 1) / s)=(w+s - 1) / s * s:=Int.mul_comm _ _
 have e3:((w+s - 1) / s - 1) * s=(w+s - 1) / s * s - s:=by rw [Int.sub_mul,Int.one_mul]
 have q0:0<=(w+s - 1) / s:=Int.ediv_nonneg (by omega) (by omega)
 refine ⟨q0,by omega,by omega,?_⟩
 by_cases h:(w+s - 1) / s<=w
 ·exact h
 ·exfalso
  have h1:((w+s - 1) / s - 1) * 1<=((w+s - 1) / s - 1) * s:=Int.mul_le_mul_of_nonneg_left (by omega) (by omega)
  omega
end L2
namespace L2
theorem IA {x y i:Int}(h:i=0\/i=1):∃m,(m=x\/m=y)/\atI [V.int x,V.int y] i=some (.int m):=by
 rcases h with rfl | rfl
 ·exact ⟨x,.inl rfl,rfl⟩
 ·exact ⟨y,.inr rfl,rfl⟩
end L2
namespace L2
open PySem PySem.Spec PyProof.Rows
noncomputable def CXf (P:Program)(w:World):CXT:=fun outer H s E e s'=>
 ∃(x:Addr) (cls a0:Value) (H':Hp) (B:Heap),e=.ref x/\s'.os=s.os/\AllBare s'.gens/\Un (frs outer) [] H H' s.heap s'.heap/\HOk P w H' s'.heap/\Heap.FlyingW B outer x cls a0 s'.heap/\
  (∀b o,s'.heap.get? b=some o->(H' b≠none\/∃o0,s.heap.get? b=some o0)->b∉frs outer->B.get? b=some o)/\(∀o,s.heap.get? x≠some o)/\H' x=none/\E cls none H'
theorem fK.there {P:Program}{w:World}{H:Hp}{h:Heap}{a:Addr}{o:HO}(l:fK P w H h a o):∃ob,h.get? a=some ob:=by
 cases o with
 | lst xs=>obtain ⟨_,its,n,_,e⟩:=l;exact ⟨_,e⟩
 | tup xs=>obtain ⟨_,its,_,ob,e,_⟩:=l;exact ⟨_,e⟩
 | dK kvs=>obtain ⟨_,_,_,_,ob,_,_,e,_⟩:=l;exact ⟨_,e⟩
 | dT kvs=>obtain ⟨_,_,_,_,ob,_,_,e,_⟩:=l;exact ⟨_,e⟩
 | set S n=>obtain ⟨ob,_,_,_,e,_⟩:=l;exact ⟨_,e⟩
 | ins C dx fs=>obtain ⟨_,_,_,e,_⟩:=l;exact ⟨_,e⟩
 | own y=>exact l
 | xd fs=>obtain ⟨mA,⟨od,_,_,e,_⟩,_⟩:=l;exact ⟨_,e⟩
 | rng lo hi=>obtain ⟨_,_,_,e⟩:=l;exact ⟨_,e⟩
 | frz ob u=>obtain ⟨e,_⟩:=l;exact ⟨_,e⟩
 | tbl ps=>exact ⟨_,l⟩
 | met f y=>exact ⟨_,l⟩
 | ext φ=>obtain ⟨_,h,_⟩:=l;exact h
section
variable {P:Program}{w:World}{K:WA}{mg:Str->Option Value}{base:Heap}{N:List Str}{qual:Str}{scope:Scope}{f:Addr}{cd:Value}{A:Around}{outer:List Env}{s:Shared}{H:Hp}{E:XK}
noncomputable abbrev cxF (P:Program)(w:World)(K:WA)(mg:Str->Option Value)(base:Heap)(N:List Str)(qual:Str)(scope:Scope)(f:Addr)(cd:Value)(A:Around)(outer:List Env)(s:Shared)(H:Hp)(E:XK):Cx:=
 oq (CXf P w) P w K mg base N qual scope f cd A outer s H E
theorem DT {pins:List (Addr×Obj)}{σ:St}{H1:Hp}{s1:Shared}{h2:Heap}{x:Addr}{cls a0:Value}{B:Heap}(I:Inv (cxF P w K mg base N qual scope f cd A outer s H E) pins σ H1 s1)
  (hB:∀b o,s1.heap.get? b=some o->(H1 b≠none\/∃o0,s.heap.get? b=some o0)->b∉frs (cxF P w K mg base N qual scope f cd A outer s H E).stack->B.get? b=some o)
  (hfl:Heap.FlyingW B outer x cls a0 h2) (hsl:∀b o,s1.heap.get? b=some o->(∀vs,o.data≠.fields vs)->∃sl,h2.get? b=some {o with slots:=sl}) (hx:∀o,s.heap.get? x≠some o) (hx1:H1 x=none) (q:E cls none H1) :
  CXf P w outer H s E (.ref x) {s1 with heap:=h2}:=by
 have neL:∀b o,s.heap.get? b=some o->b≠s.heap.objs.size:=fun b o e=>Nat.ne_of_lt (Heap.lt_size e)
 have stk:∀b,b∈frs (cxF P w K mg base N qual scope f cd A outer s H E).stack->b=s.heap.objs.size\/b∈frs outer:=fun b hb=>by
  rcases List.mem_cons.mp (I.stkSub b hb) with z | z
  ·exact .inl z
  ·exact .inr z
 have hfree:H1 s.heap.objs.size=none:=I.free
 have st:B.StaysIn h2:=hfl.1
 have frD:∀b∈frs outer,∃o,s.heap.get? b=some o/\∀vs,o.data≠.fields vs:=fun b hb=>(I.ok.funs.mem hb).2
 have u:=I.base
 have nf:∀b o,s.heap.get? b=some o->b∉frs outer->b∉frs (cxF P w K mg base N qual scope f cd A outer s H E).stack:=fun b o e hb z=>(stk b z).elim (neL b o e) hb
 have up:∀b∈frs outer,∀o,s.heap.get? b=some o->∃sl,h2.get? b=some {o with slots:=sl}:=fun b hb o e=>by
  obtain ⟨o',e',d⟩:=frD b hb
  rw [e] at e';cases e'
  obtain ⟨sl,q1⟩:=u.any (b:=b) e (I.ok.frf b hb) (by intro z;exact nomatch z)
  obtain ⟨sl',q2⟩:=hsl b _ q1 d
  exact ⟨sl',q2⟩
 refine ⟨x,cls,a0,H1,B,rfl,I.os,I.bare,⟨fun b o e n hb _=>?_,fun b o e n hb _=>up b hb o e,u.free,fun b o e _=>?_,u.tups,u.frzs,u.tbls⟩,fun b o e=>?_,hfl,fun b o e hh hb=>?_,hx,hx1,q⟩
 ·exact st b o (hB b o (u.keep b o e n hb (by intro z;exact nomatch z)) (.inr ⟨o,e⟩) (nf b o e hb))
 ·by_cases hb:b∈frs outer
  ·obtain ⟨sl,q⟩:=up b hb o e
   exact ⟨_,q⟩
  ·obtain ⟨o',e'⟩:=u.there b o e (by intro z;exact nomatch z)
   exact ⟨o',st b o' (hB b o' e' (.inr ⟨o,e⟩) (nf b o e hb))⟩
 ·have ne:b≠s.heap.objs.size:=fun z=>by rw [z,hfree] at e;cases e
  have inB:∀c v,H1 c≠none->s1.heap.get? c=some v->h2.get? c=some v:=fun c v hc q=>st c v (hB c v q (.inl hc) fun z=>by
   rcases stk c z with y | y
   ·rw [y] at hc;exact hc hfree
   ·obtain ⟨o',e',_⟩:=frD c y
    exact hc (u.free c o' e' (I.ok.frf c y) (by intro z;exact nomatch z)))
  refine (I.hok b o e).stay (fun c v hc q=>inB c v ?_ q) (fun _ q=>q) fun _ _ q=>q
  rcases hc with z | z
  ·rw [z,e];simp
  ·rw [z];simp
 ·
  have there1:∃o1,s1.heap.get? b=some o1:=by
   rcases hh with z | ⟨o0,z⟩
   ·cases q:H1 b with
    | none=>exact absurd q z
    | some v=>exact (I.hok b v q).there
   ·exact u.there b o0 z (by intro z;exact nomatch z)
  obtain ⟨o1,e1⟩:=there1
  have nfb:b∉frs (cxF P w K mg base N qual scope f cd A outer s H E).stack:=fun z=>by
   rcases stk b z with y | y
   ·rcases hh with t | ⟨o0,t⟩
    ·rw [y] at t;exact t hfree
    ·exact neL b o0 t y
   ·exact hb y
  have e2:=hB b o1 e1 hh nfb
  have e3:=st b o1 e2
  have e':h2.get? b=some o:=e
  rw [e3] at e';cases e'
  exact e2
theorem ES {pins:List (Addr×Obj)}{σ:St}{H1:Hp}{s1:Shared}{h':Heap}{x:Addr}{cls:Value}{args:List Value}(I:Inv (cxF P w K mg base N qual scope f cd A outer s H E) pins σ H1 s1)
  (hx:Heap.MadeExcOf s1.heap h' x cls args) (q:E cls none H1):(cxF P w K mg base N qual scope f cd A outer s H E).xe (.ref x) {s1 with heap:=h'}:=by
 have hn:=hx.new
 have hin:∀env∈(cxF P w K mg base N qual scope f cd A outer s H E).stack,∀b,env.frame=some b->b∈frs (cxF P w K mg base N qual scope f cd A outer s H E).stack:=fun env he b hb=>List.mem_filterMap.mpr ⟨env,he,hb⟩
 have hx1:H1 x=none:=by
  cases q:H1 x with
  | none=>rfl
  | some v=>
   obtain ⟨ob,e⟩:=(I.hok x v q).there
   rw [hn] at e;cases e
 refine wpAny_leaves_madeW (base:=W.hideAll s1.heap (frs (cxF P w K mg base N qual scope f cd A outer s H E).stack)) (h:=s1.heap) (s:={s1 with heap:=h'}) I.ok.frames rfl (fun b o q=>W.of_hideAll _ q) (W.funFrames_hide I.stack hin) hx fun h2 t f1 f2 f3 f4=>?_
 refine DT (s1:=s1) I (fun b o e _ hb=>W.hideAll_get _ e hb) f1 (fun b o e d=>f4 b o (hx.keeps b o e) d) (fun o e=>?_) hx1 q
 obtain ⟨o',e'⟩:=I.base.there x o e (by intro z;exact nomatch z)
 rw [hn] at e';cases e'
theorem bG:fN (CXf P w) (cxF P w K mg base N qual scope f cd A outer s H E) E:=by
 rintro pins σ H1 s1 e s2 I ⟨x,cls,a0,H2,B,rfl,os,bare,un,hok,hfl,hB,hx,hx2,q⟩
 have I2:Inv (cxF P w K mg base N qual scope f cd A outer s H E) pins σ H2 s2:=I.call' os un hok bare fun b hb=>absurd hb (by simp)
 refine wpAny_leaves_onW (s:=s2) I.ok.frames rfl hfl fun h2 f1 f2=>?_
 refine DT I2 (fun b o e hh hb=>hB b o e ?_ hb) f1 (fun b o e d=>f2 b o e d) (fun o e=>?_) hx2 q
 ·rcases hh with z | ⟨o0,z⟩
  ·exact .inl z
  ·obtain ⟨o1,e1⟩:=I.base.there b o0 z (by intro z;exact nomatch z)
   exact .inr ⟨o1,e1⟩
 ·obtain ⟨o1,e1⟩:=I.base.there x o e (by intro z;exact nomatch z)
  exact hx o1 e1
theorem u6:PassesOwn (model P w) (cxF P w K mg base N qual scope f cd A outer s H E).A (cxF P w K mg base N qual scope f cd A outer s H E).env (cxF P w K mg base N qual scope f cd A outer s H E).xe:=PassesOwn.leaving
structure ExC (K:WA)(C:Addr):Prop where
 ex:∃(nm q:Str) (N:Addr) (bs bm:List Value) (hdct:Bool) (sn:List Str) (sub:List Value) (ab:Bool) (col:Option Bool) (dd:Option Addr) (k0 k1 k2 k3 k5:Option Value) (mN:Str->Option Value),
  ∀h,K.In h->h.get? C=some (excClassObj nm q C N bs bm hdct sn sub ab col dd k0 k1 k2 k3 k5 "ValueError.__new__")/\h.Ns N mN/\(∀n∈quietNames,mN n=none)/\OwnTailQ h [.type "ValueError",.type "Exception",.type "BaseException",.type "object"] bm
noncomputable def n6 (es:Array DictEntry):Bool:=es.toList.all fun e=>match e.key with | .str _ _=>true | _=>false
theorem Ko {K:WA}{h:Heap}{N:Addr}{c:Value}{d:Option Addr}{es:Array DictEntry}{ep:Nat}{sl:Array (Option Value)}(X:K.In h)(l:K.lookup N=some ⟨c,d,.dict es ep,sl⟩)(k:n6 es=true):h.Ns N (nsFind es):=by
 refine ⟨_,es,ep,X _ _ l,rfl,fun e he=>?_,fun _=>rfl⟩
 have z:=List.all_eq_true.mp k e (by simpa using he)
 split at z
 ·rename_i n t q;exact ⟨n,t,q⟩
 ·cases z
theorem LD {K:WA}{C N C0 N0:Addr}{nm q:Str}{bs:List Value}{hdct:Bool}{sn:List Str}{sub:List Value}{ab:Bool}{col:Option Bool}{dd:Option Addr}{k0 k1 k2 k3 k5:Option Value}
  {c1 c2 c0:Value} {d1 d2 dd0:Option Addr} {es es0:Array DictEntry} {ep ep0:Nat} {sl1 sl2 sl0:Array (Option Value)} {cd0:ClassData}
  (lC:K.lookup C=some (excClassObj nm q C N bs [.ref C0,.type "ValueError",.type "Exception",.type "BaseException",.type "object"] hdct sn sub ab col dd k0 k1 k2 k3 k5 "ValueError.__new__"))
  (lN:K.lookup N=some ⟨c1,d1,.dict es ep,sl1⟩) (kN:n6 es=true) (iN:(quietNames.all fun n=>(nsFind es n).isNone)=true)
  (l0:K.lookup C0=some ⟨c0,dd0,.cls cd0,sl0⟩) (e0:cd0.ns=N0) (lN0:K.lookup N0=some ⟨c2,d2,.dict es0 ep0,sl2⟩) (kN0:n6 es0=true) (iN0:(quietNames.all fun n=>(nsFind es0 n).isNone)=true):ExC K C:=
 ⟨nm,q,N,bs,_,hdct,sn,sub,ab,col,dd,k0,k1,k2,k3,k5,nsFind es,fun h X=>⟨X _ _ lC,Ko X lN kN,fun n hn=>Option.isNone_iff_eq_none.mp (List.all_eq_true.mp iN n hn),.own (X _ _ l0) (e0▸Ko X lN0 kN0) (fun n hn=>Option.isNone_iff_eq_none.mp (List.all_eq_true.mp iN0 n hn)) .base⟩⟩
noncomputable def Gn (E:XK)(C:Addr)(t:TA):TS:=fun _ σ H=>t σ H fun vs H1=>vs.length<=sizeLine/\E (.ref C) none H1
theorem bh {x:Str}{C:Addr}{e:Expr}{es:List Expr}{t:TA}{np cpos pos:Pos}(O:ExC K C)(hg:Gl (cxF P w K mg base N qual scope f cd A outer s H E) x)(hm:mg x=some (.ref C))
  (ha:PA (cxF P w K mg base N qual scope f cd A outer s H E) (e::es) t) (hdb:(x == ("__debug__":Str))=false:=by decide)
  (he:starEach (e::es) (cxF P w K mg base N qual scope f cd A outer s H E).env=(false,eval e (cxF P w K mg base N qual scope f cd A outer s H E).env)::starEach es (cxF P w K mg base N qual scope f cd A outer s H E).env:=by rfl)
  (hpl:(backTo cpos (starEach es (cxF P w K mg base N qual scope f cd A outer s H E).env)).any (·.1)=false:=by rfl) :
  PS (cxF P w K mg base N qual scope f cd A outer s H E) (.Raise (some (.Call (.Name x np) (e::es) [] cpos)) none pos) (Gn E C t):=by
 intro pins s1 σ H1 D I h
 obtain ⟨nm,q,N,bs,bm,hdct,sn,sub,ab,col,dd,k0,k1,k2,k3,k5,mN,O⟩:=O.ex
 obtain ⟨_,_,hni,T0⟩:=O _ I.kIn
 refine wpAny_Raise_call_subU (C:=C) (nm:=nm) (q:=q) (N:=N) (bs:=bs) (bm:=bm) (hdct:=hdct) (sn:=sn) (sub:=sub) (ab:=ab) (col:=col) (dd:=dd) (k0:=k0) (k1:=k1) (k2:=k2) (k3:=k3) (k5:=k5)
  PySem.F.excBase_ValueError (by decide +kernel) PySem.F.excBase_ValueError (mN:=mN) (T0.tail.hasType PySem.F.excBase_ValueError.hasBase) (I.ok.hd rfl) (by rw [he];show (false || (backTo cpos (starEach es _)).any (·.1))=false;rw [hpl];rfl) (hni _ (.head _)) (qk I hg hm ⟨rfl,?_⟩ hdb)
 have ha':=ha cpos pins s1 σ H1 _ I h
 rw [he] at ha' ⊢
 refine Calls.evalArgs_plain (wpAny_mono ha' (fun us s2 h2=>?_) fun _ _ y=>y)
 obtain ⟨vs,H2,I2,rv,hlen,qE⟩:=h2
 obtain ⟨a1,a2,_,a4⟩:=O _ I2.kIn
 exact ⟨rfl,by rw [←rv.length];exact hlen,a1,a2,a4.tail,fun h' e hx=>ES I2 hx qE⟩
theorem Fun.okF {x qual:Str}{st:Stmt}{f:Addr}{fd:FuncData}{N ps:List Str}{k:Nat}{sp:Sp}(F:Fun K x qual st f fd)(S:ay N ps (aj st))(len:∀vs H Q E,sp vs H Q E->vs.length=ps.length)
  (hbody:∀(cdv:Value) (A:Around) (outer:List Env) (s:Shared) (H:Hp) (vs:List V) (Q:VK) (E:XK),dH k (A.deeper (envOfC qual (aj st) s.heap.objs.size f cdv))->sp vs H Q E->
   ∃t,PSs (cxF P w K mg base N qual (aj st) f cdv A outer s H E) (bH st) t/\t {nx:=fun _ H'=>Q .non H',rt:=Q} (mh N vs) H):fM P w K mg base (CXf P w) (k+1) f fd ps sp:=by
 obtain ⟨oc,od,kV,doc,pm,an,cdv,ct,osl,rfl,lk,hcd⟩:=F.ex
 refine Kj lk hcd S len fun A outer s H vs Q E hr hsp=>?_
 exact hbody cdv A outer s H vs Q E hr hsp
end
noncomputable abbrev XT:=Value->St->Hp->Prop
noncomputable def Xt (X:Cx)(pins:List (Addr×Obj))(E':XT):Cx:=
 {X with pn:=X.pn++pins,xe:=fun e s'=>∃σ H s,Inv X pins σ H s/\CXf X.prog X.w X.stack H s (fun cls _ H'=>E' cls σ H') e s'}
noncomputable def Xh (X:Cx)(e:Value):Cx:={X with A:=X.A.mark (some e),calm:=false,xe:=fun _ _=>False}
section
variable {X:Cx}{pins pins':List (Addr×Obj)}{σ:St}{H:Hp}{s:Shared}{E':XT}{e:Value}
theorem Cx.Ok.toT (ok:X.Ok):(Xt X pins E').Ok:=⟨ok.mod,ok.kind,ok.glob,ok.blt,ok.above,ok.inj,ok.has,ok.cab,ok.hd,ok.frames,ok.stk,ok.exf,ok.bs,ok.bsz,ok.noex,ok.exfs,ok.funs,ok.frf⟩
theorem Cx.Ok.ofT (ok:(Xt X pins E').Ok):X.Ok:=⟨ok.mod,ok.kind,ok.glob,ok.blt,ok.above,ok.inj,ok.has,ok.cab,ok.hd,ok.frames,ok.stk,ok.exf,ok.bs,ok.bsz,ok.noex,ok.exfs,ok.funs,ok.frf⟩
theorem Inv.toT (I:Inv X pins σ H s):Inv (Xt X pins E') [] σ H s:=⟨I.ok.toT,I.os,I.bare,I.base,I.loc,I.cell,I.free,I.freeC,fun p hp=>I.pin p (by simpa [Xt] using hp),I.hok,I.len⟩
theorem Inv.ofT (I:Inv (Xt X pins E') pins' σ H s):Inv X pins σ H s:=⟨I.ok.ofT,I.os,I.bare,I.base,I.loc,I.cell,I.free,I.freeC,fun p hp=>I.pin p (List.mem_append_left _ hp),I.hok,I.len⟩
theorem Inv.toH (I:Inv X pins σ H s):Inv (Xh X e) pins σ H s:=
 ⟨⟨I.ok.mod,I.ok.kind,I.ok.glob,I.ok.blt,I.ok.above,I.ok.inj,I.ok.has,I.ok.cab,fun z=>(Bool.false_ne_true z).elim,I.ok.frames,I.ok.stk,I.ok.exf,I.ok.bs,I.ok.bsz,I.ok.noex,I.ok.exfs,I.ok.funs,I.ok.frf⟩,I.os,I.bare,I.base,I.loc,I.cell,I.free,I.freeC,I.pin,I.hok,I.len⟩
theorem Inv.ofH (ok:X.Ok)(I:Inv (Xh X e) pins σ H s):Inv X pins σ H s:=⟨ok,I.os,I.bare,I.base,I.loc,I.cell,I.free,I.freeC,I.pin,I.hok,I.len⟩
theorem Inv.flown {H1:Hp}{s1:Shared}{h2:Heap}{B:Heap}(I:Inv X pins σ H s)(os:s1.os=s.os)(bare:AllBare s1.gens)(un:Un (frs X.stack) [] H H1 s.heap s1.heap)(hok:HOk X.prog X.w H1 s1.heap)
  (hB:∀b o,s1.heap.get? b=some o->(H1 b≠none\/∃o0,s.heap.get? b=some o0)->b∉frs X.stack->B.get? b=some o) (st:B.StaysIn h2) (hsl:s1.heap.UpToSlots h2):Inv X pins σ H1 {s1 with heap:=h2}:=by
 have frD:∀b∈frs X.stack,∃o,s.heap.get? b=some o/\∀vs,o.data≠.fields vs:=fun b hb=>(I.stack.mem hb).2
 have up:∀b∈frs X.stack,∀o,s.heap.get? b=some o->∃sl,h2.get? b=some {o with slots:=sl}:=fun b hb o e=>by
  obtain ⟨o',e',d⟩:=frD b hb
  rw [e] at e';cases e'
  obtain ⟨sl,q1⟩:=un.any (b:=b) e (I.stkFree b hb) (by intro z;exact nomatch z)
  obtain ⟨sl',q2⟩:=hsl b _ q1 d
  exact ⟨sl',q2⟩
 refine I.call' (s':={s1 with heap:=h2}) (ch:=[]) os ⟨fun b o e n hb _=>?_,fun b o e n hb _=>up b hb o e,un.free,fun b o e _=>?_,un.tups,un.frzs,un.tbls⟩ (fun b o e=>?_) bare fun b hb=>absurd hb (by simp)
 ·exact st b o (hB b o (un.keep b o e n hb (by intro z;exact nomatch z)) (.inr ⟨o,e⟩) hb)
 ·by_cases hb:b∈frs X.stack
  ·obtain ⟨sl,q⟩:=up b hb o e
   exact ⟨_,q⟩
  ·obtain ⟨o',e'⟩:=un.there b o e (by intro z;exact nomatch z)
   exact ⟨o',st b o' (hB b o' e' (.inr ⟨o,e⟩) hb)⟩
 ·have inB:∀c v,H1 c≠none->s1.heap.get? c=some v->h2.get? c=some v:=fun c v hc q=>st c v (hB c v q (.inl hc) fun z=>by
   obtain ⟨o',e',_⟩:=frD c z
   exact hc (un.free c o' e' (I.stkFree c z) (by intro z;exact nomatch z)))
  refine (hok b o e).stay (fun c v hc q=>inB c v ?_ q) (fun _ q=>q) fun _ _ q=>q
  rcases hc with z | z
  ·rw [z,e];simp
  ·rw [z];simp
noncomputable def IB (y:Addr)(cls:Value):HO:=.ext fun h=>∃o vs,h.get? y=some o/\o.cls=cls/\o.data=.fields vs
theorem ET {H1:Hp}{s1:Shared}{x:Addr}{cls:Value}{oe:Obj}{vs:Array Value}(I0:Inv X pins σ H s)(I:Inv X pins σ H1 s1)(hx:∀o,s.heap.get? x≠some o)(hx1:H1 x=none)(he:s1.heap.get? x=some oe)(hc:oe.cls=cls)(hd:oe.data=.fields vs)
  (hxl:x≠X.env.locals) (hxc:∀y c,X.env.cells.lookup y=some c->c≠x):Inv X pins σ (upd H1 x (IB x cls)) s1:=by
 have hb:∀b u,X.s₀.heap.get? b=some u->b∉X.ex->b≠x:=fun b u e hbx z=>by
  obtain ⟨o',e'⟩:=I0.base.there b u e hbx
  rw [z] at e'
  exact hx o' e'
 refine ⟨I.ok,I.os,I.bare,⟨I.base.keep,I.base.slot,fun b u e n hbx=>?_,I.base.there,fun b xs e=>?_,fun b u xs e=>?_,fun b ps e=>?_⟩,I.loc,I.cell,?_,fun y c e=>?_,fun p hpp=>?_,fun b u e=>?_,I.len⟩
 ·rw [aJ (hb b u e hbx)];exact I.base.free b u e n hbx
 ·have q:=I.base.tups b xs e;rw [aJ (ak q hx1)];exact q
 ·have q:=I.base.frzs b u xs e;rw [aJ (ak q hx1)];exact q
 ·obtain ⟨more,q⟩:=I.base.tbls b ps e;exact ⟨more,by rw [aJ (ak q hx1)];exact q⟩
 ·rw [aJ (Ne.symm hxl)];exact I.free
 ·rw [aJ (hxc y c e)];exact I.freeC y c e
 ·obtain ⟨a,b,c⟩:=I.pin p hpp
  refine ⟨a,?_,c⟩
  rw [aJ (fun z=>?_)];exact b
  have:=(I0.pin p hpp).1
  rw [z] at this
  exact hx _ this
 ·by_cases hbb:b=x
  ·subst hbb;rw [ag] at e;cases e
   exact ⟨⟨oe,vs,he,hc,hd⟩,⟨oe,he⟩,fun h1 h2 ⟨o,v,a,b,c⟩ k=>⟨o,v,k _ a,b,c⟩⟩
  ·rw [aJ hbb] at e
   exact (I.hok b u e).stay (fun c v _ q=>q) (fun c q=>by rw [aJ (ak q hx1)];exact q) fun c xs q=>by rw [aJ (ak q hx1)];exact q
theorem n8 {i:Nat}{n:Str}{pos:Pos}{A:Around}{M:Model}{Er:Value->Shared->Prop}{Q:Unit->Shared->Prop}(I:Inv X pins σ H s)(hN:X.N.Nodup)(hi:X.N[i]?=some n)(hk:X.env.scope.names.lookup n=some .local)
  (h:∀s',Inv X pins (σ.set i none) H s'->Q () s'):wpAny M A (do bindName X.env n .none;unbindBehindTheSuite X.env n pos) Q Er s:=by
 refine wpAny_bind (wpAny_bindName (kD (v:=V.non) I hN hi (.inl hk) rfl (fun s1 I1=>?_) (.inr hk)))
 unfold unbindBehindTheSuite
 refine wpAny_onRaise ?_
 obtain ⟨m,hn,hl⟩:=id I1.loc
 have hiσ:i < σ.length:=by rw [I.len];exact (List.getElem?_eq_some_iff.mp hi).1
 obtain ⟨u,ru,lk⟩:=hl i n .non hi (List.getElem?_set_self hiσ) (.inl hk)
 have hv:m n=some u:=by
  rcases lk with ⟨_,z⟩ | ⟨z,_⟩
  ·exact z
  ·have hk':X.env.kindOf n=some .local:=hk
   rcases z with z | z
   ·rw [hk'] at z;cases z
   ·rw [hk'] at z;cases z
 have hcls:(X.env.scope.kind == .class || (X.env.scope.kind == .module && X.env.locals != X.env.globals))=false:=by rw [I.ok.kind];rfl
 refine wpAny_unbindName_local hk hn hv hcls fun h' u' hn' hs=>?_
 have ne:∀b o,X.s₀.heap.get? b=some o->b≠X.env.locals:=fun b o e=>Nat.ne_of_lt (Nat.lt_of_lt_of_le (Heap.lt_size e) I.ok.above)
 refine h _ ⟨I1.ok,I1.os,I1.bare,⟨fun b o e n hb hx=>(hs.2 b (ne b o e)).trans (I1.base.keep b o e n hb hx),fun b o e n hb hx=>?_,I1.base.free,fun b o e hx=>?_,I1.base.tups,I1.base.frzs,I1.base.tbls⟩,⟨_,hn',fun j y v' e1 e2 e3=>?_⟩,fun y c e=>?_,I1.free,I1.freeC,fun p hp=>?_,fun b ob e=>?_,?_⟩
 ·obtain ⟨sl,e1⟩:=I1.base.slot b o e n hb hx
  exact ⟨sl,(hs.2 b (ne b o e)).trans e1⟩
 ·obtain ⟨o',e1⟩:=I1.base.there b o e hx
  exact ⟨o',(hs.2 b (ne b o e)).trans e1⟩
 ·by_cases hj:j=i
  ·subst hj
   rw [List.getElem?_set_self hiσ] at e2
   cases e2
  ·rw [List.getElem?_set_ne (Ne.symm hj)] at e2
   obtain ⟨u2,r2,q⟩:=hl j y v' e1 (by rw [List.getElem?_set_ne (Ne.symm hj)];exact e2) e3
   refine ⟨u2,r2,?_⟩
   rcases q with ⟨k,e⟩ | ⟨k,c,e,z⟩
   ·refine .inl ⟨k,?_⟩
    have:y≠n:=fun e=>hj (uR hN e1 (e▸hi))
    simp [this,e]
   ·exact .inr ⟨k,c,e,z.sameBut hs (I1.cne y c e)⟩
 ·obtain ⟨w',z⟩:=I1.cell y c e
  exact ⟨w',z.sameBut hs (I1.cne y c e)⟩
 ·obtain ⟨e,n,ne',nf,d⟩:=I1.pin p hp
  exact ⟨(hs.2 p.1 ne').trans e,n,ne',nf,d⟩
 ·refine (I1.hok b ob e).stay (fun c w' hc q=>(hs.2 c ?_).trans q) (fun _ q=>q) fun _ _ q=>q
  rintro rfl
  rcases hc with z | z
  ·rw [←z,I1.free] at e;cases e
  ·rw [I1.free] at z;cases z
 ·rw [List.length_set];exact I.len
end
section
variable {X:Cx}
noncomputable def MZ (K:WA)(C:Addr)(i:Nat)(tb:XT->TS)(th:TS):TS:=fun D σ H=>
 tb (fun cls σ' H'=>W.exmOne K cls (.ref C)=some true/\∀y,H' y=none->
  th {nx:=fun σ H=>D.nx (σ.set i none) H,rt:=D.rt,bk:=fun σ H=>D.bk (σ.set i none) H,ct:=fun σ H=>D.ct (σ.set i none) H} (σ'.set i (some (.ref y))) (upd H' y (IB y cls))) D σ H
theorem LF {body suite:List Stmt}{b₀:Stmt}{x n:Str}{C:Addr}{i:Nat}{tb:XT->TS}{th:TS}{np hpos pos:Pos}(hst:X.stack=X.env::X.outer)(hfr:X.env.frame=some X.env.locals)
  (hb:∀pins E',PSs (Xt X pins E') body (tb E')) (hh:∀e,PSs (Xh X e) (b₀::suite) th) (hN:X.N.Nodup) (hi:X.N[i]?=some n) (hk:X.env.scope.names.lookup n=some .local) (hg:Gl X x) (hm:X.mg x=some (.ref C))
  (hdb:(x == ("__debug__":Str))=false:=by decide):PS X (.Try body [.ExceptHandler (some (.Name x np)) (some n) (b₀::suite) hpos] [] [] pos) (MZ X.K C i tb th):=by
 intro pins s σ H D I h
 refine wpAny_Try_except (wpAny_mono (hb pins _ [] s σ H D I.toT h) (fun f s1 h1=>?_) fun e s1 h1=>?_)
 ·cases f with
  | next=>obtain ⟨σ',H',J,q⟩:=h1;exact wpAny_execs_nil ⟨σ',H',J.ofT,q⟩
  | brk=>obtain ⟨σ',H',J,q⟩:=h1;exact ⟨σ',H',J.ofT,q⟩
  | cont=>obtain ⟨σ',H',J,q⟩:=h1;exact ⟨σ',H',J.ofT,q⟩
  | ret u=>obtain ⟨v,σ',H',J,r,q⟩:=h1;exact ⟨v,σ',H',J.ofT,r,q⟩
 ·obtain ⟨σ0,H0,s0,I0,y,cls,a0,H1,B,rfl,os,bare,un,hok,hfl,hB,hx,hx1,em,q⟩:=h1
  have frames:X.A.frames=some (X.env::X.outer):=by rw [←hst];exact I0.ok.frames
  rw [hst] at hfl
  refine wpAny_looks_onW frames hfr hfl fun h4 held4 sm4=>wpAny_landsW held4 fun h5 fl5 sm5=>?_
  have I5:Inv X pins σ0 H1 {s1 with heap:=h5}:=I0.flown os bare un hok hB fl5.1 (sm4.trans sm5)
  refine wpAny_handleBy_cons (codeAny_handlers_test (qk (X:=Xh X (.ref y)) (I5.toH) hg hm ?_ hdb)) (by intro q;cases q)
  obtain ⟨ob,hob,hobc⟩:=fl5.there
  have LT:W.Looks (model X.prog X.w) h5 (typeOf (.ref y)) cls:=hobc▸(W.Looks.ld hob).andThen .now
  refine (W.exm_one (M:=model X.prog X.w) I5.kIn LT em) _ _ _ _ (fun _ _ e=>e) ?_
  refine codeAny_handlers_suite_as ?_
  refine lands_againW fl5 fun h6 fl6 sm6=>?_
  have I6:Inv X pins σ0 H1 {s1 with heap:=h6}:=I0.flown os bare un hok hB fl6.1 ((sm4.trans sm5).trans sm6)
  obtain ⟨_,_,_,oe,vs,T,oT,ts,he,hc,hd,_⟩:=id fl6
  have hyl:y≠X.env.locals:=fun z=>by
   obtain ⟨m,⟨o,es,ep,ho,hod,_⟩,_⟩:=I0.loc
   rw [←z] at ho
   exact hx o ho
  have hyc:∀z c,X.env.cells.lookup z=some c->c≠y:=fun z c e t=>by
   obtain ⟨v,o,ho,_⟩:=I0.cell z c e
   rw [t] at ho
   exact hx o ho
  have I6t:=ET (s1:={s1 with heap:=h6}) I0 I6 hx hx1 he hc.1 hd hyl hyc
  refine kD (X:=Xh X (.ref y)) (v:=V.ref y) (I6t.toH) hN hi (.inl hk) rfl (fun s7 I7=>?_) (.inr hk)
  refine wpAny_mono (hh (.ref y) pins s7 _ _ _ I7 (q y hx1)) (fun f s8 h8=>?_) fun _ _ z=>z.elim
  cases f with
  | next=>obtain ⟨σ8,H8,J,q8⟩:=h8;exact n8 (J.ofH I.ok) hN hi hk fun s9 J9=>⟨_,_,J9,q8⟩
  | brk=>obtain ⟨σ8,H8,J,q8⟩:=h8;exact n8 (J.ofH I.ok) hN hi hk fun s9 J9=>⟨_,_,J9,q8⟩
  | cont=>obtain ⟨σ8,H8,J,q8⟩:=h8;exact n8 (J.ofH I.ok) hN hi hk fun s9 J9=>⟨_,_,J9,q8⟩
  | ret u=>obtain ⟨v,σ8,H8,J,r,q8⟩:=h8;exact n8 (J.ofH I.ok) hN hi hk fun s9 J9=>⟨v,_,_,J9,r,q8⟩
end
end L2
namespace L2
open PySem PySem.W PySem.Spec PyProof.Rows
structure ExI (K:Frag)(C:Addr):Prop where
 ex:ExC K C
 ca:findIn K (.ref C) "__class__"=some (some (.builtin "object.__class__"))
 mo:mroIn K C (.type "object")=some true
section
variable {prog:Program}{w:World}{A:Around}{E:Value->Shared->Prop}{h:Heap}{g:Array GenState}{d:Drawn}{t:Nat}{os:OsState}{a:Addr}{o:Obj}{vs:Array Value}{K:Frag}{C:Addr}
theorem IC {R:Result->Shared->Prop}{tp:Value}(X:K.In h)(O:ExI K C)(hx:h.get? a=some o)(hc:o.cls=.ref C)(hq:R (.ok (.ret (.ref C))) ⟨h,g,d,t,os⟩) :
  codeAny (model prog w) A (.call (.builtin "getset_descriptor.__get__") ⟨[.builtin "object.__class__",.ref a,tp],[]⟩) R ⟨h,g,d,t,os⟩:=by
 have L0:Looks (model prog w) h (typeOf (.ref a)) (.ref C):=hc▸(Looks.ld hx).andThen .now
 have L1:=looks_mroIn (M:=model prog w) X O.mo
 refine codeAny_call_builtin KF.slot_gs.plain KF.entry_gs (KF.slot_gs.check _ _ _ _ _ _ _ _ KF.type_class (KF.args_gs _ _ _) ?_)
 unfold Builtin.«getset_descriptor.__get__» Builtin.Getset_descriptor.descrGet
 rw [dga_obj]
 refine wpAny_bind (wpAny_pure ?_)
 unfold Builtin.Getset_descriptor.descrGetter Builtin.Getset_descriptor.descrCheckInstance Builtin.Getset_descriptor.descrNameAndClass isInstance
 simp only [KF.owner_class]
 repeat lk
 refine ⟨Code.quiet_builtin _ (by decide +kernel),codeAny_builtin KF.entry_class ?_⟩
 unfold Builtin.«object.__class__» shownTypeOf
 repeat lk
 exact hq
theorem EU {tk:Tok}{Q:PySem.Fin->Shared->Prop}(X:K.In h)(O:ExI K C)(hx:h.get? a=some o)(hc:o.cls=.ref C)(hq:Q (.done (.ret (.ref C))) ⟨h,g,d,t,os⟩) :
  wpAny (model prog w) A (Builtin.«object.__getattribute__» ⟨[.ref a,.str "__class__" tk],[]⟩) Q E ⟨h,g,d,t,os⟩:=by
 have L2:=looks_findIn (M:=model prog w) X O.ca
 have f5:=KF.type_class
 have f6:=KF.slot_gs.lookup
 have f7:=PySem.F.slot_gs_set.lookup
 repeat (any_goals (first | assumption | (with_reducible refine wpAny_loadPart_at hx ?_;rw [hc]) | with_reducible refine L2.at ?_ | wp_step))
 refine IC X O hx hc ?_
 repeat (any_goals (first | assumption | wp_step))
theorem Gp {tk:Tok}{R:Result->Shared->Prop}(X:K.In h)(O:ExI K C)(hx:h.get? a=some o)(hc:o.cls=.ref C)(hq:R (.ok (.ret (.ref C))) ⟨h,g,d,t,os⟩) :
  codeAny (model prog w) A (.call (.builtin "BaseException.__getattribute__") ⟨[.ref a,.str "__class__" tk],[]⟩) R ⟨h,g,d,t,os⟩:=by
 obtain ⟨nm,q,N,bs,bm,hdct,sn,sub,ab,col,dd,k0,k1,k2,k3,k5,mN,Oe⟩:=O.ex.ex
 obtain ⟨hC,hN,hmN,T⟩:=Oe h X
 exact codeAny_call_builtin PySem.F.attrBase_ValueError.ga.plain PySem.F.entry_bexc_ga (wpAny_check_ga_own PySem.F.attrBase_ValueError hC T hx hc (EU X O hx hc hq))
theorem LG {tk:Tok}{fill expr:Bool}{Q:Value->Shared->Prop}(X:K.In h)(O:ExI K C)(hx:h.get? a=some o)(hc:o.cls=.ref C)(hq:Q (.ref C) ⟨h,g,d,t,os⟩) :
  wpAny (model prog w) A (getAttrBy (.ref a) (.str "__class__" tk) fill expr) Q E ⟨h,g,d,t,os⟩:=by
 obtain ⟨nm,q,N,bs,bm,hdct,sn,sub,ab,col,dd,k0,k1,k2,k3,k5,mN,Oe⟩:=O.ex.ex
 obtain ⟨hC,hN,hmN,T⟩:=Oe h X
 have FB:=PySem.F.attrBase_ValueError
 have f3:=FB.ga.bind (.ref a)
 have hx0:(expr && onTheHeap (Value.builtin "BaseException.__getattribute__"))=false:=by cases expr<;>rfl
 have hx2:(Value.builtin "BaseException.__getattribute__" == Value.builtin "object.__getattribute__")=false:=by decide +kernel
 have hx1:(onTheHeap (Value.ref C) && Value.builtin "BaseException.__getattribute__" == Value.builtin "object.__getattribute__")=false:=by rw [hx2];rfl
 have hm1:("__getattribute__":Str)∈quietNames:=.tail _ (.head _)
 have hm2:("__getattr__":Str)∈quietNames:=.tail _ (.tail _ (.head _))
 repeat (any_goals (first | assumption | (with_reducible refine wpAny_loadPart_at hx ?_;rw [hc]) | with_reducible refine wpAny_typeLookup_tailQ hm1 hC hN hmN T FB.mro FB.ga.lookup ?_ | with_reducible refine wpAny_typeLookup_tailQ hm2 hC hN hmN T FB.mro FB.noGetattr ?_ | wp_step))
 refine Gp X O hx hc ?_
 repeat (any_goals (first | assumption | wp_step))
theorem Gq {Q:Option Value->Shared->Prop}(X:K.In h)(O:ExI K C)(hx:h.get? a=some o)(hc:o.cls=.ref C)(hq:Q (some (.ref C)) ⟨h,g,d,t+1,os⟩) :
  wpAny (model prog w) A (getAttr? (.ref a) "__class__") Q E ⟨h,g,d,t,os⟩:=by
 unfold getAttr? getAttrBy?
 repeat (any_goals (first | assumption | with_reducible apply LG X O hx hc | wp_step))
theorem Gr (O:ExI K C):KitX K (.ref a) (.ref C) (fun h=>∃o vs,h.get? a=some o/\o.cls=.ref C/\o.data=.fields vs) where
 ty:=fun _ _ _ ⟨o,vs,h1,h2,_⟩=>h2▸(Looks.ld h1).andThen .now
 it:=fun M h X _=>by
  obtain ⟨nm,q,N,bs,bm,hdct,sn,sub,ab,col,dd,k0,k1,k2,k3,k5,mN,Oe⟩:=O.ex.ex
  obtain ⟨hC,_⟩:=Oe h X
  intro A' Q' E' s' k q
  unfold isType loadHead
  exact wpAny_bind (wpAny_loadPart (k _ _ hC) (wpAny_pure q))
 ne:=fun h tp dd its n sl X htp=>by
  obtain ⟨nm,q,N,bs,bm,hdct,sn,sub,ab,col,dd',k0,k1,k2,k3,k5,mN,Oe⟩:=O.ex.ex
  obtain ⟨hC,_⟩:=Oe h X
  refine Bool.eq_false_iff.mpr fun q=>?_
  have e:C=tp:=Value.ref.inj (beq_iff_eq.mp q)
  subst e
  have z:=congrArg Obj.data (Option.some.inj (hC.symm.trans htp))
  exact nomatch z
 ca:=fun {_ _ _ _ _ s} X ⟨o,vs,h1,h2,_⟩ k=>by
  obtain ⟨h,g,d,t,os⟩:=s
  exact Gq X O h1 h2 k
end
noncomputable def EV:V->Value
 | .ref a=>.ref a
 | .ty n=>.type n
 | _=>.none
noncomputable def Gs (K:Frag):List V->Hp->VK->Prop:=fun xs H Q=>∃y c C b,xs=[.ref y,c]/\EV c≠.none/\H y=some (IB y (.ref C))/\ExI K C/\kitOne K (.ref C) (EV c)=some b/\Q (.bl b) H
theorem u7 {X:Cx}:ez X (.builtin "isinstance") (Gs X.K):=by
 intro pins s σ H xs us Q I r h
 obtain ⟨y,c,C,b,rfl,hc,hy,O,e,q⟩:=h
 obtain ⟨u,v,rfl,ru,rv⟩:=DH r
 cases ru
 have hv:v=EV c:=by
  cases c with
  | ref a=>exact rv
  | ty n=>exact rv
  | _=>exact absurd rfl hc
 rw [hv]
 obtain ⟨φ,_,_⟩:=I.hok y _ hy
 exact kia_one (Gr O) I.kIn φ e (fun z=>nomatch z) fun tk=>⟨.bl b,H,I.tok tk,rfl,q⟩
end L2
namespace L2
open PySem PySem.Spec PyProof.Rows
theorem dD {X:Cx}{x:Str}{v:V}{pos:Pos}(hg:Gl X x)(h:∃u,X.mg x=some u/\bK v u)(hd:(x == ("__debug__":Str))=false:=by decide):PE X (.Name x pos) (tC v):=
 let ⟨_,hm,r⟩:=h
 uF hg hm r hd
theorem ze {K:WA}{H:Hp}{Q:VK}{y C:Addr}{c:V}{b:Bool}(hy:H y=some (IB y (.ref C)))(O:ExI K C)(e:W.kitOne K (.ref C) (EV c)=some b)(hc:EV c≠.none)(q:Q (.bl b) H):Gs K [.ref y,c] H Q:=
 ⟨y,c,C,b,rfl,hc,hy,O,e,q⟩
theorem fP {a:Addr}:EV (.ref a)≠.none:=by intro h;cases h
noncomputable def eqL:List V->List V->Bool
 | [],[]=>true
 | x::xs,y::ys=>eqV x y && eqL xs ys
 | _,_=>false
theorem uI:∀{xs ys:List V},eqL xs ys=true->xs.length=ys.length
 | [],[],_=>rfl
 | _::_,_::_,h=>by
  unfold eqL at h
  rw [Bool.and_eq_true] at h
  simp [uI h.2]
 | [],_::_,h=>by cases h
 | _::_,[],h=>by cases h
noncomputable def LH (K:WA):R2:=fun x y H Q=>∃a b xs ys,x=.ref a/\y=.ref b/\SqL K H a xs/\SqL K H b ys/\xs.all bO=true/\ys.all bO=true/\Q (.bl (eqL xs ys)) H
theorem uJ:∀{xs ys:List V},xs.length=ys.length->(List.range xs.length).all (fun j=>eqV (xs.getD j .non) (ys.getD j .non))=eqL xs ys
 | [],[],_=>rfl
 | x::xs,y::ys,h=>by
  have ih:=uJ (xs:=xs) (ys:=ys) (by simpa using h)
  rw [List.length_cons,List.range_succ_eq_map,List.all_cons,List.all_map]
  show (eqV x y && (List.range xs.length).all (fun j=>eqV (xs.getD j .non) (ys.getD j .non)))=(eqV x y && eqL xs ys)
  rw [ih]
 | [],_::_,h=>by simp at h
 | _::_,[],h=>by simp at h
theorem LI {X:Cx}(hu:X.A.units < cLine):OpR X (compareOp .Eq) (LH X.K):=by
 intro pins s σ H x y u v Q I rx ry h
 obtain ⟨a,b,xs,ys,rfl,rfl,ha,hb,fa,fb,q⟩:=h
 cases rx;cases ry
 obtain ⟨ia,ra,pa,za⟩:=I.list ha
 obtain ⟨ib,rb,pb,zb⟩:=I.list hb
 have la:=ra.length
 have lb:=rb.length
 by_cases hl:xs.length=ys.length
 ·refine PySem.SeqAt.eq_listAt (e:=fun j=>eqV (xs.getD j .non) (ys.getD j .non)) pa.isList pb.isList (by simp only [List.size_toArray];omega) hu (fun j h1 h2=>?_) ?_
  ·simp only [List.size_toArray] at h1 h2
   have hx:xs[j]?=some (xs.getD j .non):=by
    rw [List.getD_eq_getElem?_getD,List.getElem?_eq_getElem (by omega)];rfl
   have hy:ys[j]?=some (ys.getD j .non):=by
    rw [List.getD_eq_getElem?_getD,List.getElem?_eq_getElem (by omega)];rfl
   obtain ⟨u,eu,ru⟩:=ra.get hx
   obtain ⟨v,ev,rv⟩:=rb.get hy
   have e1:ia.toArray[j]=u:=by
    have:=List.getElem?_eq_some_iff.mp eu
    simpa using this.2
   have e2:ib.toArray[j]=v:=by
    have:=List.getElem?_eq_some_iff.mp ev
    simpa using this.2
   rw [e1,e2]
   exact rZ ru rv (List.all_eq_true.mp fa _ (List.mem_of_getElem? hx)) (List.all_eq_true.mp fb _ (List.mem_of_getElem? hy))
  ·have e:(List.range ia.toArray.size).all (fun j=>eqV (xs.getD j .non) (ys.getD j .non))=eqL xs ys:=by
    rw [List.size_toArray,←la]
    exact uJ hl
   rw [e]
   exact ⟨.bl (eqL xs ys),H,I,rfl,q⟩
 ·refine PySem.SeqAt.eq_list_lengthsAt pa.isList pb.isList (by simp only [List.size_toArray,bne_iff_ne,ne_eq];omega) hu ?_
  have e:eqL xs ys=false:=by
   cases z:eqL xs ys with
   | false=>rfl
   | true=>exact absurd (uI z) hl
  rw [e] at q
  exact ⟨.bl false,H,I,rfl,q⟩
end L2
namespace L2
theorem cf.of {ds:List Int}(l2:2<=ds.length)(l6:ds.length<=6)(b:∀i,i < ds.length->0<=ds.getD i 0/\ds.getD i 0<=500)(u:∀i,i+1 < ds.length->ds.getD i 0 < ds.getD (i+1) 0):cf ds:=by
 have get:∀i (h:i < ds.length),ds[i]=ds.getD i 0:=fun i h=>by rw [List.getD_eq_getElem?_getD,List.getElem?_eq_getElem h];rfl
 have up:∀k i,i+k+1 < ds.length->ds.getD i 0 < ds.getD (i+k+1) 0:=by
  intro k
  induction k with
  | zero=>intro i h;exact u i h
  | succ k ih=>
   intro i h
   have h1:=ih i (by omega)
   have h2:=u (i+k+1) (by omega)
   rw [show i+(k+1)+1=i+k+1+1 by omega]
   omega
 refine ⟨l2,l6,fun d hd=>?_,fun d hd=>?_,List.pairwise_iff_getElem.mpr fun i j hi hj hij=>?_⟩
 ·obtain ⟨i,hi,rfl⟩:=List.getElem_of_mem hd
  rw [get i hi];exact (b i hi).1
 ·obtain ⟨i,hi,rfl⟩:=List.getElem_of_mem hd
  rw [get i hi];exact (b i hi).2
 ·rw [get i hi,get j hj]
  have:=up (j - i - 1) i (by omega)
  rw [show i+(j - i - 1)+1=j by omega] at this
  exact this
end L2
namespace L2
end L2
namespace L2
open PySem PySem.W PySem.Spec PyProof.Rows
noncomputable def u9:V->Option String
 | .non=>some "NoneType"
 | .bl _=>some "bool"
 | .int _=>some "int"
 | .str _=>some "str"
 | _=>none
def TyX (K:Frag)(H:Hp)(x:V)(T:String):Prop:=u9 x=some T\/(∃a xs,x=.ref a/\SqL K H a xs/\T="list")\/∃a xs,x=.ref a/\SqT K H a xs/\T="tuple"
noncomputable def jB:List String:=["NoneType","bool","int","str","list","tuple"]
noncomputable def Aq (T n:String):Bool:=T == n || (T == "bool" && n == "int")
theorem DU {K:Frag}{T n:String}(hT:T∈jB)(hn:n∈jB):kitOne K (.type T) (.type n)=some (Aq T n):=by
 simp only [jB,List.mem_cons,List.not_mem_nil,or_false] at hT hn
 rcases hT with rfl | rfl | rfl | rfl | rfl | rfl<;>rcases hn with rfl | rfl | rfl | rfl | rfl | rfl<;>with_unfolding_all rfl
theorem DV {K:Frag}{T:String}(hT:T∈jB):∀{ns:List String},(∀n∈ns,n∈jB)->kitAny K (.type T) (ns.map Value.type)=some (ns.any (Aq T))
 | [],_=>rfl
 | n::r,h=>by
  have ih:=DV (K:=K) hT (ns:=r) fun m hm=>h m (List.mem_cons_of_mem _ hm)
  rw [List.map_cons,List.any_cons]
  unfold kitAny
  rw [DU hT (h n List.mem_cons_self)]
  cases e:Aq T n with
  | true=>rfl
  | false=>rw [Bool.false_or];exact ih
section
variable {X:Cx}{pins:List (Addr×Obj)}{σ:St}{H:Hp}{s:Shared}
theorem xZ {K:Frag}{x:V}{T:String}(h:TyX K H x T):T∈jB:=by
 rcases h with h | ⟨_,_,_,_,rfl⟩ | ⟨_,_,_,_,rfl⟩
 ·cases x<;>simp only [u9,Option.some.injEq,reduceCtorEq] at h<;>subst h<;>decide
 ·decide
 ·decide
theorem Ar (I:Inv X pins σ H s){x:V}{u:Value}{T:String}(rx:bK x u)(ty:TyX X.K H x T):∃φ:Heap->Prop,KitX X.K u (.type T) φ/\φ s.heap/\u≠.builtin "__main__.__loader__#opaque":=by
 rcases ty with h | ⟨a,xs,rfl,h,rfl⟩ | ⟨a,xs,rfl,h,rfl⟩
 ·cases x with
  | non=>cases rx;cases h;exact ⟨_,kitx_none,trivial,fun z=>nomatch z⟩
  | bl b=>cases rx;cases h;exact ⟨_,kitx_bool,trivial,fun z=>nomatch z⟩
  | int i=>obtain ⟨t,rfl⟩:=rx;cases h;exact ⟨_,kitx_int,trivial,fun z=>nomatch z⟩
  | str i=>obtain ⟨t,rfl⟩:=rx;cases h;exact ⟨_,kitx_str,trivial,fun z=>nomatch z⟩
  | _=>cases h
 ·cases rx
  obtain ⟨its,r,pl,hz⟩:=I.list h
  obtain ⟨o,ho,hc,_⟩:=pl.isList
  exact ⟨_,kitx_list,⟨o,ho,hc⟩,fun z=>nomatch z⟩
 ·cases rx
  obtain ⟨its,r,⟨o,ho,hc,_⟩,hz⟩:=I.tuple h
  exact ⟨_,kitx_tuple,⟨o,ho,hc⟩,fun z=>nomatch z⟩
noncomputable def M0 (K:Frag):List V->Hp->VK->Prop:=fun xs H Q=>∃x n T,xs=[x,.ty n]/\TyX K H x T/\n∈jB/\Q (.bl (Aq T n)) H
theorem iL:ez X (.builtin "isinstance") (M0 X.K):=by
 intro pins s σ H xs us Q I r h
 obtain ⟨x,n,T,rfl,ty,hn,q⟩:=h
 obtain ⟨u,v,rfl,ru,rv⟩:=DH r
 cases rv
 obtain ⟨φ,Z,p,ne⟩:=Ar I ru ty
 exact kia_one Z I.kIn p (DU (xZ ty) hn) ne fun tk=>⟨.bl _,H,I.tok tk,rfl,q⟩
noncomputable def M3 (K:Frag):List V->Hp->VK->Prop:=fun xs H Q=>∃(x:V) (tp:Addr) (ns:List String) (T:String),xs=[x,.ref tp]/\SqT K H tp (ns.map V.ty)/\TyX K H x T/\(∀n∈ns,n∈jB)/\Q (.bl (ns.any (Aq T))) H
theorem DW:∀{ns:List String} {its:List Value},br (ns.map V.ty) its->its=ns.map Value.type
 | [],_,h=>by cases h;rfl
 | n::r,_,h=>by
  cases h with
  | cons a b=>rw [DW b];cases a;rfl
theorem r9:ez X (.builtin "isinstance") (M3 X.K):=by
 intro pins s σ H xs us Q I r h
 obtain ⟨x,tp,ns,T,rfl,ht,ty,hn,q⟩:=h
 obtain ⟨u,v,rfl,ru,rv⟩:=DH r
 cases rv
 obtain ⟨φ,Z,p,ne⟩:=Ar I ru ty
 obtain ⟨its,rt,⟨o,ho,hc,n,hd⟩,hz⟩:=I.tuple ht
 obtain rfl:=DW rt
 obtain ⟨c,d,dt,sl⟩:=o
 dsimp only at hc hd
 subst hc hd
 exact kia_tup Z I.kIn p ho (DV (xZ ty) hn) ne fun tk=>⟨.bl _,H,I.tok tk,rfl,q⟩
end
inductive Dt where
 | flat (v:V)
 | lst (ds:List Dt)
 | tup (ds:List Dt)
inductive Rep (K:Frag)(H:Hp):Nat->V->Dt->Prop
 | flat {n:Nat} {v:V} (h:bO v=true):Rep K H n v (.flat v)
 | lst {n:Nat} {a:Addr} {xs:List V} {ds:List Dt} (hs:SqL K H a xs) (hb:xs.length<=100000) (hl:xs.length=ds.length) (hr:∀(i:Nat) x d,xs[i]?=some x->ds[i]?=some d->Rep K H n x d):Rep K H (n+1) (.ref a) (.lst ds)
 | tup {n:Nat} {a:Addr} {xs:List V} {ds:List Dt} (hs:SqT K H a xs) (hb:xs.length<=100000) (hl:xs.length=ds.length) (hr:∀(i:Nat) x d,xs[i]?=some x->ds[i]?=some d->Rep K H n x d):Rep K H (n+1) (.ref a) (.tup ds)
theorem aq.tup {K:Frag}{H H':Hp}{a:Addr}{xs:List V}(e:aq H H')(h:SqT K H a xs):SqT K H' a xs:=by
 rcases h with (h | ⟨o,h⟩) | h
 ·exact .inl (.inl (e _ _ h))
 ·exact .inl (.inr ⟨o,e _ _ h⟩)
 ·exact .inr h
theorem Rep.same {K:Frag}{H H':Hp}(s:aq H H'){n:Nat}{x:V}{d:Dt}(h:Rep K H n x d):Rep K H' n x d:=by
 induction h with
 | flat h=>exact .flat h
 | lst hs hb hl _ ih=>exact .lst (s.seq hs) hb hl ih
 | tup hs hb hl _ ih=>exact .tup (s.tup hs) hb hl ih
theorem Gu {P:Program}{w:World}{K:Frag}{mg:Str->Option Value}{base:Heap}{CX:CXT}{k:Nat}{f:Addr}{fd:FuncData}{ps:List Str}:fM P w K mg base CX k f fd ps (fun _ _ _ _=>False):=
 ⟨fun _ _ _ _ h=>h.elim,fun _ _ _ _ _ _ _ _ _ _ _ _ _ h=>h.elim⟩
theorem lu {α:Type}{xs:List α}{k:Nat}{v:α}(h:xs[k]?=some v):atI xs (k:Int)=some v:=DM h
end L2
namespace L2
open PySem PySem.Spec PyProof.Rows
noncomputable abbrev Ld:=Str×Int×Int
noncomputable def ldV (x:Ld):List V:=[.str x.1,.int x.2.1,.int x.2.2]
def jQ (K:WA)(H:Hp)(as:List Addr)(ls:List Ld):Prop:=as.length=ls.length/\∀(i:Nat) a x,as[i]?=some a->ls[i]?=some x->SqT K H a (ldV x)
def fv (K:WA)(H:Hp)(l:Addr)(ls:List Ld):Prop:=∃as:List Addr,SqL K H l (as.map V.ref)/\jQ K H as ls
def iU (m:Int)(x:Ld):Prop:=(0<=x.2.1/\x.2.1 < m)/\(0<=x.2.2/\x.2.2 < m)
def Cu (x:Ld):Prop:=x.1="men"\/x.1="coal"
theorem jQ.same {K:WA}{H H':Hp}{as:List Addr}{ls:List Ld}(s:aq H H')(h:jQ K H as ls):jQ K H' as ls:=⟨h.1,fun i a x e1 e2=>s.tup (h.2 i a x e1 e2)⟩
theorem fv.same {K:WA}{H H':Hp}{l:Addr}{ls:List Ld}(s:aq H H')(h:fv K H l ls):fv K H' l ls:=by
 obtain ⟨as,a,b⟩:=h
 exact ⟨as,s.seq a,b.same s⟩
theorem jQ.nil {K:WA}{H:Hp}:jQ K H [] []:=⟨rfl,fun i a x e _=>by simp at e⟩
theorem jQ.app {K:WA}{H:Hp}{as bs:List Addr}{ls ks:List Ld}(h:jQ K H as ls)(g:jQ K H bs ks):jQ K H (as++bs) (ls++ks):=by
 refine ⟨by rw [List.length_append,List.length_append,h.1,g.1],fun i a x e1 e2=>?_⟩
 by_cases hi:i < as.length
 ·rw [List.getElem?_append_left hi] at e1
  rw [List.getElem?_append_left (by rw [←h.1];exact hi)] at e2
  exact h.2 i a x e1 e2
 ·rw [List.getElem?_append_right (by omega)] at e1
  rw [List.getElem?_append_right (by rw [←h.1];omega),←h.1] at e2
  exact g.2 _ a x e1 e2
theorem jQ.one {K:WA}{H:Hp}{a:Addr}{x:Ld}(h:SqT K H a (ldV x)):jQ K H [a] [x]:=by
 refine ⟨rfl,fun i b y e1 e2=>?_⟩
 cases i with
 | zero=>cases e1;cases e2;exact h
 | succ i=>simp at e1
theorem SqT.rew {K:WA}{H:Hp}{a l:Addr}{xs ys:List V}{o:HO}(h:SqT K H a xs)(hl:H l=some (.lst ys)):SqT K (upd H l o) a xs:=by
 rcases h with (h | ⟨o',h⟩) | h
 ·refine .inl (.inl ?_)
  rw [aJ (fun e=>by rw [e,hl] at h;cases h)];exact h
 ·refine .inl (.inr ⟨o',?_⟩)
  rw [aJ (fun e=>by rw [e,hl] at h;cases h)];exact h
 ·exact .inr h
theorem jQ.rew {K:WA}{H:Hp}{as:List Addr}{ls:List Ld}{l:Addr}{ys:List V}{o:HO}(h:jQ K H as ls)(hl:H l=some (.lst ys)):jQ K (upd H l o) as ls:=⟨h.1,fun i a x e1 e2=>(h.2 i a x e1 e2).rew hl⟩
theorem Gv {r:Int}(h0:0<=r)(h1:r < 2):∃k:Str,(k="men"\/k="coal")/\atI [V.str "men",V.str "coal"] r=some (.str k):=by
 rcases (by omega:r=0\/r=1) with rfl | rfl
 ·exact ⟨"men",.inl rfl,rfl⟩
 ·exact ⟨"coal",.inr rfl,rfl⟩
theorem mI {J:It}{g:TG}{tc:TT}{te:TE}{cm:List (Option Nat)}{σ:St}{Q:VK}{H:Hp}(n:Nat)(Pv:Nat->List V->Hp->Prop)(h0:Pv 0 [] H)
  (hgo:∀i acc H,i < n->Pv i acc H->J.go i H) (hst:∀acc H,Pv n acc H->J.stop n H)
  (hs:∀i acc H,i < n->Pv i acc H->acc.length < sizeLine/\∀x H',J.yld i H x H'->∀M:List V->Hp->Prop,(∀acc' H',Pv (i+1) acc' H'->M acc' H')->g x (cA cm σ) H' fun σ2 H2=>Wk (cA cm σ) σ2/\tc σ2 H2 fun b H3=>if b=true then te σ2 H3 fun v H4=>M (acc++[v]) H4 else M acc H3)
  (hd:∀acc H,Pv n acc H->∀p,H p=none->Q (.ref p) (upd H p (.lst acc))):oF J g tc te cm σ Q H:=by
 refine ⟨fun i m acc H=>m=n - i/\i<=n/\Pv i acc H,⟨n,by simp,Nat.zero_le _,h0⟩,?_⟩
 rintro i m acc H ⟨rfl,hi,p⟩
 by_cases hlt:i < n
 ·obtain ⟨hz,q⟩:=hs i acc H hlt p
  refine .inr ⟨hgo i acc H hlt p,hz,fun x H' y=>q x H' y (fun acc' H4=>∃m',m' < n - i/\m'=n - (i+1)/\i+1<=n/\Pv (i+1) acc' H4) fun acc' H4 q=>⟨n - (i+1),by omega,rfl,hlt,q⟩⟩
 ·have e:i=n:=by omega
  subst e
  exact .inl ⟨hst acc H p,hd acc H p⟩
theorem Cv {σ:St}{j:Nat}{x:V}(hj:σ[j]?=some none):Wk σ (σ.set j (some x)):=by
 refine ⟨by simp,fun k v e=>?_⟩
 by_cases hk:j=k
 ·subst hk;rw [hj] at e;cases e
 ·rw [List.getElem?_set_ne hk];exact e
theorem ly {lo:Int}{n:Nat}{te:TE}{cm:List (Option Nat)}{σ:St}{H:Hp}{Q:VK}(Pv:Nat->List V->Hp->Prop)(h0:Pv 0 [] H){j:Nat}(hj:(cA cm σ)[j]?=some none)
  (hs:∀i acc H,i < n->Pv i acc H->acc.length < sizeLine/\∀N:VK,(∀v H',Pv (i+1) (acc++[v]) H'->N v H')->te ((cA cm σ).set j (some (.int (lo+i)))) H N)
  (hd:∀acc H,Pv n acc H->∀p,H p=none->Q (.ref p) (upd H p (.lst acc))):oF (Itr lo n) (et j) um te cm σ Q H:=by
 refine mI n Pv h0 (fun i _ _ hi _=>hi) (fun _ _ _=>Nat.le_refl _) (fun i acc H hi p=>⟨(hs i acc H hi p).1,fun x H' y M hM=>?_⟩) hd
 obtain ⟨e,y⟩:=y
 subst e y
 refine ⟨Cv hj,?_⟩
 unfold um;dsimp only
 split
 ·exact (hs i acc H' hi p).2 _ fun v H4 q=>hM _ _ q
 ·rename_i z;exact absurd rfl z
theorem eS {K:WA}{H:Hp}{a:Addr}{xs:List V}{n:Nat}(h:SqT K H a xs)(hb:xs.length<=100000)(hf:∀x∈xs,bO x=true):Rep K H (n+1) (.ref a) (.tup (xs.map Dt.flat)):=by
 refine .tup h hb (by rw [WB]) fun i y d e1 e2=>?_
 rw [List.getElem?_map,e1] at e2
 cases e2
 exact .flat (hf y (List.mem_of_getElem? e1))
def Ris (xs:List Nat):Prop:=xs.Pairwise (· < ·)
theorem Ris.lt {xs:Array Nat}(h:Ris xs.toList){i k a b:Nat}(hik:i < k)(ha:xs[i]?=some a)(hb:xs[k]?=some b):a < b:=by
 rw [←Array.getElem?_toList] at ha hb
 obtain ⟨h1,rfl⟩:=List.getElem?_eq_some_iff.mp ha
 obtain ⟨h2,rfl⟩:=List.getElem?_eq_some_iff.mp hb
 exact List.pairwise_iff_getElem.mp h i k h1 h2 hik
theorem Ris.le {xs:Array Nat}(h:Ris xs.toList){i k a b:Nat}(hik:i<=k)(ha:xs[i]?=some a)(hb:xs[k]?=some b):a<=b:=by
 rcases Nat.lt_or_eq_of_le hik with e | e
 ·exact Nat.le_of_lt (h.lt e ha hb)
 ·subst e
  rw [ha] at hb
  cases hb
  exact Nat.le_refl _
theorem va {xs:Array Nat}{j:Nat}(h:Ris xs.toList):∀(fuel lo hi:Nat),hi<=lo+fuel->lo<=hi->hi<=xs.size->
  (∀i v,i < lo->xs[i]?=some v->v < j)->(∀i v,hi<=i->xs[i]?=some v->j<=v)->
  SetTable.below.go xs j fuel lo hi<=xs.size/\(∀i v,i < SetTable.below.go xs j fuel lo hi->xs[i]?=some v->v < j)/\(∀i v,SetTable.below.go xs j fuel lo hi<=i->xs[i]?=some v->j<=v)
 | 0,lo,hi,h1,h2,h3,h4,h5=>by
  have e:lo=hi:=by omega
  subst e
  exact ⟨h3,h4,h5⟩
 | fuel+1,lo,hi,h1,h2,h3,h4,h5=>by
  unfold SetTable.below.go
  by_cases hlt:lo < hi
  ·rw [if_pos hlt]
   dsimp only
   have hm:(lo+hi) / 2 < xs.size:=by omega
   have hv:xs[(lo+hi) / 2]?=some xs[(lo+hi) / 2]:=Array.getElem?_eq_getElem hm
   have hg:xs.getD ((lo+hi) / 2) j=xs[(lo+hi) / 2]:=by simp [Array.getD,hm]
   rw [hg]
   split
   ·rename_i hc
    exact va h fuel _ hi (by omega) (by omega) h3 (fun i v hi' e=>Nat.lt_of_le_of_lt (h.le (by omega) e hv) hc) h5
   ·rename_i hc
    exact va h fuel lo _ (by omega) (by omega) (by omega) h4 (fun i v hi' e=>Nat.le_trans (Nat.le_of_not_lt hc) (h.le hi' hv e))
  ·rw [if_neg hlt]
   have e:lo=hi:=by omega
   subst e
   exact ⟨h3,h4,h5⟩
theorem As {xs:Array Nat}{j:Nat}(h:Ris xs.toList):SetTable.below xs j<=xs.size/\(∀i v,i < SetTable.below xs j->xs[i]?=some v->v < j)/\(∀i v,SetTable.below xs j<=i->xs[i]?=some v->j<=v):=
 va h xs.size 0 xs.size (by omega) (Nat.zero_le _) (Nat.le_refl _) (fun i v hi _=>absurd hi (Nat.not_lt_zero _)) (fun i v hi e=>by
  have:=(Array.getElem?_eq_some_iff.mp e).1
  omega)
theorem ID {xs:Array Nat}{j:Nat}(h:Ris xs.toList)(hn:xs[SetTable.below xs j]?≠some j):Ris (SetTable.insertAt xs (SetTable.below xs j) j).toList:=by
 obtain ⟨h1,h2,h3⟩:=As (j:=j) h
 rw [SetTable.toList_insertAt]
 unfold Ris
 rw [List.pairwise_append]
 refine ⟨h.sublist (List.take_sublist _ _),List.pairwise_cons.mpr ⟨fun b hb=>?_,h.sublist (List.drop_sublist _ _)⟩,fun a ha b hb=>?_⟩
 ·obtain ⟨i,hi⟩:=List.mem_iff_getElem?.mp hb
  rw [List.getElem?_drop,Array.getElem?_toList] at hi
  have hle:=h3 _ b (by omega) hi
  rcases Nat.lt_or_eq_of_le hle with e | e
  ·exact e
  ·subst e
   exfalso
   by_cases hz:i=0
   ·subst hz;exact hn hi
   ·have hs:=(Array.getElem?_eq_some_iff.mp hi).1
    have hp:xs[SetTable.below xs j]?=some xs[SetTable.below xs j]:=Array.getElem?_eq_getElem (by omega)
    have:=h.lt (show SetTable.below xs j < SetTable.below xs j+i by omega) hp hi
    have:=h3 _ _ (Nat.le_refl _) hp
    omega
 ·obtain ⟨i,hi⟩:=List.mem_iff_getElem?.mp ha
  rw [List.getElem?_take] at hi
  split at hi
  ·rename_i hlt
   rw [Array.getElem?_toList] at hi
   have ha':=h2 i a hlt hi
   rcases List.mem_cons.mp hb with rfl | hb
   ·exact ha'
   ·obtain ⟨k,hk⟩:=List.mem_iff_getElem?.mp hb
    rw [List.getElem?_drop,Array.getElem?_toList] at hk
    exact Nat.lt_of_lt_of_le ha' (h3 _ b (by omega) hk)
  ·cases hi
def Tab (b:Bool)(t:SetTable):Prop:=(b=false->t.led=true)/\t.dummies=#[]/\Ris t.place.toList
theorem qt {t:SetTable}(hd:t.dummies=#[])(j:Nat):t.slot j≠.dummy/\(t.slot j=.empty->t.place[SetTable.below t.place j]?≠some j):=by
 unfold SetTable.slot
 dsimp only
 have hh:SetTable.has t.dummies j=false:=by
  rw [hd]
  unfold SetTable.has
  simp
 rw [hh]
 split
 ·exact ⟨fun e=>(by cases e),fun e=>(by cases e)⟩
 ·rename_i h
  refine ⟨fun e=>(by cases e),fun _ e=>h ?_⟩
  rw [e]
  simp
theorem tO {t:SetTable}{f:Nat->Int}{h:Int}(hd:t.dummies=#[]):∀(fuel:Nat) (p:SetTable.Probe) (j:Nat) (d:Option Nat),p.dummy=none->
  SetTable.probe.go t f h fuel p=some (.empty j d)->t.slot j=.empty/\d=none
 | 0,p,j,d,hp,e=>by cases e
 | fuel+1,p,j,d,hp,e=>by
  unfold SetTable.probe.go at e
  have hadv:(t.advance p).dummy=none:=by
   unfold SetTable.advance
   split
   ·exact hp
   ·exact hp
  split at e
  ·rename_i hs
   cases e
   exact ⟨hs,hp⟩
  ·rename_i hs
   exact absurd hs (qt hd _).1
  ·split at e
   ·cases e
   ·exact tO hd fuel _ j d hadv e
theorem jC {b:Bool}{t:SetTable}(h:Tab b t)(n:Nat):Tab b (t.standIn n):=by
 refine ⟨h.1,rfl,?_⟩
 show Ris (Array.range n).toList
 rw [Array.toList_range]
 exact List.pairwise_lt_range
theorem Cw {b:Bool}{t:SetTable}(ht:Tab b t)(es:Array (Int×Value))(h:Int)(x:Value):Tab b (layNew t es h x).2.1:=by
 unfold layNew
 split
 ·rename_i sl wd hs
  dsimp only
  have hput:Tab b (t.put sl).1:=by
   unfold SetTable.freeSlot at hs
   split at hs
   ·rename_i j d hp
    obtain ⟨h1,rfl⟩:=tO ht.2.1 _ _ _ _ rfl hp
    cases hs
    have h2:=(qt ht.2.1 j).2 h1
    refine ⟨ht.1,?_,?_⟩
    ·show (if SetTable.has t.dummies _ then _ else t.dummies)=#[]
     rw [ht.2.1]
     rfl
    ·exact ID ht.2.2 h2
   ·cases hs
  unfold SetTable.orStandIn
  split
  ·exact hput
  ·exact jC hput _
 ·exact jC ht _
theorem iq {α:Type}(f:Nat->Option α):∀(l:List Nat),Ris l->Ris (((l.filterMap fun j=>(f j).map (j,·))).map (·.1))
 | [],_=>List.Pairwise.nil
 | a::l,h=>by
  obtain ⟨h1,h2⟩:=List.pairwise_cons.mp h
  have ih:=iq f l h2
  cases e:f a with
  | none=>rw [List.filterMap_cons_none (by rw [e];rfl)];exact ih
  | some y=>
   rw [List.filterMap_cons_some (b:=(a,y)) (by rw [e];rfl),List.map_cons]
   refine List.pairwise_cons.mpr ⟨fun b hb=>?_,ih⟩
   obtain ⟨q,hq,rfl⟩:=List.mem_map.mp hb
   obtain ⟨k,hk,e2⟩:=List.mem_filterMap.mp hq
   obtain ⟨z,_,rfl⟩:=Option.map_eq_some_iff.mp e2
   exact h1 k hk
theorem zg {b:Bool}{t:SetTable}(ht:Tab b t)(es:Array (Int×Value))(wanted:Nat):Tab b (relayAll t es wanted).2.1:=by
 unfold relayAll
 split
 ·rename_i t' order hr
  dsimp only
  split
  ·unfold SetTable.relaid SetTable.laid at hr
   cases hl:SetTable.layClean (SetTable.sizeAbove wanted - 1) (es.map (·.1)) with
   | none=>rw [hl] at hr;cases hr
   | some owner=>
    rw [hl] at hr
    cases hr
    refine ⟨ht.1,rfl,?_⟩
    show Ris (List.toArray _).toList
    exact iq _ _ List.pairwise_lt_range
  ·exact jC ht _
 ·exact jC ht _
section
variable {prog:Program}{w:World}{A:Around}{E:Value->Shared->Prop}{s:Shared}
noncomputable def byT (w:World):Bool:=w.params.followText "set-order"
structure tP (prog:Program)(w:World)(h:Heap)(a:Addr)(o:Obj)(es:Array (Int×Value))(ep:Nat)(t:SetTable)(S:Int->Bool):Prop where
 at_:h.get? a=some o
 ex:o.ExactSet
 dat:o.data=.set es ep t
 el:ElemsOf (intKind prog w) es.toList
 mem:∀k,S k=true↔∃e∈es.toList,(intKind prog w).is k e.2=true
 sm:es.size < scanBound
 fit:t.fits es.size=true
 tab:Tab (byT w) t
def mJ (prog:Program)(w:World)(h:Heap)(a:Addr)(S:Int->Bool)(n:Nat):Prop:=∃o es ep t,tP prog w h a o es ep t S/\es.size=n
theorem tP.store {h:Heap}{a:Addr}{o:Obj}{es es':Array (Int×Value)}{ep:Nat}{t t':SetTable}{S S':Int->Bool}(z:tP prog w h a o es ep t S)
  (hel:ElemsOf (intKind prog w) es'.toList) (hmem:∀k,S' k=true↔∃e∈es'.toList,(intKind prog w).is k e.2=true) (hb:es'.size < scanBound) (hf:t'.fits es'.size=true) (ht:Tab (byT w) t') :
  tP prog w (h.update a (Obj.putSet es' t')) a {o with data:=.set es' (ep+1) t'} es' (ep+1) t' S':=
 ⟨(SetOf_store (knd:=intKind prog w) z.at_ z.ex z.dat hel hmem hb hf).1,z.ex,rfl,hel,hmem,hb,hf,ht⟩
theorem yb {g:Bool->Sem Unit}(hg:∀(b:Bool) (s1:Shared) (R:Unit->Shared->Prop),R () s1->wpAny (model prog w) A (g b) R E s1)
  {a:Addr} {o:Obj} {es es1:Array (Int×Value)} {ep:Nat} {t t2:SetTable} {S S':Int->Bool} (z:tP prog w s.heap a o es ep t S)
  (hel:ElemsOf (intKind prog w) es1.toList) (hmem:∀k,S' k=true↔∃e∈es1.toList,(intKind prog w).is k e.2=true) (hb:es1.size < scanBound) (hf:t2.fits es1.size=true) (ht:Tab (byT w) t2)
  {wd:Bool} {R:Option Bool->Shared->Prop} (h:∀h',Heap.SameBut a s.heap h'->mJ prog w h' a S' es1.size->R (some true) {s with heap:=h'}) :
  wpAny (model prog w) A (do
   storeSet a es1 t2
   if (!wd && t2.tooFull)=true then do
       g (relayAll t2 es1 (SetTable.grown es1.size)).2.2
       storeSet a (relayAll t2 es1 (SetTable.grown es1.size)).1 (relayAll t2 es1 (SetTable.grown es1.size)).2.1
       pure (some true)
    else pure (some true)) R E s:=by
 refine wpAny_bind (wpAny_storeSet_of z.at_ z.dat ?_ (fits_of_scanBound hb))
 have z1:=z.store hel hmem hb hf ht
 have sb:=Heap.SameBut.update s.heap a (Obj.putSet es1 t2)
 split
 ·have hp:=relayAll_perm t2 es1 (SetTable.grown es1.size)
  have hfr:=relayAll_fits t2 es1 (SetTable.grown es1.size)
  have htr:=zg ht es1 (SetTable.grown es1.size)
  generalize relayAll t2 es1 (SetTable.grown es1.size)=L at hp hfr htr ⊢
  obtain ⟨es2,t3,gv⟩:=L
  dsimp only at hp hfr htr ⊢
  have hz:es2.size=es1.size:=by
   have:=hp.length_eq
   rwa [Array.length_toList,Array.length_toList] at this
  have hb2:es2.size < scanBound:=by omega
  refine wpAny_bind (hg _ _ _ (wpAny_bind (wpAny_storeSet_of z1.at_ rfl ?_ (fits_of_scanBound hb2))))
  have z2:=z1.store (S':=S') (hel.perm hp) (fun k=>(hmem k).trans ⟨fun ⟨e,he,q⟩=>⟨e,hp.mem_iff.mpr he,q⟩,fun ⟨e,he,q⟩=>⟨e,hp.mem_iff.mp he,q⟩⟩) hb2 hfr htr
  exact wpAny_pure (h _ (sb.trans (Heap.SameBut.update _ a _)) ⟨_,_,_,_,z2,hz⟩)
 ·exact wpAny_pure (h _ sb ⟨_,_,_,_,z1,rfl⟩)
theorem Gw {a:Addr}{S:Int->Bool}{n:Nat}{k:Int}{x:Value}{Q:Bool->Shared->Prop}(hk:(intKind prog w).is k x=true)(hx:x.scannable=true)(hS:mJ prog w s.heap a S n)(hr:n+1 < scanBound)
  (h:∀h',Heap.SameBut a s.heap h'->mJ prog w h' a (fun k'=>S k' || decide (k'=k)) (if S k then n else n+1)->Q (!S k) {s with heap:=h'}) :
  wpAny (model prog w) A (setAddHashed a x ((intKind prog w).hash k)) Q E s:=by
 obtain ⟨o,es,ep,t,z,hn⟩:=hS
 unfold setAddHashed setAddHashedIn
 refine wpAny_holding (wpAny_bind (wpAny_setState_of z.at_ z.dat z.fit ?_))
 dsimp only
 rw [byScan_of hx z.sm z.el]
 simp only [↓reduceIte]
 unfold setAddByScan
 refine wpAny_bind (wpAny_bind (wpAny_rule (wpAny_bind (wpAny_setScan_of hk z.at_ z.dat z.fit z.el ?_))))
 cases hf:List.findIdx? (fun e=>(intKind prog w).is k e.2) es.toList with
 | some j=>
  dsimp only
  obtain ⟨hj,hpj,_⟩:=List.findIdx?_eq_some_iff_getElem.mp hf
  have hSk:S k=true:=(z.mem k).mpr ⟨_,List.getElem_mem hj,hpj⟩
  refine wpAny_pure (wpAny_pure ?_)
  have e0:s={s with heap:=s.heap}:=by cases s;rfl
  have q:=h s.heap (Heap.SameBut.refl a s.heap) ⟨o,es,ep,t,⟨z.at_,z.ex,z.dat,z.el,fun k'=>?_,z.sm,z.fit,z.tab⟩,by rw [hSk];exact hn⟩
  ·rw [hSk] at q;rw [e0];exact q
  ·rw [Bool.or_eq_true,decide_eq_true_eq,←z.mem k']
   exact ⟨fun hq=>hq.elim id fun e=>e▸hSk,.inl⟩
 | none=>
  dsimp only
  have hSk:S k=false:=by
   cases hq:S k with
   | false=>rfl
   | true=>
    obtain ⟨e,he,hp⟩:=(z.mem k).mp hq
    have:=List.findIdx?_eq_none_iff.mp hf e he
    rw [hp] at this;cases this
  have hgw:∀(b:Bool) {s1:Shared} {R:Unit->Shared->Prop},R () s1->wpAny (model prog w) A (match b with | true=>rule "set.scan.the-table-gave-way" | false=>pure ()) R E s1:=fun b s1 R q=>by
   cases b
   ·exact wpAny_pure q
   ·exact wpAny_rule q
  have hp:=layNew_perm t es ((intKind prog w).hash k) x
  have hfi:=layNew_fits t es ((intKind prog w).hash k) x
  have hta:=Cw z.tab es ((intKind prog w).hash k) x
  generalize layNew t es ((intKind prog w).hash k) x=L at hp hfi hta ⊢
  obtain ⟨es1,t1,wd,gv⟩:=L
  dsimp only at hp hfi hta ⊢
  rw [Array.toList_push] at hp
  have hz:es1.size=n+1:=by
   have:=hp.length_eq
   rw [List.length_append,Array.length_toList,Array.length_toList,hn] at this
   exact this
  have hend:∀h',Heap.SameBut a s.heap h'->mJ prog w h' a (fun k'=>S k' || decide (k'=k)) es1.size->Q true {s with heap:=h'}:=fun h' sb hS'=>by
   have q:=h h' sb
   rw [hSk] at q
   rw [hz] at hS'
   exact q hS'
  refine wpAny_bind (hgw _ ?_)
  split
  ·refine wpAny_bind ?_
   rw [hashByValue_scannable 8 hx]
   refine wpAny_pure ?_
   refine yb (S':=fun k'=>S k' || decide (k'=k)) ?_ z ((z.el.push hk hx).perm hp) (mem_push_iff hk z.mem hp) (by omega) ?_ ?_ ?_
   ·intro b s1 R q
    cases b
    ·exact wpAny_pure q
    ·exact wpAny_rule q
   ·split
    ·exact hfi
    ·exact SetTable.fits_plain_off hfi
   ·split
    ·exact hta
    ·exact hta
   ·intro h' sb hS'
    exact wpAny_pure (hend h' sb hS')
  ·refine wpAny_bind (wpAny_pure ?_)
   simp only [↓reduceIte]
   refine yb (S':=fun k'=>S k' || decide (k'=k)) ?_ z ((z.el.push hk hx).perm hp) (mem_push_iff hk z.mem hp) (by omega) hfi hta ?_
   ·intro b s1 R q
    cases b
    ·exact wpAny_pure q
    ·exact wpAny_rule q
   ·intro h' sb hS'
    exact wpAny_pure (hend h' sb hS')
end
section
variable {prog:Program}{w:World}
theorem mJ.keep {h h':Heap}{a:Addr}{S:Int->Bool}{n:Nat}(z:mJ prog w h a S n)(k:∀o,h.get? a=some o->h'.get? a=some o):mJ prog w h' a S n:=by
 obtain ⟨o,es,ep,t,z,hn⟩:=z
 exact ⟨o,es,ep,t,⟨k o z.at_,z.ex,z.dat,z.el,z.mem,z.sm,z.fit,z.tab⟩,hn⟩
theorem mJ.as {h:Heap}{a:Addr}{S S':Int->Bool}{n n':Nat}(z:mJ prog w h a S n)(e:∀k,S k=S' k)(en:n=n'):mJ prog w h a S' n':=by
 have:S=S':=funext e
 subst this en
 exact z
noncomputable def Cy (val:Nat->Int)(i:Nat):Int->Bool:=fun k=>(firstMet val i).any (· == k)
theorem EW {A:Around}{R:Result->Shared->Prop}{I:Addr}{fp wr:List Addr}{G:Array GenState->Array GenState->Prop}{n:Nat}{P:Nat->Value->Prop}{St:Nat->Shared->Prop}
  (W:WalksS prog w A.in1 I fp wr G n P St) (a:Addr) (ha:a∉fp) (val:Nat->Int) (hv:∀i v,P i v->∃t,v=.int (val i) t) (hb:n+1 < scanBound) :
  ∀(k i:Nat) (s:Shared),n - i=k->i<=n->St i s->mJ prog w s.heap a (Cy val i) (firstMet val i).length->
   (∀s',Moved (a::wr) G s s'->mJ prog w s'.heap a (Cy val n) (firstMet val n).length->R (.ok (.ret .none)) s')->
   codeAny (model prog w) A (.builtin "set.update.loop" ⟨[.ref a,.ref I],[]⟩) R s:=by
 have haw:a∉wr:=fun q=>ha (W.sub _ q)
 have hsub:∀b∈wr,b∈a::wr:=fun b q=>List.mem_cons_of_mem _ q
 intro k
 induction k with
 | zero=>
  intro i s hk hi st z q
  have e:i=n:=by omega
  subst e
  refine codeAny_builtin F.entry_set_update_loop ?_
  rw [Around.under_plainId F.plain_set_update_loop _]
  show wpAny _ A.in1 (pyNext (.ref I) >>= _) _ _ s
  refine wpAny_bind (W.done s _ _ st fun s' hm=>?_)
  exact wpAny_pure (q s' (hm.mono hsub) (z.keep fun o e=>hm.heap a o haw e))
 | succ k ih=>
  intro i s hk hi st z q
  have hlt:i < n:=by omega
  refine codeAny_builtin F.entry_set_update_loop ?_
  rw [Around.under_plainId F.plain_set_update_loop _]
  show wpAny _ A.in1 (pyNext (.ref I) >>= _) _ _ s
  refine wpAny_bind (W.item i s _ _ hlt st fun v s' hP st' hm=>?_)
  obtain ⟨tk,rfl⟩:=hv i v hP
  have z':=z.keep fun o e=>hm.heap a o haw e
  show wpAny _ A.in1 (holding [Value.int (val i) tk] (setAdd a (.int (val i) tk)) >>= _) _ _ s'
  refine wpAny_bind (wpAny_holding ?_)
  unfold setAdd
  refine wpAny_holding (wpAny_bind ((intKind prog w).pyHash (k:=val i) (intKind_is _ _ _ _) ?_))
  have hlen:=firstMet_length_le val i
  refine Gw (s:={s' with toks:=s'.toks+1}) (intKind_is _ _ _ _) rfl z' (by omega) fun h' sb z2=>?_
  have z3:mJ prog w h' a (Cy val (i+1)) (firstMet val (i+1)).length:=z2.as (fun k'=>by unfold Cy;rw [firstMet_succ,step_any]) (by unfold Cy;rw [firstMet_succ,step_length])
  refine wpAny_pure ⟨plainId_quiet F.plain_set_update_loop _,ih (i+1) _ (by omega) hlt (W.frame _ s' _ _ st' (Nat.le_succ _) fun b hb o e=>?_) z3 fun s2 hm2 z4=>?_⟩
  ·rw [sb.2 b fun q=>ha (by rw [←q];exact hb)];exact e
  ·refine q s2 (Moved.trans W.gtrans ((hm.mono hsub).then_heap (Nat.le_succ _) fun b o hb e=>?_) hm2) z4
   rw [sb.2 b fun q=>hb (by rw [q];exact List.mem_cons_self)];exact e
variable {A:Around}{E:Value->Shared->Prop}{s:Shared}
noncomputable def vb (w:World):Obj:={cls:=.type "set",dict:=none,data:=.set #[] 0 (.fresh 0 0 (!byT w))}
theorem IE (a:Value){Q:Value->Shared->Prop}(h:Q (.ref s.heap.objs.size) {s with heap:=s.heap.push (vb w)}) :
  codeAny (model prog w) A (.call (.builtin "set.__new__") ⟨[.type "set",a],[]⟩) (wants Q E) s:=by
 refine codeAny_of_tree ?_
 show wpAny _ A.in1 (do checkBuiltinCall "set.__new__" ⟨[.type "set",a],[]⟩;again (.builtin "set.__new__" ⟨[.type "set",a],[]⟩)) _ _ s
 refine wpAny_bind (wpAny_of_eq (F.newCall_set_1 a) (wpAny_pure ⟨plainId_quiet F.plain_set_new _,codeAny_builtin F.entry_set_new ?_⟩))
 rw [Around.under_plainId F.plain_set_new _]
 unfold Builtin.«set.__new__» Builtin.Frozenset.newClass
 have hsub:=sub_set_self
 obtain ⟨hp,g,d,tk,os⟩:=s
 dsimp only
 wp_walk
 refine wpAny_askSetting (wpAny_pure ?_)
 dsimp only
 simp only [newObj]
 exact wpAny_bind (wpAny_alloc (wpAny_pure (wpAny_pure h)))
theorem EX {h:Heap}{a:Addr}(e:h.get? a=some (vb w)):mJ prog w h a (fun _=>false) 0:=by
 refine ⟨vb w,#[],0,.fresh 0 0 (!byT w),⟨e,⟨rfl,rfl,rfl⟩,rfl,fun e he=>by simp at he,fun k=>by simp,by decide,by rfl,fun hb=>?_,rfl,List.Pairwise.nil⟩,rfl⟩
 show (!byT w)=true
 rw [hb];rfl
end
section
variable {prog:Program}{w:World}{A:Around}{E:Value->Shared->Prop}{s:Shared}
theorem Au {l:Addr}{its:Array Value}{ns:List Int}{Q:Value->Shared->Prop}(hh:A.handled=none)(hl:s.heap.IsList l its)(hi:IntsAre its.toList ns)(hb:its.size+1 < scanBound)
  (h:∀(h':Heap) (tk:Nat),mJ prog w h' s.heap.objs.size (Cy (fun i=>ns.getD i 0) its.size) (firstMet (fun i=>ns.getD i 0) its.size).length->
   (∀b o,b < s.heap.objs.size->s.heap.get? b=some o->h'.get? b=some o)->Q (.ref s.heap.objs.size) {s with heap:=h',toks:=tk}) :
  wpAny (model prog w) A (call (.type "set") [.ref l]) Q E s:=by
 obtain ⟨c,tl,hmro⟩:=F.called_set.mro
 have hmade:=F.called_set.made
 have hsub:=F.called_set.sub
 refine wpAny_call (codeAny_of_tree ?_)
 show wpAny _ _ (callAny (.type "set") _) _ _ _
 refine wpAny_pure ⟨Code.quiet_builtin _ (by decide +kernel),codeAny_builtin F.entry_type_call ?_⟩
 rw [Around.under_plain (weight_type_call_type "set" [.ref l] []) rfl]
 have h1:=F.called_set.notType
 have h2:=F.called_set.canCreate
 have hct:=F.typeCall_set_1 (.ref l)
 repeat (any_goals (first | assumption | wp_step))
 refine codeAny_mono (IE (.ref l) (E:=E) (Q:=fun ob s1=>ob=.ref s.heap.objs.size/\s1={s with heap:=s.heap.push (vb w)}) ⟨rfl,rfl⟩) fun r s1 hr=>?_
 cases r with
 | error e=>exact hr
 | ok fl=>
  cases fl with
  | ret ob=>
   obtain ⟨rfl,rfl⟩:=hr
   have hS:(s.heap.push (vb w)).get? s.heap.objs.size=some (vb w):=Heap.get?_push_size _ rfl
   have hT:Shared.TypeIs {s with heap:=s.heap.push (vb w)} (.ref s.heap.objs.size) "set":=⟨_,hS,rfl⟩
   have hli:=F.called_set.init.lookup
   have hbi:=F.called_set.init.bind (.ref s.heap.objs.size)
   repeat (any_goals (first | assumption | wp_step))
   refine codeAny_mono (codeAny_call_builtin (R:=wants (fun r s2=>r=.none/\∃h' tk,s2={s with heap:=h',toks:=tk}/\
     mJ prog w h' s.heap.objs.size (Cy (fun i=>ns.getD i 0) its.size) (firstMet (fun i=>ns.getD i 0) its.size).length/\
     (∀b o,b < s.heap.objs.size->s.heap.get? b=some o->h'.get? b=some o)) E) F.called_set.init.plain F.entry_set_init (check_set_init_1 hT ?_)) fun r2 s2 hr2=>?_
   ·obtain ⟨ol,hol,hcl,nl,hdl⟩:=hl
    obtain ⟨ocls,odict,odata,oslots⟩:=ol
    simp only at hcl hdl
    subst hcl hdl
    have hol':(s.heap.push (vb w)).get? l=some {cls:=.type "list",dict:=odict,data:=.seq its nl,slots:=oslots}:=Heap.get?_push_of_some _ hol
    have x1:=F.sub_list_set
    have x2:=F.sub_list_frozenset
    have x3:(Value.type "list" == Value.type "dict")=false:=by decide
    have hl1:(s.heap.push (vb w)).IsList l its:=⟨_,hol',rfl,nl,rfl⟩
    unfold Builtin.«set.__init__» noKeywords Builtin.Frozenset.updateFrom
    generalize hPI:pyIter=PI
    wp_walk
    subst hPI
    refine wpAny_pyIter_list hl1 (wpAny_bind (wpAny_runValue ?_))
    have hlS:l < s.heap.objs.size:=Heap.lt_size hol
    have hsz:(s.heap.push (vb w)).objs.size=s.heap.objs.size+1:=Heap.size_push ..
    have hf:s.heap.objs.size∉[(s.heap.push (vb w)).objs.size,l]:=by
     rw [hsz]
     simp only [List.mem_cons,List.not_mem_nil,or_false,not_or]
     exact ⟨Nat.ne_of_lt (Nat.lt_succ_self _),Nat.ne_of_gt hlS⟩
    have hv:∀(i:Nat) (v:Value),its[i]?=some v->∃t,v=.int ((fun i=>ns.getD i 0) i) t:=fun i v e=>IntsAre.int_at hi i v (by rw [Array.getElem?_toList];exact e)
    refine EW ((Walks.list (by simp [hh]) _ l (by rw [hsz];exact Nat.ne_of_lt (Nat.lt_succ_of_lt hlS)) its).toS) s.heap.objs.size hf (fun i=>ns.getD i 0) hv hb (its.size - 0) 0 _ (by omega) (Nat.zero_le _) ⟨⟨_,Heap.get?_push_size _ rfl,rfl,rfl⟩,hl1.push _⟩ ?z0 ?zR
    case z0=>
     exact (EX (Heap.get?_push_of_some _ hS)).as (fun _=>rfl) rfl
    case zR=>
     intro s' hm z
     obtain ⟨h',g',d',tk',os'⟩:=s'
     have eg:g'=s.gens:=hm.gens
     have ed:d'=s.drawn:=hm.drawn
     have eo:os'=s.os:=hm.os
     subst eg ed eo
     refine wpAny_pure (wpAny_pure ⟨rfl,h',tk',rfl,z,fun b o hb e=>?_⟩)
     refine hm.heap b o ?_ (Heap.get?_push_of_some _ (Heap.get?_push_of_some _ e))
     simp only [List.mem_cons,List.not_mem_nil,or_false,not_or]
     exact ⟨Nat.ne_of_lt hb,by rw [hsz];exact Nat.ne_of_lt (Nat.lt_succ_of_lt hb)⟩
   ·cases r2 with
    | error e=>exact hr2
    | ok fl2=>
     cases fl2 with
     | ret r=>
      obtain ⟨rfl,h',tk,rfl,z,hk⟩:=hr2
      repeat (any_goals (first | assumption | wp_step))
      exact h _ _ z hk
     | _=>exact hr2.elim
  | _=>exact hr.elim
end
theorem vc {α:Type}{xs:List α}{i:Nat}(hi:i < xs.length):(xs[i]::xs.eraseIdx i).Perm xs:=by
 rw [List.eraseIdx_eq_take_drop_succ]
 have e:xs=xs.take i++xs[i]::xs.drop (i+1):=by
  rw [List.getElem_cons_drop,List.take_append_drop]
 refine List.Perm.trans List.perm_middle.symm ?_
 rw [←e]
section
variable {M:Model}{A:Around}{E:Value->Shared->Prop}
theorem EY {src:Source}{n:Nat}{s:Shared}{Q:Nat->Shared->Prop}(hn:n≠0)(h:∀(i:Nat) (d:Drawn),i < n->Q i {s with drawn:=d}):wpAny M A (choose src n) Q E s:=by
 intro Γ p hΓ
 show Sem.wp M Γ (.choose src n .pure) _ _ p s
 rw [Sem.wp]
 exact ⟨hn,h _ _ (Nat.mod_lt _ (Nat.pos_of_ne_zero hn))⟩
theorem qu {α:Type}:∀(n:Nat) (xs:List α) (s:Shared) {Q:List α->Shared->Prop},xs.length=n->(∀ys d,ys.Perm xs->Q ys {s with drawn:=d})->wpAny M A (drawOrder n xs) Q E s
 | 0,xs,s,Q,hn,h=>by
  have e:xs=[]:=List.length_eq_zero_iff.mp hn
  subst e
  have e0:s={s with drawn:=s.drawn}:=by cases s;rfl
  unfold drawOrder
  refine wpAny_pure ?_
  rw [e0]
  exact h [] s.drawn .rfl
 | n+1,[],s,Q,hn,h=>by cases hn
 | n+1,x::xs,s,Q,hn,h=>by
  unfold drawOrder
  refine wpAny_bind (EY (by simp) fun i d hi=>?_)
  rw [List.getElem?_eq_getElem hi]
  dsimp only
  refine wpAny_bind (qu n _ _ (by rw [List.length_eraseIdx,if_pos hi,hn];rfl) fun ys d' hp=>wpAny_pure (h _ _ ?_))
  exact (List.Perm.cons _ hp).trans (vc hi)
end
theorem DY {α:Type}(next:Nat->Nat):∀(n k:Nat) (left:List α) (out:Array α),left.length=n->(pickOrder.go next n k left out).toList.Perm (out.toList++left)
 | 0,k,left,out,hn=>by
  have e:left=[]:=List.length_eq_zero_iff.mp hn
  subst e
  unfold pickOrder.go
  rw [List.append_nil]
 | n+1,k,left,out,hn=>by
  have hi:next k % left.length < left.length:=Nat.mod_lt _ (by omega)
  unfold pickOrder.go
  rw [List.getElem?_eq_getElem hi]
  dsimp only
  refine (DY next n (k+1) _ _ (by rw [List.length_eraseIdx,if_pos hi,hn];rfl)).trans ?_
  rw [Array.toList_push,List.append_assoc]
  exact (List.Perm.refl _).append (vc hi)
theorem yd {α:Type}(next:Nat->Nat)(xs:Array α):(pickOrder next xs).toList.Perm xs.toList:=by
 unfold pickOrder
 refine (DY next xs.size 0 xs.toList #[] (by simp)).trans ?_
 rw [List.nil_append]
theorem cw:Slot "set_iterator" "__next__" "set_iterator.__next__":=.of (owner:="set_iterator") (n:="__next__") (by rw [typeLookup_type,builtinLookup_eq_fast];kernel_rfl) (by decide +kernel) (by decide +kernel) (by decide +kernel) (by first | exact .inl (by decide +kernel) | exact .inr (by decide +kernel)) (by rw [isSubtype_type];kernel_rfl)
theorem Av:Manifest.owners.lookup (String.ofList ['r','o','t','a','r','e','t','i','_','t','e','s'].reverse)=some Manifest.sig_set_iterator:=by kernel_rfl
theorem iz (a:Value):argsOk "set_iterator.__next__" ⟨[a],[]⟩:=by
 unfold argsOk;rw [signature?_of (id:="set_iterator.__next__") (n:=['_','_','t','x','e','n','_','_']) (o:=['r','o','t','a','r','e','t','i','_','t','e','s']) (by kernel_rfl) Av];kernel_rfl
theorem gE:entryFor table "set_iterator.__next__"=some Builtin.«set_iterator.__next__»:=entryFor_of_tree (by kernel_rfl)
theorem vd:entryFor table "set.__iter__"=some Builtin.«frozenset.__iter__»:=entryFor_alias (id':="frozenset.__iter__") (by kernel_rfl) rfl (by decide +kernel) (by kernel_rfl)
theorem qv:Slot "set_iterator" "__iter__" "set_iterator.__iter__":=.of (owner:="set_iterator") (n:="__iter__") (by rw [typeLookup_type,builtinLookup_eq_fast];kernel_rfl) (by decide +kernel) (by decide +kernel) (by decide +kernel) (by first | exact .inl (by decide +kernel) | exact .inr (by decide +kernel)) (by rw [isSubtype_type];kernel_rfl)
theorem zh (a:Value):argsOk "set_iterator.__iter__" ⟨[a],[]⟩:=by
 unfold argsOk;rw [signature?_of (id:="set_iterator.__iter__") (n:=['_','_','r','e','t','i','_','_']) (o:=['r','o','t','a','r','e','t','i','_','t','e','s']) (by kernel_rfl) Av];kernel_rfl
theorem wW:entryFor table "set_iterator.__iter__"=some Builtin.«dict_keyiterator.__iter__»:=entryFor_alias (id':="dict_keyiterator.__iter__") (by kernel_rfl) rfl (by decide +kernel) (by kernel_rfl)
def qw (h:Heap)(it:Addr)(first:Value)(i:Nat)(a:Addr)(n ep:Nat):Prop:=∃o,h.get? it=some o/\o.cls=.type "set_iterator"/\o.data=.fields #[first,rawInt i,.ref a,rawInt n,rawInt ep]
section
variable {prog:Program}{w:World}{A:Around}{E:Value->Shared->Prop}{s:Shared}
theorem qw.ty {it a:Addr}{first:Value}{i n ep:Nat}(h:qw s.heap it first i a n ep):s.TypeIs (.ref it) "set_iterator":=by
 obtain ⟨o,ho,hc,_⟩:=h
 exact ⟨o,ho,hc⟩
theorem qw.keep {h h':Heap}{it a:Addr}{first:Value}{i n ep:Nat}(z:qw h it first i a n ep)(k:∀o,h.get? it=some o->h'.get? it=some o):qw h' it first i a n ep:=by
 obtain ⟨o,ho,r⟩:=z
 exact ⟨o,k o ho,r⟩
theorem DZ {it a:Addr}{first:Value}{i n ep:Nat}{Q:Value->Shared->Prop}(z:qw s.heap it first i a n ep)(h:Q (.ref it) s):wpAny (model prog w) A (pyIter (.ref it)) Q E s:=by
 refine wpAny_pyIter_slot z.ty qv (wpAny_call_entry qv z.ty wW ?_ (zh _))
 show wpAny _ _ (ret (.ref it)) _ _ s
 exact wpAny_pure ⟨_,rfl,"set_iterator",_,z.ty,cw.lookup,h⟩
theorem IF {it a:Addr}{o:Obj}{es:Array (Int×Value)}{t:SetTable}{i n ep sl nx:Nat}{x:Value}{Q:Option Value->Shared->Prop}(z:qw s.heap it (rawInt sl) i a n ep)
  (ho:s.heap.get? a=some o) (hd:o.data=.set es ep t) (hf:t.fits es.size=true) (hn:es.size=n)
  (hx:∀(E':Value->Shared->Prop) (R:Option (Value×Nat)->Shared->Prop),R (some (x,nx)) s->wpAny (model prog w) A.in1 (setNext a sl i ep) R E' s)
  (hQ:∀h',qw h' it (rawInt nx) (i+1) a n ep->Heap.SameBut it s.heap h'->Q (some x) {s with heap:=h'}):wpAny (model prog w) A (pyNext (.ref it)) Q E s:=by
 obtain ⟨oi,hi,hc,hdi⟩:=id z
 unfold pyNext
 refine wpAny_bind (wpAny_attempt (wpAny_callSpecial?_slot (name:=Str.ofString "__next__") z.ty cw (wpAny_call_entry cw z.ty gE ?_ (iz _))))
 unfold Builtin.«set_iterator.__next__»
 refine wpAny_bind (wpAny_of_eq (show slotArgs "__next__" 0 ⟨[.ref it],[]⟩=pure (.ref it,[]) from rfl) ?_)
 refine wpAny_bind (wpAny_fieldsOf hi hdi ?_)
 dsimp only [rawInt]
 refine wpAny_bind (wpAny_setEntries_of ho hd hf ?_)
 rw [hn]
 simp only [bne_self_eq_false,Bool.false_eq_true,if_false,Int.toNat_natCast]
 refine wpAny_bind (hx _ _ ?_)
 dsimp only
 refine wpAny_bind (wpAny_setField hi hdi (by simp) ?_)
 have h1:=Heap.get?_update_self (Obj.mapFields (·.setIfInBounds 0 (Value.int nx 0))) hi (Obj.isFreed_of_fields (Obj.data_mapFields hdi _))
 have d1:=Obj.data_mapFields hdi (·.setIfInBounds 0 (Value.int nx 0))
 refine wpAny_bind (wpAny_setField h1 d1 (by simp) (wpAny_pure ⟨x,rfl,wpAny_pure (hQ _ ?_ ((Heap.SameBut.update ..).trans (Heap.SameBut.update ..)))⟩))
 refine ⟨_,Heap.get?_update_self _ h1 (Obj.isFreed_of_fields (Obj.data_mapFields d1 _)),(Obj.cls_mapFields ..).trans ((Obj.cls_mapFields ..).trans hc),?_⟩
 rw [Obj.data_mapFields d1]
 simp [rawInt]
theorem Aw {s1:Shared}{Q:Option Value->Shared->Prop}(hh:A.handled=none)(hQ:∀h',(∀b o,s1.heap.get? b=some o->h'.get? b=some o)->Q none {s1 with heap:=h'}) :
  wpAny (model prog w) A.in1 ((do let e ←newExc (.type "StopIteration") [];raiseNew e):Sem Fin) (fun fin s'=>∃v,fin=Fin.done (Flow.ret v)/\wpAny (model prog w) A (pure (some v)) Q E s')
   (fun e s'=>wpAny (model prog w) A (do let b ←isInstance e (.type "StopIteration");if b=true then pure none else throw e) Q E s') s1:=by
 refine wpAny_bind ?_
 simp only [newExc,newTuple]
 refine wpAny_bind (wpAny_newObj_type ?_ (by size_fits))
 refine wpAny_bind (m:=firstArgMember _ _) (wpAny_of_eq (a:=Value.none) (by first | rfl | (simp only [firstArgMember];rfl)) (wpAny_newObj_type ?_ (by size_fits)))
 simp only [raiseNew]
 refine wpAny_bind (wpAny_handled ?_)
 have e1:A.in1.handled=none:=hh
 rw [e1]
 refine wpAny_bind (wpAny_pure (wpAny_throw ?_))
 refine wpAny_bind (wpAny_isInstance (b:=true) (T:="StopIteration") ⟨_,Heap.get?_push_size _ rfl,rfl⟩ isSubtype_stop ?_)
 exact wpAny_pure (hQ _ fun b o e=>Heap.get?_push_of_some _ (Heap.get?_push_of_some _ e))
theorem LJ {it a:Addr}{o:Obj}{es:Array (Int×Value)}{t:SetTable}{i n ep sl:Nat}{Q:Option Value->Shared->Prop}(hh:A.handled=none)(z:qw s.heap it (rawInt sl) i a n ep)
  (ho:s.heap.get? a=some o) (hd:o.data=.set es ep t) (hf:t.fits es.size=true) (hn:es.size=n)
  (hx:∀(E':Value->Shared->Prop) (R:Option (Value×Nat)->Shared->Prop),R none s->wpAny (model prog w) A.in1 (setNext a sl i ep) R E' s)
  (hQ:∀h',(∀b o,b≠it->s.heap.get? b=some o->h'.get? b=some o)->Q none {s with heap:=h'}):wpAny (model prog w) A (pyNext (.ref it)) Q E s:=by
 obtain ⟨oi,hi,hc,hdi⟩:=id z
 unfold pyNext
 refine wpAny_bind (wpAny_attempt (wpAny_callSpecial?_slot (name:=Str.ofString "__next__") z.ty cw (wpAny_call_entry cw z.ty gE ?_ (iz _))))
 unfold Builtin.«set_iterator.__next__»
 refine wpAny_bind (wpAny_of_eq (show slotArgs "__next__" 0 ⟨[.ref it],[]⟩=pure (.ref it,[]) from rfl) ?_)
 refine wpAny_bind (wpAny_fieldsOf hi hdi ?_)
 dsimp only [rawInt]
 refine wpAny_bind (wpAny_setEntries_of ho hd hf ?_)
 rw [hn]
 simp only [bne_self_eq_false,Bool.false_eq_true,if_false,Int.toNat_natCast]
 refine wpAny_bind (hx _ _ ?_)
 dsimp only
 refine wpAny_bind (wpAny_setField hi hdi (by simp) ?_)
 refine Aw hh fun h' x=>hQ h' fun b o hb e=>x b o ?_
 exact (Heap.get?_update_other _ _ (Ne.symm hb)).trans e
end
section
variable {prog:Program}{w:World}{A:Around}{E:Value->Shared->Prop}{s:Shared}{a:Addr}{o:Obj}{es:Array (Int×Value)}{t:SetTable}{ep:Nat}
theorem zi {sl i:Nat}{Q:Option (Value×Nat)->Shared->Prop}(hb:byT w=true)(ho:s.heap.get? a=some o)(hd:o.data=.set es ep t)(hf:t.fits es.size=true)
  (h:Q (((pickOrder (w.params.setOrder a ep) es)[i]?).map fun e=>(e.2,sl)) s):wpAny (model prog w) A (setNext a sl i ep) Q E s:=by
 have hb':(model prog w).w.params.followText "set-order"=true:=hb
 unfold setNext setsByText
 refine wpAny_bind (wpAny_setState_of ho hd hf ?_)
 dsimp only
 refine wpAny_bind (wpAny_bind (wpAny_askSetting (wpAny_pure ?_)))
 dsimp only
 rw [hb']
 simp only [if_true,bne_self_eq_false,Bool.false_eq_true,if_false]
 unfold setWalk setsByText
 refine wpAny_bind (wpAny_bind (wpAny_setState_of ho hd hf ?_))
 dsimp only
 refine wpAny_bind (wpAny_bind (wpAny_askSetting (wpAny_pure ?_)))
 dsimp only
 rw [hb']
 simp only [if_true]
 refine wpAny_bind (wpAny_askSetting (wpAny_pure (wpAny_pure ?_)))
 exact h
theorem wX {sl i:Nat}{Q:Option (Value×Nat)->Shared->Prop}(hb:byT w=false)(hp:(!t.plain && decide (es.size > 1))=false)(hl:t.led=true)(ho:s.heap.get? a=some o)(hd:o.data=.set es ep t)(hf:t.fits es.size=true)
  (h:Q (match es[SetTable.below t.place sl]?,t.place[SetTable.below t.place sl]? with
   | some (_,x),some j=>some (x,j+1)
   | _,_=>none) s):wpAny (model prog w) A (setNext a sl i ep) Q E s:=by
 have hb':(model prog w).w.params.followText "set-order"=false:=hb
 unfold setNext setsByText
 refine wpAny_bind (wpAny_setState_of ho hd hf ?_)
 dsimp only
 refine wpAny_bind (wpAny_bind (wpAny_askSetting (wpAny_pure ?_)))
 dsimp only
 rw [hb']
 simp only [Bool.false_eq_true,if_false]
 split
 ·rename_i hc
  have hc':(!t.plain && decide (es.size > 1))=true:=hc
  rw [hp] at hc'
  cases hc'
 ·refine wpAny_bind ?_
  show wpAny _ _ (if (!t.led && !es.isEmpty)=true then unsupported "set:maker-not-led" else pure ()) _ _ _
  rw [hl]
  exact wpAny_pure (wpAny_pure h)
theorem Gx {A:Around}{it tp:Addr}{i n:Nat}{ps:List Nat}{j:Nat}{x:Value}{kx:Int}{Q:Option Value->Shared->Prop}(z:qw s.heap it (.ref tp) i a n ep)
  (ho:s.heap.get? a=some o) (hd:o.data=.set es ep t) (hf:t.fits es.size=true) (hn:es.size=n) (ht:s.heap.IsTuple tp (ps.map fun k=>rawInt (k:Nat)).toArray) (hj:ps[i]?=some j) (hx:es[j]?=some (kx,x))
  (hQ:∀h',qw h' it (.ref tp) (i+1) a n ep->Heap.SameBut it s.heap h'->Q (some x) {s with heap:=h'}):wpAny (model prog w) A (pyNext (.ref it)) Q E s:=by
 obtain ⟨oi,hi,hc,hdi⟩:=id z
 obtain ⟨ot,hot,_,nt,hdt⟩:=ht
 unfold pyNext
 refine wpAny_bind (wpAny_attempt (wpAny_callSpecial?_slot (name:=Str.ofString "__next__") z.ty cw (wpAny_call_entry cw z.ty gE ?_ (iz _))))
 unfold Builtin.«set_iterator.__next__»
 refine wpAny_bind (wpAny_of_eq (show slotArgs "__next__" 0 ⟨[.ref it],[]⟩=pure (.ref it,[]) from rfl) ?_)
 refine wpAny_bind (wpAny_fieldsOf hi hdi ?_)
 dsimp only [rawInt]
 refine wpAny_bind (wpAny_setEntries_of ho hd hf ?_)
 rw [hn]
 simp only [bne_self_eq_false,Bool.false_eq_true,if_false,Int.toNat_natCast]
 refine wpAny_bind (wpAny_seqItems hot hdt ?_)
 have hp:((ps.map fun k=>rawInt (k:Nat)).toArray)[i]?=some (rawInt j):=by
  rw [List.getElem?_toArray,List.getElem?_map,hj];rfl
 dsimp only
 rw [hp]
 dsimp only [rawInt]
 unfold setNextDrawn
 refine wpAny_bind (wpAny_bind (wpAny_setState_of ho hd hf ?_))
 dsimp only
 simp only [bne_self_eq_false,Bool.false_eq_true,if_false,Int.toNat_natCast]
 rw [hx]
 dsimp only
 refine wpAny_pure (wpAny_bind (wpAny_setField hi hdi (by simp) (wpAny_pure ⟨x,rfl,wpAny_pure (hQ _ ?_ (Heap.SameBut.update ..))⟩)))
 refine ⟨_,Heap.get?_update_self _ hi (Obj.isFreed_of_fields (Obj.data_mapFields hdi _)),(Obj.cls_mapFields ..).trans hc,?_⟩
 rw [Obj.data_mapFields hdi]
 simp [rawInt]
theorem IG {A:Around}{it tp:Addr}{i n:Nat}{ps:List Nat}{Q:Option Value->Shared->Prop}(hh:A.handled=none)(z:qw s.heap it (.ref tp) i a n ep)
  (ho:s.heap.get? a=some o) (hd:o.data=.set es ep t) (hf:t.fits es.size=true) (hn:es.size=n) (ht:s.heap.IsTuple tp (ps.map fun k=>rawInt (k:Nat)).toArray) (hj:ps[i]?=none)
  (hQ:∀h',(∀b o,b≠it->s.heap.get? b=some o->h'.get? b=some o)->Q none {s with heap:=h'}):wpAny (model prog w) A (pyNext (.ref it)) Q E s:=by
 obtain ⟨oi,hi,hc,hdi⟩:=id z
 obtain ⟨ot,hot,_,nt,hdt⟩:=ht
 unfold pyNext
 refine wpAny_bind (wpAny_attempt (wpAny_callSpecial?_slot (name:=Str.ofString "__next__") z.ty cw (wpAny_call_entry cw z.ty gE ?_ (iz _))))
 unfold Builtin.«set_iterator.__next__»
 refine wpAny_bind (wpAny_of_eq (show slotArgs "__next__" 0 ⟨[.ref it],[]⟩=pure (.ref it,[]) from rfl) ?_)
 refine wpAny_bind (wpAny_fieldsOf hi hdi ?_)
 dsimp only [rawInt]
 refine wpAny_bind (wpAny_setEntries_of ho hd hf ?_)
 rw [hn]
 simp only [bne_self_eq_false,Bool.false_eq_true,if_false,Int.toNat_natCast]
 refine wpAny_bind (wpAny_seqItems hot hdt ?_)
 have hp:((ps.map fun k=>rawInt (k:Nat)).toArray)[i]?=none:=by
  rw [List.getElem?_toArray,List.getElem?_map,hj];rfl
 dsimp only
 rw [hp]
 dsimp only
 refine wpAny_bind (wpAny_setField hi hdi (by simp) ?_)
 have h1:=Heap.get?_update_self (Obj.mapFields (·.setIfInBounds 0 (Value.int 0 0))) hi (Obj.isFreed_of_fields (Obj.data_mapFields hdi _))
 have d1:=Obj.data_mapFields hdi (·.setIfInBounds 0 (Value.int 0 0))
 refine wpAny_bind (wpAny_setField h1 d1 (by simp) ?_)
 refine Aw hh fun h' x=>hQ h' fun b o hb e=>x b o ?_
 exact (Heap.get?_update_other _ _ (Ne.symm hb)).trans ((Heap.get?_update_other _ _ (Ne.symm hb)).trans e)
structure Gy (h:Heap)(a:Addr)(o:Obj):Prop where
 at_:h.get? a=some o
theorem Ea {A:Around}(hh:A.handled=none){it:Addr}(hne:a≠it)(hd:o.data=.set es ep t)(hf:t.fits es.size=true)(us:List Value)(hu:us.length=es.size)(sl:Nat->Nat)
  (hx:∀(i:Nat) (s:Shared) (E':Value->Shared->Prop) (R:Option (Value×Nat)->Shared->Prop),s.heap.get? a=some o->i<=es.size->R ((us[i]?).map fun x=>(x,sl (i+1))) s->wpAny (model prog w) A.in1 (setNext a (sl i) i ep) R E' s) :
  Walks prog w A it [it,a] [it] es.size (fun i v=>us[i]?=some v) (fun i h=>qw h it (rawInt (sl i)) i a es.size ep/\Gy h a o) where
 sub:=fun b hb=>by simp at hb;simp [hb]
 frame:=fun i h h' st hk=>⟨st.1.keep fun o e=>hk it (by simp) o e,⟨hk a (by simp) _ st.2.at_⟩⟩
 item:=fun i s Q E hi st hQ=>by
  have hl:i < us.length:=by omega
  have eu:us[i]?=some us[i]:=List.getElem?_eq_getElem hl
  refine IF st.1 st.2.at_ hd hf rfl (fun E' R q=>hx i s E' R st.2.at_ (by omega) (by rw [eu];exact q)) fun h' z sb=>?_
  refine hQ _ h' s.toks eu ⟨z,⟨?_⟩⟩ fun b o hb e=>?_
  ·rw [sb.2 a hne];exact st.2.at_
  ·rw [sb.2 b fun q=>hb (by simp [q])];exact e
 done:=fun s Q E st hQ=>by
  have eu:us[es.size]?=none:=List.getElem?_eq_none (by omega)
  refine LJ hh st.1 st.2.at_ hd hf rfl (fun E' R q=>hx es.size s E' R st.2.at_ (Nat.le_refl _) (by rw [eu];exact q)) fun h' k=>?_
  exact hQ h' s.toks fun b o hb e=>k b o (fun q=>hb (by simp [q])) e
 self:=fun i s Q E st q=>DZ st.1 q
theorem Gz {A:Around}(hh:A.handled=none){it tp:Addr}(hne:a≠it)(hnt:tp≠it)(hd:o.data=.set es ep t)(hf:t.fits es.size=true)(ps:List Nat)(hp:ps.Perm (List.range es.size))(us:List Value)(hu:∀i:Nat,us[i]?=(ps[i]?).bind fun j=>(es[j]?).map (·.2)) :
  Walks prog w A it [it,a,tp] [it] es.size (fun i v=>us[i]?=some v) (fun i h=>qw h it (.ref tp) i a es.size ep/\Gy h a o/\h.IsTuple tp (ps.map fun k=>rawInt (k:Nat)).toArray) where
 sub:=fun b hb=>by simp at hb;simp [hb]
 frame:=fun i h h' st hk=>⟨st.1.keep fun o e=>hk it (by simp) o e,⟨hk a (by simp) _ st.2.1.at_⟩,by
  obtain ⟨ot,hot,r⟩:=st.2.2
  exact ⟨ot,hk tp (by simp) _ hot,r⟩⟩
 item:=fun i s Q E hi st hQ=>by
  have hpl:ps.length=es.size:=by rw [hp.length_eq,List.length_range]
  have hl:i < ps.length:=by omega
  have ep':ps[i]?=some ps[i]:=List.getElem?_eq_getElem hl
  have hj:ps[i] < es.size:=List.mem_range.mp (hp.mem_iff.mp (List.getElem_mem hl))
  have ee:es[ps[i]]?=some es[ps[i]]:=Array.getElem?_eq_getElem hj
  refine Gx st.1 st.2.1.at_ hd hf rfl st.2.2 ep' (kx:=es[ps[i]].1) (x:=es[ps[i]].2) ee fun h' z sb=>?_
  refine hQ _ h' s.toks (by rw [hu,ep'];show (es[ps[i]]?).map _=_;rw [ee];rfl) ⟨z,⟨?_⟩,?_⟩ fun b o hb e=>?_
  ·rw [sb.2 a hne];exact st.2.1.at_
  ·obtain ⟨ot,hot,r⟩:=st.2.2
   exact ⟨ot,by rw [sb.2 tp hnt];exact hot,r⟩
  ·rw [sb.2 b fun q=>hb (by simp [q])];exact e
 done:=fun s Q E st hQ=>by
  have hpl:ps.length=es.size:=by rw [hp.length_eq,List.length_range]
  refine IG hh st.1 st.2.1.at_ hd hf rfl st.2.2 (List.getElem?_eq_none (by omega)) fun h' k=>?_
  exact hQ h' s.toks fun b o hb e=>k b o (fun q=>hb (by simp [q])) e
 self:=fun i s Q E st q=>DZ st.1 q
end
section
variable {prog:Program}{w:World}{A:Around}{E:Value->Shared->Prop}{s:Shared}{a:Addr}{o:Obj}{es:Array (Int×Value)}{t:SetTable}{ep:Nat}{S:Int->Bool}
noncomputable def slP (t:SetTable):Nat->Nat
 | 0=>0
 | i+1=>t.place.getD i 0+1
theorem EZ {t:SetTable}(h:Ris t.place.toList){i:Nat}(hi:i<=t.place.size):SetTable.below t.place (slP t i)=i:=by
 obtain ⟨h1,h2,h3⟩:=As (j:=slP t i) h
 have lo:∀k v,k < i->t.place[k]?=some v->v < slP t i:=fun k v hk e=>by
  cases i with
  | zero=>omega
  | succ i=>
   have hl:i < t.place.size:=by omega
   have hv:t.place[i]?=some t.place[i]:=Array.getElem?_eq_getElem hl
   have hg:t.place.getD i 0=t.place[i]:=by simp [Array.getD,hl]
   have:=h.le (show k<=i by omega) e hv
   show v < t.place.getD i 0+1
   rw [hg]
   omega
 have hi2:∀k v,i<=k->t.place[k]?=some v->slP t i<=v:=fun k v hk e=>by
  cases i with
  | zero=>exact Nat.zero_le _
  | succ i=>
   have hl:i < t.place.size:=by omega
   have hv:t.place[i]?=some t.place[i]:=Array.getElem?_eq_getElem hl
   have hg:t.place.getD i 0=t.place[i]:=by simp [Array.getD,hl]
   have:=h.lt (show i < k by omega) hv e
   show t.place.getD i 0+1<=v
   rw [hg]
   omega
 rcases Nat.lt_trichotomy (SetTable.below t.place (slP t i)) i with q | q | q
 ·have hl:SetTable.below t.place (slP t i) < t.place.size:=by omega
  have hv:t.place[SetTable.below t.place (slP t i)]?=some _:=Array.getElem?_eq_getElem hl
  have:=lo _ _ q hv
  have:=h3 _ _ (Nat.le_refl _) hv
  omega
 ·exact q
 ·have hl:i < t.place.size:=by omega
  have hv:t.place[i]?=some _:=Array.getElem?_eq_getElem hl
  have:=hi2 _ _ (Nat.le_refl _) hv
  have:=h2 _ _ q hv
  omega
theorem Cz {es:Array (Int×Value)}:((List.range es.size).map fun j=>((es[j]?).map (·.2)).getD Value.none)=es.toList.map (·.2):=by
 refine List.ext_getElem (by simp) fun i h1 h2=>?_
 have hi:i < es.size:=by simpa using h1
 rw [List.getElem_map,List.getElem_map,List.getElem_range,Array.getElem?_eq_getElem hi]
 simp
def Ax (prog:Program)(w:World)(I:Addr)(fp:List Addr)(n:Nat)(us:List Value)(St:Nat->Heap->Prop):Prop:=∀B:Around,B.handled=none->Walks prog w B I fp [I] n (fun i v=>us[i]?=some v) St
theorem GA {Q:Value->Shared->Prop}(z:tP prog w s.heap a o es ep t S)
  (hQ:∀I us fp St h' d,Ax prog w I fp es.size us St->us.Perm (es.toList.map (·.2))->St 0 h'->(∀b o,s.heap.get? b=some o->h'.get? b=some o)->(∀b∈fp,b < h'.objs.size)->(I∈fp/\s.heap.objs.size<=I)->(∀b∈fp,b=a\/s.heap.objs.size<=b)->Q (.ref I) {s with heap:=h',drawn:=d}) :
  wpAny (model prog w) A (pyIter (.ref a)) Q E s:=by
 have hT:s.TypeIs (.ref a) "set":=⟨o,z.at_,z.ex.1⟩
 have ha:a < s.heap.objs.size:=Heap.lt_size z.at_
 have hps:t.place.size=es.size:=by
  have:=z.fit
  unfold SetTable.fits at this
  simp at this
  exact this.1
 refine wpAny_pyIter_slot hT F.slot_set_iter (wpAny_call_entry F.slot_set_iter hT vd ?_ (F.args_set_iter_1 _))
 unfold Builtin.«frozenset.__iter__»
 refine wpAny_bind (wpAny_of_eq (show Builtin.Frozenset.slot0 "__iter__" ⟨[.ref a],[]⟩=pure a from rfl) ?_)
 unfold Builtin.Frozenset.sizeOf
 refine wpAny_bind (wpAny_bind (wpAny_setEntries_of z.at_ z.dat z.fit (wpAny_pure ?_)))
 unfold setDrawn setsByText
 refine wpAny_bind (wpAny_bind (wpAny_setState_of z.at_ z.dat z.fit ?_))
 dsimp only
 refine wpAny_bind (wpAny_bind (wpAny_askSetting (wpAny_pure (wpAny_pure ?_))))
 show wpAny _ _ (if (!byT w && (!t.plain && decide (es.size > 1)))=true then _ else _) _ _ _
 split
 ·rename_i hc
  refine wpAny_bind (qu _ _ _ (List.length_range) fun ps d hp=>?_)
  have hpl:ps.length=es.size:=by rw [hp.length_eq,List.length_range]
  unfold newTuple
  refine wpAny_bind (wpAny_newObj_type ?_ ?_)
  ·refine wpAny_bind (wpAny_setEpoch_of (o:=o) (Heap.get?_push_of_some _ z.at_) z.dat z.fit ?_)
   refine wpAny_bind (wpAny_newObj_type (wpAny_pure ?_))
   have hsz1:(s.heap.push ({cls:=.type "tuple",data:=.seq (ps.map fun i=>rawInt (i:Nat)).toArray}:Obj)).objs.size=s.heap.objs.size+1:=Heap.size_push ..
   refine ⟨_,rfl,"set_iterator",_,⟨_,Heap.get?_push_size _ rfl,rfl⟩,cw.lookup,?_⟩
   refine hQ _ (ps.map fun j=>((es[j]?).map (·.2)).getD .none) [_,a,s.heap.objs.size] _ _ d (fun B hB=>Gz hB (tp:=s.heap.objs.size) ?_ ?_ z.dat z.fit ps hp _ fun i=>?_) ?_ ⟨⟨_,Heap.get?_push_size _ rfl,rfl,rfl⟩,⟨Heap.get?_push_of_some _ (Heap.get?_push_of_some _ z.at_)⟩,⟨_,Heap.get?_push_of_some _ (Heap.get?_push_size _ rfl),rfl,_,rfl⟩⟩ (fun b o e=>Heap.get?_push_of_some _ (Heap.get?_push_of_some _ e)) ?_ ⟨List.mem_cons_self,by rw [hsz1];exact Nat.le_succ _⟩ ?_
   ·rw [hsz1];exact Nat.ne_of_lt (Nat.lt_succ_of_lt ha)
   ·rw [hsz1];exact Nat.ne_of_lt (Nat.lt_succ_self _)
   ·rw [List.getElem?_map]
    cases hpi:ps[i]? with
    | none=>rfl
    | some j=>
     have hj:j < es.size:=List.mem_range.mp (hp.mem_iff.mp (List.mem_of_getElem? hpi))
     show some (((es[j]?).map (·.2)).getD .none)=(es[j]?).map (·.2)
     rw [Array.getElem?_eq_getElem hj]
     rfl
   ·exact (hp.map _).trans (List.Perm.of_eq Cz)
   ·intro b hb
    rw [Heap.size_push,hsz1]
    rcases List.mem_cons.mp hb with rfl | hb
    ·rw [hsz1];exact Nat.lt_succ_self _
    ·rcases List.mem_cons.mp hb with rfl | hb
     ·exact Nat.lt_succ_of_lt (Nat.lt_succ_of_lt ha)
     ·rw [List.mem_singleton] at hb
      subst hb
      exact Nat.lt_succ_of_lt (Nat.lt_succ_self _)
   ·intro b hb
    rcases List.mem_cons.mp hb with rfl | hb
    ·rw [hsz1];exact .inr (Nat.le_succ _)
    ·rcases List.mem_cons.mp hb with rfl | hb
     ·exact .inl rfl
     ·rw [List.mem_singleton] at hb
      subst hb
      exact .inr (Nat.le_refl _)
  ·show ((ps.map fun i=>rawInt (i:Nat)).toArray).size<=sizeLine
   rw [List.size_toArray,WB,hpl]
   exact fits_of_scanBound z.sm
 ·rename_i hc
  refine wpAny_bind (wpAny_pure (wpAny_bind (wpAny_setEpoch_of z.at_ z.dat z.fit ?_)))
  refine wpAny_bind (wpAny_newObj_type (wpAny_pure ?_))
  refine ⟨_,rfl,"set_iterator",_,⟨_,Heap.get?_push_size _ rfl,rfl⟩,cw.lookup,?_⟩
  have hne:a≠s.heap.objs.size:=Nat.ne_of_lt ha
  have hfp:∀b∈[s.heap.objs.size,a],b < (s.heap.push ({cls:=.type "set_iterator",data:=.fields #[rawInt 0,rawInt 0,.ref a,rawInt es.size,rawInt ep]}:Obj)).objs.size:=fun b hb=>by
   rw [Heap.size_push]
   rcases List.mem_cons.mp hb with rfl | hb
   ·exact Nat.lt_succ_self _
   ·rw [List.mem_singleton] at hb
    subst hb
    exact Nat.lt_succ_of_lt ha
  have hfa:∀b∈[s.heap.objs.size,a],b=a\/s.heap.objs.size<=b:=fun b hb=>by
   rcases List.mem_cons.mp hb with rfl | hb
   ·exact .inr (Nat.le_refl _)
   ·rw [List.mem_singleton] at hb
    exact .inl hb
  by_cases hb:byT w=true
  ·refine hQ _ ((pickOrder (w.params.setOrder a ep) es).toList.map (·.2)) [s.heap.objs.size,a] _ _ s.drawn (fun B hB=>Ea hB hne z.dat z.fit _ ?_ (fun _=>0) fun i s' E' R ho hi q=>?_) ((yd _ _).map _) ⟨⟨_,Heap.get?_push_size _ rfl,rfl,rfl⟩,⟨Heap.get?_push_of_some _ z.at_⟩⟩ (fun b o e=>Heap.get?_push_of_some _ e) hfp ⟨List.mem_cons_self,Nat.le_refl _⟩ hfa
   ·rw [WB,(yd _ _).length_eq,Array.length_toList]
   ·refine zi hb ho z.dat z.fit ?_
    rw [List.getElem?_map,Array.getElem?_toList] at q
    cases hpk:(pickOrder (w.params.setOrder a ep) es)[i]? with
    | none=>rw [hpk] at q;exact q
    | some e=>rw [hpk] at q;exact q
  ·have hbf:byT w=false:=by
    cases h:byT w with
    | false=>rfl
    | true=>exact absurd h hb
   have hpl:(!t.plain && decide (es.size > 1))=false:=by
    rw [hbf] at hc
    simpa using hc
   refine hQ _ (es.toList.map (·.2)) [s.heap.objs.size,a] _ _ s.drawn (fun B hB=>Ea hB hne z.dat z.fit _ (by rw [WB,Array.length_toList]) (slP t) fun i s' E' R ho hi q=>?_) .rfl ⟨⟨_,Heap.get?_push_size _ rfl,rfl,rfl⟩,⟨Heap.get?_push_of_some _ z.at_⟩⟩ (fun b o e=>Heap.get?_push_of_some _ e) hfp ⟨List.mem_cons_self,Nat.le_refl _⟩ hfa
   refine wX hbf hpl (z.tab.1 hbf) ho z.dat z.fit ?_
   rw [EZ z.tab.2.2 (by omega)]
   rw [List.getElem?_map,Array.getElem?_toList] at q
   by_cases hlt:i < es.size
   ·have hlt':i < t.place.size:=by omega
    rw [Array.getElem?_eq_getElem hlt] at q ⊢
    rw [Array.getElem?_eq_getElem hlt']
    have hg:slP t (i+1)=t.place[i]+1:=by
     show t.place.getD i 0+1=_
     simp [Array.getD,hlt']
    rw [hg] at q
    exact q
   ·rw [Array.getElem?_eq_none (by omega)] at q ⊢
    rw [Array.getElem?_eq_none (by omega)]
    exact q
end
section
variable {prog:Program}{w:World}{A:Around}{E:Value->Shared->Prop}{s:Shared}{a:Addr}{o:Obj}{es:Array (Int×Value)}{t:SetTable}{ep:Nat}{S:Int->Bool}
theorem LK {α:Type}{M:Model}{c:Prop}[Decidable c]{x y:Sem α}{Q:α->Shared->Prop}(hc:c)(h:wpAny M A x Q E s):wpAny M A (if c then x else y) Q E s:=by
 rw [if_pos hc];exact h
theorem GB {Q:Bool->Shared->Prop}(hT:s.TypeIs (.ref a) "set")(h:Q false s):wpAny (model prog w) A (Builtin.List.listLengthHint (.ref a)) Q E s:=by
 have hs:splitId "set.__len__"=some ("set","__len__"):=by kernel_rfl
 unfold Builtin.List.listLengthHint
 refine wpAny_bind (wpAny_specialOf hT F.slot_set_len.lookup ?_)
 dsimp only
 rw [hs]
 dsimp only
 refine wpAny_bind (wpAny_isInstance hT sub_set_self ?_)
 rw [if_neg (show ¬((!true)=true) from Bool.false_ne_true)]
 refine LK (by decide +kernel) ?_
 exact wpAny_bind (wpAny_typeOf hT (wpAny_pure h))
theorem Ay {Q:List Value->Shared->Prop}(hh:A.handled=none)(z:tP prog w s.heap a o es ep t S)
  (hQ:∀(us:List Value) (s':Shared),us.Perm (es.toList.map (·.2))->(∀b o,s.heap.get? b=some o->s'.heap.get? b=some o)->s'.gens=s.gens->s'.os=s.os->s.heap.objs.size<=s'.heap.objs.size->Q us s'):wpAny (model prog w) A (collect (.ref a)) Q E s:=by
 have ha:a < s.heap.objs.size:=Heap.lt_size z.at_
 unfold collect
 refine wpAny_bind (wpAny_runValue (codeAny_builtin F.entry_proto_collect ?_))
 rw [Around.under_plainId F.plain_proto_collect _]
 show wpAny _ A.in1 (newList [] >>= fun l=>again (.builtin "list.__iadd__" ⟨[l,.ref a],[]⟩)) _ _ s
 refine wpAny_bind (wpAny_newObj_type ?_)
 refine wpAny_pure ⟨plainId_quiet F.plain_list_iadd _,codeAny_builtin F.entry_list_iadd ?_⟩
 rw [Around.under_plainId F.plain_list_iadd _]
 have z1:tP prog w (s.heap.push {cls:=.type "list",data:=.seq ([]:List Value).toArray}) a o es ep t S:=⟨Heap.get?_push_of_some _ z.at_,z.ex,z.dat,z.el,z.mem,z.sm,z.fit,z.tab⟩
 have hT:Shared.TypeIs {s with heap:=s.heap.push {cls:=.type "list",data:=.seq ([]:List Value).toArray}} (.ref a) "set":=⟨o,z1.at_,z.ex.1⟩
 show wpAny _ A.in1 (Builtin.List.listExtendWith (.ref s.heap.objs.size) (.ref a) (.ref s.heap.objs.size)) _ _ _
 unfold Builtin.List.listExtendWith
 refine wpAny_bind (wpAny_typeOf hT ?_)
 have h1:Builtin.List.listSameRef (.ref s.heap.objs.size) (.ref a)=false:=by simp [Builtin.List.listSameRef,Nat.ne_of_gt ha]
 have h2:(Value.type "set" == Value.type "list")=false:=by decide
 have h3:(Value.type "set" == Value.type "tuple")=false:=by decide
 simp only [h1,h2,h3,Bool.or_false,Bool.false_eq_true,if_false]
 refine wpAny_bind (GA z1 fun I us fp St h' d W hp st kp hfp hI hle=>?_)
 refine wpAny_bind (wpAny_holding ?_)
 have hT2:Shared.TypeIs {s with heap:=h',drawn:=d} (.ref a) "set":=⟨o,kp _ _ z1.at_,z.ex.1⟩
 refine GB hT2 ?_
 have hS:(s.heap.push {cls:=.type "list",data:=.seq ([]:List Value).toArray}).get? s.heap.objs.size=some {cls:=.type "list",data:=.seq ([]:List Value).toArray}:=Heap.get?_push_size _ rfl
 have hS1:=kp _ _ hS
 have hsz:(s.heap.push {cls:=.type "list",data:=.seq ([]:List Value).toArray}:Heap).objs.size=s.heap.objs.size+1:=Heap.size_push ..
 split
 ·refine wpAny_bind (wpAny_rule ?_)
  refine wpAny_bind ?_
  show wpAny _ A.in1 (updateSeq s.heap.objs.size (·.push .none) >>= fun _=>updateSeq s.heap.objs.size (·.pop)) _ _ _
  refine wpAny_bind (wpAny_updateSeq hS1 rfl ?_)
  have hS2:=Heap.get?_update_self (Obj.mapSeq (·.push Value.none)) hS1 rfl
  refine wpAny_updateSeq hS2 rfl ?_
  have hS3:=Heap.get?_update_self (Obj.mapSeq (·.pop)) hS2 rfl
  have oth:∀b o,b≠s.heap.objs.size->h'.get? b=some o->((h'.update s.heap.objs.size (Obj.mapSeq (·.push Value.none))).update s.heap.objs.size (Obj.mapSeq (·.pop))).get? b=some o:=fun b o hb e=>
   (Heap.get?_update_other _ _ (Ne.symm hb)).trans ((Heap.get?_update_other _ _ (Ne.symm hb)).trans e)
  have hSf:s.heap.objs.size∉fp:=fun hm=>by
   rcases hle _ hm with e | e
   ·exact absurd e (Nat.ne_of_gt ha)
   ·rw [hsz] at e
    exact absurd e (Nat.not_succ_le_self _)
  have hi1:A.in1.handled=none:=hh
  have W1:=W A.in1 hi1
  refine wpAny_pure ⟨plainId_quiet F.plain_extend_loop _,codeAny_extend_loopS W1.toS (fits_of_scanBound z.sm) _ hSf _ es.size 0 _ _ _ rfl (Nat.zero_le _) (W1.frame 0 h' _ st fun b hb o e=>oth b o (fun q=>hSf (q▸hb)) e) hS3 (ItemsOf.nil _) fun s' acc c hm hS' hacc=>?_⟩
  show wpAny _ A (load s.heap.objs.size >>= _) _ _ s'
  refine wpAny_bind (wpAny_load hS' (wpAny_pure ?_))
  have hus:us.length=es.size:=by rw [hp.length_eq,WB,Array.length_toList]
  have hacc':acc.toList=us:=by
   refine List.ext_getElem? fun i=>?_
   rw [Array.getElem?_toList]
   by_cases hi:i < acc.size
   ·rw [Array.getElem?_eq_getElem hi]
    exact (hacc.2 i _ (Array.getElem?_eq_getElem hi)).symm
   ·rw [Array.getElem?_eq_none (by omega),List.getElem?_eq_none (by rw [hus,←hacc.1];omega)]
  refine hQ acc.toList s' (hacc'▸hp) (fun b o e=>?_) hm.gens hm.os (Nat.le_of_lt (Heap.lt_size hS'))
  have hb:b < s.heap.objs.size:=Heap.lt_size e
  refine hm.heap b o ?_ (oth b o (Nat.ne_of_lt hb) (kp b o (Heap.get?_push_of_some _ e)))
  intro hq
  rcases List.mem_cons.mp hq with q | q
  ·exact absurd q (Nat.ne_of_lt hb)
  ·rw [List.mem_singleton] at q
   subst q
   have e2:=hI.2
   rw [hsz] at e2
   exact absurd (Nat.lt_of_lt_of_le (Nat.lt_succ_of_lt hb) e2) (Nat.lt_irrefl _)
 ·rename_i hc
  exact absurd (by decide +kernel) hc
end
theorem sd (val:Nat->Int):∀i,(firstMet val i).Nodup
 | 0=>List.nodup_nil
 | i+1=>by
  rw [firstMet_succ]
  unfold step_dedup
  split
  ·exact sd val i
  ·rename_i hc
   refine List.nodup_append.mpr ⟨sd val i,List.pairwise_singleton _ _,fun a ha b hb=>?_⟩
   rw [List.mem_singleton] at hb
   subst hb
   exact fun e=>hc (List.any_eq_true.mpr ⟨a,ha,by rw [e];simp⟩)
theorem tQ:∀{σ ks:List Int},σ.Nodup->(∀k∈σ,k∈ks)->ks.length<=σ.length->σ.Perm ks
 | [],ks,_,_,hl=>by
  have e:ks=[]:=List.length_eq_zero_iff.mp (Nat.le_zero.mp hl)
  subst e
  exact .rfl
 | x::σ,ks,hn,hs,hl=>by
  obtain ⟨h1,h2⟩:=List.nodup_cons.mp hn
  have hx:=hs x List.mem_cons_self
  have hc:=List.perm_cons_erase hx
  refine List.Perm.trans (List.Perm.cons x (tQ h2 (fun k hk=>?_) ?_)) hc.symm
  ·exact (List.mem_erase_of_ne (fun e:k=x=>h1 (e▸hk))).mpr (hs k (List.mem_cons_of_mem _ hk))
  ·have:=hc.length_eq
   rw [List.length_cons] at this hl
   omega
theorem Eb:∀(us:List Value),(∀u∈us,∃k,Value.isInt k u=true)->∃ks,IntsAre us ks/\∀k,k∈ks↔∃u∈us,Value.isInt k u=true
 | [],_=>⟨[],.nil,fun k=>by simp⟩
 | u::us,h=>by
  obtain ⟨k,hk⟩:=h u List.mem_cons_self
  obtain ⟨t,rfl⟩:=Value.isInt_shape hk
  obtain ⟨ks,h1,h2⟩:=Eb us fun v hv=>h v (List.mem_cons_of_mem _ hv)
  refine ⟨k::ks,.cons k t h1,fun j=>?_⟩
  rw [List.mem_cons,h2]
  constructor
  ·rintro (rfl | ⟨v,hv,q⟩)
   ·exact ⟨_,List.mem_cons_self,hk⟩
   ·exact ⟨v,List.mem_cons_of_mem _ hv,q⟩
  ·rintro ⟨v,hv,q⟩
   rcases List.mem_cons.mp hv with rfl | hv
   ·exact .inl (Value.isInt_inj _ _ _ q hk)
   ·exact .inr ⟨v,hv,q⟩
section
variable {prog:Program}{w:World}{A:Around}{E:Value->Shared->Prop}{s:Shared}{a:Addr}
theorem CA {σ:List Int}{Q:Value->Shared->Prop}(hh:A.handled=none)(z:mJ prog w s.heap a (fun k=>σ.any (· == k)) σ.length)(hσ:σ.Nodup)(h64:σ.length < 64)
  (h:∀(D:Addr) (vs:List Value) (ms:List Int) (c:Nat) (s':Shared),IntsAre vs ms->ms.length=σ.length->ms.Pairwise (· < ·)->(∀k,k∈ms↔k∈σ)->(∀b o,s.heap.get? b=some o->s'.heap.get? b=some o)->s.heap.objs.size<=D->
   s'.heap.get? D=some (seqObj "list" vs.toArray c)->s'.gens=s.gens->s'.os=s.os->Q (.ref D) s'):wpAny (model prog w) A (call (.builtin "sorted") [.ref a]) Q E s:=by
 obtain ⟨o,es,ep,t,z,hn⟩:=z
 refine Calls.call_function_entry kind_sorted plain_sorted entry_sorted (args_sorted1 _) ?_
 unfold Builtin.«sorted»
 refine wpAny_bind (m:=checkCount "sorted" 1 1 _) (wpAny_pure ?_)
 have hi1:A.in1.handled=none:=hh
 refine wpAny_bind (Ay hi1 z fun us s1 hp kp hg ho hsz=>?_)
 have hul:us.length=es.size:=by rw [hp.length_eq,WB,Array.length_toList]
 obtain ⟨ks,hI,hmem⟩:=Eb us fun u hu=>by
  obtain ⟨e,he,rfl⟩:=List.mem_map.mp (hp.mem_iff.mp hu)
  obtain ⟨⟨k,hk,_⟩,_⟩:=z.el e he
  exact ⟨k,hk⟩
 have hkl:ks.length=σ.length:=by rw [←hI.length,hul,hn]
 have hks:∀k,k∈ks↔k∈σ:=fun k=>by
  rw [hmem]
  have hz:=z.mem k
  rw [List.any_eq_true] at hz
  constructor
  ·rintro ⟨u,hu,q⟩
   obtain ⟨e,he,rfl⟩:=List.mem_map.mp (hp.mem_iff.mp hu)
   obtain ⟨x,hx,e2⟩:=hz.mpr ⟨e,he,q⟩
   have:x=k:=by simpa using e2
   exact this▸hx
  ·intro hk
   obtain ⟨e,he,q⟩:=hz.mp ⟨k,hk,by simp⟩
   exact ⟨e.2,hp.mem_iff.mpr (List.mem_map.mpr ⟨e,he,rfl⟩),q⟩
 have hperm:σ.Perm ks:=tQ hσ (fun k hk=>(hks k).mpr hk) (by omega)
 refine wpAny_bind (wpAny_newList ?_)
 have hoL:(s1.heap.push (seqObj "list" us.toArray 0)).get? s1.heap.objs.size=some (seqObj "list" us.toArray 0):=Heap.get?_push_size _ rfl
 refine wpAny_bind (wpAny_holding (wpAny_call_entry slot_list_sort ⟨_,hoL,rfl⟩ entry_list_sort (list_sort_tree hoL hI (by omega) fun out ms a1 a2 a3=>⟨_,rfl,?_⟩) (args_list_sort _)))
 obtain ⟨c,hc⟩:=sortedHeap_at (out:=out) hoL
 refine wpAny_pure ⟨_,rfl,h s1.heap.objs.size out.toList ms c _ a1 (by rw [a2.length_eq,hkl]) ?_ (fun k=>a2.mem_iff.trans (hks k)) (fun b ob e=>?_) ?_ hc hg ho⟩
 ·have hnd:ms.Nodup:=(a2.trans hperm.symm).nodup_iff.mpr hσ
  exact (a3.and hnd).imp fun ⟨x,y⟩=>by omega
 ·have e1:=kp b ob e
  have hb:b < s1.heap.objs.size:=Heap.lt_size e1
  show (sortedHeap _ _ _ _).get? b=_
  rw [sortedHeap_old (Nat.ne_of_lt hb) (by rw [size_push'];exact Nat.lt_succ_of_lt hb)]
  exact Heap.get?_push_of_some _ e1
 ·exact hsz
end
section
variable {X:Cx}{e:Expr}{te:TE}{p1 p2 pos1 pos2:Pos}
noncomputable def Az (K:WA)(te:TE):TE:=fun σ H Q=>te σ H fun x H1=>∃(a:Addr) (ns:List Int),x=.ref a/\SqL K H1 a (ns.map V.int)/\ns.length < 64/\
 ∀(l:Addr) (ms:List Int),H1 l=none->ms.Pairwise (· < ·)->(∀k,k∈ms↔k∈ns)->Q (.ref l) (upd H1 l (.lst (ms.map V.int)))
theorem se:∀{vs:List Value} {ms:List Int},IntsAre vs ms->br (ms.map V.int) vs
 | _,_,.nil=>.nil
 | _,_,.cons n t h=>.cons ⟨t,rfl⟩ (se h)
theorem n9:∀{ms:List Int} {vs:List Value},br (ms.map V.int) vs->IntsAre vs ms
 | [],_,h=>by cases h;exact .nil
 | m::ms,_,h=>by
  cases h with
  | cons a b=>
   obtain ⟨t,rfl⟩:=a
   exact .cons m t (n9 b)
theorem Inv.draw {pins:List (Addr×Obj)}{σ:St}{H:Hp}{s:Shared}{d:Drawn}(J:Inv X pins σ H s):Inv X pins σ H {s with drawn:=d}:=
 ⟨J.ok,J.os,J.bare,J.base,J.loc,J.cell,J.free,J.freeC,J.pin,J.hok,J.len⟩
theorem CB (hc:X.calm=true)(hg1:Gl X "sorted")(hm1:X.mg "sorted"=none)(hv1:bootBuiltins "sorted"=some (.builtin "sorted"))(hg2:Gl X "set")(hm2:X.mg "set"=none)(hv2:bootBuiltins "set"=some (.type "set"))(he:PE X e te)
  (hs:starEach [e] X.env=[(false,eval e X.env)]:=by rfl) (hs2:starEach [Expr.Call (.Name "set" p2) [e] [] pos2] X.env=[(false,eval (Expr.Call (.Name "set" p2) [e] [] pos2) X.env)]:=by rfl) :
  PE X (.Call (.Name "sorted" p1) [.Call (.Name "set" p2) [e] [] pos2] [] pos1) (Az X.K te):=by
 intro pins s σ H Q I h
 have hA:X.A.handled=none:=I.ok.hd hc
 refine wpAny_Call_Name_kw (kX I hg1 hm1 hv1 ?_ (by decide) (by decide))
 refine PyProof.Rows.callWith_builtin1 ?_ hs2 rfl
 rw [hs2]
 refine Calls.spliced_cons ?_
 refine wpAny_Call_Name_kw (kX I hg2 hm2 hv2 ?_ (by decide) (by decide))
 refine PyProof.Rows.callWith_type1 ?_ hs rfl
 rw [hs]
 refine Calls.spliced_cons (thn (he pins s σ H _ I h) fun u s1 ⟨x,H1,I1,r1,a,ns,ex,hS,hn,q⟩=>?_)
 subst ex
 cases r1
 refine Calls.spliced_nil ?_
 obtain ⟨its,rv,pl,hz⟩:=I1.list hS
 have hI:IntsAre its ns:=n9 rv
 have hlen:its.length=ns.length:=hI.length
 have hI':IntsAre its.toArray.toList ns:=by rw [List.toList_toArray];exact hI
 refine Au hA pl.isList hI' (by rw [List.size_toArray,hlen];show _ < 4096;omega) fun h2 tk z k2=>?_
 refine Calls.spliced_nil ?_
 have hmem:∀k,k∈firstMet (fun i=>ns.getD i 0) its.toArray.size↔k∈ns:=fun k=>by
  have ha:=firstMet_any (fun i=>ns.getD i 0) its.toArray.size k
  have e1:((List.range its.toArray.size).map fun i=>ns.getD i 0)=ns:=by
   rw [List.size_toArray,hlen]
   refine List.ext_getElem (by simp) fun i h1 h2=>?_
   rw [List.getElem_map,List.getElem_range]
   simp [h2]
  rw [e1] at ha
  have hb:∀l:List Int,(l.any (· == k))=true↔k∈l:=fun l=>by simp
  rw [←hb,←hb ns,ha]
 refine CA (s:={s1 with heap:=h2,toks:=tk}) hA z (sd _ _) ?_ fun D vs ms c s3 hv hl3 hp hm kp hD hget hgn hos=>?_
 ·have:=firstMet_length_le (fun i=>ns.getD i 0) its.toArray.size
  rw [List.size_toArray] at this
  rw [List.size_toArray]
  omega
 obtain ⟨h3,g3,d3,tk3,os3⟩:=s3
 dsimp only at kp hget hgn hos
 subst hgn hos
 have kk:∀b o,s1.heap.get? b=some o->h3.get? b=some o:=fun b o e=>kp b o (k2 b o (Heap.lt_size e) e)
 have hD1:s1.heap.objs.size<=D:=by
  obtain ⟨o,es,ep,t,zz,_⟩:=z
  have:=Heap.lt_size zz.at_
  exact Nat.le_trans (Nat.le_of_lt this) hD
 have hz2:(ms.map V.int).length<=sizeLine:=by
  have:=firstMet_length_le (fun i=>ns.getD i 0) its.toArray.size
  rw [List.size_toArray] at this hl3
  rw [WB,hl3]
  exact Nat.le_of_lt (cy (by omega))
 have J:=I1.laid (a:=D) (o:=.lst (ms.map V.int)) (t':=tk3) kk hD1 (show fK X.prog X.w _ h3 D (.lst (ms.map V.int)) from ⟨hz2,vs,c,se hv,hget⟩)
 exact ⟨.ref D,_,J.draw,rfl,q D ms (I1.hok.fresh hD1) hp fun k=>(hm k).trans (hmem k)⟩
end
section
variable {X:Cx}
theorem Inv.turnedL {pins:List (Addr×Obj)}{σ:St}{H:Hp}{s:Shared}{h':Heap}{t':Nat}{fp:List Addr}(I:Inv X pins σ H s)(k:∀b o,b∉fp->s.heap.get? b=some o->h'.get? b=some o)(hf:∀b∈fp,rV X pins H b) :
  Inv X pins σ H {s with heap:=h',toks:=t'}:=by
 have nit:∀b u,H b=some u->b∉fp:=fun b u e z=>by rw [(hf b z).1] at e;cases e
 refine I.step (g':=s.gens) (d':=s.drawn) (ch:=fp) (fun b hb=>⟨(hf b hb).2.2.2.1,(hf b hb).2.1,(hf b hb).2.2.2.2.1,(hf b hb).2.2.2.2.2⟩) (fun b o _ _ hc e _=>k b o hc e) (fun b o _ _ hc e _=>⟨o.slots,k b o hc e⟩) (fun _ _ _ _ n=>n)
  (fun b o hc e=>⟨o,k b o hc e⟩) (fun _ _ e=>e) (fun _ _ _ e=>e) (fun b ps e=>⟨#[],by rw [e];simp⟩) (fun m hm=>?_) (fun b u e=>?_) I.bare
 ·obtain ⟨o,es,ep,ho,r⟩:=hm
  exact ⟨o,es,ep,k _ o (fun z=>(hf _ z).2.1 rfl) ho,r⟩
 ·refine (I.hok b u e).stay (fun c v hc q=>k c v ?_ q) (fun _ q=>q) fun _ _ q=>q
  rcases hc with z | z
  ·exact z▸nit b u e
  ·exact nit c _ z
theorem Inv.handed {pins:List (Addr×Obj)}{σ:St}{H:Hp}{s:Shared}{h':Heap}{t':Nat}{fp:List Addr}{xs:List V}{us:List Value}{T:Addr}{n:Nat}(I:Inv X pins σ H s)(k:∀b o,b∉fp->s.heap.get? b=some o->h'.get? b=some o)(hf:∀b∈fp,rV X pins H b)
  (hT:s.heap.objs.size<=T) (hz:xs.length<=sizeLine) (r:br xs us) (e:h'.get? T=some {cls:=.type "tuple",data:=.seq us.toArray n}):Inv X pins σ (upd H T (.tup xs)) {s with heap:=h',toks:=t'}:=by
 have I1:Inv X pins σ H {s with heap:=h',toks:=t'}:=I.turnedL k hf
 have hn:H T=none:=I.hok.fresh hT
 obtain ⟨f0,f1,f2,f3,f4,f5⟩:=I.fpOk hT hn
 have h0:X.s₀.heap.objs.size<=T:=Nat.le_trans I.sz hT
 exact I1.track hn h0 f1 f4 f5 ⟨hz,us,r,⟨_,e,⟨rfl,_,rfl⟩,rfl⟩⟩
noncomputable def Ite (K:WA)(a:Addr):It:=
 ⟨fun i H=>∃xs x,SqL K H a xs/\xs[i]?=some x,fun i H y H'=>∃t x,y=.ref t/\H t=none/\H'=upd H t (.tup [.int (i:Nat),x])/\∀xs,SqL K H a xs->xs[i]?=some x,fun i H=>∃xs,SqL K H a xs/\xs.length<=i⟩
theorem E1 {P:Program}{w:World}{K:WA}{elts:List Expr}{x1:Nat}{tpos:Pos}(a e it:Addr)(hne:e≠it):EA P w K (.Tuple elts x1 tpos) (Ite K a) [e,it] e (fun i h=>(∃old,IsEnum h e it (i:Nat) old)/\h.IsListIter it a i) where
 mem:=by simp
 obj:=fun i h st b hb=>by
  obtain ⟨⟨old,h1⟩,o,h2,_,h3⟩:=st
  rcases List.mem_cons.mp hb with rfl | hb
  ·exact ⟨_,h1,fun v z=>by
    have z':Data.fields _=Data.cell v:=z
    cases z'⟩
  ·rw [List.mem_singleton] at hb
   subst hb
   exact ⟨o,h2,fun v z=>by rw [h3] at z;cases z⟩
 keep:=fun i h h' st k=>by
  obtain ⟨⟨old,h1⟩,h2⟩:=st
  exact ⟨⟨old,k e (by simp) _ h1⟩,h2.at fun o q=>k it (by simp) o q⟩
 item:=by
  intro X hP hw hK hc i pins s σ H E I hf st hg
  subst hP hw hK
  obtain ⟨xs,x,hq,hx⟩:=hg
  obtain ⟨its,rv,p,hz⟩:=I.list hq
  obtain ⟨u,hu,ru⟩:=rv.get hx
  obtain ⟨⟨old,h1⟩,h2⟩:=st
  have hel:e < s.heap.objs.size:=Heap.lt_size h1
  have hil:it < s.heap.objs.size:=by
   obtain ⟨o,q,_⟩:=h2
   exact Heap.lt_size q
  refine wpAny_pyNext_enum_item h1 h2 p.isList (x:=u) (by simpa using hu) hne fun h' g1 g2 g3 g4 g5=>?_
  have kf:∀b o,b∉[e,it]->s.heap.get? b=some o->h'.get? b=some o:=fun b o hb q=>g5 b o (fun z=>hb (by simp [z])) (fun z=>hb (by simp [z])) q
  have I1:Inv X pins σ (upd H s.heap.objs.size (.tup [.int (i:Nat),x])) {s with heap:=h',toks:=s.toks+1}:=I.handed (us:=[Value.int (i:Nat) s.toks,u]) kf hf (Nat.le_refl _) (by show 2<=sizeLine;decide) (.cons ⟨_,rfl⟩ (.cons ru .nil)) g3
  have hn:H s.heap.objs.size=none:=I.hok.fresh (Nat.le_refl _)
  have hf1:∀b∈[e,it],upd H s.heap.objs.size (.tup [.int (i:Nat),x]) b=none:=fun b hb=>by
   have hlt:b < s.heap.objs.size:=by
    rcases List.mem_cons.mp hb with rfl | hb
    ·exact hel
    ·rw [List.mem_singleton] at hb
     subst hb
     exact hil
   rw [aJ (Nat.ne_of_lt hlt)]
   exact (hf b hb).1
  refine ⟨_,rfl,wpAny_letOwnedTupleGo_enum (s:={s with heap:=h',toks:=s.toks+1}) g1 fun h2' q1 q2=>?_⟩
  have I2:Inv X pins σ (upd H s.heap.objs.size (.tup [.int (i:Nat),x])) {s with heap:=h2',toks:=s.toks+1}:=I1.turnedL (s:={s with heap:=h',toks:=s.toks+1}) (t':=s.toks+1) (fp:=[e,it]) (fun b o hb q=>(q2.2 b (fun z=>hb (by simp [z]))).trans q) fun b hb=>⟨hf1 b hb,(hf b hb).2⟩
  refine ⟨.ref s.heap.objs.size,_,I2,rfl,⟨_,x,rfl,hn,rfl,fun ys hy=>by rw [I.list_inj hy hq];exact hx⟩,⟨⟨u,?_⟩,?_⟩,hf1⟩
  ·have:((i+1:Nat):Int)=(i:Int)+1:=by omega
   rw [this]
   exact q1
  ·exact g2.at fun o q=>(q2.2 it (Ne.symm hne)).trans q
 done:=by
  intro X hP hw hK hc i pins s σ H E I hf st hg
  subst hP hw hK
  obtain ⟨xs,hq,hx⟩:=hg
  obtain ⟨its,rv,p,hz⟩:=I.list hq
  have hl:=rv.length
  obtain ⟨⟨old,h1⟩,h2⟩:=st
  exact wpAny_pyNext_enum_end (I.ok.hd hc) h1 h2 p.isList (by simp;omega) fun h' eb=>⟨rfl,I.turnedL (t':=s.toks) (fun b o hb q=>eb b o (fun z=>hb (by simp [z])) q) hf⟩
 self:=fun _ _ _ _ _ st h=>by
  obtain ⟨⟨old,h1⟩,h2⟩:=st
  exact wpAny_pyIter_enum h1 h
noncomputable def Kp (K:WA)(te:TE):TI:=fun σ H R=>te σ H fun x H1=>∃a,x=.ref a/\(∃xs,SqL K H1 a xs)/\R (Ite K a) H1
theorem IH {a:Expr}{te:TE}{p pos tpos:Pos}{elts:List Expr}{x1:Nat}(hg:Gl X "enumerate")(hm:X.mg "enumerate"=none)(hb:bootBuiltins "enumerate"=some (.type "enumerate"))(he:PE X a te)(hs:starEach [a] X.env=[(false,eval a X.env)]:=by rfl) :
  PI X (.Tuple elts x1 tpos) (.Call (.Name "enumerate" p) [a] [] pos) (Kp X.K te):=by
 intro pins s σ H R I h
 refine Call_ (kX I hg hm hb (PyProof.Rows.callWith_type1 ?_ hs rfl))
 rw [hs]
 refine Calls.spliced_cons (thn (he pins s σ H _ I h) fun u s1 ⟨x,H1,I1,r1,l,ex,⟨xs,hq⟩,q⟩=>?_)
 subst ex
 cases r1
 refine Calls.spliced_nil ?_
 obtain ⟨its,rv,pl,hz⟩:=I1.list hq
 refine call_enumerate_list pl.isList fun h' h1 h2 h3 h4=>?_
 refine wpAny_pyIter_enum h1 ?_
 have hne:s1.heap.objs.size+1≠s1.heap.objs.size:=Nat.ne_of_gt (Nat.lt_succ_self _)
 refine ⟨s1.heap.objs.size+1,[s1.heap.objs.size+1,s1.heap.objs.size],_,_,H1,rfl,I1.kept (t':=s1.toks) h4,E1 l _ _ hne,⟨⟨_,h1⟩,h2⟩,fun b hb=>?_,q⟩
 rcases List.mem_cons.mp hb with rfl | hb
 ·exact I1.fpOk (Nat.le_succ _) (I1.hok.fresh (Nat.le_succ _))
 ·rw [List.mem_singleton] at hb
  subst hb
  exact I1.fpOk (Nat.le_refl _) (I1.hok.fresh (Nat.le_refl _))
noncomputable def Itz (K:WA)(a b:Addr):It:=
 ⟨fun i H=>∃xs ys x y,SqL K H a xs/\SqL K H b ys/\xs[i]?=some x/\ys[i]?=some y,fun i H v H'=>∃t x y,v=.ref t/\H t=none/\H'=upd H t (.tup [x,y])/\(∀xs,SqL K H a xs->xs[i]?=some x)/\∀ys,SqL K H b ys->ys[i]?=some y,
  fun i H=>∃xs ys,SqL K H a xs/\SqL K H b ys/\(xs.length<=i\/ys.length<=i)⟩
theorem GC {P:Program}{w:World}{K:WA}{elts:List Expr}{x1:Nat}{tpos:Pos}(l1 l2 z TI TO i1 i2:Addr)(D:ZipApart z TI TO i1 i2 l1 l2) :
  EA P w K (.Tuple elts x1 tpos) (Itz K l1 l2) [z,TI,TO,i1,i2] z (fun i h=>IsZip h z TI TO .none/\IsPair h TI (.ref i1) (.ref i2)/\(∃u v,IsPair h TO u v)/\h.IsListIter i1 l1 i/\h.IsListIter i2 l2 i) where
 mem:=by simp
 obj:=fun i h st b hb=>by
  obtain ⟨h1,h2,⟨u,v,h3⟩,⟨o4,h4,_,d4⟩,⟨o5,h5,_,d5⟩⟩:=st
  simp only [List.mem_cons,List.not_mem_nil,or_false] at hb
  rcases hb with rfl | rfl | rfl | rfl | rfl
  ·exact ⟨_,h1,fun v z=>by
    have z':Data.fields _=Data.cell v:=z
    cases z'⟩
  ·exact ⟨_,h2,fun v z=>by
    have z':Data.seq _ _=Data.cell v:=z
    cases z'⟩
  ·exact ⟨_,h3,fun v z=>by
    have z':Data.seq _ _=Data.cell v:=z
    cases z'⟩
  ·exact ⟨o4,h4,fun v z=>by rw [d4] at z;cases z⟩
  ·exact ⟨o5,h5,fun v z=>by rw [d5] at z;cases z⟩
 keep:=fun i h h' st k=>by
  obtain ⟨h1,h2,⟨u,v,h3⟩,h4,h5⟩:=st
  exact ⟨k z (by simp) _ h1,k TI (by simp) _ h2,⟨u,v,k TO (by simp) _ h3⟩,h4.at fun o q=>k i1 (by simp) o q,h5.at fun o q=>k i2 (by simp) o q⟩
 item:=by
  intro X hP hw hK hc i pins s σ H E I hf st hg
  subst hP hw hK
  obtain ⟨xs,ys,x,y,hq1,hq2,hx,hy⟩:=hg
  obtain ⟨its1,rv1,p1,hz1⟩:=I.list hq1
  obtain ⟨its2,rv2,p2,hz2⟩:=I.list hq2
  obtain ⟨u,hu,ru⟩:=rv1.get hx
  obtain ⟨v,hv,rv⟩:=rv2.get hy
  obtain ⟨h1,h2,⟨c1,c2,h3⟩,h4,h5⟩:=st
  have lt:∀b∈[z,TI,TO,i1,i2],b < s.heap.objs.size:=fun b hb=>by
   simp only [List.mem_cons,List.not_mem_nil,or_false] at hb
   rcases hb with rfl | rfl | rfl | rfl | rfl
   ·exact Heap.lt_size h1
   ·exact Heap.lt_size h2
   ·exact Heap.lt_size h3
   ·obtain ⟨o,q,_⟩:=h4;exact Heap.lt_size q
   ·obtain ⟨o,q,_⟩:=h5;exact Heap.lt_size q
  refine wpAny_pyNext_zip_item D h1 h2 h3 h4 h5 p1.isList p2.isList (x:=u) (y:=v) (by simpa using hu) (by simpa using hv) fun h' g1 g2 g3 g4 g5 g6 g7=>?_
  have kf:∀b o,b∉[z,TI,TO,i1,i2]->s.heap.get? b=some o->h'.get? b=some o:=fun b o hb q=>g7 b o (fun e=>hb (by simp [e])) (fun e=>hb (by simp [e])) (fun e=>hb (by simp [e])) (fun e=>hb (by simp [e])) q
  have I1:Inv X pins σ (upd H s.heap.objs.size (.tup [x,y])) {s with heap:=h',toks:=s.toks}:=I.handed (us:=[u,v]) kf hf (Nat.le_refl _) (by show 2<=sizeLine;decide) (.cons ru (.cons rv .nil)) g5
  have hn:H s.heap.objs.size=none:=I.hok.fresh (Nat.le_refl _)
  have hf1:∀b∈[z,TI,TO,i1,i2],upd H s.heap.objs.size (.tup [x,y]) b=none:=fun b hb=>by
   rw [aJ (Nat.ne_of_lt (lt b hb))]
   exact (hf b hb).1
  refine ⟨_,rfl,wpAny_letOwnedTupleGo_zip (s:={s with heap:=h'}) g1 fun h2' q1 q2=>?_⟩
  have I2:Inv X pins σ (upd H s.heap.objs.size (.tup [x,y])) {s with heap:=h2',toks:=s.toks}:=I1.turnedL (s:={s with heap:=h',toks:=s.toks}) (t':=s.toks) (fp:=[z,TI,TO,i1,i2]) (fun b o hb q=>(q2.2 b (fun e=>hb (by simp [e]))).trans q) fun b hb=>⟨hf1 b hb,(hf b hb).2⟩
  have k2:∀b o,b≠z->h'.get? b=some o->h2'.get? b=some o:=fun b o hb q=>(q2.2 b hb).trans q
  have gTI:IsPair h' TI (.ref i1) (.ref i2):=g7 TI _ D.TIz D.TITO D.TIi1 D.TIi2 h2
  refine ⟨.ref s.heap.objs.size,_,I2,rfl,⟨_,x,y,rfl,hn,rfl,fun zs hz=>by rw [I.list_inj hz hq1];exact hx,fun zs hz=>by rw [I.list_inj hz hq2];exact hy⟩,⟨q1,k2 _ _ D.TIz gTI,⟨u,v,k2 _ _ D.TOz g2⟩,g3.at fun o q=>k2 _ _ D.i1z q,g4.at fun o q=>k2 _ _ D.i2z q⟩,hf1⟩
 done:=by
  intro X hP hw hK hc i pins s σ H E I hf st hg
  subst hP hw hK
  obtain ⟨xs,ys,hq1,hq2,hend⟩:=hg
  obtain ⟨its1,rv1,p1,hz1⟩:=I.list hq1
  obtain ⟨its2,rv2,p2,hz2⟩:=I.list hq2
  have hl1:=rv1.length
  have hl2:=rv2.length
  obtain ⟨h1,h2,⟨c1,c2,h3⟩,h4,h5⟩:=st
  refine wpAny_pyNext_zip_end (I.ok.hd hc) D h1 h2 h3 h4 h5 p1.isList p2.isList ?_ fun h' eb=>⟨rfl,I.turnedL (t':=s.toks) (fun b o hb q=>eb b o (fun e=>hb (by simp [e])) (fun e=>hb (by simp [e])) (fun e=>hb (by simp [e])) (fun e=>hb (by simp [e])) q) hf⟩
  rcases hend with e | e
  ·left;simp;omega
  ·right;simp;omega
 self:=fun _ _ _ _ _ st h=>wpAny_pyIter_zip st.1 h
noncomputable def M4 (K:WA)(ta tb:TE):TI:=fun σ H R=>ta σ H fun x H1=>tb σ H1 fun y H2=>∃a b,x=.ref a/\y=.ref b/\(∃xs,SqL K H2 a xs)/\(∃ys,SqL K H2 b ys)/\R (Itz K a b) H2
theorem LL {a b:Expr}{ta tb:TE}{p pos tpos:Pos}{elts:List Expr}{x1:Nat}(hg:Gl X "zip")(hm:X.mg "zip"=none)(hb:bootBuiltins "zip"=some (.type "zip"))(ha:PE X a ta)(hb2:PE X b tb)(hs:starEach [a,b] X.env=[(false,eval a X.env),(false,eval b X.env)]:=by rfl)(hs2:starEach [b] X.env=[(false,eval b X.env)]:=by rfl) :
  PI X (.Tuple elts x1 tpos) (.Call (.Name "zip" p) [a,b] [] pos) (M4 X.K ta tb):=by
 intro pins s σ H R I h
 refine Call_ (kX I hg hm hb (PyProof.Rows.callWith_type1 ?_ (by rw [hs,hs2]) (by rw [hs2];rfl)))
 rw [hs]
 refine Calls.spliced_cons (thn (ha pins s σ H _ I h) fun u s1 ⟨x,H1,I1,r1,q1⟩=>?_)
 refine Calls.spliced_cons (thn (hb2 pins s1 σ H1 _ I1 q1) fun v s2 ⟨y,H2,I2,r2,l1,l2,ex,ey,⟨xs,hq1⟩,⟨ys,hq2⟩,q⟩=>?_)
 subst ex ey
 cases r1
 cases r2
 refine Calls.spliced_nil ?_
 obtain ⟨its1,rv1,p1,hz1⟩:=I2.list hq1
 obtain ⟨its2,rv2,p2,hz2⟩:=I2.list hq2
 have a1:l1 < s2.heap.objs.size:=by obtain ⟨o,q,_⟩:=p1.isList;exact Heap.lt_size q
 have a2:l2 < s2.heap.objs.size:=by obtain ⟨o,q,_⟩:=p2.isList;exact Heap.lt_size q
 refine call_zip_2 p1.isList p2.isList fun h' h1 h2 h3 h4 h5 h6 h7=>?_
 refine wpAny_pyIter_zip h1 ?_
 have n0:∀l:Nat,l < s2.heap.objs.size->∀k:Nat,l≠s2.heap.objs.size+k:=fun l hl k=>by omega
 have n1:∀j k:Nat,j≠k->s2.heap.objs.size+j≠s2.heap.objs.size+k:=fun j k hjk=>by omega
 refine ⟨s2.heap.objs.size+4,[s2.heap.objs.size+4,s2.heap.objs.size+2,s2.heap.objs.size+3,s2.heap.objs.size+0,s2.heap.objs.size+1],_,_,H2,rfl,I2.kept (t':=s2.toks) h7,
  GC l1 l2 _ _ _ _ _ ⟨n1 2 4 (by decide),n1 3 4 (by decide),n1 0 4 (by decide),n1 1 4 (by decide),n1 2 3 (by decide),n1 2 0 (by decide),n1 2 1 (by decide),n1 3 0 (by decide),n1 3 1 (by decide),n1 0 1 (by decide),n0 _ a1 4,n0 _ a1 3,n0 _ a1 0,n0 _ a1 1,n0 _ a2 4,n0 _ a2 3,n0 _ a2 0,n0 _ a2 1⟩,⟨h1,h2,⟨_,_,h3⟩,h4,h5⟩,fun b hb=>?_,q⟩
 have hle:s2.heap.objs.size<=b:=by
  simp only [List.mem_cons,List.not_mem_nil,or_false] at hb
  rcases hb with rfl | rfl | rfl | rfl | rfl<;>exact Nat.le_add_right _ _
 exact I2.fpOk hle (I2.hok.fresh hle)
end
theorem AA {J:It}{g:TG}{tb:TS}{D:gO}{σ:St}{H:Hp}(n:Nat)(Pv:Nat->St->Hp->Prop)(h0:Pv 0 σ H)(hgo:∀i σ H,i < n->Pv i σ H->J.go i H)(hst:∀σ H,Pv n σ H->J.stop n H)
  (hs:∀i σ H,i < n->Pv i σ H->∀x H',J.yld i H x H'->g x σ H' fun σ2 H2=>tb {D with nx:=Pv (i+1),ct:=Pv (i+1),bk:=D.nx} σ2 H2) (hd:∀σ H,Pv n σ H->D.nx σ H):DR J g tb D σ H:=by
 refine ⟨fun i m σ H=>m=n - i/\i<=n/\Pv i σ H,⟨n,by simp,Nat.zero_le _,h0⟩,?_⟩
 rintro i m σ H ⟨rfl,hi,p⟩
 by_cases hlt:i < n
 ·exact .inr ⟨hgo i σ H hlt p,Pv (i+1),fun σ' H' q=>⟨n - (i+1),by omega,rfl,hlt,q⟩,fun x H' y=>hs i σ H hlt p x H' y⟩
 ·have e:i=n:=by omega
  subst e
  exact .inl ⟨hst σ H p,hd σ H p⟩
section
variable {X:Cx}
noncomputable def LM (K:WA):V->List V->Hp->VK->Prop:=fun x vs H Q=>∃(l:Addr) (ns:List Int) (k:Int),x=.ref l/\vs=[.int k]/\SqL K H l (ns.map V.int)/\k∈ns/\Q (.int (ns.idxOf k:Nat)) H
end
def aA (p:Addr)(H H':Hp):Prop:=∀b o,b≠p->H b=some o->H' b=some o
theorem aA.of {p:Addr}{H H':Hp}(s:aq H H'):aA p H H':=fun b o _ e=>s b o e
theorem aA.trans {p:Addr}{H H1 H2:Hp}(a:aA p H H1)(b:aA p H1 H2):aA p H H2:=fun c o n e=>b c o n (a c o n e)
theorem aA.put {p:Addr}{H H':Hp}{o:HO}(s:aA p H H'):aA p H (upd H' p o):=fun b u n e=>by rw [aJ n];exact s b u n e
theorem Rd.keep {p a:Addr}{H H':Hp}{u:HO}(s:aA p H H')(n:a≠p)(h:Rd H a u):Rd H' a u:=by
 rcases h with h | ⟨o,h⟩
 ·exact .inl (s _ _ n h)
 ·exact .inr ⟨o,s _ _ n h⟩
theorem SqT.keep {K:WA}{p a:Addr}{H H':Hp}{xs ys:List V}(s:aA p H H')(hp:H p=some (.lst ys))(h:SqT K H a xs):SqT K H' a xs:=by
 rcases h with h | h
 ·refine .inl (h.keep s fun z=>?_)
  subst z
  rcases h with h | ⟨o,h⟩
  ·rw [hp] at h;cases h
  ·rw [hp] at h;cases h
 ·exact .inr h
theorem Rd.keepI {p a C dx:Addr}{H H':Hp}{fs:List (Str×V)}{u:HO}(s:aA p H H')(hp:H p=some (.ins C dx fs))(hu:∀C dx fs,u≠.ins C dx fs)(h:Rd H a u):Rd H' a u:=by
 refine h.keep s fun z=>?_
 subst z
 rcases h with h | ⟨o,h⟩
 ·rw [hp] at h;cases h;exact hu _ _ _ rfl
 ·rw [hp] at h;cases h
theorem SqL.keepI {K:WA}{p a C dx:Addr}{H H':Hp}{xs:List V}{fs:List (Str×V)}(s:aA p H H')(hp:H p=some (.ins C dx fs))(h:SqL K H a xs):SqL K H' a xs:=by
 rcases h with h | h
 ·exact .inl (h.keepI s hp fun _ _ _ z=>HO.noConfusion z)
 ·exact .inr h
theorem SqT.keepI {K:WA}{p a C dx:Addr}{H H':Hp}{xs:List V}{fs:List (Str×V)}(s:aA p H H')(hp:H p=some (.ins C dx fs))(h:SqT K H a xs):SqT K H' a xs:=by
 rcases h with h | h
 ·exact .inl (h.keepI s hp fun _ _ _ z=>HO.noConfusion z)
 ·exact .inr h
theorem fv.keepI {K:WA}{p l C dx:Addr}{H H':Hp}{ls:List Ld}{fs:List (Str×V)}(s:aA p H H')(hp:H p=some (.ins C dx fs))(h:fv K H l ls):fv K H' l ls:=by
 obtain ⟨as,a,b⟩:=h
 exact ⟨as,a.keepI s hp,b.1,fun i a x e1 e2=>(b.2 i a x e1 e2).keepI s hp⟩
structure cY (C:Addr)(H:Hp)(y kn wh:Addr)(ks:List Str)(ws:List Int)(m:Int):Prop where
 ob:∃dx,H y=some (.ins C dx [("kinds",.ref kn),("where",.ref wh),("many",.int m)])
 okn:H kn=some (.lst (ks.map V.str))
 owh:H wh=some (.lst (ws.map V.int))
theorem cY.same {C:Addr}{H H':Hp}{y kn wh:Addr}{ks:List Str}{ws:List Int}{m:Int}(h:cY C H y kn wh ks ws m)(s:aq H H'):cY C H' y kn wh ks ws m:=by
 obtain ⟨⟨dx,a⟩,b,c⟩:=h
 exact ⟨⟨dx,s _ _ a⟩,s _ _ b,s _ _ c⟩
theorem cY.off {C:Addr}{H H':Hp}{p y kn wh:Addr}{ks:List Str}{ws:List Int}{m:Int}{ys:List V}(h:cY C H y kn wh ks ws m)(s:aA p H H')(hp:H p=some (.lst ys))(n1:kn≠p)(n2:wh≠p):cY C H' y kn wh ks ws m:=by
 obtain ⟨⟨dx,a⟩,b,c⟩:=h
 exact ⟨⟨dx,s _ _ (fun z=>by rw [z,hp] at a;cases a) a⟩,s _ _ n1 b,s _ _ n2 c⟩
theorem cY.put {C:Addr}{H H':Hp}{y kn wh:Addr}{ks:List Str}{ws ws':List Int}{m:Int}(h:cY C H y kn wh ks ws m)(s:aA wh H H')(n1:kn≠wh)(e:H' wh=some (.lst (ws'.map V.int))):cY C H' y kn wh ks ws' m:=by
 obtain ⟨⟨dx,a⟩,b,c⟩:=h
 exact ⟨⟨dx,s _ _ (fun z=>by rw [z,c] at a;cases a) a⟩,s _ _ n1 b,e⟩
theorem GD {K:WA}{l:Addr}{ls:List Ld}{te:TE}{cm:List (Option Nat)}{σ:St}{H:Hp}{Q:VK}(f:Ld->V)(hL:fv K H l ls)(hn:ls.length<=sizeLine)(hcm:cA cm σ=[none,none,none])
  (he:∀x∈ls,∀N:VK,N (f x) H->te [some (.str x.1),some (.int x.2.1),some (.int x.2.2)] H N)
  (hd:∀p,H p=none->Q (.ref p) (upd H p (.lst (ls.map f)))):oF (Itl K l) (K7 K 3 (Ai (et 0) (Ai (et 1) (Ai (et 2) K6)))) um te cm σ Q H:=by
 obtain ⟨as,hS,hlen,hT⟩:=hL
 refine mI ls.length (fun i acc H'=>H'=H/\acc=(ls.take i).map f) ⟨rfl,by simp⟩ ?_ ?_ ?_ ?_
 ·rintro i acc H' hi ⟨rfl,_⟩
  have ha:as[i]?=some as[i]:=List.getElem?_eq_getElem (by omega)
  exact ⟨_,.ref as[i],hS,by rw [List.getElem?_map,ha];rfl⟩
 ·rintro acc H' ⟨rfl,_⟩
  exact ⟨_,hS,by rw [WB];omega⟩
 ·rintro i acc H' hi ⟨rfl,rfl⟩
  have ha:as[i]?=some as[i]:=List.getElem?_eq_getElem (by omega)
  have hx:ls[i]?=some ls[i]:=List.getElem?_eq_getElem hi
  refine ⟨by rw [WB,List.length_take];omega,fun x H2 y M hM=>?_⟩
  obtain ⟨e,y⟩:=y
  subst e
  have hy:=y _ hS
  rw [List.getElem?_map,ha] at hy
  cases hy
  rw [hcm]
  refine ⟨_,_,rfl,hT i _ _ ha hx,rfl,_,_,rfl,_,_,rfl,_,_,rfl,rfl,⟨rfl,fun k v e=>?_⟩,?_⟩
  ·match k,e with
   | 0,e=>cases e
   | 1,e=>cases e
   | 2,e=>cases e
  ·unfold um;dsimp only
   split
   ·refine he ls[i] (List.getElem_mem _) _ (hM _ _ ⟨rfl,?_⟩)
    rw [List.take_succ_eq_append_getElem hi,List.map_append];rfl
   ·rename_i z;exact absurd rfl z
 ·rintro acc H' ⟨rfl,rfl⟩ p hp
  rw [List.take_length]
  exact hd p hp
theorem zj {n:Nat}{i:Int}(h0:0<=i)(h1:i < n):ixN n i=some i.toNat:=by
 unfold ixN
 rw [if_pos h0,if_pos h1]
theorem cH {ds:List Int}{i:Nat}(h:i < ds.length):ds.getD i 0∈ds:=by
 rw [List.getD_eq_getElem?_getD,List.getElem?_eq_getElem h]
 exact List.getElem_mem h
theorem kF {ds:List Int}{i:Nat}(h:i < ds.length):ds[i]?=some (ds.getD i 0):=by
 rw [List.getD_eq_getElem?_getD,List.getElem?_eq_getElem h];rfl
theorem ye {c:Int}(h0:0<=c)(h1:c < 2):atI [V.int 10,V.int 11] c=some (.int (10+c)):=by
 rcases (by omega:c=0\/c=1) with rfl | rfl<;>rfl
theorem E2 {ws:List Int}{k:Int}{i:Nat}(hi:i < ws.length)(he:ws.getD i 0=k)(hn:∀j,j < i->ws.getD j 0≠k):ws.idxOf k=i:=by
 have hm:k∈ws:=he▸cH hi
 have hlt:ws.idxOf k < ws.length:=List.idxOf_lt_length_iff.mpr hm
 have e1:ws.getD (ws.idxOf k) 0=k:=by
  rw [List.getD_eq_getElem?_getD,List.getElem?_eq_getElem hlt]
  exact List.getElem_idxOf hlt
 rcases Nat.lt_trichotomy (ws.idxOf k) i with h | h | h
 ·exact absurd e1 (hn _ h)
 ·exact h
 ·have:=ne_of_lt_idxOf (ns:=ws) (k:=k) h (by omega)
  rw [List.getD_eq_getElem?_getD,List.getElem?_eq_getElem hi] at he
  exact absurd he (by simpa using this)
section
variable {X:Cx}
theorem CC {tg iter elt:Expr}{ifs:List Expr}{scope:Scope}{pos spos py:Pos}{Nc:List Str}{cm:List (Option Nat)}{wi:TI}{g:TG}{tc:TT}{te:TE}{iy:Nat}{y:Str}(hN:X.N.Nodup)(hiy:X.N[iy]?=some y)(hly:X.env.scope.names.lookup y=some .local)
  (hsw:swapsWith (.ListComp elt [⟨tg,iter,ifs,0⟩] scope pos) (some (.Name y py)) spos.line X.env=pure true)
  (hc:X.calm=true) (hi:PI X tg iter wi) (hkind:scope.kind=.function) (hcell:∀y∈scope.names,y.2≠.cell) (hnames:∀y∈scope.names,y.2=.local->scope.names.lookup y.1=some .local)
  (hfree:∀y∈scope.names,y.2=.free->X.env.kindOf y.1=some .cell\/X.env.kindOf y.1=some .free) (hlen:cm.length=Nc.length)
  (hcm:∀(j:Nat) (x:Str) (i:Nat),Nc[j]?=some x->cm[j]?=some (some i)->X.N[i]?=some x/\scope.names.lookup x=some .free/\(X.env.kindOf x=some .cell\/X.env.kindOf x=some .free))
  (hg:∀C s₀ H₀ ex,PG (blk X Nc scope C s₀ H₀ ex) tg g) (ht:∀C s₀ H₀ ex,PIf (blk X Nc scope C s₀ H₀ ex) ifs tc) (he:∀C s₀ H₀ ex,PE (blk X Nc scope C s₀ H₀ ex) elt te)
  (hs:∀x,foldedSetIterable iter X.env x=pure x:=by intro _;rfl):PS X (.Assign [.Name y py] (.ListComp elt [⟨tg,iter,ifs,0⟩] scope pos) spos) (Aj (uY wi g tc te cm) (et iy)):=by
 intro pins s σ H D0 I h
 rw [exec_Assign_Name_used _ _ _ _ hsw]
 refine wpAny_bind (wpAny_standAt (wpAny_bind ?_))
 show wpAny _ X.A (do let _ ←comprehension (.ListComp elt [⟨tg,iter,ifs,0⟩] scope pos) scope X.env _ (newList []) false (eval iter X.env) (some (assign (.Name y py) X.env))) _ _ s
 refine wpAny_bind (wpAny_mono (Q:=fun _ s'=>SP X pins D0 .next s') ?_ (fun _ s' hq=>wpAny_pure (wpAny_pure hq)) fun _ _ e=>e)
 have hfr:∀y∈scope.names,y.2=.free->∃c,X.env.cells.lookup y.1=some c:=fun y hy e=>I.ok.has y.1 (hfree y hy e)
 refine wpAny_comprehension_free (use:=some (assign (.Name y py) X.env)) (Q:=fun _ s'=>SP X pins D0 .next s') rfl hs (iT hfr) hkind hnames (thn (hi pins s σ H _ I h) fun v s1 h1=>thn h1 fun itv s2 h2=>?_)
 obtain ⟨it,fp,tn,J,H2,e,I2,T,st2,f2,W,⟨m0,w0⟩,turn⟩:=h2
 subst e
 refine wpAny_newObj_type (wpAny_newFunctionEnv hcell (by intro y hy;simp at hy) (fun h₁ hns₁ hsb₁=>?_) hkind)
 dsimp only at hns₁ hsb₁ ⊢
 have keepA:∀b u,(s2.heap.push {cls:=.type "list",dict:=none,data:=.seq ([]:List Value).toArray}).get? b=some u->h₁.get? b=some u:=fun b u q=>(hsb₁.2 b (Nat.ne_of_lt (Heap.lt_size q))).trans (Heap.get?_push_of_some _ q)
 refine r8 (yo:=none) (QV:=fun x H1=>et iy x σ H1 D0.nx) hc hkind (fun z hz e=>absurd e (hcell z hz)) (fun _ e=>by cases e) hfr hlen hcm hg ht he I2 T st2 f2 w0 turn hns₁ keepA (fun _ e=>by cases e) (fun s6 H5 acc m hm fc J qn _=>?_)
 obtain ⟨fc0,fc1,fc2,fc3,fc4,fc5⟩:=fc
 refine wpAny_assign_Name (rS (s:=s6) (v:=.ref s2.heap.objs.size) (J s6.heap ⟨rfl,fun _ _=>rfl⟩) hN hiy (.inl hly) rfl (fun s7 J9 hsa=>?_) (.inr hly))
 obtain ⟨aa,hsa,hwh⟩:=hsa
 exact ⟨m,hm.sameBut hsa (by rcases hwh with z | z;rw [z];exact fc1;exact (fc4 _ _ z).symm),fun h7 hs7=>⟨_,_,J9.turned (it:=(s2.heap.push {cls:=.type "list",dict:=none,data:=.seq ([]:List Value).toArray}).objs.size) (t':=s7.toks) (fun b o hb hu=>(hs7.2 b hb).trans hu) fc0 fc1 fc3 fc4 fc5,qn⟩⟩
end
theorem AB {X:Cx}{tg iter elt:Expr}{ifs:List Expr}{scope:Scope}{pos spos py:Pos}(Nc:List Str)(cm:List (Option Nat)){wi:TI}{g:TG}{tc:TT}{te:TE}{iy:Nat}{y:Str}(hN:X.N.Nodup)(hiy:X.N[iy]?=some y)(hly:X.env.scope.names.lookup y=some .local)
  (hi:PI X tg iter wi) (hg:∀C s₀ H₀ ex,PG (blk X Nc scope C s₀ H₀ ex) tg g) (ht:∀C s₀ H₀ ex,PIf (blk X Nc scope C s₀ H₀ ex) ifs tc) (he:∀C s₀ H₀ ex,PE (blk X Nc scope C s₀ H₀ ex) elt te)
  (hsw:swapsWith (.ListComp elt [⟨tg,iter,ifs,0⟩] scope pos) (some (.Name y py)) spos.line X.env=pure true:=by rfl)
  (hc:X.calm=true:=by rfl) (hkind:scope.kind=.function:=by rfl) (hcell:∀y∈scope.names,y.2≠.cell:=by decide +kernel) (hnames:∀y∈scope.names,y.2=.local->scope.names.lookup y.1=some .local:=by decide +kernel)
  (hfree:Cr X scope=true:=by rfl) (hlen:cm.length=Nc.length:=by rfl) (hcm:LA X scope Nc cm=true:=by rfl)
  (hs:∀x,foldedSetIterable iter X.env x=pure x:=by intro _;rfl):PS X (.Assign [.Name y py] (.ListComp elt [⟨tg,iter,ifs,0⟩] scope pos) spos) (Aj (uY wi g tc te cm) (et iy)):=by
 refine CC hN hiy hly hsw hc hi hkind hcell hnames (fun y hy e=>?_) hlen (fun j x i e1 e2=>?_) hg ht he hs
 ·have h:=List.all_eq_true.mp hfree y hy
  rw [e] at h
  simpa using h
 ·have hj:(Nc.zip cm)[j]?=some (x,some i):=by
   rw [List.getElem?_zip_eq_some];exact ⟨e1,e2⟩
  have h:=List.all_eq_true.mp hcm _ (List.mem_of_getElem? hj)
  simpa using h
theorem fM.calm {P:Program}{w:World}{K:WA}{mg:Str->Option Value}{base:Heap}{k:Nat}{f:Addr}{fd:FuncData}{ps:List Str}{sp:Sp}(F:fM P w K mg base (CXf P w) k f fd ps sp)
  (h:∀vs H Q E,sp vs H Q E->sp vs H Q E0):fM P w K mg base CX0 k f fd ps sp:=by
 refine ⟨F.len,fun A outer s H args us vs Q E hr he hb hv hs=>?_⟩
 refine codeAny_mono (F.run A outer s H args us vs Q E0 hr he hb hv (h _ _ _ _ hs)) fun r s' q=>?_
 cases r with
 | ok fl=>cases fl<;>exact q
 | error e=>
  obtain ⟨x,cls,a0,H',B,_,_,_,_,_,_,_,_,_,z⟩:=q
  exact z.elim
def cR {α:Type}(f:α->List V)(K:WA)(H:Hp)(as:List Addr)(ls:List α):Prop:=as.length=ls.length/\∀(i:Nat) a x,as[i]?=some a->ls[i]?=some x->SqT K H a (f x)
def jR {α:Type}(f:α->List V)(K:WA)(H:Hp)(l:Addr)(ls:List α):Prop:=∃as:List Addr,SqL K H l (as.map V.ref)/\cR f K H as ls
section
variable {α:Type}{f:α->List V}{K:WA}{H H':Hp}{as bs:List Addr}{ls ks:List α}{l p:Addr}
theorem cR.same (s:aq H H')(h:cR f K H as ls):cR f K H' as ls:=⟨h.1,fun i a x e1 e2=>s.tup (h.2 i a x e1 e2)⟩
theorem jR.same (s:aq H H')(h:jR f K H l ls):jR f K H' l ls:=by
 obtain ⟨as,a,b⟩:=h
 exact ⟨as,s.seq a,b.same s⟩
theorem cR.nil:cR f K H [] []:=⟨rfl,fun i a x e _=>by simp at e⟩
theorem cR.app (h:cR f K H as ls)(g:cR f K H bs ks):cR f K H (as++bs) (ls++ks):=by
 refine ⟨by rw [List.length_append,List.length_append,h.1,g.1],fun i a x e1 e2=>?_⟩
 by_cases hi:i < as.length
 ·rw [List.getElem?_append_left hi] at e1
  rw [List.getElem?_append_left (by rw [←h.1];exact hi)] at e2
  exact h.2 i a x e1 e2
 ·rw [List.getElem?_append_right (by omega)] at e1
  rw [List.getElem?_append_right (by rw [←h.1];omega),←h.1] at e2
  exact g.2 _ a x e1 e2
theorem cR.one {a:Addr}{x:α}(h:SqT K H a (f x)):cR f K H [a] [x]:=by
 refine ⟨rfl,fun i b y e1 e2=>?_⟩
 cases i with
 | zero=>cases e1;cases e2;exact h
 | succ i=>simp at e1
theorem cR.rew {ys:List V}{o:HO}(h:cR f K H as ls)(hl:H l=some (.lst ys)):cR f K (upd H l o) as ls:=⟨h.1,fun i a x e1 e2=>(h.2 i a x e1 e2).rew hl⟩
theorem cR.keep {ys:List V}(s:aA p H H')(hp:H p=some (.lst ys))(h:cR f K H as ls):cR f K H' as ls:=⟨h.1,fun i a x e1 e2=>(h.2 i a x e1 e2).keep s hp⟩
theorem cR.keepI {C dx:Addr}{fs:List (Str×V)}(s:aA p H H')(hp:H p=some (.ins C dx fs))(h:cR f K H as ls):cR f K H' as ls:=⟨h.1,fun i a x e1 e2=>(h.2 i a x e1 e2).keepI s hp⟩
theorem jR.keepI {C dx:Addr}{fs:List (Str×V)}(s:aA p H H')(hp:H p=some (.ins C dx fs))(h:jR f K H l ls):jR f K H' l ls:=by
 obtain ⟨as,a,b⟩:=h
 exact ⟨as,a.keepI s hp,b.keepI s hp⟩
end
noncomputable abbrev Cd:=Int×Int
noncomputable def cdV (x:Cd):List V:=[.int x.1,.int x.2]
def eL (x:Cd):Prop:=(1<=x.1/\x.1<=9)/\(1<=x.2/\x.2<=9)/\x.1≠x.2
end L2
namespace L2
open PySem PySem.Spec PyProof.Rows PySem.SeqAt
theorem uo {M:Model}{A:Around}{E:Value->Shared->Prop}{s:Shared}{β:Type}{c:β}{f:Nat->β->Sem (ForInStep β)}{Q:β->Shared->Prop}{n:Nat}(hn:n=2)
  (h:wpAny M A (f 0 c) (fun r s1=>match r with | .done b=>Q b s1 | .yield b=>wpAny M A (f 1 b) (fun r s2=>match r with | .done b=>Q b s2 | .yield b=>Q b s2) E s1) E s) :
  wpAny M A (forIn ([:n]:Std.Legacy.Range) c f) Q E s:=by
 subst hn
 rw [Std.Legacy.Range.forIn_eq_forIn_range']
 show wpAny M A (forIn [0,1] c f) Q E s
 rw [List.forIn_cons]
 refine wpAny_bind (wpAny_mono h ?_ (fun _ _ z=>z))
 intro r s1 h1
 cases r with
 | done b=>exact wpAny_pure h1
 | yield b=>
  show wpAny M A (forIn [1] b f) Q E s1
  rw [List.forIn_cons]
  refine wpAny_bind (wpAny_mono h1 ?_ (fun _ _ z=>z))
  intro r s2 h2
  cases r with
  | done b=>exact wpAny_pure h2
  | yield b=>
   show wpAny M A (forIn [] b f) Q E s2
   rw [List.forIn_nil]
   exact wpAny_pure h2
theorem zk (l:Addr)(items:Array Value)(a b:Value)(n:Nat)(dd:Option Addr)(sl:Array (Option Value))(x:Value)(e0 e1:Bool)(he:(e0 || e1)=true)(hsz:items.size=2)(i0:items[0]?=some a)(i1:items[1]?=some b) :
  Meets (Builtin.«tuple.index» ⟨[.ref l,x],[]⟩)
   (fun A R s=>s.heap.get? l=some {cls:=.type "tuple",dict:=dd,data:=.seq items n,slots:=sl}/\EqAt A.in1 s a x e0/\EqAt A.in1 s b x e1/\R (.ok (.ret (.int (if e0=true then 0 else 1) s.toks))) {s with toks:=s.toks+1}):=
 .of_wp fun prog w A R s h=>by
  obtain ⟨hp,g,d,tk,os⟩:=s;obtain ⟨hl,h0,h1,h⟩:=h
  wp_walk using wpAny_loadPart' hl,uo (show min items.size items.size=2 by omega)
  rw [i0]
  refine wpAny_bind (h0 prog w _ _ ?_)
  cases e0 with
  | true=>
   wp_walk
   exact ⟨_,rfl,h⟩
  | false=>
   wp_walk
   rw [i1]
   refine wpAny_bind (h1 prog w _ _ ?_)
   have e1t:e1=true:=by simpa using he
   subst e1t
   wp_walk
   exact ⟨_,rfl,h⟩
section
variable {X:Cx}
noncomputable def Ec (K:WA):V->List V->Hp->VK->Prop:=fun x vs H Q=>∃(l:Addr) (a b k:V),x=.ref l/\vs=[k]/\SqT K H l [a,b]/\bO a=true/\bO b=true/\bO k=true/\(eqV a k || eqV b k)=true/\Q (.int (if eqV a k=true then 0 else 1)) H
theorem E3:MtR X "tuple.index" (Ec X.K):=by
 intro pins s σ H x vs v us Q I rx rv h
 obtain ⟨l,a,b,k,rfl,rfl,hq,fa,fb,fk,hk,q⟩:=h
 cases rx
 obtain ⟨u,rfl,ru⟩:=rv.one
 obtain ⟨its,r,pl,hz⟩:=I.tuple hq
 obtain ⟨u1,u2,rfl,r1,r2⟩:=r.two
 obtain ⟨⟨cls,dd,data,sl⟩,ho,hc,n,hd⟩:=id pl
 simp only at hc hd
 subst hc hd
 refine call_meets PySem.F.slot_tuple_index ⟨_,ho,rfl⟩ PySem.F.entry_tuple_index (PySem.F.args_tuple_index_2 _ _)
  (zk l _ u1 u2 n dd sl u (eqV a k) (eqV b k) hk rfl rfl rfl) ⟨ho,rZ r1 ru fa fk,rZ r2 ru fb fk,?_⟩
 exact ⟨.int _,H,I.tok _,⟨_,rfl⟩,q⟩
noncomputable def M5 (K:WA):R2:=fun x y H Q=>∃a b xs ys,x=.ref a/\y=.ref b/\SqT K H a xs/\SqT K H b ys/\xs.all bO=true/\ys.all bO=true/\Q (.bl (!eqL xs ys)) H
theorem IJ {xs ys:List V}:((List.range (min xs.length ys.length)).all (fun j=>eqV (xs.getD j .non) (ys.getD j .non)) && xs.length == ys.length)=eqL xs ys:=by
 by_cases hl:xs.length=ys.length
 ·rw [show min xs.length ys.length=xs.length by omega,uJ hl,hl]
  simp
 ·have e:eqL xs ys=false:=by
   cases z:eqL xs ys with
   | false=>rfl
   | true=>exact absurd (uI z) hl
  rw [e]
  simp [hl]
theorem LN (hu:X.A.units < cLine):OpR X (compareOp .NotEq) (M5 X.K):=by
 intro pins s σ H x y u v Q I rx ry h
 obtain ⟨a,b,xs,ys,rfl,rfl,ha,hb,fa,fb,q⟩:=h
 cases rx;cases ry
 obtain ⟨ia,ra,pa,za⟩:=I.tuple ha
 obtain ⟨ib,rb,pb,zb⟩:=I.tuple hb
 have la:=ra.length
 have lb:=rb.length
 refine RcNeAt.tuples (e:=fun j=>eqV (xs.getD j .non) (ys.getD j .non)) pa pb hu (fun j h1 h2=>?_) X.prog X.w _ _ ?_
 ·simp only [List.size_toArray] at h1 h2
  have hx:xs[j]?=some (xs.getD j .non):=by
   rw [List.getD_eq_getElem?_getD,List.getElem?_eq_getElem (by omega)];rfl
  have hy:ys[j]?=some (ys.getD j .non):=by
   rw [List.getD_eq_getElem?_getD,List.getElem?_eq_getElem (by omega)];rfl
  obtain ⟨u,eu,ru⟩:=ra.get hx
  obtain ⟨v,ev,rv⟩:=rb.get hy
  have e1:ia.toArray[j]=u:=by
   have:=List.getElem?_eq_some_iff.mp eu
   simpa using this.2
  have e2:ib.toArray[j]=v:=by
   have:=List.getElem?_eq_some_iff.mp ev
   simpa using this.2
  rw [e1,e2]
  exact rZ ru rv (List.all_eq_true.mp fa _ (List.mem_of_getElem? hx)) (List.all_eq_true.mp fb _ (List.mem_of_getElem? hy))
 ·have e:=IJ (xs:=xs) (ys:=ys)
  simp only [List.size_toArray]
  rw [←la,←lb,e]
  exact ⟨.bl (!eqL xs ys),H,I,rfl,q⟩
end
end L2
namespace L2
open PySem PySem.Spec PyProof.Rows
inductive Eng where
 | no | wait (l r:Int) | armed (l r:Int) | other (l r s:Int) | used (l r:Int)
 deriving DecidableEq
noncomputable def lz:Eng->List V
 | .no=>[.str "not rung",.non,.non,.non]
 | .wait l r=>[.str "not repeated",.int l,.int r,.non]
 | .armed l r=>[.str "armed",.int l,.int r,.int r]
 | .other l r s=>[.str "repeated otherwise",.int l,.int r,.int s]
 | .used l r=>[.str "used up",.int l,.int r,.int r]
theorem sg (e:Eng):∀x∈lz e,bO x=true:=by cases e<;>simp [lz,bO]
theorem AD (e:Eng):(lz e).length=4:=by cases e<;>rfl
theorem aA.free {p x:Addr}{H H':Hp}(k:aA p H H')(n:x≠p)(h:H' x=none):H x=none:=by
 cases e:H x with
 | none=>rfl
 | some o=>have:=k x o n e;rw [h] at this;cases this
theorem LO {ls:List Cd}{n:Nat}:(ls.map fun _=>false).getD n false=false:=by
 rw [List.getD_eq_getElem?_getD,List.getElem?_map]
 cases ls[n]?<;>rfl
structure bC (C:Addr)(K:WA)(H:Hp)(b cs fl st:Addr)(ls:List Cd)(fs:List Bool)(e:Eng):Prop where
 ob:∃dx,H b=some (.ins C dx [("codes",.ref cs),("failed",.ref fl),("state",.ref st)])
 oc:∃as:List Addr,H cs=some (.lst (as.map V.ref))/\cR cdV K H as ls
 of:H fl=some (.lst (fs.map V.bl))
 os:SqT K H st (lz e)
 nn:cs≠fl
 ln:fs.length=ls.length
theorem bC.rows {C:Addr}{K:WA}{H:Hp}{b cs fl st:Addr}{ls:List Cd}{fs:List Bool}{e:Eng}(h:bC C K H b cs fl st ls fs e):jR cdV K H cs ls:=by
 obtain ⟨as,a,t⟩:=h.oc
 exact ⟨as,SqL.of a,t⟩
theorem bC.same {C:Addr}{K:WA}{H H':Hp}{b cs fl st:Addr}{ls:List Cd}{fs:List Bool}{e:Eng}(h:bC C K H b cs fl st ls fs e)(s:aq H H'):bC C K H' b cs fl st ls fs e:=by
 obtain ⟨⟨dx,a⟩,⟨as,c,t⟩,f,g,n,l⟩:=h
 exact ⟨⟨dx,s _ _ a⟩,⟨as,s _ _ c,t.same s⟩,s _ _ f,s.tup g,n,l⟩
theorem bC.state {C:Addr}{K:WA}{H H':Hp}{b cs fl st st' dx:Addr}{ls:List Cd}{fs:List Bool}{e e':Eng}(h:bC C K H b cs fl st ls fs e)(k:aA b H H')
  (a:H' b=some (.ins C dx [("codes",.ref cs),("failed",.ref fl),("state",.ref st')])) (g:SqT K H' st' (lz e')):bC C K H' b cs fl st' ls fs e':=by
 obtain ⟨⟨dx0,a0⟩,⟨as,c,t⟩,f,_,n,l⟩:=h
 exact ⟨⟨dx,a⟩,⟨as,k _ _ (fun z=>by rw [z,a0] at c;cases c) c,t.keepI k a0⟩,k _ _ (fun z=>by rw [z,a0] at f;cases f) f,g,n,l⟩
theorem bC.fail {C:Addr}{K:WA}{H H':Hp}{b cs fl st:Addr}{ls:List Cd}{fs fs':List Bool}{e:Eng}(h:bC C K H b cs fl st ls fs e)(k:aA fl H H')(g:H' fl=some (.lst (fs'.map V.bl)))(hl:fs'.length=fs.length):bC C K H' b cs fl st ls fs' e:=by
 obtain ⟨⟨dx0,a0⟩,⟨as,c,t⟩,f,o,n,l⟩:=h
 exact ⟨⟨dx0,k _ _ (fun z=>by rw [z,f] at a0;cases a0) a0⟩,⟨as,k _ _ n c,t.keep k f⟩,g,o.keep k f,n,hl.trans l⟩
noncomputable def eM (ls:List Cd)(l:Int):Cd:=ls.getD l.toNat (0,0)
noncomputable def cz (ls:List Cd)(l:Int)(k:Str):Int:=if k="men" then (eM ls l).1 else (eM ls l).2
theorem lA {K:WA}{H:Hp}{as:List Addr}{ls:List Cd}{l:Int}(t:cR cdV K H as ls)(h0:0<=l)(h1:l < ls.length):∃a,atI (as.map V.ref) l=some (.ref a)/\SqT K H a (cdV (eM ls l)):=by
 obtain ⟨n,rfl⟩:=Int.eq_ofNat_of_zero_le h0
 have hn:n < ls.length:=by omega
 have ha:as[n]?=some (as[n]'(by rw [t.1];exact hn)):=List.getElem?_eq_getElem _
 refine ⟨as[n]'(by rw [t.1];exact hn),lu (by rw [List.getElem?_map,ha];rfl),t.2 n _ _ ha ?_⟩
 rw [eM,Int.toNat_natCast,List.getD_eq_getElem?_getD,List.getElem?_eq_getElem hn];rfl
theorem jS {fs:List Bool}{l:Int}(h0:0<=l)(h1:l < fs.length):atI (fs.map V.bl) l=some (.bl (fs.getD l.toNat false)):=by
 obtain ⟨n,rfl⟩:=Int.eq_ofNat_of_zero_le h0
 have hn:n < fs.length:=by omega
 refine lu ?_
 rw [List.getElem?_map,List.getElem?_eq_getElem hn,Int.toNat_natCast,List.getD_eq_getElem?_getD,List.getElem?_eq_getElem hn];rfl
noncomputable def lvl (ds:List Int)(d:Int):Option Int:=if d∈ds then some (ds.idxOf d:Nat) else none
noncomputable def lvV:Option Int->V
 | none=>.non
 | some i=>.int i
theorem iV {ds:List Int}(h:cf ds){i:Nat}{d:Int}(hi:i < ds.length)(e:ds.getD i 0=d):lvl ds d=some (i:Int):=by
 have hm:d∈ds:=e▸cH hi
 rw [lvl,if_pos hm]
 have hlt:=List.idxOf_lt_length_iff.mpr hm
 have e2:ds.getD (ds.idxOf d) 0=d:=by
  rw [List.getD_eq_getElem?_getD,List.getElem?_eq_getElem hlt]
  exact List.getElem_idxOf hlt
 have:ds.idxOf d=i:=by
  rcases Nat.lt_trichotomy (ds.idxOf d) i with z | z | z
  ·have:=h.lt z hi;omega
  ·exact z
  ·have:=h.lt z hlt;omega
 rw [this]
theorem AE {ds:List Int}{d:Int}(h:∀i,i < ds.length->ds.getD i 0≠d):lvl ds d=none:=by
 rw [lvl,if_neg fun hm=>?_]
 have hlt:=List.idxOf_lt_length_iff.mpr hm
 refine h _ hlt ?_
 rw [List.getD_eq_getElem?_getD,List.getElem?_eq_getElem hlt]
 exact List.getElem_idxOf hlt
noncomputable def aT (ds:List Int)(p c:Int):Option Int:=if c=0 then lvl ds p else lvl ds (cu ds - p)
inductive Stp where
 | wind (c l:Int) | load (k c:Int) | unload (k c:Int)
noncomputable def M6 (lv:Option Int)(x:List Int):Stp->Option (List Int)
 | .wind _ _=>none
 | .load k c=>match lv with | none=>none | some l=>if x.getD (k.toNat+1) 0=l/\¬10+c∈x.tail then some (x.set (k.toNat+1) (10+c)) else none
 | .unload k c=>match lv with | none=>none | some l=>if x.getD (k.toNat+1) 0=10+c then some (x.set (k.toNat+1) l) else none
noncomputable def LP:Stp->Int
 | .wind c _=>c
 | .load _ c=>c
 | .unload _ c=>c
noncomputable def stK:Stp->Int
 | .wind _ _=>0
 | .load k _=>k
 | .unload k _=>k
noncomputable def after (ds dead:List Int)(x:List Int):Stp->Option (List Int)
 | .wind c l=>if l < 0\/(ds.length:Int)<=l\/l∈dead then none else some ((if c=0 then ds.getD l.toNat 0 else cu ds - ds.getD l.toNat 0)::x.tail)
 | s=>if stK s < 0\/(x.length:Int)<=stK s+1 then none else M6 (aT ds (x.getD 0 0) (LP s)) x s
theorem M7 {K:WA}{H:Hp}{Q:VK}{a b:Addr}{xs ys:List V}(ha:SqT K H a xs)(hb:SqT K H b ys)(n0:xs≠[])(hn:xs.length+ys.length<=1000)(q:∀p H',aq H H'->SqT K H' p (xs++ys)->Q (.ref p) H'):Kl K (.ref a) (.ref b) H Q:=by
 refine ⟨a,b,xs,ys,rfl,rfl,ha,hb,n0,Nat.le_of_lt (cy hn),fun e=>?_,fun _ p hp=>q p _ ((aq.refl H).lay hp) (SqT.of ag)⟩
 subst e
 exact q a H (aq.refl H) (by rw [List.append_nil];exact ha)
theorem mK {K:WA}{H:Hp}{a:Addr}{xs:List Int}{n:Nat}(h:SqL K H a (xs.map V.int))(hb:xs.length<=100000):Rep K H (n+1) (.ref a) (.lst ((xs.map V.int).map Dt.flat)):=by
 refine .lst h (by rw [WB];exact hb) (by simp) fun i y d e1 e2=>?_
 rw [List.getElem?_map,e1] at e2
 cases e2
 obtain ⟨z,rfl,_⟩:=lr e1
 exact .flat rfl
theorem AF {K:WA}{H:Hp}{a:Addr}{x y:V}{d e:Dt}{n:Nat}(h:SqL K H a [x,y])(h1:Rep K H n x d)(h2:Rep K H n y e):Rep K H (n+1) (.ref a) (.lst [d,e]):=by
 refine .lst h (by show 2<=100000;decide) rfl fun i v w e1 e2=>?_
 match i,e1,e2 with
 | 0,e1,e2=>cases e1;cases e2;exact h1
 | 1,e1,e2=>cases e1;cases e2;exact h2
 | i+2,e1,e2=>simp at e1
section
variable {X:Cx}
noncomputable def Kq (K:WA):R2:=fun x y H Q=>∃a b xs ys,x=.ref a/\y=.ref b/\SqT K H a xs/\SqT K H b ys/\xs.length+ys.length<=1000/\∀p H',aq H H'->SqT K H' p (xs++ys)->Q (.ref p) H'
theorem IK:OpR X (binaryOp .Add) (Kq X.K):=by
 intro pins s σ H x y v u Q I rx ry h
 obtain ⟨a,b,xs,ys,rfl,rfl,ha,hb,hz,q⟩:=h
 by_cases hx:xs=[]
 ·subst hx
  cases rx
  cases ry
  obtain ⟨its,r1,p1,_⟩:=I.tuple ha
  obtain ⟨its2,r2,p2,_⟩:=I.tuple hb
  have e1:=r1.zero
  subst e1
  obtain ⟨⟨cls,dd,data,sl⟩,ho,hc,n,hd⟩:=id p1
  obtain ⟨⟨cls2,dd2,data2,sl2⟩,ho2,hc2,n2,hd2⟩:=id p2
  simp only at hc hd hc2 hd2
  subst hc hd hc2 hd2
  exact concat_meets ⟨_,ho,rfl⟩ ⟨_,ho2,rfl⟩ noFill_tuple_add seq_tuple_add PySem.F.slot_tuple_add PySem.F.entry_tuple_add (PySem.F.args_tuple_add_2 _ _)
   (tuple_addW0 a b _ its2.toArray n n2 dd dd2 sl sl2 rfl) ⟨ho,ho2,⟨.ref b,H,I,rfl,q b H (aq.refl H) hb⟩⟩
 ·exact DK pins s σ H _ _ v u Q I rx ry (M7 ha hb hx hz q)
end
theorem GF:∀{xs ys:List Int},xs.Pairwise (· < ·)->ys.Pairwise (· < ·)->(∀k,k∈xs↔k∈ys)->xs=ys
 | [],[],_,_,_=>rfl
 | [],y::ys,_,_,h=>absurd ((h y).mpr List.mem_cons_self) (by simp)
 | x::xs,[],_,_,h=>absurd ((h x).mp List.mem_cons_self) (by simp)
 | x::xs,y::ys,hx,hy,h=>by
  obtain ⟨x1,x2⟩:=List.pairwise_cons.mp hx
  obtain ⟨y1,y2⟩:=List.pairwise_cons.mp hy
  have e:x=y:=by
   rcases List.mem_cons.mp ((h x).mp List.mem_cons_self) with e | e
   ·exact e
   ·rcases List.mem_cons.mp ((h y).mpr List.mem_cons_self) with e' | e'
    ·exact e'.symm
    ·have:=y1 x e
     have:=x1 y e'
     omega
  subst e
  rw [GF x2 y2 fun k=>?_]
  constructor
  ·intro hk
   rcases List.mem_cons.mp ((h k).mp (List.mem_cons_of_mem _ hk)) with e | e
   ·have:=x1 k hk
    omega
   ·exact e
  ·intro hk
   rcases List.mem_cons.mp ((h k).mpr (List.mem_cons_of_mem _ hk)) with e | e
   ·have:=y1 k hk
    omega
   ·exact e
noncomputable def NU (row:List Int)(s:Int):Bool:=decide (¬(s=10\/s=11)\/¬s∈row)
structure Cl where
 (B Y S K W:Addr)
structure aM where
 place:Int
 gates:List Bool
 fs:List Bool
 e:Eng
 ws:List Int
structure Cfg where
 ds:List Int
 ls:List Cd
 slow:Int
 fast:Int
 goals:List Int
 ks:List Str
 N:Addr->Prop:=fun _=>False
structure SA where
 (dx ol b cs fl st y kn wh:Addr)
structure M8 (rl:Addr)(A:SA):Prop where
 r1:A.ol≠rl
 r2:A.cs≠rl
 r3:A.fl≠rl
 r4:A.kn≠rl
 r5:A.wh≠rl
 o1:A.cs≠A.ol
 o2:A.fl≠A.ol
 o3:A.kn≠A.ol
 o4:A.wh≠A.ol
 f1:A.ol≠A.fl
 f2:A.kn≠A.fl
 f3:A.wh≠A.fl
 w1:A.ol≠A.wh
 w2:A.cs≠A.wh
 w3:A.fl≠A.wh
 w4:A.kn≠A.wh
structure Off (H:Hp)(rl:Addr)(N:Addr->Prop)(A:SA):Prop where
 al:∀p,N p->∃ys,H p=some (.lst ys)
 nr:∀p,N p->rl≠p
 no:∀p,N p->A.ol≠p
 nc:∀p,N p->A.cs≠p
 nf:∀p,N p->A.fl≠p
 nk:∀p,N p->A.kn≠p
 nw:∀p,N p->A.wh≠p
theorem Off.keep {H H':Hp}{rl q:Addr}{N:Addr->Prop}{A:SA}(h:Off H rl N A)(k:aA q H H')(hq:∀p,N p->q≠p):Off H' rl N A:=⟨fun p hp=>by
 obtain ⟨ys,e⟩:=h.al p hp
 exact ⟨ys,k _ _ (hq p hp).symm e⟩,h.nr,h.no,h.nc,h.nf,h.nk,h.nw⟩
theorem Off.same {H H':Hp}{rl:Addr}{N:Addr->Prop}{A:SA}(h:Off H rl N A)(k:aq H H'):Off H' rl N A:=⟨fun p hp=>by
 obtain ⟨ys,e⟩:=h.al p hp
 exact ⟨ys,k _ _ e⟩,h.nr,h.no,h.nc,h.nf,h.nk,h.nw⟩
theorem Off.keepI {H H':Hp}{rl q C dx:Addr}{fs:List (Str×V)}{N:Addr->Prop}{A:SA}(h:Off H rl N A)(k:aA q H H')(hq:H q=some (.ins C dx fs)):Off H' rl N A:=h.keep k fun p hp z=>by
 obtain ⟨ys,e⟩:=h.al p hp
 rw [←z,hq] at e
 cases e
structure aU (C:Cl)(K:WA)(H:Hp)(rl:Addr)(g:Cfg)(s:Addr)(A:SA)(n:aM):Prop where
 ob:H s=some (.ins C.S A.dx [("place",.int n.place),("opened",.ref A.ol),("bells",.ref A.b),("yard",.ref A.y)])
 go:H A.ol=some (.lst (n.gates.map V.bl))
 be:bC C.B K H A.b A.cs A.fl A.st g.ls n.fs n.e
 ya:cY C.Y H A.y A.kn A.wh g.ks n.ws g.ds.length
 ap:M8 rl A
 nn:Off H rl g.N A
def eB (C:Cl)(K:WA)(H:Hp)(rl:Addr)(g:Cfg)(s:Addr)(n:aM):Prop:=∃A,aU C K H rl g s A n
theorem bC.off {C:Addr}{K:WA}{H H':Hp}{p b cs fl st:Addr}{ls:List Cd}{fs:List Bool}{e:Eng}{ys:List V}(h:bC C K H b cs fl st ls fs e)(s:aA p H H')(hp:H p=some (.lst ys))(n1:cs≠p)(n2:fl≠p):bC C K H' b cs fl st ls fs e:=by
 obtain ⟨⟨dx,a⟩,⟨as,c,t⟩,f,g,n,l⟩:=h
 exact ⟨⟨dx,s _ _ (fun z=>by rw [z,hp] at a;cases a) a⟩,⟨as,s _ _ n1 c,t.keep s hp⟩,s _ _ n2 f,g.keep s hp,n,l⟩
theorem bC.offI {C D dp:Addr}{K:WA}{H H':Hp}{p b cs fl st:Addr}{ls:List Cd}{fs:List Bool}{e:Eng}{us:List (Str×V)}(h:bC C K H b cs fl st ls fs e)(s:aA p H H')(hp:H p=some (.ins D dp us))(n1:b≠p):bC C K H' b cs fl st ls fs e:=by
 obtain ⟨⟨dx,a⟩,⟨as,c,t⟩,f,g,n,l⟩:=h
 exact ⟨⟨dx,s _ _ n1 a⟩,⟨as,s _ _ (fun z=>by rw [z,hp] at c;cases c) c,t.keepI s hp⟩,s _ _ (fun z=>by rw [z,hp] at f;cases f) f,g.keepI s hp,n,l⟩
theorem cY.offI {C D dp:Addr}{H H':Hp}{p y kn wh:Addr}{ks:List Str}{ws:List Int}{m:Int}{us:List (Str×V)}(h:cY C H y kn wh ks ws m)(s:aA p H H')(hp:H p=some (.ins D dp us))(n1:y≠p):cY C H' y kn wh ks ws m:=by
 obtain ⟨⟨dx,a⟩,b,c⟩:=h
 exact ⟨⟨dx,s _ _ n1 a⟩,s _ _ (fun z=>by rw [z,hp] at b;cases b) b,s _ _ (fun z=>by rw [z,hp] at c;cases c) c⟩
section
variable {C:Cl}{K:WA}{H H':Hp}{rl s a w bk:Addr}{g:Cfg}{A:SA}{n n0:aM}
theorem aU.same (h:aU C K H rl g s A n)(e:aq H H'):aU C K H' rl g s A n:=⟨e _ _ h.ob,e _ _ h.go,h.be.same e,h.ya.same e,h.ap,h.nn.same e⟩
theorem aU.keep {ys:List V}(h:aU C K H rl g s A n)(e:aA rl H H')(hr:H rl=some (.lst ys)):aU C K H' rl g s A n:=
 ⟨e _ _ (fun z=>by have:=h.ob;rw [z,hr] at this;cases this) h.ob,e _ _ h.ap.r1 h.go,h.be.off e hr h.ap.r2 h.ap.r3,h.ya.off e hr h.ap.r4 h.ap.r5,h.ap,h.nn.keep e h.nn.nr⟩
theorem aU.at (h:aU C K H rl g s A n):eB C K H rl g s n:=⟨A,h⟩
theorem eB.same (h:eB C K H rl g s n)(e:aq H H'):eB C K H' rl g s n:=by
 obtain ⟨A,h⟩:=h
 exact ⟨A,h.same e⟩
theorem eB.keep {ys:List V}(h:eB C K H rl g s n)(e:aA rl H H')(hr:H rl=some (.lst ys)):eB C K H' rl g s n:=by
 obtain ⟨A,h⟩:=h
 exact ⟨A,h.keep e hr⟩
theorem aU.gates (h:aU C K H rl g s A n)(e:aA A.ol H H'){gs:List Bool}(hg:H' A.ol=some (.lst (gs.map V.bl))):aU C K H' rl g s A {n with gates:=gs}:=
 ⟨e _ _ (fun z=>by have:=h.ob;rw [z,h.go] at this;cases this) h.ob,hg,h.be.off e h.go h.ap.o1 h.ap.o2,h.ya.off e h.go h.ap.o3 h.ap.o4,h.ap,h.nn.keep e h.nn.no⟩
structure Row where
 began:Int
 ended:Int
 deed:List V
 speed:Int
 sn:aM
def qx (C:Cl)(K:WA)(H:Hp)(rl:Addr)(g:Cfg)(a:Addr)(r:Row):Prop:=∃dd s,SqT K H a [.int r.began,.int r.ended,.ref dd,.int r.speed,.ref s]/\SqT K H dd r.deed/\eB C K H rl g s r.sn
theorem qx.same {r:Row}(h:qx C K H rl g a r)(e:aq H H'):qx C K H' rl g a r:=by
 obtain ⟨dd,s,h1,h2,h3⟩:=h
 exact ⟨dd,s,e.tup h1,e.tup h2,h3.same e⟩
theorem qx.keep {r:Row}{ys:List V}(h:qx C K H rl g a r)(e:aA rl H H')(hr:H rl=some (.lst ys)):qx C K H' rl g a r:=by
 obtain ⟨dd,s,h1,h2,h3⟩:=h
 exact ⟨dd,s,h1.keep e hr,h2.keep e hr,h3.keep e hr⟩
def si (C:Cl)(K:WA)(H:Hp)(rl:Addr)(g:Cfg)(as:List Addr)(rs:List Row):Prop:=as.length=rs.length/\∀(i:Nat) a r,as[i]?=some a->rs[i]?=some r->qx C K H rl g a r
theorem si.same {as:List Addr}{rs:List Row}(h:si C K H rl g as rs)(e:aq H H'):si C K H' rl g as rs:=⟨h.1,fun i a r e1 e2=>(h.2 i a r e1 e2).same e⟩
theorem si.keep {as:List Addr}{rs:List Row}{ys:List V}(h:si C K H rl g as rs)(e:aA rl H H')(hr:H rl=some (.lst ys)):si C K H' rl g as rs:=⟨h.1,fun i a r e1 e2=>(h.2 i a r e1 e2).keep e hr⟩
theorem si.push {as:List Addr}{rs:List Row}{r:Row}(h:si C K H rl g as rs)(hr:qx C K H rl g a r):si C K H rl g (as++[a]) (rs++[r]):=by
 refine ⟨by rw [List.length_append,List.length_append,h.1];rfl,fun i b x e1 e2=>?_⟩
 by_cases hi:i < as.length
 ·rw [List.getElem?_append_left hi] at e1
  rw [List.getElem?_append_left (by rw [←h.1];exact hi)] at e2
  exact h.2 i b x e1 e2
 ·rw [List.getElem?_append_right (by omega)] at e1
  rw [List.getElem?_append_right (by rw [←h.1];omega),←h.1] at e2
  have hz:i - as.length=0:=by
   have:=(List.getElem?_eq_some_iff.mp e1).1
   simp at this
   omega
  rw [hz] at e1 e2
  cases e1
  cases e2
  exact hr
noncomputable def ai (n0:aM)(rs:List Row):aM:=match rs.getLast? with | none=>n0 | some r=>r.sn
noncomputable def cS (rs:List Row):Int:=match rs.getLast? with | none=>0 | some r=>r.ended
structure BAt (C:Cl)(K:WA)(H:Hp)(bk rl:Addr)(g:Cfg)(n0:aM)(rs:List Row):Prop where
 ob:∃dx f,H bk=some (.ins C.K dx [("first",.ref f),("most",.int 300),("rows",.ref rl)])/\eB C K H rl g f n0
 ro:∃as,H rl=some (.lst (as.map V.ref))/\si C K H rl g as rs
theorem BAt.same {rs:List Row}(h:BAt C K H bk rl g n0 rs)(e:aq H H'):BAt C K H' bk rl g n0 rs:=by
 obtain ⟨⟨dx,f,h1,h2⟩,as,h3,h4⟩:=h
 exact ⟨⟨dx,f,e _ _ h1,h2.same e⟩,as,e _ _ h3,h4.same e⟩
structure WAt (C:Cl)(K:WA)(H:Hp)(w bk rl:Addr)(g:Cfg)(n0:aM)(rs:List Row):Prop where
 ob:∃dx dl gl,H w=some (.ins C.W dx [("depths",.ref dl),("slow",.int g.slow),("fast",.int g.fast),("goals",.ref gl),("log",.ref bk)])/\H dl=some (.lst (g.ds.map V.int))/\H gl=some (.lst (g.goals.map V.int))/\dl≠rl/\gl≠rl/\(∀p,g.N p->dl≠p)/\∀p,g.N p->gl≠p
 bo:BAt C K H bk rl g n0 rs
theorem WAt.same {rs:List Row}(h:WAt C K H w bk rl g n0 rs)(e:aq H H'):WAt C K H' w bk rl g n0 rs:=by
 obtain ⟨⟨dx,dl,gl,h1,h2,h3,h4⟩,h5⟩:=h
 exact ⟨⟨dx,dl,gl,e _ _ h1,e _ _ h2,e _ _ h3,h4⟩,h5.same e⟩
theorem WAt.keep {rs rs':List Row}{ys:List V}(h:WAt C K H w bk rl g n0 rs)(e:aA rl H H')(hr:H rl=some (.lst ys))(hb:BAt C K H' bk rl g n0 rs'):WAt C K H' w bk rl g n0 rs':=by
 obtain ⟨⟨dx,dl,gl,h1,h2,h3,h4,h6⟩,h5⟩:=h
 exact ⟨⟨dx,dl,gl,e _ _ (fun z=>by rw [z,hr] at h1;cases h1) h1,e _ _ h4 h2,e _ _ h6.1 h3,h4,h6⟩,hb⟩
end
theorem di {α:Type}(l:List α):l=[]\/∃l' a,l=l'++[a]:=by
 rcases List.eq_nil_or_concat l with h | ⟨l',a,h⟩
 ·exact .inl h
 ·exact .inr ⟨l',a,by rw [h,List.concat_eq_append]⟩
theorem si.last {C:Cl}{K:WA}{H:Hp}{rl:Addr}{g:Cfg}{as:List Addr}{rs:List Row}{r:Row}(h:si C K H rl g as (rs++[r])):∃as' a,as=as'++[a]/\si C K H rl g as' rs/\qx C K H rl g a r:=by
 have hl:=h.1
 rw [List.length_append,List.length_singleton] at hl
 rcases di as with rfl | ⟨as',a,rfl⟩
 ·cases hl
 ·have hl':as'.length=rs.length:=by rw [List.length_append,List.length_singleton] at hl;omega
  refine ⟨as',a,rfl,⟨hl',fun i b x e1 e2=>?_⟩,?_⟩
  ·have hi:=(List.getElem?_eq_some_iff.mp e1).1
   exact h.2 i b x (by rw [List.getElem?_append_left hi];exact e1) (by rw [List.getElem?_append_left (by omega)];exact e2)
  ·refine h.2 as'.length a r ?_ ?_
   ·rw [List.getElem?_append_right (Nat.le_refl _)];simp
   ·rw [List.getElem?_append_right (by omega),hl'];simp
theorem yf {as:List Addr}{a:Addr}:atI ((as++[a]).map V.ref) (((as++[a]).map V.ref).length - 1:Int)=some (.ref a):=by
 rw [show ((((as++[a]).map V.ref).length:Int) - 1)=((as.length:Nat):Int) by rw [WB,List.length_append];simp]
 exact lu (by rw [List.map_append,List.getElem?_append_right (by rw [WB];exact Nat.le_refl _),WB];simp)
theorem sj (rs:List Row)(r:Row):cS (rs++[r])=r.ended:=by simp [cS]
theorem jD (n0:aM)(rs:List Row)(r:Row):ai n0 (rs++[r])=r.sn:=by simp [ai]
theorem gM {H H':Hp}{x dx:Addr}{o1 o2:HO}(hx:H x=none)(hdx:H dx=none)(kp:aA x (upd (upd H dx o1) x o2) H'):aq H H':=fun b o e=>kp b o (ak e hx) (by rw [aJ (ak e hx),aJ (ak e hdx)];exact e)
theorem fQ {H:Hp}{x dx z:Addr}{o1 o2:HO}(h:upd (upd H dx o1) x o2 z=none):H z=none:=upn (upn h)
noncomputable def AG (ks:List Str)(ws:List Int):Bool:=(ks.zip ws).any fun p=>decide (p.1="men") && decide (p.2=10\/p.2=11)
theorem yg {ks:List Str}{ws:List Int}{i:Nat}(h:∀j k x,j < i->ks[j]?=some k->ws[j]?=some x->(decide (k="men") && decide (x=10\/x=11))=false)(hi:ks.length<=i\/ws.length<=i):AG ks ws=false:=by
 unfold AG
 rw [List.any_eq_false]
 intro p hp
 obtain ⟨j,hj⟩:=List.getElem?_of_mem hp
 rw [List.getElem?_zip_eq_some] at hj
 have h1:=(List.getElem?_eq_some_iff.mp hj.1).1
 have h2:=(List.getElem?_eq_some_iff.mp hj.2).1
 rw [h j p.1 p.2 (by omega) hj.1 hj.2]
 exact Bool.false_ne_true
theorem AH {ks:List Str}{ws:List Int}{i:Nat}{k:Str}{x:Int}(h1:ks[i]?=some k)(h2:ws[i]?=some x)(hk:k="men")(hx:x=10\/x=11):AG ks ws=true:=by
 unfold AG
 rw [List.any_eq_true]
 refine ⟨(k,x),List.mem_of_getElem? (i:=i) (by rw [List.getElem?_zip_eq_some];exact ⟨h1,h2⟩),?_⟩
 simp [hk,hx]
theorem yh (x:Int):inV (.int x) [.int 10,.int 11]=decide (x=10\/x=11):=by
 have:=nZ x [10,11]
 rw [show ([10,11]:List Int).map V.int=[V.int 10,V.int 11] from rfl] at this
 rw [this]
 simp
noncomputable def inC (ws:List Int)(c:Int):V:=if 10+c∈ws then .int (ws.idxOf (10+c):Nat) else .non
noncomputable def wY (ws:List Int)(lv:Int)(i:Nat):List Int:=((List.range i).filter fun j=>decide (ws.getD j 0=lv)).map fun (j:Nat)=>(j:Int)
noncomputable def iW (ws:List Int)(lv:Int):List Int:=wY ws lv ws.length
theorem E4 (ws:List Int)(lv:Int)(i:Nat):wY ws lv (i+1)=wY ws lv i++(if ws.getD i 0=lv then [(i:Int)] else []):=by
 unfold wY
 rw [List.range_succ,List.filter_append,List.map_append]
 by_cases h:ws.getD i 0=lv
 ·rw [if_pos h,List.filter_cons,if_pos (by simpa using h)];rfl
 ·rw [if_neg h,List.filter_cons,if_neg (by simpa using h)];rfl
theorem AI (ws:List Int)(lv:Int)(i:Nat):(wY ws lv i).length<=i:=by
 unfold wY
 rw [WB]
 exact Nat.le_trans (List.length_filter_le _ _) (by rw [List.length_range];exact Nat.le_refl _)
noncomputable def iA (ds:List Int)(pl:Int):List Int:=((List.range ds.length).filter fun i=>decide (ds.getD i 0=pl\/ds.getD i 0=cu ds - pl)).map fun (i:Nat)=>(i:Int)
structure fR (g:Cfg):Prop where
 sh:cf g.ds
 lc:g.ls.length=g.ds.length
 gc:∀x∈g.ls,eL x
 s1:1<=g.slow
 sf:g.slow<=g.fast
 f5:g.fast<=500
 gk:g.goals.length=g.ks.length
 k30:g.ks.length<=30
noncomputable def fS (g:Cfg)(n:aM):Int:=if AG g.ks n.ws=true then g.slow else g.fast
theorem fR.speed {g:Cfg}(h:fR g)(n:aM):1<=fS g n/\fS g n<=500:=by
 have:=h.s1;have:=h.sf;have:=h.f5
 unfold fS;split<;>omega
inductive Dd where
 | ring (l s:Int) | rept (s:Int) | opn (l:Int) | sht (l:Int) | load (k c:Int) | unload (c:Int) | wind (c l:Int) (k:Str) | fail (l:Int)
noncomputable def ddV:Dd->List V
 | .ring l s=>[.str "ring",.int l,.int s]
 | .rept s=>[.str "repeat",.int s]
 | .opn l=>[.str "open",.int l]
 | .sht l=>[.str "shut",.int l]
 | .load k c=>[.str "load",.int k,.int c]
 | .unload c=>[.str "unload",.int c]
 | .wind c l k=>[.str "wind",.int c,.int l,.str k]
 | .fail l=>[.str "fail",.int l]
theorem ve (d:Dd):∀x∈ddV d,bO x=true:=by
 cases d<;>intro x hx<;>simp only [ddV,List.mem_cons,List.not_mem_nil,or_false] at hx<;>rcases hx with h | h | h | h<;>(try subst h)<;>(try rfl)<;>simp_all [bO]
theorem Ed (d:Dd):(ddV d).length<=4:=by cases d<;>simp [ddV]
noncomputable def vf:Dd->Prop
 | .load _ c=>0<=c/\c < 2
 | .unload c=>0<=c/\c < 2
 | .wind c _ k=>(0<=c/\c < 2)/\(k="men"\/k="coal")
 | _=>True
inductive Rw where
 | lv | db | nc | nr | ch | na | ul | nt | ct | gs | ce | go
 deriving DecidableEq
def unk (l:Int)(m:Nat):Prop:=¬(0<=l/\l < m)
instance (l:Int) (m:Nat):Decidable (unk l m):=inferInstanceAs (Decidable (¬_))
noncomputable def dM (g:Cfg)(n:aM):Bool:=(iA g.ds n.place).any fun x=>n.gates.getD x.toNat false
noncomputable def eI (g:Cfg)(n:aM):Dd->Option Rw
 | .ring l s=>if unk l g.ds.length then some .lv else if n.fs.getD l.toNat false=true then some .db else if s=(eM g.ls l).1\/s=(eM g.ls l).2 then none else some .nc
 | .rept s=>match n.e with | .wait _ _=>if 1<=s/\s<=9 then none else some .nc | _=>some .nr
 | .opn l=>if unk l g.ds.length then some .lv else if n.gates.getD l.toNat false=true then some .ch else none
 | .sht l=>if unk l g.ds.length then some .lv else if n.gates.getD l.toNat false=false then some .ch else none
 | .load k c=>if unk k n.ws.length then some .ul else match aT g.ds n.place c with
  | none=>some .nt
  | some l=>if n.ws.getD k.toNat 0≠l then some .nt else if 10+c∈n.ws then some .ct else if n.gates.getD l.toNat false=true then none else some .gs
 | .unload c=>if ¬10+c∈n.ws then some .ce else match aT g.ds n.place c with
  | none=>some .nt
  | some l=>if n.gates.getD l.toNat false=true then none else some .gs
 | .wind _ l k=>if unk l g.ds.length then some .lv else if dM g n=true then some .go else if n.e=.armed l (cz g.ls l k) then none else some .na
 | .fail l=>if unk l g.ds.length then some .lv else if n.fs.getD l.toNat false=true then some .ch else none
noncomputable def gR (ds:List Int)(c l:Int):Int:=if c=0 then ds.getD l.toNat 0 else cu ds - ds.getD l.toNat 0
noncomputable def vg (g:Cfg)(n:aM):Dd->Eng
 | .ring l s=>.wait l s
 | .rept s=>match n.e with | .wait l r=>if s=r then .armed l r else .other l r s | e=>e
 | .wind _ l k=>.used l (cz g.ls l k)
 | _=>n.e
noncomputable def cv (g:Cfg)(n:aM)(d:Dd):aM:=
 {place:=match d with | .wind c l _=>gR g.ds c l | _=>n.place
  gates:=match d with | .opn l=>n.gates.set l.toNat true | .sht l=>n.gates.set l.toNat false | _=>n.gates
  fs:=match d with | .fail l=>n.fs.set l.toNat true | _=>n.fs
  e:=vg g n d
  ws:=match d with | .load k c=>n.ws.set k.toNat (10+c) | .unload c=>n.ws.set (n.ws.idxOf (10+c)) ((aT g.ds n.place c).getD (-1)) | _=>n.ws}
noncomputable def ND (x:Int):Int:=if x < 0 then -x else x
noncomputable def zl (way sp:Int):Int:=(way+sp - 1) / sp
noncomputable def sk (g:Cfg)(n:aM):Dd->Int
 | .wind c l _=>zl (ND (gR g.ds c l - n.place)) (fS g n)
 | _=>1
noncomputable def mi (g:Cfg)(n0:aM)(rs:List Row)(d:Dd):Row:=⟨cS rs,cS rs+sk g (ai n0 rs) d,ddV d,fS g (cv g (ai n0 rs) d),cv g (ai n0 rs) d⟩
structure cZ (g:Cfg)(n:aM):Prop where
 gl:n.gates.length=g.ds.length
 fl:n.fs.length=g.ds.length
 wl:n.ws.length=g.ks.length
 wr:∀x∈n.ws,(0<=x/\x < g.ds.length)\/x=10\/x=11
 un:∀i j,i < n.ws.length->j < n.ws.length->10<=n.ws.getD i 0->n.ws.getD i 0=n.ws.getD j 0->i=j
 st:∃c,(c=0\/c=1)/\∃l,aT g.ds n.place c=some l
 ew:∀l r,n.e=.wait l r\/n.e=.armed l r->0<=l/\l < g.ds.length/\(r=(eM g.ls l).1\/r=(eM g.ls l).2)
theorem oa (ws:List Int)(n i:Nat)(v:Int)(hi:i < ws.length):(ws.set n v).getD i 0=if n=i then v else ws.getD i 0:=by
 rw [List.getD_eq_getElem?_getD,List.getD_eq_getElem?_getD,List.getElem?_set]
 split
 ·rename_i e
  subst e
  rw [if_pos hi];rfl
 ·rfl
theorem AJ {ds:List Int}{d l:Int}(h:lvl ds d=some l):0<=l/\l < ds.length/\ds.getD l.toNat 0=d:=by
 unfold lvl at h
 split at h
 ·rename_i hm
  cases h
  have hlt:=List.idxOf_lt_length_iff.mpr hm
  refine ⟨Int.natCast_nonneg _,by omega,?_⟩
  rw [Int.toNat_natCast,List.getD_eq_getElem?_getD,List.getElem?_eq_getElem hlt]
  exact List.getElem_idxOf hlt
 ·cases h
theorem cB {ds:List Int}{p c l:Int}(h:aT ds p c=some l):0<=l/\l < ds.length/\ds.getD l.toNat 0=(if c=0 then p else cu ds - p):=by
 unfold aT at h
 split at h
 ·rename_i e;rw [if_pos e];exact AJ h
 ·rename_i e;rw [if_neg e];exact AJ h
theorem so {ws:List Int}{k:Int}(h:k∈ws):ws.idxOf k < ws.length/\ws.getD (ws.idxOf k) 0=k:=by
 have hlt:=List.idxOf_lt_length_iff.mpr h
 refine ⟨hlt,?_⟩
 rw [List.getD_eq_getElem?_getD,List.getElem?_eq_getElem hlt]
 exact List.getElem_idxOf hlt
theorem AK {ws:List Int}{n:Nat}{v x:Int}(h:x∈ws.set n v):x∈ws\/x=v:=List.mem_or_eq_of_mem_set h
theorem CD {ds:List Int}(hs:cf ds){c l:Int}(hc:0<=c/\c < 2)(hl:0<=l/\l < ds.length):aT ds (gR ds c l) c=some l:=by
 obtain ⟨k,rfl⟩:=Int.eq_ofNat_of_zero_le hl.1
 unfold aT gR
 split
 ·exact iV hs (by omega) (by rw [Int.toNat_natCast])
 ·exact iV hs (by omega) (by rw [Int.toNat_natCast];omega)
theorem ifn {c:Prop}[Decidable c]{a:Rw}{x:Option Rw}(h:(if c then some a else x)=none):¬c/\x=none:=by
 split at h
 ·cases h
 ·rename_i n;exact ⟨n,h⟩
theorem ify {c:Prop}[Decidable c]{a:Rw}(h:(if c then none else some a)=none):c:=by
 split at h
 ·assumption
 ·cases h
theorem og {l:Int}{m:Nat}(h:¬unk l m):0<=l/\l < m:=Decidable.not_not.mp h
theorem GG {g:Cfg}{n:aM}{l s:Int}(h:eI g n (.ring l s)=none):(0<=l/\l < g.ds.length)/\n.fs.getD l.toNat false=false/\(s=(eM g.ls l).1\/s=(eM g.ls l).2):=by
 obtain ⟨h1,h⟩:=ifn h
 obtain ⟨h2,h⟩:=ifn h
 exact ⟨og h1,by simpa using h2,ify h⟩
theorem AL {g:Cfg}{n:aM}{s:Int}(h:eI g n (.rept s)=none):∃l r,n.e=.wait l r/\1<=s/\s<=9:=by
 simp only [eI] at h
 split at h
 ·rename_i l r e;exact ⟨l,r,e,ify h⟩
 ·cases h
theorem IL {g:Cfg}{n:aM}{l:Int}(h:eI g n (.opn l)=none):(0<=l/\l < g.ds.length)/\n.gates.getD l.toNat false=false:=by
 obtain ⟨h1,h⟩:=ifn h
 obtain ⟨h2,h⟩:=ifn h
 exact ⟨og h1,by simpa using h2⟩
theorem IM {g:Cfg}{n:aM}{l:Int}(h:eI g n (.sht l)=none):(0<=l/\l < g.ds.length)/\n.gates.getD l.toNat false=true:=by
 obtain ⟨h1,h⟩:=ifn h
 obtain ⟨h2,h⟩:=ifn h
 exact ⟨og h1,by simpa using h2⟩
theorem GH {g:Cfg}{n:aM}{l:Int}(h:eI g n (.fail l)=none):(0<=l/\l < g.ds.length)/\n.fs.getD l.toNat false=false:=by
 obtain ⟨h1,h⟩:=ifn h
 obtain ⟨h2,h⟩:=ifn h
 exact ⟨og h1,by simpa using h2⟩
theorem AM {g:Cfg}{n:aM}{k c:Int}(h:eI g n (.load k c)=none):(0<=k/\k < n.ws.length)/\∃l,aT g.ds n.place c=some l/\n.ws.getD k.toNat 0=l/\¬10+c∈n.ws/\n.gates.getD l.toNat false=true:=by
 obtain ⟨h1,h⟩:=ifn h
 refine ⟨og h1,?_⟩
 cases e:aT g.ds n.place c with
 | none=>rw [e] at h;cases h
 | some l=>
  rw [e] at h
  obtain ⟨h2,h⟩:=ifn h
  obtain ⟨h3,h⟩:=ifn h
  exact ⟨l,rfl,Decidable.not_not.mp h2,h3,ify h⟩
theorem vh {g:Cfg}{n:aM}{c:Int}(h:eI g n (.unload c)=none):10+c∈n.ws/\∃l,aT g.ds n.place c=some l/\n.gates.getD l.toNat false=true:=by
 obtain ⟨h1,h⟩:=ifn h
 refine ⟨Decidable.not_not.mp h1,?_⟩
 cases e:aT g.ds n.place c with
 | none=>rw [e] at h;cases h
 | some l=>rw [e] at h;exact ⟨l,rfl,ify h⟩
theorem vi {g:Cfg}{n:aM}{c l:Int}{k:Str}(h:eI g n (.wind c l k)=none):(0<=l/\l < g.ds.length)/\dM g n=false/\n.e=.armed l (cz g.ls l k):=by
 obtain ⟨h1,h⟩:=ifn h
 obtain ⟨h2,h⟩:=ifn h
 exact ⟨og h1,by simpa using h2,ify h⟩
theorem cZ.next {g:Cfg}{n:aM}{d:Dd}(hg:fR g)(h:cZ g n)(ok:vf d)(hr:eI g n d=none):cZ g (cv g n d):=by
 have hds:=hg.sh.l6
 cases d with
 | ring l s=>
  obtain ⟨h1,_,h3⟩:=GG hr
  exact ⟨h.gl,h.fl,h.wl,h.wr,h.un,h.st,fun l' r e=>by
   simp only [cv,vg] at e
   rcases e with e | e
   ·cases e;exact ⟨h1.1,h1.2,h3⟩
   ·cases e⟩
 | rept s=>
  refine ⟨h.gl,h.fl,h.wl,h.wr,h.un,h.st,fun l' r e=>?_⟩
  simp only [cv,vg] at e
  obtain ⟨l0,r0,e0,_⟩:=AL hr
  rw [e0] at e
  simp only at e
  have:=h.ew l0 r0 (.inl e0)
  split at e
  ·rcases e with e | e
   ·cases e
   ·cases e;exact this
  ·rcases e with e | e<;>cases e
 | opn l=>exact ⟨by simp only [cv];rw [List.length_set];exact h.gl,h.fl,h.wl,h.wr,h.un,h.st,h.ew⟩
 | sht l=>exact ⟨by simp only [cv];rw [List.length_set];exact h.gl,h.fl,h.wl,h.wr,h.un,h.st,h.ew⟩
 | fail l=>exact ⟨h.gl,by simp only [cv];rw [List.length_set];exact h.fl,h.wl,h.wr,h.un,h.st,h.ew⟩
 | load k c=>
  obtain ⟨h1,l,hl,h3,h4,_⟩:=AM hr
  have hc:0<=c/\c < 2:=ok
  refine ⟨h.gl,h.fl,by simp only [cv];rw [List.length_set];exact h.wl,fun x hx=>?_,fun i j hi hj h10 e=>?_,h.st,h.ew⟩
  ·rcases AK hx with hx | rfl
   ·exact h.wr x hx
   ·omega
  ·simp only [cv,List.length_set] at hi hj h10 e
   rw [oa _ _ _ _ hi] at h10 e
   rw [oa _ _ _ _ hj] at e
   split at e<;>split at e
   ·omega
   ·exact absurd (e▸cH hj) h4
   ·exact absurd (e▸cH hi) h4
   ·rename_i n1 n2;rw [if_neg n1] at h10;exact h.un i j hi hj h10 e
 | unload c=>
  obtain ⟨h1,l,hl,_⟩:=vh hr
  obtain ⟨l0,l1,l2⟩:=cB hl
  refine ⟨h.gl,h.fl,by simp only [cv];rw [List.length_set];exact h.wl,fun x hx=>?_,fun i j hi hj h10 e=>?_,h.st,h.ew⟩
  ·simp only [cv,hl,Option.getD_some] at hx
   rcases AK hx with hx | rfl
   ·exact h.wr x hx
   ·exact .inl ⟨l0,l1⟩
  ·simp only [cv,List.length_set,hl,Option.getD_some] at hi hj h10 e
   rw [oa _ _ _ _ hi] at h10 e
   rw [oa _ _ _ _ hj] at e
   split at e
   ·rename_i n1;rw [if_pos n1] at h10;omega
   ·rename_i n1
    rw [if_neg n1] at h10
    split at e
    ·omega
    ·exact h.un i j hi hj h10 e
 | wind c l k=>
  obtain ⟨h1,_⟩:=vi hr
  refine ⟨h.gl,h.fl,h.wl,h.wr,h.un,⟨c,by have:=ok.1;omega,l,CD hg.sh ok.1 h1⟩,fun l' r e=>?_⟩
  simp only [cv,vg] at e
  rcases e with e | e<;>cases e
theorem cZ.place {g:Cfg}{n:aM}(hg:fR g)(h:cZ g n):0<=n.place/\n.place<=cu g.ds:=by
 obtain ⟨c,hc,l,hl⟩:=h.st
 obtain ⟨l0,l1,l2⟩:=cB hl
 have hm:g.ds.getD l.toNat 0∈g.ds:=cH (by omega)
 have:=hg.sh.lo _ hm
 have:=hg.sh.le_whole hm
 split at l2<;>omega
noncomputable def jT (fs:List Bool)(i:Nat):List Int:=((List.range i).filter fun j=>fs.getD j false).map fun (j:Nat)=>(j:Int)
noncomputable def cO (fs:List Bool):List Int:=jT fs fs.length
theorem AN (fs:List Bool)(i:Nat):jT fs (i+1)=jT fs i++(if fs.getD i false=true then [(i:Int)] else []):=by
 unfold jT
 rw [List.range_succ,List.filter_append,List.map_append]
 by_cases h:fs.getD i false=true
 ·rw [if_pos h,List.filter_cons,if_pos h];rfl
 ·rw [if_neg h,List.filter_cons,if_neg h];rfl
theorem vj (fs:List Bool)(i:Nat):(jT fs i).length<=i:=by
 unfold jT
 rw [WB]
 exact Nat.le_trans (List.length_filter_le _ _) (by rw [List.length_range];exact Nat.le_refl _)
theorem iM {fs:List Bool}{x:Int}:x∈cO fs↔0<=x/\x < fs.length/\fs.getD x.toNat false=true:=by
 unfold cO jT
 rw [List.mem_map]
 constructor
 ·rintro ⟨j,hj,rfl⟩
  rw [List.mem_filter,List.mem_range] at hj
  exact ⟨Int.natCast_nonneg _,by omega,by rw [Int.toNat_natCast];exact hj.2⟩
 ·rintro ⟨h0,h1,h2⟩
  refine ⟨x.toNat,?_,by omega⟩
  rw [List.mem_filter,List.mem_range]
  exact ⟨by omega,h2⟩
theorem AO (fs:List Bool):(cO fs).Pairwise (· < ·):=by
 unfold cO jT
 rw [List.pairwise_map]
 exact (List.pairwise_lt_range.sublist List.filter_sublist).imp fun h=>by omega
theorem aq.keeps {H H1 H2:Hp}{p:Addr}(s:aq H H1)(k:aA p H1 H2)(hp:H p=none):aq H H2:=fun b o e=>k b o (ak e hp) (s b o e)
section
variable {C:Cl}{K:WA}{H H':Hp}{rl s:Addr}{g:Cfg}{A:SA}{n:aM}
theorem aU.ne_b (h:aU C K H rl g s A n):s≠A.b:=fun z=>by
 obtain ⟨dx,hb⟩:=h.be.ob
 have:=h.ob
 rw [z,hb] at this
 injection this with this
 injection this with _ _ this
 injection this with this _
 injection this with this _
 exact absurd this (by decide)
theorem aU.ne_y (h:aU C K H rl g s A n):s≠A.y:=fun z=>by
 obtain ⟨dx,hb⟩:=h.ya.ob
 have:=h.ob
 rw [z,hb] at this
 injection this with this
 injection this with _ _ this
 injection this with this _
 injection this with this _
 exact absurd this (by decide)
theorem aU.ne_by (h:aU C K H rl g s A n):A.y≠A.b:=fun z=>by
 obtain ⟨dx,hb⟩:=h.ya.ob
 obtain ⟨dx2,hb2⟩:=h.be.ob
 rw [z,hb2] at hb
 injection hb with this
 injection this with _ _ this
 injection this with this _
 injection this with this _
 exact absurd this (by decide)
theorem aU.bells {st':Addr}{e':Eng}(h:aU C K H rl g s A n)(k:aA A.b H H')(hb:bC C.B K H' A.b A.cs A.fl st' g.ls n.fs e'):aU C K H' rl g s {A with st:=st'} {n with e:=e'}:=by
 obtain ⟨dx,hb0⟩:=h.be.ob
 refine ⟨k _ _ h.ne_b h.ob,k _ _ (fun z=>?_) h.go,hb,h.ya.offI k hb0 h.ne_by,⟨h.ap.r1,h.ap.r2,h.ap.r3,h.ap.r4,h.ap.r5,h.ap.o1,h.ap.o2,h.ap.o3,h.ap.o4,h.ap.f1,h.ap.f2,h.ap.f3,h.ap.w1,h.ap.w2,h.ap.w3,h.ap.w4⟩,⟨(h.nn.keepI k hb0).al,h.nn.nr,h.nn.no,h.nn.nc,h.nn.nf,h.nn.nk,h.nn.nw⟩⟩
 have:=h.go
 rw [z,hb0] at this
 cases this
theorem aU.fail {fs':List Bool}(h:aU C K H rl g s A n)(k:aA A.fl H H')(hf:H' A.fl=some (.lst (fs'.map V.bl)))(hl:fs'.length=n.fs.length):aU C K H' rl g s A {n with fs:=fs'}:=by
 refine ⟨k _ _ (fun z=>?_) h.ob,k _ _ h.ap.f1 h.go,h.be.fail k hf hl,h.ya.off k h.be.of h.ap.f2 h.ap.f3,h.ap,h.nn.keep k h.nn.nf⟩
 have:=h.be.of
 rw [←z,h.ob] at this
 cases this
theorem aU.spots {ws':List Int}(h:aU C K H rl g s A n)(k:aA A.wh H H')(hw:H' A.wh=some (.lst (ws'.map V.int))):aU C K H' rl g s A {n with ws:=ws'}:=by
 refine ⟨k _ _ (fun z=>?_) h.ob,k _ _ h.ap.w1 h.go,h.be.off k h.ya.owh h.ap.w2 h.ap.w3,h.ya.put k h.ap.w4 hw,h.ap,h.nn.keep k h.nn.nw⟩
 have:=h.ya.owh
 rw [←z,h.ob] at this
 cases this
theorem aU.placed {pl:Int}(h:aU C K H rl g s A n)(k:aA s H H')(hp:H' s=some (.ins C.S A.dx [("place",.int pl),("opened",.ref A.ol),("bells",.ref A.b),("yard",.ref A.y)])):aU C K H' rl g s A {n with place:=pl}:=by
 refine ⟨hp,k _ _ (fun z=>?_) h.go,h.be.offI k h.ob h.ne_b.symm,h.ya.offI k h.ob h.ne_y.symm,h.ap,h.nn.keepI k h.ob⟩
 have:=h.go
 rw [z,h.ob] at this
 cases this
theorem aU.own {p:Addr}{ys:List V}(h:aU C K H rl g s A n)(hp:g.N p)(k:aA p H H')(e:H' p=some (.lst ys)):aU C K H' rl g s A n:=by
 obtain ⟨zs,hz⟩:=h.nn.al p hp
 refine ⟨k _ _ (fun z=>by have:=h.ob;rw [z,hz] at this;cases this) h.ob,k _ _ (h.nn.no p hp) h.go,h.be.off k hz (h.nn.nc p hp) (h.nn.nf p hp),h.ya.off k hz (h.nn.nk p hp) (h.nn.nw p hp),h.ap,⟨fun q hq=>?_,h.nn.nr,h.nn.no,h.nn.nc,h.nn.nf,h.nn.nk,h.nn.nw⟩⟩
 by_cases e1:q=p
 ·subst e1;exact ⟨ys,e⟩
 ·obtain ⟨us,hu⟩:=h.nn.al q hq
  exact ⟨us,k _ _ e1 hu⟩
noncomputable def Cfg.plus (g:Cfg)(p:Addr):Cfg:={g with N:=fun q=>g.N q\/q=p}
theorem aU.grow {p:Addr}{ys:List V}(h:aU C K H rl g s A n)(hr:rl≠p)(hn:H p=none)(k:aq H H')(e:H' p=some (.lst ys)):aU C K H' rl (g.plus p) s A n:=by
 have h':=h.same k
 obtain ⟨_,⟨as,oc,_⟩,of,_⟩:=id h.be
 obtain ⟨_,okn,owh⟩:=id h.ya
 refine ⟨h'.ob,h'.go,h'.be,h'.ya,h'.ap,⟨fun q hq=>?_,fun q hq=>?_,fun q hq=>?_,fun q hq=>?_,fun q hq=>?_,fun q hq=>?_,fun q hq=>?_⟩⟩
 ·rcases hq with hq | rfl
  ·exact h'.nn.al q hq
  ·exact ⟨ys,e⟩
 ·rcases hq with hq | rfl
  ·exact h.nn.nr q hq
  ·exact hr
 ·rcases hq with hq | rfl
  ·exact h.nn.no q hq
  ·exact ak h.go hn
 ·rcases hq with hq | rfl
  ·exact h.nn.nc q hq
  ·exact ak oc hn
 ·rcases hq with hq | rfl
  ·exact h.nn.nf q hq
  ·exact ak of hn
 ·rcases hq with hq | rfl
  ·exact h.nn.nk q hq
  ·exact ak okn hn
 ·rcases hq with hq | rfl
  ·exact h.nn.nw q hq
  ·exact ak owh hn
end
section
variable {C:Cl}{K:WA}{H H':Hp}{rl s w bk:Addr}{g:Cfg}{n n0:aM}{rs:List Row}
theorem WAt.rows (h:WAt C K H w bk rl g n0 rs):∃as:List Addr,H rl=some (.lst (as.map V.ref)):=by
 obtain ⟨as,hr,_⟩:=h.bo.ro
 exact ⟨as,hr⟩
theorem WAt.own {p:Addr}{ys:List V}(h:WAt C K H w bk rl g n0 rs)(hp:g.N p)(k:aA p H H')(e:H' p=some (.lst ys)):WAt C K H' w bk rl g n0 rs:=by
 obtain ⟨⟨dx,dl,gl,h1,h2,h3,h4,h5,h6,h7⟩,⟨dy,f,h8,A,h9⟩,as,h10,h11⟩:=h
 obtain ⟨zs,hz⟩:=h9.nn.al p hp
 refine ⟨⟨dx,dl,gl,k _ _ (fun z=>by rw [z,hz] at h1;cases h1) h1,k _ _ (h6 p hp) h2,k _ _ (h7 p hp) h3,h4,h5,h6,h7⟩,⟨dy,f,k _ _ (fun z=>by rw [z,hz] at h8;cases h8) h8,A,h9.own hp k e⟩,as,k _ _ (h9.nn.nr p hp) h10,h11.1,fun i a r e1 e2=>?_⟩
 obtain ⟨dd,s,u1,u2,A',u3⟩:=h11.2 i a r e1 e2
 exact ⟨dd,s,u1.keep k hz,u2.keep k hz,A',u3.own hp k e⟩
theorem WAt.grow {p:Addr}{ys:List V}(h:WAt C K H w bk rl g n0 rs)(hn:H p=none)(k:aq H H')(e:H' p=some (.lst ys)):WAt C K H' w bk rl (g.plus p) n0 rs:=by
 obtain ⟨⟨dx,dl,gl,h1,h2,h3,h4,h5,h6,h7⟩,⟨dy,f,h8,A,h9⟩,as,h10,h11⟩:=h
 have hr:rl≠p:=ak h10 hn
 refine ⟨⟨dx,dl,gl,k _ _ h1,k _ _ h2,k _ _ h3,h4,h5,fun q hq=>?_,fun q hq=>?_⟩,⟨dy,f,k _ _ h8,A,h9.grow hr hn k e⟩,as,k _ _ h10,h11.1,fun i a r e1 e2=>?_⟩
 ·rcases hq with hq | rfl
  ·exact h6 q hq
  ·exact ak h2 hn
 ·rcases hq with hq | rfl
  ·exact h7 q hq
  ·exact ak h3 hn
 ·obtain ⟨dd,s,u1,u2,A',u3⟩:=h11.2 i a r e1 e2
  exact ⟨dd,s,k.tup u1,k.tup u2,A',u3.grow hr hn k e⟩
end
noncomputable def dS (ds:List Int)(ls:List Cd)(slow fast:Int)(lds:List Ld)(N:Addr->Prop):Cfg:=⟨ds,ls,slow,fast,lds.map (·.2.2),lds.map (·.1),N⟩
noncomputable def fe (ds:List Int)(ls:List Cd)(lds:List Ld):aM:=⟨ds.getD 0 0,ds.map fun _=>false,ls.map fun _=>false,.no,lds.map (·.2.1)⟩
theorem aU.keepI {C:Cl}{K:WA}{H H':Hp}{rl s x D dp:Addr}{g:Cfg}{A:SA}{n:aM}{us:List (Str×V)}(h:aU C K H rl g s A n)(k:aA x H H')(hx:H x=some (.ins D dp us))(n1:s≠x)(n2:A.b≠x)(n3:A.y≠x):aU C K H' rl g s A n:=by
 refine ⟨k _ _ n1 h.ob,k _ _ (fun z=>?_) h.go,h.be.offI k hx n2,h.ya.offI k hx n3,h.ap,h.nn.keepI k hx⟩
 have:=h.go
 rw [z,hx] at this
 cases this
theorem LQ {ds:List Int}{ls:List Cd}{slow fast:Int}{lds:List Ld}{N:Addr->Prop}(h1:cf ds)(h2:ls.length=ds.length)(h3:∀x∈ls,eL x)(h4:1<=slow/\slow<=fast/\fast<=500)(h5:lds.length<=30):fR (dS ds ls slow fast lds N):=
 ⟨h1,h2,h3,h4.1,h4.2.1,h4.2.2,by simp [dS],by simpa [dS] using h5⟩
theorem IP {ds:List Int}{ls:List Cd}{slow fast:Int}{lds:List Ld}{N:Addr->Prop}(h1:cf ds)(h2:ls.length=ds.length)(h6:∀x∈lds,iU ds.length x):cZ (dS ds ls slow fast lds N) (fe ds ls lds):=by
 have l2:=h1.l2
 have l6:=h1.l6
 refine ⟨by simp [dS,fe],by simp [dS,fe,h2],by simp [dS,fe],fun x hx=>?_,fun i j hi hj h10 e=>?_,⟨0,.inl rfl,0,?_⟩,fun l r e=>?_⟩
 ·simp only [fe,List.mem_map] at hx
  obtain ⟨y,hy,rfl⟩:=hx
  exact .inl (h6 y hy).1
 ·exfalso
  have hm:(fe ds ls lds).ws.getD i 0∈(fe ds ls lds).ws:=cH hi
  simp only [fe,List.mem_map] at hm
  obtain ⟨y,hy,e1⟩:=hm
  have:=(h6 y hy).1
  simp only [fe] at h10
  omega
 ·exact iV h1 (i:=0) (by omega) rfl
 ·rcases e with e | e<;>cases e
end L2
namespace PySem
open PySem.Spec PyProof.Rows
section
variable {prog:Program}{w:World}{A:Around}{E:Value->Shared->Prop}{s:Shared}
theorem yi {it t:Addr}{items:Array Value}(hne:t≠it):∀(n i:Nat) (s:Shared) (Q:List Value->Shared->Prop),s.heap.IsListIter it t i->s.heap.IsList t items->i+n<=items.size->
  (∀h',Heap.IsListIter h' it t (i+n)->Heap.SameBut it s.heap h'->Q ((items.toList.drop i).take n) {s with heap:=h'})->wpAny (model prog w) A (draw (.ref it) n) Q E s
 | 0,i,s,Q,hit,_,_,hQ=>by
  show wpAny _ _ (pure []) Q E s
  exact wpAny_pure (by simpa using hQ s.heap hit (Heap.SameBut.refl ..))
 | n+1,i,s,Q,hit,ht,hle,hQ=>by
  have hlt:i < items.size:=by omega
  show wpAny _ _ (pyNext (.ref it) >>= _) Q E s
  refine wpAny_bind (wpAny_pyNext_list_item hit ht (x:=items[i]) (by simp [hlt]) fun h₁ hit₁ hs₁=>?_)
  refine wpAny_bind (wpAny_holding (yi hne n (i+1) _ _ hit₁ (ht.extBut hs₁.extBut hne) (by omega) fun h₂ hit₂ hs₂=>wpAny_pure ?_))
  have hd:items.toList.drop i=items[i]::items.toList.drop (i+1):=by simp [List.drop_eq_getElem_cons,hlt]
  have:=hQ h₂ (by rw [show i+(n+1)=i+1+n by omega];exact hit₂) (hs₁.trans hs₂)
  rw [hd,List.take_succ_cons] at this
  exact this
theorem sq {t:Addr}{items:Array Value}{Q:List Value->Shared->Prop}(hh:A.handled=none)(ht:s.heap.IsList t items)
  (hQ:∀h',Heap.ExtBut s.heap.objs.size s.heap h'->Q items.toList {s with heap:=h'}):wpAny (model prog w) A (unpackItems (.ref t) items.size none) Q E s:=by
 have hlt:t≠s.heap.objs.size:=by obtain ⟨o,ho,_⟩:=ht;exact Nat.ne_of_lt (Heap.lt_size ho)
 unfold unpackItems
 refine wpAny_bind ?_
 ·unfold notIterableAtAll
  refine wpAny_bind (wpAny_specialOf ht.typeIs slot_list_iter.lookup ?_)
  refine wpAny_pure ?_
  simp only [Bool.false_eq_true,if_false]
  refine wpAny_bind (wpAny_holding (wpAny_pyIter_list ht ?_))
  refine wpAny_bind (wpAny_holding (yi hlt items.size 0 _ _ ⟨_,Heap.get?_push_size _ rfl,rfl,rfl⟩ (ht.push _) (by omega) fun h₁ hit₁ hs₁=>?_))
  have hall:List.take items.size (List.drop 0 items.toList)=items.toList:=by
   rw [List.drop_zero];exact List.take_of_length_le (by simp)
  rw [hall]
  rw [if_neg (by simp)]
  have ht₁:Heap.IsList h₁ t items:=(ht.push _).extBut hs₁.extBut hlt
  refine wpAny_bind (wpAny_holding (wpAny_pyNext_list_end hh hit₁ ht₁ (by simp) fun h₂ he₂=>?_))
  simp only [Option.isSome_none,Bool.false_eq_true,if_false]
  refine wpAny_pure (hQ h₂ fun b o hb e=>he₂ b o hb (hs₁.extBut b o hb (Heap.get?_push_of_some _ e)))
theorem AQ {t:Addr}{items:Array Value}{targets:List (Bool×(Value->Sem Unit))}{Q:Unit->Shared->Prop}(hh:A.handled=none)(ht:s.heap.IsList t items)
  (hn:targets.length=items.size) (hstar:targets.findIdx? (·.1)=none)
  (h:∀h',Heap.ExtBut s.heap.objs.size s.heap h'->wpAny (model prog w) A (assignInOrder (targets.map (·.2)) items.toList) Q E {s with heap:=h'}) :
  wpAny (model prog w) A (unpack (.ref t) targets) Q E s:=by
 unfold unpack
 rw [hn,hstar]
 exact wpAny_bind (wpAny_holding (sq hh ht h))
theorem qy {env:Env}{elts:List Expr}{x1}{pos:Pos}{t:Addr}{items:Array Value}{Q:Unit->Shared->Prop}(hh:A.handled=none)(ht:s.heap.IsList t items)
  (hn:(assignEach elts env).length=items.size) (hstar:(assignEach elts env).findIdx? (·.1)=none)
  (h:∀h',Heap.ExtBut s.heap.objs.size s.heap h'->wpAny (model prog w) A (assignInOrder ((assignEach elts env).map (·.2)) items.toList) Q E {s with heap:=h'}) :
  wpAny (model prog w) A (assign (.Tuple elts x1 pos) env (.ref t)) Q E s:=by
 rw [assign_Tuple]
 exact wpAny_bind (wpAny_standAt (AQ hh ht hn hstar h))
end
end PySem
namespace L2
open PySem PySem.Spec PyProof.Rows PySem.SeqAt
section
variable {X:Cx}{pos:Pos}
noncomputable def Kr (K:WA)(n:Nat)(t:TGs):TG:=fun v σ H Q=>∃a xs,v=.ref a/\SqL K H a xs/\xs.length=n/\t xs σ H Q
theorem LR {es:List Expr}{k:Nat}{t:TGs}{n:Nat}(hc:X.calm=true)(h:PGs X es t)
  (hn:(assignEach es X.env).length=n:=by rfl) (hst:(assignEach es X.env).findIdx? (·.1)=none:=by rfl):PG X (.Tuple es k pos) (Kr X.K n t):=by
 intro pins s σ H v u Q I r hw
 obtain ⟨a,xs,e1,hq,hl,hw⟩:=hw
 subst e1
 cases r
 obtain ⟨its,rv,ht,hz⟩:=I.list hq
 refine qy (I.ok.hd hc) ht.isList (by simp [hn,←hl,rv.length]) hst fun h' hx=>?_
 have I1:Inv X pins σ H {s with heap:=h'}:=I.kept (t':=s.toks) fun b o e=>hx b o (Nat.ne_of_lt (Heap.lt_size e)) e
 exact h pins _ σ H xs _ Q I1 (by simpa using rv) hw
noncomputable def LS (K:WA):R2:=fun x y H Q=>∃a b xs ys,x=.ref a/\y=.ref b/\SqL K H a xs/\SqL K H b ys/\xs.all bO=true/\ys.all bO=true/\Q (.bl (!eqL xs ys)) H
theorem LU (hu:X.A.units < cLine):OpR X (compareOp .NotEq) (LS X.K):=by
 intro pins s σ H x y u v Q I rx ry h
 obtain ⟨a,b,xs,ys,rfl,rfl,ha,hb,fa,fb,q⟩:=h
 cases rx;cases ry
 obtain ⟨ia,ra,pa,za⟩:=I.list ha
 obtain ⟨ib,rb,pb,zb⟩:=I.list hb
 have la:=ra.length
 have lb:=rb.length
 by_cases hl:xs.length=ys.length
 ·refine RcNeAt.lists (e:=fun j=>eqV (xs.getD j .non) (ys.getD j .non)) pa.isList pb.isList (by simp only [List.size_toArray];omega) hu (fun j h1 h2=>?_) X.prog X.w _ _ ?_
  ·simp only [List.size_toArray] at h1 h2
   have hx:xs[j]?=some (xs.getD j .non):=by
    rw [List.getD_eq_getElem?_getD,List.getElem?_eq_getElem (by omega)];rfl
   have hy:ys[j]?=some (ys.getD j .non):=by
    rw [List.getD_eq_getElem?_getD,List.getElem?_eq_getElem (by omega)];rfl
   obtain ⟨u,eu,ru⟩:=ra.get hx
   obtain ⟨v,ev,rv⟩:=rb.get hy
   have e1:ia.toArray[j]=u:=by
    have:=List.getElem?_eq_some_iff.mp eu
    simpa using this.2
   have e2:ib.toArray[j]=v:=by
    have:=List.getElem?_eq_some_iff.mp ev
    simpa using this.2
   rw [e1,e2]
   exact rZ ru rv (List.all_eq_true.mp fa _ (List.mem_of_getElem? hx)) (List.all_eq_true.mp fb _ (List.mem_of_getElem? hy))
  ·have e:(List.range ia.toArray.size).all (fun j=>eqV (xs.getD j .non) (ys.getD j .non))=eqL xs ys:=by
    rw [List.size_toArray,←la]
    exact uJ hl
   rw [e]
   exact ⟨.bl (!eqL xs ys),H,I,rfl,q⟩
 ·refine RcNeAt.lists_lengths pa.isList pb.isList (by simp only [List.size_toArray,bne_iff_ne,ne_eq];omega) hu X.prog X.w _ _ ?_
  have e:eqL xs ys=false:=by
   cases he:eqL xs ys with
   | false=>rfl
   | true=>exact absurd (uI he) hl
  rw [e] at q
  exact ⟨.bl true,H,I,rfl,q⟩
end
end L2
namespace L2
open PySem PySem.Spec PyProof.Rows
inductive Run (g:Cfg)(n0:aM):List Row->Prop
 | nil:Run g n0 []
 | snoc {rs:List Row} {d:Dd} (h:Run g n0 rs) (ok:vf d) (hr:eI g (ai n0 rs) d=none):Run g n0 (rs++[mi g n0 rs d])
theorem AR {α:Type}{xs ys:List α}{a b:α}(h:xs++[a]=ys++[b]):xs=ys/\a=b:=by
 have:=List.append_inj' h rfl
 exact ⟨this.1,by simpa using this.2⟩
theorem Run.inv {g:Cfg}{n0:aM}{rs:List Row}{r:Row}(h:Run g n0 (rs++[r])):Run g n0 rs/\∃d,vf d/\eI g (ai n0 rs) d=none/\r=mi g n0 rs d:=by
 generalize e:rs++[r]=rs' at h
 cases h with
 | nil=>simp at e
 | @snoc rs2 d h ok hr=>
  obtain ⟨rfl,rfl⟩:=AR e
  exact ⟨h,d,ok,hr,rfl⟩
theorem Run.snap {g:Cfg}{n0:aM}{rs:List Row}(hg:fR g)(h0:cZ g n0)(h:Run g n0 rs):cZ g (ai n0 rs):=by
 induction h with
 | nil=>exact h0
 | snoc h ok hr ih=>
  rw [jD]
  exact ih.next hg ok hr
theorem Run.deeds {g:Cfg}{n0:aM}{rs:List Row}(h:Run g n0 rs):∀r∈rs,∃d,r.deed=ddV d:=by
 induction h with
 | nil=>intro r hr;cases hr
 | @snoc rs d h ok hr ih=>
  intro r hr
  rcases List.mem_append.mp hr with hr | hr
  ·exact ih r hr
  ·rw [List.mem_singleton] at hr
   subst hr
   exact ⟨d,rfl⟩
def uK (K:WA)(H:Hp)(a:Addr)(r:Row):Prop:=∃dd,SqT K H a [.int r.began,.int r.ended,.ref dd]/\SqT K H dd r.deed
def c8 (K:WA)(H:Hp)(as:List Addr)(rs:List Row):Prop:=as.length=rs.length/\∀(i:Nat) a r,as[i]?=some a->rs[i]?=some r->uK K H a r
theorem c8.same {K:WA}{H H':Hp}{as:List Addr}{rs:List Row}(h:c8 K H as rs)(e:aq H H'):c8 K H' as rs:=⟨h.1,fun i a r e1 e2=>by
 obtain ⟨dd,h1,h2⟩:=h.2 i a r e1 e2
 exact ⟨dd,e.tup h1,e.tup h2⟩⟩
theorem c8.keep {K:WA}{H H':Hp}{p:Addr}{ys:List V}{as:List Addr}{rs:List Row}(h:c8 K H as rs)(e:aA p H H')(hp:H p=some (.lst ys)):c8 K H' as rs:=⟨h.1,fun i a r e1 e2=>by
 obtain ⟨dd,h1,h2⟩:=h.2 i a r e1 e2
 exact ⟨dd,h1.keep e hp,h2.keep e hp⟩⟩
theorem c8.nil {K:WA}{H:Hp}:c8 K H [] []:=⟨rfl,fun i a r e _=>by simp at e⟩
theorem c8.push {K:WA}{H:Hp}{as:List Addr}{rs:List Row}{a:Addr}{r:Row}(h:c8 K H as rs)(hr:uK K H a r):c8 K H (as++[a]) (rs++[r]):=by
 refine ⟨by rw [List.length_append,List.length_append,h.1];rfl,fun i b x e1 e2=>?_⟩
 by_cases hi:i < as.length
 ·rw [List.getElem?_append_left hi] at e1
  rw [List.getElem?_append_left (by rw [←h.1];exact hi)] at e2
  exact h.2 i b x e1 e2
 ·rw [List.getElem?_append_right (by omega)] at e1
  rw [List.getElem?_append_right (by rw [←h.1];omega),←h.1] at e2
  have hz:i - as.length=0:=by
   have:=(List.getElem?_eq_some_iff.mp e1).1
   simp at this
   omega
  rw [hz] at e1 e2
  cases e1
  cases e2
  exact hr
theorem c8.last {K:WA}{H:Hp}{as:List Addr}{rs:List Row}{r:Row}(h:c8 K H as (rs++[r])):∃as' a,as=as'++[a]/\c8 K H as' rs/\uK K H a r:=by
 have hl:=h.1
 rw [List.length_append,List.length_singleton] at hl
 rcases di as with rfl | ⟨as',a,rfl⟩
 ·cases hl
 ·have hl':as'.length=rs.length:=by rw [List.length_append,List.length_singleton] at hl;omega
  refine ⟨as',a,rfl,⟨hl',fun i b x e1 e2=>?_⟩,?_⟩
  ·have hi:=(List.getElem?_eq_some_iff.mp e1).1
   exact h.2 i b x (by rw [List.getElem?_append_left hi];exact e1) (by rw [List.getElem?_append_left (by omega)];exact e2)
  ·refine h.2 as'.length a r ?_ ?_
   ·rw [List.getElem?_append_right (Nat.le_refl _)];simp
   ·rw [List.getElem?_append_right (by omega),hl'];simp
noncomputable def Ks (r:Row):Dt:=.tup [.flat (.int r.began),.flat (.int r.ended),.tup (r.deed.map Dt.flat)]
noncomputable def Ku (rs:List Row):Dt:=.lst (rs.map Ks)
theorem E5 {K:WA}{H:Hp}{a:Addr}{r:Row}{n:Nat}(h:uK K H a r)(hd:∃d,r.deed=ddV d):Rep K H (n+2) (.ref a) (Ks r):=by
 obtain ⟨dd,h1,h2⟩:=h
 obtain ⟨d,hd⟩:=hd
 refine .tup h1 (by show 3<=100000;decide) rfl fun i x y e1 e2=>?_
 match i,e1,e2 with
 | 0,e1,e2=>cases e1;cases e2;exact .flat rfl
 | 1,e1,e2=>cases e1;cases e2;exact .flat rfl
 | 2,e1,e2=>
  cases e1;cases e2
  have:=Ed d
  exact eS h2 (by rw [hd];omega) (by rw [hd];exact ve d)
 | i+3,e1,e2=>simp at e1
theorem AS {K:WA}{H:Hp}{p:Addr}{as:List Addr}{rs:List Row}{n:Nat}(hp:SqL K H p (as.map V.ref))(h:c8 K H as rs)(hd:∀r∈rs,∃d,r.deed=ddV d)(hl:rs.length<=100000):Rep K H (n+3) (.ref p) (Ku rs):=by
 refine .lst hp (by rw [WB,h.1];exact hl) (by rw [WB,WB,h.1]) fun i x y e1 e2=>?_
 rw [List.getElem?_map] at e1 e2
 cases ea:as[i]? with
 | none=>rw [ea] at e1;cases e1
 | some a=>
  cases er:rs[i]? with
  | none=>rw [er] at e2;cases e2
  | some r=>
   rw [ea] at e1;rw [er] at e2
   cases e1;cases e2
   exact E5 (h.2 i a r ea er) (hd r (List.mem_of_getElem? er))
theorem yj {K:WA}{H:Hp}{a:Addr}{bs:List Bool}{n:Nat}(h:SqL K H a (bs.map V.bl))(hb:bs.length<=100000):Rep K H (n+1) (.ref a) (.lst ((bs.map V.bl).map Dt.flat)):=by
 refine .lst h (by rw [WB];exact hb) (by simp) fun i x y e1 e2=>?_
 rw [List.getElem?_map,e1] at e2
 cases e2
 rw [List.getElem?_map] at e1
 cases eb:bs[i]? with
 | none=>rw [eb] at e1;cases e1
 | some b=>rw [eb] at e1;cases e1;exact .flat rfl
theorem WAt.off {C:Cl}{K:WA}{H:Hp}{w bk rl:Addr}{g:Cfg}{n0:aM}{rs:List Row}(h:WAt C K H w bk rl g n0 rs)(p:Addr)(hp:g.N p):rl≠p:=by
 obtain ⟨dx,f,_,A,hA⟩:=h.bo.ob
 exact hA.nn.nr p hp
section
variable {X:Cx}
noncomputable def CF (C:Addr)(m:Str)(sp:Sp)(dvs:List V)(E':XT)(ta:TE)(t:TA):TE:=fun σ H Q=>xR C m sp dvs (fun cls _ H'=>E' cls σ H') ta t σ H Q
theorem IQ {pins pins':List (Addr×Obj)}{E':XT}{k:Nat}{f:Addr}{fd:FuncData}{ps:List Str}{sp:Sp}{dvs vs:List V}{ds us:List Value}{σ:St}{H1:Hp}{s1:Shared}{Q:VK}
  (F:fM X.prog X.w X.K X.mg X.base (CXf X.prog X.w) k f fd ps sp) (hr:dH k X.A) (hb:dQ X.K fd ps ds) (hd:br dvs ds) (I1:Inv (Xt X pins E') pins' σ H1 s1) (r:br vs us)
  (q:sp (vs++dvs) H1 Q fun cls _ H'=>E' cls σ H'):wpAny (model X.prog X.w) X.A (call (.ref f) us) (fun v s'=>∃x H',Inv (Xt X pins E') pins' σ H' s'/\bK x v/\Q x H') (Xt X pins E').xe s1:=by
 have r2:br (vs++dvs) (us++ds):=r.append hd
 have hl:(us++ds).length=ps.length:=by rw [←r2.length];exact F.len _ _ _ _ q
 refine wpAny_call (codeAny_mono (F.run X.A X.stack s1 H1 ⟨us,[]⟩ (us++ds) (vs++dvs) Q _ hr I1.env0 (hb s1 us I1.kIn hl) r2 q) fun r s' hq=>?_)
 cases r with
 | error e=>exact ⟨σ,H1,s1,I1.ofT,hq⟩
 | ok fl=>
  cases fl with
  | ret u=>exact I1.after hq
  | next=>exact False.elim hq
  | brk=>exact False.elim hq
  | cont=>exact False.elim hq
theorem GI {pins:List (Addr×Obj)}{E':XT}{k:Nat}{f C:Addr}{fd:FuncData}{ps:List Str}{sp:Sp}{dvs:List V}{ds:List Value}{m:Str}{pos apos:Pos}{e o:Expr}{es:List Expr}{ta:TE}{t:TA}{pl:Sem Bool}
  (he:PE (Xt X pins E') o ta) (c:Cls X.K C) (hm:Al X.K C m f) (F:fM X.prog X.w X.K X.mg X.base (CXf X.prog X.w) k f fd ps sp) (hr:dH k X.A) (hb:dQ X.K fd ps ds) (hd:br dvs ds) (ha:PA (Xt X pins E') (e::es) t)
  (hst:starEach (e::es) X.env=(false,eval e X.env)::starEach es X.env:=by rfl) (hpl:(backTo pos (starEach es X.env)).any (·.1)=false:=by rfl)
  (ht:eval (.Call (.Attribute o m apos) (e::es) [] pos) X.env=(do
   let ov ←eval o X.env
   standAt apos.atName
   let (f,first) ←holding [ov] (getMethod ov m pl)
   callWith pos f first (backTo pos (starEach (e::es) X.env)) (backToKw pos (keywordEach [] X.env))):=by rfl) :
  PE (Xt X pins E') (.Call (.Attribute o m apos) (e::es) [] pos) (CF C m sp dvs E' ta t):=by
 intro pins' s σ H Q I h
 refine W.methodCall_KW (pl:=pl) (thn (he pins' s σ H _ I h) fun u s1 ⟨x,H1,I1,rx,a,dx,fs,ex,ea,l,q⟩=>?_) ht
 subst ex
 obtain rfl:u=Value.ref a:=rx
 refine lh I1 ea c hm l ?_
 refine W.callWith_K (first:=[.ref a]) (h₀:=X.base) I.ok.mod.kin hm.kp (thn (ha pos pins' s1 σ H1 _ I1 q) fun us s2 ⟨vs,H2,I2,r,q2⟩=>⟨I2.kIn,?_⟩) hst hpl
 exact IQ (us:=.ref a::us) (vs:=.ref a::vs) F hr hb hd I2 (.cons rfl r) q2
end
end L2
namespace PySem
open Sem (wp)
open Builtin PySem.Spec PyProof.Rows PySem.SeqAt
theorem sr:fillsNumberSlot (.type "tuple") "mul"=pure false:=
 fillsNumberSlot_seq (id:="tuple.__mul__") (r:=some (.builtin "tuple.__rmul__")) F.slot_tuple_mul.lookup (by decide +kernel) F.slot_tuple_rmul.lookup (by decide +kernel)
theorem zm:seqRepeat? (.type "tuple")=pure (some (.builtin "tuple.__mul__")):=by
 unfold seqRepeat?
 rw [seqSlot_of (T:="tuple") (name:="__mul__") (id:="tuple.__mul__") F.slot_tuple_mul.lookup (by decide +kernel),seqSlot_of (T:="tuple") (name:="__rmul__") (id:="tuple.__rmul__") F.slot_tuple_rmul.lookup (by decide +kernel)]
 rfl
theorem lB (a:Int)(t:Tok)(l:Addr)(items:Array Value)(n:Nat)(dd:Option Addr)(sl:Array (Option Value)) :
  Meets (Builtin.«int.__rmul__» ⟨[.int a t,.ref l],[]⟩) (fun _ R s=>s.heap.get? l=some {cls:=.type "tuple",dict:=dd,data:=.seq items n,slots:=sl}/\R (.ok (.ret Value.notImplemented)) s):=
 .of_wp fun prog w A R s h=>by obtain ⟨hp,g,d,tk,os⟩:=s;obtain ⟨hl,h⟩:=h;wp_walk;exact ⟨_,rfl,h⟩
theorem CG (l:Addr)(items:Array Value)(n:Nat)(dd:Option Addr)(sl:Array (Option Value))(x:Int)(u:Tok)(h2:2<=x)(h3:x<=100)(hz:items.size=1) :
  Meets (Builtin.«tuple.__mul__» ⟨[.ref l,.int x u],[]⟩) (fun A R s=>s.heap.get? l=some {cls:=.type "tuple",dict:=dd,data:=.seq items n,slots:=sl}/\
   R (.ok (.ret (.ref s.heap.objs.size))) {s with heap:=s.heap.push {cls:=.type "tuple",data:=.seq ((List.replicate x.toNat items).foldl (·++·) #[])}}):=
 .of_wp fun prog w A R s h=>by
  obtain ⟨hp,g,d,tk,os⟩:=s;obtain ⟨hl,h⟩:=h
  have c1:¬(decide (x < -(2 ^ 63)) || decide (x≥2 ^ 63))=true:=by simp;omega
  have c2:¬(items.isEmpty || x == 1)=true:=by
   simp only [Array.isEmpty,Bool.or_eq_true,beq_iff_eq,decide_eq_true_eq];omega
  have c3:¬(decide (x<=0) || items.isEmpty)=true:=by
   simp only [Array.isEmpty,Bool.or_eq_true,beq_iff_eq,decide_eq_true_eq];omega
  have c4:¬((items.size:Int) * x > (2 ^ 63 - 1) / 8):=by rw [hz];omega
  have c5:¬Builtin.Tuple.tupleTooMany ((items.size:Int) * x)=true:=by
   simp only [Builtin.Tuple.tupleTooMany,decide_eq_true_eq,hz,sizeLine_eq];omega
  have c6:¬((List.foldl (fun x1 x2=>x1++x2) #[] (List.replicate x.toNat items)).size > sizeLine):=by
   have f0:∀(m:Nat) (b:Array Value),(List.foldl (fun x1 x2=>x1++x2) b (List.replicate m items)).size=b.size+m:=fun m=>by
    induction m with
    | zero=>intro b;rfl
    | succ m ih=>intro b;rw [List.replicate_succ,List.foldl_cons,ih,Array.size_append,hz];omega
   rw [f0,sizeLine_eq]
   show ¬(0+x.toNat > _)
   omega
  wp_walk using wpAny_loadPart' hl
  rw [if_neg c1]
  wp_walk using wpAny_loadPart' hl
  rw [if_neg c4]
  wp_walk using wpAny_loadPart' hl
  rw [if_neg c5]
  wp_walk using wpAny_loadPart' hl
  exact ⟨_,rfl,h⟩
theorem mL {M:Model}{A:Around}{E:Value->Shared->Prop}{s:Shared}{β:Type}{c:β}{f:Nat->β->Sem (ForInStep β)}{Q:β->Shared->Prop} :
  ∀(l:List Nat) (j:Nat) (hj:j < l.length) (hno:∀i (hi:i < l.length),i < j->∀Q',Q' (.yield c) s->wpAny M A (f l[i] c) Q' E s) (hit:wpAny M A (f l[j] c) (fun r s1=>match r with | .done b=>Q b s1 | .yield _=>False) E s),wpAny M A (forIn l c f) Q E s
 | [],j,hj,_,_=>absurd hj (Nat.not_lt_zero _)
 | x::l,0,hj,_,hit=>by
  rw [List.forIn_cons]
  refine wpAny_bind (wpAny_mono hit ?_ (fun _ _ z=>z))
  intro r s1 h1
  cases r with
  | done b=>exact wpAny_pure h1
  | yield b=>exact h1.elim
 | x::l,j+1,hj,hno,hit=>by
  rw [List.forIn_cons]
  refine wpAny_bind (hno 0 (Nat.succ_pos _) (Nat.succ_pos _) _ ?_)
  exact mL l j (by simpa using hj) (fun i hi hij=>hno (i+1) (by simpa using hi) (by omega)) hit
theorem vk {M:Model}{A:Around}{E:Value->Shared->Prop}{s:Shared}{β:Type}{c:β}{f:Nat->β->Sem (ForInStep β)}{Q:β->Shared->Prop}{n:Nat}(j:Nat)(hj:j < n)
  (h:(∀i,i < j->∀Q',Q' (.yield c) s->wpAny M A (f i c) Q' E s)/\wpAny M A (f j c) (fun r s1=>match r with | .done b=>Q b s1 | .yield _=>False) E s) :
  wpAny M A (forIn ([:n]:Std.Legacy.Range) c f) Q E s:=by
 rw [Std.Legacy.Range.forIn_eq_forIn_range']
 have hl:([:n]:Std.Legacy.Range).size=n:=by simp [Std.Legacy.Range.size]
 refine mL _ j (by simp [hl];exact hj) (fun i hi hij Q' q=>?_) ?_
 ·have:=h.1 i hij Q' q
  simpa using this
 ·have:=h.2
  simpa using this
theorem wZ (l:Addr)(items:Array Value)(n:Nat)(dd:Option Addr)(sl:Array (Option Value))(x:Value)(e:Value->Bool)(j:Nat)(hj:j < items.size)
  (hit:e items[j]=true) (hno:∀m (hm:m < items.size),m < j->e items[m]=false) :
  Meets (Builtin.«tuple.index» ⟨[.ref l,x],[]⟩)
   (fun A R s=>s.heap.get? l=some {cls:=.type "tuple",dict:=dd,data:=.seq items n,slots:=sl}/\(∀y,y∈items->EqAt A.in1 s y x (e y))/\R (.ok (.ret (.int j s.toks))) {s with toks:=s.toks+1}):=
 .of_wp fun prog w A R s h=>by
  obtain ⟨hp,g,d,tk,os⟩:=s;obtain ⟨hl,he,h⟩:=h
  wp_walk using wpAny_loadPart' hl,vk j (show j < min items.size items.size by omega)
  refine ⟨fun i hi Q' q=>?_,?_⟩
  ·have hm:i < items.size:=by omega
   simp only [getElem?_pos items i hm]
   refine wpAny_bind (he _ (Array.getElem_mem hm) prog w _ _ ?_)
   rw [hno i hm hi,if_neg Bool.false_ne_true]
   exact wpAny_pure q
  ·simp only [getElem?_pos items j hj]
   refine wpAny_bind (he _ (Array.getElem_mem hj) prog w _ _ ?_)
   rw [hit,if_pos rfl]
   wp_walk
   exact ⟨_,rfl,h⟩
section
variable {prog:Program}{w:World}{A:Around}{E:Value->Shared->Prop}{s:Shared}
theorem w6 {l:Addr}{vs:List Value}{Q:List Value->Shared->Prop}(hl:IsTup s.heap l vs.toArray)
  (h:Q vs {s with heap:=(s.heap.push (seqObj "list" #[] 0)).update s.heap.objs.size (Obj.mapSeq (·++vs.toArray))}) (hsz:vs.length<=sizeLine:=by size_fits) :
  wpAny (model prog w) A (collect (.ref l)) Q E s:=by
 obtain ⟨o,ho,hc,n,hd⟩:=id hl
 unfold collect
 refine wpAny_bind (wpAny_runValue (codeAny_builtin entry_proto_collect' ?_))
 show wpAny _ _ (do again (.builtin "list.__iadd__" ⟨[←newList [],.ref l],[]⟩)) _ _ s
 refine wpAny_bind (wpAny_newList (wpAny_pure ⟨Code.quiet_builtin _ (by decide +kernel),codeAny_builtin entry_list_iadd' ?_⟩))
 show wpAny _ _ (Builtin.List.listExtendWith (.ref s.heap.objs.size) (.ref l) (.ref s.heap.objs.size)) _ _ {s with heap:=s.heap.push (seqObj "list" #[] 0)}
 unfold Builtin.List.listExtendWith
 have ho':(s.heap.push (seqObj "list" #[] 0)).get? l=some o:=Heap.get?_push_of_some _ ho
 refine wpAny_bind (wpAny_typeOf (T:="tuple") ⟨o,ho',hc⟩ ?_)
 have ht:(Value.type "tuple" == Value.type "tuple")=true:=by rfl
 rw [if_pos (by rw [ht];simp)]
 refine wpAny_bind (listItems_at ho' hd ?_)
 refine wpAny_bind (listItems_at (xs:=#[]) (n:=0) (Heap.get?_push_size _ rfl) rfl ?_)
 rw [if_neg (by simp)]
 refine wpAny_bind (listUpdate_at (xs:=#[]) (n:=0) (Heap.get?_push_size _ rfl) rfl ?_ (Nat.zero_le _) (by show (#[]++vs.toArray).size<=sizeLine+1;simp only [Array.size_append,List.size_toArray,List.length_nil];omega))
 refine wpAny_pure ?_
 show wpAny (model prog w) A (do
   let o ←load s.heap.objs.size
   match o.data with
   | .seq xs _=>pure xs.toList
   | _=>unsupported "internal:collect") Q E {s with heap:=(s.heap.push (seqObj "list" #[] 0)).update s.heap.objs.size (Obj.mapSeq (·++vs.toArray))}
 refine wpAny_bind (wpAny_load (get?_update_seq (Heap.get?_push_size _ rfl) _) ?_)
 show wpAny _ _ (pure ((#[]:Array Value)++vs.toArray).toList) Q E _
 rw [show ((#[]:Array Value)++vs.toArray).toList=vs by simp]
 exact wpAny_pure h
theorem zp {l:Addr}{vs:List Value}{ns:List Int}{Q:Value->Shared->Prop}(hl:IsTup s.heap l vs.toArray)(hI:IntsAre vs ns)(h64:vs.length < 64)
  (h:∀(out:Array Value) (ns':List Int),IntsAre out.toList ns'->ns'.Perm ns->ns'.Pairwise (·<=·)->Q (.ref (s.heap.objs.size+1)) {s with heap:=sortedAll s.heap vs out}) :
  wpAny (model prog w) A (call (.builtin "sorted") [.ref l]) Q E s:=by
 refine Calls.call_function_entry kind_sorted plain_sorted entry_sorted (args_sorted1 _) ?_
 unfold Builtin.«sorted»
 refine wpAny_bind (m:=checkCount "sorted" 1 1 _) (wpAny_pure ?_)
 refine wpAny_bind (w6 hl ?_ (by rw [sizeLine_eq];omega))
 refine wpAny_bind (wpAny_newList ?_)
 have hsz:((s.heap.push (seqObj "list" #[] 0)).update s.heap.objs.size (Obj.mapSeq (·++vs.toArray))).objs.size=s.heap.objs.size+1:=by
  rw [Heap.size_update,size_push']
 have hoL:(((s.heap.push (seqObj "list" #[] 0)).update s.heap.objs.size (Obj.mapSeq (·++vs.toArray))).push (seqObj "list" vs.toArray 0)).get? (s.heap.objs.size+1)=some (seqObj "list" vs.toArray 0):=by
  rw [←hsz];exact Heap.get?_push_size _ rfl
 show wpAny _ _ _ _ _ {s with heap:=((s.heap.push (seqObj "list" #[] 0)).update s.heap.objs.size (Obj.mapSeq (·++vs.toArray))).push (seqObj "list" vs.toArray 0)}
 rw [hsz]
 refine wpAny_bind (wpAny_holding (wpAny_call_entry slot_list_sort ⟨_,hoL,rfl⟩ entry_list_sort (list_sort_tree hoL hI h64 fun out ns' a1 a2 a3=>⟨_,rfl,?_⟩) (args_list_sort _)))
 exact wpAny_pure ⟨_,rfl,h out ns' a1 a2 a3⟩
end
end PySem
namespace L2
open PySem PySem.Spec PyProof.Rows PySem.SeqAt
section
variable {X:Cx}
noncomputable def Kv (K:WA):R2:=fun x y H Q=>∃l k v,x=.ref l/\y=.int k/\SqT K H l [v]/\2<=k/\k<=100/\∀p,H p=none->Q (.ref p) (upd H p (.tup (List.replicate k.toNat v)))
theorem GJ {α:Type}(n:Nat)(x:α):(List.replicate n [x]).flatten=List.replicate n x:=by
 induction n with
 | zero=>rfl
 | succ n ih=>rw [List.replicate_succ,List.replicate_succ,List.flatten_cons,ih];rfl
theorem AU {v:V}{u:Value}(r:bK v u):∀n,br (List.replicate n v) (List.replicate n u)
 | 0=>.nil
 | n+1=>.cons r (AU r n)
theorem IS:OpR X (binaryOp .Mult) (Kv X.K):=by
 intro pins s σ H x y v u Q I rx ry h
 obtain ⟨l,k,z,rfl,rfl,hS,h1,h2,q⟩:=h
 cases rx
 obtain ⟨t,rfl⟩:=ry
 obtain ⟨its,r,ht,hz⟩:=I.tuple hS
 obtain ⟨w,rfl,rw1⟩:=r.one
 obtain ⟨⟨cls,dd,data,sl⟩,ho,hc,n,hd⟩:=id ht
 simp only at hc hd
 subst hc hd
 have e:List.foldl (fun x1 x2=>x1++x2) #[] (List.replicate k.toNat [w].toArray)=(List.replicate k.toNat w).toArray:=by
  have:=xW [w] k.toNat []
  rw [List.nil_append,GJ] at this
  exact this
 refine wpAny_binaryOp_repeat_ref (T:="tuple") (U:="int") (by decide) ⟨_,ho,rfl⟩ (fun s'=>typeIs_int s' k t) sr F.fills_int_mul F.slot_int_rmul zm F.slot_int_index.lookup
  (call_meets F.slot_int_rmul (typeIs_int s k t) F.entry_int_rmul (F.args_int_rmul_2 _ _) (lB k t l [w].toArray n dd sl)
   ⟨ho,rfl,⟨_,ho,rfl⟩,call_meets F.slot_tuple_mul ⟨_,ho,rfl⟩ F.entry_tuple_mul (F.args_tuple_mul_2 _ _) (CG l [w].toArray n dd sl k t h1 h2 rfl) ⟨ho,?_⟩⟩)
 rw [e]
 refine ⟨.ref s.heap.objs.size,_,I.laid (t':=s.toks) (o:=.tup (List.replicate k.toNat z)) (fun b ob q=>Heap.get?_push_of_some _ q) (Nat.le_refl _) ?_,rfl,q _ (I.hok.fresh (Nat.le_refl _))⟩
 exact ⟨by rw [List.length_replicate,sizeLine_eq];omega,_,AU rw1 _,iP.new _ _⟩
noncomputable def Ee:V->List V->Hp->VK->Prop:=fun x vs H Q=>∃(l:Addr) (ns:List Int) (k:Int),x=.ref l/\vs=[.int k]/\H l=some (.tup (ns.map V.int))/\k∈ns/\Q (.int (ns.idxOf k:Nat)) H
theorem E6:MtR X "tuple.index" Ee:=by
 intro pins s σ H x vs v us Q I rx rv h
 obtain ⟨l,ns,k,rfl,rfl,hq,hk,q⟩:=h
 cases rx
 obtain ⟨u,rfl,t,rfl⟩:=rv.one
 obtain ⟨its,r,pl,hz⟩:=I.tuple (SqT.of hq)
 have hi:IntsAre its ns:=n9 r
 obtain ⟨⟨cls,dd,data,sl⟩,ho,hc,n,hd⟩:=id pl
 simp only at hc hd
 subst hc hd
 have hlen:=hi.length
 have hj:ns.idxOf k < ns.length:=List.idxOf_lt_length_iff.mpr hk
 refine call_meets PySem.F.slot_tuple_index ⟨_,ho,rfl⟩ PySem.F.entry_tuple_index (PySem.F.args_tuple_index_2 _ _)
  (wZ l its.toArray n dd sl (.int k t) (isInt k) (ns.idxOf k) (by simpa [hlen] using hj) ?_ ?_) ⟨ho,fun y hy=>(eq_isInt k t hi y (by simpa using hy)).at _ _,?_⟩
 ·show isInt k its[ns.idxOf k]=true
  rw [isInt_at k hi _ (by omega) hj]
  simpa using List.getElem_idxOf hj
 ·intro j hjs hlt
  show isInt k its[j]=false
  rw [isInt_at k hi j (by simpa using hjs) (by omega)]
  exact ne_of_lt_idxOf hlt _
 ·exact ⟨.int (ns.idxOf k:Nat),H,I.tok _,⟨_,rfl⟩,q⟩
noncomputable def M9 (r:V->List V->Hp->VK->Prop)(to:TE)(t:TA):TE:=fun σ H Q=>to σ H fun x H1=>(∃a xs,x=.ref a/\H1 a=some (.tup xs))/\t σ H1 fun xs H2=>r x xs H2 Q
theorem LV {o e:Expr}{es:List Expr}{to:TE}{t:TA}{name:Str}{apos cpos:Pos}{id:String}{r:V->List V->Hp->VK->Prop}(pa:PlainAttrs "tuple")(slot:Slot "tuple" name id)(hty:typeOf (.builtin id)=pure (.type "method_descriptor"))(hm:MtR X id r)(ho:PE X o to)(ha:PA X (e::es) t)
  (hbase:attributeBase o name X.env (eval o X.env)=eval o X.env:=by rfl)
  (hfew:((backTo cpos (starEach (e::es) X.env)).all (fun x=>!x.1) && (backToKw cpos (keywordEach [] X.env)).all (fun x=>x.1.isSome)
   && decide ((e::es).length+([]:List Keyword).length+(if ([]:List Keyword).isEmpty then 0 else 1) < 30))=true:=by rfl)
  (hline:(apos.endLine == cpos.line)=true:=by rfl) (hs:starEach (e::es) X.env=(false,eval e X.env)::starEach es X.env:=by rfl) (hplain:(backTo cpos (starEach es X.env)).any (·.1)=false:=by rfl) :
  PE X (.Call (.Attribute o name apos) (e::es) [] cpos) (M9 r to t):=by
 intro pins s σ H Q I h
 refine wpAny_Call_method_late hbase hfew hline rfl (thn (ho pins s σ H _ I h) fun v s1 ⟨x,H1,I1,r1,ty,q1⟩=>?_)
 obtain ⟨a,xs,rfl,hH⟩:=ty
 cases r1
 obtain ⟨_,its,_,ob,e1,⟨c1,_⟩,d1⟩:=I1.hok a _ hH
 refine ⟨"tuple",id,pa,slot,hty,⟨ob,e1,c1⟩,fun b eb=>?_,?_⟩
 ·cases eb;exact ⟨ob,e1,d1⟩
 have hA:=ha cpos pins s1 σ H1 _ I1 q1
 rw [hs] at hA ⊢
 refine Calls.callWith_builtin (by show (false || (backTo cpos (starEach es X.env)).any (·.1))=false;rw [hplain]<;>rfl) (Calls.evalArgs_plain ?_)
 exact thn hA fun us s2 ⟨vs,H2,I2,r2,q2⟩=>hm pins s2 σ H2 (.ref a) vs (.ref a) us Q I2 rfl r2 q2
end
section
variable {X:Cx}
noncomputable def GK (K:WA):List V->Hp->VK->Prop:=fun xs H Q=>∃(a:Addr) (ns:List Int),xs=[.ref a]/\SqT K H a (ns.map V.int)/\ns.length < 64/\∀(l:Addr) (ms:List Int),H l=none->ms.Perm ns->ms.Pairwise (·<=·)->Q (.ref l) (upd H l (.lst (ms.map V.int)))
theorem CH:ez X (.builtin "sorted") (GK X.K):=by
 intro pins s σ H xs us Q I r h
 obtain ⟨a,ns,rfl,hS,hn,q⟩:=h
 obtain ⟨u,rfl,ru⟩:=ql r
 cases ru
 obtain ⟨its,rv,pl,hz⟩:=I.tuple hS
 have hI:IntsAre its ns:=n9 rv
 have hlen:its.length=ns.length:=hI.length
 refine zp pl hI (by omega) fun out ms a1 a2 a3=>?_
 obtain ⟨c,hc⟩:=sortedAll_at s.heap its out
 have hml:ms.length=ns.length:=a2.length_eq
 have J:=I.laid (a:=s.heap.objs.size+1) (o:=.lst (ms.map V.int)) (t':=s.toks) (h':=sortedAll s.heap its out) (fun b o e=>sortedAll_old e) (Nat.le_succ _) (show fK X.prog X.w _ _ _ (.lst (ms.map V.int)) from ⟨by rw [WB,hml];exact Nat.le_of_lt (cy (by omega)),out.toList,c,se a1,by rw [Array.toArray_toList];exact hc⟩)
 exact ⟨.ref (s.heap.objs.size+1),_,J,rfl,q _ ms (I.hok.fresh (Nat.le_succ _)) a2 a3⟩
end
end L2
namespace L2
open PySem PySem.Spec PyProof.Rows
def dE {α:Type}(P:Addr->α->Prop)(as:List Addr)(xs:List α):Prop:=as.length=xs.length/\∀(i:Nat) a x,as[i]?=some a->xs[i]?=some x->P a x
section
variable {α:Type}{P Q:Addr->α->Prop}{as:List Addr}{xs:List α}{a:Addr}{x:α}
theorem dE.imp (h:dE P as xs)(f:∀a x,P a x->Q a x):dE Q as xs:=⟨h.1,fun i a x e1 e2=>f _ _ (h.2 i a x e1 e2)⟩
theorem dE.nil:dE P [] []:=⟨rfl,fun i a r e _=>by simp at e⟩
theorem dE.push (h:dE P as xs)(hr:P a x):dE P (as++[a]) (xs++[x]):=by
 refine ⟨by rw [List.length_append,List.length_append,h.1];rfl,fun i b y e1 e2=>?_⟩
 by_cases hi:i < as.length
 ·rw [List.getElem?_append_left hi] at e1
  rw [List.getElem?_append_left (by rw [←h.1];exact hi)] at e2
  exact h.2 i b y e1 e2
 ·rw [List.getElem?_append_right (by omega)] at e1
  rw [List.getElem?_append_right (by rw [←h.1];omega),←h.1] at e2
  have hz:i - as.length=0:=by
   have:=(List.getElem?_eq_some_iff.mp e1).1
   simp at this
   omega
  rw [hz] at e1 e2
  cases e1
  cases e2
  exact hr
theorem dE.last (h:dE P as (xs++[x])):∃as' a,as=as'++[a]/\dE P as' xs/\P a x:=by
 have hl:=h.1
 rw [List.length_append,List.length_singleton] at hl
 rcases di as with rfl | ⟨as',a,rfl⟩
 ·cases hl
 ·have hl':as'.length=xs.length:=by rw [List.length_append,List.length_singleton] at hl;omega
  refine ⟨as',a,rfl,⟨hl',fun i b y e1 e2=>?_⟩,?_⟩
  ·have hi:=(List.getElem?_eq_some_iff.mp e1).1
   exact h.2 i b y (by rw [List.getElem?_append_left hi];exact e1) (by rw [List.getElem?_append_left (by omega)];exact e2)
  ·refine h.2 as'.length a x ?_ ?_
   ·rw [List.getElem?_append_right (Nat.le_refl _)];simp
   ·rw [List.getElem?_append_right (by omega),hl'];simp
end
def iB (K:WA)(H:Hp)(a:Addr)(x:aM×Int):Prop:=∃gt lt ht dt:Addr,SqT K H a [.int x.1.place,.ref gt,.ref lt,.ref ht,.ref dt,.int x.2]/\SqT K H gt (x.1.gates.map V.bl)/\H lt=some (.tup (x.1.ws.map V.int))/\SqT K H ht (lz x.1.e)/\SqT K H dt ((cO x.1.fs).map V.int)
theorem iB.same {K:WA}{H H':Hp}{a:Addr}{x:aM×Int}(h:iB K H a x)(s:aq H H'):iB K H' a x:=by
 obtain ⟨gt,lt,ht,dt,h1,h2,h3,h4,h5⟩:=h
 exact ⟨gt,lt,ht,dt,s.tup h1,s.tup h2,s _ _ h3,s.tup h4,s.tup h5⟩
theorem iB.keep {K:WA}{H H':Hp}{a p:Addr}{ys:List V}{x:aM×Int}(h:iB K H a x)(s:aA p H H')(hp:H p=some (.lst ys)):iB K H' a x:=by
 obtain ⟨gt,lt,ht,dt,h1,h2,h3,h4,h5⟩:=h
 exact ⟨gt,lt,ht,dt,h1.keep s hp,h2.keep s hp,s _ _ (fun z=>by rw [z,hp] at h3;cases h3) h3,h4.keep s hp,h5.keep s hp⟩
noncomputable def mj (n0:aM)(rs:List Row):List (aM×Int):=(n0,0)::rs.map fun r=>(r.sn,r.ended)
theorem pB (n0:aM)(rs:List Row)(r:Row):mj n0 (rs++[r])=mj n0 rs++[(r.sn,r.ended)]:=by simp [mj]
theorem CI (n0:aM)(rs:List Row):(mj n0 rs).getLast?=some (ai n0 rs,cS rs):=by
 rcases di rs with rfl | ⟨rs',r,rfl⟩
 ·rfl
 ·rw [pB,List.getLast?_concat,jD,sj]
theorem yk (n0:aM)(rs:List Row):(mj n0 rs).length=rs.length+1:=by simp [mj]
theorem vm {K:WA}{H:Hp}{as:List Addr}{n0:aM}{rs:List Row}(h:dE (iB K H) as (mj n0 rs)):∃as' a,as=as'++[a]/\iB K H a (ai n0 rs,cS rs):=by
 have hl:=CI n0 rs
 rcases di (mj n0 rs) with e | ⟨l,x,e⟩
 ·rw [e] at hl;cases hl
 ·rw [e,List.getLast?_concat] at hl
  cases hl
  rw [e] at h
  obtain ⟨as',a,ea,_,ha⟩:=h.last
  exact ⟨as',a,ea,ha⟩
theorem jE {as:List Addr}{a:Addr}:atI ((as++[a]).map V.ref) (-1)=some (.ref a):=by
 rw [List.map_append]
 exact FV _ _
structure dN (K:WA)(H:Hp)(p dl cl ll:Addr)(g:Cfg)(lds:List Ld):Prop where
 ob:H p=some (.lst [.ref dl,.ref cl,.int g.slow,.int g.fast,.ref ll])
 od:H dl=some (.lst (g.ds.map V.int))
 oc:∃as:List Addr,H cl=some (.lst (as.map V.ref))/\cR cdV K H as g.ls
 ol:∃as:List Addr,H ll=some (.lst (as.map V.ref))/\jQ K H as lds
 ek:g.ks=lds.map (·.1)
theorem dN.same {K:WA}{H H':Hp}{p dl cl ll:Addr}{g:Cfg}{lds:List Ld}(h:dN K H p dl cl ll g lds)(s:aq H H'):dN K H' p dl cl ll g lds:=by
 obtain ⟨h1,h2,⟨as,h3,h4⟩,⟨bs,h5,h6⟩,h7⟩:=h
 exact ⟨s _ _ h1,s _ _ h2,⟨as,s _ _ h3,h4.same s⟩,⟨bs,s _ _ h5,h6.same s⟩,h7⟩
def bI (a b c:Addr)(H H':Hp):Prop:=∀d o,d≠a->d≠b->d≠c->H d=some o->H' d=some o
theorem bI.of {a b c:Addr}{H H':Hp}(s:aq H H'):bI a b c H H':=fun d o _ _ _ e=>s d o e
theorem bI.a {a b c:Addr}{H H':Hp}(s:aA a H H'):bI a b c H H':=fun d o n _ _ e=>s d o n e
theorem bI.b {a b c:Addr}{H H':Hp}(s:aA b H H'):bI a b c H H':=fun d o _ n _ e=>s d o n e
theorem bI.c {a b c:Addr}{H H':Hp}(s:aA c H H'):bI a b c H H':=fun d o _ _ n e=>s d o n e
theorem bI.trans {a b c:Addr}{H H1 H2:Hp}(s:bI a b c H H1)(t:bI a b c H1 H2):bI a b c H H2:=fun d o n m k e=>t d o n m k (s d o n m k e)
theorem aq.keeps3 {a b c:Addr}{H H1 H2:Hp}(s:aq H H1)(k:bI a b c H1 H2)(ha:H a=none)(hb:H b=none)(hc:H c=none):aq H H2:=fun d o e=>k d o (ak e ha) (ak e hb) (ak e hc) (s d o e)
structure AV (C:Cl)(K:WA)(H:Hp)(w bk rl sl wl:Addr)(g:Cfg)(n0:aM)(rs:List Row):Prop where
 wk:WAt C K H w bk rl g n0 rs
 st:∃as:List Addr,H sl=some (.lst (as.map V.ref))/\dE (iB K H) as (mj n0 rs)
 ro:∃as:List Addr,H wl=some (.lst (as.map V.ref))/\c8 K H as rs
 ns:g.N sl
 nw:g.N wl
 ne:sl≠wl
 run:Run g n0 rs
theorem AV.same {C:Cl}{K:WA}{H H':Hp}{w bk rl sl wl:Addr}{g:Cfg}{n0:aM}{rs:List Row}(h:AV C K H w bk rl sl wl g n0 rs)(s:aq H H'):AV C K H' w bk rl sl wl g n0 rs:=by
 obtain ⟨h1,⟨as,h2,h3⟩,⟨bs,h4,h5⟩,h6,h7,h8,h9⟩:=h
 exact ⟨h1.same s,⟨as,s _ _ h2,h3.imp fun a x q=>q.same s⟩,⟨bs,s _ _ h4,h5.same s⟩,h6,h7,h8,h9⟩
noncomputable def w8 (K:WA)(H:Hp)(n:aM)(t:Int):Dd->V->Prop
 | .rept s,v=>∃(p:Addr) (l r:Int),v=.ref p/\n.e=.wait l r/\SqT K H p [.bl (decide (s=r)),.int r,.int s]
 | _,v=>v=.int t
theorem IT {K:WA}{l:Addr}{ls:List Ld}{te:TE}{cm:List (Option Nat)}{σ:St}{H:Hp}{Q:VK}{j:Nat}(f:Ld->V)(hL:fv K H l ls)(hn:ls.length<=sizeLine)(hj:(cA cm σ)[j]?=some none)
  (he:∀a x,SqT K H a (ldV x)->∀N:VK,N (f x) H->te ((cA cm σ).set j (some (.ref a))) H N)
  (hd:∀p,H p=none->Q (.ref p) (upd H p (.lst (ls.map f)))):oF (Itl K l) (et j) um te cm σ Q H:=by
 obtain ⟨as,hS,hlen,hT⟩:=hL
 refine mI ls.length (fun i acc H'=>H'=H/\acc=(ls.take i).map f) ⟨rfl,by simp⟩ ?_ ?_ ?_ ?_
 ·rintro i acc H' hi ⟨rfl,_⟩
  have ha:as[i]?=some as[i]:=List.getElem?_eq_getElem (by omega)
  exact ⟨_,.ref as[i],hS,by rw [List.getElem?_map,ha];rfl⟩
 ·rintro acc H' ⟨rfl,_⟩
  exact ⟨_,hS,by rw [WB];omega⟩
 ·rintro i acc H' hi ⟨rfl,rfl⟩
  have ha:as[i]?=some as[i]:=List.getElem?_eq_getElem (by omega)
  have hx:ls[i]?=some ls[i]:=List.getElem?_eq_getElem hi
  refine ⟨by rw [WB,List.length_take];omega,fun x H2 y M hM=>?_⟩
  obtain ⟨e,y⟩:=y
  subst e
  have hy:=y _ hS
  rw [List.getElem?_map,ha] at hy
  cases hy
  refine ⟨Cv hj,?_⟩
  unfold um;dsimp only
  split
  ·refine he as[i] ls[i] (hT i _ _ ha hx) _ (hM _ _ ⟨rfl,?_⟩)
   rw [List.take_succ_eq_append_getElem hi,List.map_append];rfl
  ·rename_i z;exact absurd rfl z
 ·rintro acc H' ⟨rfl,rfl⟩ p hp
  rw [List.take_length]
  exact hd p hp
theorem LW {n:Nat}(h:0 < n):ixN n (-1)=some (n - 1):=by
 unfold ixN
 rw [if_neg (by omega),if_pos (by omega)]
 congr 1
 omega
end L2
namespace L2
open PySem PySem.Spec PyProof.Rows PySem.SeqAt
theorem oh (fs:List Bool)(n i:Nat)(v:Bool):(fs.set n v).getD i false=if n=i/\i < fs.length then v else fs.getD i false:=by
 rw [List.getD_eq_getElem?_getD,List.getD_eq_getElem?_getD,List.getElem?_set]
 by_cases e:n=i
 ·subst e
  by_cases h:n < fs.length
  ·rw [if_pos rfl,if_pos h,if_pos ⟨rfl,h⟩];rfl
  ·rw [if_pos rfl,if_neg h,if_neg (fun z=>h z.2),List.getElem?_eq_none (by omega)]
 ·rw [if_neg e,if_neg (fun z=>e z.1)]
theorem E7 {fs:List Bool}{l:Int}{ms:List Int}(h0:0<=l)(h1:l < fs.length)(h2:fs.getD l.toNat false=false)(hp:ms.Perm (cO fs++[l]))(hs:ms.Pairwise (·<=·)):ms=cO (fs.set l.toNat true):=by
 have hl:¬l∈cO fs:=fun z=>by rw [(iM.mp z).2.2] at h2;cases h2
 have hnd:(cO fs++[l]).Nodup:=by
  rw [List.nodup_append]
  refine ⟨(AO fs).imp fun h=>by omega,by simp,fun a ha b hb e=>?_⟩
  rw [List.mem_singleton] at hb
  subst hb e
  exact hl ha
 have hn:ms.Nodup:=hp.nodup_iff.mpr hnd
 have hu:ms.Pairwise (· < ·):=(hs.and hn).imp fun ⟨x,y⟩=>by omega
 refine GF hu (AO _) fun k=>?_
 rw [hp.mem_iff,List.mem_append,List.mem_singleton,iM,iM,List.length_set,oh]
 constructor
 ·rintro (⟨a,b,c⟩ | rfl)
  ·refine ⟨a,b,?_⟩
   split
   ·rfl
   ·exact c
  ·exact ⟨h0,h1,by rw [if_pos ⟨rfl,by omega⟩]⟩
 ·rintro ⟨a,b,c⟩
  split at c
  ·rename_i e
   exact .inr (by omega)
  ·exact .inl ⟨a,b,c⟩
theorem sv (fs:List Bool):(cO fs).length<=fs.length:=vj fs fs.length
theorem qz {α:Type}(f:α->V)(xs:List α)(n:Nat)(v:α):(xs.map f).set n (f v)=(xs.set n v).map f:=(List.map_set ..).symm
section
variable {X:Cx}
noncomputable def Kw:R2:=fun x y H Q=>∃a b xs ys,x=.ref a/\y=.ref b/\H a=some (.tup xs)/\H b=some (.tup ys)/\xs.length+ys.length<=1000/\∀p H',aq H H'->H' p=some (.tup (xs++ys))->Q (.ref p) H'
theorem IU:OpR X (binaryOp .Add) Kw:=by
 intro pins s σ H x y v u Q I rx ry h
 obtain ⟨a,b,xs,ys,rfl,rfl,ha,hb,hz,q⟩:=h
 by_cases hx:xs=[]
 ·subst hx
  cases rx
  cases ry
  obtain ⟨its,r1,p1,_⟩:=I.tuple (SqT.of ha)
  obtain ⟨its2,r2,p2,_⟩:=I.tuple (SqT.of hb)
  have e1:=r1.zero
  subst e1
  obtain ⟨⟨cls,dd,data,sl⟩,ho,hc,n,hd⟩:=id p1
  obtain ⟨⟨cls2,dd2,data2,sl2⟩,ho2,hc2,n2,hd2⟩:=id p2
  simp only at hc hd hc2 hd2
  subst hc hd hc2 hd2
  exact concat_meets ⟨_,ho,rfl⟩ ⟨_,ho2,rfl⟩ noFill_tuple_add seq_tuple_add PySem.F.slot_tuple_add PySem.F.entry_tuple_add (PySem.F.args_tuple_add_2 _ _)
   (tuple_addW0 a b _ its2.toArray n n2 dd dd2 sl sl2 rfl) ⟨ho,ho2,⟨.ref b,H,I,rfl,q b H (aq.refl H) hb⟩⟩
 ·refine DK pins s σ H _ _ v u Q I rx ry ⟨a,b,xs,ys,rfl,rfl,SqT.of ha,SqT.of hb,hx,by rw [sizeLine_eq];omega,fun e=>q a H (aq.refl H) (by rw [e,List.append_nil];exact ha),fun _ p hp=>q p _ ((aq.refl H).lay hp) ag⟩
end
end L2
namespace L2
open PySem PySem.Spec PyProof.Rows
def onI (x:V)(P:Int->Prop):Prop:=match x with | .int i=>P i | _=>False
def onB (x:V)(P:Bool->Prop):Prop:=match x with | .bl i=>P i | _=>False
def onR (x:V)(P:Addr->Prop):Prop:=match x with | .ref i=>P i | _=>False
def onO (x:Option (Option V))(P:V->Prop):Prop:=match x with | some (some v)=>P v | _=>False
def onC (xs:List V)(P:V->List V->Prop):Prop:=match xs with | v::r=>P v r | []=>False
def onN (xs:List V)(P:Prop):Prop:=match xs with | []=>P | _=>False
theorem IV (i:Int)(P:Int->Prop):onI (.int i) P=P i:=rfl
theorem LX (i:Bool)(P:Bool->Prop):onB (.bl i) P=P i:=rfl
theorem IW (i:Addr)(P:Addr->Prop):onR (.ref i) P=P i:=rfl
theorem GL (v:V)(P:V->Prop):onO (some (some v)) P=P v:=rfl
theorem GN (v:V)(r:List V)(P:V->List V->Prop):onC (v::r) P=P v r:=rfl
theorem IX (P:Prop):onN [] P=P:=rfl
theorem zq {x:V}{P:Int->Prop}:(∃i,x=.int i/\P i)↔onI x P:=by cases x<;>simp [onI]
theorem zr {x:V}{P:Bool->Prop}:(∃i,x=.bl i/\P i)↔onB x P:=by cases x<;>simp [onB]
theorem zt {x:V}{P:Addr->Prop}:(∃i,x=.ref i/\P i)↔onR x P:=by cases x<;>simp [onR]
theorem gu {x:V}{P:Addr->Prop}(h:onR x P):∃i,x=.ref i/\P i:=zt.mpr h
theorem sA {x:V}{P:Int->Prop}(h:onI x P):∃i,x=.int i/\P i:=zq.mpr h
theorem IY {x:Option (Option V)}{P:V->Prop}:(∃v,x=some (some v)/\P v)↔onO x P:=by
 rcases x with _ | _ | v<;>simp [onO]
theorem IZ {xs:List V}{P:V->List V->Prop}:(∃v r,xs=v::r/\P v r)↔onC xs P:=by
 cases xs with
 | nil=>exact ⟨fun ⟨_,_,e,_⟩=>(List.cons_ne_nil _ _ e.symm).elim,fun h=>False.elim h⟩
 | cons v r=>exact ⟨fun ⟨_,_,e,h⟩=>by cases e;exact h,fun h=>⟨v,r,rfl,h⟩⟩
theorem I8 {xs:List V}{P:Prop}:(xs=[]/\P)↔onN xs P:=by cases xs<;>simp [onN]
theorem NF {α β:Type}(f:α->β)(a:α)(l:List α):List.map f (a::l)=f a::List.map f l:=rfl
theorem NG {α β:Type}(f:α->β):List.map f ([]:List α)=[]:=rfl
theorem NH {α:Type}(a:α)(l m:List α):(a::l)++m=a::(l++m):=rfl
theorem NJ {α:Type}(m:List α):([]:List α)++m=m:=rfl
theorem Na {α:Type}(a:α)(l:List α):(a::l)[0]?=some a:=rfl
theorem Nb {α:Type}(a:α)(l:List α)(n:Nat):(a::l)[n+1]?=l[n]?:=rfl
theorem Nd {α:Type}(a b:α)(l:List α):(a::l).set 0 b=b::l:=rfl
theorem Nf {α:Type}(a b:α)(l:List α)(n:Nat):(a::l).set (n+1) b=a::l.set n b:=rfl
theorem NK {α:Type}(a:α)(n:Nat):List.replicate (n+1) a=a::List.replicate n a:=rfl
theorem NL {α:Type}(a:α):List.replicate 0 a=[]:=rfl
theorem LY (N:List Str)(vs:List V):L2.mh N vs=vs.map some++List.replicate (N.length - vs.length) none:=rfl
theorem σN (cm:List (Option Nat))(σ:St):cA (none::cm) σ=none::cA cm σ:=rfl
theorem σS (i:Nat)(cm:List (Option Nat))(σ:St):cA (some i::cm) σ=(σ[i]?).getD none::cA cm σ:=rfl
theorem σ0 (σ:St):cA [] σ=[]:=rfl
theorem Ng {α:Type}(a b:α):(some a).getD b=a:=rfl
theorem NM {α:Type}(a:α)(l:List α):(a::l).length=l.length+1:=rfl
theorem NN {α:Type}:([]:List α).length=0:=rfl
theorem Nh {A B:Prop}:(if true=true then A else B)=A:=rfl
theorem Ni {A B:Prop}:(if false=true then A else B)=B:=rfl
theorem NO {p:Prop}[Decidable p]{A B:Prop}(h:if p then A else B):if decide p=true then A else B:=by
 by_cases e:p
 ·rw [if_pos e] at h;rw [if_pos (decide_eq_true e)];exact h
 ·rw [if_neg e] at h;rw [if_neg (by simp [e])];exact h
section
variable {α β:Type}
theorem ceq {f g:α->β->Prop}(h:∀x y,f x y↔g x y):f=g:=funext fun x=>funext fun y=>propext (h x y)
noncomputable def AW (i:Nat):TE:=fun σ H Q=>onO σ[i]? fun v=>Q v H
theorem I9 (i:Nat):KW i=AW i:=funext fun σ=>funext fun H=>funext fun Q=>propext IY
noncomputable def tB' (t:TE):TT:=fun σ H Q=>t σ H fun x H1=>onB x fun c=>Q c H1
theorem Kx (t:TE):tB t=tB' t:=funext fun σ=>funext fun H=>funext fun Q=>congrArg (t σ H) (ceq fun _ _=>zr)
theorem GO (t:TE):mz t=tB' t:=Kx t
noncomputable def CJ (g:Int->Int->V):R2:=fun x y H Q=>onI x fun i=>onI y fun j=>Q (g i j) H
theorem two_iff {x y:V}{P:Int->Int->Prop}:(∃i j,x=.int i/\y=.int j/\P i j)↔onI x fun i=>onI y fun j=>P i j:=⟨fun ⟨i,j,e,f,h⟩=>by subst e f;exact h,fun h=>let ⟨i,e,h⟩:=sA h;let ⟨j,f,h⟩:=sA h;⟨i,j,e,f,h⟩⟩
theorem vn (g:Int->Int->V):rI0 g=CJ g:=funext fun x=>funext fun y=>ceq fun _ _=>two_iff
noncomputable def rI' (C:Int->Int->Prop)(g:Int->Int->V):R2:=fun x y H Q=>onI x fun i=>onI y fun j=>C i j/\Q (g i j) H
theorem Ef (C:Int->Int->Prop)(g:Int->Int->V):rI C g=rI' C g:=funext fun x=>funext fun y=>ceq fun _ _=>two_iff
noncomputable def rU' (g:Int->V):V->Hp->VK->Prop:=fun x H Q=>onI x fun i=>Q (g i) H
theorem Nj (g:Int->V):rU g=rU' g:=funext fun x=>ceq fun _ _=>zq
def eqP (x y:V)(P:Bool->Prop):Prop:=match x,y with
 | .int i,.int j=>P (decide (i=j))
 | .str i,.str j=>P (decide (i=j))
 | .bl i,.bl j=>P (decide (i=j))
 | x,y=>wN x y=true/\P (decide (x=y))
theorem Eg {x y:V}{P:Bool->Prop}:(wN x y=true/\P (decide (x=y)))↔eqP x y P:=by
 cases x<;>cases y<;>simp [eqP,wN]
theorem Jb (i j:Int)(P:Bool->Prop):eqP (.int i) (.int j) P=P (decide (i=j)):=rfl
theorem Jc (i j:Str)(P:Bool->Prop):eqP (.str i) (.str j) P=P (decide (i=j)):=rfl
theorem LZ (i j:Bool)(P:Bool->Prop):eqP (.bl i) (.bl j) P=P (decide (i=j)):=rfl
noncomputable def L3:R2:=fun x y H Q=>eqP x y fun b=>Q (.bl b) H
theorem L4:rEq=L3:=funext fun x=>funext fun y=>ceq fun H Q=>Eg (P:=fun b=>Q (.bl b) H)
noncomputable def oG (p:Int->Int->Prop)[d:∀i j,Decidable (p i j)](ta tb:TE):TT:=fun σ H Q=>ta σ H fun x H1=>tb σ H1 fun y H2=>onI x fun i=>onI y fun j=>if p i j then Q true H2 else Q false H2
theorem CK {p:Prop}[Decidable p]{Q:Bool->Prop}:Q (decide p)=if p then Q true else Q false:=by
 by_cases h:p
 ·rw [if_pos h,decide_eq_true h]
 ·rw [if_neg h,decide_eq_false h]
theorem uL (p:Int->Int->Prop)[d:∀i j,Decidable (p i j)](ta tb:TE):mz (tOp (rI0 fun i j=>.bl (decide (p i j))) ta tb)=oG p ta tb:=by
 funext σ H Q
 refine congrArg (ta σ H) (funext fun x=>funext fun H1=>congrArg (tb σ H1) (ceq fun y H2=>?_))
 cases x<;>cases y<;>simp [rI0,onI,CK (Q:=fun b=>Q b H2)]
theorem L5 (ta tb:TE):mz (tOp (rI0 fun i j=>.bl (decide (i < j))) ta tb)=oG (fun i j=>i < j) ta tb:=uL _ ta tb
theorem L6 (ta tb:TE):mz (tOp (rI0 fun i j=>.bl (decide (i<=j))) ta tb)=oG (fun i j=>i<=j) ta tb:=uL _ ta tb
theorem L7 (ta tb:TE):mz (tOp (rI0 fun i j=>.bl (decide (j < i))) ta tb)=oG (fun i j=>j < i) ta tb:=uL _ ta tb
theorem L8 (ta tb:TE):mz (tOp (rI0 fun i j=>.bl (decide (j<=i))) ta tb)=oG (fun i j=>j<=i) ta tb:=uL _ ta tb
def eqT (x y:V)(Y N:Prop):Prop:=match x,y with
 | .int i,.int j=>if i=j then Y else N
 | .str i,.str j=>if i=j then Y else N
 | .bl i,.bl j=>if i=j then Y else N
 | x,y=>wN x y=true/\if x=y then Y else N
theorem Jd (i j:Int)(Y N:Prop):eqT (.int i) (.int j) Y N=if i=j then Y else N:=rfl
theorem Je (i j:Str)(Y N:Prop):eqT (.str i) (.str j) Y N=if i=j then Y else N:=rfl
theorem L9 (i j:Bool)(Y N:Prop):eqT (.bl i) (.bl j) Y N=if i=j then Y else N:=rfl
theorem Eh {x y:V}{Q:Bool->Prop}:(wN x y=true/\Q (decide (x=y)))↔eqT x y (Q true) (Q false):=by
 rw [CK (Q:=Q)]
 cases x<;>cases y<;>simp [eqT,wN]
def neT (x y:V)(Y N:Prop):Prop:=match x,y with
 | .int i,.int j=>if ¬i=j then Y else N
 | .str i,.str j=>if ¬i=j then Y else N
 | .bl i,.bl j=>if ¬i=j then Y else N
 | x,y=>wN x y=true/\if ¬x=y then Y else N
theorem Jf (i j:Int)(Y N:Prop):neT (.int i) (.int j) Y N=if ¬i=j then Y else N:=rfl
theorem Jg (i j:Str)(Y N:Prop):neT (.str i) (.str j) Y N=if ¬i=j then Y else N:=rfl
theorem Ma (i j:Bool)(Y N:Prop):neT (.bl i) (.bl j) Y N=if ¬i=j then Y else N:=rfl
theorem Jh {x y:V}{Y N:Prop}:eqT x y N Y↔neT x y Y N:=by
 have h:∀(p:Prop) [Decidable p],(if p then N else Y)=if ¬p then Y else N:=fun p _=>by by_cases e:p<;>simp [e]
 cases x<;>cases y<;>first | exact iff_of_eq (h _) | exact and_congr Iff.rfl (iff_of_eq (h _))
noncomputable def Mb (ta tb:TE):TT:=fun σ H Q=>ta σ H fun x H1=>tb σ H1 fun y H2=>eqT x y (Q true H2) (Q false H2)
noncomputable def Mc (ta tb:TE):TT:=fun σ H Q=>ta σ H fun x H1=>tb σ H1 fun y H2=>neT x y (Q true H2) (Q false H2)
theorem Ji (ta tb:TE):mz (tOp rEq ta tb)=Mb ta tb:=by
 funext σ H Q
 refine congrArg (ta σ H) (funext fun x=>funext fun H1=>congrArg (tb σ H1) (ceq fun y H2=>?_))
 refine Iff.trans ?_ (Eh (Q:=fun b=>Q b H2))
 exact ⟨fun ⟨a,k,e,q⟩=>⟨a,by cases e;exact q⟩,fun ⟨a,q⟩=>⟨a,_,rfl,q⟩⟩
theorem Jj (ta tb:TE):mz (tOp rNe ta tb)=Mc ta tb:=by
 funext σ H Q
 refine congrArg (ta σ H) (funext fun x=>funext fun H1=>congrArg (tb σ H1) (ceq fun y H2=>?_))
 refine Iff.trans (Iff.trans ?_ (Eh (Q:=fun b=>Q (!b) H2))) Jh
 exact ⟨fun ⟨a,k,e,q⟩=>⟨a,by cases e;exact q⟩,fun ⟨a,q⟩=>⟨a,_,rfl,q⟩⟩
noncomputable def oH (K:WA)(n:Nat)(t:TGs):TG:=fun v σ H Q=>onR v fun a=>∃xs,SqT K H a xs/\xs.length=n/\t xs σ H Q
theorem qA {x:V}{γ:Type}{P:Addr->γ->Prop}:(∃a z,x=.ref a/\P a z)↔onR x fun a=>∃z,P a z:=by cases x<;>simp [onR]
theorem Ei (K:WA)(n:Nat)(t:TGs):K7 K n t=oH K n t:=funext fun v=>funext fun σ=>ceq fun _ _=>qA
noncomputable def CL (K:WA)(n:Nat)(t:TGs):TG:=fun v σ H Q=>onR v fun a=>∃xs,SqL K H a xs/\xs.length=n/\t xs σ H Q
theorem GP (K:WA)(n:Nat)(t:TGs):Kr K n t=CL K n t:=funext fun v=>funext fun σ=>ceq fun _ _=>qA
noncomputable def sC (t:TG)(u:TGs):TGs:=fun vs σ H Q=>onC vs fun v r=>t v σ H fun σ' H'=>u r σ' H' Q
theorem qB (t:TG)(u:TGs):Ai t u=sC t u:=funext fun v=>funext fun σ=>ceq fun _ _=>IZ
noncomputable def Ej:TGs:=fun vs σ H Q=>onN vs (Q σ H)
theorem Ek:K6=Ej:=funext fun v=>funext fun σ=>ceq fun _ _=>I8
noncomputable def AX (K:WA):R2:=fun x y H Q=>onR x fun p=>onI y fun i=>∃xs,SqL K H p xs/\∃v,atI xs i=some v/\Q v H
theorem Jk (K:WA):Lo K=AX K:=funext fun x=>funext fun y=>ceq fun H Q=>⟨fun ⟨p,xs,i,v,e,f,h1,h2,h3⟩=>by subst e f;exact ⟨xs,h1,v,h2,h3⟩,fun h=>let ⟨p,e,h⟩:=gu h;let ⟨i,f,xs,h1,v,h2,h3⟩:=sA h;⟨p,xs,i,v,e,f,h1,h2,h3⟩⟩
noncomputable def qC (K:WA):R2:=fun x y H Q=>onR x fun p=>onI y fun i=>∃xs,SqT K H p xs/\∃v,atI xs i=some v/\Q v H
theorem Jl (K:WA):Lp K=qC K:=funext fun x=>funext fun y=>ceq fun H Q=>⟨fun ⟨p,xs,i,v,e,f,h1,h2,h3⟩=>by subst e f;exact ⟨xs,h1,v,h2,h3⟩,fun h=>let ⟨p,e,h⟩:=gu h;let ⟨i,f,xs,h1,v,h2,h3⟩:=sA h;⟨p,xs,i,v,e,f,h1,h2,h3⟩⟩
noncomputable def CM (ta tb:TE):TE:=fun σ H Q=>ta σ H fun x H1=>onB x fun c=>if c=true then tb σ H1 Q else Q (.bl false) H1
theorem GQ (ta tb:TE):J1 ta tb=CM ta tb:=funext fun σ=>funext fun H=>funext fun Q=>congrArg (ta σ H) (ceq fun _ _=>zr)
noncomputable def zu (ta:TE):TE:=fun σ H Q=>ta σ H fun x H1=>onB x fun c=>Q (.bl (!c)) H1
theorem GR (ta:TE):J2 ta=zu ta:=funext fun σ=>funext fun H=>funext fun Q=>congrArg (ta σ H) (ceq fun _ _=>zr)
noncomputable def GS (K:WA)(ta:TE)(f:Str):TE:=fun σ H Q=>ta σ H fun x H1=>onR x fun a=>∃C dx fs,H1 a=some (.ins C dx fs)/\Cls K C/\aX K C f/\∃v,fs.lookup f=some v/\Q v H1
theorem Jm (K:WA)(ta:TE)(f:Str):MO K ta f=GS K ta f:=funext fun σ=>funext fun H=>funext fun Q=>congrArg (ta σ H) (ceq fun x H1=>by cases x<;>simp [onR])
noncomputable def GU (K:WA)(ta tv:TE)(f:Str):TS:=fun D σ H=>tv σ H fun y H1=>ta σ H1 fun x H2=>onR x fun a=>∃C dx fs,H2 a=some (.ins C dx fs)/\Cls K C/\aX K C f/\fs.length < 1000/\D.nx σ (upd H2 a (.ins C dx (bw f y fs)))
theorem Jn (K:WA)(ta tv:TE)(f:Str):MP K ta tv f=GU K ta tv f:=funext fun D=>funext fun σ=>funext fun H=>congrArg (tv σ H) (funext fun y=>funext fun H1=>congrArg (ta σ H1) (ceq fun x H2=>by cases x<;>simp [onR]))
noncomputable def zw (C:Addr)(m:Str)(sp:Sp)(dvs:List V)(E:XK)(ta:TE)(t:TA):TE:=fun σ H Q=>ta σ H fun x H1=>onR x fun a=>∃dx fs,H1 a=some (.ins C dx fs)/\fs.lookup m=none/\t σ H1 fun vs H2=>sp (.ref a::(vs++dvs)) H2 Q E
theorem AY (C:Addr)(m:Str)(sp:Sp)(dvs:List V)(E:XK)(ta:TE)(t:TA):xR C m sp dvs E ta t=zw C m sp dvs E ta t:=funext fun σ=>funext fun H=>funext fun Q=>congrArg (ta σ H) (ceq fun x H1=>by cases x<;>simp [onR])
noncomputable def vo:V->List V->Hp->VK->Prop:=fun x vs H Q=>onR x fun l=>onC vs fun y r=>onN r (∃xs,H l=some (.lst xs)/\xs.length < sizeLine/\Q .non (upd H l (.lst (xs++[y]))))
theorem CN:DP=vo:=funext fun x=>funext fun vs=>ceq fun H Q=>⟨fun ⟨l,xs,y,e,f,h⟩=>by subst e f;exact ⟨xs,h⟩,fun h=>by
 obtain ⟨l,rfl,z⟩:=gu h
 match vs,z with
 | [v],⟨xs,z⟩=>exact ⟨l,xs,v,rfl,rfl,z⟩⟩
noncomputable def CO (t:TE):TO:=fun σ H Q=>t σ H fun x H1=>onI x fun i=>Q (some i) H1
theorem GV (t:TE):Kk t=CO t:=funext fun σ=>funext fun H=>funext fun Q=>congrArg (t σ H) (ceq fun _ _=>zq)
noncomputable def CP (K:WA)(tl:TE):TI:=fun σ H R=>tl σ H fun x H1=>onR x fun a=>(∃xs,SqL K H1 a xs)/\R (Itl K a) H1
theorem GW (K:WA)(tl:TE):Kb K tl=CP K tl:=funext fun σ=>funext fun H=>funext fun R=>congrArg (tl σ H) (ceq fun _ _=>zt)
noncomputable def CQ (ta:TA):TI:=fun σ H R=>ta σ H fun vs H1=>onC vs fun v r=>onN r (onI v fun j=>-(2 ^ 62)<=j/\j < 2 ^ 62/\R (Itr 0 j.toNat) H1)
theorem GX (ta:TA):Kc ta=CQ ta:=funext fun σ=>funext fun H=>funext fun R=>congrArg (ta σ H) (ceq fun vs H1=>by
 rcases vs with _ | ⟨y,_ | ⟨z,vs⟩⟩<;>(try cases y)<;>simp [onI,onC,onN])
noncomputable def GY (K:WA):List V->Hp->VK->Prop:=fun vs H Q=>onC vs fun v r=>onN r (onR v fun p=>∃ys,(SqL K H p ys\/SqT K H p ys)/\Q (.int ys.length) H)
theorem Jo (K:WA)(t:TA):tCB (fun xs H Q=>∃p ys,xs=[.ref p]/\(SqL K H p ys\/SqT K H p ys)/\Q (.int ys.length) H) t=tCB (GY K) t:=by
 refine congrArg (fun r=>tCB r t) (funext fun vs=>ceq fun H Q=>?_)
 rcases vs with _ | ⟨y,_ | ⟨z,vs⟩⟩<;>(try cases y)<;>simp [GY,onR,onC,onN]
noncomputable def uM (K:WA):List V->Hp->VK->Prop:=fun vs H Q=>onC vs fun v r=>onN r (onR v fun p=>∃ys,(SqL K H p ys\/SqT K H p ys)/\∀l,H l=none->Q (.ref l) (upd H l (.lst ys)))
theorem CS (K:WA)(t:TA):tCB (fun xs H Q=>∃p ys,xs=[.ref p]/\(SqL K H p ys\/SqT K H p ys)/\∀l,H l=none->Q (.ref l) (upd H l (.lst ys))) t=tCB (uM K) t:=by
 refine congrArg (fun r=>tCB r t) (funext fun vs=>ceq fun H Q=>?_)
 rcases vs with _ | ⟨y,_ | ⟨z,vs⟩⟩<;>(try cases y)<;>simp [uM,onR,onC,onN]
noncomputable def CT:V->V->V->Hp->(Hp->Prop)->Prop:=fun o i v H Q=>onR o fun p=>onI i fun k=>∃xs,H p=some (.lst xs)/\∃j,ixN xs.length k=some j/\Q (upd H p (.lst (xs.set j v)))
theorem GZ:Km=CT:=funext fun o=>funext fun i=>funext fun v=>ceq fun H Q=>⟨fun ⟨p,xs,k,j,e,f,h1,h2,h3⟩=>by subst e f;exact ⟨xs,h1,j,h2,h3⟩,fun h=>let ⟨p,e,h⟩:=gu h;let ⟨k,f,xs,h1,j,h2,h3⟩:=sA h;⟨p,xs,k,j,e,f,h1,h2,h3⟩⟩
theorem NP {p:Prop}[Decidable p]{A B:Prop}(h:if ¬p then A else B):if (!decide p)=true then A else B:=by
 by_cases e:p
 ·rw [if_neg (fun z=>z e)] at h;rw [if_neg (by simp [e])];exact h
 ·rw [if_pos e] at h;rw [if_pos (by simp [e])];exact h
noncomputable def tU1 (f:Int->V)(ta:TE):TE:=fun σ H Q=>ta σ H fun x H1=>onI x fun i=>Q (f i) H1
theorem G0 {k:Int}(hk:0 < k)(ta:TE)(g:Int->Int->V):tOp (rI (fun _ j=>0 < j) g) ta (tC (.int k))=tU1 (fun i=>g i k) ta:=funext fun σ=>funext fun H=>funext fun Q=>congrArg (ta σ H) (ceq fun x H1=>by
 cases x<;>simp [rI,tC,onI,hk])
theorem G1 {k:Int}(h1:0 < k)(h2:k < 1073741824)(ta:TE)(g:Int->Int->V):tOp (rI FJ g) ta (tC (.int k))=tU1 (fun i=>g i k) ta:=funext fun σ=>funext fun H=>funext fun Q=>congrArg (ta σ H) (ceq fun x H1=>by
 have hc:∀i,FJ i k:=fun i=>by unfold FJ;omega
 cases x<;>simp [rI,tC,onI,hc])
theorem G2 {k:Int}(h1:-4294967296 < k)(h2:k < 4294967296)(ta:TE)(g:Int->Int->V):tOp (rI uT g) ta (tC (.int k))=tU1 (fun i=>g i k) ta:=funext fun σ=>funext fun H=>funext fun Q=>congrArg (ta σ H) (ceq fun x H1=>by
 have hc:∀i,uT i k:=fun i=>by unfold uT;omega
 cases x<;>simp [rI,tC,onI,hc])
theorem E8 {k:Int}(h1:-4294967296 < k)(h2:k < 4294967296)(tb:TE)(g:Int->Int->V):tOp (rI uT g) (tC (.int k)) tb=tU1 (fun i=>g k i) tb:=funext fun σ=>funext fun H=>funext fun Q=>congrArg (tb σ H) (ceq fun x H1=>by
 have hc:∀i,uT k i:=fun i=>by unfold uT;omega
 cases x<;>simp [rI,onI,hc])
noncomputable def G3 (K:WA):V->Option Int->Option Int->Hp->VK->Prop:=fun x lo hi H Q=>onR x fun a=>∃xs,SqL K H a xs/\∀p,H p=none->Q (.ref p) (upd H p (.lst (qo xs lo hi)))
theorem Jp (K:WA):MU K=G3 K:=funext fun x=>funext fun lo=>funext fun hi=>ceq fun _ _=>qA
noncomputable def G4 (K:WA):V->Option Int->Option Int->Hp->VK->Prop:=fun x lo hi H Q=>onR x fun a=>∃xs,SqT K H a xs/\¬(HT.sIx xs.length 0 lo=0/\HT.sIx xs.length xs.length hi=xs.length)/\∀p,H p=none->Q (.ref p) (upd H p (.tup (qo xs lo hi)))
theorem Jq (K:WA):MR K=G4 K:=funext fun x=>funext fun lo=>funext fun hi=>ceq fun _ _=>qA
noncomputable def G5:R2:=fun x y H Q=>onR x fun l=>onR y fun b=>∃xs,H l=some (.lst xs)/\∃zs,H b=some (.lst zs)/\xs.length+zs.length<=sizeLine/\∀p,H p=none->Q (.ref p) (upd H p (.lst (xs++zs)))
theorem Jr:MW=G5:=funext fun x=>funext fun y=>ceq fun H Q=>⟨fun ⟨l,b,xs,zs,e,f,h1,h2,h3⟩=>by subst e f;exact ⟨xs,h1,zs,h2,h3⟩,fun h=>let ⟨l,e,h⟩:=gu h;let ⟨b,f,xs,h1,zs,h2,h3⟩:=gu h;⟨l,b,xs,zs,e,f,h1,h2,h3⟩⟩
noncomputable def CU:R2:=fun x y H Q=>onR x fun a=>onR y fun b=>∃xs,H a=some (.tup xs)/\∃ys,H b=some (.tup ys)/\xs.length+ys.length<=1000/\∀p H',aq H H'->H' p=some (.tup (xs++ys))->Q (.ref p) H'
theorem G6:Kw=CU:=funext fun x=>funext fun y=>ceq fun H Q=>⟨fun ⟨l,b,xs,zs,e,f,h1,h2,h3⟩=>by subst e f;exact ⟨xs,h1,zs,h2,h3⟩,fun h=>let ⟨l,e,h⟩:=gu h;let ⟨b,f,xs,h1,zs,h2,h3⟩:=gu h;⟨l,b,xs,zs,e,f,h1,h2,h3⟩⟩
noncomputable def CV (K:WA):R2:=fun x y H Q=>onR x fun a=>onR y fun b=>∃xs,SqT K H a xs/\∃ys,SqT K H b ys/\xs.length+ys.length<=1000/\∀p H',aq H H'->SqT K H' p (xs++ys)->Q (.ref p) H'
theorem G7 (K:WA):Kq K=CV K:=funext fun x=>funext fun y=>ceq fun H Q=>⟨fun ⟨l,b,xs,zs,e,f,h1,h2,h3⟩=>by subst e f;exact ⟨xs,h1,zs,h2,h3⟩,fun h=>let ⟨l,e,h⟩:=gu h;let ⟨b,f,xs,h1,zs,h2,h3⟩:=gu h;⟨l,b,xs,zs,e,f,h1,h2,h3⟩⟩
noncomputable def AZ (K:WA)(neg:Bool):R2:=fun x y H Q=>onR y fun p=>∃xs,(SqL K H p xs\/SqT K H p xs)/\bO x=true/\xs.all bO=true/\Q (.bl (if neg=true then !inV x xs else inV x xs)) H
theorem G8 (K:WA)(neg:Bool):rIn K neg=AZ K neg:=funext fun x=>funext fun y=>ceq fun H Q=>by cases y<;>simp [rIn,AZ,onR]
theorem Nk {b c:Bool}:(if true=true then b else c)=b:=rfl
theorem Nl {b c:Bool}:(if false=true then b else c)=c:=rfl
noncomputable def CW (ta:TA):TI:=fun σ H R=>ta σ H fun vs H1=>onC vs fun v r=>onC r fun u r2=>onN r2 (onI v fun i=>onI u fun j=>(-(2 ^ 62)<=i/\i < 2 ^ 62/\-(2 ^ 62)<=j/\j < 2 ^ 62)/\R (Itr i (j - i).toNat) H1)
theorem yl {vs:List V}{P:Int->Int->Prop}:(∃i j,vs=[.int i,.int j]/\P i j)↔onC vs fun v r=>onC r fun u r2=>onN r2 (onI v fun i=>onI u fun j=>P i j):=by
 constructor
 ·rintro ⟨i,j,rfl,h⟩;exact h
 ·intro h
  rcases vs with _ | ⟨y,_ | ⟨z,_ | ⟨u,vs⟩⟩⟩
  ·exact h.elim
  ·exact h.elim
  ·cases y<;>cases z<;>first | exact ⟨_,_,rfl,h⟩ | exact h.elim
  ·exact h.elim
theorem G9 (ta:TA):Kd ta=CW ta:=funext fun σ=>funext fun H=>funext fun R=>congrArg (ta σ H) (ceq fun vs H1=>yl)
noncomputable def CY (K:WA)(te:TE):TI:=fun σ H R=>te σ H fun x H1=>onR x fun a=>(∃xs,SqL K H1 a xs)/\R (Ite K a) H1
theorem Hb (K:WA)(te:TE):Kp K te=CY K te:=funext fun σ=>funext fun H=>funext fun R=>congrArg (te σ H) (ceq fun _ _=>zt)
noncomputable def Hc (K:WA)(ta tb:TE):TI:=fun σ H R=>ta σ H fun x H1=>tb σ H1 fun y H2=>onR x fun a=>onR y fun b=>(∃xs,SqL K H2 a xs)/\(∃ys,SqL K H2 b ys)/\R (Itz K a b) H2
theorem Js (K:WA)(ta tb:TE):M4 K ta tb=Hc K ta tb:=funext fun σ=>funext fun H=>funext fun R=>congrArg (ta σ H) (funext fun x=>funext fun H1=>congrArg (tb σ H1) (ceq fun y H2=>⟨fun ⟨a,b,e,f,h⟩=>by subst e f;exact h,fun h=>let ⟨a,e,h⟩:=gu h;let ⟨b,f,h⟩:=gu h;⟨a,b,e,f,h⟩⟩))
noncomputable def uN:V->List V->Hp->VK->Prop:=fun x vs H Q=>onR x fun l=>onN vs (∃xs,H l=some (.lst xs)/\Q .non (upd H l (.lst [])))
theorem E9:Co=uN:=funext fun x=>funext fun vs=>ceq fun H Q=>by cases vs<;>cases x<;>simp [Co,uN,onR,onN]
noncomputable def El:V->List V->Hp->VK->Prop:=fun x vs H Q=>onR x fun l=>onN vs (∃xs,H l=some (.lst xs)/\∃y,xs[xs.length - 1]?=some y/\Q y (upd H l (.lst xs.dropLast)))
theorem Jt:Lr=El:=funext fun x=>funext fun vs=>ceq fun H Q=>by cases vs<;>cases x<;>simp [Lr,El,onR,onN]
noncomputable def Ju:List V->Hp->VK->Prop:=fun vs H Q=>onC vs fun v r=>onN r (onI v fun i=>Q (.int (if i < 0 then -i else i)) H)
theorem Jv (t:TA):tCB (fun xs H Q=>∃i,xs=[.int i]/\Q (.int (if i < 0 then -i else i)) H) t=tCB Ju t:=by
 refine congrArg (fun r=>tCB r t) (funext fun vs=>ceq fun H Q=>?_)
 rcases vs with _ | ⟨y,_ | ⟨z,vs⟩⟩<;>(try cases y)<;>simp [Ju,onI,onC,onN]
noncomputable def Hd:List V->Hp->VK->Prop:=fun vs H Q=>onC vs fun v r=>onC r fun u r2=>onN r2 (onI v fun i=>onI u fun j=>Q (.int (if j < i then j else i)) H)
theorem He (t:TA):tCB (fun xs H Q=>∃i j,xs=[.int i,.int j]/\Q (.int (if j < i then j else i)) H) t=tCB Hd t:=by
 refine congrArg (fun r=>tCB r t) (funext fun vs=>ceq fun H Q=>?_)
 exact yl
noncomputable def zx (K:WA):List V->Hp->VK->Prop:=fun vs H Q=>onC vs fun v r=>onN r (onR v fun p=>∃ys,(SqL K H p ys/\∀l,H l=none->Q (.ref l) (upd H l (.tup ys)))\/(SqT K H p ys/\Q (.ref p) H))
theorem Fb (K:WA)(t:TA):tCB (fun xs H Q=>∃p ys,xs=[.ref p]/\((SqL K H p ys/\∀l,H l=none->Q (.ref l) (upd H l (.tup ys)))\/(SqT K H p ys/\Q (.ref p) H))) t=tCB (zx K) t:=by
 refine congrArg (fun r=>tCB r t) (funext fun vs=>ceq fun H Q=>?_)
 rcases vs with _ | ⟨y,_ | ⟨z,vs⟩⟩<;>(try cases y)<;>simp [zx,onR,onC,onN]
def Jw (v:V)(P:Int->Prop):Prop:=match v with | .int i=>P i | .bl k=>P (if k=true then 1 else 0) | _=>False
theorem Hf (i:Int)(P:Int->Prop):Jw (.int i) P=P i:=rfl
theorem Jx (k:Bool)(P:Int->Prop):Jw (.bl k) P=P (if k=true then 1 else 0):=rfl
noncomputable def Em:List V->Hp->VK->Prop:=fun vs H Q=>onC vs fun v r=>onN r (Jw v fun i=>Q (.int i) H)
theorem Hg (t:TA):tCB (fun xs H Q=>(∃i,xs=[.int i]/\Q (.int i) H)\/∃k,xs=[.bl k]/\Q (.int (if k=true then 1 else 0)) H) t=tCB Em t:=by
 refine congrArg (fun r=>tCB r t) (funext fun vs=>ceq fun H Q=>?_)
 rcases vs with _ | ⟨y,_ | ⟨z,vs⟩⟩<;>(try cases y)<;>simp [Em,onC,onN,Jw]
noncomputable def Hh (ta:TE):TT:=fun σ H Q=>ta σ H fun x H1=>if x=.non then Q true H1 else Q false H1
theorem Hi (ta:TE):mz (tOp (fun x y H Q=>y=.non/\Q (.bl (decide (x=.non))) H) ta (tC .non))=Hh ta:=funext fun σ=>funext fun H=>funext fun Q=>congrArg (ta σ H) (ceq fun x H1=>by
 refine Iff.trans ?_ (iff_of_eq (CK (p:=x=.non) (Q:=fun b=>Q b H1)))
 exact ⟨fun ⟨_,k,e,q⟩=>by cases e;exact q,fun q=>⟨rfl,_,rfl,q⟩⟩)
noncomputable def CZ (ta:TE):TT:=fun σ H Q=>ta σ H fun x H1=>if ¬x=.non then Q true H1 else Q false H1
theorem Jy {p:Prop}[Decidable p]{Q:Bool->Prop}:Q (!decide p)=if ¬p then Q true else Q false:=by
 by_cases h:p
 ·rw [if_neg (fun z=>z h),decide_eq_true h];rfl
 ·rw [if_pos h,decide_eq_false h];rfl
theorem Fc (ta:TE):mz (tOp (fun x y H Q=>y=.non/\Q (.bl (!decide (x=.non))) H) ta (tC .non))=CZ ta:=funext fun σ=>funext fun H=>funext fun Q=>congrArg (ta σ H) (ceq fun x H1=>by
 refine Iff.trans ?_ (iff_of_eq (Jy (p:=x=.non) (Q:=fun b=>Q b H1)))
 exact ⟨fun ⟨_,k,e,q⟩=>by cases e;exact q,fun q=>⟨rfl,_,rfl,q⟩⟩)
theorem sJ {K:WA}{l:Addr}{ls:List Ld}{te:TE}{cm:List (Option Nat)}{σ:St}{H:Hp}{Q:VK}(f:Ld->V)(hL:fv K H l ls)(hn:ls.length<=sizeLine)(hcm:cA cm σ=[none,none,none])
  (he:∀x∈ls,∀N:VK,N (f x) H->te [some (.str x.1),some (.int x.2.1),some (.int x.2.2)] H N)
  (hd:∀p,H p=none->Q (.ref p) (upd H p (.lst (ls.map f)))):oF (Itl K l) (oH K 3 (sC (et 0) (sC (et 1) (sC (et 2) Ej)))) um te cm σ Q H:=by
 rw [←Ei,←Ek,←qB,←qB,←qB]
 exact GD f hL hn hcm he hd
noncomputable def Dc (K:WA):R2:=fun x y H Q=>onR x fun l=>onI y fun k=>∃v,SqT K H l [v]/\2<=k/\k<=100/\∀p,H p=none->Q (.ref p) (upd H p (.tup (List.replicate k.toNat v)))
theorem Hj (K:WA):Kv K=Dc K:=funext fun x=>funext fun y=>ceq fun H Q=>⟨fun ⟨l,k,v,e,f,h⟩=>by subst e f;exact ⟨v,h⟩,fun h=>let ⟨l,e,h⟩:=gu h;let ⟨k,f,v,h⟩:=sA h;⟨l,k,v,e,f,h⟩⟩
theorem onI.mono {x:V}{P Q:Int->Prop}(h:∀i,P i->Q i)(p:onI x P):onI x Q:=by cases x<;>first | exact h _ p | exact p
theorem onO.mono {x:Option (Option V)}{P Q:V->Prop}(h:∀i,P i->Q i)(p:onO x P):onO x Q:=by
 rcases x with _ | _ | v
 ·exact p
 ·exact p
 ·exact h _ p
end
noncomputable def Hk (i j:Nat)(ta:TA):TS:=fun D σ H=>ta σ H fun vs H1=>onC vs fun v r=>onC r fun w r2=>onN r2 (D.nx ((σ.set i (some v)).set j (some w)) H1)
theorem Jz {vs:List V}{P:V->V->Prop}:(∃v w,vs=[v,w]/\P v w)↔onC vs fun v r=>onC r fun w r2=>onN r2 (P v w):=by
 constructor
 ·rintro ⟨v,w,rfl,h⟩;exact h
 ·intro h
  rcases vs with _ | ⟨y,_ | ⟨z,_ | ⟨u,vs⟩⟩⟩
  ·exact h.elim
  ·exact h.elim
  ·exact ⟨_,_,rfl,h⟩
  ·exact h.elim
theorem JA (i j:Nat)(ta:TA):MH i j ta=Hk i j ta:=funext fun D=>funext fun σ=>funext fun H=>congrArg (ta σ H) (ceq fun vs H1=>Jz)
noncomputable def A1 (K:WA):R2:=fun x y H Q=>onR x fun a=>onR y fun b=>∃xs,SqL K H a xs/\∃ys,SqL K H b ys/\xs.all bO=true/\ys.all bO=true/\Q (.bl (!eqL xs ys)) H
theorem JB (K:WA):LS K=A1 K:=funext fun x=>funext fun y=>ceq fun H Q=>by cases x<;>cases y<;>simp [LS,A1,onR]
noncomputable def En (K:WA):R2:=fun x y H Q=>onR x fun a=>onR y fun b=>∃xs,SqL K H a xs/\∃ys,SqL K H b ys/\xs.all bO=true/\ys.all bO=true/\Q (.bl (eqL xs ys)) H
theorem JC (K:WA):LH K=En K:=funext fun x=>funext fun y=>ceq fun H Q=>by cases x<;>cases y<;>simp [LH,En,onR]
theorem zy {xs:List V}:eqL xs []=decide (xs=[]):=by cases xs<;>simp [eqL]
theorem Nm {b:Bool}{A B:Prop}(h:if b=false then A else B):if (!b)=true then A else B:=by cases b<;>exact h
noncomputable def dI (fs:List Bool):List Int:=((List.range fs.length).filter fun j=>!fs.getD j false).map fun (j:Nat)=>(j:Int)
theorem ym {fs:List Bool}{x:Int}(h:x∈dI fs):0<=x/\x < fs.length/\fs.getD x.toNat false=false:=by
 unfold dI at h
 rw [List.mem_map] at h
 obtain ⟨j,hj,rfl⟩:=h
 rw [List.mem_filter,List.mem_range] at hj
 exact ⟨Int.natCast_nonneg _,by omega,by rw [Int.toNat_natCast];simpa using hj.2⟩
theorem yp {g:Cfg}{n:aM}(hs:cf g.ds)(h:∀c,c=0\/c=1->∀l,aT g.ds n.place c=some l->n.gates.getD l.toNat false=false):dM g n=false:=by
 unfold dM
 rw [List.any_eq_false]
 intro x hx
 unfold iA at hx
 rw [List.mem_map] at hx
 obtain ⟨i,hi,rfl⟩:=hx
 rw [List.mem_filter,List.mem_range] at hi
 obtain ⟨h1,h2⟩:=hi
 rw [Bool.not_eq_true]
 rcases of_decide_eq_true h2 with e | e
 ·exact h 0 (.inl rfl) i (by unfold aT;rw [if_pos rfl];exact iV hs h1 e)
 ·exact h 1 (.inr rfl) i (by unfold aT;rw [if_neg (by decide)];exact iV hs h1 e)
theorem fR.cd {g:Cfg}(hg:fR g){l:Int}(h0:0<=l)(h1:l < g.ds.length):eL (eM g.ls l):=by
 have hl:=hg.lc
 have hi:l.toNat < g.ls.length:=by omega
 unfold eM
 rw [List.getD_eq_getElem?_getD,List.getElem?_eq_getElem hi]
 exact hg.gc _ (List.getElem_mem hi)
theorem cZ.code {g:Cfg}{n:aM}(hg:fR g)(hn:cZ g n){l r:Int}(h:n.e=.wait l r\/n.e=.armed l r):1<=r/\r<=9:=by
 obtain ⟨h0,h1,h2⟩:=hn.ew l r h
 obtain ⟨⟨a,b⟩,⟨c,d⟩,_⟩:=hg.cd h0 h1
 rcases h2 with rfl | rfl<;>exact ⟨by assumption,by assumption⟩
theorem Eo {x y:V}{b:Bool}:atI [x,y] (if b=true then 1 else 0)=some (if b=true then y else x):=by cases b<;>rfl
theorem pC {g:Cfg}{n:aM}{l:Int}(h0:0<=l)(h1:l < g.ds.length)(h:n.gates.getD l.toNat false=false):eI g n (.opn l)=none:=(if_neg (fun z=>z ⟨h0,h1⟩)).trans (if_neg (by rw [h];decide))
theorem iX {g:Cfg}{n:aM}{l:Int}(h0:0<=l)(h1:l < g.ds.length)(h:n.gates.getD l.toNat false=true):eI g n (.sht l)=none:=(if_neg (fun z=>z ⟨h0,h1⟩)).trans (if_neg (by rw [h];decide))
theorem mM {g:Cfg}{n:aM}{l s:Int}(h0:0<=l)(h1:l < g.ds.length)(h:n.fs.getD l.toNat false=false)(hs:s=(eM g.ls l).1\/s=(eM g.ls l).2):eI g n (.ring l s)=none:=(if_neg (fun z=>z ⟨h0,h1⟩)).trans ((if_neg (by rw [h];decide)).trans (if_pos hs))
theorem A2 {g:Cfg}{n:aM}{l:Int}(h0:0<=l)(h1:l < g.ds.length)(h:n.fs.getD l.toNat false=false):eI g n (.fail l)=none:=(if_neg (fun z=>z ⟨h0,h1⟩)).trans (if_neg (by rw [h];decide))
theorem mO {g:Cfg}{n:aM}{l r s:Int}(h:n.e=.wait l r)(h1:1<=s)(h2:s<=9):eI g n (.rept s)=none:=by
 simp only [eI,h]
 exact if_pos ⟨h1,h2⟩
theorem tR {g:Cfg}{n:aM}{c l:Int}{k:Str}(h0:0<=l)(h1:l < g.ds.length)(h:dM g n=false)(he:n.e=.armed l (cz g.ls l k)):eI g n (.wind c l k)=none:=(if_neg (fun z=>z ⟨h0,h1⟩)).trans ((if_neg (by rw [h];decide)).trans (if_pos he))
theorem w9 {g:Cfg}{n:aM}{c l:Int}(h:10+c∈n.ws)(hl:aT g.ds n.place c=some l)(ho:n.gates.getD l.toNat false=true):eI g n (.unload c)=none:=by
 refine (if_neg (fun z=>z h)).trans ?_
 rw [hl]
 exact if_pos ho
theorem A3 {g:Cfg}{n:aM}{k c l:Int}(h0:0<=k)(h1:k < n.ws.length)(hl:aT g.ds n.place c=some l)(hk:n.ws.getD k.toNat 0=l)(hc:¬10+c∈n.ws)(ho:n.gates.getD l.toNat false=true):eI g n (.load k c)=none:=by
 refine (if_neg (fun z=>z ⟨h0,h1⟩)).trans ?_
 rw [hl]
 exact (if_neg (fun z=>z hk)).trans ((if_neg hc).trans (if_pos ho))
theorem Ky {pl:Int}{ds:List Int}{c:Int}:(aT ds pl c).getD (-1) < 0->aT ds pl c=none:=by
 intro h
 cases e:aT ds pl c with
 | none=>rfl
 | some l=>rw [e] at h;have:=(cB e).1;simp only [Option.getD_some] at h;omega
theorem Hl {pl:Int}{ds:List Int}{c:Int}:¬(aT ds pl c).getD (-1) < 0->∃l,aT ds pl c=some l/\(aT ds pl c).getD (-1)=l:=by
 intro h
 cases e:aT ds pl c with
 | none=>rw [e] at h;exact absurd (by decide) h
 | some l=>exact ⟨l,rfl,rfl⟩
theorem Md (e:Eng):(∃l r,e=.wait l r)\/(∃l r,e=.armed l r)\/∃(w:Str) (x y z:V),lz e=[.str w,x,y,z]/\¬w="not repeated"/\¬w="armed":=by
 cases e with
 | no=>exact .inr (.inr ⟨_,_,_,_,rfl,by decide,by decide⟩)
 | wait l r=>exact .inl ⟨l,r,rfl⟩
 | armed l r=>exact .inr (.inl ⟨l,r,rfl⟩)
 | other l r s=>exact .inr (.inr ⟨_,_,_,_,rfl,by decide,by decide⟩)
 | used l r=>exact .inr (.inr ⟨_,_,_,_,rfl,by decide,by decide⟩)
theorem Hm {ws:List Int}{lv x:Int}(h:x∈iW ws lv):0<=x/\x < ws.length/\ws.getD x.toNat 0=lv:=by
 unfold iW wY at h
 rw [List.mem_map] at h
 obtain ⟨j,hj,rfl⟩:=h
 rw [List.mem_filter,List.mem_range] at hj
 exact ⟨Int.natCast_nonneg _,by omega,by rw [Int.toNat_natCast];exact of_decide_eq_true hj.2⟩
theorem iB.un {K:WA}{H:Hp}{a:Addr}{n:aM}{t:Int}(h:iB K H a (n,t)):∃gt lt ht dt:Addr,SqT K H a [.int n.place,.ref gt,.ref lt,.ref ht,.ref dt,.int t]/\SqT K H gt (n.gates.map V.bl)/\H lt=some (.tup (n.ws.map V.int))/\SqT K H ht (lz n.e)/\SqT K H dt ((cO n.fs).map V.int):=h
structure iY (C:Cl)(K:WA)(H0 H:Hp)(p dl cl ll w bk rl sl wl:Addr)(g:Cfg)(lds:List Ld)(n0:aM)(rs:List Row):Prop where
 su:dN K H0 p dl cl ll g lds
 sa:aq H0 H
 fr:H0 rl=none
 fs:H0 sl=none
 fw:H0 wl=none
 da:AV C K H w bk rl sl wl g n0 rs
 cg:fR g
 c0:cZ g n0
section
variable {C:Cl}{K:WA}{H0 H H':Hp}{p dl cl ll w bk rl sl wl:Addr}{g:Cfg}{lds:List Ld}{n0:aM}{rs rs':List Row}
theorem iY.same (h:iY C K H0 H p dl cl ll w bk rl sl wl g lds n0 rs)(s:aq H H'):iY C K H0 H' p dl cl ll w bk rl sl wl g lds n0 rs:=⟨h.su,h.sa.trans s,h.fr,h.fs,h.fw,h.da.same s,h.cg,h.c0⟩
theorem iY.setup (h:iY C K H0 H p dl cl ll w bk rl sl wl g lds n0 rs):dN K H p dl cl ll g lds:=h.su.same h.sa
theorem iY.snap (h:iY C K H0 H p dl cl ll w bk rl sl wl g lds n0 rs):cZ g (ai n0 rs):=h.da.run.snap h.cg h.c0
theorem iY.to (h:iY C K H0 H p dl cl ll w bk rl sl wl g lds n0 rs)(k:bI rl sl wl H H')(d:AV C K H' w bk rl sl wl g n0 rs'):iY C K H0 H' p dl cl ll w bk rl sl wl g lds n0 rs':=⟨h.su,h.sa.keeps3 k h.fr h.fs h.fw,h.fr,h.fs,h.fw,d,h.cg,h.c0⟩
end
theorem JD (d:Dd):∃w:Str,atI (ddV d) 0=some (.str w)/\¬w="take back":=by
 cases d<;>exact ⟨_,rfl,by decide⟩
theorem JE {d:Dd}(h:∀s,d≠.rept s):∃w:Str,atI (ddV d) 0=some (.str w)/\¬w="repeat":=by
 cases d<;>first | exact ⟨_,rfl,by decide⟩ | exact absurd rfl (h _)
theorem w8.int {K:WA}{H:Hp}{n:aM}{t:Int}{d:Dd}{v:V}(h:w8 K H n t d v)(hr:∀s,d≠.rept s):v=.int t:=by
 cases d<;>first | exact h | exact absurd rfl (hr _)
theorem w8.same {K:WA}{H H':Hp}{n:aM}{t:Int}{d:Dd}{v:V}(h:w8 K H n t d v)(s:aq H H'):w8 K H' n t d v:=by
 cases d<;>first | exact h | (obtain ⟨p,l,r,e,f,z⟩:=h;exact ⟨p,l,r,e,f,s.tup z⟩)
theorem w8.keep {K:WA}{H H':Hp}{n:aM}{t:Int}{d:Dd}{v:V}{p:Addr}{ys:List V}(h:w8 K H n t d v)(s:aA p H H')(hp:H p=some (.lst ys)):w8 K H' n t d v:=by
 cases d<;>first | exact h | (obtain ⟨p,l,r,e,f,z⟩:=h;exact ⟨p,l,r,e,f,z.keep s hp⟩)
theorem JF {as:List Addr}{a b:Addr}:atI ((as++[a]++[b]).map V.ref) (-2)=some (.ref a):=by
 have hl:((as++[a]++[b]).map V.ref).length=as.length+2:=by simp
 unfold atI ixN
 rw [hl,if_neg (by omega),if_pos (by omega)]
 rw [show ((-2:Int)+((as.length+2:Nat):Int)).toNat=as.length by omega]
 show ((as++[a]++[b]).map V.ref)[as.length]?=_
 simp
structure yq (ds:List Int)(ls:List Cd)(slow fast:Int)(lds:List Ld):Prop where
 sh:cf ds
 ln:ls.length=ds.length
 gd:∀x∈ls,eL x
 sp:1<=slow/\slow<=fast/\fast<=500
 l30:lds.length<=30
 gl:∀x∈lds,iU (ds.length:Nat) x
theorem yq.cfg {ds:List Int}{ls:List Cd}{slow fast:Int}{lds:List Ld}(h:yq ds ls slow fast lds)(N:Addr->Prop):fR (dS ds ls slow fast lds N):=LQ h.sh h.ln h.gd h.sp h.l30
theorem yq.snap {ds:List Int}{ls:List Cd}{slow fast:Int}{lds:List Ld}(h:yq ds ls slow fast lds)(N:Addr->Prop):cZ (dS ds ls slow fast lds N) (fe ds ls lds):=IP h.sh h.ln h.gl
def HV (ws:List Int)(i:Nat)(c:Int)(x:V):Prop:=(x=.non/\∀j,j < i->ws.getD j 0≠10+c)\/∃j:Nat,j < i/\x=.int (j:Int)/\ws.getD j 0=10+c
theorem HV.nil {ws:List Int}{c:Int}:HV ws 0 c .non:=.inl ⟨rfl,fun j h=>absurd h (Nat.not_lt_zero _)⟩
theorem HV.no {ws:List Int}{i:Nat}{c:Int}{x:V}(h:HV ws i c x)(n:ws.getD i 0≠10+c):HV ws (i+1) c x:=by
 rcases h with ⟨e,h⟩ | ⟨j,hj,e,h⟩
 ·exact .inl ⟨e,fun j hj=>by
   by_cases z:j=i
   ·rw [z];exact n
   ·exact h j (by omega)⟩
 ·exact .inr ⟨j,by omega,e,h⟩
theorem HV.yes {ws:List Int}{i:Nat}{c:Int}(n:ws.getD i 0=10+c):HV ws (i+1) c (.int (i:Int)):=.inr ⟨i,by omega,rfl,n⟩
theorem HV.all {g:Cfg}{n:aM}(hn:cZ g n){c:Int}{x:V}(hc:0<=c)(h:HV n.ws n.ws.length c x):x=inC n.ws c:=by
 unfold inC
 rcases h with ⟨e,h⟩ | ⟨j,hj,e,h⟩
 ·rw [if_neg,e]
  intro z
  obtain ⟨h1,h2⟩:=so z
  exact h _ h1 h2
 ·have hm:10+c∈n.ws:=h▸cH hj
  obtain ⟨h1,h2⟩:=so hm
  rw [if_pos hm,e,hn.un j _ hj h1 (by omega) (h.trans h2.symm)]
theorem qD (ws:List Int)(c:Int):bO (inC ws c)=true:=by unfold inC;split<;>rfl
def eC (H:Hp)(ws:List Int)(as:List Addr)(m:Nat):Prop:=as.length=m/\∀(j:Nat) a,as[j]?=some a->H a=some (.lst ((iW ws (j:Int)).map V.int))
theorem eC.same {H H':Hp}{ws:List Int}{as:List Addr}{m:Nat}(h:eC H ws as m)(s:aq H H'):eC H' ws as m:=⟨h.1,fun j a e=>s _ _ (h.2 j a e)⟩
theorem eC.nil {H:Hp}{ws:List Int}:eC H ws [] 0:=⟨rfl,fun j a e=>by simp at e⟩
theorem eC.push {H:Hp}{ws:List Int}{as:List Addr}{m:Nat}{a:Addr}(h:eC H ws as m)(e:H a=some (.lst ((iW ws (m:Int)).map V.int))):eC H ws (as++[a]) (m+1):=by
 refine ⟨by rw [List.length_append,h.1];rfl,fun j b hb=>?_⟩
 by_cases hj:j < as.length
 ·rw [List.getElem?_append_left hj] at hb
  exact h.2 j b hb
 ·rw [List.getElem?_append_right (by omega)] at hb
  have hz:j - as.length=0:=by
   have:=(List.getElem?_eq_some_iff.mp hb).1
   simp at this
   omega
  rw [hz] at hb
  cases hb
  have:j=m:=by rw [←h.1];omega
  rw [this]
  exact e
noncomputable def De (ws:List Int)(m:Nat):Dt:=.lst ((List.range m).map fun (j:Nat)=>.lst (((iW ws (j:Int)).map V.int).map Dt.flat))
theorem yr {K:WA}{H:Hp}{p:Addr}{ws:List Int}{as:List Addr}{m n:Nat}(hp:SqL K H p (as.map V.ref))(h:eC H ws as m)(hm:m<=1000)(hw:ws.length<=1000):Rep K H (n+2) (.ref p) (De ws m):=by
 refine .lst hp (by rw [WB,h.1];omega) (by rw [WB,WB,List.length_range,h.1]) fun i x y e1 e2=>?_
 rw [List.getElem?_map] at e1 e2
 cases ea:as[i]? with
 | none=>rw [ea] at e1;cases e1
 | some a=>
  cases er:(List.range m)[i]? with
  | none=>rw [er] at e2;cases e2
  | some r=>
   rw [ea] at e1;rw [er] at e2
   cases e1;cases e2
   have hi:=(List.getElem?_eq_some_iff.mp er).1
   rw [List.length_range] at hi
   rw [List.getElem?_range hi] at er
   cases er
   exact mK (SqL.of (h.2 i a ea)) (by have:=AI ws (i:Int) ws.length;unfold iW;omega)
inductive kG (K:WA)(H:Hp)(n:Nat):List V->List Dt->Prop
 | nil:kG K H n [] []
 | cons {x:V} {d:Dt} {xs:List V} {ds:List Dt} (h:Rep K H n x d) (t:kG K H n xs ds):kG K H n (x::xs) (d::ds)
theorem kG.len {K:WA}{H:Hp}{n:Nat}{xs:List V}{ds:List Dt}(h:kG K H n xs ds):xs.length=ds.length:=by
 induction h with
 | nil=>rfl
 | cons h t ih=>rw [List.length_cons,List.length_cons,ih]
theorem kG.get {K:WA}{H:Hp}{n:Nat}{xs:List V}{ds:List Dt}(h:kG K H n xs ds):∀(i:Nat) x d,xs[i]?=some x->ds[i]?=some d->Rep K H n x d:=by
 induction h with
 | nil=>intro i x d e;simp at e
 | cons h t ih=>
  intro i x d e1 e2
  cases i with
  | zero=>cases e1;cases e2;exact h
  | succ i=>exact ih i x d e1 e2
theorem kG.rep {K:WA}{H:Hp}{n:Nat}{a:Addr}{xs:List V}{ds:List Dt}(h:kG K H n xs ds)(hs:SqL K H a xs)(hb:xs.length<=100000):Rep K H (n+1) (.ref a) (.lst ds):=.lst hs hb h.len h.get
theorem kG.same {K:WA}{H H':Hp}{n:Nat}{xs:List V}{ds:List Dt}(h:kG K H n xs ds)(s:aq H H'):kG K H' n xs ds:=by
 induction h with
 | nil=>exact .nil
 | cons h t ih=>exact .cons (h.same s) ih
theorem kG.append {K:WA}{H:Hp}{n:Nat}{xs ys:List V}{ds es:List Dt}(h:kG K H n xs ds)(k:kG K H n ys es):kG K H n (xs++ys) (ds++es):=by
 induction h with
 | nil=>exact k
 | cons h t ih=>exact .cons h ih
theorem jv {M:Model}{A:Around}{E:Value->Shared->Prop}{s:Shared}{scope:Scope}{globals:Addr}{closure:List (Str×Addr)}{qual:Str}{func:Option Addr}{code:Value}{outer:Env}{builtins:Addr}{yc:Str}{Q:Env->Shared->Prop}
  (hcs:∀(n:Nat) (cl:List (Str×Addr)),cellsFrom n scope.names cl=(yc,n)::cl) (hpc:∀h:Heap,pushCells h scope.names=h.push {cls:=.type "cell",data:=.cell none})
  (hQ:∀h',h'.Ns s.heap.objs.size (fun _=>none)->(∀b u,s.heap.get? b=some u->h'.get? b=some u)->h'.IsCell (s.heap.objs.size+1) none->
   Q (newEnv scope s.heap.objs.size globals ((yc,s.heap.objs.size+1)::closure) qual func code (some outer) builtins) {s with heap:=h',toks:=s.toks+([]:List (Str×Value)).length}) :
  wpAny M A (newFunctionEnv scope globals closure [] qual func code (some outer) builtins) Q E s:=by
 simp only [newFunctionEnv,Option.isSome_some,if_true]
 refine wpAny_bind (wpAny_alloc ?_)
 refine wpAny_bind (wpAny_layCells _ (fun name kind cells=>by cases hkc:kind == NameKind.cell<;>simp [hkc]) _ _ _ _ ?_)
 rw [hcs,hpc]
 rw [show ({s with heap:=s.heap.push {cls:=.type "dict",data:=.dict #[]}}:Shared).heap.objs.size=s.heap.objs.size+1 from Heap.size_push ..]
 refine wpAny_bind ?_
 rw [List.forIn_nil]
 refine wpAny_pure (wpAny_pure ?_)
 refine hQ ((s.heap.push {cls:=.type "dict",data:=.dict #[]}).push {cls:=.type "cell",data:=.cell none}) ?_ (fun b u e=>Heap.get?_push_of_some _ (Heap.get?_push_of_some _ e)) ⟨{cls:=.type "cell",data:=.cell none},?_,rfl⟩
 ·exact (Heap.Ns.new s.heap (.type "dict")).keeps fun b o e=>Heap.get?_push_of_some _ e
 ·have:=Heap.get?_push_size (s.heap.push {cls:=.type "dict",data:=.dict #[]}) (o:={cls:=.type "cell",data:=.cell none}) rfl
  rw [Heap.size_push] at this
  exact this
noncomputable def Fd (X:Cx)(Nc:List Str)(scope:Scope)(yc:Str)(C:Addr)(s₀:Shared)(H₀:Hp)(ex:List Addr):Cx:=
 {X with N:=Nc,s₀:=s₀,H₀:=H₀,env:=compEnvC scope ((yc,C+1)::iS X.env.cells scope.names []) C X.env,outer:=X.stack,ex:=ex,fn:=fun x=>x == yc,pn:=[],xe:=fun _ _=>False}
section
variable {X:Cx}
theorem A4 {tg iter elt:Expr}{ifs:List Expr}{scope:Scope}{pos spos py:Pos}{Nc:List Str}{cm:List (Option Nat)}{wi:TI}{g:TG}{tc:TT}{te:TE}{iy:Nat}{y yc:Str}(hcs:∀(n:Nat) (cl:List (Str×Addr)),cellsFrom n scope.names cl=(yc,n)::cl)(hpc:∀h:Heap,pushCells h scope.names=h.push {cls:=.type "cell",data:=.cell none})(hyc:scope.names.lookup yc=some .cell)(hN:X.N.Nodup)(hiy:X.N[iy]?=some y)(hly:X.env.scope.names.lookup y=some .local)
  (hsw:swapsWith (.ListComp elt [⟨tg,iter,ifs,0⟩] scope pos) (some (.Name y py)) spos.line X.env=pure true)
  (hc:X.calm=true) (hi:PI X tg iter wi) (hkind:scope.kind=.function) (hcell:∀z∈scope.names,z.2=.cell->z.1=yc) (hnames:∀y∈scope.names,y.2=.local->scope.names.lookup y.1=some .local)
  (hfree:∀y∈scope.names,y.2=.free->X.env.kindOf y.1=some .cell\/X.env.kindOf y.1=some .free) (hlen:cm.length=Nc.length)
  (hcm:∀(j:Nat) (x:Str) (i:Nat),Nc[j]?=some x->cm[j]?=some (some i)->X.N[i]?=some x/\scope.names.lookup x=some .free/\(X.env.kindOf x=some .cell\/X.env.kindOf x=some .free))
  (hg:∀C s₀ H₀ ex,PG (Fd X Nc scope yc C s₀ H₀ ex) tg g) (ht:∀C s₀ H₀ ex,PIf (Fd X Nc scope yc C s₀ H₀ ex) ifs tc) (he:∀C s₀ H₀ ex,PE (Fd X Nc scope yc C s₀ H₀ ex) elt te)
  (hs:∀x,foldedSetIterable iter X.env x=pure x:=by intro _;rfl):PS X (.Assign [.Name y py] (.ListComp elt [⟨tg,iter,ifs,0⟩] scope pos) spos) (Aj (uY wi g tc te cm) (et iy)):=by
 intro pins s σ H D0 I h
 rw [exec_Assign_Name_used _ _ _ _ hsw]
 refine wpAny_bind (wpAny_standAt (wpAny_bind ?_))
 show wpAny _ X.A (do let _ ←comprehension (.ListComp elt [⟨tg,iter,ifs,0⟩] scope pos) scope X.env _ (newList []) false (eval iter X.env) (some (assign (.Name y py) X.env))) _ _ s
 refine wpAny_bind (wpAny_mono (Q:=fun _ s'=>SP X pins D0 .next s') ?_ (fun _ s' hq=>wpAny_pure (wpAny_pure hq)) fun _ _ e=>e)
 have hfr:∀y∈scope.names,y.2=.free->∃c,X.env.cells.lookup y.1=some c:=fun y hy e=>I.ok.has y.1 (hfree y hy e)
 refine wpAny_comprehension_free (use:=some (assign (.Name y py) X.env)) (Q:=fun _ s'=>SP X pins D0 .next s') rfl hs (iT hfr) hkind hnames (thn (hi pins s σ H _ I h) fun v s1 h1=>thn h1 fun itv s2 h2=>?_)
 obtain ⟨it,fp,tn,J,H2,e,I2,T,st2,f2,W,⟨m0,w0⟩,turn⟩:=h2
 subst e
 refine wpAny_newObj_type (jv hcs hpc (fun h₁ hns₁ keepA hcl₁=>?_))
 dsimp only at hns₁ keepA hcl₁ ⊢
 refine r8 (yo:=some yc) (QV:=fun x H1=>et iy x σ H1 D0.nx) hc hkind (fun z hz e=>by rw [hcell z hz e]) (fun _ e=>by cases e;exact hyc) hfr hlen hcm hg ht he I2 T st2 f2 w0 turn hns₁ keepA (fun _ e=>by cases e;exact hcl₁) (fun s6 H5 acc m hm fc J qn _=>?_)
 obtain ⟨fc0,fc1,fc2,fc3,fc4,fc5⟩:=fc
 refine wpAny_assign_Name (rS (s:=s6) (v:=.ref s2.heap.objs.size) (J s6.heap ⟨rfl,fun _ _=>rfl⟩) hN hiy (.inl hly) rfl (fun s7 J9 hsa=>?_) (.inr hly))
 obtain ⟨aa,hsa,hwh⟩:=hsa
 exact ⟨m,hm.sameBut hsa (by rcases hwh with z | z;rw [z];exact fc1;exact (fc4 _ _ z).symm),fun h7 hs7=>⟨_,_,J9.turned (it:=(s2.heap.push {cls:=.type "list",dict:=none,data:=.seq ([]:List Value).toArray}).objs.size) (t':=s7.toks) (fun b o hb hu=>(hs7.2 b hb).trans hu) fc0 fc1 fc3 fc4 fc5,qn⟩⟩
end
theorem Me {X:Cx}{tg iter elt:Expr}{ifs:List Expr}{scope:Scope}{pos spos py:Pos}(Nc:List Str)(yc:Str)(cm:List (Option Nat)){wi:TI}{g:TG}{tc:TT}{te:TE}{iy:Nat}{y:Str}(hN:X.N.Nodup)(hiy:X.N[iy]?=some y)(hly:X.env.scope.names.lookup y=some .local)
  (hi:PI X tg iter wi) (hg:∀C s₀ H₀ ex,PG (Fd X Nc scope yc C s₀ H₀ ex) tg g) (ht:∀C s₀ H₀ ex,PIf (Fd X Nc scope yc C s₀ H₀ ex) ifs tc) (he:∀C s₀ H₀ ex,PE (Fd X Nc scope yc C s₀ H₀ ex) elt te)
  (hsw:swapsWith (.ListComp elt [⟨tg,iter,ifs,0⟩] scope pos) (some (.Name y py)) spos.line X.env=pure true:=by rfl)
  (hc:X.calm=true:=by rfl) (hkind:scope.kind=.function:=by rfl) (hcell:∀z∈scope.names,z.2=.cell->z.1=yc:=by decide +kernel) (hcs:∀(n:Nat) (cl:List (Str×Addr)),cellsFrom n scope.names cl=(yc,n)::cl:=by intro _ _;rfl) (hpc:∀h:Heap,pushCells h scope.names=h.push {cls:=.type "cell",data:=.cell none}:=by intro _;rfl) (hyc:scope.names.lookup yc=some .cell:=by rfl) (hnames:∀y∈scope.names,y.2=.local->scope.names.lookup y.1=some .local:=by decide +kernel)
  (hfree:Cr X scope=true:=by rfl) (hlen:cm.length=Nc.length:=by rfl) (hcm:LA X scope Nc cm=true:=by rfl)
  (hs:∀x,foldedSetIterable iter X.env x=pure x:=by intro _;rfl):PS X (.Assign [.Name y py] (.ListComp elt [⟨tg,iter,ifs,0⟩] scope pos) spos) (Aj (uY wi g tc te cm) (et iy)):=by
 refine A4 hcs hpc hyc hN hiy hly hsw hc hi hkind hcell hnames (fun y hy e=>?_) hlen (fun j x i e1 e2=>?_) hg ht he hs
 ·have h:=List.all_eq_true.mp hfree y hy
  rw [e] at h
  simpa using h
 ·have hj:(Nc.zip cm)[j]?=some (x,some i):=by
   rw [List.getElem?_zip_eq_some];exact ⟨e1,e2⟩
  have h:=List.all_eq_true.mp hcm _ (List.mem_of_getElem? hj)
  simpa using h
theorem fM.calm0 {P:Program}{w:World}{K:WA}{mg:Str->Option Value}{base:Heap}{k:Nat}{f:Addr}{fd:FuncData}{ps:List Str}{sp:Sp}(F:fM P w K mg base (CXf P w) k f fd ps sp):fM P w K mg base CX0 k f fd ps (fun vs H Q _=>sp vs H Q E0):=by
 refine ⟨fun vs H Q E h=>F.len vs H Q E0 h,fun A outer s H args us vs Q E hr he hb hv hs=>?_⟩
 refine codeAny_mono (F.run A outer s H args us vs Q E0 hr he hb hv hs) fun r s' q=>?_
 cases r with
 | ok fl=>cases fl<;>exact q
 | error e=>
  obtain ⟨x,cls,a0,H',B,_,_,_,_,_,_,_,_,_,z⟩:=q
  exact z.elim
noncomputable def Kz (K:WA):R2:=fun x y H Q=>onR x fun a=>onR y fun b=>∃xs,SqL K H a xs/\∃ys,SqL K H b ys/\xs.length≠ys.length/\Q (.bl false) H
theorem Mf {X:Cx}(hu:X.A.units < cLine):OpR X (compareOp .Eq) (Kz X.K):=by
 intro pins s σ H x y u v Q I rx ry h
 cases x with
 | ref a=>
  cases y with
  | ref b=>
   obtain ⟨xs,ha,ys,hb,hl,q⟩:=h
   cases rx;cases ry
   obtain ⟨ia,ra,pa,za⟩:=I.list ha
   obtain ⟨ib,rb,pb,zb⟩:=I.list hb
   have la:=ra.length
   have lb:=rb.length
   refine PySem.SeqAt.eq_list_lengthsAt pa.isList pb.isList (by simp only [List.size_toArray,bne_iff_ne,ne_eq];omega) hu ?_
   exact ⟨.bl false,H,I,rfl,q⟩
  | _=>exact h.elim
 | _=>exact h.elim
def DI (K:WA)(x:Str)(st:Stmt):Prop:=∃f fd,W.nsIn K mainGlobals x=some (some (.ref f))/\Fun K x x st f fd
theorem DI.mk {K:WA}{x:Str}{st:Stmt}{f:Addr}{oc:Value}{od an:Option Addr}{osl:Array (Option Value)}{kV doc pm cdv ct:Value}(a:W.nsIn K mainGlobals x=some (some (.ref f)))(l:K.lookup f=some ⟨oc,od,.func (W.fnOf x x (dJ st) (bH st) (aj st) .none kV doc pm an cdv ct),osl⟩)
  (c:W.codeIn K cdv x=true) (k:W.keepIn K (.ref f)=true):DI K x st:=⟨f,_,a,Cp l c k⟩
def MI (K:WA)(C:Addr)(m q:Str)(st:Stmt):Prop:=∃f fd,Al K C m f/\Fun K m q st f fd
theorem MI.mk {K:WA}{C:Addr}{m q:Str}{st:Stmt}{f:Addr}{oc:Value}{od an:Option Addr}{osl:Array (Option Value)}{kV doc pm cdv ct:Value}(a:W.findIn K (.ref C) m=some (some (.ref f)))(fn:W.isFn K (.ref f)=true)(l:K.lookup f=some ⟨oc,od,.func (W.fnOf m q (dJ st) (bH st) (aj st) .none kV doc pm an cdv ct),osl⟩)
  (c:W.codeIn K cdv q=true) (k:W.keepIn K (.ref f)=true):MI K C m q st:=⟨f,_,⟨a,fn,k⟩,Cp l c k⟩
def II (K:WA)(C:Addr)(q:Str)(st:Stmt):Prop:=∃f fd,Mk K C f/\Fun K "__init__" q st f fd
theorem II.mk {K:WA}{C:Addr}{q:Str}{st:Stmt}{f:Addr}{oc:Value}{od an:Option Addr}{osl:Array (Option Value)}{kV doc pm cdv ct:Value}(a:W.findIn K (.ref C) "__init__"=some (some (.ref f)))(fn:W.isFn K (.ref f)=true)(mk:W.makesIn K C=true)(kc:W.keepIn K (.ref C)=true)(l:K.lookup f=some ⟨oc,od,.func (W.fnOf "__init__" q (dJ st) (bH st) (aj st) .none kV doc pm an cdv ct),osl⟩)
  (c:W.codeIn K cdv q=true) (k:W.keepIn K (.ref f)=true):II K C q st:=⟨f,_,⟨mk,a,fn,kc⟩,Cp l c k⟩
def C0I (K:WA)(C0:Addr):Prop:=∃(c0 c2:Value) (dd0 d2:Option Addr) (cd0:ClassData) (sl0 sl2:Array (Option Value)) (es0:Array DictEntry) (ep0:Nat),K.lookup C0=some ⟨c0,dd0,.cls cd0,sl0⟩/\K.lookup cd0.ns=some ⟨c2,d2,.dict es0 ep0,sl2⟩/\n6 es0=true/\(quietNames.all fun n=>(nsFind es0 n).isNone)=true
theorem C0I.mk {K:WA}{C0 N0:Addr}{c0 c2:Value}{dd0 d2:Option Addr}{cd0:ClassData}{sl0 sl2:Array (Option Value)}{es0:Array DictEntry}{ep0:Nat}(l0:K.lookup C0=some ⟨c0,dd0,.cls cd0,sl0⟩)(e0:cd0.ns=N0)(lN0:K.lookup N0=some ⟨c2,d2,.dict es0 ep0,sl2⟩)(kN0:n6 es0=true)(iN0:(quietNames.all fun n=>(nsFind es0 n).isNone)=true):C0I K C0:=
 ⟨c0,c2,dd0,d2,cd0,sl0,sl2,es0,ep0,l0,e0▸lN0,kN0,iN0⟩
def XI (K:WA)(C0 C:Addr):Prop:=C0I K C0->ExI K C
theorem XI.mk {K:WA}{C N C0:Addr}{nm q:Str}{bs:List Value}{hdct:Bool}{sn:List Str}{sub:List Value}{ab:Bool}{col:Option Bool}{dd:Option Addr}{k0 k1 k2 k3 k5:Option Value}{c1:Value}{d1:Option Addr}{es:Array DictEntry}{ep:Nat}{sl1:Array (Option Value)}
  (lC:K.lookup C=some (excClassObj nm q C N bs [.ref C0,.type "ValueError",.type "Exception",.type "BaseException",.type "object"] hdct sn sub ab col dd k0 k1 k2 k3 k5 "ValueError.__new__"))
  (lN:K.lookup N=some ⟨c1,d1,.dict es ep,sl1⟩) (kN:n6 es=true) (iN:(quietNames.all fun n=>(nsFind es n).isNone)=true) (ca:W.findIn K (.ref C) "__class__"=some (some (.builtin "object.__class__"))) (mo:W.mroIn K C (.type "object")=some true):XI K C0 C:=by
 rintro ⟨c0,c2,dd0,d2,cd0,sl0,sl2,es0,ep0,l0,lN0,kN0,iN0⟩
 exact ⟨LD lC lN kN iN l0 rfl lN0 kN0 iN0,ca,mo⟩
def NI (K:WA)(x:Str)(a:Addr):Prop:=W.nsIn K mainGlobals x=some (some (.ref a))
def KI (K:WA)(x:Str)(v:Int):Prop:=∃tk,W.nsIn K mainGlobals x=some (some (.int v tk))
theorem KI.mk {K:WA}{x:Str}{v:Int}{tk:Tok}(h:W.nsIn K mainGlobals x=some (some (.int v tk))):KI K x v:=⟨tk,h⟩
theorem KI.txt {K:WA}{h:Heap}{mg:Str->Option Value}{x:Str}{v:Int}(X:K.In h)(G:h.Ns mainGlobals mg)(k:KI K x v):∃u,mg x=some u/\bK (.int v) u:=let ⟨_,k⟩:=k;⟨_,W.mg_of X G k,⟨_,rfl⟩⟩
theorem cC {H H1:Hp}{p:Addr}{o:HO}(e:upd H p o=H1)(h:H p=none):aq H H1:=e▸(aq.refl H).lay h
theorem bu {H H1:Hp}{p:Addr}{o:HO}(e:upd H p o=H1):H1 p=some o:=e▸ag
theorem seg {X:Cx}{b:List Stmt}{R:TS->Prop}(j:Nat){t:TS}(h:PSs X (b.drop j) t)(k:∀t',PSs X (b.drop j) t'->t'=t->∃u,PSs X b u/\R u):∃u,PSs X b u/\R u:=k t h rfl
theorem lD {t t':TS}(e:t=t'){D:gO}{σ:St}{H:Hp}(h:t' D σ H):t D σ H:=e▸h
theorem aL {N P:List Str}{sc:Scope}(kind:sc.kind=.function:=by rfl)(co:sc.isCoroutine=false:=by rfl)(gen:sc.isGenerator=false:=by rfl)(nd:N.Nodup:=by decide +kernel)(pre:N.take P.length=P:=by rfl)(par:∀x∈P,sc.names.lookup x=some .local\/sc.names.lookup x=some .cell:=by decide +kernel)(nofree:∀y∈sc.names,y.2≠.free:=by decide +kernel):ay N P sc:=⟨kind,co,gen,nd,pre,par,nofree⟩
section
variable {K:WA}{x qual:Str}{st:Stmt}{f:Addr}{fd:FuncData}{ps:List Str}
theorem Fun.b0 (F:Fun K x qual st f fd)(hl:ps.length=0:=by rfl)(h:∀(kV doc pm:Value) (an:Option Addr) (cdv ct:Value),bindArgs (W.fnOf x qual (dJ st) (bH st) (aj st) .none kV doc pm an cdv ct) ⟨[],[]⟩=pure (ps.zip []):=by intros;rfl):dQ K fd ps []:=F.binds fun kV doc pm an cdv ct us e=>match us,e.trans hl with | [],_=>h kV doc pm an cdv ct
theorem Fun.b1 (F:Fun K x qual st f fd)(hl:ps.length=1:=by rfl)(h:∀(kV doc pm:Value) (an:Option Addr) (cdv ct:Value) (a0:Value), bindArgs (W.fnOf x qual (dJ st) (bH st) (aj st) .none kV doc pm an cdv ct) ⟨[a0],[]⟩=pure (ps.zip [a0]):=by intros;rfl):dQ K fd ps []:=F.binds fun kV doc pm an cdv ct us e=>match us,e.trans hl with | [a0],_=>h kV doc pm an cdv ct a0
theorem Fun.b2 (F:Fun K x qual st f fd)(hl:ps.length=2:=by rfl)(h:∀(kV doc pm:Value) (an:Option Addr) (cdv ct:Value) (a0 a1:Value), bindArgs (W.fnOf x qual (dJ st) (bH st) (aj st) .none kV doc pm an cdv ct) ⟨[a0,a1],[]⟩=pure (ps.zip [a0,a1]):=by intros;rfl):dQ K fd ps []:=F.binds fun kV doc pm an cdv ct us e=>match us,e.trans hl with | [a0,a1],_=>h kV doc pm an cdv ct a0 a1
theorem Fun.b3 (F:Fun K x qual st f fd)(hl:ps.length=3:=by rfl)(h:∀(kV doc pm:Value) (an:Option Addr) (cdv ct:Value) (a0 a1 a2:Value), bindArgs (W.fnOf x qual (dJ st) (bH st) (aj st) .none kV doc pm an cdv ct) ⟨[a0,a1,a2],[]⟩=pure (ps.zip [a0,a1,a2]):=by intros;rfl):dQ K fd ps []:=F.binds fun kV doc pm an cdv ct us e=>match us,e.trans hl with | [a0,a1,a2],_=>h kV doc pm an cdv ct a0 a1 a2
theorem Fun.b4 (F:Fun K x qual st f fd)(hl:ps.length=4:=by rfl)(h:∀(kV doc pm:Value) (an:Option Addr) (cdv ct:Value) (a0 a1 a2 a3:Value), bindArgs (W.fnOf x qual (dJ st) (bH st) (aj st) .none kV doc pm an cdv ct) ⟨[a0,a1,a2,a3],[]⟩=pure (ps.zip [a0,a1,a2,a3]):=by intros;rfl):dQ K fd ps []:=F.binds fun kV doc pm an cdv ct us e=>match us,e.trans hl with | [a0,a1,a2,a3],_=>h kV doc pm an cdv ct a0 a1 a2 a3
theorem Fun.b5 (F:Fun K x qual st f fd)(hl:ps.length=5:=by rfl)(h:∀(kV doc pm:Value) (an:Option Addr) (cdv ct:Value) (a0 a1 a2 a3 a4:Value), bindArgs (W.fnOf x qual (dJ st) (bH st) (aj st) .none kV doc pm an cdv ct) ⟨[a0,a1,a2,a3,a4],[]⟩=pure (ps.zip [a0,a1,a2,a3,a4]):=by intros;rfl):dQ K fd ps []:=F.binds fun kV doc pm an cdv ct us e=>match us,e.trans hl with | [a0,a1,a2,a3,a4],_=>h kV doc pm an cdv ct a0 a1 a2 a3 a4
theorem Fun.b6 (F:Fun K x qual st f fd)(hl:ps.length=6:=by rfl)(h:∀(kV doc pm:Value) (an:Option Addr) (cdv ct:Value) (a0 a1 a2 a3 a4 a5:Value), bindArgs (W.fnOf x qual (dJ st) (bH st) (aj st) .none kV doc pm an cdv ct) ⟨[a0,a1,a2,a3,a4,a5],[]⟩=pure (ps.zip [a0,a1,a2,a3,a4,a5]):=by intros;rfl):dQ K fd ps []:=F.binds fun kV doc pm an cdv ct us e=>match us,e.trans hl with | [a0,a1,a2,a3,a4,a5],_=>h kV doc pm an cdv ct a0 a1 a2 a3 a4 a5
end
theorem dH.dn {j k:Nat}{A:Around}(r:dH k A)(h:j<=k:=by decide):dH j A:=r.mono h
theorem ao {X:Cx}{a b:Expr}{ta tb:TE}{pos:Pos}{r:R2}(hr:IxR X r)(ha:PE X a ta)(hb:PE X b tb)(hs:DN b:=by intro _ _;rfl):PE X (.Subscript a b pos) (tOp r ta tb):=MS hr ha hb hs
theorem orL {α:Type}{a b:α}{p:Prop}(h:a=b:=by rfl):a=b\/p:=.inl h
termination_by rs.length
decreasing_by all_goals (subst_vars;simp)
theorem A5 {x y:V}(hx:bO x=true)(hy:bO y=true):∀z∈[x,y],bO z=true:=by
 intro z hz
 simp only [List.mem_cons,List.not_mem_nil,or_false] at hz
 rcases hz with rfl | rfl<;>assumption
theorem NQ {A B:Prop}(h:B):if true=false then A else B:=by rw [if_neg (by decide)];exact h
theorem NR {A B:Prop}(h:A):if false=false then A else B:=by rw [if_pos rfl];exact h
section
variable {C:Cl}{K:WA}{H0 H H':Hp}{p dl cl ll w bk rl sl wl:Addr}{g:Cfg}{lds:List Ld}{n0:aM}{rs:List Row}
theorem iY.lists (h:iY C K H0 H p dl cl ll w bk rl sl wl g lds n0 rs):(∃xs,H rl=some (.lst xs))/\(∃xs,H sl=some (.lst xs))/\∃xs,H wl=some (.lst xs):=by
 obtain ⟨rr,hr⟩:=h.da.wk.rows
 obtain ⟨_,⟨b,hb,_⟩,⟨c,hc,_⟩,_⟩:=id h.da
 exact ⟨⟨_,hr⟩,⟨_,hb⟩,_,hc⟩
theorem SqT.k3 {a:Addr}{xs:List V}(z:SqT K H a xs)(h:iY C K H0 H p dl cl ll w bk rl sl wl g lds n0 rs)(k:bI rl sl wl H H'):SqT K H' a xs:=by
 obtain ⟨⟨_,h1⟩,⟨_,h2⟩,_,h3⟩:=h.lists
 rcases z with (z | ⟨o,z⟩) | z
 ·exact .inl (.inl (k _ _ (fun e=>by rw [e,h1] at z;cases z) (fun e=>by rw [e,h2] at z;cases z) (fun e=>by rw [e,h3] at z;cases z) z))
 ·exact .inl (.inr ⟨o,k _ _ (fun e=>by rw [e,h1] at z;cases z) (fun e=>by rw [e,h2] at z;cases z) (fun e=>by rw [e,h3] at z;cases z) z⟩)
 ·exact .inr z
end
noncomputable def qF (g:Cfg)(n0:aM):List Row->List Dd->List Row
 | rs,[]=>rs
 | rs,d::ds=>qF g n0 (rs++[mi g n0 rs d]) ds
noncomputable def snD (g:Cfg):aM->List Dd->aM
 | n,[]=>n
 | n,d::ds=>snD g (cv g n d) ds
noncomputable def okS (g:Cfg):aM->List Dd->Prop
 | _,[]=>True
 | n,d::ds=>(vf d/\eI g n d=none)/\okS g (cv g n d) ds
theorem sL (g:Cfg)(n0:aM):∀(ds:List Dd) (rs:List Row),ai n0 (qF g n0 rs ds)=snD g (ai n0 rs) ds
 | [],rs=>rfl
 | d::ds,rs=>by
  show ai n0 (qF g n0 (rs++[mi g n0 rs d]) ds)=_
  rw [sL g n0 ds,jD]
  rfl
theorem vp (g:Cfg)(n0:aM):∀(ds:List Dd) (rs:List Row),(qF g n0 rs ds).length=rs.length+ds.length
 | [],rs=>rfl
 | d::ds,rs=>by
  show (qF g n0 (rs++[mi g n0 rs d]) ds).length=_
  rw [vp g n0 ds,List.length_append,List.length_singleton,List.length_cons]
  omega
theorem yt (g:Cfg)(n0:aM):∀(ds:List Dd) (d:Dd) (rs:List Row),qF g n0 rs (ds++[d])=qF g n0 rs ds++[mi g n0 (qF g n0 rs ds) d]
 | [],d,rs=>rfl
 | e::ds,d,rs=>yt g n0 ds d _
theorem zB (g:Cfg):∀(a b:List Dd) (n:aM),snD g n (a++b)=snD g (snD g n a) b
 | [],b,n=>rfl
 | d::a,b,n=>zB g a b _
theorem zC (g:Cfg):∀(a b:List Dd) (n:aM),okS g n a->okS g (snD g n a) b->okS g n (a++b)
 | [],b,n,_,h=>h
 | d::a,b,n,h1,h2=>⟨h1.1,zC g a b _ h1.2 h2⟩
theorem Hn (g:Cfg):∀(ds:List Dd) (n:aM) (j:Nat) (d:Dd),okS g n ds->ds[j]?=some d->vf d/\eI g (snD g n (ds.take j)) d=none
 | [],n,j,d,_,e=>by simp at e
 | x::ds,n,0,d,h,e=>by cases e;exact h.1
 | x::ds,n,j+1,d,h,e=>Hn g ds (cv g n x) j d h.2 e
theorem Fe {g:Cfg}{n0:aM}{rs:List Row}{ds:List Dd}{j:Nat}{d:Dd}(e:ds[j]?=some d):qF g n0 rs (ds.take (j+1))=qF g n0 rs (ds.take j)++[mi g n0 (qF g n0 rs (ds.take j)) d]:=by
 obtain ⟨hj,rfl⟩:=List.getElem?_eq_some_iff.mp e
 rw [List.take_succ_eq_append_getElem hj,yt]
theorem A6 (g:Cfg):∀(ls:List Int) (n:aM),n.gates.length=g.ds.length->ls.Nodup->(∀l∈ls,(0<=l/\l < g.ds.length)/\n.gates.getD l.toNat false=true)->
  okS g n (ls.map .sht)/\(snD g n (ls.map .sht)).place=n.place/\(snD g n (ls.map .sht)).fs=n.fs/\(snD g n (ls.map .sht)).e=n.e/\(snD g n (ls.map .sht)).gates.length=g.ds.length/\∀i:Nat,(snD g n (ls.map .sht)).gates.getD i false=true->n.gates.getD i false=true/\¬(i:Int)∈ls
 | [],n,hl,_,_=>⟨trivial,rfl,rfl,rfl,hl,fun i h=>⟨h,by simp⟩⟩
 | l::ls,n,hl,nd,h=>by
  obtain ⟨⟨h0,h1⟩,h2⟩:=h l List.mem_cons_self
  have nd':=List.nodup_cons.mp nd
  have gl:(cv g n (.sht l)).gates=n.gates.set l.toNat false:=rfl
  have ih:=A6 g ls (cv g n (.sht l)) (by rw [gl,List.length_set];exact hl) nd'.2 fun k hk=>by
   have hk':=h k (List.mem_cons_of_mem _ hk)
   refine ⟨hk'.1,?_⟩
   rw [gl,oh,if_neg]
   ·exact hk'.2
   ·rintro ⟨z,_⟩
    have:l=k:=by omega
    subst this
    exact nd'.1 hk
  obtain ⟨a,b,c,d,e,f⟩:=ih
  refine ⟨⟨⟨trivial,iX h0 h1 h2⟩,a⟩,b,c,d,e,fun i hi=>?_⟩
  obtain ⟨f1,f2⟩:=f i hi
  rw [gl,oh] at f1
  by_cases z:l.toNat=i/\i < n.gates.length
  ·rw [if_pos z] at f1;cases f1
  ·rw [if_neg z] at f1
   refine ⟨f1,fun hm=>?_⟩
   rcases List.mem_cons.mp hm with hm | hm
   ·refine z ⟨by omega,by omega⟩
   ·exact f2 hm
theorem Ho {xs:List Int}{k:Int}(h:0 < xs.length):∃x,x∈xs/\atI (xs.map V.int) (k % (xs.length:Int))=some (.int x):=by
 have h1:=Int.emod_nonneg k (show (xs.length:Int)≠0 by omega)
 have h2:=Int.emod_lt_of_pos k (show 0 < (xs.length:Int) by omega)
 obtain ⟨j,hj⟩:=Int.eq_ofNat_of_zero_le h1
 rw [hj] at h2 ⊢
 have hl:j < xs.length:=by omega
 exact ⟨xs[j],List.getElem_mem hl,lu (by rw [List.getElem?_map,List.getElem?_eq_getElem hl];rfl)⟩
theorem dE.app {α:Type}{P:Addr->α->Prop}{as bs:List Addr}{xs ys:List α}(h:dE P as xs)(k:dE P bs ys):dE P (as++bs) (xs++ys):=by
 refine ⟨by rw [List.length_append,List.length_append,h.1,k.1],fun i a x e1 e2=>?_⟩
 by_cases hi:i < as.length
 ·rw [List.getElem?_append_left hi] at e1
  rw [List.getElem?_append_left (by rw [←h.1];exact hi)] at e2
  exact h.2 i a x e1 e2
 ·rw [List.getElem?_append_right (by omega)] at e1
  rw [List.getElem?_append_right (by rw [←h.1];omega),←h.1] at e2
  exact k.2 _ a x e1 e2
def eT (K:WA)(H:Hp)(as:List Addr)(ds:List Dd):Prop:=dE (fun a d=>SqT K H a (ddV d)) as ds
theorem eT.same {K:WA}{H H':Hp}{as:List Addr}{ds:List Dd}(h:eT K H as ds)(s:aq H H'):eT K H' as ds:=h.imp fun a x q=>s.tup q
theorem Df {g:Cfg}{n:aM}{c l:Int}(hc:c=0\/c=1)(hl:aT g.ds n.place c=some l)(ho:n.gates.getD l.toNat false=true):dM g n=true:=by
 obtain ⟨h0,h1,h2⟩:=cB hl
 unfold dM
 rw [List.any_eq_true]
 refine ⟨l,?_,ho⟩
 unfold iA
 rw [List.mem_map]
 refine ⟨l.toNat,?_,by omega⟩
 rw [List.mem_filter,List.mem_range,decide_eq_true_eq]
 refine ⟨by omega,?_⟩
 rcases hc with rfl | rfl
 ·left;rw [h2,if_pos rfl]
 ·right;rw [h2,if_neg (by decide)]
theorem Hq {g:Cfg}{n:aM}{A:List Dd}{bs:List Int}(hg:fR g)(hn:cZ g n)(hA:okS g n A)(eg:(snD g n A).gates=n.gates)(ep:(snD g n A).place=n.place)(hnd:bs.Pairwise (· < ·))(hb:∀l,l∈bs↔∃c,(c=0\/c=1)/\aT g.ds n.place c=some l) :
  let S:=(bs.filter fun l=>n.gates.getD l.toNat false).map Dd.sht
  okS g n (A++S)/\dM g (snD g n (A++S))=false/\(snD g n (A++S)).e=(snD g n A).e/\∀l∈bs,okS g n (A++S++[.opn l])/\dM g (snD g n (A++S++[.opn l]))=true/\(snD g n (A++S++[.opn l])).e=(snD g n A).e:=by
 intro S
 obtain ⟨h1,h2,h3,h4,h5,h6⟩:=A6 g (bs.filter fun l=>n.gates.getD l.toNat false) (snD g n A) (by rw [eg];exact hn.gl) ((hnd.imp fun h=>by omega).filter _) fun l hl=>by
  rw [List.mem_filter] at hl
  obtain ⟨c,_,hc⟩:=(hb l).mp hl.1
  obtain ⟨z0,z1,_⟩:=cB hc
  exact ⟨⟨z0,z1⟩,by rw [eg];exact hl.2⟩
 have okAS:okS g n (A++S):=zC g _ _ _ hA h1
 have eAS:snD g n (A++S)=snD g (snD g n A) S:=zB g _ _ _
 have shut:∀l∈bs,(snD g n (A++S)).gates.getD l.toNat false=false:=fun l hl=>by
  rw [eAS]
  cases e:(snD g (snD g n A) S).gates.getD l.toNat false with
  | false=>rfl
  | true=>
   obtain ⟨f1,f2⟩:=h6 l.toNat e
   obtain ⟨c,_,hc⟩:=(hb l).mp hl
   obtain ⟨z0,z1,_⟩:=cB hc
   refine absurd ?_ f2
   rw [eg] at f1
   rw [show ((l.toNat:Nat):Int)=l by omega,List.mem_filter]
   exact ⟨hl,f1⟩
 have epl:(snD g n (A++S)).place=n.place:=by rw [eAS,h2,ep]
 refine ⟨okAS,yp hg.sh fun c hc l hl=>shut l ((hb l).mpr ⟨c,hc,by rw [←epl];exact hl⟩),by rw [eAS,h4],fun l hl=>?_⟩
 obtain ⟨c,hc,hcl⟩:=(hb l).mp hl
 obtain ⟨z0,z1,_⟩:=cB hcl
 have sl:=shut l hl
 have eo:snD g n (A++S++[.opn l])=cv g (snD g n (A++S)) (.opn l):=zB g _ _ _
 have glen:(snD g n (A++S)).gates.length=g.ds.length:=by rw [eAS];exact h5
 refine ⟨zC g _ _ _ okAS ⟨⟨trivial,?_⟩,trivial⟩,?_,by rw [eo];show (snD g n (A++S)).e=_;rw [eAS,h4]⟩
 ·show (if unk l g.ds.length then some Rw.lv else if (snD g n (A++S)).gates.getD l.toNat false=true then some .ch else none)=none
  rw [if_neg (fun z=>z ⟨z0,z1⟩),if_neg (by rw [sl];decide)]
 ·rw [eo]
  refine Df hc (by show aT g.ds (snD g n (A++S)).place c=some l;rw [epl];exact hcl) ?_
  show ((snD g n (A++S)).gates.set l.toNat true).getD l.toNat false=true
  rw [oh,if_pos ⟨rfl,by omega⟩]
theorem Hr:∀(l:List Int) (lo hi:Int),lo<=hi->l.Pairwise (· < ·)->(∀x∈l,lo<=x/\x < hi)->(l.length:Int)<=hi - lo
 | [],lo,hi,h,_,_=>by show (0:Int)<=_;omega
 | x::xs,lo,hi,h,hp,hm=>by
  obtain ⟨h1,h2⟩:=List.pairwise_cons.mp hp
  have hx:=hm x List.mem_cons_self
  have:=Hr xs (x+1) hi (by omega) h2 fun y hy=>by have:=h1 y hy;have:=hm y (List.mem_cons_of_mem _ hy);omega
  rw [List.length_cons]
  omega
theorem Dg {K:WA}{l:Addr}{xs:List Int}{tc:TT}{te:TE}{cm:List (Option Nat)}{σ:St}{H:Hp}{Q:VK}{j:Nat}(pr:Int->Bool)(hS:SqL K H l (xs.map V.int))(hn:xs.length<=1000)(hj:(cA cm σ)[j]?=some none)
  (hc:∀x∈xs,∀N:Bool->Hp->Prop,N (pr x) H->tc ((cA cm σ).set j (some (.int x))) H N) (he:∀x∈xs,pr x=true->∀N:VK,N (.int x) H->te ((cA cm σ).set j (some (.int x))) H N)
  (hd:∀p,H p=none->Q (.ref p) (upd H p (.lst ((xs.filter pr).map V.int)))):oF (Itl K l) (et j) tc te cm σ Q H:=by
 refine mI xs.length (fun i acc H'=>H'=H/\acc=((xs.take i).filter pr).map V.int) ⟨rfl,rfl⟩ ?_ ?_ ?_ ?_
 ·rintro i acc H' hi ⟨rfl,_⟩
  exact ⟨_,.int xs[i],hS,by rw [List.getElem?_map,List.getElem?_eq_getElem hi];rfl⟩
 ·rintro acc H' ⟨rfl,_⟩
  exact ⟨_,hS,by rw [WB];exact Nat.le_refl _⟩
 ·rintro i acc H' hi ⟨rfl,rfl⟩
  refine ⟨cy ?_,fun x H2 y M hM=>?_⟩
  ·rw [WB]
   have:=List.length_filter_le pr (xs.take i)
   rw [List.length_take] at this
   omega
  obtain ⟨e,y⟩:=y
  subst e
  have hy:=y _ hS
  rw [List.getElem?_map,List.getElem?_eq_getElem hi] at hy
  cases hy
  have hm:=List.getElem_mem hi
  have ht:((xs.take (i+1)).filter pr).map V.int=((xs.take i).filter pr).map V.int++(if pr xs[i] then [V.int xs[i]] else []):=by
   rw [List.take_succ_eq_append_getElem hi,List.filter_append,List.map_append]
   cases hp:pr xs[i]<;>simp [hp]
  refine ⟨Cv hj,hc _ hm _ ?_⟩
  cases hp:pr xs[i] with
  | true=>
   rw [if_pos rfl]
   refine he _ hm hp _ (hM _ _ ⟨rfl,?_⟩)
   rw [ht,hp];rfl
  | false=>
   rw [if_neg (by decide)]
   refine hM _ _ ⟨rfl,?_⟩
   rw [ht,hp];simp
 ·rintro acc H' ⟨rfl,rfl⟩ p hp
  rw [List.take_length]
  exact hd p hp
section
variable (P:Program)(w:World)(K:WA)(mg:Str->Option Value)(base:Heap)(CX:CXT)(k:Nat)
def KD (x:Str)(sp:Sp):Prop:=∃f fd ps,mg x=some (.ref f)/\W.keepIn K (.ref f)=true/\dQ K fd ps []/\fM P w K mg base CX k f fd ps sp
def KM (C:Addr)(m:Str)(sp:Sp):Prop:=∃f fd ps,Cls K C/\Al K C m f/\dQ K fd ps []/\fM P w K mg base CX k f fd ps sp
def KN (C:Addr)(sp:Sp):Prop:=∃f fd ps,Mk K C f/\dQ K fd ps []/\fM P w K mg base CX k f fd ps sp
def FF (x q:Str)(st:Stmt)(ps:List Str)(sp:Sp):Prop:=∀f fd,Fun K x q st f fd->fM P w K mg base CX k f fd ps sp
end
section
variable {P:Program}{w:World}{K:WA}{mg:Str->Option Value}{base:Heap}{CX:CXT}{k:Nat}{x q m:Str}{st:Stmt}{ps N:List Str}{sp:Sp}{f C:Addr}{fd:FuncData}
theorem KD.mk (b:mg x=some (.ref f))(F:Fun K x q st f fd)(c:dQ K fd ps [])(t:FF P w K mg base CX k x q st ps sp):KD P w K mg base CX k x sp:=⟨f,fd,ps,b,F.kp,c,t f fd F⟩
theorem KM.mk (d:Cls K C)(b:Al K C m f)(F:Fun K m q st f fd)(c:dQ K fd ps [])(t:FF P w K mg base CX k m q st ps sp):KM P w K mg base CX k C m sp:=⟨f,fd,ps,d,b,c,t f fd F⟩
theorem KN.mk (b:Mk K C f)(F:Fun K "__init__" q st f fd)(c:dQ K fd ps [])(t:FF P w K mg base CX k "__init__" q st ps sp):KN P w K mg base CX k C sp:=⟨f,fd,ps,b,c,t f fd F⟩
theorem fk0 (S:ay N ps (aj st))(h:∀vs H Q E,sp vs H Q E->vs.length=ps.length/\∀(cdv:Value) (A:Around) (outer:List Env) (s:Shared) (f:Addr),dH k (A.deeper (envOfC q (aj st) s.heap.objs.size f cdv))->
   ∃t,PSs (oq CX0 P w K mg base N q (aj st) f cdv A outer s H E).nox (bH st) t/\t {nx:=fun _ H'=>Q .non H',rt:=Q} (mh N vs) H):FF P w K mg base CX0 (k+1) x q st ps sp:=
 fun f _ F=>F.ok S (fun vs H Q E y=>(h vs H Q E y).1) fun cdv A outer s H vs Q E hr y=>(h vs H Q E y).2 cdv A outer s f hr
theorem fkF (S:ay N ps (aj st))(h:∀vs H Q E,sp vs H Q E->vs.length=ps.length/\∀(cdv:Value) (A:Around) (outer:List Env) (s:Shared) (f:Addr),dH k (A.deeper (envOfC q (aj st) s.heap.objs.size f cdv))->
   ∃t,PSs (cxF P w K mg base N q (aj st) f cdv A outer s H E) (bH st) t/\t {nx:=fun _ H'=>Q .non H',rt:=Q} (mh N vs) H):FF P w K mg base (CXf P w) (k+1) x q st ps sp:=
 fun f _ F=>F.okF S (fun vs H Q E y=>(h vs H Q E y).1) fun cdv A outer s H vs Q E hr y=>(h vs H Q E y).2 cdv A outer s f hr
theorem FF.calm (F:FF P w K mg base (CXf P w) k x q st ps sp)(h:∀vs H Q E,sp vs H Q E->sp vs H Q E0):FF P w K mg base CX0 k x q st ps sp:=fun f fd y=>(F f fd y).calm h
theorem KM.calm0 (D:KM P w K mg base (CXf P w) k C m sp):KM P w K mg base CX0 k C m (fun vs H Q _=>sp vs H Q E0):=let ⟨f,fd,ps,a,b,c,F⟩:=D;⟨f,fd,ps,a,b,c,F.calm0⟩
end
section
variable {X:Cx}{CX:CXT}{k:Nat}{C:Addr}{sp:Sp}{E:XK}{x m:Str}{p pos apos:Pos}{e o:Expr}{es:List Expr}{ta:TE}{t:TA}
theorem dc (D:KD X.prog X.w X.K X.mg X.base CX k x sp)(hr:dH k X.A)(hx:fN CX X E)(ha:PA X (e::es) t)(hg:Gl X x:=by rfl)(hdb:(x == ("__debug__":Str))=false:=by decide)
  (he:starEach (e::es) X.env=(false,eval e X.env)::starEach es X.env:=by rfl) (hpl:(backTo pos (starEach es X.env)).any (·.1)=false:=by rfl):PE X (.Call (.Name x p) (e::es) [] pos) (Am sp [] E t):=
 let ⟨_,_,_,a,b,c,F⟩:=D;Ik F hr hg a b c .nil hx ha hdb he hpl
theorem dc0 (D:KD X.prog X.w X.K X.mg X.base CX0 k x sp)(hr:dH k X.A)(ha:PA X (e::es) t)(hg:Gl X x:=by rfl)(hdb:(x == ("__debug__":Str))=false:=by decide)
  (he:starEach (e::es) X.env=(false,eval e X.env)::starEach es X.env:=by rfl) (hpl:(backTo pos (starEach es X.env)).any (·.1)=false:=by rfl):PE X (.Call (.Name x p) (e::es) [] pos) (Am sp [] E0 t):=dc D hr aY ha hg hdb he hpl
theorem dm {pl:Sem Bool}(he:PE X o ta)(D:KM X.prog X.w X.K X.mg X.base CX k C m sp)(hr:dH k X.A)(hx:fN CX X E)(ha:PA X (e::es) t)
  (hst:starEach (e::es) X.env=(false,eval e X.env)::starEach es X.env:=by rfl) (hpl:(backTo pos (starEach es X.env)).any (·.1)=false:=by rfl)
  (ht:eval (.Call (.Attribute o m apos) (e::es) [] pos) X.env=(do
   let ov ←eval o X.env
   standAt apos.atName
   let (f,first) ←holding [ov] (getMethod ov m pl)
   callWith pos f first (backTo pos (starEach (e::es) X.env)) (backToKw pos (keywordEach [] X.env))):=by rfl) :
  PE X (.Call (.Attribute o m apos) (e::es) [] pos) (xR C m sp [] E ta t):=let ⟨_,_,_,a,b,c,F⟩:=D;Il he a b F hr c .nil hx ha hst hpl ht
theorem dm0 {pl:Sem Bool}(he:PE X o ta)(D:KM X.prog X.w X.K X.mg X.base CX k C m sp)(hr:dH k X.A)(hx:fN CX X E)
  (ht:eval (.Call (.Attribute o m apos) [] [] pos) X.env=(do
   let ov ←eval o X.env
   standAt apos.atName
   let (f,first) ←holding [ov] (getMethod ov m pl)
   callWith pos f first (backTo pos (starEach [] X.env)) (backToKw pos (keywordEach [] X.env))):=by rfl) :
  PE X (.Call (.Attribute o m apos) [] [] pos) (xR C m sp [] E ta wO):=let ⟨_,_,_,a,b,c,F⟩:=D;FR he a b F hr c .nil hx ht
theorem dn (D:KN X.prog X.w X.K X.mg X.base CX k C sp)(hr:dH (k+1) X.A)(hm:X.mg x=some (.ref C))(hx:fN CX X E)(ha:PA X (e::es) t)(hg:Gl X x:=by rfl)(hdb:(x == ("__debug__":Str))=false:=by decide)
  (he:starEach (e::es) X.env=(false,eval e X.env)::starEach es X.env:=by rfl) (hpl:(backTo pos (starEach es X.env)).any (·.1)=false:=by rfl):PE X (.Call (.Name x p) (e::es) [] pos) (FQ C sp [] E t):=
 let ⟨_,_,_,a,c,F⟩:=D;Im a F hr hg hm c .nil hx ha hdb he hpl
variable {pins:List (Addr×Obj)}{E':XT}
theorem dmT {pl:Sem Bool}(he:PE (Xt X pins E') o ta)(D:KM X.prog X.w X.K X.mg X.base (CXf X.prog X.w) k C m sp)(hr:dH k X.A)(ha:PA (Xt X pins E') (e::es) t)
  (hst:starEach (e::es) X.env=(false,eval e X.env)::starEach es X.env:=by rfl) (hpl:(backTo pos (starEach es X.env)).any (·.1)=false:=by rfl)
  (ht:eval (.Call (.Attribute o m apos) (e::es) [] pos) X.env=(do
   let ov ←eval o X.env
   standAt apos.atName
   let (f,first) ←holding [ov] (getMethod ov m pl)
   callWith pos f first (backTo pos (starEach (e::es) X.env)) (backToKw pos (keywordEach [] X.env))):=by rfl) :
  PE (Xt X pins E') (.Call (.Attribute o m apos) (e::es) [] pos) (CF C m sp [] E' ta t):=let ⟨_,_,_,a,b,c,F⟩:=D;GI he a b F hr c .nil ha hst hpl ht
end
section
variable {X:Cx}{a b e o l value:Expr}{es rR:List Expr}{ta tb te tl tv:TE}{t:TA}{pos p:Pos}{tg:Expr}{f:Str}
theorem pv' (i:Nat){x:Str}{pos:Pos}(hN:X.N[i]?=some x:=by rfl)(hv:Vis X.env.scope x:=by first | exact Or.inl rfl | exact Or.inr (Or.inl rfl) | exact Or.inr (Or.inr rfl))(hd:(x == ("__debug__":Str))=false:=by decide)
  (hcd:(x == ("__classdict__":Str))=false:=by decide):PE X (.Name x pos) (AW i):=I9 i▸pv i hN hv hd hcd
theorem ax (he:PE X e ta)(hb:attributeBase e f X.env (eval e X.env)=eval e X.env:=by rfl):PE X (.Attribute e f pos) (GS X.K ta f):=Jm X.K ta f▸Lj he hb
theorem bP {pos':Pos}(ha:PE X o ta)(hv:PE X value tv)(hs:swapsWith value (some (.Attribute o f pos')) pos.line X.env=pure false):PS X (.Assign [.Attribute o f pos'] value pos) (GU X.K ta tv f):=Jn X.K ta tv f▸Lk ha hv hs
theorem bt:OpR X (binaryOp .Add) (CJ fun i j=>.int (i+j)):=vn _▸Lc
theorem dB:OpR X (binaryOp .Sub) (CJ fun i j=>.int (i - j)):=vn _▸Le
theorem uO:OpR X (binaryOp .Mult) (rI' uT fun i j=>.int (i * j)):=Ef _ _▸B8
theorem Ff:OpR X (binaryOp .FloorDiv) (rI' Kn fun i j=>.int (i / j)):=Ef _ _▸Gf
theorem lE:OpR X (binaryOp .Mod) (rI' (fun _ j=>0 < j) fun i j=>.int (i % j)):=Ef _ _▸FK
theorem JG:OpR X (binaryOp .Pow) (rI' Lb fun i j=>.int (i ^ j.toNat)):=Ef _ _▸Lf
theorem fT:OpR X (compareOp .Eq) (L3):=L4▸Ke
theorem Hs:OpR X (compareOp .Lt) (CJ fun i j=>.bl (decide (i < j))):=vn _▸Kf
theorem Mg:OpR X (compareOp .LtE) (CJ fun i j=>.bl (decide (i<=j))):=vn _▸Kg
theorem Dh:OpR X (compareOp .GtE) (CJ fun i j=>.bl (decide (j<=i))):=vn _▸Kh
theorem lF:OpR X (compareOp .In) (AZ X.K false):=G8 _ _▸EL
theorem gF:OpR X (compareOp .NotIn) (AZ X.K true):=G8 _ _▸y6
theorem lG:OpR X (binaryOp .Add) (G5):=Jr▸Lu
theorem Ht:OpR X (binaryOp .Add) (CV X.K):=G7 _▸IK
theorem A7:OpR X (binaryOp .Add) (CU):=G6▸IU
theorem Hu:OpR X (binaryOp .Mult) (Dc X.K):=Hj _▸IS
theorem JH (hu:X.A.units < cLine):OpR X (compareOp .Eq) (En X.K):=JC _▸LI hu
theorem zD (hu:X.A.units < cLine):OpR X (compareOp .NotEq) (A1 X.K):=JB _▸LU hu
theorem dj:UnR X (unaryOp .USub) (rU' fun i=>.int (-i)):=Nj _▸Lg
theorem av:IxR X (AX X.K):=Jk _▸DO
theorem au:IxR X (qC X.K):=Jl _▸FW
theorem mP:SlR X (G3 X.K):=Jp _▸Ir
theorem Ep:SlR X (G4 X.K):=Jq _▸Ln
theorem iO:K5 X CT:=GZ▸FY
theorem dO:MtM X "list.append" vo:=CN▸EM
theorem zE:MtM X "list.pop" El:=Jt▸Ls
theorem yu:MtM X "list.clear" uN:=E9▸Gc
theorem cx (h:PE X e te)(he:∀cu,isTrue e X.env cu=(do let v ←cu;standAt e.pos;holding [v] (truthy v)):=by intro _;rfl):PT X e (tB' te):=Kx te▸KZ h he
theorem dk {op:CmpOp}{r:R2}(ho:OpR X (compareOp op) r)(ha:PE X a ta)(hb:PE X b tb)(hm:behindInMarks op b=false):PT X (.Compare a [op] [b] pos) (tB' (tOp r ta tb)):=GO (tOp r ta tb)▸iw ho ha hb hm
theorem bQ (ha:PE X a ta)(hb:PE X b tb)(hm:behindInMarks .Eq b=false:=by exact bL _):PT X (.Compare a [.Eq] [b] pos) (Mb ta tb):=Ji ta tb▸iw Ke ha hb hm
theorem tS (ha:PE X a ta)(hb:PE X b tb)(hm:behindInMarks .NotEq b=false:=by exact bL _):PT X (.Compare a [.NotEq] [b] pos) (Mc ta tb):=Jj ta tb▸iw ML ha hb hm
theorem qG (ha:PE X a ta)(hb:PE X b tb)(hm:behindInMarks .Lt b=false:=by exact bL _):PT X (.Compare a [.Lt] [b] pos) (oG (fun i j=>i < j) ta tb):=L5 ta tb▸iw Kf ha hb hm
theorem Nn (ha:PE X a ta)(hb:PE X b tb)(hm:behindInMarks .LtE b=false:=by exact bL _):PT X (.Compare a [.LtE] [b] pos) (oG (fun i j=>i<=j) ta tb):=L6 ta tb▸iw Kg ha hb hm
theorem A8 (ha:PE X a ta)(hb:PE X b tb)(hm:behindInMarks .Gt b=false:=by exact bL _):PT X (.Compare a [.Gt] [b] pos) (oG (fun i j=>j < i) ta tb):=L7 ta tb▸iw MM ha hb hm
theorem A9 (ha:PE X a ta)(hb:PE X b tb)(hm:behindInMarks .GtE b=false:=by exact bL _):PT X (.Compare a [.GtE] [b] pos) (oG (fun i j=>j<=i) ta tb):=L8 ta tb▸iw Kh ha hb hm
theorem zF (ha:PE X a ta)(hb:PE X b (tC .non))(hm:behindInMarks .Is b=false:=by exact bL _):PT X (.Compare a [.Is] [b] pos) (Hh ta):=Hi ta▸iw Lh ha hb hm
theorem JI (ha:PE X a ta)(hb:PE X b (tC .non))(hm:behindInMarks .IsNot b=false:=by exact bL _):PT X (.Compare a [.IsNot] [b] pos) (CZ ta):=Fc ta▸iw Ig ha hb hm
theorem bY {k:Int}(ha:PE X a ta)(hb:PE X b (tC (.int k)))(hk:0 < k:=by decide):PE X (.BinOp a .Mod b pos) (tU1 (fun i=>.int (i % k)) ta):=G0 hk ta (fun i j=>.int (i % j))▸aP FK ha hb
theorem eU {k:Int}(ha:PE X a ta)(hb:PE X b (tC (.int k)))(h1:0 < k:=by decide)(h2:k < 1073741824:=by decide):PE X (.BinOp a .FloorDiv b pos) (tU1 (fun i=>.int (i / k)) ta):=G1 h1 h2 ta (fun i j=>.int (i / j))▸aP Ie ha hb
theorem uP {k:Int}(ha:PE X a ta)(hb:PE X b (tC (.int k)))(h1:-4294967296 < k:=by decide)(h2:k < 4294967296:=by decide):PE X (.BinOp a .Mult b pos) (tU1 (fun i=>.int (i * k)) ta):=G2 h1 h2 ta (fun i j=>.int (i * j))▸aP B8 ha hb
theorem mQ {k:Int}(ha:PE X a (tC (.int k)))(hb:PE X b tb)(h1:-4294967296 < k:=by decide)(h2:k < 4294967296:=by decide):PE X (.BinOp a .Mult b pos) (tU1 (fun i=>.int (k * i)) tb):=E8 h1 h2 tb (fun i j=>.int (i * j))▸aP B8 ha hb
theorem eV {k:Nat}{t:TGs}{n:Nat}(hc:X.calm=true)(h:PGs X es t)(hn:(assignEach es X.env).length=n:=by rfl)(hst:(assignEach es X.env).findIdx? (·.1)=none:=by rfl):PG X (.Tuple es k pos) (oH X.K n t):=Ei X.K n t▸K8 hc h hn hst
theorem zG {k:Nat}{t:TGs}{n:Nat}(hc:X.calm=true)(h:PGs X es t)(hn:(assignEach es X.env).length=n:=by rfl)(hst:(assignEach es X.env).findIdx? (·.1)=none:=by rfl):PG X (.Tuple es k pos) (CL X.K n t):=GP X.K n t▸LR hc h hn hst
theorem aG {t:TG}{u:TGs}(h1:PG X e t)(h2:PGs X es u)(hs:(assignEach (e::es) X.env).map (·.2)=assign e X.env::(assignEach es X.env).map (·.2):=by rfl):PGs X (e::es) (sC t u):=qB t u▸FD h1 h2 hs
theorem cM:PGs X [] Ej:=Ek▸Ia
theorem cT (hl:PE X l tl):PI X tg l (CP X.K tl):=GW X.K tl▸Ib hl
theorem bf (hg:Gl X "range")(hm:X.mg "range"=none)(ha:PA X [a] t)(hs:starEach [a] X.env=[(false,eval a X.env)]:=by rfl):PI X tg (.Call (.Name "range" p) [a] [] pos) (CQ t):=GX t▸EC hg hm ha hs
theorem vq (hg:Gl X "range")(hm:X.mg "range"=none)(ha:PA X [a,b] t)(hs:starEach [a,b] X.env=[(false,eval a X.env),(false,eval b X.env)]:=by rfl)(hs2:starEach [b] X.env=[(false,eval b X.env)]:=by rfl):PI X tg (.Call (.Name "range" p) [a,b] [] pos) (CW t):=G9 t▸ED hg hm ha hs hs2
theorem vt {tpos:Pos}{elts:List Expr}{x1:Nat}(hg:Gl X "enumerate")(hm:X.mg "enumerate"=none)(hb:bootBuiltins "enumerate"=some (.type "enumerate"))(he:PE X a te)(hs:starEach [a] X.env=[(false,eval a X.env)]:=by rfl):PI X (.Tuple elts x1 tpos) (.Call (.Name "enumerate" p) [a] [] pos) (CY X.K te):=Hb X.K te▸IH hg hm hb he hs
theorem JJ {tpos:Pos}{elts:List Expr}{x1:Nat}(hg:Gl X "zip")(hm:X.mg "zip"=none)(hb:bootBuiltins "zip"=some (.type "zip"))(ha:PE X a ta)(hb2:PE X b tb)(hs:starEach [a,b] X.env=[(false,eval a X.env),(false,eval b X.env)]:=by rfl)(hs2:starEach [b] X.env=[(false,eval b X.env)]:=by rfl):PI X (.Tuple elts x1 tpos) (.Call (.Name "zip" p) [a,b] [] pos) (Hc X.K ta tb):=Js X.K ta tb▸LL hg hm hb ha hb2 hs hs2
theorem gG (ha:PE X a ta)(hb:PE X (.BoolOp .And (b::rR) pos) tb):PE X (.BoolOp .And (a::b::rR) pos) (CM ta tb):=GQ ta tb▸K0 ha hb
theorem Es (ha:PE X a ta):PE X (.UnaryOp .Not a pos) (zu ta):=GR ta▸K1 ha
theorem fi (h:PE X e te):PO X (some e) (CO te):=GV te▸Iq h
theorem sM {r r':List V->Hp->VK->Prop}(h:∀t,tCB r t=tCB r' t):r=r':=funext fun vs=>funext fun H=>funext fun Q=>congrFun (congrFun (congrFun (h fun σ H Q=>Q vs H) []) H) Q
theorem aw:ez X (.builtin "len") (GY X.K):=sM (Jo X.K)▸y8
theorem bx:ez X (.type "list") (uM X.K):=sM (CS X.K)▸y9
theorem yv:ez X (.builtin "abs") Ju:=sM Jv▸FN
theorem pD (hc:X.calm=true):ez X (.builtin "min") Hd:=sM He▸EG hc
theorem mR:ez X (.type "tuple") (zx X.K):=sM (Fb X.K)▸wR
theorem gw:ez X (.type "int") Em:=sM Hg▸EH
theorem dm' {CX:CXT}{k:Nat}{C:Addr}{sp:Sp}{E:XK}{m:Str}{apos:Pos}{pl:Sem Bool}(he:PE X o ta)(D:KM X.prog X.w X.K X.mg X.base CX k C m sp)(hr:dH k X.A)(hx:fN CX X E)(ha:PA X (e::es) t)
  (hst:starEach (e::es) X.env=(false,eval e X.env)::starEach es X.env:=by rfl) (hpl:(backTo pos (starEach es X.env)).any (·.1)=false:=by rfl)
  (ht:eval (.Call (.Attribute o m apos) (e::es) [] pos) X.env=(do
   let ov ←eval o X.env
   standAt apos.atName
   let (f,first) ←holding [ov] (getMethod ov m pl)
   callWith pos f first (backTo pos (starEach (e::es) X.env)) (backToKw pos (keywordEach [] X.env))):=by rfl) :
  PE X (.Call (.Attribute o m apos) (e::es) [] pos) (zw C m sp [] E ta t):=AY C m sp [] E ta t▸dm he D hr hx ha hst hpl ht
theorem dw {CX:CXT}{k:Nat}{C:Addr}{sp:Sp}{E:XK}{m:Str}{apos:Pos}{pl:Sem Bool}(he:PE X o ta)(D:KM X.prog X.w X.K X.mg X.base CX k C m sp)(hr:dH k X.A)(hx:fN CX X E)
  (ht:eval (.Call (.Attribute o m apos) [] [] pos) X.env=(do
   let ov ←eval o X.env
   standAt apos.atName
   let (f,first) ←holding [ov] (getMethod ov m pl)
   callWith pos f first (backTo pos (starEach [] X.env)) (backToKw pos (keywordEach [] X.env))):=by rfl) :
  PE X (.Call (.Attribute o m apos) [] [] pos) (zw C m sp [] E ta wO):=AY C m sp [] E ta wO▸dm0 he D hr hx ht
theorem JK {i j:Nat}{x y:Str}{px py pt:Pos}{kt k2 pt2}(hc:X.calm=true)(hN:X.N.Nodup)(hi:X.N[i]?=some x)(hj:X.N[j]?=some y)(hij:i≠j)
  (hx:X.env.scope.names.lookup x=some .local) (hy:X.env.scope.names.lookup y=some .local) (ha:PA X [a,b] t)
  (hw:swappedStores [.Tuple [.Name x px,.Name y py] kt pt] (.Tuple [a,b] k2 pt2) X.env=pure (some [x,y]))
  (hs:swapsWithSole [.Tuple [.Name x px,.Name y py] kt pt] (.Tuple [a,b] k2 pt2) pos.line X.env=pure false:=by rfl) :
  PS X (.Assign [.Tuple [.Name x px,.Name y py] kt pt] (.Tuple [a,b] k2 pt2) pos) (Hk i j t):=JA i j t▸K9 hc hN hi hj hij hx hy ha hw hs
variable {e1 e2 e3 e4:Expr}{t1 t2 t3 t4:TE}
theorem pa1 (h1:PE X e1 t1)(s1:starEach [e1] X.env=(false,eval e1 X.env)::starEach [] X.env:=by rfl):PA X [e1] (kE t1 wO):=cV h1 ff s1
theorem pa2 (h1:PE X e1 t1)(h2:PE X e2 t2)(s1:starEach [e1,e2] X.env=(false,eval e1 X.env)::starEach [e2] X.env:=by rfl)(s2:starEach [e2] X.env=(false,eval e2 X.env)::starEach [] X.env:=by rfl):PA X [e1,e2] (kE t1 (kE t2 wO)):=cV h1 (pa1 h2 s2) s1
theorem pa3 (h1:PE X e1 t1)(h2:PE X e2 t2)(h3:PE X e3 t3)(s1:starEach [e1,e2,e3] X.env=(false,eval e1 X.env)::starEach [e2,e3] X.env:=by rfl)(s2:starEach [e2,e3] X.env=(false,eval e2 X.env)::starEach [e3] X.env:=by rfl)(s3:starEach [e3] X.env=(false,eval e3 X.env)::starEach [] X.env:=by rfl):PA X [e1,e2,e3] (kE t1 (kE t2 (kE t3 wO))):=cV h1 (pa2 h2 h3 s2 s3) s1
theorem pa4 (h1:PE X e1 t1)(h2:PE X e2 t2)(h3:PE X e3 t3)(h4:PE X e4 t4)(s1:starEach [e1,e2,e3,e4] X.env=(false,eval e1 X.env)::starEach [e2,e3,e4] X.env:=by rfl)(s2:starEach [e2,e3,e4] X.env=(false,eval e2 X.env)::starEach [e3,e4] X.env:=by rfl)(s3:starEach [e3,e4] X.env=(false,eval e3 X.env)::starEach [e4] X.env:=by rfl)(s4:starEach [e4] X.env=(false,eval e4 X.env)::starEach [] X.env:=by rfl):PA X [e1,e2,e3,e4] (kE t1 (kE t2 (kE t3 (kE t4 wO)))):=cV h1 (pa3 h2 h3 h4 s2 s3 s4) s1
end
abbrev Xm (K:WA)(a b:Addr)(v:Bool):Prop:=W.exmOne K (.ref a) (.ref b)=some v
abbrev Kt (K:WA)(a b:Addr)(v:Bool):Prop:=W.kitOne K (.ref a) (.ref b)=some v
theorem fgo {K:WA}{H:Hp}{a:Addr}{f:Str}{C:Addr}{dx:Addr}{fs:List (Str×V)}{v:V}{q:V->Prop}(h:H a=some (.ins C dx fs))(c:Cls K C)(n:aX K C f)(l:fs.lookup f=some v)(k:q v) :
  ∃C dx fs,H a=some (.ins C dx fs)/\Cls K C/\aX K C f/\∃v,fs.lookup f=some v/\q v:=⟨_,_,_,h,c,n,_,l,k⟩
theorem mgo {H:Hp}{a C:Addr}{m:Str}{dx:Addr}{fs:List (Str×V)}{q:Prop}(h:H a=some (.ins C dx fs))(l:fs.lookup m=none)(k:q) :
  ∃dx fs,H a=some (.ins C dx fs)/\fs.lookup m=none/\q:=⟨_,_,h,l,k⟩
end L2
namespace K34
open PySem L2
noncomputable abbrev vv:List Str:=["number","many"]
noncomputable abbrev oI:List Str:=["level","many"]
noncomputable abbrev qH:List Str:=["number","many"]
noncomputable abbrev oJ:List Str:=["loads","many"]
noncomputable abbrev tT:List Str:=["self","loads","many"]
noncomputable abbrev tU:List Str:=["self","number","cage"]
noncomputable abbrev vw:List Str:=["self","cage","level"]
noncomputable abbrev qI:List Str:=["self"]
noncomputable abbrev mS:List Str:=["self","cage"]
noncomputable abbrev mn:List Str:=["self","level"]
noncomputable abbrev jF:List Str:=["self"]
noncomputable abbrev tV:List Str:=["self"]
noncomputable abbrev oK:List Str:=["number"]
noncomputable abbrev oM:List Str:=["codes","many"]
noncomputable abbrev qJ:List Str:=["self","codes"]
noncomputable abbrev qK:List Str:=["self","level","strokes"]
noncomputable abbrev mT:List Str:=["self","strokes"]
noncomputable abbrev mU:List Str:=["self"]
noncomputable abbrev qL:List Str:=["self","level"]
noncomputable abbrev qM:List Str:=["self"]
noncomputable abbrev tW:List Str:=["self","level","kind"]
noncomputable abbrev qN:List Str:=["self"]
noncomputable abbrev mV:List Str:=["depths"]
noncomputable abbrev qO:List Str:=["depths"]
noncomputable abbrev oN:List Str:=["depths","place"]
noncomputable abbrev vx:List Str:=["depths","depth"]
noncomputable abbrev oO:List Str:=["depths","cage","level"]
noncomputable abbrev vy:List Str:=["depths","place"]
noncomputable abbrev mW:List Str:=["slow","fast"]
noncomputable abbrev qP:List Str:=["way","speed"]
noncomputable abbrev mq:List Str:=["self","place","opened","bells","yard"]
noncomputable abbrev mr:List Str:=["self"]
noncomputable abbrev tX:List Str:=["self","first","most"]
noncomputable abbrev qQ:List Str:=["self","deed","ticks","speed","standing"]
noncomputable abbrev oP:List Str:=["self"]
noncomputable abbrev vz:List Str:=["self"]
noncomputable abbrev oQ:List Str:=["self"]
noncomputable abbrev tY:List Str:=["self"]
noncomputable abbrev qR:List Str:=["self","depths","codes","slow","fast","loads"]
noncomputable abbrev qS:List Str:=["self","level","strokes"]
noncomputable abbrev mX:List Str:=["self","strokes"]
noncomputable abbrev qT:List Str:=["self","level"]
noncomputable abbrev jG:List Str:=["self","level"]
noncomputable abbrev jH:List Str:=["self","level"]
noncomputable abbrev jI:List Str:=["self","word","level","wanted"]
noncomputable abbrev qU:List Str:=["self","number","cage"]
noncomputable abbrev mY:List Str:=["self","cage"]
noncomputable abbrev qV:List Str:=["self","cage","level","kind"]
noncomputable abbrev jJ:List Str:=["self"]
noncomputable abbrev oR:List Str:=["self","deed","ticks","standing"]
noncomputable abbrev iZ:List Str:=["self","standing"]
noncomputable abbrev kH:List Str:=["self","cage"]
noncomputable abbrev fj:List Str:=["self","level"]
noncomputable abbrev tZ:List Str:=["self"]
noncomputable abbrev qW:List Str:=["self"]
noncomputable abbrev mZ:List Str:=["self"]
noncomputable abbrev qX:List Str:=["self"]
noncomputable abbrev oS:List Str:=["self"]
noncomputable abbrev oU:List Str:=["self"]
noncomputable abbrev ir:List Str:=["self","place"]
noncomputable abbrev oV:List Str:=["self"]
noncomputable abbrev mv:List Str:=["self","cage"]
noncomputable abbrev kI:List Str:=["self","level"]
noncomputable abbrev Hv:List Str:=["_law_script","_law_k"]
noncomputable abbrev Ba:List Str:=["_law_cell","_law_k","_law_span"]
noncomputable abbrev yw:List Str:=["_law_script","_law_k"]
noncomputable abbrev qY:List Str:=["_law_found","_law_due"]
noncomputable abbrev vA:List Str:=["_law_cell"]
noncomputable abbrev yx:List Str:=["_law_cell","_law_many"]
noncomputable abbrev yy:List Str:=["_law_cell","_law_many","_law_most"]
noncomputable abbrev yz:List Str:=["_law_script"]
noncomputable abbrev yA:List Str:=["_law_script","_law_most"]
noncomputable abbrev Bb:List Str:=["_law_setup_here"]
noncomputable abbrev Hw:List Str:=["_law_depths_here","_law_cage","_law_place"]
noncomputable abbrev Bc:List Str:=["_law_row","_law_k","_law_value"]
noncomputable abbrev yB:List Str:=["_law_way","_law_speed_here"]
noncomputable abbrev yC:List Str:=["_law_setup_here","_law_lying"]
noncomputable abbrev yD:List Str:=["_law_setup_here"]
noncomputable abbrev yE:List Str:=["_law_heard_here","_law_deed"]
noncomputable abbrev Be:List Str:=["_law_setup_here","_law_state","_law_deed"]
noncomputable abbrev Bf:List Str:=["_law_works","_law_deed"]
noncomputable abbrev Bg:List Str:=["_law_works","_law_setup_here","_law_states","_law_rows"]
noncomputable abbrev kJ:List Str:=["_law_setup_here","_law_state","_law_rest"]
noncomputable abbrev kK:List Str:=["_law_setup_here","_law_state","_law_rest"]
noncomputable abbrev oW:List Str:=["_law_setup_here","_law_states","_law_cell"]
noncomputable abbrev Bh:List Str:=["_law_works","_law_setup_here","_law_states","_law_rows","_law_deed"]
noncomputable abbrev Et:List Str:=["_law_works","_law_setup_here","_law_script","_law_begin","_law_end"]
noncomputable abbrev Bi:List Str:=["_law_works","_law_cage","_law_level","_law_kind"]
noncomputable abbrev ng:List Str:=["_law_setup_here","_law_state","_law_cell"]
noncomputable abbrev Hx:List Str:=["_law_script"]
noncomputable def top (i:Nat):Stmt:=PySem.Challenge.pw_cagebells_k34_whole_first_refusal.main.body.getD i (.Pass ⟨0,0,0,0⟩)
noncomputable abbrev pE:Stmt:=top 22
theorem Bj:ay ["number","many"] vv (aj pE):=aL
noncomputable abbrev jU:Stmt:=top 23
theorem vB:ay ["level","many"] oI (aj jU):=aL
noncomputable abbrev lH:Stmt:=top 24
theorem xa:ay ["number","many"] qH (aj lH):=aL
noncomputable abbrev jV:Stmt:=top 29
theorem fU:ay ["loads","many","kind","level","goal"] oJ (aj jV):=aL
noncomputable abbrev nh:Stmt:=aO (top 30) 0
theorem zH:ay ["self","loads","many"] tT (aj nh):=aL
noncomputable abbrev ni:Stmt:=aO (top 30) 1
theorem zI:ay ["self","number","cage"] tU (aj ni):=aL
noncomputable abbrev pF:Stmt:=aO (top 30) 2
theorem t6:ay ["self","cage","level","number"] vw (aj pF):=aL
noncomputable abbrev lI:Stmt:=aO (top 30) 3
theorem xb:ay ["self"] qI (aj lI):=aL
noncomputable abbrev i3:Stmt:=aO (top 30) 4
theorem gS:ay ["self","cage","number","spot"] mS (aj i3):=aL
noncomputable abbrev gT:Stmt:=aO (top 30) 5
theorem sN:ay ["self","level"] mn (aj gT):=aL
noncomputable abbrev fV:Stmt:=aO (top 30) 6
theorem fB:ay ["self","kind","spot"] jF (aj fV):=aL
noncomputable abbrev nj:Stmt:=aO (top 30) 7
theorem qZ:ay ["self","other"] tV (aj nj):=aL
noncomputable abbrev jW:Stmt:=top 34
theorem vC:ay ["number"] oK (aj jW):=aL
noncomputable abbrev jX:Stmt:=top 35
theorem i4:ay ["codes","many","men","coal"] oM (aj jX):=aL
noncomputable abbrev lJ:Stmt:=aO (top 36) 0
theorem xc:ay ["self","codes"] qJ (aj lJ):=aL
noncomputable abbrev lK:Stmt:=aO (top 36) 1
theorem xf:ay ["self","level","strokes"] qK (aj lK):=aL
noncomputable abbrev i5:Stmt:=aO (top 36) 2
theorem fz:ay ["self","strokes","level","rung","alike"] mT (aj i5):=aL
noncomputable abbrev i6:Stmt:=aO (top 36) 3
theorem uq:ay ["self"] mU (aj i6):=aL
noncomputable abbrev lL:Stmt:=aO (top 36) 4
theorem xg:ay ["self","level"] qL (aj lL):=aL
noncomputable abbrev lM:Stmt:=aO (top 36) 5
theorem xh:ay ["self"] qM (aj lM):=aL
noncomputable abbrev nq:Stmt:=aO (top 36) 6
theorem rd:ay ["self","level","kind","code"] tW (aj nq):=aL
noncomputable abbrev lO:Stmt:=aO (top 36) 7
theorem oX:ay ["self","other"] qN (aj lO):=aL
noncomputable abbrev i7:Stmt:=top 41
theorem gU:ay ["depths","depth","level"] mV (aj i7):=aL
noncomputable abbrev lP:Stmt:=top 42
theorem xi:ay ["depths"] qO (aj lP):=aL
noncomputable abbrev jY:Stmt:=top 43
theorem vD:ay ["depths","place"] oN (aj jY):=aL
noncomputable abbrev pG:Stmt:=top 44
theorem t8:ay ["depths","depth","level"] vx (aj pG):=aL
noncomputable abbrev jZ:Stmt:=top 45
theorem vE:ay ["depths","cage","level"] oO (aj jZ):=aL
noncomputable abbrev pH:Stmt:=top 46
theorem t9:ay ["depths","place","stands"] vy (aj pH):=aL
noncomputable abbrev i8:Stmt:=top 49
theorem ur:ay ["slow","fast"] mW (aj i8):=aL
noncomputable abbrev lQ:Stmt:=top 50
theorem xj:ay ["way","speed"] qP (aj lQ):=aL
noncomputable abbrev gV:Stmt:=aO (top 52) 0
theorem sO:ay ["self","place","opened","bells","yard"] mq (aj gV):=aL
noncomputable abbrev gW:Stmt:=aO (top 52) 1
theorem sP:ay ["self"] mr (aj gW):=aL
noncomputable abbrev nu:Stmt:=aO (top 53) 0
theorem zJ:ay ["self","first","most"] tX (aj nu):=aL
noncomputable abbrev lR:Stmt:=aO (top 53) 1
theorem oY:ay ["self","deed","ticks","speed","standing","began"] qQ (aj lR):=aL
noncomputable abbrev j0:Stmt:=aO (top 53) 2
theorem vF:ay ["self"] oP (aj j0):=aL
noncomputable abbrev pI:Stmt:=aO (top 53) 3
theorem Bk:ay ["self"] vz (aj pI):=aL
noncomputable abbrev j1:Stmt:=aO (top 53) 4
theorem vG:ay ["self"] oQ (aj j1):=aL
noncomputable abbrev nv:Stmt:=aO (top 53) 5
theorem zK:ay ["self"] tY (aj nv):=aL
noncomputable abbrev lS:Stmt:=aO (top 56) 0
theorem j4:ay ["self","depths","codes","slow","fast","loads","shut","first"] qR (aj lS):=aL
noncomputable abbrev lT:Stmt:=aO (top 56) 1
theorem oZ:ay ["self","level","strokes","standing"] qS (aj lT):=aL
noncomputable abbrev i9:Stmt:=aO (top 56) 2
theorem gX:ay ["self","strokes","standing","answer"] mX (aj i9):=aL
noncomputable abbrev lU:Stmt:=aO (top 56) 3
theorem o6:ay ["self","level","standing"] qT (aj lU):=aL
noncomputable abbrev fW:Stmt:=aO (top 56) 4
theorem pJ:ay ["self","level"] jG (aj fW):=aL
noncomputable abbrev fX:Stmt:=aO (top 56) 5
theorem pK:ay ["self","level"] jH (aj fX):=aL
noncomputable abbrev fY:Stmt:=aO (top 56) 6
theorem ja:ay ["self","word","level","wanted","standing"] jI (aj fY):=aL
noncomputable abbrev lV:Stmt:=aO (top 56) 7
theorem j5:ay ["self","number","cage","standing","level"] qU (aj lV):=aL
noncomputable abbrev jb:Stmt:=aO (top 56) 8
theorem gY:ay ["self","cage","standing","level"] mY (aj jb):=aL
noncomputable abbrev lW:Stmt:=aO (top 56) 9
theorem fm:ay ["self","cage","level","kind","standing","gate","end","ticks"] qV (aj lW):=aL
noncomputable abbrev fZ:Stmt:=aO (top 56) 10
theorem pL:ay ["self"] jJ (aj fZ):=aL
noncomputable abbrev j6:Stmt:=aO (top 56) 11
theorem vH:ay ["self","deed","ticks","standing"] oR (aj j6):=aL
noncomputable abbrev fC:Stmt:=aO (top 56) 12
theorem ou:ay ["self","standing"] iZ (aj fC):=aL
noncomputable abbrev gx:Stmt:=aO (top 56) 13
theorem rf:ay ["self","cage"] kH (aj gx):=aL
noncomputable abbrev dz:Stmt:=aO (top 56) 14
theorem jw:ay ["self","level"] fj (aj dz):=aL
noncomputable abbrev ny:Stmt:=aO (top 56) 15
theorem zL:ay ["self"] tZ (aj ny):=aL
noncomputable abbrev lX:Stmt:=aO (top 56) 16
theorem xk:ay ["self"] qW (aj lX):=aL
noncomputable abbrev jc:Stmt:=aO (top 56) 18
theorem uu:ay ["self"] mZ (aj jc):=aL
noncomputable abbrev lY:Stmt:=aO (top 56) 19
theorem xl:ay ["self"] qX (aj lY):=aL
noncomputable abbrev j7:Stmt:=aO (top 56) 20
theorem vI:ay ["self"] oS (aj j7):=aL
noncomputable abbrev j8:Stmt:=aO (top 56) 21
theorem vJ:ay ["self"] oU (aj j8):=aL
noncomputable abbrev fg:Stmt:=aO (top 56) 23
theorem nA:ay ["self","place"] ir (aj fg):=aL
noncomputable abbrev j9:Stmt:=aO (top 56) 24
theorem vK:ay ["self"] oV (aj j9):=aL
noncomputable abbrev gZ:Stmt:=aO (top 56) 26
theorem sQ:ay ["self","cage"] mv (aj gZ):=aL
noncomputable abbrev gy:Stmt:=aO (top 56) 27
theorem rg:ay ["self","level"] kI (aj gy):=aL
noncomputable abbrev Di:Stmt:=top 58
theorem JL:ay ["_law_script","_law_k"] Hv (aj Di):=aL
noncomputable abbrev vL:Stmt:=top 59
theorem kL:ay ["_law_cell","_law_k","_law_span","_law_rest","_law_turn","_law_one"] Ba (aj vL):=aL
noncomputable abbrev sR:Stmt:=top 60
theorem pM:ay ["_law_script","_law_k","_law_cell","_law_one"] yw (aj sR):=aL
noncomputable abbrev nB:Stmt:=top 61
theorem sS:ay ["_law_found","_law_due","_law_alike","_law_k"] qY (aj nB):=aL
noncomputable abbrev pN:Stmt:=top 62
theorem cP:ay ["_law_cell","_law_many","_law_shape","_law_gap","_law_made_here","_law_last","_law_k","_law_span"] vA (aj pN):=aL
noncomputable abbrev sT:Stmt:=top 63
theorem lZ:ay ["_law_cell","_law_many","_law_made_here","_law_k","_law_men"] yx (aj sT):=aL
noncomputable abbrev sU:Stmt:=top 64
theorem jd:ay ["_law_cell","_law_many","_law_most","_law_made_here","_law_count","_law_k","_law_kind"] yy (aj sU):=aL
noncomputable abbrev kM:Stmt:=top 65
theorem fD:ay ["_law_script","_law_depths_here","_law_codes_here","_law_cell","_law_slow","_law_fast"] yz (aj kM):=aL
noncomputable abbrev sV:Stmt:=top 66
theorem je:ay ["_law_script","_law_most","_law_depths_here","_law_codes_here","_law_slow","_law_fast"] yA (aj sV):=aL
noncomputable abbrev vM:Stmt:=top 67
theorem fL:ay ["_law_setup_here","_law_depths_here","_law_codes_here","_law_slow","_law_fast","_law_loads_here","_law_handed","_law_works"] Bb (aj vM):=aL
noncomputable abbrev Dj:Stmt:=top 68
theorem zM:ay ["_law_depths_here","_law_cage","_law_place","_law_deep","_law_k"] Hw (aj Dj):=aL
noncomputable abbrev vN:Stmt:=top 69
theorem Fg:ay ["_law_row","_law_k","_law_value"] Bc (aj vN):=aL
noncomputable abbrev sW:Stmt:=top 70
theorem pO:ay ["_law_way","_law_speed_here","_law_ticks"] yB (aj sW):=aL
noncomputable abbrev sX:Stmt:=top 71
theorem vO:ay ["_law_setup_here","_law_lying","_law_k"] yC (aj sX):=aL
noncomputable abbrev sY:Stmt:=top 72
theorem pP:ay ["_law_setup_here","_law_many","_law_lying"] yD (aj sY):=aL
noncomputable abbrev sZ:Stmt:=top 73
theorem vP:ay ["_law_heard_here","_law_deed","_law_word"] yE (aj sZ):=aL
noncomputable abbrev vQ:Stmt:=top 74
theorem bT:ay ["_law_setup_here","_law_state","_law_deed","_law_place","_law_gates","_law_lying","_law_heard_here","_law_dead","_law_clock","_law_ended","_law_level","_law_deep","_law_goal"] Be (aj vQ):=aL
noncomputable abbrev vR:Stmt:=top 75
theorem Fh:ay ["_law_works","_law_deed"] Bf (aj vR):=aL
noncomputable abbrev jf:Stmt:=top 76
theorem de:ay ["_law_works","_law_setup_here","_law_states","_law_rows","_law_place","_law_gates","_law_lying","_law_heard_here","_law_dead","_law_clock","_law_held","_law_k","_law_waits","_law_due","_law_found"] Bg (aj jf):=aL
noncomputable abbrev gz:Stmt:=top 77
theorem bR:ay ["_law_setup_here","_law_state","_law_rest","_law_depths_here","_law_codes_here","_law_heard_here","_law_live","_law_level","_law_cage","_law_kind"] kJ (aj gz):=aL
noncomputable abbrev dF:Stmt:=top 78
theorem cI:ay ["_law_setup_here","_law_state","_law_rest","_law_cage","_law_level","_law_waits"] kK (aj dF):=aL
noncomputable abbrev bV:Stmt:=top 79
theorem gf:ay ["_law_setup_here","_law_states","_law_cell","_law_state","_law_rest","_law_level"] oW (aj bV):=aL
noncomputable abbrev vS:Stmt:=top 80
theorem td:ay ["_law_works","_law_setup_here","_law_states","_law_rows","_law_deed","_law_told","_law_heard_here"] Bh (aj vS):=aL
noncomputable abbrev zN:Stmt:=top 81
theorem nC:ay ["_law_works","_law_setup_here","_law_script","_law_begin","_law_end","_law_states","_law_rows","_law_k","_law_deed"] Et (aj zN):=aL
noncomputable abbrev vT:Stmt:=top 82
theorem oj:ay ["_law_works","_law_cage","_law_level","_law_kind","_law_hit","e"] Bi (aj vT):=aL
noncomputable abbrev eN:Stmt:=top 83
theorem aR:ay ["_law_setup_here","_law_state","_law_cell","_law_place","_law_gates","_law_lying","_law_heard_here","_law_dead","_law_clock","_law_made_here","_law_live","_law_level","_law_code","_law_by_here"] ng (aj eN):=aL
noncomputable abbrev vU:Stmt:=top 84
theorem dZ:ay ["_law_script","_law_setup_here","_law_works","_law_played","_law_states","_law_rows","_law_cell","_law_deed","_law_many","_law_heard_here","_law_level","_law_cage","_law_side","_law_known","_law_wide","_law_armed","_law_due"] Hx (aj vU):=aL
structure Adr where
 aF:Addr
 cE:Addr
 gg:Addr
 eO:Addr
 dW:Addr
 dX:Addr
 gh:Addr
 fq:Addr
 g0:Addr
 cQ:Addr
 dG:Addr
 aZ:Addr
 eW:Addr
 eX:Addr
 eP:Addr
 dq:Addr
 bj:Addr
 eQ:Addr
 bM:Addr
 eY:Addr
 bF:Addr
 dU:Addr
 ow:Addr
 bq:Addr
 zO:Addr
 rh:Addr
structure Txt (P:Program)(w:World)(K:WA)(mg:Str->Option Value)(base:Heap)(Z:Adr):Prop where
 bN:mg "len"=none
 eh:mg "list"=none
 nD:mg "enumerate"=none
 Np:mg "zip"=none
 cq:mg "range"=none
 KA:mg "abs"=none
 bZ:mg "isinstance"=none
 rj:mg "tuple"=none
 ua:mg "int"=none
 KC:mg "str"=none
 Hy:mg "bool"=none
 Hz:mg "min"=none
 Bl:mg "sorted"=none
 Nq:mg "set"=none
 zP:∃u,mg "MOST_LOADS"=some u/\bK (.int 30) u
 tf:∃u,mg "FEWEST_STROKES"=some u/\bK (.int 1) u
 vV:∃u,mg "MOST_STROKES"=some u/\bK (.int 9) u
 uv:∃u,mg "FEWEST_LEVELS"=some u/\bK (.int 2) u
 xm:∃u,mg "MOST_LEVELS"=some u/\bK (.int 6) u
 tj:∃u,mg "GREATEST_DEPTH"=some u/\bK (.int 500) u
 tu:∃u,mg "GREATEST_SPEED"=some u/\bK (.int 500) u
 zQ:∃u,mg "MOST_DEEDS"=some u/\bK (.int 300) u
 JM:∃u,mg "KINDS"=some u/\bK (.ref Z.zO) u
 JN:∀H,SqT K H Z.zO [.str "men",.str "coal"]
 JO:∃o,K.lookup Z.zO=some o/\o.cls=.type "tuple"/\o.dict=none
 iC:∃u,mg "CAGE_SPOTS"=some u/\bK (.ref Z.rh) u
 iD:∀H,SqT K H Z.rh [.int 10,.int 11]
 nE:mg "UnknownLevel"=some (.ref Z.aF)
 xn:mg "UnknownLoad"=some (.ref Z.cE)
 vW:mg "BadLoads"=some (.ref Z.gg)
 pQ:mg "NotThere"=some (.ref Z.eO)
 Bm:mg "CageTaken"=some (.ref Z.dW)
 ub:mg "CageEmpty"=some (.ref Z.dX)
 pR:mg "BadCodes"=some (.ref Z.gh)
 Dk:mg "DeadBell"=some (.ref Z.fq)
 Bn:mg "NoCode"=some (.ref Z.g0)
 xo:mg "NothingRung"=some (.ref Z.cQ)
 vX:mg "NoChange"=some (.ref Z.dG)
 vY:mg "NotArmed"=some (.ref Z.aZ)
 nF:mg "BadDepths"=some (.ref Z.eW)
 Bo:mg "BadSpeeds"=some (.ref Z.eX)
 Dl:mg "BookFull"=some (.ref Z.eP)
 xp:mg "NothingDone"=some (.ref Z.dq)
 vZ:mg "GateOpen"=some (.ref Z.bj)
 Dm:mg "GateShut"=some (.ref Z.eQ)
 Bp:mg "CageError"=some (.ref Z.bM)
 HJ:mg "Yard"=some (.ref Z.eY)
 Eu:mg "Bells"=some (.ref Z.bF)
 v3:mg "Standing"=some (.ref Z.dU)
 Mh:mg "Book"=some (.ref Z.ow)
 JP:mg "Works"=some (.ref Z.bq)
 cN:Cls K Z.eY
 gH:aX K Z.eY "kinds"
 bW:aX K Z.eY "where"
 iE:aX K Z.eY "many"
 bB:Cls K Z.bF
 cU:aX K Z.bF "codes"
 cK:aX K Z.bF "failed"
 bD:aX K Z.bF "state"
 aK:Cls K Z.dU
 cJ:aX K Z.dU "place"
 ck:aX K Z.dU "opened"
 bS:aX K Z.dU "bells"
 bE:aX K Z.dU "yard"
 dC:Cls K Z.ow
 o7:aX K Z.ow "first"
 rk:aX K Z.ow "most"
 cb:aX K Z.ow "rows"
 aV:Cls K Z.bq
 cL:aX K Z.bq "depths"
 o8:aX K Z.bq "slow"
 pe:aX K Z.bq "fast"
 nG:aX K Z.bq "goals"
 aS:aX K Z.bq "log"
 v5:ExC K Z.aF
 jg:ExI K Z.aF
 ka:Xm K Z.aF Z.bM true
 iF:Kt K Z.aF Z.aF true
 kO:Kt K Z.aF Z.bj false
 kP:Kt K Z.aF Z.aZ false
 xq:ExC K Z.cE
 HS:ExI K Z.cE
 yF:Xm K Z.cE Z.bM true
 v7:Kt K Z.cE Z.aF false
 zS:Kt K Z.cE Z.bj false
 zT:Kt K Z.cE Z.aZ false
 v8:ExC K Z.gg
 Mi:ExI K Z.gg
 Bq:Xm K Z.gg Z.bM true
 yG:Kt K Z.gg Z.aF false
 BS:Kt K Z.gg Z.bj false
 BU:Kt K Z.gg Z.aZ false
 pS:ExC K Z.eO
 Mj:ExI K Z.eO
 Br:Xm K Z.eO Z.bM true
 yH:Kt K Z.eO Z.aF false
 BV:Kt K Z.eO Z.bj false
 BW:Kt K Z.eO Z.aZ false
 Bs:ExC K Z.dW
 KG:ExI K Z.dW
 Ac:Xm K Z.dW Z.bM true
 xr:Kt K Z.dW Z.aF false
 Bt:Kt K Z.dW Z.bj false
 Bu:Kt K Z.dW Z.aZ false
 uc:ExC K Z.dX
 KH:ExI K Z.dX
 Ad:Xm K Z.dX Z.bM true
 xt:Kt K Z.dX Z.aF false
 Bv:Kt K Z.dX Z.bj false
 Bw:Kt K Z.dX Z.aZ false
 pT:ExC K Z.gh
 Ml:ExI K Z.gh
 Bx:Xm K Z.gh Z.bM true
 yI:Kt K Z.gh Z.aF false
 BX:Kt K Z.gh Z.bj false
 BY:Kt K Z.gh Z.aZ false
 Dn:ExC K Z.fq
 Mm:ExI K Z.fq
 By:Xm K Z.fq Z.bM true
 yJ:Kt K Z.fq Z.aF false
 BZ:Kt K Z.fq Z.bj false
 B0:Kt K Z.fq Z.aZ false
 Bz:ExC K Z.g0
 Nr:ExI K Z.g0
 Dp:Xm K Z.g0 Z.bM true
 Ae:Kt K Z.g0 Z.aF false
 Ew:Kt K Z.g0 Z.bj false
 Ex:Kt K Z.g0 Z.aZ false
 xu:ExC K Z.cQ
 HU:ExI K Z.cQ
 yK:Xm K Z.cQ Z.bM true
 v9:Kt K Z.cQ Z.aF false
 zU:Kt K Z.cQ Z.bj false
 zV:Kt K Z.cQ Z.aZ false
 wa:ExC K Z.dG
 Mn:ExI K Z.dG
 BA:Xm K Z.dG Z.bM true
 yL:Kt K Z.dG Z.aF false
 B1:Kt K Z.dG Z.bj false
 B2:Kt K Z.dG Z.aZ false
 Dq:ExC K Z.aZ
 pU:ExI K Z.aZ
 nH:Xm K Z.aZ Z.bM true
 kQ:Kt K Z.aZ Z.aF false
 ox:Kt K Z.aZ Z.bj false
 oy:Kt K Z.aZ Z.aZ true
 nI:ExC K Z.eW
 KJ:ExI K Z.eW
 Af:Xm K Z.eW Z.bM true
 xv:Kt K Z.eW Z.aF false
 BB:Kt K Z.eW Z.bj false
 BC:Kt K Z.eW Z.aZ false
 BD:ExC K Z.eX
 KL:ExI K Z.eX
 Ag:Xm K Z.eX Z.bM true
 xw:Kt K Z.eX Z.aF false
 BE:Kt K Z.eX Z.bj false
 BF:Kt K Z.eX Z.aZ false
 Dr:ExC K Z.eP
 Mo:ExI K Z.eP
 BG:Xm K Z.eP Z.bM true
 yM:Kt K Z.eP Z.aF false
 B3:Kt K Z.eP Z.bj false
 B4:Kt K Z.eP Z.aZ false
 xx:ExC K Z.dq
 HW:ExI K Z.dq
 yN:Xm K Z.dq Z.bM true
 wc:Kt K Z.dq Z.aF false
 zW:Kt K Z.dq Z.bj false
 zX:Kt K Z.dq Z.aZ false
 Ds:ExC K Z.bj
 pV:ExI K Z.bj
 nJ:Xm K Z.bj Z.bM true
 kR:Kt K Z.bj Z.aF false
 oz:Kt K Z.bj Z.bj true
 oA:Kt K Z.bj Z.aZ false
 Du:ExC K Z.eQ
 Mp:ExI K Z.eQ
 BH:Xm K Z.eQ Z.bM true
 yO:Kt K Z.eQ Z.aF false
 B5:Kt K Z.eQ Z.bj false
 B6:Kt K Z.eQ Z.aZ false
structure KO (K:WA)(C0 C1 C2 C3 C4 C5 C6 C7 C8 C9 C10 C11 C12 C13 C14 C15 C16 C17 C18 C19 C20 C21 C22 C23:Addr)(ta_KINDS:Addr)(tk_KINDS_0 tk_KINDS_1:Tok)(tn_KINDS:Nat)(ts_KINDS:Array (Option Value))(ta_CAGE_SPOTS:Addr)(tk_CAGE_SPOTS_0 tk_CAGE_SPOTS_1:Tok)(to_CAGE_SPOTS:Option Addr)(tn_CAGE_SPOTS:Nat)(ts_CAGE_SPOTS:Array (Option Value)):Prop where
 z_len:W.nsIn K mainGlobals "len"=some none
 z_list:W.nsIn K mainGlobals "list"=some none
 z_enumerate:W.nsIn K mainGlobals "enumerate"=some none
 z_zip:W.nsIn K mainGlobals "zip"=some none
 z_range:W.nsIn K mainGlobals "range"=some none
 z_abs:W.nsIn K mainGlobals "abs"=some none
 z_isinstance:W.nsIn K mainGlobals "isinstance"=some none
 z_tuple:W.nsIn K mainGlobals "tuple"=some none
 z_int:W.nsIn K mainGlobals "int"=some none
 z_str:W.nsIn K mainGlobals "str"=some none
 z_bool:W.nsIn K mainGlobals "bool"=some none
 z_min:W.nsIn K mainGlobals "min"=some none
 z_sorted:W.nsIn K mainGlobals "sorted"=some none
 z_set:W.nsIn K mainGlobals "set"=some none
 m0:NI K "UnknownLevel" C0
 m1:NI K "UnknownLoad" C1
 m2:NI K "BadLoads" C2
 m3:NI K "NotThere" C3
 m4:NI K "CageTaken" C4
 m5:NI K "CageEmpty" C5
 m6:NI K "BadCodes" C6
 m7:NI K "DeadBell" C7
 m8:NI K "NoCode" C8
 m9:NI K "NothingRung" C9
 m10:NI K "NoChange" C10
 m11:NI K "NotArmed" C11
 m12:NI K "BadDepths" C12
 m13:NI K "BadSpeeds" C13
 m14:NI K "BookFull" C14
 m15:NI K "NothingDone" C15
 m16:NI K "GateOpen" C16
 m17:NI K "GateShut" C17
 m18:NI K "CageError" C18
 m19:NI K "Yard" C19
 m20:NI K "Bells" C20
 m21:NI K "Standing" C21
 m22:NI K "Book" C22
 m23:NI K "Works" C23
 n_MOST_LOADS:KI K "MOST_LOADS" 30
 n_FEWEST_STROKES:KI K "FEWEST_STROKES" 1
 n_MOST_STROKES:KI K "MOST_STROKES" 9
 n_FEWEST_LEVELS:KI K "FEWEST_LEVELS" 2
 n_MOST_LEVELS:KI K "MOST_LEVELS" 6
 n_GREATEST_DEPTH:KI K "GREATEST_DEPTH" 500
 n_GREATEST_SPEED:KI K "GREATEST_SPEED" 500
 n_MOST_DEEDS:KI K "MOST_DEEDS" 300
 n_KINDS:W.nsIn K mainGlobals "KINDS"=some (some (.ref ta_KINDS))
 lt_KINDS:K.lookup ta_KINDS=some ⟨.type "tuple",none,.seq #[.str "men" tk_KINDS_0,.str "coal" tk_KINDS_1] tn_KINDS,ts_KINDS⟩
 n_CAGE_SPOTS:W.nsIn K mainGlobals "CAGE_SPOTS"=some (some (.ref ta_CAGE_SPOTS))
 lt_CAGE_SPOTS:K.lookup ta_CAGE_SPOTS=some ⟨.type "tuple",to_CAGE_SPOTS,.seq #[.int 10 tk_CAGE_SPOTS_0,.int 11 tk_CAGE_SPOTS_1] tn_CAGE_SPOTS,ts_CAGE_SPOTS⟩
 cl19:Cls K C19
 na19_kinds:aX K C19 "kinds"
 na19_where:aX K C19 "where"
 na19_many:aX K C19 "many"
 cl20:Cls K C20
 na20_codes:aX K C20 "codes"
 na20_failed:aX K C20 "failed"
 na20_state:aX K C20 "state"
 cl21:Cls K C21
 na21_place:aX K C21 "place"
 na21_opened:aX K C21 "opened"
 na21_bells:aX K C21 "bells"
 na21_yard:aX K C21 "yard"
 cl22:Cls K C22
 na22_first:aX K C22 "first"
 na22_most:aX K C22 "most"
 na22_rows:aX K C22 "rows"
 cl23:Cls K C23
 na23_depths:aX K C23 "depths"
 na23_slow:aX K C23 "slow"
 na23_fast:aX K C23 "fast"
 na23_goals:aX K C23 "goals"
 na23_log:aX K C23 "log"
 l0:C0I K C18
 x0:XI K C18 C0
 x1:XI K C18 C1
 x2:XI K C18 C2
 x3:XI K C18 C3
 x4:XI K C18 C4
 x5:XI K C18 C5
 x6:XI K C18 C6
 x7:XI K C18 C7
 x8:XI K C18 C8
 x9:XI K C18 C9
 x10:XI K C18 C10
 x11:XI K C18 C11
 x12:XI K C18 C12
 x13:XI K C18 C13
 x14:XI K C18 C14
 x15:XI K C18 C15
 x16:XI K C18 C16
 x17:XI K C18 C17
 e0_CageError:Xm K C0 C18 true
 k0_UnknownLevel:Kt K C0 C0 true
 k0_GateOpen:Kt K C0 C16 false
 k0_NotArmed:Kt K C0 C11 false
 e1_CageError:Xm K C1 C18 true
 k1_UnknownLevel:Kt K C1 C0 false
 k1_GateOpen:Kt K C1 C16 false
 k1_NotArmed:Kt K C1 C11 false
 e2_CageError:Xm K C2 C18 true
 k2_UnknownLevel:Kt K C2 C0 false
 k2_GateOpen:Kt K C2 C16 false
 k2_NotArmed:Kt K C2 C11 false
 e3_CageError:Xm K C3 C18 true
 k3_UnknownLevel:Kt K C3 C0 false
 k3_GateOpen:Kt K C3 C16 false
 k3_NotArmed:Kt K C3 C11 false
 e4_CageError:Xm K C4 C18 true
 k4_UnknownLevel:Kt K C4 C0 false
 k4_GateOpen:Kt K C4 C16 false
 k4_NotArmed:Kt K C4 C11 false
 e5_CageError:Xm K C5 C18 true
 k5_UnknownLevel:Kt K C5 C0 false
 k5_GateOpen:Kt K C5 C16 false
 k5_NotArmed:Kt K C5 C11 false
 e6_CageError:Xm K C6 C18 true
 k6_UnknownLevel:Kt K C6 C0 false
 k6_GateOpen:Kt K C6 C16 false
 k6_NotArmed:Kt K C6 C11 false
 e7_CageError:Xm K C7 C18 true
 k7_UnknownLevel:Kt K C7 C0 false
 k7_GateOpen:Kt K C7 C16 false
 k7_NotArmed:Kt K C7 C11 false
 e8_CageError:Xm K C8 C18 true
 k8_UnknownLevel:Kt K C8 C0 false
 k8_GateOpen:Kt K C8 C16 false
 k8_NotArmed:Kt K C8 C11 false
 e9_CageError:Xm K C9 C18 true
 k9_UnknownLevel:Kt K C9 C0 false
 k9_GateOpen:Kt K C9 C16 false
 k9_NotArmed:Kt K C9 C11 false
 e10_CageError:Xm K C10 C18 true
 k10_UnknownLevel:Kt K C10 C0 false
 k10_GateOpen:Kt K C10 C16 false
 k10_NotArmed:Kt K C10 C11 false
 e11_CageError:Xm K C11 C18 true
 k11_UnknownLevel:Kt K C11 C0 false
 k11_GateOpen:Kt K C11 C16 false
 k11_NotArmed:Kt K C11 C11 true
 e12_CageError:Xm K C12 C18 true
 k12_UnknownLevel:Kt K C12 C0 false
 k12_GateOpen:Kt K C12 C16 false
 k12_NotArmed:Kt K C12 C11 false
 e13_CageError:Xm K C13 C18 true
 k13_UnknownLevel:Kt K C13 C0 false
 k13_GateOpen:Kt K C13 C16 false
 k13_NotArmed:Kt K C13 C11 false
 e14_CageError:Xm K C14 C18 true
 k14_UnknownLevel:Kt K C14 C0 false
 k14_GateOpen:Kt K C14 C16 false
 k14_NotArmed:Kt K C14 C11 false
 e15_CageError:Xm K C15 C18 true
 k15_UnknownLevel:Kt K C15 C0 false
 k15_GateOpen:Kt K C15 C16 false
 k15_NotArmed:Kt K C15 C11 false
 e16_CageError:Xm K C16 C18 true
 k16_UnknownLevel:Kt K C16 C0 false
 k16_GateOpen:Kt K C16 C16 true
 k16_NotArmed:Kt K C16 C11 false
 e17_CageError:Xm K C17 C18 true
 k17_UnknownLevel:Kt K C17 C0 false
 k17_GateOpen:Kt K C17 C16 false
 k17_NotArmed:Kt K C17 C11 false
 d0:DI K "is_known" pE
 d1:DI K "check_level" jU
 d2:DI K "check_load" lH
 d3:DI K "check_loads" jV
 d4:II K C19 "Yard.__init__" nh
 d5:MI K C19 "into" "Yard.into" ni
 d6:MI K C19 "out" "Yard.out" pF
 d7:MI K C19 "spots" "Yard.spots" lI
 d8:MI K C19 "in_cage" "Yard.in_cage" i3
 d9:MI K C19 "at_level" "Yard.at_level" gT
 d10:MI K C19 "men_aboard" "Yard.men_aboard" fV
 d11:MI K C19 "twin" "Yard.twin" nj
 d12:DI K "are_strokes" jW
 d13:DI K "check_codes" jX
 d14:II K C20 "Bells.__init__" lJ
 d15:MI K C20 "ring" "Bells.ring" lK
 d16:MI K C20 "repeat" "Bells.repeat" i5
 d17:MI K C20 "engine" "Bells.engine" i6
 d18:MI K C20 "fail" "Bells.fail" lL
 d19:MI K C20 "dead" "Bells.dead" lM
 d20:MI K C20 "use" "Bells.use" nq
 d21:MI K C20 "twin" "Bells.twin" lO
 d22:DI K "check_depths" i7
 d23:DI K "drum_whole" lP
 d24:DI K "other_place" jY
 d25:DI K "level_at" pG
 d26:DI K "wound_place" jZ
 d27:DI K "gates_by" pH
 d28:DI K "check_speeds" i8
 d29:DI K "wind_ticks" lQ
 d30:II K C21 "Standing.__init__" gV
 d31:MI K C21 "twin" "Standing.twin" gW
 d32:II K C22 "Book.__init__" nu
 d33:MI K C22 "write" "Book.write" lR
 d34:MI K C22 "strike" "Book.strike" j0
 d35:MI K C22 "now" "Book.now" pI
 d36:MI K C22 "latest" "Book.latest" j1
 d37:MI K C22 "told" "Book.told" nv
 d38:II K C23 "Works.__init__" lS
 d39:MI K C23 "ring" "Works.ring" lT
 d40:MI K C23 "repeat" "Works.repeat" i9
 d41:MI K C23 "fail" "Works.fail" lU
 d42:MI K C23 "open_gate" "Works.open_gate" fW
 d43:MI K C23 "shut_gate" "Works.shut_gate" fX
 d44:MI K C23 "turn_gate" "Works.turn_gate" fY
 d45:MI K C23 "load" "Works.load" lV
 d46:MI K C23 "unload" "Works.unload" jb
 d47:MI K C23 "wind" "Works.wind" lW
 d48:MI K C23 "take_back" "Works.take_back" fZ
 d49:MI K C23 "write" "Works.write" j6
 d50:MI K C23 "speed_with" "Works.speed_with" fC
 d51:MI K C23 "level_of" "Works.level_of" gx
 d52:MI K C23 "refuse_shut_gate" "Works.refuse_shut_gate" dz
 d53:MI K C23 "now" "Works.now" ny
 d54:MI K C23 "book" "Works.book" lX
 d55:MI K C23 "engine" "Works.engine" jc
 d56:MI K C23 "dead" "Works.dead" lY
 d57:MI K C23 "gates" "Works.gates" j7
 d58:MI K C23 "cages" "Works.cages" j8
 d59:MI K C23 "both_places" "Works.both_places" fg
 d60:MI K C23 "spots" "Works.spots" j9
 d61:MI K C23 "in_cage" "Works.in_cage" gZ
 d62:MI K C23 "at_level" "Works.at_level" gy
 d63:DI K "_law_at" Di
 d64:DI K "_law_draw" vL
 d65:DI K "_law_mixed" sR
 d66:DI K "_law_same" nB
 d67:DI K "_law_depths" pN
 d68:DI K "_law_codes" sT
 d69:DI K "_law_loads" sU
 d70:DI K "_law_shaft" kM
 d71:DI K "_law_setup" sV
 d72:DI K "_law_made" vM
 d73:DI K "_law_by" Dj
 d74:DI K "_law_swap" vN
 d75:DI K "_law_lasts" sW
 d76:DI K "_law_speed" sX
 d77:DI K "_law_first" sY
 d78:DI K "_law_heard" sZ
 d79:DI K "_law_next" vQ
 d80:DI K "_law_call" vR
 d81:DI K "_law_view" jf
 d82:DI K "_law_towards_wind" gz
 d83:DI K "_law_towards_load" dF
 d84:DI K "_law_good_deed" bV
 d85:DI K "_law_done" vS
 d86:DI K "_law_day" zN
 d87:DI K "_law_wind" vT
 d88:DI K "_law_made_ready" eN
 d89:DI K "law" vU
set_option hygiene false in
local macro_rules | `(tactic| walk_at "r0") => `(tactic| ((try dsimp only [K2, K3, tB', tOp, tUn, AW, tCB, kE, wO, Am, CJ, rI', rU', L3, MF, tC, J3, J4, Aj, et, oH, CL, sC, Ej, AX, qC, MD, tOr, ME, CM, zu, tIf, Ll, MQ, tBM, M9, vo, tSl, DJ, CO, G3, G4, G5, CQ, CW, CP, Iy, Gk, AZ, um, Gn, MZ, En, A1, Kz, Dc, CU, Ee, GK, Az, GS, GU, zw, CF, FQ, CY, Hc, El, CV, LM, Ec, M5, MV, uN, MG, CT, oG, Mb, Mc, tU1, Hh, CZ, GY, uM, Ju, Hd, zx, Em, Hk, IV, LX, IW, GL, GN, IX, Jb, Jc, LZ, Jd, Je, L9, Jf, Jg, Ma, Hf, Jx, NF, NG, NH, NJ, Na, Nb, Nd, Nf, NK, NL, LY, σN, σS, σ0, Ng, NM, NN, Nh, Ni, Nk, Nl, LB, FJ, uT, Lb, Nat.reduceAdd, Nat.reduceSub, Int.reducePow, Int.reduceToNat, Nat.reducePow, Int.reduceNeg, Bool.not_true, Bool.not_false]); (try first | refine L2.NO ?_ | refine L2.NP ?_ | refine L2.Nm ?_)))
set_option hygiene false in
local macro_rules | `(tactic| k_upd) => `(tactic| (repeat ((first | with_reducible refine L2.NQ ?_ | with_reducible refine L2.NR ?_ | with_reducible refine L2.lD ze1 ?_ | with_reducible refine L2.lD ze2 ?_ | with_reducible refine L2.lD ze3 ?_ | with_reducible refine L2.lD ze4 ?_ | with_reducible refine L2.lD ze5 ?_ | with_reducible refine L2.lD ze6 ?_ | with_reducible refine L2.lD ze7 ?_ | with_reducible refine L2.lD ze8 ?_ | with_reducible refine L2.lD ze9 ?_ | with_reducible refine L2.lD ze10 ?_ | with_reducible refine L2.lD ze11 ?_ | with_reducible refine L2.lD ze12 ?_ | with_reducible refine L2.lD ze13 ?_ | with_reducible refine L2.lD ze14 ?_ | with_reducible refine L2.lD ze15 ?_ | with_reducible refine L2.lD ze16 ?_ | with_reducible refine L2.lD ze17 ?_ | with_reducible refine L2.lD ze18 ?_ | with_reducible refine L2.lD ze19 ?_); walk_at "r0")))
set_option hygiene false in
local macro_rules | `(tactic| k_mem) => `(tactic| (walk_at "r0"; k_upd))
set_option hygiene false in
local macro_rules | `(tactic| k_all) => `(tactic| refine ⟨rfl, fun zv zA zo zs zf hr => ?_⟩)
section
variable {P:Program}{w:World}{K:WA}{mg:Str->Option Value}{base:Heap}{Z:Adr}
variable (T:Txt P w K mg base Z)
inductive nK (K:WA)(Z:Adr)(vs:List V)(H:Hp)(Q:VK)(E:XK):Prop | mk (n m:Int):vs=[.int n,.int m]->(Q (.bl (decide (0<=n/\n < m))) H)->nK K Z vs H Q E
include T in
theorem BI:FF P w K mg base CX0 1 "is_known" "is_known" pE vv (nK K Z):=fk0 Bj fun vs H Q E h=>by
 obtain ⟨n,m,rfl,q⟩:=h
 k_all
 refine ⟨_,ah (az (gG (cG Dh (pv' 0) af (bL _)) (my (cG Hs (pv' 0) (pv' 1) (bL _))))),?_⟩
 k_mem
 split
 ·rename_i h0
  rw [show decide (0<=n/\n < m)=decide (n < m) by simp [h0]] at q
  k_upd
  exact q
 ·rename_i h0
  rw [show decide (0<=n/\n < m)=false by simp;omega] at q
  k_upd
  exact q
variable (fE:KD P w K mg base CX0 1 "is_known" (nK K Z))
inductive l3 (K:WA)(Z:Adr)(vs:List V)(H:Hp)(Q:VK)(E:XK):Prop | mk (x dx l:Addr) (ls:List Ld) (m:Int):vs=[.ref x,.ref l,.int m]->H x=some (.ins Z.eY dx [])->fv K H l ls->ls.length<=1000->(∀(kn wh:Addr) (H':Hp),H kn=none->H wh=none->kn≠wh->aA x H H'->cY Z.eY H' x kn wh (ls.map (·.1)) (ls.map (·.2.1)) m->Q .non H')->l3 K Z vs H Q E
include T in
theorem zY:FF P w K mg base CX0 1 "__init__" "Yard.__init__" nh tT (l3 K Z):=fk0 zH fun vs H Q E h=>by
 obtain ⟨x,dx,l,ls,m,rfl,hx,hL,hn,q⟩:=h
 k_all
 refine ⟨_,ae (bP (pv' 0) (jA ["kind","level","goal"] [none,none,none] (cT (pv' 1)) (fun _ _ _ _=>(show PG _ _ (oH K 3 _) from eV (n:=3) rfl (aG (aB (i:=0) (show (["kind","level","goal"]:List Str).Nodup by decide +kernel) rfl orL) (aG (aB (i:=1) (show (["kind","level","goal"]:List Str).Nodup by decide +kernel) rfl orL) (aG (aB (i:=2) (show (["kind","level","goal"]:List Str).Nodup by decide +kernel) rfl orL) cM))))) (fun _ _ _ _=>fO) (fun _ _ _ _=>(pv' 0))) rfl) (ae (bP (pv' 0) (jA ["kind","level","goal"] [none,none,none] (cT (pv' 1)) (fun _ _ _ _=>(show PG _ _ (oH K 3 _) from eV (n:=3) rfl (aG (aB (i:=0) (show (["kind","level","goal"]:List Str).Nodup by decide +kernel) rfl orL) (aG (aB (i:=1) (show (["kind","level","goal"]:List Str).Nodup by decide +kernel) rfl orL) (aG (aB (i:=2) (show (["kind","level","goal"]:List Str).Nodup by decide +kernel) rfl orL) cM))))) (fun _ _ _ _=>fO) (fun _ _ _ _=>(pv' 1))) rfl) (ah (bP (pv' 0) (pv' 2) rfl))),?_⟩
 k_mem
 obtain ⟨as,hS,hT⟩:=id hL
 refine ⟨⟨_,hS⟩,?_⟩
 refine sJ (fun x=>V.str x.1) hL (by rw [sizeLine_eq];omega) rfl (fun x hx N hN=>by k_mem;exact hN) fun kn hkn=>?_
 k_mem
 have k1:L2.aA x H (upd (upd H kn (HO.lst (ls.map fun x=>V.str x.1))) x (HO.ins Z.eY dx (bw "kinds" (.ref kn) []))):=(aA.of ((aq.refl H).lay hkn)).put
 have hx1:upd (upd H kn (HO.lst (ls.map fun x=>V.str x.1))) x (HO.ins Z.eY dx (bw "kinds" (.ref kn) [])) x=some (HO.ins Z.eY dx [("kinds",.ref kn)]):=ag
 have nx:kn≠x:=fun z=>by rw [z,hx] at hkn;cases hkn
 have hk1:upd (upd H kn (HO.lst (ls.map fun x=>V.str x.1))) x (HO.ins Z.eY dx (bw "kinds" (.ref kn) [])) kn=some (HO.lst (ls.map fun x=>V.str x.1)):=by rw [aJ nx,ag]
 refine ⟨_,_,_,upo hx hkn,T.cN,T.gH,by decide,⟨_,hS.keepI k1 hx⟩,?_⟩
 generalize upd (upd H kn (HO.lst (ls.map fun x=>V.str x.1))) x (HO.ins Z.eY dx (bw "kinds" (.ref kn) []))=H1 at *
 refine sJ (fun x=>V.int x.2.1) (hL.keepI k1 hx) (by rw [sizeLine_eq];omega) rfl (fun x hx N hN=>by k_mem;exact hN) fun wh hwh=>?_
 have nxw:wh≠x:=fun z=>by rw [z,hx1] at hwh;cases hwh
 have nkw:kn≠wh:=fun z=>by rw [z,hwh] at hk1;cases hk1
 refine ⟨_,_,_,upo hx1 hwh,T.cN,T.bW,by show 1 < 1000;decide,_,_,_,ag,T.cN,T.iE,Nat.lt_of_le_of_lt (mB _ _ _) (by show 2 < 1000;decide),?_⟩
 refine q kn wh _ hkn ?_ nkw (((k1.trans (aA.of ((aq.refl H1).lay hwh))).put).put) ⟨⟨dx,?_⟩,?_,?_⟩
 ·cases e:H wh with
  | none=>rfl
  | some o=>have:=k1 wh o nxw e;rw [hwh] at this;cases this
 ·rw [ag];rfl
 ·rw [aJ nx,aJ nx,aJ nkw,hk1,List.map_map];rfl
 ·rw [aJ nxw,aJ nxw,ag,List.map_map];rfl
variable (jK:KN P w K mg base CX0 1 Z.eY (l3 K Z))
inductive kb (K:WA)(Z:Adr)(vs:List V)(H:Hp)(Q:VK)(E:XK):Prop | mk (y kn wh:Addr) (ks:List Str) (ws:List Int) (m:Int):vs=[.ref y]->cY Z.eY H y kn wh ks ws m->(∀p,H p=none->Q (.ref p) (upd H p (.lst (ws.map V.int))))->kb K Z vs H Q E
include T in
theorem xy:FF P w K mg base CX0 1 "spots" "Yard.spots" lI qI (kb K Z):=fk0 xb fun vs H Q E h=>by
 obtain ⟨y,kn,wh,ks,ws,m,rfl,hy,q⟩:=h
 k_all
 refine ⟨_,ah (az (bg bx (by rfl) T.eh cW (pa1 (ax (pv' 0))))),?_⟩
 obtain ⟨⟨dx,hob⟩,hkn,hwh⟩:=id hy
 k_mem
 refine fgo hob T.cN T.bW rfl ?_
 k_mem
 exact ⟨_,.inl (SqL.of hwh),q⟩
variable (iG:KM P w K mg base CX0 1 Z.eY "spots" (kb K Z))
def JQ (y:Addr)(c:Int)(ws:List Int)(H:Hp)(i:Nat)(σ:St)(H':Hp):Prop:=aq H H'/\(∃t u,σ=[some (.ref y),some (.int c),t,u])/\∀j,j < i->ws.getD j 0≠10+c
inductive g8 (K:WA)(Z:Adr)(vs:List V)(H:Hp)(Q:VK)(E:XK):Prop | mk (y kn wh:Addr) (ks:List Str) (ws:List Int) (m c:Int):vs=[.ref y,.int c]->cY Z.eY H y kn wh ks ws m->0<=c->c < 2->(∀H',aq H H'->Q (inC ws c) H')->g8 K Z vs H Q E
include T in
theorem uw:FF P w K mg base CX0 1 "in_cage" "Yard.in_cage" i3 mS (g8 K Z):=fk0 gS fun vs H Q E h=>by
 obtain ⟨y,kn,wh,ks,ws,m,c,rfl,hy,h0,h1,q⟩:=h
 k_all
 refine seg 1 (ah (az eJ)) fun zt1 zh1 ze1=>?_
 refine ⟨_,ae (cX PassesOwn.never rfl (vt (by rfl) T.nD lj (ax (pv' 0))) (eV rfl (aG (aB (i:=2) gS.nd rfl orL) (aG (aB (i:=3) gS.nd rfl orL) cM))) (ah (aN (bQ (pv' 3) (ao au (dD (by rfl) T.iC) (pv' 1))) (ah (az (pv' 2))) (aC)))) zh1,?_⟩
 obtain ⟨⟨dx,hob⟩,hkn,hwh⟩:=id hy
 k_mem
 refine fgo hob T.cN T.bW rfl ?_
 k_mem
 refine ⟨⟨_,SqL.of hwh⟩,?_⟩
 k_upd
 refine AA ws.length (JQ y c ws H) ⟨aq.refl H,⟨_,_,rfl⟩,fun j hj=>absurd hj (Nat.not_lt_zero _)⟩ ?_ ?_ ?_ ?_
 ·rintro i σ H' hi ⟨s1,_,_⟩
  k_upd
  exact ⟨_,_,s1.seq (SqL.of hwh),by rw [List.getElem?_map,kF hi];rfl⟩
 ·rintro σ H' ⟨s1,_,_⟩
  k_upd
  exact ⟨_,s1.seq (SqL.of hwh),by rw [WB];exact Nat.le_refl _⟩
 ·rintro i σ H' hi ⟨s1,⟨t,u,rfl⟩,hj⟩ x H2 ⟨tp,z,rfl,htp,rfl,hz⟩
  have e:=hz _ (s1.seq (SqL.of hwh))
  rw [List.getElem?_map,kF hi] at e
  cases e
  k_mem
  refine ⟨_,SqT.of ag,rfl,?_⟩
  k_mem
  refine ⟨_,T.iD _,_,ye h0 h1,?_⟩
  k_mem
  split
  ·rename_i h
   have e:=E2 hi h hj
   have q':=q _ (s1.lay (o:=HO.tup [V.int ↑i,V.int (ws.getD i 0)]) htp)
   rw [inC,if_pos (h▸cH hi),e] at q'
   k_upd
   exact q'
  ·rename_i h
   k_upd
   refine ⟨s1.lay htp,⟨_,_,rfl⟩,fun j hj'=>?_⟩
   by_cases e:j=i
   ·rw [e];exact h
   ·exact hj j (by omega)
 ·rintro σ H' ⟨s1,⟨t,u,rfl⟩,hj⟩
  k_mem
  have q':=q _ s1
  rw [inC,if_neg] at q'
  ·k_upd
   exact q'
  ·intro hm
   have hlt:=List.idxOf_lt_length_iff.mpr hm
   refine hj _ hlt ?_
   rw [List.getD_eq_getElem?_getD,List.getElem?_eq_getElem hlt]
   exact List.getElem_idxOf hlt
variable (cF:KM P w K mg base CX0 1 Z.eY "in_cage" (g8 K Z))
def HK (y:Addr)(ks:List Str)(ws:List Int)(H:Hp)(i:Nat)(σ:St)(H':Hp):Prop:=aq H H'/\(∃t u,σ=[some (.ref y),t,u])/\∀j k x,j < i->ks[j]?=some k->ws[j]?=some x->(decide (k="men") && decide (x=10\/x=11))=false
inductive fF (K:WA)(Z:Adr)(vs:List V)(H:Hp)(Q:VK)(E:XK):Prop | mk (y kn wh:Addr) (ks:List Str) (ws:List Int) (m:Int):vs=[.ref y]->cY Z.eY H y kn wh ks ws m->ks.length=ws.length->(∀H',aq H H'->Q (.bl (AG ks ws)) H')->fF K Z vs H Q E
include T in
theorem pW:FF P w K mg base CX0 1 "men_aboard" "Yard.men_aboard" fV jF (fF K Z):=fk0 fB fun vs H Q E h=>by
 obtain ⟨y,kn,wh,ks,ws,m,rfl,hy,hlen,q⟩:=h
 k_all
 refine seg 1 (ah (az iQ)) fun zt1 zh1 ze1=>?_
 refine ⟨_,ae (cX PassesOwn.never rfl (JJ (by rfl) T.Np Lz (ax (pv' 0)) (ax (pv' 0))) (eV rfl (aG (aB (i:=1) fB.nd rfl orL) (aG (aB (i:=2) fB.nd rfl orL) cM))) (ah (aN (kZ (bQ (pv' 1) aE) (jy (dk lF (pv' 2) (dD (by rfl) T.iC) (by rfl)))).pt (ah (az iQ)) (aC)))) zh1,?_⟩
 obtain ⟨⟨dx,hob⟩,hkn,hwh⟩:=id hy
 k_mem
 refine fgo hob T.cN T.gH rfl (fgo hob T.cN T.bW rfl ?_)
 k_mem
 refine ⟨⟨_,SqL.of hkn⟩,⟨_,SqL.of hwh⟩,?_⟩
 k_upd
 refine AA ws.length (HK y ks ws H) ⟨aq.refl H,⟨_,_,rfl⟩,fun j _ _ hj=>absurd hj (Nat.not_lt_zero _)⟩ ?_ ?_ ?_ ?_
 ·rintro i σ H' hi ⟨s1,_,_⟩
  have hk:ks[i]?=some ks[i]:=List.getElem?_eq_getElem (by omega)
  k_upd
  exact ⟨_,_,_,_,s1.seq (SqL.of hkn),s1.seq (SqL.of hwh),by rw [List.getElem?_map,hk];rfl,by rw [List.getElem?_map,kF hi];rfl⟩
 ·rintro σ H' ⟨s1,_,_⟩
  k_upd
  exact ⟨_,_,s1.seq (SqL.of hkn),s1.seq (SqL.of hwh),.inr (by rw [WB];exact Nat.le_refl _)⟩
 ·rintro i σ H' hi ⟨s1,⟨t,u,rfl⟩,hj⟩ x H2 ⟨tp,z1,z2,rfl,htp,rfl,hz1,hz2⟩
  have hk:ks[i]?=some ks[i]:=List.getElem?_eq_getElem (by omega)
  have hw:ws[i]?=some ws[i]:=List.getElem?_eq_getElem hi
  have e:=hz1 _ (s1.seq (SqL.of hkn))
  rw [List.getElem?_map,hk] at e
  cases e
  have e:=hz2 _ (s1.seq (SqL.of hwh))
  rw [List.getElem?_map,hw] at e
  cases e
  k_mem
  refine ⟨_,SqT.of ag,rfl,?_⟩
  k_mem
  have no:(decide (ks[i]=Str.ofString "men") && decide (ws[i]=10\/ws[i]=11))=false->HK y ks ws H (i+1) [some (V.ref y),some (V.str ks[i]),some (V.int ws[i])] (upd H' tp (HO.tup [V.str ks[i],V.int ws[i]])):=fun hn=>by
   refine ⟨s1.lay htp,⟨_,_,rfl⟩,fun j k x hj' e1 e2=>?_⟩
   by_cases e:j=i
   ·subst e
    rw [hk] at e1;rw [hw] at e2
    cases e1;cases e2
    exact hn
   ·exact hj j k x (by omega) e1 e2
  k_upd
  split
  ·rename_i h1
   k_upd
   refine ⟨_,.inr (T.iD _),rfl,rfl,?_⟩
   rw [yh]
   k_mem
   split
   ·rename_i h2
    have q':=q _ (s1.lay (o:=HO.tup [V.str ks[i],V.int ws[i]]) htp)
    rw [AH hk hw h1 h2] at q'
    k_upd
    exact q'
   ·rename_i h2
    exact no (by simp [h2])
  ·rename_i h1
   exact no (by simp [h1])
 ·rintro σ H' ⟨s1,⟨t,u,rfl⟩,hj⟩
  k_mem
  have q':=q _ s1
  rw [yg hj (.inr (Nat.le_refl _))] at q'
  k_upd
  exact q'
variable (jL:KM P w K mg base CX0 1 Z.eY "men_aboard" (fF K Z))
inductive jh (K:WA)(Z:Adr)(vs:List V)(H:Hp)(Q:VK)(E:XK):Prop | mk (n:Int):vs=[.int n]->(Q (.bl (decide (1<=n/\n<=9))) H)->jh K Z vs H Q E
include T in
theorem we:FF P w K mg base CX0 1 "are_strokes" "are_strokes" jW oK (jh K Z):=fk0 vC fun vs H Q E h=>by
 obtain ⟨n,rfl,q⟩:=h
 k_all
 refine ⟨_,ah (az (gG (cG Dh (pv' 0) (dD (by rfl) T.tf) (bL _)) (my (cG Mg (pv' 0) (dD (by rfl) T.vV) (bL _))))),?_⟩
 k_mem
 split
 ·rename_i h0
  rw [show decide (1<=n/\n<=9)=decide (n<=9) by simp [h0]] at q
  k_upd
  exact q
 ·rename_i h0
  rw [show decide (1<=n/\n<=9)=false by simp;omega] at q
  k_upd
  exact q
variable (ft:KD P w K mg base CX0 1 "are_strokes" (jh K Z))
inductive ke (K:WA)(Z:Adr)(vs:List V)(H:Hp)(Q:VK)(E:XK):Prop | mk (x dx l:Addr) (ls:List Cd):vs=[.ref x,.ref l]->H x=some (.ins Z.bF dx [])->jR cdV K H l ls->ls.length<=1000->(∀(cs fl st:Addr) (H':Hp),H cs=none->H fl=none->aA x H H'->bC Z.bF K H' x cs fl st ls (ls.map fun _=>false) .no->Q .non H')->ke K Z vs H Q E
include T in
theorem xA:FF P w K mg base CX0 1 "__init__" "Bells.__init__" lJ qJ (ke K Z):=fk0 xc fun vs H Q E h=>by
 obtain ⟨x,dx,l,ls,rfl,hx,hL,hn,q⟩:=h
 k_all
 refine seg 2 (ah (bP (pv' 0) (aQ (pa4 aE eJ eJ eJ)) rfl)) fun zt2 zh2 ze2=>?_
 refine seg 1 (ae (bP (pv' 0) (jA ["code"] [none] (cT (pv' 1)) (fun _ _ _ _=>(aB (i:=0) (show (["code"]:List Str).Nodup by decide +kernel) rfl orL)) (fun _ _ _ _=>fO) (fun _ _ _ _=>iQ)) rfl) zh2) fun zt1 zh1 ze1=>?_
 refine ⟨_,ae (bP (pv' 0) (bg bx (by rfl) T.eh cW (pa1 (pv' 1))) rfl) zh1,?_⟩
 obtain ⟨as,hS,hT⟩:=id hL
 k_mem
 refine ⟨_,.inl hS,fun cs hcs=>?_⟩
 k_upd
 refine ⟨_,_,_,upo hx hcs,T.bB,T.cU,by decide,?_⟩
 have nx:cs≠x:=fun z=>by rw [z,hx] at hcs;cases hcs
 have k1:L2.aA x H (upd (upd H cs (HO.lst (as.map V.ref))) x (HO.ins Z.bF dx (bw "codes" (.ref cs) []))):=(aA.of ((aq.refl H).lay hcs)).put
 have hx1:upd (upd H cs (HO.lst (as.map V.ref))) x (HO.ins Z.bF dx (bw "codes" (.ref cs) [])) x=some (HO.ins Z.bF dx [("codes",.ref cs)]):=ag
 have hc1:upd (upd H cs (HO.lst (as.map V.ref))) x (HO.ins Z.bF dx (bw "codes" (.ref cs) [])) cs=some (HO.lst (as.map V.ref)):=by rw [aJ nx,ag]
 generalize upd (upd H cs (HO.lst (as.map V.ref))) x (HO.ins Z.bF dx (bw "codes" (.ref cs) []))=H1 at *
 k_upd
 refine ⟨⟨_,hS.keepI k1 hx⟩,?_⟩
 refine tN (fun _=>true) (fun _=>V.bl false) (hS.keepI k1 hx) (by rw [WB,hT.1,sizeLine_eq];omega) rfl (fun y _ N hN=>by k_mem;exact hN) (fun y _ _ N hN=>by k_mem;exact hN) fun fl hfl=>?_
 k_mem
 have ef:((as.map V.ref).filter fun _=>true).map (fun _=>V.bl false)=(ls.map fun _=>false).map V.bl:=by
  rw [List.filter_eq_self.mpr (by simp),List.map_map,List.map_map]
  refine List.ext_getElem (by simp [hT.1]) fun i h1 h2=>by simp
 rw [ef]
 have nfx:fl≠x:=fun z=>by rw [z,hx1] at hfl;cases hfl
 have nfc:cs≠fl:=fun z=>by rw [←z,hc1] at hfl;cases hfl
 k_upd
 refine ⟨_,_,_,upo hx1 hfl,T.bB,T.cK,by show 1 < 1000;decide,?_⟩
 have k2:L2.aA x H1 (upd (upd H1 fl (HO.lst ((ls.map fun _=>false).map V.bl))) x (HO.ins Z.bF dx (bw "failed" (.ref fl) [("codes",.ref cs)]))):=(aA.of ((aq.refl H1).lay hfl)).put
 have hx2:upd (upd H1 fl (HO.lst ((ls.map fun _=>false).map V.bl))) x (HO.ins Z.bF dx (bw "failed" (.ref fl) [("codes",.ref cs)])) x=some (HO.ins Z.bF dx [("codes",.ref cs),("failed",.ref fl)]):=by rw [ag];rfl
 have hf2:upd (upd H1 fl (HO.lst ((ls.map fun _=>false).map V.bl))) x (HO.ins Z.bF dx (bw "failed" (.ref fl) [("codes",.ref cs)])) fl=some (HO.lst ((ls.map fun _=>false).map V.bl)):=by rw [aJ nfx,ag]
 generalize upd (upd H1 fl (HO.lst ((ls.map fun _=>false).map V.bl))) x (HO.ins Z.bF dx (bw "failed" (.ref fl) [("codes",.ref cs)]))=H2 at *
 k_upd
 refine ⟨by decide,fun st hst=>⟨_,_,_,upo hx2 hst,T.bB,T.bD,by show 2 < 1000;decide,?_⟩⟩
 have nsx:st≠x:=fun z=>by rw [z,hx2] at hst;cases hst
 have k3:L2.aA x H2 (upd (upd H2 st (HO.tup [V.str (Str.ofString "not rung"),V.non,V.non,V.non])) x (HO.ins Z.bF dx (bw "state" (.ref st) [("codes",.ref cs),("failed",.ref fl)]))):=(aA.of ((aq.refl H2).lay hst)).put
 refine q cs fl st _ hcs (k1.free nfx hfl) ((k1.trans k2).trans k3) ⟨⟨dx,by rw [ag];rfl⟩,⟨as,k3 _ _ nx (k2 _ _ nx hc1),?_⟩,k3 _ _ nfx hf2,SqT.of (by rw [aJ nsx,ag];rfl),nfc,by rw [WB]⟩
 exact hT.keepI ((k1.trans k2).trans k3) hx
variable (iH:KN P w K mg base CX0 1 Z.bF (ke K Z))
inductive g9 (K:WA)(Z:Adr)(vs:List V)(H:Hp)(Q:VK)(E:XK):Prop | mk (b cs fl st:Addr) (ls:List Cd) (fs:List Bool) (e:Eng):vs=[.ref b]->bC Z.bF K H b cs fl st ls fs e->Q (.ref st) H->g9 K Z vs H Q E
include T in
theorem ux:FF P w K mg base CX0 1 "engine" "Bells.engine" i6 mU (g9 K Z):=fk0 uq fun vs H Q E h=>by
 obtain ⟨b,cs,fl,st,ls,fs,e,rfl,hB,q⟩:=h
 k_all
 refine ⟨_,ah (az (ax (pv' 0))),?_⟩
 obtain ⟨⟨dx,hob⟩,⟨as,hcs,hT⟩,hfl,hst,nn,ln⟩:=id hB
 k_mem
 exact fgo hob T.bB T.bD rfl q
variable (nL:KM P w K mg base CX0 1 Z.bF "engine" (g9 K Z))
inductive kg (K:WA)(Z:Adr)(vs:List V)(H:Hp)(Q:VK)(E:XK):Prop | mk (b cs fl st:Addr) (ls:List Cd) (fs:List Bool) (e:Eng):vs=[.ref b]->bC Z.bF K H b cs fl st ls fs e->fs.length<=1000->(∀p H',H p=none->aq H H'->H' p=some (.lst ((cO fs).map V.int))->Q (.ref p) H')->kg K Z vs H Q E
include T in
theorem xB:FF P w K mg base CX0 1 "dead" "Bells.dead" lM qM (kg K Z):=fk0 xh fun vs H Q E h=>by
 obtain ⟨b,cs,fl,st,ls,fs,e,rfl,hB,hlen,q⟩:=h
 k_all
 refine ⟨_,ah (az (jA ["level","failed"] [none,none] (vt (by rfl) T.nD lj (ax (pv' 0))) (fun _ _ _ _=>(show PG _ _ (oH K 2 _) from eV (n:=2) rfl (aG (aB (i:=0) (show (["level","failed"]:List Str).Nodup by decide +kernel) rfl orL) (aG (aB (i:=1) (show (["level","failed"]:List Str).Nodup by decide +kernel) rfl orL) cM)))) (fun _ _ _ _=>(ix (cx (pv' 1)))) (fun _ _ _ _=>(pv' 0)))),?_⟩
 obtain ⟨⟨dx,hob⟩,⟨as,hcs,hT⟩,hfl,hst,nn,ln⟩:=id hB
 k_mem
 refine fgo hob T.bB T.cK rfl ?_
 k_mem
 refine ⟨⟨_,SqL.of hfl⟩,?_⟩
 have gi:∀i,i < fs.length->(fs.map V.bl)[i]?=some (V.bl (fs.getD i false)):=fun i hi=>by
  rw [List.getElem?_map,List.getD_eq_getElem?_getD,List.getElem?_eq_getElem hi];rfl
 refine mI fs.length (fun i acc H'=>aq H H'/\acc=(jT fs i).map V.int) ⟨aq.refl H,rfl⟩ ?_ ?_ ?_ ?_
 ·rintro i acc H' hi ⟨s1,_⟩
  k_upd
  exact ⟨_,_,s1.seq (SqL.of hfl),gi i hi⟩
 ·rintro acc H' ⟨s1,_⟩
  k_upd
  exact ⟨_,s1.seq (SqL.of hfl),by rw [WB];exact Nat.le_refl _⟩
 ·rintro i acc H' hi ⟨s1,rfl⟩
  k_upd
  refine ⟨by have:=vj fs i;rw [WB,sizeLine_eq];omega,?_⟩
  rintro x H2 ⟨tp,z,rfl,htp,rfl,hz⟩ M hM
  have e:=hz _ (s1.seq (SqL.of hfl))
  rw [gi i hi] at e
  cases e
  k_mem
  refine ⟨_,SqT.of ag,rfl,?_⟩
  k_mem
  refine ⟨⟨rfl,fun k v e=>?_⟩,?_⟩
  ·match k,e with
   | 0,e=>cases e
   | 1,e=>cases e
   | k+2,e=>simp at e
  ·have gs:=AN fs i
   k_upd
   split
   ·rename_i h
    refine hM _ _ ⟨s1.lay htp,?_⟩
    rw [gs,if_pos h,List.map_append];rfl
   ·rename_i h
    refine hM _ _ ⟨s1.lay htp,?_⟩
    rw [gs,if_neg h,List.append_nil]
 ·rintro acc H' ⟨s1,rfl⟩ p hp
  k_upd
  exact q p _ (s1.free hp) (s1.lay hp) ag
variable (rm:KM P w K mg base CX0 1 Z.bF "dead" (kg K Z))
def Mq (a:Addr)(ds:List Int)(H:Hp)(i:Nat)(σ:St)(H':Hp):Prop:=H'=H/\(∃t,σ=[some (.ref a),t,none])/\∀j,j < i->0<=ds.getD j 0/\ds.getD j 0<=500
def Mr (a:Addr)(ds:List Int)(H:Hp)(i:Nat)(σ:St)(H':Hp):Prop:=H'=H/\(∃t u,σ=[some (.ref a),t,u])/\∀j,j < i->ds.getD j 0 < ds.getD (j+1) 0
inductive hG (K:WA)(Z:Adr)(vs:List V)(H:Hp)(Q:VK)(E:XK):Prop | mk (a:Addr) (ds:List Int):vs=[.ref a]->SqL K H a (ds.map V.int)->ds.length<=100000->((cf ds->Q .non H))->((¬cf ds->E (.ref Z.eW) none H))->hG K Z vs H Q E
include T in
theorem uy:FF P w K mg base (CXf P w) 1 "check_depths" "check_depths" i7 mV (hG K Z):=fkF gU fun vs H Q E h=>by
 obtain ⟨a,ds,rfl,hS,hl,q1,q2⟩:=h
 k_all
 refine seg 2 (ah (cX u6 rfl (vq (by rfl) T.cq (pa2 af (aH aw (by rfl) T.bN ba (pa1 (pv' 0))))) (aB (i:=2) gU.nd rfl orL) (ah (aN (Nn (ao av (pv' 0) (pv' 2)) (ao av (pv' 0) (aP dB (pv' 2) af))) (ah (bh T.nI (by rfl) T.nF (pa1 aE))) (aC))))) fun zt2 zh2 ze2=>?_
 refine seg 1 (ae (cX u6 rfl (cT (pv' 0)) (aB (i:=1) gU.nd rfl orL) (ah (aN (oC (qG (pv' 1) af) (kY (A8 (pv' 1) (dD (by rfl) T.tj)))).pt (ah (bh T.nI (by rfl) T.nF (pa1 aE))) (aC)))) zh2) fun zt1 zh1 ze1=>?_
 refine ⟨_,ae (aN (oC (qG (aH aw (by rfl) T.bN ba (pa1 (pv' 0))) (dD (by rfl) T.uv)) (kY (A8 (aH aw (by rfl) T.bN ba (pa1 (pv' 0))) (dD (by rfl) T.xm)))).pt (ah (bh T.nI (by rfl) T.nF (pa1 aE))) (aC)) zh1,?_⟩
 k_mem
 refine ⟨_,.inl hS,?_⟩
 rw [WB]
 k_upd
 split
 ·k_upd
  exact ⟨by decide,q2 fun h=>by have:=h.l2;omega⟩
 ·k_upd
  refine ⟨_,.inl hS,?_⟩
  rw [WB]
  k_upd
  split
  ·k_upd
   exact ⟨by decide,q2 fun h=>by have:=h.l6;omega⟩
  ·k_upd
   refine ⟨⟨_,hS⟩,?_⟩
   k_upd
   refine iK (ds.map V.int) (Mq a ds H) ⟨rfl,⟨_,rfl⟩,fun j h=>absurd h (Nat.not_lt_zero _)⟩ (fun i σ H' _ ⟨e,_⟩=>by rw [e];exact hS) ?_ ?_
   ·rintro i x σ H' hx ⟨rfl,⟨t,rfl⟩,hj⟩
    obtain ⟨d,rfl,hd,hmem⟩:=lr hx
    have hi:i < ds.length:=(List.getElem?_eq_some_iff.mp hd).1
    have hdg:ds.getD i 0=d:=by rw [List.getD_eq_getElem?_getD,hd];rfl
    k_mem
    split
    ·k_upd
     exact ⟨by decide,q2 fun h=>by have:=h.lo d hmem;omega⟩
    ·split
     ·k_upd
      exact ⟨by decide,q2 fun h=>by have:=h.hi d hmem;omega⟩
     ·k_upd
      refine ⟨rfl,⟨_,rfl⟩,fun j hj'=>?_⟩
      by_cases e:j=i
      ·rw [e,hdg];omega
      ·exact hj j (by omega)
   ·rintro σ H' ⟨rfl,⟨t,rfl⟩,hb⟩
    rw [WB] at hb
    k_mem
    refine ⟨_,.inl hS,⟨by decide,by decide,by rw [WB];omega,by rw [WB];omega⟩,?_⟩
    k_upd
    refine cj (Mr a ds H') ⟨rfl,⟨_,_,rfl⟩,fun j h=>absurd h (Nat.not_lt_zero _)⟩ ?_ ?_
    ·rintro i σ H' hi ⟨rfl,⟨t,u,rfl⟩,hj⟩
     rw [WB] at hi
     k_mem
     refine ⟨_,hS,_,dh (by omega) (by omega),_,hS,_,dh (by omega) (by omega),?_⟩
     k_mem
     rw [show (1+(i:Int)).toNat=i+1 by omega,show (1+(i:Int) - 1).toNat=i by omega]
     k_upd
     split
     ·k_upd
      refine ⟨by decide,q2 fun h=>?_⟩
      have:=h.lt (i:=i) (j:=i+1) (by omega) (by omega)
      omega
     ·k_upd
      refine ⟨rfl,⟨_,_,rfl⟩,fun j hj'=>?_⟩
      by_cases e:j=i
      ·rw [e];omega
      ·exact hj j (by omega)
    ·rintro σ H' ⟨rfl,⟨t,u,rfl⟩,hu⟩
     rw [WB] at hu
     k_mem
     exact q1 (cf.of (by omega) (by omega) hb fun i hi=>hu i (by omega))
variable (nM:KD P w K mg base (CXf P w) 1 "check_depths" (hG K Z))
inductive kh (K:WA)(Z:Adr)(vs:List V)(H:Hp)(Q:VK)(E:XK):Prop | mk (a:Addr) (ds:List Int):vs=[.ref a]->SqL K H a (ds.map V.int)->0 < ds.length->Q (.int (cu ds)) H->kh K Z vs H Q E
include T in
theorem xC:FF P w K mg base CX0 1 "drum_whole" "drum_whole" lP qO (kh K Z):=fk0 xi fun vs H Q E h=>by
 obtain ⟨a,ds,rfl,hS,hl,q⟩:=h
 k_all
 refine ⟨_,ah (az (ao av (pv' 0) (aP dB (aH aw (by rfl) T.bN ba (pa1 (pv' 0))) af))),?_⟩
 k_mem
 refine ⟨_,.inl hS,_,hS,_,dh (by rw [WB];omega) (by rw [WB];omega),?_⟩
 rw [WB,show ((ds.length:Int) - 1).toNat=ds.length - 1 by omega]
 k_upd
 exact q
variable (rn:KD P w K mg base CX0 1 "drum_whole" (kh K Z))
def HL (a:Addr)(ds:List Int)(d:Int)(H:Hp)(i:Nat)(σ:St)(H':Hp):Prop:=H'=H/\(∃t,σ=[some (.ref a),some (.int d),t])/\∀j,j < i->ds.getD j 0≠d
inductive nN (K:WA)(Z:Adr)(vs:List V)(H:Hp)(Q:VK)(E:XK):Prop | mk (a:Addr) (ds:List Int) (d:Int):vs=[.ref a,.int d]->SqL K H a (ds.map V.int)->ds.length<=100000->((∀i:Nat,i < ds.length->ds.getD i 0=d->Q (.int i) H))->(((∀i,i < ds.length->ds.getD i 0≠d)->Q .non H))->nN K Z vs H Q E
include T in
theorem BJ:FF P w K mg base CX0 1 "level_at" "level_at" pG vx (nN K Z):=fk0 t8 fun vs H Q E h=>by
 obtain ⟨a,ds,d,rfl,hS,hl,q1,q2⟩:=h
 k_all
 refine seg 1 (ah (az eJ)) fun zt1 zh1 ze1=>?_
 refine ⟨_,ae (cX PassesOwn.never rfl (bf (by rfl) T.cq (pa1 (aH aw (by rfl) T.bN ba (pa1 (pv' 0))))) (aB (i:=2) t8.nd rfl orL) (ah (aN (bQ (ao av (pv' 0) (pv' 2)) (pv' 1)) (ah (az (pv' 2))) (aC)))) zh1,?_⟩
 k_mem
 refine ⟨_,.inl hS,by omega,by rw [WB];omega,cj (HL a ds d H) ⟨rfl,⟨_,rfl⟩,fun _ h=>absurd h (Nat.not_lt_zero _)⟩ ?_ ?_⟩
 ·rintro i σ H' hi ⟨rfl,⟨t,rfl⟩,hj⟩
  rw [WB] at hi
  have hi':i < ds.length:=by omega
  k_mem
  refine ⟨_,hS,_,by rw [Int.zero_add];exact gL hi',?_⟩
  k_mem
  split
  ·rename_i he
   rw [Int.zero_add]
   k_upd
   exact q1 i hi' he
  ·rename_i he
   k_upd
   refine ⟨rfl,⟨_,rfl⟩,fun j hj'=>?_⟩
   by_cases e:j=i
   ·rw [e];exact he
   ·exact hj j (by omega)
 ·rintro σ H' ⟨rfl,⟨t,rfl⟩,hj⟩
  k_mem
  refine q2 fun i hi=>hj i ?_
  rw [WB]
  omega
variable (wg:KD P w K mg base CX0 1 "level_at" (nN K Z))
inductive hJ (K:WA)(Z:Adr)(vs:List V)(H:Hp)(Q:VK)(E:XK):Prop | mk (sl fa:Int):vs=[.int sl,.int fa]->(if 1<=sl/\sl<=fa/\fa<=500 then Q .non H else E (.ref Z.eX) none H)->hJ K Z vs H Q E
include T in
theorem uz:FF P w K mg base (CXf P w) 1 "check_speeds" "check_speeds" i8 mW (hJ K Z):=fkF ur fun vs H Q E h=>by
 obtain ⟨sl,fa,rfl,q⟩:=h
 k_all
 refine ⟨_,ah (aN (oC (qG (pv' 0) af) (oC (qG (pv' 1) (pv' 0)) (kY (A8 (pv' 1) (dD (by rfl) T.tu))))).pt (ah (bh T.BD (by rfl) T.Bo (pa1 aE))) (aC)),?_⟩
 k_mem
 split
 ·rw [if_neg (by omega)] at q
  k_upd
  exact ⟨by decide,q⟩
 ·split
  ·rw [if_neg (by omega)] at q
   k_upd
   exact ⟨by decide,q⟩
  ·split
   ·rw [if_neg (by omega)] at q
    k_upd
    exact ⟨by decide,q⟩
   ·rw [if_pos (by omega)] at q
    k_upd
    exact q
variable (nO:KD P w K mg base (CXf P w) 1 "check_speeds" (hJ K Z))
inductive ki (K:WA)(Z:Adr)(vs:List V)(H:Hp)(Q:VK)(E:XK):Prop | mk (wy sp:Int):vs=[.int wy,.int sp]->0 < sp->sp < 2 ^ 200->Q (.int ((wy+sp - 1) / sp)) H->ki K Z vs H Q E
include T in
theorem xD:FF P w K mg base CX0 1 "wind_ticks" "wind_ticks" lQ qP (ki K Z):=fk0 xj fun vs H Q E h=>by
 obtain ⟨wy,sp,rfl,h0,h1,q⟩:=h
 k_all
 refine ⟨_,ah (az (aP Ff (aP dB (aP bt (pv' 0) (pv' 1)) af) (pv' 1))),?_⟩
 k_mem
 exact ⟨⟨h0,h1⟩,q⟩
variable (rp:KD P w K mg base CX0 1 "wind_ticks" (ki K Z))
noncomputable abbrev clZ (Z:Adr):Cl:=⟨Z.bF,Z.eY,Z.dU,Z.ow,Z.bq⟩
inductive gA (K:WA)(Z:Adr)(vs:List V)(H:Hp)(Q:VK)(E:XK):Prop | mk (x dx o b y:Addr) (pl:Int) (gs:List Bool):vs=[.ref x,.int pl,.ref o,.ref b,.ref y]->H x=some (.ins Z.dU dx [])->SqL K H o (gs.map V.bl)->(∀(ol:Addr) (H':Hp),H ol=none->aA x H H'->H' x=some (.ins Z.dU dx [("place",.int pl),("opened",.ref ol),("bells",.ref b),("yard",.ref y)])->H' ol=some (.lst (gs.map V.bl))->Q .non H')->gA K Z vs H Q E
include T in
theorem tw:FF P w K mg base CX0 1 "__init__" "Standing.__init__" gV mq (gA K Z):=fk0 sO fun vs H Q E h=>by
 obtain ⟨x,dx,o,b,y,pl,gs,rfl,hx,hO,q⟩:=h
 k_all
 refine ⟨_,ae (bP (pv' 0) (pv' 1) rfl) (ae (bP (pv' 0) (bg bx (by rfl) T.eh cW (pa1 (pv' 2))) rfl) (ae (bP (pv' 0) (pv' 3) rfl) (ah (bP (pv' 0) (pv' 4) rfl)))),?_⟩
 k_mem
 refine ⟨_,_,_,hx,T.aK,T.cJ,by decide,?_⟩
 have k1:L2.aA x H (upd H x (HO.ins Z.dU dx (bw "place" (.int pl) []))):=(aA.of (aq.refl H)).put
 refine ⟨_,.inl (hO.keepI k1 hx),fun ol hol=>?_⟩
 have nol:ol≠x:=fun z=>by rw [z,ag] at hol;cases hol
 refine ⟨_,_,_,upo ag hol,T.aK,T.ck,by show 1 < 1000;decide,_,_,_,ag,T.aK,T.bS,by show 2 < 1000;decide,_,_,_,ag,T.aK,T.bE,by show 3 < 1000;decide,?_⟩
 refine q ol _ (k1.free nol hol) (((k1.trans (aA.of ((aq.refl _).lay hol))).put).put.put) ?_ ?_
 ·rw [ag];rfl
 ·rw [aJ nol,aJ nol,aJ nol,ag]
variable (fA:KN P w K mg base CX0 1 Z.dU (gA K Z))
inductive l4 (K:WA)(Z:Adr)(vs:List V)(H:Hp)(Q:VK)(E:XK):Prop | mk (x dx f:Addr):vs=[.ref x,.ref f,.int 300]->H x=some (.ins Z.ow dx [])->(∀(rl:Addr) (H':Hp),H rl=none->aA x H H'->H' x=some (.ins Z.ow dx [("first",.ref f),("most",.int 300),("rows",.ref rl)])->H' rl=some (.lst [])->Q .non H')->l4 K Z vs H Q E
include T in
theorem zZ:FF P w K mg base CX0 1 "__init__" "Book.__init__" nu tX (l4 K Z):=fk0 zJ fun vs H Q E h=>by
 obtain ⟨x,dx,f0,rfl,hx,q⟩:=h
 k_all
 refine ⟨_,ae (bP (pv' 0) (pv' 1) rfl) (ae (bP (pv' 0) (pv' 2) rfl) (ah (bP (pv' 0) (bc ff) rfl))),?_⟩
 k_mem
 refine ⟨_,_,_,hx,T.dC,T.o7,by decide,_,_,_,ag,T.dC,T.rk,by show 1 < 1000;decide,by decide,fun rl hrl=>?_⟩
 have k1:L2.aA x H (upd (upd H x (HO.ins Z.ow dx (bw "first" (.ref f0) []))) x (HO.ins Z.ow dx (bw "most" (.int 300) (bw "first" (.ref f0) [])))):=((aA.of (aq.refl H)).put).put
 have nrl:rl≠x:=fun z=>by rw [z,ag] at hrl;cases hrl
 refine ⟨_,_,_,upo ag hrl,T.dC,T.cb,by show 2 < 1000;decide,?_⟩
 refine q rl _ (k1.free nrl hrl) ((k1.trans (aA.of ((aq.refl _).lay hrl))).put) ?_ ?_
 ·rw [ag];rfl
 ·rw [aJ nrl,ag]
variable (ud:KN P w K mg base CX0 1 Z.ow (l4 K Z))
inductive ji (K:WA)(Z:Adr)(vs:List V)(H:Hp)(Q:VK)(E:XK):Prop | mk (bk rl:Addr) (g:Cfg) (n0:aM) (rs:List Row):vs=[.ref bk]->BAt (clZ Z) K H bk rl g n0 rs->((rs=[]->E (.ref Z.dq) none H))->((∀rs' r,rs=rs'++[r]->∀p H',aA rl H H'->BAt (clZ Z) K H' bk rl g n0 rs'->SqT K H' p r.deed->Q (.ref p) H'))->ji K Z vs H Q E
include T in
theorem wj:FF P w K mg base (CXf P w) 1 "strike" "Book.strike" j0 oP (ji K Z):=fkF vF fun vs H Q E h=>by
 obtain ⟨bk,rl,g,n0,rs,rfl,hB,q1,q2⟩:=h
 k_all
 refine seg 1 (ah (az (ao au (uX PySem.F.plainAttrs_list PySem.F.slot_list_pop PySem.F.type_list_pop zE (ax (pv' 0))) af))) fun zt1 zh1 ze1=>?_
 refine ⟨_,ae (aN (eK (uV (ax (pv' 0)) (fun _=>rfl))) (ah (bh T.xx (by rfl) T.xp (pa1 aE))) (aC)) zh1,?_⟩
 obtain ⟨⟨dx,f0,hob,hF⟩,as,hrl,hR⟩:=id hB
 k_mem
 refine fgo hob T.dC T.cb rfl ⟨_,.inl ⟨_,SqL.of hrl,rfl⟩,?_⟩
 rcases di rs with rfl | ⟨rs',r,rfl⟩
 ·have e:as=[]:=List.length_eq_zero_iff.mp hR.1
  subst e
  k_upd
  exact ⟨by decide,q1 rfl⟩
 ·obtain ⟨as',a,rfl,hR',dd,s,hra,hdd,hs⟩:=hR.last
  k_upd
  rw [if_neg (by simp)]
  k_upd
  refine fgo hob T.dC T.cb rfl ?_
  k_mem
  refine ⟨.inl ⟨rfl,_,SqL.of hrl⟩,_,hrl,.ref a,by simp,?_⟩
  have k1:L2.aA rl H (upd H rl (HO.lst ((as'++[a]).map V.ref).dropLast)):=(aA.of (aq.refl H)).put
  k_mem
  refine ⟨_,hra.keep k1 hrl,_,rfl,?_⟩
  refine q2 rs' r rfl dd _ k1 ⟨⟨dx,f0,k1 _ _ (fun z=>by rw [z,hrl] at hob;cases hob) hob,hF.keep k1 hrl⟩,as',by rw [ag];simp,hR'.keep k1 hrl⟩ (hdd.keep k1 hrl)
variable (pf:KM P w K mg base (CXf P w) 1 Z.ow "strike" (ji K Z))
inductive nP (K:WA)(Z:Adr)(vs:List V)(H:Hp)(Q:VK)(E:XK):Prop | mk (bk rl:Addr) (g:Cfg) (n0:aM) (rs:List Row):vs=[.ref bk]->BAt (clZ Z) K H bk rl g n0 rs->Q (.int (cS rs)) H->nP K Z vs H Q E
include T in
theorem BK:FF P w K mg base CX0 1 "now" "Book.now" pI vz (nP K Z):=fk0 Bk fun vs H Q E h=>by
 obtain ⟨bk,rl,g,n0,rs,rfl,hB,q⟩:=h
 k_all
 refine seg 1 (ah (az (ao au (ao av (ax (pv' 0)) (aP dB (aH aw (by rfl) T.bN ba (pa1 (ax (pv' 0)))) af)) af))) fun zt1 zh1 ze1=>?_
 refine ⟨_,ae (aN (eK (uV (ax (pv' 0)) (fun _=>rfl))) (ah (az af)) (aC)) zh1,?_⟩
 obtain ⟨⟨dx,f0,hob,hF⟩,as,hrl,hR⟩:=id hB
 k_mem
 refine fgo hob T.dC T.cb rfl ⟨_,.inl ⟨_,SqL.of hrl,rfl⟩,?_⟩
 rcases di rs with rfl | ⟨rs',r,rfl⟩
 ·have e:as=[]:=List.length_eq_zero_iff.mp hR.1
  subst e
  k_upd
  exact q
 ·obtain ⟨as',a,rfl,hR',dd,s,hra,_,_⟩:=hR.last
  k_upd
  rw [if_neg (by simp)]
  k_upd
  refine fgo hob T.dC T.cb rfl ?_
  k_mem
  refine fgo hob T.dC T.cb rfl ?_
  k_mem
  refine ⟨_,.inl (SqL.of hrl),_,SqL.of hrl,_,yf,?_⟩
  k_mem
  refine ⟨_,hra,_,rfl,?_⟩
  rw [sj] at q
  k_upd
  exact q
variable (l5:KM P w K mg base CX0 1 Z.ow "now" (nP K Z))
inductive jj (K:WA)(Z:Adr)(vs:List V)(H:Hp)(Q:VK)(E:XK):Prop | mk (bk rl:Addr) (g:Cfg) (n0:aM) (rs:List Row):vs=[.ref bk]->BAt (clZ Z) K H bk rl g n0 rs->(∀s,eB (clZ Z) K H rl g s (ai n0 rs)->Q (.ref s) H)->jj K Z vs H Q E
include T in
theorem wm:FF P w K mg base CX0 1 "latest" "Book.latest" j1 oQ (jj K Z):=fk0 vG fun vs H Q E h=>by
 obtain ⟨bk,rl,g,n0,rs,rfl,hB,q⟩:=h
 k_all
 refine seg 1 (ah (az (ao au (ao av (ax (pv' 0)) (aP dB (aH aw (by rfl) T.bN ba (pa1 (ax (pv' 0)))) af)) af))) fun zt1 zh1 ze1=>?_
 refine ⟨_,ae (aN (eK (uV (ax (pv' 0)) (fun _=>rfl))) (ah (az (ax (pv' 0)))) (aC)) zh1,?_⟩
 obtain ⟨⟨dx,f0,hob,hF⟩,as,hrl,hR⟩:=id hB
 k_mem
 refine fgo hob T.dC T.cb rfl ⟨_,.inl ⟨_,SqL.of hrl,rfl⟩,?_⟩
 rcases di rs with rfl | ⟨rs',r,rfl⟩
 ·have e:as=[]:=List.length_eq_zero_iff.mp hR.1
  subst e
  k_upd
  exact fgo hob T.dC T.o7 rfl (q f0 hF)
 ·obtain ⟨as',a,rfl,hR',dd,s,hra,_,hs⟩:=hR.last
  k_upd
  rw [if_neg (by simp)]
  k_upd
  refine fgo hob T.dC T.cb rfl ?_
  k_mem
  refine fgo hob T.dC T.cb rfl ?_
  k_mem
  refine ⟨_,.inl (SqL.of hrl),_,SqL.of hrl,_,yf,?_⟩
  k_mem
  refine ⟨_,hra,_,rfl,?_⟩
  rw [jD] at q
  k_upd
  exact q s hs
variable (aI:KM P w K mg base CX0 1 Z.ow "latest" (jj K Z))
inductive l7 (K:WA)(Z:Adr)(vs:List V)(H:Hp)(Q:VK)(E:XK):Prop | mk (bk rl:Addr) (g:Cfg) (n0:aM) (rs:List Row):vs=[.ref bk]->BAt (clZ Z) K H bk rl g n0 rs->rs.length<=1000->(∀(p:Addr) (as:List Addr) (H':Hp),H p=none->aq H H'->H' p=some (.lst (as.map V.ref))->c8 K H' as rs->Q (.ref p) H')->l7 K Z vs H Q E
include T in
theorem z5:FF P w K mg base CX0 1 "told" "Book.told" nv tY (l7 K Z):=fk0 zK fun vs H Q E h=>by
 obtain ⟨bk,rl,g,n0,rs,rfl,hB,hn,q⟩:=h
 k_all
 refine ⟨_,ah (az (jA ["began","ended","deed","speed","standing"] [none,none,none,none,none] (cT (ax (pv' 0))) (fun _ _ _ _=>(show PG _ _ (oH K 5 _) from eV (n:=5) rfl (aG (aB (i:=0) (show (["began","ended","deed","speed","standing"]:List Str).Nodup by decide +kernel) rfl orL) (aG (aB (i:=1) (show (["began","ended","deed","speed","standing"]:List Str).Nodup by decide +kernel) rfl orL) (aG (aB (i:=2) (show (["began","ended","deed","speed","standing"]:List Str).Nodup by decide +kernel) rfl orL) (aG (aB (i:=3) (show (["began","ended","deed","speed","standing"]:List Str).Nodup by decide +kernel) rfl orL) (aG (aB (i:=4) (show (["began","ended","deed","speed","standing"]:List Str).Nodup by decide +kernel) rfl orL) cM))))))) (fun _ _ _ _=>fO) (fun _ _ _ _=>(aQ (pa3 (pv' 0) (pv' 1) (pv' 2)))))),?_⟩
 obtain ⟨⟨dx,f0,hob,hF⟩,as,hrl,hR⟩:=id hB
 have hl:=hR.1
 k_mem
 refine fgo hob T.dC T.cb rfl ?_
 k_mem
 refine ⟨⟨_,SqL.of hrl⟩,?_⟩
 refine mI rs.length (fun i acc H'=>aq H H'/\∃bs:List Addr,acc=bs.map V.ref/\c8 K H' bs (rs.take i)) ⟨aq.refl H,[],rfl,rfl,fun i a r e _=>by simp at e⟩ ?_ ?_ ?_ ?_
 ·rintro i acc H' hi ⟨s1,_⟩
  have hi':i < as.length:=by omega
  k_upd
  exact ⟨_,.ref as[i],SqL.of (s1 _ _ hrl),by rw [List.getElem?_map,List.getElem?_eq_getElem hi'];rfl⟩
 ·rintro acc H' ⟨s1,_⟩
  k_upd
  exact ⟨_,SqL.of (s1 _ _ hrl),by rw [WB];omega⟩
 ·rintro i acc H1 hi ⟨s1,bs,rfl,hb⟩
  have hi':i < as.length:=by omega
  have hbl:=hb.1
  rw [List.length_take] at hbl
  k_upd
  refine ⟨cy (by rw [WB];omega),?_⟩
  rintro x H2 ⟨e2,y⟩ M hM
  subst e2
  have hy:=y _ (SqL.of (s1 _ _ hrl))
  rw [List.getElem?_map,List.getElem?_eq_getElem hi'] at hy
  cases hy
  obtain ⟨dd,s,hra,hdd,_⟩:=hR.2 i _ _ (List.getElem?_eq_getElem hi') (List.getElem?_eq_getElem hi)
  k_mem
  refine ⟨_,s1.tup hra,rfl,?_⟩
  k_mem
  refine ⟨⟨rfl,fun k v e=>?_⟩,?_⟩
  ·match k,e with
   | 0,e=>cases e
   | 1,e=>cases e
   | 2,e=>cases e
   | 3,e=>cases e
   | 4,e=>cases e
   | k+5,e=>simp at e
  ·k_upd
   refine ⟨by decide,fun p hp=>hM _ _ ⟨s1.lay hp,bs++[p],by rw [List.map_append];rfl,?_⟩⟩
   rw [List.take_succ_eq_append_getElem hi]
   exact (hb.same ((aq.refl _).lay hp)).push ⟨dd,SqT.of ag,(s1.lay hp).tup hdd⟩
 ·rintro acc H1 ⟨s1,bs,rfl,hb⟩ p hp
  rw [List.take_length] at hb
  k_upd
  exact q p bs _ (s1.free hp) (s1.lay hp) ag (hb.same ((aq.refl H1).lay hp))
variable (ue:KM P w K mg base CX0 1 Z.ow "told" (l7 K Z))
inductive z6 (K:WA)(Z:Adr)(vs:List V)(H:Hp)(Q:VK)(E:XK):Prop | mk (a:Addr) (ns:List Int) (k:Int):vs=[.ref a,.int k]->SqL K H a (ns.map V.int)->0<=k->Q (.int (ns.getD k.toNat 0)) H->z6 K Z vs H Q E
include T in
theorem JR:FF P w K mg base CX0 1 "_law_at" "_law_at" Di Hv (z6 K Z):=fk0 JL fun vs H Q E h=>by
 obtain ⟨a,ns,k,rfl,hS,hk,q⟩:=h
 k_all
 refine seg 1 (ah (az af)) fun zt1 zh1 ze1=>?_
 refine ⟨_,ae (aN (qG (pv' 1) (aH aw (by rfl) T.bN ba (pa1 (pv' 0)))) (ah (az (ao av (pv' 0) (pv' 1)))) (aC)) zh1,?_⟩
 k_mem
 refine ⟨_,.inl hS,?_⟩
 rw [WB]
 k_upd
 split
 ·rename_i hlt
  k_upd
  exact ⟨_,hS,_,dh hk hlt,q⟩
 ·rename_i hlt
  rw [Gj (by omega)] at q
  k_upd
  exact q
variable (kj:KD P w K mg base CX0 1 "_law_at" (z6 K Z))
def JS (c k n:Int)(H:Hp)(_:Nat)(σ:St)(H':Hp):Prop:=H'=H/\∃r t,σ=[some (.int c),some (.int k),some (.int n),some (.int r),t,none]
inductive tx (K:WA)(Z:Adr)(vs:List V)(H:Hp)(Q:VK)(E:XK):Prop | mk (c k n:Int):vs=[.int c,.int k,.int n]->0<=k->k<=100000->0 < n->(∀r:Int,0<=r->r < n->Q (.int r) H)->tx K Z vs H Q E
include T in
theorem Fi:FF P w K mg base CX0 1 "_law_draw" "_law_draw" vL Ba (tx K Z):=fk0 kL fun vs H Q E h=>by
 obtain ⟨c,k,n,rfl,hk0,hk1,hn,q⟩:=h
 k_all
 refine seg 2 (ah (az (aP lE (eU (bY (aP uO (pv' 5) (aP bt (pv' 5) af)) af) af) (pv' 2)))) fun zt2 zh2 ze2=>?_
 refine seg 1 (ae (aD (i:=5) kL.nd rfl orL (bY (aP bt (aP bt (uP (pv' 0) af) (uP (pv' 1) af)) af) af)) zh2) fun zt1 zh1 ze1=>?_
 refine ⟨_,ae (aN (bQ (bY (pv' 0) af) af) (ae (aD (i:=3) kL.nd rfl orL (eU (pv' 0) af)) (ae (cX PassesOwn.never rfl (bf (by rfl) T.cq (pa1 (pv' 1))) (aB (i:=4) kL.nd rfl orL) (ah (aD (i:=3) kL.nd rfl orL (eU (pv' 3) af)))) (ah (az (aP lE (bY (pv' 3) af) (pv' 2)))))) (aC)) zh1,?_⟩
 k_mem
 split
 ·k_upd
  refine ⟨by omega,by omega,cj (JS c k n H) ⟨rfl,_,_,rfl⟩ ?_ ?_⟩
  ·rintro i σ H' hi ⟨rfl,r,t,rfl⟩
   k_mem
   exact ⟨rfl,_,_,rfl⟩
  ·rintro σ H' ⟨rfl,r,t,rfl⟩
   k_mem
   exact ⟨hn,q _ (Int.emod_nonneg _ (by omega)) (Int.emod_lt_of_pos _ hn)⟩
 ·k_upd
  refine ⟨.inl ⟨by omega,by omega⟩,hn,q _ (Int.emod_nonneg _ (by omega)) (Int.emod_lt_of_pos _ hn)⟩
variable (bX:KD P w K mg base CX0 1 "_law_draw" (tx K Z))
inductive pX (K:WA)(Z:Adr)(vs:List V)(H:Hp)(Q:VK)(E:XK):Prop | mk (a:Addr) (ns:List Int) (k:Int):vs=[.ref a,.int k]->SqL K H a (ns.map V.int)->0<=k->k < ns.length->(∀n:Int,Q (.int n) H)->pX K Z vs H Q E
include T in
theorem Dv:FF P w K mg base CX0 1 "_law_mixed" "_law_mixed" sR yw (pX K Z):=fk0 pM fun vs H Q E h=>by
 obtain ⟨a,ns,k,rfl,hS,hk0,hk1,q⟩:=h
 k_all
 refine ⟨_,ae (aD (i:=2) pM.nd rfl orL (ao av (pv' 0) (pv' 1))) (ae (aN (bQ (bY (ao av (pv' 0) af) af) af) (ah (az (pv' 2))) (aC)) (ae (aD (i:=3) pM.nd rfl orL (bY (aP bt (aP bt (uP (pv' 2) af) (uP (pv' 1) af)) af) af)) (ah (az (bY (aP uO (pv' 3) (aP bt (pv' 3) af)) af))))),?_⟩
 k_mem
 refine ⟨_,hS,_,dh hk0 hk1,_,hS,_,dh (ns:=ns) (k:=0) (by omega) (by omega),?_⟩
 k_mem
 split
 ·exact q _
 ·exact ⟨.inl ⟨by omega,by omega⟩,q _⟩
variable (yP:KD P w K mg base CX0 1 "_law_mixed" (pX K Z))
def Nt (a:Addr)(c pl:Int)(dp:Int)(ds:List Int)(H:Hp)(i:Nat)(σ:St)(H':Hp):Prop:=H'=H/\(∃t,σ=[some (.ref a),some (.int c),some (.int pl),some (.int dp),t])/\∀j,j < i->ds.getD j 0≠dp
theorem two_deep {p q c:Int}(h0:0<=c)(h1:c < 2):atI [V.int p,V.int q] c=some (.int (if c=0 then p else q)):=by
 rcases (by omega:c=0\/c=1) with rfl | rfl<;>rfl
inductive z7 (K:WA)(Z:Adr)(vs:List V)(H:Hp)(Q:VK)(E:XK):Prop | mk (a:Addr) (ds:List Int) (c pl:Int):vs=[.ref a,.int c,.int pl]->SqL K H a (ds.map V.int)->cf ds->0<=c->c < 2->(∀H',aq H H'->Q (.int ((aT ds pl c).getD (-1))) H')->z7 K Z vs H Q E
include T in
theorem JT:FF P w K mg base CX0 1 "_law_by" "_law_by" Dj Hw (z7 K Z):=fk0 zM fun vs H Q E h=>by
 obtain ⟨a,ds,c,pl,rfl,hS,hsh,h0,h1,q⟩:=h
 k_all
 refine seg 2 (ah (az (gJ dj af))) fun zt2 zh2 ze2=>?_
 refine seg 1 (ae (cX PassesOwn.never rfl (bf (by rfl) T.cq (pa1 (aH aw (by rfl) T.bN ba (pa1 (pv' 0))))) (aB (i:=4) zM.nd rfl orL) (ah (aN (bQ (ao av (pv' 0) (pv' 4)) (pv' 3)) (ah (az (pv' 4))) (aC)))) zh2) fun zt1 zh1 ze1=>?_
 refine ⟨_,ae (aD (i:=3) zM.nd rfl orL (ao av (bc (pa2 (pv' 2) (aP dB (ao av (pv' 0) (gJ dj af)) (pv' 2)))) (pv' 1))) zh1,?_⟩
 have l6:=hsh.l6
 have l2:=hsh.l2
 k_mem
 refine ⟨_,hS,_,Cs (by omega),?_⟩
 k_mem
 refine ⟨by decide,fun p hp=>⟨_,SqL.of ag,_,two_deep h0 h1,?_⟩⟩
 have s1:=(aq.refl H).lay (o:=HO.lst [V.int pl,V.int (cu ds - pl)]) hp
 generalize upd H p (HO.lst [V.int pl,V.int (cu ds - pl)])=H1 at *
 have ec:aT ds pl c=lvl ds (if c=0 then pl else cu ds - pl):=by unfold aT;split<;>rfl
 generalize (if c=0 then pl else cu ds - pl)=dp at *
 k_mem
 refine ⟨_,.inl (s1.seq hS),by omega,by rw [WB];omega,?_⟩
 k_upd
 refine cj (Nt a c pl dp ds H1) ⟨rfl,⟨_,rfl⟩,fun _ h=>absurd h (Nat.not_lt_zero _)⟩ ?_ ?_
 ·rintro i σ H' hi ⟨rfl,⟨t,rfl⟩,hj⟩
  rw [WB] at hi
  have hi':i < ds.length:=by omega
  k_mem
  refine ⟨_,s1.seq hS,_,by rw [Int.zero_add];exact gL hi',?_⟩
  k_mem
  split
  ·rename_i he
   rw [Int.zero_add]
   have q':=q _ s1
   rw [ec,iV hsh hi' he] at q'
   k_upd
   exact q'
  ·rename_i he
   k_upd
   refine ⟨rfl,⟨_,rfl⟩,fun j hj'=>?_⟩
   by_cases e:j=i
   ·rw [e];exact he
   ·exact hj j (by omega)
 ·rintro σ H' ⟨rfl,⟨t,rfl⟩,hj⟩
  k_mem
  have q':=q _ s1
  rw [ec,AE (fun i hi=>hj i (by rw [WB];omega))] at q'
  k_upd
  exact q'
variable (l8:KD P w K mg base CX0 1 "_law_by" (z7 K Z))
theorem JU (x:List V)(k:Nat)(h:k < x.length):qo x none (some (k:Int))=x.take k/\¬(HT.sIx x.length 0 none=0/\HT.sIx x.length x.length (some (k:Int))=x.length):=by
 have e:HT.sIx x.length x.length (some (k:Int))=k:=by simp only [HT.sIx];split<;>omega
 refine ⟨?_,fun z=>by rw [e] at z;omega⟩
 unfold qo
 rw [e]
 simp [HT.sIx]
theorem JV (x:List V)(k:Nat)(h0:0 < k)(h:k<=x.length):qo x (some (k:Int)) none=x.drop k/\¬(HT.sIx x.length 0 (some (k:Int))=0/\HT.sIx x.length x.length none=x.length):=by
 have e:HT.sIx x.length 0 (some (k:Int))=k:=by simp only [HT.sIx];split<;>omega
 refine ⟨?_,fun z=>by rw [e] at z;omega⟩
 unfold qo
 rw [e]
 simp only [HT.sIx]
 exact List.take_of_length_le (by simp)
theorem HM (x:List V)(k:Nat)(v:V)(h:k < x.length):x.take k++[v]++x.drop (k+1)=x.set k v:=by
 rw [List.set_eq_take_append_cons_drop,if_pos h,List.append_assoc];rfl
inductive tD (K:WA)(Z:Adr)(vs:List V)(H:Hp)(Q:VK)(E:XK):Prop | mk (t:Addr) (x:List V) (k:Int) (s:V):vs=[.ref t,.int k,s]->SqT K H t x->0<=k->k < x.length->x.length<=100->(∀p H',aq H H'->H' p=some (.tup (x.set k.toNat s))->Q (.ref p) H')->tD K Z vs H Q E
include T in
theorem Fj:FF P w K mg base CX0 1 "_law_swap" "_law_swap" vN Bc (tD K Z):=fk0 Fg fun vs H Q E h=>by
 obtain ⟨t,x,k,s,rfl,hT,h0,h1,hl,q⟩:=h
 k_all
 refine ⟨_,ah (az (aP A7 (aP A7 (iR Ep (pv' 0) uG (fi (pv' 1))) (aQ (pa1 (pv' 2)))) (iR Ep (pv' 0) (fi (aP bt (pv' 1) af)) uG))),?_⟩
 obtain ⟨k,rfl⟩:=Int.eq_ofNat_of_zero_le h0
 rw [Int.toNat_natCast,←HM x k s (by omega)] at q
 obtain ⟨c1,n1⟩:=JU x k (by omega)
 obtain ⟨c2,n2⟩:=JV x (k+1) (by omega) (by omega)
 k_mem
 rw [show ((k:Int)+1)=((k+1:Nat):Int) from rfl]
 k_upd
 refine ⟨_,hT,n1,?_⟩
 rw [c1]
 refine fun p1 h1'=>⟨by decide,fun p2 h2'=>⟨_,upo ag h2',_,ag,(by rw [List.length_take];show _+1<=1000;omega),fun p3 H3 s3 t3=>?_⟩⟩
 have s2:=(((aq.refl H).lay h1').lay h2').trans s3
 k_upd
 refine ⟨_,s2.tup hT,n2,?_⟩
 rw [c2]
 refine fun p4 h4=>⟨_,upo t3 h4,_,ag,(by simp only [List.length_append,List.length_take,List.length_drop,List.length_singleton];omega),fun p5 H5 s5 t5=>?_⟩
 k_upd
 exact q p5 H5 ((s2.lay h4).trans s5) t5
variable (rq:KD P w K mg base CX0 1 "_law_swap" (tD K Z))
theorem Fk {w s t:Int}(hs:1<=s)(h1:w<=t * s)(h2:t=0\/(t - 1) * s < w)(h0:0<=t)(hw:0<=w):t=zl w s:=by
 have c:=Ct (w:=w) (s:=s) hw (by omega)
 unfold zl
 generalize (w+s - 1) / s=u at *
 obtain ⟨u0,u1,u2,_⟩:=c
 rcases Int.lt_trichotomy t u with h | h | h
 ·exfalso
  have:t<=u - 1:=by omega
  have:=Int.mul_le_mul_of_nonneg_right this (show 0<=s by omega)
  omega
 ·exact h
 ·exfalso
  rcases h2 with rfl | h2
  ·omega
  ·have:u<=t - 1:=by omega
   have:=Int.mul_le_mul_of_nonneg_right this (show 0<=s by omega)
   omega
inductive pY (K:WA)(Z:Adr)(vs:List V)(H:Hp)(Q:VK)(E:XK):Prop | mk (wy sp:Int):vs=[.int wy,.int sp]->0<=wy->wy<=100000->1<=sp->sp<=100000->Q (.int (zl wy sp)) H->pY K Z vs H Q E
include T in
theorem Dw:FF P w K mg base CX0 1 "_law_lasts" "_law_lasts" sW yB (pY K Z):=fk0 pO fun vs H Q E h=>by
 obtain ⟨wy,sp,rfl,h0,h1,h2,h3,q⟩:=h
 k_all
 refine seg 2 (ah (az (pv' 2))) fun zt2 zh2 ze2=>?_
 refine seg 1 (ae (FG PassesOwn.never (qG (aP uO (pv' 2) (pv' 1)) (pv' 0)) (ah (aD (i:=2) pO.nd rfl orL (aP bt (pv' 2) af)))) zh2) fun zt1 zh1 ze1=>?_
 refine ⟨_,ae (aD (i:=2) pO.nd rfl orL af) zh1,?_⟩
 k_mem
 refine FI (fun σ H'=>H'=H/\∃t:Int,σ=[some (.int wy),some (.int sp),some (.int t)]/\0<=t/\t<=wy/\(t=0\/(t - 1) * sp < wy)) (fun σ H'=>match σ with | [_,_,some (.int t)]=>(wy - t).toNat | _=>0) ⟨rfl,0,rfl,by omega,by omega,.inl rfl⟩ ?_ ?_
 ·rintro σ H' ⟨rfl,t,rfl,t0,t1,t2⟩
  k_mem
  have tm:t * 1<=t * sp:=Int.mul_le_mul_of_nonneg_left h2 t0
  k_upd
  refine ⟨.inl ⟨by omega,by omega⟩,?_⟩
  k_upd
  split
  ·rename_i hlt
   k_upd
   refine ⟨⟨rfl,t+1,rfl,by omega,by omega,.inr (by rw [Int.add_sub_cancel];exact hlt)⟩,?_⟩
   show (wy - (t+1)).toNat < (wy - t).toNat
   omega
  ·rename_i hge
   rw [←Fk h2 (by omega) t2 t0 h0] at q
   k_upd
   exact q
 ·intro σ H' R R' hq h
  exact onO.mono (fun v=>onO.mono fun v1=>onI.mono fun i=>onI.mono fun j=>And.imp_right (onO.mono fun v2=>onI.mono fun j2=>onI.mono fun j3 z=>by split at z<;>rename_i c<;>(first | rw [if_pos c] | rw [if_neg c])<;>exact hq _ _ z)) h
variable (yQ:KD P w K mg base CX0 1 "_law_lasts" (pY K Z))
def BL (p lt:Addr)(ks:List Str)(ws:List Int)(H:Hp)(i:Nat)(σ:St)(H':Hp):Prop:=H'=H/\(∃t,σ=[some (.ref p),some (.ref lt),t])/\∀j k x,j < i->ks[j]?=some k->ws[j]?=some x->(decide (k="men") && decide (x=10\/x=11))=false
inductive pZ (K:WA)(Z:Adr)(vs:List V)(H:Hp)(Q:VK)(E:XK):Prop | mk (p dl cl ll lt:Addr) (g:Cfg) (lds:List Ld) (ws:List Int):vs=[.ref p,.ref lt]->dN K H p dl cl ll g lds->SqT K H lt (ws.map V.int)->ws.length=lds.length->ws.length<=30->((∀x∈ws,x < 10\/x=10\/x=11))->Q (.int (if AG g.ks ws=true then g.slow else g.fast)) H->pZ K Z vs H Q E
include T in
theorem Dx:FF P w K mg base CX0 1 "_law_speed" "_law_speed" sX yC (pZ K Z):=fk0 vO fun vs H Q E h=>by
 obtain ⟨p,dl,cl,ll,lt,g,lds,ws,rfl,hP,hL,hlen,h30,hwr,q⟩:=h
 k_all
 refine seg 1 (ah (az (ao av (pv' 0) af))) fun zt1 zh1 ze1=>?_
 refine ⟨_,ae (cX PassesOwn.never rfl (bf (by rfl) T.cq (pa1 (aH aw (by rfl) T.bN ba (pa1 (pv' 1))))) (aB (i:=2) vO.nd rfl orL) (ah (aN (kZ (A9 (ao au (pv' 1) (pv' 2)) af) (jy (bQ (ao au (ao av (ao av (pv' 0) af) (pv' 2)) af) aE))).pt (ah (az (ao av (pv' 0) af))) (aC)))) zh1,?_⟩
 obtain ⟨hp,_,_,⟨bs,hll,hT2⟩,ek⟩:=id hP
 have hbl:=hT2.1
 k_mem
 refine ⟨_,.inr hL,by omega,by rw [WB];omega,?_⟩
 rw [WB]
 k_upd
 refine cj (BL p lt g.ks ws H) ⟨rfl,⟨_,rfl⟩,fun j _ _ hj=>absurd hj (Nat.not_lt_zero _)⟩ ?_ ?_
 ·rintro i σ H' hi ⟨rfl,⟨t,rfl⟩,hj⟩
  have hi':i < ws.length:=by omega
  have hw:ws[i]?=some (ws.getD i 0):=kF hi'
  have hx:=hwr _ (cH hi')
  have ha:bs[i]?=some (bs[i]'(by omega)):=List.getElem?_eq_getElem (by omega)
  have hld:lds[i]?=some (lds[i]'(by omega)):=List.getElem?_eq_getElem (by omega)
  have hrow:=hT2.2 i _ _ ha hld
  have hk:g.ks[i]?=some (lds[i]'(by omega)).1:=by rw [ek,List.getElem?_map,hld];rfl
  have no:(decide ((lds[i]'(by omega)).1="men") && decide (ws.getD i 0=10\/ws.getD i 0=11))=false->BL p lt g.ks ws H' (i+1) [some (V.ref p),some (V.ref lt),some (V.int (0+(i:Int)))] H':=fun hn=>by
   refine ⟨rfl,⟨_,rfl⟩,fun j k x hj' e1 e2=>?_⟩
   by_cases e:j=i
   ·subst e
    rw [hk] at e1;rw [hw] at e2
    cases e1;cases e2
    exact hn
   ·exact hj j k x (by omega) e1 e2
  k_mem
  refine ⟨_,hL,_,by rw [Int.zero_add];exact gL hi',?_⟩
  k_mem
  split
  ·rename_i h10
   k_upd
   refine ⟨_,SqL.of hp,_,rfl,?_⟩
   k_mem
   refine ⟨_,SqL.of hll,_,by rw [Int.zero_add];exact lu (by rw [List.getElem?_map,ha];rfl),?_⟩
   k_mem
   refine ⟨_,hrow,_,rfl,?_⟩
   k_mem
   split
   ·rename_i hm
    have hm':(lds[i]'(by omega)).1="men":=hm
    rw [AH hk hw hm' (by omega),if_pos rfl] at q
    k_upd
    exact ⟨_,SqL.of hp,_,rfl,q⟩
   ·rename_i hm
    exact no (by rw [decide_eq_false hm];rfl)
  ·rename_i h10
   exact no (by rw [decide_eq_false (p:=ws.getD i 0=10\/ws.getD i 0=11) (by omega),Bool.and_false])
 ·rintro σ H' ⟨rfl,⟨t,rfl⟩,hj⟩
  k_mem
  rw [yg hj (.inr (by omega)),if_neg Bool.false_ne_true] at q
  k_upd
  exact ⟨_,SqL.of hp,_,rfl,q⟩
variable (yR:KD P w K mg base CX0 1 "_law_speed" (pZ K Z))
theorem Fl (ls:List Cd):cO (ls.map fun _=>false)=[]:=by
 unfold cO jT
 rw [List.filter_eq_nil_iff.mpr]
 ·rfl
 ·intro j _
  rw [LO]
  exact Bool.false_ne_true
inductive p7 (K:WA)(Z:Adr)(vs:List V)(H:Hp)(Q:VK)(E:XK):Prop | mk (p dl cl ll:Addr) (ds:List Int) (ls:List Cd) (slow fast:Int) (lds:List Ld) (N0:Addr->Prop):vs=[.ref p]->dN K H p dl cl ll (dS ds ls slow fast lds N0) lds->2<=ds.length->ds.length<=6->lds.length<=30->(∀a H',aq H H'->iB K H' a (fe ds ls lds,0)->Q (.ref a) H')->p7 K Z vs H Q E
include T in
theorem Dy:FF P w K mg base CX0 1 "_law_first" "_law_first" sY yD (p7 K Z):=fk0 pP fun vs H Q E h=>by
 obtain ⟨p,dl,cl,ll,ds,ls,slow,fast,lds,N0,rfl,hP,l2,l6,h30,q⟩:=h
 k_all
 refine seg 2 (ah (az (aQ (cV (ao av (ao av (pv' 0) af) af) (cV (aP Hu (aQ (pa1 iQ)) (pv' 1)) (pa4 (pv' 2) (aQ (pa4 aE eJ eJ eJ)) (aQ ff) af)))))) fun zt2 zh2 ze2=>?_
 refine seg 1 (ae (aD (i:=2) pP.nd rfl orL (bg mR (by rfl) T.rj mH (pa1 (jA ["_law_one"] [none] (cT (ao av (pv' 0) af)) (fun _ _ _ _=>(aB (i:=0) (show (["_law_one"]:List Str).Nodup by decide +kernel) rfl orL)) (fun _ _ _ _=>fO) (fun _ _ _ _=>(ao (show IxR _ (qC K) from au) (pv' 0) af)))))) zh2) fun zt1 zh1 ze1=>?_
 refine ⟨_,ae (aD (i:=1) pP.nd rfl orL (aH aw (by rfl) T.bN ba (pa1 (ao av (pv' 0) af)))) zh1,?_⟩
 obtain ⟨hp,hdl,_,⟨bs,hll,hT2⟩,_⟩:=id hP
 replace hdl:H dl=some (HO.lst (ds.map V.int)):=hdl
 replace hp:H p=some (HO.lst [V.ref dl,V.ref cl,V.int slow,V.int fast,V.ref ll]):=hp
 have hbl:=hT2.1
 k_mem
 refine ⟨_,SqL.of hp,_,rfl,?_⟩
 k_mem
 refine ⟨_,.inl (SqL.of hdl),?_⟩
 rw [WB]
 k_upd
 refine ⟨_,SqL.of hp,_,rfl,?_⟩
 k_mem
 refine ⟨⟨_,SqL.of hll⟩,?_⟩
 refine IT (fun x=>.int x.2.1) ⟨bs,SqL.of hll,hT2⟩ (by rw [sizeLine_eq];omega) rfl (fun b x hb N hN=>by k_mem;exact ⟨_,hb,_,rfl,hN⟩) fun l1 hl1=>?_
 have s1:=(aq.refl H).lay (o:=HO.lst (lds.map fun x=>V.int x.2.1)) hl1
 k_mem
 refine ⟨_,.inl ⟨SqL.of ag,fun lt hlt=>?_⟩⟩
 have s2:=s1.lay (o:=HO.tup (lds.map fun x=>V.int x.2.1)) hlt
 have ht2:upd (upd H l1 (HO.lst (lds.map fun x=>V.int x.2.1))) lt (HO.tup (lds.map fun x=>V.int x.2.1)) lt=some (HO.tup ((lds.map (·.2.1)).map V.int)):=by rw [ag,List.map_map];rfl
 generalize upd (upd H l1 (HO.lst (lds.map fun x=>V.int x.2.1))) lt (HO.tup (lds.map fun x=>V.int x.2.1))=H2 at *
 k_upd
 refine ⟨_,SqL.of (s2 _ _ hp),_,rfl,?_⟩
 k_mem
 refine ⟨_,SqL.of (s2 _ _ hdl),_,dh (k:=0) (by omega) (by omega),by decide,fun p1 hp1=>⟨_,SqT.of ag,by omega,by omega,fun gt hgt=>⟨by decide,fun ht hht=>⟨by decide,fun dt hdt=>⟨by decide,fun a ha=>?_⟩⟩⟩⟩⟩
 have eg:List.replicate ((ds.length:Nat):Int).toNat (V.bl false)=(ds.map fun _=>false).map V.bl:=by
  rw [List.map_map,Int.toNat_natCast]
  exact (List.map_const' (l:=ds) (b:=V.bl false)).symm
 refine q a _ (((((s2.lay hp1).lay hgt).lay hht).lay hdt).lay ha) ⟨gt,lt,ht,dt,SqT.of ag,SqT.of ?_,upo (upo (upo (upo (upo ht2 hp1) hgt) hht) hdt) ha,SqT.of (upo (upo ag hdt) ha),SqT.of ?_⟩
 ·rw [upo (upo (upo ag hht) hdt) ha,eg];rfl
 ·rw [upo ag ha]
  show _=some (HO.tup ((cO (ls.map fun _=>false)).map V.int))
  rw [Fl];rfl
variable (yS:KD P w K mg base CX0 1 "_law_first" (p7 K Z))
inductive p8 (K:WA)(Z:Adr)(vs:List V)(H:Hp)(Q:VK)(E:XK):Prop | mk (ht dd:Addr) (g:Cfg) (n:aM) (d:Dd):vs=[.ref ht,.ref dd]->SqT K H ht (lz n.e)->SqT K H dd (ddV d)->eI g n d=none->(∀h H',aq H H'->SqT K H' h (lz (vg g n d))->Q (.ref h) H')->p8 K Z vs H Q E
include T in
theorem Dz:FF P w K mg base CX0 1 "_law_heard" "_law_heard" sZ yE (p8 K Z):=fk0 vP fun vs H Q E h=>by
 obtain ⟨ht,dd,g,n,d,rfl,hH,hD,hr,q⟩:=h
 k_all
 refine seg 3 (ah (az (pv' 0))) fun zt3 zh3 ze3=>?_
 refine seg 2 (ae (aN (bQ (ao au (pv' 1) af) aE) (ah (az (aQ (pa4 aE (ao au (pv' 0) af) (ao au (pv' 0) af) (ao au (pv' 0) af))))) (aC)) zh3) fun zt2 zh2 ze2=>?_
 refine seg 1 (ae (aN (bQ (ao au (pv' 1) af) aE) (ae (aD (i:=2) vP.nd rfl orL (ao av (bc (pa2 aE aE)) (bg gw (by rfl) T.ua mG (pa1 (cG fT (ao au (pv' 1) af) (ao au (pv' 0) af) (bL _)))))) (ah (az (aQ (pa4 (pv' 2) (ao au (pv' 0) af) (ao au (pv' 0) af) (ao au (pv' 1) af)))))) (aC)) zh2) fun zt1 zh1 ze1=>?_
 refine ⟨_,ae (aN (bQ (ao au (pv' 1) af) aE) (ah (az (aQ (pa4 aE (ao au (pv' 1) af) (ao au (pv' 1) af) eJ)))) (aC)) zh1,?_⟩
 have q0:vg g n d=n.e->Q (.ref ht) H:=fun e=>q ht H (aq.refl H) (by rw [e];exact hH)
 cases d with
 | ring l s=>
  k_mem
  refine ⟨_,hD,_,rfl,?_⟩
  k_mem
  rw [if_pos rfl]
  k_upd
  refine ⟨_,hD,_,rfl,_,hD,_,rfl,by decide,fun p hp=>?_⟩
  k_upd
  exact q p _ ((aq.refl H).lay hp) (SqT.of ag)
 | rept s=>
  obtain ⟨l,r,e,_⟩:=AL hr
  have ee:vg g n (.rept s)=if s=r then .armed l r else .other l r s:=by simp only [vg,e]
  rw [e] at hH
  rw [ee] at q
  k_mem
  refine ⟨_,hD,_,rfl,?_⟩
  k_mem
  rw [if_neg (by decide)]
  k_upd
  refine ⟨_,hD,_,rfl,?_⟩
  k_mem
  rw [if_pos rfl]
  k_upd
  refine ⟨by decide,fun p1 hp1=>⟨_,((aq.refl H).lay hp1).tup hD,_,rfl,_,((aq.refl H).lay hp1).tup hH,_,rfl,?_⟩⟩
  k_mem
  have s1:=(aq.refl H).lay (o:=HO.lst [V.str (Str.ofString "repeated otherwise"),V.str (Str.ofString "armed")]) hp1
  k_upd
  refine ⟨_,SqL.of ag,.str (if s=r then "armed" else "repeated otherwise"),?_,_,s1.tup hH,_,rfl,_,s1.tup hH,_,rfl,_,s1.tup hD,_,rfl,by decide,fun p hp=>?_⟩
  ·by_cases h:s=r
   ·simp only [h,decide_true,if_true];rfl
   ·simp only [h,decide_false,if_false,Bool.false_eq_true];rfl
  ·refine q p _ (s1.lay hp) (SqT.of ?_)
   rw [ag]
   by_cases h:s=r
   ·subst h;simp only [if_true];rfl
   ·rw [if_neg h,if_neg h];rfl
 | wind c l k=>
  obtain ⟨_,_,e⟩:=vi hr
  rw [e] at hH
  k_mem
  refine ⟨_,hD,_,rfl,?_⟩
  k_mem
  rw [if_neg (by decide)]
  k_upd
  refine ⟨_,hD,_,rfl,?_⟩
  k_mem
  rw [if_neg (by decide)]
  k_upd
  refine ⟨_,hD,_,rfl,?_⟩
  k_mem
  rw [if_pos rfl]
  k_upd
  refine ⟨_,hH,_,rfl,_,hH,_,rfl,_,hH,_,rfl,by decide,fun p hp=>?_⟩
  k_upd
  exact q p _ ((aq.refl H).lay hp) (SqT.of ag)
 | _=>
  k_mem
  refine ⟨_,hD,_,rfl,?_⟩
  k_mem
  rw [if_neg (by decide)]
  k_upd
  refine ⟨_,hD,_,rfl,?_⟩
  k_mem
  rw [if_neg (by decide)]
  k_upd
  refine ⟨_,hD,_,rfl,?_⟩
  k_mem
  rw [if_neg (by decide)]
  k_upd
  exact q0 rfl
variable (yT:KD P w K mg base CX0 1 "_law_heard" (p8 K Z))
inductive jk (K:WA)(Z:Adr)(vs:List V)(H:Hp)(Q:VK)(E:XK):Prop | mk (lv m:Int):vs=[.int lv,.int m]->((0<=lv/\lv < m->Q .non H)/\(¬(0<=lv/\lv < m)->E (.ref Z.aF) none H))->jk K Z vs H Q E
include T fE in
theorem wo:FF P w K mg base (CXf P w) 2 "check_level" "check_level" jU oI (jk K Z):=fkF vB fun vs H Q E h=>by
 obtain ⟨lv,m,rfl,q1,q2⟩:=h
 k_all
 refine ⟨_,ah (aN (eK (cx (dc0 fE hr.dn (pa2 (pv' 0) (pv' 1))))) (ah (bh T.v5 (by rfl) T.nE (pa1 aE))) (aC)),?_⟩
 k_mem
 refine ⟨_,_,rfl,?_⟩
 k_mem
 split
 ·rename_i h
  k_upd
  exact ⟨by decide,q2 h⟩
 ·rename_i h
  k_upd
  exact q1 (by simpa using h)
variable (bz:KD P w K mg base (CXf P w) 2 "check_level" (jk K Z))
inductive kl (K:WA)(Z:Adr)(vs:List V)(H:Hp)(Q:VK)(E:XK):Prop | mk (n m:Int):vs=[.int n,.int m]->((0<=n/\n < m->Q .non H)/\(¬(0<=n/\n < m)->E (.ref Z.cE) none H))->kl K Z vs H Q E
include T fE in
theorem xE:FF P w K mg base (CXf P w) 2 "check_load" "check_load" lH qH (kl K Z):=fkF xa fun vs H Q E h=>by
 obtain ⟨n,m,rfl,q1,q2⟩:=h
 k_all
 refine ⟨_,ah (aN (eK (cx (dc0 fE hr.dn (pa2 (pv' 0) (pv' 1))))) (ah (bh T.xq (by rfl) T.xn (pa1 aE))) (aC)),?_⟩
 k_mem
 refine ⟨_,_,rfl,?_⟩
 k_mem
 split
 ·rename_i h
  k_upd
  exact ⟨by decide,q2 h⟩
 ·rename_i h
  k_upd
  exact q1 (by simpa using h)
variable (iI:KD P w K mg base (CXf P w) 2 "check_load" (kl K Z))
def Nu (l:Addr)(m:Int)(ls:List Ld)(H:Hp)(i:Nat)(σ:St)(H':Hp):Prop:=H'=H/\(∃t u v,σ=[some (.ref l),some (.int m),t,u,v])/\∀(j:Nat) x,j < i->ls[j]?=some x->iU m x
inductive jl (K:WA)(Z:Adr)(vs:List V)(H:Hp)(Q:VK)(E:XK):Prop | mk (l:Addr) (ls:List Ld) (m:Int):vs=[.ref l,.int m]->fv K H l ls->(((ls.length<=30/\∀x∈ls,iU m x)->Q .non H))->((¬(ls.length<=30/\∀x∈ls,iU m x)->E (.ref Z.gg) none H))->jl K Z vs H Q E
include T fE in
theorem wq:FF P w K mg base (CXf P w) 2 "check_loads" "check_loads" jV oJ (jl K Z):=fkF fU fun vs H Q E h=>by
 obtain ⟨l,ls,m,rfl,hL,q1,q2⟩:=h
 k_all
 refine seg 1 (ah (cX u6 rfl (cT (pv' 0)) (eV rfl (aG (aB (i:=2) fU.nd rfl orL) (aG (aB (i:=3) fU.nd rfl orL) (aG (aB (i:=4) fU.nd rfl orL) cM)))) (ah (aN (oC (eK (cx (dc0 fE hr.dn (pa2 (pv' 3) (pv' 1))))) (kY (eK (cx (dc0 fE hr.dn (pa2 (pv' 4) (pv' 1))))))).pt (ah (bh T.v8 (by rfl) T.vW (pa1 aE))) (aC))))) fun zt1 zh1 ze1=>?_
 refine ⟨_,ae (aN (A8 (aH aw (by rfl) T.bN ba (pa1 (pv' 0))) (dD (by rfl) T.zP)) (ah (bh T.v8 (by rfl) T.vW (pa1 aE))) (aC)) zh1,?_⟩
 obtain ⟨as,hS,hlen,hT⟩:=id hL
 k_mem
 refine ⟨_,.inl hS,?_⟩
 rw [WB]
 k_upd
 split
 ·k_upd
  exact ⟨by decide,q2 fun h=>by omega⟩
 ·k_upd
  refine ⟨⟨_,hS⟩,?_⟩
  k_upd
  refine iK (as.map V.ref) (Nu l m ls H) ⟨rfl,⟨_,_,_,rfl⟩,fun j x h=>absurd h (Nat.not_lt_zero _)⟩ (fun i σ H' _ ⟨e,_⟩=>by rw [e];exact hS) ?_ ?_
  ·rintro i x σ H' hx ⟨rfl,⟨t,u,v,rfl⟩,hj⟩
   rw [List.getElem?_map] at hx
   obtain ⟨a,ea,rfl⟩:=Option.map_eq_some_iff.mp hx
   have hi:i < as.length:=(List.getElem?_eq_some_iff.mp ea).1
   have el:ls[i]?=some ls[i]:=List.getElem?_eq_getElem (by omega)
   have hm:ls[i]∈ls:=List.getElem_mem _
   k_mem
   refine ⟨_,hT i a _ ea el,rfl,?_⟩
   k_mem
   refine ⟨_,_,rfl,?_⟩
   k_mem
   split
   ·rename_i h1
    k_upd
    exact ⟨by decide,q2 fun h=>h1 (h.2 _ hm).1⟩
   ·rename_i h1
    k_upd
    refine ⟨_,_,rfl,?_⟩
    k_mem
    split
    ·rename_i h2
     k_upd
     exact ⟨by decide,q2 fun h=>h2 (h.2 _ hm).2⟩
    ·rename_i h2
     k_upd
     refine ⟨rfl,⟨_,_,_,rfl⟩,fun j x hj' hx=>?_⟩
     by_cases e:j=i
     ·rw [e,el] at hx
      cases hx
      k_upd
      exact ⟨by omega,by omega⟩
     ·exact hj j x (by omega) hx
  ·rintro σ H' ⟨rfl,⟨t,u,v,rfl⟩,hj⟩
   k_mem
   refine q1 ⟨by omega,fun x hx=>?_⟩
   obtain ⟨j,hj1,rfl⟩:=List.getElem_of_mem hx
   rw [WB] at hj
   exact hj j _ (by omega) (List.getElem?_eq_getElem hj1)
variable (ph:KD P w K mg base (CXf P w) 2 "check_loads" (jl K Z))
def Nv (l:Addr)(m:Int)(ls:List Cd)(H:Hp)(i:Nat)(σ:St)(H':Hp):Prop:=H'=H/\(∃t u,σ=[some (.ref l),some (.int m),t,u])/\∀(j:Nat) x,j < i->ls[j]?=some x->eL x
inductive jm (K:WA)(Z:Adr)(vs:List V)(H:Hp)(Q:VK)(E:XK):Prop | mk (l:Addr) (ls:List Cd) (m:Int):vs=[.ref l,.int m]->jR cdV K H l ls->((((ls.length:Int)=m/\∀x∈ls,eL x)->Q .non H))->((¬((ls.length:Int)=m/\∀x∈ls,eL x)->E (.ref Z.gh) none H))->jm K Z vs H Q E
include T ft in
theorem wu:FF P w K mg base (CXf P w) 2 "check_codes" "check_codes" jX oM (jm K Z):=fkF i4 fun vs H Q E h=>by
 obtain ⟨l,ls,m,rfl,hL,q1,q2⟩:=h
 k_all
 refine seg 1 (ah (cX u6 rfl (cT (pv' 0)) (eV rfl (aG (aB (i:=2) i4.nd rfl orL) (aG (aB (i:=3) i4.nd rfl orL) cM))) (ae (aN (oC (eK (cx (dc0 ft hr.dn (pa1 (pv' 2))))) (kY (eK (cx (dc0 ft hr.dn (pa1 (pv' 3))))))).pt (ah (bh T.pT (by rfl) T.pR (pa1 aE))) (aC)) (ah (aN (bQ (pv' 2) (pv' 3)) (ah (bh T.pT (by rfl) T.pR (pa1 aE))) (aC)))))) fun zt1 zh1 ze1=>?_
 refine ⟨_,ae (aN (tS (aH aw (by rfl) T.bN ba (pa1 (pv' 0))) (pv' 1)) (ah (bh T.pT (by rfl) T.pR (pa1 aE))) (aC)) zh1,?_⟩
 obtain ⟨as,hS,hlen,hT⟩:=id hL
 k_mem
 refine ⟨_,.inl hS,?_⟩
 rw [WB]
 k_upd
 split
 ·k_upd
  exact ⟨by decide,q2 fun h=>by omega⟩
 ·k_upd
  refine ⟨⟨_,hS⟩,?_⟩
  k_upd
  refine iK (as.map V.ref) (Nv l m ls H) ⟨rfl,⟨_,_,rfl⟩,fun j x h=>absurd h (Nat.not_lt_zero _)⟩ (fun i σ H' _ ⟨e,_⟩=>by rw [e];exact hS) ?_ ?_
  ·rintro i x σ H' hx ⟨rfl,⟨t,u,rfl⟩,hj⟩
   rw [List.getElem?_map] at hx
   obtain ⟨a,ea,rfl⟩:=Option.map_eq_some_iff.mp hx
   have hi:i < as.length:=(List.getElem?_eq_some_iff.mp ea).1
   have el:ls[i]?=some ls[i]:=List.getElem?_eq_getElem (by omega)
   have hm:ls[i]∈ls:=List.getElem_mem _
   k_mem
   refine ⟨_,hT i a _ ea el,rfl,?_⟩
   k_mem
   refine ⟨_,rfl,?_⟩
   k_mem
   split
   ·rename_i h1
    k_upd
    exact ⟨by decide,q2 fun h=>h1 (h.2 _ hm).1⟩
   ·rename_i h1
    k_upd
    refine ⟨_,rfl,?_⟩
    k_mem
    split
    ·rename_i h2
     k_upd
     exact ⟨by decide,q2 fun h=>h2 (h.2 _ hm).2.1⟩
    ·rename_i h2
     k_upd
     split
     ·rename_i h3
      k_upd
      exact ⟨by decide,q2 fun h=>(h.2 _ hm).2.2 h3⟩
     ·rename_i h3
      k_upd
      refine ⟨rfl,⟨_,_,rfl⟩,fun j x hj' hx=>?_⟩
      by_cases e:j=i
      ·rw [e,el] at hx
       cases hx
       k_upd
       exact ⟨by omega,by omega,h3⟩
      ·exact hj j x (by omega) hx
  ·rintro σ H' ⟨rfl,⟨t,u,rfl⟩,hj⟩
   k_mem
   refine q1 ⟨by omega,fun x hx=>?_⟩
   obtain ⟨j,hj1,rfl⟩:=List.getElem_of_mem hx
   exact hj j _ (by rw [WB];omega) (List.getElem?_eq_getElem hj1)
variable (pj:KD P w K mg base (CXf P w) 2 "check_codes" (jm K Z))
inductive hV (K:WA)(Z:Adr)(vs:List V)(H:Hp)(Q:VK)(E:XK):Prop | mk (b cs fl st:Addr) (ls:List Cd) (fs:List Bool) (e:Eng) (s:Int):vs=[.ref b,.int s]->bC Z.bF K H b cs fl st ls fs e->(((∀l r,e≠.wait l r)->E (.ref Z.cQ) none H))->((∀l r,e=.wait l r->¬(1<=s/\s<=9)->E (.ref Z.g0) none H))->((∀l r,e=.wait l r->(1<=s/\s<=9)->∀st' p H',H p=none->aA b H H'->bC Z.bF K H' b cs fl st' ls fs (if s=r then .armed l r else .other l r s)->SqT K H' p [.bl (decide (s=r)),.int r,.int s]->Q (.ref p) H'))->hV K Z vs H Q E
include T ft in
theorem uA:FF P w K mg base (CXf P w) 2 "repeat" "Bells.repeat" i5 mT (hV K Z):=fkF fz fun vs H Q E h=>by
 obtain ⟨b,cs,fl,st,ls,fs,e,s,rfl,hB,q1,q2,q3⟩:=h
 k_all
 refine ⟨_,ae (aN (tS (ao au (ax (pv' 0)) af) aE) (ah (bh T.xu (by rfl) T.xo (pa1 aE))) (aC)) (ae (aN (eK (cx (dc0 ft hr.dn (pa1 (pv' 1))))) (ah (bh T.Bz (by rfl) T.Bn (pa1 aE))) (aC)) (ae (aD (i:=2) fz.nd rfl orL (ao au (ax (pv' 0)) af)) (ae (aD (i:=3) fz.nd rfl orL (ao au (ax (pv' 0)) af)) (ae (aD (i:=4) fz.nd rfl orL (cG fT (pv' 1) (pv' 3) (bL _))) (ae (bP (pv' 0) (aQ (pa4 (Ah (cx (pv' 4)) aE aE) (pv' 2) (pv' 3) (pv' 1))) rfl) (ah (az (aQ (pa3 (pv' 4) (pv' 3) (pv' 1)))))))))),?_⟩
 obtain ⟨⟨dx,hob⟩,⟨as,hcs,hT⟩,hfl,hst,nn,ln⟩:=id hB
 k_mem
 refine fgo hob T.bB T.bD rfl ?_
 k_mem
 cases e with
 | wait l r=>
  refine ⟨_,hst,_,rfl,?_⟩
  k_mem
  refine ⟨_,rfl,?_⟩
  k_mem
  split
  ·rename_i h
   exact ⟨by decide,q2 l r rfl h⟩
  ·rename_i h
   have hs:1<=s/\s<=9:=by simpa using h
   refine fgo hob T.bB T.bD rfl ?_
   k_mem
   refine ⟨_,hst,_,rfl,?_⟩
   k_mem
   refine fgo hob T.bB T.bD rfl ?_
   k_mem
   refine ⟨_,hst,_,rfl,?_⟩
   k_mem
   split
   ·rename_i hr
    refine ⟨by decide,fun st' hst'=>⟨_,_,_,upo hob hst',T.bB,T.bD,by show 3 < 1000;decide,by decide,fun p hp=>?_⟩⟩
    have nsx:st'≠b:=fun z=>by rw [z,hob] at hst';cases hst'
    have hpn:=upn (aA.free (H':=upd (upd H st' (HO.tup [V.str (Str.ofString "armed"),V.int l,V.int r,V.int s])) b (HO.ins Z.bF dx (bw "state" (.ref st') [("codes",V.ref cs),("failed",V.ref fl),("state",V.ref st)]))) (p:=b) ((aA.of (aq.refl _)).put) (fun z=>by rw [z,ag] at hp;cases hp) hp)
    have k:=((aA.of ((aq.refl H).lay (o:=HO.tup [V.str (Str.ofString "armed"),V.int l,V.int r,V.int s]) hst')).put (o:=HO.ins Z.bF dx (bw "state" (.ref st') [("codes",V.ref cs),("failed",V.ref fl),("state",V.ref st)])) (p:=b))
    refine q3 l r rfl hs st' p _ hpn (k.trans (aA.of ((aq.refl _).lay hp))) ?_ (SqT.of ?_)
    ·refine (hB.state k (dx:=dx) (by rw [ag];rfl) (SqT.of (xs:=lz (if s=r then .armed l r else .other l r s)) ?_)).same ((aq.refl _).lay hp)
     rw [aJ nsx,ag,if_pos hr,hr];rfl
    ·rw [ag]
   ·rename_i hr
    refine ⟨by decide,fun st' hst'=>⟨_,_,_,upo hob hst',T.bB,T.bD,by show 3 < 1000;decide,by decide,fun p hp=>?_⟩⟩
    have nsx:st'≠b:=fun z=>by rw [z,hob] at hst';cases hst'
    have hpn:=upn (aA.free (H':=upd (upd H st' (HO.tup [V.str (Str.ofString "repeated otherwise"),V.int l,V.int r,V.int s])) b (HO.ins Z.bF dx (bw "state" (.ref st') [("codes",V.ref cs),("failed",V.ref fl),("state",V.ref st)]))) (p:=b) ((aA.of (aq.refl _)).put) (fun z=>by rw [z,ag] at hp;cases hp) hp)
    have k:=((aA.of ((aq.refl H).lay (o:=HO.tup [V.str (Str.ofString "repeated otherwise"),V.int l,V.int r,V.int s]) hst')).put (o:=HO.ins Z.bF dx (bw "state" (.ref st') [("codes",V.ref cs),("failed",V.ref fl),("state",V.ref st)])) (p:=b))
    refine q3 l r rfl hs st' p _ hpn (k.trans (aA.of ((aq.refl _).lay hp))) ?_ (SqT.of ?_)
    ·refine (hB.state k (dx:=dx) (by rw [ag];rfl) (SqT.of (xs:=lz (if s=r then .armed l r else .other l r s)) ?_)).same ((aq.refl _).lay hp)
     rw [aJ nsx,ag,if_neg hr];rfl
    ·rw [ag]
 | _=>
  refine ⟨_,hst,_,rfl,?_⟩
  k_mem
  first
  | rw [if_pos (by decide)]
  | skip
  exact ⟨by decide,q1 fun l r z=>Eng.noConfusion z⟩
variable (nQ:KM P w K mg base (CXf P w) 2 Z.bF "repeat" (hV K Z))
inductive jn (K:WA)(Z:Adr)(vs:List V)(H:Hp)(Q:VK)(E:XK):Prop | mk (a:Addr) (ds:List Int) (p:Int):vs=[.ref a,.int p]->SqL K H a (ds.map V.int)->0 < ds.length->Q (.int (cu ds - p)) H->jn K Z vs H Q E
include T rn in
theorem wx:FF P w K mg base CX0 2 "other_place" "other_place" jY oN (jn K Z):=fk0 vD fun vs H Q E h=>by
 obtain ⟨a,ds,p,rfl,hS,hl,q⟩:=h
 k_all
 refine ⟨_,ah (az (aP dB (dc0 rn hr.dn (pa1 (pv' 0))) (pv' 1))),?_⟩
 k_mem
 refine ⟨a,ds,rfl,hS,hl,?_⟩
 k_mem
 exact q
variable (dY:KD P w K mg base CX0 2 "other_place" (jn K Z))
inductive km (K:WA)(Z:Adr)(vs:List V)(H:Hp)(Q:VK)(E:XK):Prop | mk (bk rl dd s:Addr) (g:Cfg) (n0 n:aM) (rs:List Row) (tk sp:Int) (dv:List V):vs=[.ref bk,.ref dd,.int tk,.int sp,.ref s]->BAt (clZ Z) K H bk rl g n0 rs->SqT K H dd dv->eB (clZ Z) K H rl g s n->((300<=rs.length->E (.ref Z.eP) none H))->((rs.length < 300->∀H',aA rl H H'->BAt (clZ Z) K H' bk rl g n0 (rs++[⟨cS rs,cS rs+tk,dv,sp,n⟩])->Q .non H'))->km K Z vs H Q E
include T l5 in
theorem xF:FF P w K mg base (CXf P w) 2 "write" "Book.write" lR qQ (km K Z):=fkF oY fun vs H Q E h=>by
 obtain ⟨bk,rl,dd,s0,g,n0,n,rs,tk,sp,dv,rfl,hB,hD,hS,q1,q2⟩:=h
 k_all
 refine seg 2 (ah (bb (oE PySem.F.plainAttrs_list PySem.F.slot_list_append PySem.F.type_list_append dO (ax (pv' 0)) (pa1 (aQ (cV (pv' 5) (pa4 (aP bt (pv' 5) (pv' 2)) (pv' 1) (pv' 3) (pv' 4)))))))) fun zt2 zh2 ze2=>?_
 refine seg 1 (ae (aD (i:=5) oY.nd rfl orL (dw (pv' 0) l5 hr.dn aY)) zh2) fun zt1 zh1 ze1=>?_
 refine ⟨_,ae (aN (A9 (aH aw (by rfl) T.bN ba (pa1 (ax (pv' 0)))) (ax (pv' 0))) (ah (bh T.Dr (by rfl) T.Dl (pa1 aE))) (aC)) zh1,?_⟩
 obtain ⟨⟨dx,f0,hob,hF⟩,as,hrl,hR⟩:=id hB
 have hl:=hR.1
 k_mem
 refine fgo hob T.dC T.cb rfl ?_
 k_mem
 refine ⟨_,.inl (SqL.of hrl),_,_,_,hob,T.dC,T.rk,_,rfl,?_⟩
 k_mem
 rw [WB]
 k_upd
 split
 ·k_upd
  exact ⟨by decide,q1 (by omega)⟩
 ·rename_i hlt
  k_upd
  refine mgo hob rfl ⟨_,_,_,_,_,rfl,hB,?_⟩
  k_mem
  refine fgo hob T.dC T.cb rfl ?_
  k_mem
  refine ⟨.inl ⟨rfl,_,SqL.of hrl⟩,by decide,fun p hp=>⟨_,upo hrl hp,cy (by rw [WB];omega),?_⟩⟩
  have s1:=(aq.refl H).lay (o:=HO.tup [V.int (cS rs),V.int (cS rs+tk),V.ref dd,V.int sp,V.ref s0]) hp
  have hrl1:=upo (o:=HO.tup [V.int (cS rs),V.int (cS rs+tk),V.ref dd,V.int sp,V.ref s0]) hrl hp
  have k1:L2.aA rl H (upd (upd H p (HO.tup [V.int (cS rs),V.int (cS rs+tk),V.ref dd,V.int sp,V.ref s0])) rl (HO.lst (as.map V.ref++[V.ref p]))):=(aA.of s1).put
  refine q2 (by omega) _ k1 ⟨⟨dx,f0,k1 _ _ (fun z=>by rw [z,hrl] at hob;cases hob) hob,hF.keep k1 hrl⟩,as++[p],by rw [ag,List.map_append];rfl,?_⟩
  exact (hR.keep k1 hrl).push ⟨dd,s0,(SqT.of ag).rew hrl1,hD.keep k1 hrl,hS.keep k1 hrl⟩
variable (rz:KM P w K mg base (CXf P w) 2 Z.ow "write" (km K Z))
inductive fG (K:WA)(Z:Adr)(vs:List V)(H:Hp)(Q:VK)(E:XK):Prop | mk (w bk rl:Addr) (g:Cfg) (n0:aM) (rs:List Row):vs=[.ref w]->WAt (clZ Z) K H w bk rl g n0 rs->((rs=[]->E (.ref Z.dq) none H))->((∀rs' r,rs=rs'++[r]->∀p H',aA rl H H'->WAt (clZ Z) K H' w bk rl g n0 rs'->SqT K H' p r.deed->Q (.ref p) H'))->fG K Z vs H Q E
include T pf in
theorem qa:FF P w K mg base (CXf P w) 2 "take_back" "Works.take_back" fZ jJ (fG K Z):=fkF pL fun vs H Q E h=>by
 obtain ⟨w,bk,rl,g,n0,rs,rfl,hW,q1,q2⟩:=h
 k_all
 refine ⟨_,ah (az (dw (ax (pv' 0)) pf hr.dn bG)),?_⟩
 obtain ⟨⟨dx,dl,gl,hob,hdl,hgl,n1,n2⟩,hB⟩:=id hW
 obtain ⟨⟨db,f0,hbo,hF⟩,as,hrl,hR⟩:=id hB
 k_mem
 refine fgo hob T.aV T.aS rfl ?_
 k_mem
 exact mgo hbo rfl ⟨_,_,_,_,_,rfl,hB,q1,fun rs2 r e p H' k hB2 hp=>q2 rs2 r e p H' k (hW.keep k hrl hB2) hp⟩
variable (jM:KM P w K mg base (CXf P w) 2 Z.bq "take_back" (fG K Z))
inductive fh (K:WA)(Z:Adr)(vs:List V)(H:Hp)(Q:VK)(E:XK):Prop | mk (w bk rl:Addr) (g:Cfg) (n0:aM) (rs:List Row) (s:Addr) (n:aM):vs=[.ref w,.ref s]->WAt (clZ Z) K H w bk rl g n0 rs->eB (clZ Z) K H rl g s n->g.ks.length=n.ws.length->(∀H',aq H H'->Q (.int (fS g n)) H')->fh K Z vs H Q E
include T jL in
theorem oB:FF P w K mg base CX0 2 "speed_with" "Works.speed_with" fC iZ (fh K Z):=fk0 ou fun vs H Q E h=>by
 obtain ⟨w,bk,rl,g,n0,rs,s0,n,rfl,hW,hS,hl,q⟩:=h
 k_all
 refine ⟨_,ah (az (Ah (cx (dw (ax (pv' 1)) jL hr.dn aY)) (ax (pv' 0)) (ax (pv' 0)))),?_⟩
 obtain ⟨⟨dx,dl,gl,hob,hdl,hgl,n1,n2⟩,hB⟩:=id hW
 obtain ⟨⟨db,f0,hbo,hF⟩,as,hrl,hR⟩:=id hB
 k_mem
 obtain ⟨A,hA⟩:=id hS
 k_upd
 refine fgo hA.ob T.aK T.bE rfl ?_
 k_mem
 obtain ⟨dy,hyb⟩:=hA.ya.ob
 k_upd
 refine ⟨_,_,hyb,rfl,_,_,_,_,_,_,rfl,hA.ya,hl,fun H' s1=>?_⟩
 k_mem
 have q':=q H' s1
 unfold fS at q'
 k_upd
 split
 ·rename_i h
  k_upd
  rw [if_pos h] at q'
  k_upd
  exact fgo (s1 _ _ hob) T.aV T.o8 rfl q'
 ·rename_i h
  k_upd
  rw [if_neg h] at q'
  k_upd
  exact fgo (s1 _ _ hob) T.aV T.pe rfl q'
variable (dP:KM P w K mg base CX0 2 Z.bq "speed_with" (fh K Z))
inductive c9 (K:WA)(Z:Adr)(vs:List V)(H:Hp)(Q:VK)(E:XK):Prop | mk (w bk rl:Addr) (g:Cfg) (n0:aM) (rs:List Row) (lv:Int):vs=[.ref w,.int lv]->WAt (clZ Z) K H w bk rl g n0 rs->0<=lv->lv < (ai n0 rs).gates.length->(((ai n0 rs).gates.getD lv.toNat false=true->Q .non H))->(((ai n0 rs).gates.getD lv.toNat false=false->E (.ref Z.eQ) none H))->c9 K Z vs H Q E
include T aI in
theorem jx:FF P w K mg base (CXf P w) 2 "refuse_shut_gate" "Works.refuse_shut_gate" dz fj (c9 K Z):=fkF jw fun vs H Q E h=>by
 obtain ⟨w,bk,rl,g,n0,rs,lv,rfl,hW,h0,h1,q1,q2⟩:=h
 k_all
 refine ⟨_,ah (aN (eK (cx (ao av (ax (dw (ax (pv' 0)) aI hr.dn aY)) (pv' 1)))) (ah (bh T.Du (by rfl) T.Dm (pa1 aE))) (aC)),?_⟩
 obtain ⟨⟨dx,dl,gl,hob,hdl,hgl,n1,n2⟩,hB⟩:=id hW
 obtain ⟨⟨db,f0,hbo,hF⟩,as,hrl,hR⟩:=id hB
 k_mem
 refine fgo hob T.aV T.aS rfl ?_
 k_mem
 refine mgo hbo rfl ⟨_,_,_,_,_,rfl,hB,fun s0 ⟨A,hA⟩=>?_⟩
 k_mem
 refine fgo hA.ob T.aK T.ck rfl ?_
 k_mem
 refine ⟨_,SqL.of hA.go,_,jS h0 h1,?_⟩
 k_mem
 split
 ·rename_i h
  k_upd
  exact ⟨by decide,q2 (by simpa using h)⟩
 ·rename_i h
  k_upd
  exact q1 (by simpa using h)
variable (cD:KM P w K mg base (CXf P w) 2 Z.bq "refuse_shut_gate" (c9 K Z))
inductive l9 (K:WA)(Z:Adr)(vs:List V)(H:Hp)(Q:VK)(E:XK):Prop | mk (w bk rl:Addr) (g:Cfg) (n0:aM) (rs:List Row):vs=[.ref w]->WAt (clZ Z) K H w bk rl g n0 rs->Q (.int (cS rs)) H->l9 K Z vs H Q E
include T l5 in
theorem z8:FF P w K mg base CX0 2 "now" "Works.now" ny tZ (l9 K Z):=fk0 zL fun vs H Q E h=>by
 obtain ⟨w,bk,rl,g,n0,rs,rfl,hW,q⟩:=h
 k_all
 refine ⟨_,ah (az (dw (ax (pv' 0)) l5 hr.dn aY)),?_⟩
 obtain ⟨⟨dx,dl,gl,hob,hdl,hgl,n1,n2⟩,hB⟩:=id hW
 obtain ⟨⟨db,f0,hbo,hF⟩,as,hrl,hR⟩:=id hB
 k_mem
 refine fgo hob T.aV T.aS rfl ?_
 k_mem
 exact mgo hbo rfl ⟨_,_,_,_,_,rfl,hB,q⟩
variable (jN:KM P w K mg base CX0 2 Z.bq "now" (l9 K Z))
inductive ko (K:WA)(Z:Adr)(vs:List V)(H:Hp)(Q:VK)(E:XK):Prop | mk (w bk rl:Addr) (g:Cfg) (n0:aM) (rs:List Row):vs=[.ref w]->WAt (clZ Z) K H w bk rl g n0 rs->rs.length<=1000->(∀(p:Addr) (as:List Addr) (H':Hp),H p=none->aq H H'->H' p=some (.lst (as.map V.ref))->c8 K H' as rs->Q (.ref p) H')->ko K Z vs H Q E
include T ue in
theorem xG:FF P w K mg base CX0 2 "book" "Works.book" lX qW (ko K Z):=fk0 xk fun vs H Q E h=>by
 obtain ⟨w,bk,rl,g,n0,rs,rfl,hW,hn,q⟩:=h
 k_all
 refine ⟨_,ah (az (dw (ax (pv' 0)) ue hr.dn aY)),?_⟩
 obtain ⟨⟨dx,dl,gl,hob,hdl,hgl,n1,n2⟩,hB⟩:=id hW
 obtain ⟨⟨db,f0,hbo,hF⟩,as,hrl,hR⟩:=id hB
 k_mem
 refine fgo hob T.aV T.aS rfl ?_
 k_mem
 exact mgo hbo rfl ⟨_,_,_,_,_,rfl,hB,hn,q⟩
variable (rA:KM P w K mg base CX0 2 Z.bq "book" (ko K Z))
inductive hZ (K:WA)(Z:Adr)(vs:List V)(H:Hp)(Q:VK)(E:XK):Prop | mk (w bk rl:Addr) (g:Cfg) (n0:aM) (rs:List Row):vs=[.ref w]->WAt (clZ Z) K H w bk rl g n0 rs->(∀st,SqT K H st (lz (ai n0 rs).e)->Q (.ref st) H)->hZ K Z vs H Q E
include T nL aI in
theorem uB:FF P w K mg base CX0 2 "engine" "Works.engine" jc mZ (hZ K Z):=fk0 uu fun vs H Q E h=>by
 obtain ⟨w,bk,rl,g,n0,rs,rfl,hW,q⟩:=h
 k_all
 refine ⟨_,ah (az (dw (ax (dw (ax (pv' 0)) aI hr.dn aY)) nL hr.dn aY)),?_⟩
 obtain ⟨⟨dx,dl,gl,hob,hdl,hgl,n1,n2⟩,hB⟩:=id hW
 obtain ⟨⟨db,f0,hbo,hF⟩,as,hrl,hR⟩:=id hB
 k_mem
 refine fgo hob T.aV T.aS rfl ?_
 k_mem
 refine mgo hbo rfl ⟨_,_,_,_,_,rfl,hB,fun s0 ⟨A,hA⟩=>?_⟩
 k_mem
 refine fgo hA.ob T.aK T.bS rfl ?_
 k_mem
 obtain ⟨db2,hbb⟩:=hA.be.ob
 k_upd
 exact mgo hbb rfl ⟨_,_,_,_,_,_,_,rfl,hA.be,q _ hA.be.os⟩
variable (nR:KM P w K mg base CX0 2 Z.bq "engine" (hZ K Z))
inductive kq (K:WA)(Z:Adr)(vs:List V)(H:Hp)(Q:VK)(E:XK):Prop | mk (w bk rl:Addr) (g:Cfg) (n0:aM) (rs:List Row):vs=[.ref w]->WAt (clZ Z) K H w bk rl g n0 rs->(ai n0 rs).fs.length<=1000->(∀p H',H p=none->aq H H'->H' p=some (.lst ((cO (ai n0 rs).fs).map V.int))->Q (.ref p) H')->kq K Z vs H Q E
include T rm aI in
theorem xH:FF P w K mg base CX0 2 "dead" "Works.dead" lY qX (kq K Z):=fk0 xl fun vs H Q E h=>by
 obtain ⟨w,bk,rl,g,n0,rs,rfl,hW,hn,q⟩:=h
 k_all
 refine ⟨_,ah (az (dw (ax (dw (ax (pv' 0)) aI hr.dn aY)) rm hr.dn aY)),?_⟩
 obtain ⟨⟨dx,dl,gl,hob,hdl,hgl,n1,n2⟩,hB⟩:=id hW
 obtain ⟨⟨db,f0,hbo,hF⟩,as,hrl,hR⟩:=id hB
 k_mem
 refine fgo hob T.aV T.aS rfl ?_
 k_mem
 refine mgo hbo rfl ⟨_,_,_,_,_,rfl,hB,fun s0 ⟨A,hA⟩=>?_⟩
 k_mem
 refine fgo hA.ob T.aK T.bS rfl ?_
 k_mem
 obtain ⟨db2,hbb⟩:=hA.be.ob
 k_upd
 exact mgo hbb rfl ⟨_,_,_,_,_,_,_,rfl,hA.be,hn,q⟩
variable (rB:KM P w K mg base CX0 2 Z.bq "dead" (kq K Z))
inductive jo (K:WA)(Z:Adr)(vs:List V)(H:Hp)(Q:VK)(E:XK):Prop | mk (w bk rl:Addr) (g:Cfg) (n0:aM) (rs:List Row):vs=[.ref w]->WAt (clZ Z) K H w bk rl g n0 rs->(∀p,H p=none->Q (.ref p) (upd H p (.lst ((ai n0 rs).gates.map V.bl))))->jo K Z vs H Q E
include T aI in
theorem wz:FF P w K mg base CX0 2 "gates" "Works.gates" j7 oS (jo K Z):=fk0 vI fun vs H Q E h=>by
 obtain ⟨w,bk,rl,g,n0,rs,rfl,hW,q⟩:=h
 k_all
 refine ⟨_,ah (az (bg bx (by rfl) T.eh cW (pa1 (ax (dw (ax (pv' 0)) aI hr.dn aY))))),?_⟩
 obtain ⟨⟨dx,dl,gl,hob,hdl,hgl,n1,n2⟩,hB⟩:=id hW
 obtain ⟨⟨db,f0,hbo,hF⟩,as,hrl,hR⟩:=id hB
 k_mem
 refine fgo hob T.aV T.aS rfl ?_
 k_mem
 refine mgo hbo rfl ⟨_,_,_,_,_,rfl,hB,fun s0 ⟨A,hA⟩=>?_⟩
 k_mem
 refine fgo hA.ob T.aK T.ck rfl ?_
 k_mem
 exact ⟨_,.inl (SqL.of hA.go),q⟩
variable (pk:KM P w K mg base CX0 2 Z.bq "gates" (jo K Z))
inductive jq (K:WA)(Z:Adr)(vs:List V)(H:Hp)(Q:VK)(E:XK):Prop | mk (w bk rl:Addr) (g:Cfg) (n0:aM) (rs:List Row):vs=[.ref w]->WAt (clZ Z) K H w bk rl g n0 rs->(∀p,H p=none->Q (.ref p) (upd H p (.lst ((ai n0 rs).ws.map V.int))))->jq K Z vs H Q E
include T iG aI in
theorem wA:FF P w K mg base CX0 2 "spots" "Works.spots" j9 oV (jq K Z):=fk0 vK fun vs H Q E h=>by
 obtain ⟨w,bk,rl,g,n0,rs,rfl,hW,q⟩:=h
 k_all
 refine ⟨_,ah (az (dw (ax (dw (ax (pv' 0)) aI hr.dn aY)) iG hr.dn aY)),?_⟩
 obtain ⟨⟨dx,dl,gl,hob,hdl,hgl,n1,n2⟩,hB⟩:=id hW
 obtain ⟨⟨db,f0,hbo,hF⟩,as,hrl,hR⟩:=id hB
 k_mem
 refine fgo hob T.aV T.aS rfl ?_
 k_mem
 refine mgo hbo rfl ⟨_,_,_,_,_,rfl,hB,fun s0 ⟨A,hA⟩=>?_⟩
 k_mem
 refine fgo hA.ob T.aK T.bE rfl ?_
 k_mem
 obtain ⟨dy,hyb⟩:=hA.ya.ob
 k_upd
 exact ⟨_,_,hyb,rfl,_,_,_,_,_,_,rfl,hA.ya,q⟩
variable (pw:KM P w K mg base CX0 2 Z.bq "spots" (jq K Z))
inductive gB (K:WA)(Z:Adr)(vs:List V)(H:Hp)(Q:VK)(E:XK):Prop | mk (w bk rl:Addr) (g:Cfg) (n0:aM) (rs:List Row) (c:Int):vs=[.ref w,.int c]->WAt (clZ Z) K H w bk rl g n0 rs->0<=c->c < 2->(∀H',aq H H'->Q (inC (ai n0 rs).ws c) H')->gB K Z vs H Q E
include T cF aI in
theorem tE:FF P w K mg base CX0 2 "in_cage" "Works.in_cage" gZ mv (gB K Z):=fk0 sQ fun vs H Q E h=>by
 obtain ⟨w,bk,rl,g,n0,rs,c,rfl,hW,h0,h1,q⟩:=h
 k_all
 refine ⟨_,ah (az (dm' (ax (dw (ax (pv' 0)) aI hr.dn aY)) cF hr.dn aY (pa1 (pv' 1)))),?_⟩
 obtain ⟨⟨dx,dl,gl,hob,hdl,hgl,n1,n2⟩,hB⟩:=id hW
 obtain ⟨⟨db,f0,hbo,hF⟩,as,hrl,hR⟩:=id hB
 k_mem
 refine fgo hob T.aV T.aS rfl ?_
 k_mem
 refine mgo hbo rfl ⟨_,_,_,_,_,rfl,hB,fun s0 ⟨A,hA⟩=>?_⟩
 k_mem
 refine fgo hA.ob T.aK T.bE rfl ?_
 k_mem
 obtain ⟨dy,hyb⟩:=hA.ya.ob
 k_upd
 exact ⟨_,_,hyb,rfl,_,_,_,_,_,_,_,rfl,hA.ya,h0,h1,q⟩
variable (ie:KM P w K mg base CX0 2 Z.bq "in_cage" (gB K Z))
def Fm (c r0 sh:Int)(l:Addr)(H:Hp)(i:Nat)(σ:St)(H':Hp):Prop:=∃(ds:List Int) (last:Int) (t u:Option V),σ=[some (.int c),some (.int (2+r0)),some (.int sh),none,some (.ref l),some (.int last),t,u]/\lq ds last/\last<=500 - (2+r0)+i/\ds.length=i/\H'=upd H l (.lst (ds.map V.int))
inductive nS (K:WA)(Z:Adr)(vs:List V)(H:Hp)(Q:VK)(E:XK):Prop | mk (c:Int):vs=[.int c]->(∀(l:Addr) (ds:List Int) (H':Hp),H l=none->aq H H'->H' l=some (.lst (ds.map V.int))->cf ds->Q (.ref l) H')->nS K Z vs H Q E
include T bX in
theorem BM:FF P w K mg base CX0 2 "_law_depths" "_law_depths" pN vA (nS K Z):=fk0 cP fun vs H Q E h=>by
 obtain ⟨c,rfl,q⟩:=h
 k_all
 refine ⟨_,ae (aD (i:=1) cP.nd rfl orL (aP bt af (dc0 bX hr.dn (pa3 (pv' 0) af af)))) (ae (aD (i:=2) cP.nd rfl orL (dc0 bX hr.dn (pa3 (pv' 0) af af))) (ae (aN (bQ (pv' 2) af) (ae (aD (i:=3) cP.nd rfl (Or.inr rfl) (aP bt af (dc0 bX hr.dn (pa3 (pv' 0) af af)))) (ah (az (jA ["_law_k","_law_gap"] [none,some 3] (bf (by rfl) T.cq (pa1 (pv' 1))) (fun _ _ _ _=>(aB (i:=0) (show (["_law_k","_law_gap"]:List Str).Nodup by decide +kernel) rfl orL)) (fun _ _ _ _=>fO) (fun _ _ _ _=>(aP uO (pv' 1) (pv' 0))))))) (aC)) (ae (aD (i:=4) cP.nd rfl orL (bc ff)) (ae (aD (i:=5) cP.nd rfl orL (gJ dj af)) (ae (cX PassesOwn.never rfl (bf (by rfl) T.cq (pa1 (pv' 1))) (aB (i:=6) cP.nd rfl orL) (ae (aD (i:=7) cP.nd rfl orL (aP dB (aP bt (aP dB af (pv' 1)) (pv' 6)) (pv' 5))) (ae (aN (bQ (pv' 2) af) (ah (aD (i:=7) cP.nd rfl orL (aH (pD rfl) (by rfl) T.Hz Cq (pa2 (pv' 7) af)))) (aC)) (ae (aD (i:=5) cP.nd rfl orL (aP bt (aP bt (pv' 5) af) (dc0 bX hr.dn (pa3 (pv' 0) (aP bt af (pv' 6)) (pv' 7))))) (ah (bb (oE PySem.F.plainAttrs_list PySem.F.slot_list_append PySem.F.type_list_append dO (pv' 4) (pa1 (pv' 5))))))))) (ae (aN (kZ (bQ (pv' 2) af) (jy (bQ (dc0 bX hr.dn (pa3 (pv' 0) af af)) af))).pt (ah (az (aP lG (aP lG (bc (pa1 af)) (iR mP (pv' 4) (fi af) (fi (gJ dj af)))) (bc (pa1 af))))) (aC)) (ah (az (pv' 4))))))))),?_⟩
 k_mem
 refine ⟨c,0,5,rfl,by omega,by omega,by omega,fun r0 h0 h0'=>?_⟩
 k_mem
 refine ⟨c,1,4,rfl,by omega,by omega,by omega,fun sh h1 h1'=>?_⟩
 k_mem
 split
 ·refine ⟨c,2,100,rfl,by omega,by omega,by omega,fun r2 h2 h2'=>?_⟩
  k_mem
  refine ⟨by omega,by omega,zc (fun i=>V.int ((1+r2) * (i:Int))) (Nat.le_trans (by omega:(2+r0).toNat<=1000) (by decide)) rfl (fun i hi N q=>?_) (fun p hp=>?_)⟩
  ·k_mem
   rw [Int.zero_add]
   exact ⟨.inl ⟨by omega,by omega⟩,q⟩
  ·refine q p ((List.range (2+r0).toNat).map fun (i:Nat)=>(1+r2) * (i:Int)) _ hp (fun b o e=>?_) ?_ (cf.even (by omega) (by omega) (by omega) (by omega))
   ·rw [aJ (ak e hp)];exact e
   ·rw [ag,List.map_map];rfl
 ·refine ⟨by decide,fun l hln=>⟨by omega,by omega,cj (Fm c r0 sh l H) ⟨[],-1,_,_,rfl,lq.nil,by omega,rfl,rfl⟩ ?_ ?_⟩⟩
  ·rintro i σ H' hi ⟨ds,last,t,u,rfl,hR,hla,hlen,rfl⟩
   have l0:=hR.l0
   k_mem
   split
   all_goals
    refine ⟨c,_,_,rfl,by omega,by omega,by (try split)<;>omega,fun r hr0 hr1=>?_⟩
    k_mem
    refine ⟨.inl ⟨rfl,_,SqL.of ag⟩,_,ag,cy (by rw [WB];omega),ds++[last+1+r],last+1+r,_,_,rfl,hR.snoc hr0,?_,by rw [List.length_append,hlen];rfl,?_⟩
    ·(try split at hr1)<;>omega
    ·rw [HX,List.map_append];rfl
  ·rintro σ H' ⟨ds,last,t,u,rfl,hR,hla,hlen,rfl⟩
   have hsh:=hR.shaft (by omega) (by omega) (by omega)
   have hQ0:Q (V.ref l) (upd H l (HO.lst (List.map V.int ds))):=q l ds _ hln ((aq.refl H).lay hln) ag hsh
   k_mem
   split
   ·refine ⟨c,8,4,rfl,by omega,by omega,by omega,fun r hr0 hr1=>?_⟩
    k_mem
    split
    ·refine ⟨by decide,fun p1 hp1=>⟨_,SqL.of (upo ag hp1),fun p2 hp2=>⟨_,upo ag hp2,_,ag,?_,fun p3 hp3=>⟨by decide,fun p4 hp4=>⟨_,upo ag hp4,_,ag,?_,fun p5 hp5=>?_⟩⟩⟩⟩⟩
     ·have:=jz (List.map V.int ds) (some 1) (some (-1))
      rw [WB] at this
      exact Nat.le_of_lt (cy (by rw [List.length_singleton];omega))
     ·have:=jz (List.map V.int ds) (some 1) (some (-1))
      rw [WB] at this
      exact Nat.le_of_lt (cy (by rw [List.length_append,List.length_singleton,List.length_singleton];omega))
     ·refine q p5 ([0]++(ds.drop 1).take (ds.length - 1 - 1)++[500]) _ (upn (upn (upn (upn (upn hp5))))) ((((((aq.refl H).lay hln).lay hp1).lay hp2).lay hp3).lay hp4 |>.lay hp5) ?_ hsh.ends
      rw [ag,Gm ds hsh.l2,List.map_append,List.map_append]
      rfl
    ·exact hQ0
   ·exact hQ0
variable (wB:KD P w K mg base CX0 2 "_law_depths" (nS K Z))
def HN (K:WA)(c m:Int)(l:Addr)(H:Hp)(i:Nat)(σ:St)(H':Hp):Prop:=aq H H'/\∃(as:List Addr) (ls:List Cd) (t u:Option V),σ=[some (.int c),some (.int m),some (.ref l),t,u]/\H' l=some (.lst (as.map V.ref))/\cR cdV K H' as ls/\ls.length=i/\∀x∈ls,eL x
inductive qc (K:WA)(Z:Adr)(vs:List V)(H:Hp)(Q:VK)(E:XK):Prop | mk (c m:Int):vs=[.int c,.int m]->0<=m->m<=500->(∀(l:Addr) (as:List Addr) (ls:List Cd) (H':Hp),H l=none->aq H H'->H' l=some (.lst (as.map V.ref))->cR cdV K H' as ls->(ls.length:Int)=m->(∀x∈ls,eL x)->Q (.ref l) H')->qc K Z vs H Q E
include T bX in
theorem DA:FF P w K mg base CX0 2 "_law_codes" "_law_codes" sT yx (qc K Z):=fk0 lZ fun vs H Q E h=>by
 obtain ⟨c,m,rfl,h0,h1,q⟩:=h
 k_all
 refine ⟨_,ae (aD (i:=2) lZ.nd rfl orL (bc ff)) (ae (cX PassesOwn.never rfl (bf (by rfl) T.cq (pa1 (pv' 1))) (aB (i:=3) lZ.nd rfl orL) (ae (aD (i:=4) lZ.nd rfl orL (aP bt af (dc0 bX hr.dn (pa3 (pv' 0) (mQ af (pv' 3)) af)))) (ah (bb (oE PySem.F.plainAttrs_list PySem.F.slot_list_append PySem.F.type_list_append dO (pv' 2) (pa1 (aQ (pa2 (pv' 4) (aP bt af (bY (aP bt (pv' 4) (dc0 bX hr.dn (pa3 (pv' 0) (aP bt (mQ af (pv' 3)) af) af))) af)))))))))) (ah (az (pv' 2)))),?_⟩
 k_mem
 refine ⟨by decide,fun l hl=>⟨by omega,by omega,?_⟩⟩
 refine cj (HN K c m l H) ⟨(aq.refl H).lay hl,[],[],_,_,rfl,ag,cR.nil,rfl,fun x hx=>by cases hx⟩ ?_ ?_
 ·rintro i σ H' hi ⟨s1,as,ls,t,u,rfl,hl',hT,hlen,hg⟩
  k_mem
  refine ⟨c,2 * (0 + ↑i),9,rfl,by omega,by omega,by omega,fun r1 h2 h3=>?_⟩
  k_mem
  refine ⟨.inl ⟨rfl,_,SqL.of hl'⟩,c,2 * (0 + ↑i)+1,8,rfl,by omega,by omega,by omega,fun r2 h4 h5=>?_⟩
  k_mem
  refine ⟨by decide,fun p2 hp2=>⟨_,upo hl' hp2,cy (by rw [WB,hT.1];omega),?_⟩⟩
  have hl2:=upo (o:=HO.tup [V.int (1+r1),V.int (1+(1+r1+r2) % 9)]) hl' hp2
  refine ⟨(s1.lay hp2).rewr hl,as++[p2],ls++[(1+r1,1+(1+r1+r2) % 9)],_,_,rfl,?_,?_,by rw [List.length_append,hlen];rfl,?_⟩
  ·rw [ag,List.map_append];rfl
  ·exact ((hT.same ((aq.refl H').lay hp2)).app (cR.one (SqT.of ag))).rew hl2
  ·intro x hx
   rcases List.mem_append.mp hx with hx | hx
   ·exact hg x hx
   ·rw [List.mem_singleton] at hx
    subst hx
    refine ⟨⟨?_,?_⟩,⟨?_,?_⟩,?_⟩
    ·show 1<=1+r1;omega
    ·show 1+r1<=9;omega
    ·show 1<=1+(1+r1+r2) % 9;omega
    ·show 1+(1+r1+r2) % 9<=9;omega
    ·show 1+r1≠1+(1+r1+r2) % 9;omega
 ·rintro σ H' ⟨s1,as,ls,t,u,rfl,hl',hT,hlen,hg⟩
  k_mem
  exact q l as ls H' hl s1 hl' hT (by omega) hg
variable (yU:KD P w K mg base CX0 2 "_law_codes" (qc K Z))
def HP (K:WA)(c m mo:Int)(cn:V)(l:Addr)(H:Hp)(i:Nat)(σ:St)(H':Hp):Prop:=aq H H'/\∃(as:List Addr) (ls:List Ld) (t u:Option V),σ=[some (.int c),some (.int m),some (.int mo),some (.ref l),some cn,t,u]/\H' l=some (.lst (as.map V.ref))/\jQ K H' as ls/\ls.length=i/\(∀x∈ls,iU m x/\Cu x)
theorem two_of {r2 r1 mo:Int}(h0:0<=r1)(h1:r1 < mo+1):∃n:Int,atI [V.int r1,V.int mo] (if decide (r2=3)=true then 1 else 0)=some (V.int n)/\0<=n/\n<=mo:=by
 split
 ·exact ⟨mo,rfl,by omega,by omega⟩
 ·exact ⟨r1,rfl,by omega,by omega⟩
inductive qd (K:WA)(Z:Adr)(vs:List V)(H:Hp)(Q:VK)(E:XK):Prop | mk (c m mo:Int):vs=[.int c,.int m,.int mo]->0 < m->0<=mo->mo<=500->(∀(l:Addr) (as:List Addr) (ls:List Ld) (H':Hp),H l=none->aq H H'->H' l=some (.lst (as.map V.ref))->jQ K H' as ls->(ls.length:Int)<=mo->(∀x∈ls,iU m x/\Cu x)->Q (.ref l) H')->qd K Z vs H Q E
include T bX in
theorem DB:FF P w K mg base CX0 2 "_law_loads" "_law_loads" sU yy (qd K Z):=fk0 jd fun vs H Q E h=>by
 obtain ⟨c,m,mo,rfl,hm,h0,h1,q⟩:=h
 k_all
 refine seg 3 (ah (az (pv' 3))) fun zt3 zh3 ze3=>?_
 refine seg 2 (ae (cX PassesOwn.never rfl (bf (by rfl) T.cq (pa1 (pv' 4))) (aB (i:=5) jd.nd rfl orL) (ae (aD (i:=6) jd.nd rfl orL (ao av (bc (pa2 aE aE)) (dc0 bX hr.dn (pa3 (pv' 0) (aP bt (mQ af (pv' 5)) af) af)))) (ah (bb (oE PySem.F.plainAttrs_list PySem.F.slot_list_append PySem.F.type_list_append dO (pv' 3) (pa1 (aQ (pa3 (pv' 6) (dc0 bX hr.dn (pa3 (pv' 0) (aP bt (mQ af (pv' 5)) af) (pv' 1))) (dc0 bX hr.dn (pa3 (pv' 0) (aP bt (mQ af (pv' 5)) af) (pv' 1))))))))))) zh3) fun zt2 zh2 ze2=>?_
 refine seg 1 (ae (aD (i:=4) jd.nd rfl orL (ao av (bc (pa2 (dc0 bX hr.dn (pa3 (pv' 0) af (aP bt (pv' 2) af))) (pv' 2))) (bg gw (by rfl) T.ua mG (pa1 (cG fT (dc0 bX hr.dn (pa3 (pv' 0) af af)) af (bL _)))))) zh2) fun zt1 zh1 ze1=>?_
 refine ⟨_,ae (aD (i:=3) jd.nd rfl orL (bc ff)) zh1,?_⟩
 k_mem
 refine ⟨by decide,fun l hl=>?_⟩
 k_upd
 refine ⟨c,0,mo+1,rfl,by omega,by omega,by omega,fun r1 h2 h3=>⟨by decide,fun p hp=>⟨c,94,4,rfl,by omega,by omega,by omega,fun r2 h4 h5=>⟨_,SqL.of ag,?_⟩⟩⟩⟩
 obtain ⟨n,e,hn0,hn1⟩:=two_of (r2:=r2) h2 h3
 k_upd
 refine ⟨_,e,?_⟩
 k_mem
 refine ⟨by omega,by omega,?_⟩
 k_upd
 refine cj (HP K c m mo (.int n) l H) ⟨(aq.refl H).lay hl |>.lay hp,[],[],none,none,rfl,upo ag hp,jQ.nil,rfl,fun x hx=>by cases hx⟩ ?_ ?_
 ·rintro i σ H' hi ⟨s1,as,ls,t,u,rfl,hl',hT,hlen,hg⟩
  k_mem
  refine ⟨by decide,fun p1 hp1=>?_⟩
  k_upd
  refine ⟨c,3 * (0 + ↑i)+1,2,rfl,by omega,by omega,by omega,fun r3 h6 h7=>?_⟩
  obtain ⟨kd,hk,ek⟩:=Gv h6 h7
  k_mem
  refine ⟨_,SqL.of ag,_,ek,?_⟩
  k_mem
  refine ⟨.inl ⟨rfl,_,SqL.of (upo hl' hp1)⟩,c,3 * (0 + ↑i)+2,m,rfl,by omega,by omega,by omega,fun r4 h8 h9=>?_⟩
  k_upd
  refine ⟨c,3 * (0 + ↑i)+3,m,rfl,by omega,by omega,by omega,fun r5 h10 h11=>?_⟩
  k_mem
  refine ⟨by decide,fun p2 hp2=>⟨_,upo (upo hl' hp1) hp2,cy (by rw [WB,hT.1];omega),?_⟩⟩
  have hl2:=upo (o:=HO.tup [V.str kd,V.int r4,V.int r5]) (upo (o:=HO.lst [V.str (Str.ofString "men"),V.str (Str.ofString "coal")]) hl' hp1) hp2
  k_upd
  refine ⟨(s1.lay hp1 |>.lay hp2).rewr hl,as++[p2],ls++[(kd,r4,r5)],_,_,rfl,?_,?_,by rw [List.length_append,hlen];rfl,?_⟩
  ·rw [ag,List.map_append];rfl
  ·exact ((hT.same ((aq.refl H').lay hp1 |>.lay hp2)).app (jQ.one (SqT.of ag))).rew hl2
  ·intro x hx
   rcases List.mem_append.mp hx with hx | hx
   ·exact hg x hx
   ·rw [List.mem_singleton] at hx
    subst hx
    k_upd
    exact ⟨⟨⟨h8,h9⟩,⟨h10,h11⟩⟩,hk⟩
 ·rintro σ H' ⟨s1,as,ls,t,u,rfl,hl',hT,hlen,hg⟩
  k_mem
  exact q l as ls H' hl s1 hl' hT (by omega) hg
variable (yV:KD P w K mg base CX0 2 "_law_loads" (qd K Z))
inductive tF (K:WA)(Z:Adr)(vs:List V)(H:Hp)(Q:VK)(E:XK):Prop | mk (p dl cl ll a dd:Addr) (g:Cfg) (lds:List Ld) (n:aM) (t:Int) (d:Dd):vs=[.ref p,.ref a,.ref dd]->dN K H p dl cl ll g lds->fR g->cZ g n->iB K H a (n,t)->SqT K H dd (ddV d)->vf d->eI g n d=none->(∀b H',aq H H'->iB K H' b (cv g n d,t+sk g n d)->Q (.ref b) H')->tF K Z vs H Q E
include T l8 rq yQ yR yT in
theorem Fn:FF P w K mg base CX0 2 "_law_next" "_law_next" vQ Be (tF K Z):=fk0 bT fun vs H Q E h=>by
 obtain ⟨p,dl,cl,ll,a,dd,g,lds,n,t,d,rfl,hP,hg,hn,hSt,hD,ok,hrf,q⟩:=h
 k_all
 refine seg 8 (ah (az (aQ (cV (pv' 3) (cV (pv' 4) (pa4 (pv' 5) (pv' 6) (pv' 7) (pv' 9))))))) fun zt8 zh8 ze8=>?_
 refine seg 7 (ae (aN (bQ (ao au (pv' 2) af) aE) (ae (aD (i:=11) bT.nd rfl orL (ao av (ao av (pv' 0) af) (ao au (pv' 2) af))) (ae (aD (i:=12) bT.nd rfl orL (ao av (bc (pa2 (pv' 11) (aP dB (ao av (ao av (pv' 0) af) (gJ dj af)) (pv' 11)))) (ao au (pv' 2) af))) (ae (aD (i:=9) bT.nd rfl orL (aP bt (pv' 8) (dc0 yQ hr.dn (pa2 (aH yv (by rfl) T.KA Gg (pa1 (aP dB (pv' 12) (pv' 3)))) (dc0 yR hr.dn (pa2 (pv' 0) (pv' 5))))))) (ah (aD (i:=3) bT.nd rfl orL (pv' 12)))))) (aC)) zh8) fun zt7 zh7 ze7=>?_
 refine seg 6 (ae (aN (bQ (ao au (pv' 2) af) aE) (ah (aD (i:=7) bT.nd rfl orL (bg mR (by rfl) T.rj mH (pa1 (aH CH (by rfl) T.Bl xY (pa1 (aP Ht (pv' 7) (aQ (pa1 (ao au (pv' 2) af)))))))))) (aC)) zh7) fun zt6 zh6 ze6=>?_
 refine seg 5 (ae (aN (bQ (ao au (pv' 2) af) aE) (ae (aD (i:=10) bT.nd rfl orL (dc0 l8 hr.dn (pa3 (ao av (pv' 0) af) (ao au (pv' 2) af) (pv' 3)))) (ah (aD (i:=5) bT.nd rfl orL (dc0 rq hr.dn (pa3 (pv' 5) (LV PySem.F.plainAttrs_tuple PySem.F.slot_tuple_index PySem.F.type_tuple_index E6 (pv' 5) (pa1 (aP bt af (ao au (pv' 2) af)))) (pv' 10)))))) (aC)) zh6) fun zt5 zh5 ze5=>?_
 refine seg 4 (ae (aN (bQ (ao au (pv' 2) af) aE) (ah (aD (i:=5) bT.nd rfl orL (dc0 rq hr.dn (pa3 (pv' 5) (ao au (pv' 2) af) (aP bt af (ao au (pv' 2) af)))))) (aC)) zh5) fun zt4 zh4 ze4=>?_
 refine seg 3 (ae (aN (oC (bQ (ao au (pv' 2) af) aE) (kY (bQ (ao au (pv' 2) af) aE))).pt (ah (aD (i:=4) bT.nd rfl orL (dc0 rq hr.dn (pa3 (pv' 4) (ao au (pv' 2) af) (cG fT (ao au (pv' 2) af) aE (bL _)))))) (aC)) zh4) fun zt3 zh3 ze3=>?_
 refine seg 2 (ae (aD (i:=9) bT.nd rfl orL (aP bt (pv' 8) af)) zh3) fun zt2 zh2 ze2=>?_
 refine seg 1 (ae (aD (i:=6) bT.nd rfl orL (dc0 yT hr.dn (pa2 (pv' 6) (pv' 2)))) zh2) fun zt1 zh1 ze1=>?_
 refine ⟨_,ae (gP (pv' 1) (eV rfl (aG (aB (i:=3) bT.nd rfl orL) (aG (aB (i:=4) bT.nd rfl orL) (aG (aB (i:=5) bT.nd rfl orL) (aG (aB (i:=6) bT.nd rfl orL) (aG (aB (i:=7) bT.nd rfl orL) (aG (aB (i:=8) bT.nd rfl orL) cM)))))))) zh1,?_⟩
 obtain ⟨gt,lt,ht,dt,h1,h2,h3,h4,h5⟩:=hSt
 obtain ⟨hp,hdl,_,⟨bs,hll,hT2⟩,ek⟩:=id hP
 have l2:=hg.sh.l2
 have l6:=hg.sh.l6
 have gl:=hn.gl
 have wl:=hn.wl
 have k30:=hg.k30
 have ekl:lds.length=g.ks.length:=by rw [ek,WB]
 k_mem
 refine ⟨_,h1,rfl,?_⟩
 k_mem
 refine ⟨ht,dd,g,n,d,rfl,h4,hD,hrf,fun hh H1 s1 hH=>?_⟩
 have hD1:=s1.tup hD
 k_mem
 cases d with
 | ring l s=>
  refine ⟨_,hD1,_,rfl,?_⟩
  k_mem
  rw [if_neg (by decide)]
  k_upd
  refine ⟨_,hD1,_,rfl,?_⟩
  k_mem
  rw [if_neg (by decide)]
  k_upd
  refine ⟨_,hD1,_,rfl,?_⟩
  k_mem
  rw [if_neg (by decide)]
  k_upd
  refine ⟨_,hD1,_,rfl,?_⟩
  k_mem
  rw [if_neg (by decide)]
  k_upd
  refine ⟨_,hD1,_,rfl,?_⟩
  k_mem
  rw [if_neg (by decide)]
  k_upd
  refine ⟨_,hD1,_,rfl,?_⟩
  k_mem
  rw [if_neg (by decide)]
  k_upd
  refine ⟨by decide,fun b hb=>q b _ ((s1).lay hb) ⟨gt,lt,hh,dt,SqT.of ag,?_,?_,?_,?_⟩⟩
  ·exact (s1.lay hb).tup h2
  ·exact upo (s1 _ _ h3) hb
  ·exact ((aq.refl H1).lay hb).tup hH
  ·exact (s1.lay hb).tup h5
 | rept s=>
  refine ⟨_,hD1,_,rfl,?_⟩
  k_mem
  rw [if_neg (by decide)]
  k_upd
  refine ⟨_,hD1,_,rfl,?_⟩
  k_mem
  rw [if_neg (by decide)]
  k_upd
  refine ⟨_,hD1,_,rfl,?_⟩
  k_mem
  rw [if_neg (by decide)]
  k_upd
  refine ⟨_,hD1,_,rfl,?_⟩
  k_mem
  rw [if_neg (by decide)]
  k_upd
  refine ⟨_,hD1,_,rfl,?_⟩
  k_mem
  rw [if_neg (by decide)]
  k_upd
  refine ⟨_,hD1,_,rfl,?_⟩
  k_mem
  rw [if_neg (by decide)]
  k_upd
  refine ⟨by decide,fun b hb=>q b _ ((s1).lay hb) ⟨gt,lt,hh,dt,SqT.of ag,?_,?_,?_,?_⟩⟩
  ·exact (s1.lay hb).tup h2
  ·exact upo (s1 _ _ h3) hb
  ·exact ((aq.refl H1).lay hb).tup hH
  ·exact (s1.lay hb).tup h5
 | opn l=>
  obtain ⟨hl,_⟩:=IL hrf
  k_upd
  refine ⟨_,hD1,_,rfl,?_⟩
  k_mem
  rw [if_pos rfl]
  k_upd
  refine ⟨_,hD1,_,rfl,_,hD1,_,rfl,?_⟩
  k_mem
  refine ⟨gt,n.gates.map V.bl,l,.bl true,?_,s1.tup h2,hl.1,by rw [WB];omega,by rw [WB];omega,fun g2 H2 s2 hg2=>?_⟩
  ·rfl
  have s12:=s1.trans s2
  have hD2:=s2.tup hD1
  k_mem
  refine ⟨_,hD2,_,rfl,?_⟩
  k_mem
  rw [if_neg (by decide)]
  k_upd
  refine ⟨_,hD2,_,rfl,?_⟩
  k_mem
  rw [if_neg (by decide)]
  k_upd
  refine ⟨_,hD2,_,rfl,?_⟩
  k_mem
  rw [if_neg (by decide)]
  k_upd
  refine ⟨_,hD2,_,rfl,?_⟩
  k_mem
  rw [if_neg (by decide)]
  k_upd
  refine ⟨by decide,fun b hb=>q b _ ((s12).lay hb) ⟨g2,lt,hh,dt,SqT.of ag,?_,?_,?_,?_⟩⟩
  ·exact SqT.of (by rw [upo hg2 hb,qz];rfl)
  ·exact upo (s12 _ _ h3) hb
  ·exact (s2.lay hb).tup hH
  ·exact (s12.lay hb).tup h5
 | sht l=>
  obtain ⟨hl,_⟩:=IM hrf
  k_upd
  refine ⟨_,hD1,_,rfl,?_⟩
  k_mem
  rw [if_neg (by decide)]
  k_upd
  refine ⟨_,hD1,_,rfl,?_⟩
  k_mem
  rw [if_pos rfl]
  k_upd
  refine ⟨_,hD1,_,rfl,_,hD1,_,rfl,?_⟩
  k_mem
  refine ⟨gt,n.gates.map V.bl,l,.bl false,?_,s1.tup h2,hl.1,by rw [WB];omega,by rw [WB];omega,fun g2 H2 s2 hg2=>?_⟩
  ·rfl
  have s12:=s1.trans s2
  have hD2:=s2.tup hD1
  k_mem
  refine ⟨_,hD2,_,rfl,?_⟩
  k_mem
  rw [if_neg (by decide)]
  k_upd
  refine ⟨_,hD2,_,rfl,?_⟩
  k_mem
  rw [if_neg (by decide)]
  k_upd
  refine ⟨_,hD2,_,rfl,?_⟩
  k_mem
  rw [if_neg (by decide)]
  k_upd
  refine ⟨_,hD2,_,rfl,?_⟩
  k_mem
  rw [if_neg (by decide)]
  k_upd
  refine ⟨by decide,fun b hb=>q b _ ((s12).lay hb) ⟨g2,lt,hh,dt,SqT.of ag,?_,?_,?_,?_⟩⟩
  ·exact SqT.of (by rw [upo hg2 hb,qz];rfl)
  ·exact upo (s12 _ _ h3) hb
  ·exact (s2.lay hb).tup hH
  ·exact (s12.lay hb).tup h5
 | load k c=>
  obtain ⟨hk,l,hl,_,_,_⟩:=AM hrf
  k_upd
  refine ⟨_,hD1,_,rfl,?_⟩
  k_mem
  rw [if_neg (by decide)]
  k_upd
  refine ⟨_,hD1,_,rfl,?_⟩
  k_mem
  rw [if_neg (by decide)]
  k_upd
  refine ⟨_,hD1,_,rfl,?_⟩
  k_mem
  rw [if_pos rfl]
  k_upd
  refine ⟨_,hD1,_,rfl,_,hD1,_,rfl,?_⟩
  k_mem
  refine ⟨lt,n.ws.map V.int,k,.int (10+c),rfl,SqT.of (s1 _ _ h3),hk.1,by rw [WB];omega,by rw [WB];omega,fun w2 H2 s2 hw2=>?_⟩
  have s12:=s1.trans s2
  have hD2:=s2.tup hD1
  k_mem
  refine ⟨_,hD2,_,rfl,?_⟩
  k_mem
  rw [if_neg (by decide)]
  k_upd
  refine ⟨_,hD2,_,rfl,?_⟩
  k_mem
  rw [if_neg (by decide)]
  k_upd
  refine ⟨_,hD2,_,rfl,?_⟩
  k_mem
  rw [if_neg (by decide)]
  k_upd
  refine ⟨by decide,fun b hb=>q b _ ((s12).lay hb) ⟨gt,w2,hh,dt,SqT.of ag,?_,?_,?_,?_⟩⟩
  ·exact (s12.lay hb).tup h2
  ·rw [upo hw2 hb,qz];rfl
  ·exact (s2.lay hb).tup hH
  ·exact (s12.lay hb).tup h5
 | unload c=>
  obtain ⟨hin,l,hl,_⟩:=vh hrf
  have hix:=so hin
  k_upd
  refine ⟨_,hD1,_,rfl,?_⟩
  k_mem
  rw [if_neg (by decide)]
  k_upd
  refine ⟨_,hD1,_,rfl,?_⟩
  k_mem
  rw [if_neg (by decide)]
  k_upd
  refine ⟨_,hD1,_,rfl,?_⟩
  k_mem
  rw [if_neg (by decide)]
  k_upd
  refine ⟨_,hD1,_,rfl,?_⟩
  k_mem
  rw [if_pos rfl]
  k_upd
  refine ⟨_,SqL.of (s1 _ _ hp),_,rfl,_,hD1,_,rfl,?_⟩
  k_mem
  refine ⟨dl,g.ds,c,n.place,rfl,SqL.of (s1 _ _ hdl),hg.sh,ok.1,ok.2,fun H2 s2=>?_⟩
  have s12:=s1.trans s2
  have hD2:=s2.tup hD1
  k_mem
  refine ⟨⟨_,_,rfl,s12 _ _ h3⟩,_,hD2,_,rfl,?_⟩
  k_mem
  refine ⟨_,n.ws,_,rfl,rfl,s12 _ _ h3,hin,?_⟩
  k_mem
  refine ⟨lt,n.ws.map V.int,_,.int ((aT g.ds n.place c).getD (-1)),rfl,SqT.of (s12 _ _ h3),Int.natCast_nonneg _,by rw [WB];omega,by rw [WB];omega,fun w2 H3 s3 hw2=>?_⟩
  have s13:=s12.trans s3
  have hD3:=s3.tup hD2
  k_mem
  refine ⟨_,hD3,_,rfl,?_⟩
  k_mem
  rw [if_neg (by decide)]
  k_upd
  refine ⟨_,hD3,_,rfl,?_⟩
  k_mem
  rw [if_neg (by decide)]
  k_upd
  refine ⟨by decide,fun b hb=>q b _ ((s13).lay hb) ⟨gt,w2,hh,dt,SqT.of ag,?_,?_,?_,?_⟩⟩
  ·exact (s13.lay hb).tup h2
  ·rw [upo hw2 hb,Int.toNat_natCast,qz];rfl
  ·exact ((s2.trans s3).lay hb).tup hH
  ·exact (s13.lay hb).tup h5
 | fail l=>
  obtain ⟨hl,hf⟩:=GH hrf
  have fl:=hn.fl
  have dlen:=sv n.fs
  k_upd
  refine ⟨_,hD1,_,rfl,?_⟩
  k_mem
  rw [if_neg (by decide)]
  k_upd
  refine ⟨_,hD1,_,rfl,?_⟩
  k_mem
  rw [if_neg (by decide)]
  k_upd
  refine ⟨_,hD1,_,rfl,?_⟩
  k_mem
  rw [if_neg (by decide)]
  k_upd
  refine ⟨_,hD1,_,rfl,?_⟩
  k_mem
  rw [if_neg (by decide)]
  k_upd
  refine ⟨_,hD1,_,rfl,?_⟩
  k_mem
  rw [if_pos rfl]
  k_upd
  refine ⟨_,hD1,_,rfl,?_⟩
  k_mem
  refine ⟨by decide,fun p1 hp1=>⟨_,(s1.lay hp1).tup h5,_,SqT.of ag,by rw [WB];show (cO n.fs).length+1<=1000;omega,fun p2 H2 s2 hc=>?_⟩⟩
  have s12:=(s1.lay (o:=HO.tup [V.int l]) hp1).trans s2
  have f12:=((aq.refl H1).lay (o:=HO.tup [V.int l]) hp1).trans s2
  k_upd
  refine ⟨p2,cO n.fs++[l],rfl,by rw [List.map_append];exact hc,by rw [List.length_append,List.length_singleton];omega,fun l1 ms hl1 hpm hpw=>?_⟩
  rw [E7 hl.1 (by omega) hf hpm hpw]
  k_mem
  refine ⟨_,.inl ⟨SqL.of ag,fun d2 hd2=>?_⟩⟩
  have s13:=(s12.lay (o:=HO.lst ((cO (n.fs.set l.toNat true)).map V.int)) hl1).lay (o:=HO.tup ((cO (n.fs.set l.toNat true)).map V.int)) hd2
  have f13:=(f12.lay (o:=HO.lst ((cO (n.fs.set l.toNat true)).map V.int)) hl1).lay (o:=HO.tup ((cO (n.fs.set l.toNat true)).map V.int)) hd2
  have hd3:upd (upd H2 l1 (HO.lst ((cO (n.fs.set l.toNat true)).map V.int))) d2 (HO.tup ((cO (n.fs.set l.toNat true)).map V.int)) d2=some (HO.tup ((cO (n.fs.set l.toNat true)).map V.int)):=ag
  generalize upd (upd H2 l1 (HO.lst ((cO (n.fs.set l.toNat true)).map V.int))) d2 (HO.tup ((cO (n.fs.set l.toNat true)).map V.int))=H3 at *
  have hD3:=f13.tup hD1
  k_mem
  refine ⟨_,hD3,_,rfl,?_⟩
  k_mem
  rw [if_neg (by decide)]
  k_upd
  refine ⟨by decide,fun b hb=>q b _ ((s13).lay hb) ⟨gt,lt,hh,d2,SqT.of ag,?_,?_,?_,?_⟩⟩
  ·exact (s13.lay hb).tup h2
  ·exact upo (s13 _ _ h3) hb
  ·exact (f13.lay hb).tup hH
  ·exact SqT.of (upo hd3 hb)
 | wind c l k=>
  obtain ⟨hl,_,harm⟩:=vi hrf
  have okc:0<=c/\c < 2:=ok.1
  k_upd
  refine ⟨_,hD1,_,rfl,?_⟩
  k_mem
  rw [if_neg (by decide)]
  k_upd
  refine ⟨_,hD1,_,rfl,?_⟩
  k_mem
  rw [if_neg (by decide)]
  k_upd
  refine ⟨_,hD1,_,rfl,?_⟩
  k_mem
  rw [if_neg (by decide)]
  k_upd
  refine ⟨_,hD1,_,rfl,?_⟩
  k_mem
  rw [if_neg (by decide)]
  k_upd
  refine ⟨_,hD1,_,rfl,?_⟩
  k_mem
  rw [if_neg (by decide)]
  k_upd
  refine ⟨_,hD1,_,rfl,?_⟩
  k_mem
  rw [if_pos rfl]
  k_upd
  refine ⟨_,SqL.of (s1 _ _ hp),_,rfl,?_⟩
  k_mem
  refine ⟨_,hD1,_,rfl,?_⟩
  k_mem
  refine ⟨_,SqL.of (s1 _ _ hdl),_,dh hl.1 hl.2,?_⟩
  k_mem
  refine ⟨_,SqL.of (s1 _ _ hp),_,rfl,?_⟩
  k_mem
  refine ⟨_,SqL.of (s1 _ _ hdl),_,Cs (by omega),?_⟩
  k_mem
  refine ⟨by decide,fun p1 hp1=>⟨_,((aq.refl H1).lay hp1).tup hD1,_,rfl,?_⟩⟩
  k_mem
  refine ⟨_,SqL.of ag,_,two_deep okc.1 okc.2,?_⟩
  have f2:=(aq.refl H1).lay (o:=HO.lst [V.int (g.ds.getD l.toNat 0),V.int (cu g.ds - g.ds.getD l.toNat 0)]) hp1
  have s2:=s1.lay (o:=HO.lst [V.int (g.ds.getD l.toNat 0),V.int (cu g.ds - g.ds.getD l.toNat 0)]) hp1
  generalize upd H1 p1 (HO.lst [V.int (g.ds.getD l.toNat 0),V.int (cu g.ds - g.ds.getD l.toNat 0)])=H2 at *
  rw [show (if c=0 then g.ds.getD l.toNat 0 else cu g.ds - g.ds.getD l.toNat 0)=gR g.ds c l from rfl]
  k_mem
  refine ⟨p,dl,cl,ll,lt,g,lds,n.ws,rfl,hP.same s2,SqT.of (s2 _ _ h3),by omega,by omega,fun x hx=>by have:=hn.wr x hx;omega,?_⟩
  k_mem
  have sp:=hg.speed n
  have pl:=hn.place hg
  have hm:g.ds.getD l.toNat 0∈g.ds:=cH (by omega)
  have m0:=hg.sh.lo _ hm
  have m5:=hg.sh.hi _ hm
  have mw:=hg.sh.le_whole hm
  have w5:=hg.sh.hi _ hg.sh.whole_mem
  have wb:0<=gR g.ds c l/\gR g.ds c l<=500:=by unfold gR;split<;>omega
  rw [show (if AG g.ks n.ws=true then g.slow else g.fast)=fS g n from rfl]
  k_upd
  refine ⟨_,_,rfl,by split<;>omega,by split<;>omega,by omega,by omega,?_⟩
  k_mem
  refine ⟨by decide,fun b hb=>q b _ ((s2).lay hb) ⟨gt,lt,hh,dt,SqT.of ag,?_,?_,?_,?_⟩⟩
  ·exact (s2.lay hb).tup h2
  ·exact upo (s2 _ _ h3) hb
  ·exact (f2.lay hb).tup hH
  ·exact (s2.lay hb).tup h5
variable (BN:KD P w K mg base CX0 2 "_law_next" (tF K Z))
def Nw (H:Hp)(p a dl cl ht lv:Addr)(r:Int)(g:Cfg)(n:aM)(i:Nat)(σ:St)(H':Hp):Prop:=aq H H'/\(∃t u v,σ=[some (.ref p),some (.ref a),some (.int r),some (.ref dl),some (.ref cl),some (.ref ht),some (.ref lv),t,u,v])/\∀c:Int,0<=c->c < i->∀l,aT g.ds n.place c=some l->n.gates.getD l.toNat false=false
inductive gj (K:WA)(Z:Adr)(vs:List V)(H:Hp)(Q:VK)(E:XK):Prop | mk (p dl cl ll a:Addr) (g:Cfg) (lds:List Ld) (n:aM) (t r:Int):vs=[.ref p,.ref a,.int r]->dN K H p dl cl ll g lds->fR g->cZ g n->iB K H a (n,t)->(∀dd d H',aq H H'->SqT K H' dd (ddV d)->vf d->eI g n d=none->Q (.ref dd) H')->gj K Z vs H Q E
include T l8 in
theorem rC:FF P w K mg base CX0 2 "_law_towards_wind" "_law_towards_wind" gz kJ (gj K Z):=fk0 bR fun vs H Q E h=>by
 obtain ⟨p,dl,cl,ll,a,g,lds,n,t,r,rfl,hP,hg,hn,hSt,q⟩:=h
 k_all
 refine seg 8 (ah (az (aQ (pa4 aE (bY (pv' 2) af) (ao au (pv' 5) af) (pv' 9))))) fun zt8 zh8 ze8=>?_
 refine seg 7 (ae (aD (i:=9) bR.nd rfl orL (ao av (bc (pa2 aE aE)) (bg gw (by rfl) T.ua mG (pa1 (cG fT (ao au (ao av (pv' 4) (ao au (pv' 5) af)) af) (ao au (pv' 5) af) (bL _)))))) zh8) fun zt7 zh7 ze7=>?_
 refine seg 6 (ae (cX PassesOwn.never rfl (bf (by rfl) T.cq (pa1 af)) (aB (i:=8) bR.nd rfl orL) (ae (aD (i:=7) bR.nd rfl orL (dc0 l8 hr.dn (pa3 (pv' 3) (pv' 8) (ao au (pv' 1) af)))) (ah (aN (kZ (A9 (pv' 7) af) (jy (cx (ao au (ao au (pv' 1) af) (pv' 7))))).pt (ah (az (aQ (pa2 aE (pv' 7))))) (aC))))) zh7) fun zt6 zh6 ze6=>?_
 refine seg 5 (ae (aN (tS (ao au (pv' 5) af) aE) (ah (az (ao av (bc (pa2 (aQ (pa2 aE af)) (aQ (pa2 aE af)))) (bg gw (by rfl) T.ua mG (pa1 (ao au (ao au (pv' 1) af) af)))))) (aC)) zh6) fun zt5 zh5 ze5=>?_
 refine seg 4 (ae (aN (kZ (tS (ao au (pv' 5) af) aE) (jy (dk (zD hr.units0) (pv' 6) (bc ff) (bL _)))).pt (ae (aD (i:=7) bR.nd rfl orL (ao av (pv' 6) (aP lE (pv' 2) (aH aw (by rfl) T.bN ba (pa1 (pv' 6)))))) (ah (az (aQ (pa3 aE (pv' 7) (ao au (ao av (pv' 4) (pv' 7)) (bY (eU (pv' 2) af) af))))))) (aC)) zh5) fun zt4 zh4 ze4=>?_
 refine seg 3 (ae (aN (bQ (ao au (pv' 5) af) aE) (ah (az (aQ (pa2 aE (ao au (pv' 5) af))))) (aC)) zh4) fun zt3 zh3 ze3=>?_
 refine seg 2 (ae (AB ["_law_k","_law_state"] [none,some 1] (iy:=6) bR.nd rfl rfl (bf (by rfl) T.cq (pa1 (aH aw (by rfl) T.bN ba (pa1 (pv' 3))))) (fun _ _ _ _=>(aB (i:=0) (show (["_law_k","_law_state"]:List Str).Nodup by decide +kernel) rfl orL)) (fun _ _ _ _=>(ix (dk (show OpR _ _ (AZ K true) from gF) (pv' 0) (ao (show IxR _ (qC K) from au) (pv' 1) af) (by rfl)))) (fun _ _ _ _=>(pv' 0))) zh3) fun zt2 zh2 ze2=>?_
 refine seg 1 (ae (aD (i:=5) bR.nd rfl orL (ao au (pv' 1) af)) zh2) fun zt1 zh1 ze1=>?_
 refine ⟨_,ae (JK (i:=3) (j:=4) rfl bR.nd rfl rfl (by decide) rfl rfl (pa2 (ao av (pv' 0) af) (ao av (pv' 0) af)) (by rfl)) zh1,?_⟩
 obtain ⟨gt,lt,ht,dt,h1,h2,h3,h4,h5⟩:=hSt
 obtain ⟨hp,hdl,⟨as,hcl,hT⟩,_,ek⟩:=id hP
 have l2:=hg.sh.l2
 have l6:=hg.sh.l6
 have gl:=hn.gl
 have fl:=hn.fl
 k_mem
 refine ⟨_,SqL.of hp,_,rfl,_,SqL.of hp,_,rfl,?_⟩
 k_mem
 refine ⟨_,h1,_,rfl,?_⟩
 k_mem
 refine ⟨_,.inl (SqL.of hdl),by omega,by rw [WB];omega,?_⟩
 rw [WB,Int.toNat_natCast,←fl]
 refine dR (fun j=>!n.fs.getD j false) (fun (j:Nat)=>.int (j:Int)) (by rw [sizeLine_eq];omega) rfl (fun i hi N hN=>?_) (fun i hi _ N hN=>?_) fun lv hlv=>?_
 ·k_mem
  k_upd
  refine ⟨_,h1,_,rfl,?_⟩
  k_mem
  refine ⟨_,.inr h5,rfl,by simp [bO],?_⟩
  rw [nZ]
  have:(!decide (0+(i:Int)∈cO n.fs))=!n.fs.getD i false:=by
   congr 1
   rw [Bool.eq_iff_iff,decide_eq_true_eq,iM,Int.zero_add,Int.toNat_natCast]
   k_upd
   exact ⟨fun z=>z.2.2,fun z=>⟨Int.natCast_nonneg _,by omega,z⟩⟩
  rw [this]
  exact hN
 ·k_mem
  rw [Int.zero_add]
  exact hN
 rw [show List.map (fun (j:Nat)=>V.int (j:Int)) (List.filter (fun j=>!n.fs.getD j false) (List.range n.fs.length))=(dI n.fs).map V.int by unfold dI;rw [List.map_map];rfl] at *
 (generalize hE:upd H lv _=H1 at *;have s1:=cC hE hlv;have hlv1:=bu hE;clear hE)
 k_mem
 have h41:=s1.tup h4
 rcases Md n.e with ⟨l,rr,he⟩ | ⟨l,rr,he⟩ | ⟨w1,w2,w3,w4,he,na,nb⟩
 ·simp only [he] at h41
  have hr:=hn.code hg (.inl he)
  k_upd
  refine ⟨_,h41,_,rfl,?_⟩
  k_mem
  rw [if_pos rfl]
  k_upd
  refine ⟨_,h41,_,rfl,by decide,fun dd hdd=>?_⟩
  k_upd
  exact q dd (.rept rr) _ (s1.lay hdd) (SqT.of ag) trivial (mO he hr.1 hr.2)
 ·simp only [he] at h41
  obtain ⟨el0,el1,erc⟩:=hn.ew l rr (.inr he)
  k_upd
  refine ⟨_,h41,_,rfl,?_⟩
  k_mem
  rw [if_neg (by decide)]
  k_upd
  refine ⟨_,h41,_,rfl,?_⟩
  k_mem
  rw [if_neg (by decide)]
  k_upd
  refine ⟨_,h41,_,rfl,?_⟩
  k_mem
  rw [if_neg (by decide)]
  k_upd
  refine ⟨by decide,by decide,?_⟩
  k_upd
  refine cj (Nw H1 p a dl cl ht lv r g n) ⟨aq.refl H1,⟨_,_,_,rfl⟩,fun c h0 h=>by omega⟩ ?_ ?_
  ·rintro i σ H2 hi ⟨s2,⟨t1,t2,t3,rfl⟩,hj⟩
   have s12:=s1.trans s2
   have hi2:i < 2:=hi
   k_mem
   refine ⟨_,s12.tup h1,_,rfl,?_⟩
   k_mem
   refine ⟨dl,g.ds,0+(i:Int),n.place,rfl,SqL.of (s12 _ _ hdl),hg.sh,by omega,by omega,fun H3 s3=>?_⟩
   have s13:=s12.trans s3
   k_mem
   split
   ·rename_i hge
    obtain ⟨l',e1,e2⟩:=Hl (by omega:¬(aT g.ds n.place (0+(i:Int))).getD (-1) < 0)
    obtain ⟨c0,c1,_⟩:=cB e1
    rw [e2] at *
    k_upd
    refine ⟨_,s13.tup h1,_,rfl,?_⟩
    k_mem
    refine ⟨_,s13.tup h2,_,jS c0 (by show l' < (n.gates.length:Int);omega),?_⟩
    k_mem
    split
    ·rename_i ho
     k_upd
     refine ⟨by decide,fun dd hdd=>?_⟩
     k_upd
     exact q dd (.sht l') _ (s13.lay hdd) (SqT.of ag) trivial (iX c0 c1 ho)
    ·rename_i ho
     k_upd
     refine ⟨s2.trans s3,⟨_,_,_,rfl⟩,fun c h0 h l2 el=>?_⟩
     by_cases ec:c=(i:Int)
     ·subst ec
      rw [Int.zero_add] at e1
      rw [e1] at el
      cases el
      simpa using ho
     ·exact hj c h0 (by omega) l2 el
   ·rename_i hge
    have e1:=Ky (by omega:(aT g.ds n.place (0+(i:Int))).getD (-1) < 0)
    k_upd
    refine ⟨s2.trans s3,⟨_,_,_,rfl⟩,fun c h0 h l2 el=>?_⟩
    by_cases ec:c=(i:Int)
    ·subst ec
     rw [Int.zero_add] at e1
     rw [e1] at el
     cases el
    ·exact hj c h0 (by omega) l2 el
  ·rintro σ H2 ⟨s2,⟨t1,t2,t3,rfl⟩,hj⟩
   have s12:=s1.trans s2
   have ho:dM g n=false:=yp hg.sh fun c hc l' el=>hj c (by omega) (by show c < ((2:Nat):Int);omega) l' el
   have h42:=s2.tup h41
   obtain ⟨ra,era,hra⟩:=lA (hT.same s12) el0 (by rw [hg.lc];exact el1)
   k_mem
   refine ⟨by decide,fun p1 hp1=>?_⟩
   have f1:=(aq.refl H2).lay (o:=HO.lst [V.str (Str.ofString "coal"),V.str (Str.ofString "men")]) hp1
   have hp1':upd H2 p1 (HO.lst [V.str (Str.ofString "coal"),V.str (Str.ofString "men")]) p1=some (HO.lst [V.str (Str.ofString "coal"),V.str (Str.ofString "men")]):=ag
   generalize upd H2 p1 (HO.lst [V.str (Str.ofString "coal"),V.str (Str.ofString "men")])=H3 at *
   have s13:=s12.trans f1
   have h43:=f1.tup h42
   k_upd
   refine ⟨_,h43,_,rfl,?_⟩
   k_mem
   refine ⟨_,SqL.of (s13 _ _ hcl),_,era,?_⟩
   k_mem
   refine ⟨_,f1.tup hra,_,rfl,?_⟩
   k_mem
   refine ⟨_,h43,_,rfl,?_⟩
   k_mem
   refine ⟨_,SqL.of hp1',_,Eo,?_⟩
   k_mem
   refine ⟨_,h43,_,rfl,by decide,fun dd hdd=>?_⟩
   by_cases e:(eM g.ls l).1=rr
   ·refine q dd (.wind (r % 2) l "men") _ (s13.lay hdd) (SqT.of (by rw [ag];simp only [e,decide_true,if_true];rfl)) ⟨⟨by omega,by omega⟩,.inl rfl⟩ (tR el0 el1 ho ?_)
    rw [he,cz,if_pos rfl,e]
   ·refine q dd (.wind (r % 2) l "coal") _ (s13.lay hdd) (SqT.of (by rw [ag];simp only [e,decide_false,Bool.false_eq_true,if_false];rfl)) ⟨⟨by omega,by omega⟩,.inr rfl⟩ (tR el0 el1 ho ?_)
    rw [he,cz,if_neg (by decide)]
    rcases erc with h | h
    ·exact absurd h.symm e
    ·rw [h]
 ·simp only [he] at h41
  k_upd
  refine ⟨_,h41,_,rfl,?_⟩
  k_mem
  rw [if_neg na]
  k_upd
  refine ⟨_,h41,_,rfl,?_⟩
  k_mem
  rw [if_pos nb]
  k_upd
  refine ⟨by decide,fun p1 hp1=>?_⟩
  have f1:=(aq.refl H1).lay (o:=HO.lst []) hp1
  have hp1':upd H1 p1 (HO.lst []) p1=some (HO.lst []):=ag
  generalize upd H1 p1 (HO.lst [])=H2 at *
  have s12:=s1.trans f1
  have h42:=f1.tup h41
  k_mem
  refine ⟨_,SqL.of (f1 _ _ hlv1),_,SqL.of hp1',by simp [bO],rfl,?_⟩
  rw [zy]
  k_mem
  by_cases hz:(dI n.fs).map V.int=[]
  ·rw [if_neg (fun z=>z hz)]
   k_upd
   refine ⟨_,h42,_,rfl,?_⟩
   k_mem
   rw [if_pos nb]
   k_upd
   refine ⟨by decide,fun p2 hp2=>⟨by decide,fun p3 hp3=>⟨by decide,fun p4 hp4=>?_⟩⟩⟩
   have f4:=(((aq.refl H2).lay (o:=HO.tup [V.str (Str.ofString "open"),V.int 0]) hp2).lay (o:=HO.tup [V.str (Str.ofString "shut"),V.int 0]) hp3).lay (o:=HO.lst [V.ref p2,V.ref p3]) hp4
   have e2:upd (upd (upd H2 p2 (HO.tup [V.str (Str.ofString "open"),V.int 0])) p3 (HO.tup [V.str (Str.ofString "shut"),V.int 0])) p4 (HO.lst [V.ref p2,V.ref p3]) p2=some (HO.tup [V.str (Str.ofString "open"),V.int 0]):=upo (upo ag hp3) hp4
   have e3:upd (upd (upd H2 p2 (HO.tup [V.str (Str.ofString "open"),V.int 0])) p3 (HO.tup [V.str (Str.ofString "shut"),V.int 0])) p4 (HO.lst [V.ref p2,V.ref p3]) p3=some (HO.tup [V.str (Str.ofString "shut"),V.int 0]):=upo ag hp4
   have e4:upd (upd (upd H2 p2 (HO.tup [V.str (Str.ofString "open"),V.int 0])) p3 (HO.tup [V.str (Str.ofString "shut"),V.int 0])) p4 (HO.lst [V.ref p2,V.ref p3]) p4=some (HO.lst [V.ref p2,V.ref p3]):=ag
   generalize upd (upd (upd H2 p2 (HO.tup [V.str (Str.ofString "open"),V.int 0])) p3 (HO.tup [V.str (Str.ofString "shut"),V.int 0])) p4 (HO.lst [V.ref p2,V.ref p3])=H3 at *
   have s13:=s12.trans f4
   k_upd
   refine ⟨_,s13.tup h1,_,rfl,?_⟩
   k_mem
   refine ⟨_,s13.tup h2,_,jS (l:=0) (by omega) (by show (0:Int) < (n.gates.length:Int);omega),?_⟩
   k_mem
   refine ⟨_,SqL.of e4,_,Eo,?_⟩
   by_cases hb:n.gates.getD 0 false=true
   ·rw [if_pos hb]
    k_upd
    exact q p3 (.sht 0) _ s13 (SqT.of e3) trivial (iX (by omega) (by omega) hb)
   ·rw [if_neg hb]
    k_upd
    exact q p2 (.opn 0) _ s13 (SqT.of e2) trivial (pC (by omega) (by omega) (by simpa using hb))
  ·rw [if_pos hz]
   have hlen:0 < (dI n.fs).length:=by
    rcases Nat.eq_zero_or_pos (dI n.fs).length with z | z
    ·exact absurd (by rw [List.eq_nil_of_length_eq_zero z];rfl) hz
    ·exact z
   have hm0:0<=r % ((dI n.fs).length:Int):=Int.emod_nonneg _ (by omega)
   have hm1:r % ((dI n.fs).length:Int) < ((dI n.fs).length:Int):=Int.emod_lt_of_pos _ (by omega)
   obtain ⟨v0,v1,v2⟩:=ym (cH (ds:=dI n.fs) (i:=(r % ((dI n.fs).length:Int)).toNat) (by omega))
   k_upd
   refine ⟨_,.inl (SqL.of (f1 _ _ hlv1)),by rw [WB];omega,_,SqL.of (f1 _ _ hlv1),_,by rw [WB];exact dh hm0 hm1,?_⟩
   generalize (dI n.fs).getD (r % ((dI n.fs).length:Int)).toNat 0=lx at *
   obtain ⟨ra,era,hra⟩:=lA (hT.same s12) v0 (by rw [hg.lc];omega)
   k_mem
   refine ⟨_,SqL.of (s12 _ _ hcl),_,era,?_⟩
   k_mem
   refine ⟨_,hra,_,two_deep (by omega) (by omega),by decide,fun dd hdd=>?_⟩
   refine q dd (.ring lx _) _ (s12.lay hdd) (SqT.of ag) trivial (mM v0 (by omega) v2 ?_)
   k_upd
   split
   ·exact .inl rfl
   ·exact .inr rfl
variable (kS:KD P w K mg base CX0 2 "_law_towards_wind" (gj K Z))
inductive gm (K:WA)(Z:Adr)(vs:List V)(H:Hp)(Q:VK)(E:XK):Prop | mk (p dl cl ll a:Addr) (g:Cfg) (lds:List Ld) (n:aM) (t r:Int):vs=[.ref p,.ref a,.int r]->dN K H p dl cl ll g lds->fR g->cZ g n->iB K H a (n,t)->(∀dd d H',aq H H'->SqT K H' dd (ddV d)->vf d->eI g n d=none->Q (.ref dd) H')->gm K Z vs H Q E
include T l8 in
theorem rD:FF P w K mg base CX0 2 "_law_towards_load" "_law_towards_load" dF kK (gm K Z):=fk0 cI fun vs H Q E h=>by
 obtain ⟨p,dl,cl,ll,a,g,lds,n,t,r,rfl,hP,hg,hn,hSt,q⟩:=h
 k_all
 obtain ⟨t1,h1,k1⟩:∃t,PSs (oq CX0 P w K mg base ["_law_setup_here","_law_state","_law_rest","_law_cage","_law_level","_law_waits"] "_law_towards_load" (aj dF) zf zv zA zo zs H E).nox ((bH dF).drop 3) t/\∀(c l:Int) (H1:Hp),aq H H1->0<=c->c < 2->aT g.ds n.place c=some l->t ({nx:=fun _ H2=>Q .non H2,rt:=Q}:gO) [some (.ref p),some (.ref a),some (.int r),some (.int c),some (.int l),none] H1:=by
  refine seg 4 (ah (az (aQ (pa3 aE (ao av (pv' 5) (aP lE (eU (pv' 2) af) (aH aw (by rfl) T.bN ba (pa1 (pv' 5))))) (pv' 3))))) fun zt4 zh4 ze4=>?_
  refine seg 3 (ae (aN (dk (JH hr.units0) (pv' 5) (bc ff) (bL _)) (ah (az (aQ (pa2 aE (pv' 4))))) (aC)) zh4) fun zt3 zh3 ze3=>?_
  refine seg 2 (ae (AB ["_law_k","_law_state","_law_level"] [none,some 1,some 4] (iy:=5) cI.nd rfl rfl (bf (by rfl) T.cq (pa1 (aH aw (by rfl) T.bN ba (pa1 (ao au (pv' 1) af))))) (fun _ _ _ _=>(aB (i:=0) (show (["_law_k","_law_state","_law_level"]:List Str).Nodup by decide +kernel) rfl orL)) (fun _ _ _ _=>(ix (bQ (ao (show IxR _ (qC K) from au) (ao (show IxR _ (qC K) from au) (pv' 1) af) (pv' 0)) (pv' 2)))) (fun _ _ _ _=>(pv' 0))) zh3) fun zt2 zh2 ze2=>?_
  refine seg 1 (ae (aN (dk lF (aP bt af (pv' 3)) (ao au (pv' 1) af) (by rfl)) (ah (az (aQ (pa2 aE (pv' 3))))) (aC)) zh2) fun zt1 zh1 ze1=>?_
  refine ⟨_,ae (aN (eK (cx (ao au (ao au (pv' 1) af) (pv' 4)))) (ah (az (aQ (pa2 aE (pv' 4))))) (aC)) zh1,?_⟩
  intro c l H1 s1 c0 c1 hl
  obtain ⟨gt,lt,ht,dt,h1,h2,h3,h4,h5⟩:=(hSt.same s1).un
  obtain ⟨l0,l1,_⟩:=cB hl
  have gl:=hn.gl
  have wl:=hn.wl
  have k30:=hg.k30
  k_mem
  refine ⟨_,h1,_,rfl,?_⟩
  k_mem
  refine ⟨_,h2,_,jS l0 (by show l < (n.gates.length:Int);omega),?_⟩
  k_mem
  split
  ·rename_i ho
   k_upd
   refine ⟨by decide,fun dd hdd=>?_⟩
   k_upd
   exact q dd (.opn l) _ (s1.lay hdd) (SqT.of ag) trivial (pC l0 l1 ho)
  rename_i ho
  have ho':n.gates.getD l.toNat false=true:=by simpa using ho
  k_upd
  refine ⟨_,h1,_,rfl,?_⟩
  k_mem
  refine ⟨_,.inr (SqT.of h3),rfl,by simp [bO],?_⟩
  rw [nZ]
  k_mem
  split
  ·rename_i hin
   k_upd
   refine ⟨by decide,fun dd hdd=>?_⟩
   k_upd
   exact q dd (.unload c) _ (s1.lay hdd) (SqT.of ag) ⟨c0,c1⟩ (w9 hin hl ho')
  rename_i hin
  k_upd
  refine ⟨_,h1,_,rfl,?_⟩
  k_mem
  refine ⟨_,.inr (SqT.of h3),by omega,by rw [WB];omega,?_⟩
  rw [WB,Int.toNat_natCast]
  refine dR (fun j=>decide (n.ws.getD j 0=l)) (fun (j:Nat)=>.int (j:Int)) (by rw [sizeLine_eq];omega) rfl (fun i hi N hN=>?_) (fun i hi _ N hN=>?_) fun lv hlv=>?_
  ·k_mem
   k_upd
   refine ⟨_,h1,_,rfl,?_⟩
   k_mem
   refine ⟨_,SqT.of h3,_,by rw [Int.zero_add];exact gL hi,?_⟩
   k_mem
   by_cases e:n.ws.getD i 0=l
   ·rw [if_pos e];rw [decide_eq_true e] at hN;exact hN
   ·rw [if_neg e];rw [decide_eq_false e] at hN;exact hN
  ·k_mem
   rw [Int.zero_add]
   exact hN
  rw [show List.map (fun (j:Nat)=>V.int (j:Int)) (List.filter (fun j=>decide (n.ws.getD j 0=l)) (List.range n.ws.length))=(iW n.ws l).map V.int by unfold iW wY;rw [List.map_map];rfl] at *
  have s2:=s1.lay (o:=HO.lst ((iW n.ws l).map V.int)) hlv
  have hlv1:upd H1 lv (HO.lst ((iW n.ws l).map V.int)) lv=some (HO.lst ((iW n.ws l).map V.int)):=ag
  generalize upd H1 lv (HO.lst ((iW n.ws l).map V.int))=H2 at *
  k_mem
  refine ⟨by decide,fun p1 hp1=>?_⟩
  have f1:=(aq.refl H2).lay (o:=HO.lst []) hp1
  have hp1':upd H2 p1 (HO.lst []) p1=some (HO.lst []):=ag
  generalize upd H2 p1 (HO.lst [])=H3 at *
  have s3:=s2.trans f1
  k_upd
  refine ⟨_,SqL.of (f1 _ _ hlv1),_,SqL.of hp1',by simp [bO],rfl,?_⟩
  rw [zy]
  k_mem
  by_cases hz:(iW n.ws l).map V.int=[]
  ·rw [if_pos hz]
   k_upd
   refine ⟨by decide,fun dd hdd=>?_⟩
   k_upd
   exact q dd (.sht l) _ (s3.lay hdd) (SqT.of ag) trivial (iX l0 l1 ho')
  ·rw [if_neg hz]
   have hlen:0 < (iW n.ws l).length:=by
    rcases Nat.eq_zero_or_pos (iW n.ws l).length with z | z
    ·exact absurd (by rw [List.eq_nil_of_length_eq_zero z];rfl) hz
    ·exact z
   have hm0:0<=r / 2 % ((iW n.ws l).length:Int):=Int.emod_nonneg _ (by omega)
   have hm1:r / 2 % ((iW n.ws l).length:Int) < ((iW n.ws l).length:Int):=Int.emod_lt_of_pos _ (by omega)
   obtain ⟨v0,v1,v2⟩:=Hm (cH (ds:=iW n.ws l) (i:=(r / 2 % ((iW n.ws l).length:Int)).toNat) (by omega))
   k_upd
   refine ⟨_,.inl (SqL.of (f1 _ _ hlv1)),by rw [WB];omega,_,SqL.of (f1 _ _ hlv1),_,by rw [WB];exact dh hm0 hm1,by decide,fun dd hdd=>?_⟩
   k_upd
   exact q dd (.load _ c) _ (s3.lay hdd) (SqT.of ag) ⟨c0,c1⟩ (A3 v0 v1 hl v2 hin ho')
 refine seg 2 (ae (aN (qG (pv' 4) af) (ae (aD (i:=3) cI.nd rfl orL (aP dB af (pv' 3))) (ah (aD (i:=4) cI.nd rfl (Or.inr rfl) (dc0 l8 hr.dn (pa3 (ao av (pv' 0) af) (pv' 3) (ao au (pv' 1) af)))))) (aC)) h1) fun zt2 zh2 ze2=>?_
 refine seg 1 (ae (aD (i:=4) cI.nd rfl (Or.inr rfl) (dc0 l8 hr.dn (pa3 (ao av (pv' 0) af) (pv' 3) (ao au (pv' 1) af)))) zh2) fun zt1 zh1 ze1=>?_
 refine ⟨_,ae (aD (i:=3) cI.nd rfl orL (bY (pv' 2) af)) zh1,?_⟩
 obtain ⟨gt,lt,ht,dt,h1,h2,h3,h4,h5⟩:=hSt.un
 obtain ⟨hp,hdl,_,_,_⟩:=id hP
 k_mem
 refine ⟨_,SqL.of hp,_,rfl,_,h1,_,rfl,?_⟩
 k_mem
 refine ⟨dl,g.ds,r % 2,n.place,rfl,SqL.of hdl,hg.sh,by omega,by omega,fun H1 s1=>?_⟩
 k_mem
 split
 ·rename_i hlt
  have e0:=Ky hlt
  k_upd
  refine ⟨_,SqL.of (s1 _ _ hp),_,rfl,_,s1.tup h1,_,rfl,?_⟩
  k_mem
  refine ⟨dl,g.ds,1 - r % 2,n.place,rfl,SqL.of (s1 _ _ hdl),hg.sh,by omega,by omega,fun H2 s2=>?_⟩
  k_mem
  obtain ⟨c,hc,l,hl⟩:=hn.st
  have ec:c=1 - r % 2:=by
   rcases (by omega:c=r % 2\/c=1 - r % 2) with e | e
   ·rw [←e,hl] at e0;cases e0
   ·exact e
  rw [ec] at hl
  rw [hl]
  exact k1 _ l _ (s1.trans s2) (by omega) (by omega) hl
 ·rename_i hlt
  obtain ⟨l,hl,el⟩:=Hl hlt
  rw [el]
  exact k1 _ l _ s1 (by omega) (by omega) hl
variable (kT:KD P w K mg base CX0 2 "_law_towards_load" (gm K Z))
theorem Ms {x:Int}(h0:1<=x)(h1:x<=9):1+x % 9≠x/\1<=1+x % 9/\1+x % 9<=9:=by omega
inductive ig (K:WA)(Z:Adr)(vs:List V)(H:Hp)(Q:VK)(E:XK):Prop | mk (p dl cl ll a:Addr) (g:Cfg) (lds:List Ld) (n:aM) (tt c:Int):vs=[.ref p,.ref a,.int c]->dN K H p dl cl ll g lds->fR g->cZ g n->iB K H a (n,tt)->(∀(m:Addr) (as:List Addr) (A:List Dd) H',H m=none->aq H H'->H' m=some (.lst (as.map V.ref))->eT K H' as A->okS g n A->A.length<=20->dM g (snD g n A)=decide (c / 48 % 2=1)->Q (.ref m) H')->ig K Z vs H Q E
include T l8 in
theorem uC:FF P w K mg base CX0 2 "_law_made_ready" "_law_made_ready" eN ng (ig K Z):=fk0 aR fun vs H Q E h=>by
 obtain ⟨p,dl,cl,ll,a,g,lds,n,tt,c,rfl,hP,hg,hn,hSt,q⟩:=h
 k_all
 obtain ⟨t1,h1,k1⟩:∃t,PSs (oq CX0 P w K mg base ["_law_setup_here","_law_state","_law_cell","_law_place","_law_gates","_law_lying","_law_heard_here","_law_dead","_law_clock","_law_made_here","_law_live","_law_level","_law_code","_law_by_here"] "_law_made_ready" (aj eN) zf zv zA zo zs H E).nox ((bH eN).drop 4) t/\∀(m lv gt lt ht dt:Addr) (as:List Addr) (A:List Dd) (H1:Hp) (u v:Option V),aq H H1->SqT K H1 gt (n.gates.map V.bl)->H1 m=some (.lst (as.map V.ref))->eT K H1 as A->okS g n A->(snD g n A).gates=n.gates->(snD g n A).place=n.place->A.length<=2->t ({nx:=fun _ H2=>Q .non H2,rt:=Q}:gO) [some (.ref p),some (.ref a),some (.int c),some (.int n.place),some (.ref gt),some (.ref lt),some (.ref ht),some (.ref dt),some (.int tt),some (.ref m),some (.ref lv),u,v,none] H1:=by
  refine seg 4 (ah (az (pv' 9))) fun zt4 zh4 ze4=>?_
  refine seg 3 (ae (aN (bQ (bY (eU (pv' 2) af) af) af) (ah (bb (oE PySem.F.plainAttrs_list PySem.F.slot_list_append PySem.F.type_list_append dO (pv' 9) (pa1 (aQ (pa2 aE (ao av (pv' 13) (aP lE (eU (pv' 2) af) (aH aw (by rfl) T.bN ba (pa1 (pv' 13))))))))))) (aC)) zh4) fun zt3 zh3 ze3=>?_
  refine seg 2 (ae (aD (i:=9) aR.nd rfl orL (aP lG (pv' 9) (jA ["_law_level","_law_gates"] [none,some 4] (cT (pv' 13)) (fun _ _ _ _=>(aB (i:=0) (show (["_law_level","_law_gates"]:List Str).Nodup by decide +kernel) rfl orL)) (fun _ _ _ _=>(ix (cx (ao (show IxR _ (qC K) from au) (pv' 1) (pv' 0))))) (fun _ _ _ _=>(aQ (pa2 aE (pv' 0))))))) zh3) fun zt2 zh2 ze2=>?_
  refine seg 1 (ae (aD (i:=13) aR.nd rfl orL (CB rfl (by rfl) T.Bl xY (by rfl) T.Nq Ly (jA ["_law_level"] [none] (cT (pv' 13)) (fun _ _ _ _=>(aB (i:=0) (show (["_law_level"]:List Str).Nodup by decide +kernel) rfl orL)) (fun _ _ _ _=>(ix (A9 (pv' 0) af))) (fun _ _ _ _=>(pv' 0))))) zh2) fun zt1 zh1 ze1=>?_
  refine ⟨_,ae (AB ["_law_cage","_law_setup_here","_law_place"] [none,some 0,some 3] (iy:=13) aR.nd rfl rfl (bf (by rfl) T.cq (pa1 af)) (fun _ _ _ _=>(aB (i:=0) (show (["_law_cage","_law_setup_here","_law_place"]:List Str).Nodup by decide +kernel) rfl orL)) (fun _ _ _ _=>fO) (fun _ _ _ _=>(dc0 l8 hr.dn (pa3 (ao (show IxR _ (AX K) from av) (pv' 1) af) (pv' 0) (pv' 2))))) zh1,?_⟩
  intro m lv gt lt ht dt as A H1 u v s1 hgt hm hA okA eg ep hl2
  have hP1:=hP.same s1
  obtain ⟨_,hdl1,⟨as2,hcl2,hT2⟩,_,_⟩:=id hP1
  k_mem
  refine ⟨by decide,by decide,?_⟩
  refine ly (fun i acc H'=>aq H1 H'/\acc=((List.range i).map fun (j:Nat)=>(aT g.ds n.place (j:Int)).getD (-1)).map V.int) ⟨aq.refl _,rfl⟩ rfl ?_ ?_
  ·rintro i acc H2 hi ⟨s2,rfl⟩
   k_upd
   refine ⟨cy (by simp;omega),fun N hN=>?_⟩
   have hp2:=(s1.trans s2) _ _ hP.ob
   k_mem
   refine ⟨_,SqL.of hp2,_,rfl,?_⟩
   k_mem
   refine ⟨dl,g.ds,0+(i:Int),n.place,rfl,SqL.of (s2 _ _ hdl1),hg.sh,by omega,by omega,fun H3 s3=>?_⟩
   refine hN _ _ ⟨s2.trans s3,?_⟩
   rw [List.range_succ,List.map_append,List.map_append,Int.zero_add]
   rfl
  ·rintro acc H2 ⟨s2,rfl⟩ l1 hl1
   (generalize hE:upd H2 l1 _=H3 at *;have s3:=cC hE hl1;have e3:=bu hE;clear hE)
   have hb2:(List.range 2).map (fun (j:Nat)=>(aT g.ds n.place (j:Int)).getD (-1))=[(aT g.ds n.place 0).getD (-1),(aT g.ds n.place 1).getD (-1)]:=rfl
   rw [hb2] at e3
   k_mem
   refine ⟨⟨_,SqL.of e3⟩,?_⟩
   refine Dg (xs:=[(aT g.ds n.place 0).getD (-1),(aT g.ds n.place 1).getD (-1)]) (fun x=>decide (0<=x)) (SqL.of e3) (by simp) rfl (fun x _ N hN=>?_) (fun x _ hx N hN=>?_) fun l2 hl2=>?_
   ·k_mem
    by_cases z:0<=x
    ·rw [decide_eq_true z] at hN;rw [if_pos z];exact hN
    ·rw [decide_eq_false z] at hN;rw [if_neg z];exact hN
   ·k_mem
    exact hN
   have hmem:∀x,x∈List.filter (fun x=>decide (0<=x)) [(aT g.ds n.place 0).getD (-1),(aT g.ds n.place 1).getD (-1)]↔∃c,(c=0\/c=1)/\aT g.ds n.place c=some x:=fun x=>by
    have one:∀c,(0<=x/\x=(aT g.ds n.place c).getD (-1))↔aT g.ds n.place c=some x:=fun c=>by
     cases e:aT g.ds n.place c with
     | none=>exact ⟨fun z=>by have:=z.2;rw [Option.getD_none] at this;omega,fun z=>by cases z⟩
     | some y=>exact ⟨fun z=>by rw [z.2,Option.getD_some],fun z=>by cases z;exact ⟨(cB e).1,rfl⟩⟩
    rw [List.mem_filter,decide_eq_true_eq,List.mem_cons,List.mem_singleton]
    constructor
    ·rintro ⟨h | h,h0⟩
     ·k_upd
      exact ⟨0,.inl rfl,(one 0).mp ⟨h0,h⟩⟩
     ·k_upd
      exact ⟨1,.inr rfl,(one 1).mp ⟨h0,h⟩⟩
    ·rintro ⟨c,rfl | rfl,h⟩
     ·have:=(one 0).mpr h;exact ⟨.inl this.2,this.1⟩
     ·have:=(one 1).mpr h;exact ⟨.inr this.2,this.1⟩
   have hfl:(List.filter (fun x=>decide (0<=x)) [(aT g.ds n.place 0).getD (-1),(aT g.ds n.place 1).getD (-1)]).length<=2:=List.length_filter_le _ _
   generalize List.filter (fun x=>decide (0<=x)) [(aT g.ds n.place 0).getD (-1),(aT g.ds n.place 1).getD (-1)]=fs at *
   (generalize hE:upd H3 l2 _=H4 at *;have s4:=cC hE hl2;have e4:=bu hE;clear hE)
   k_upd
   refine ⟨_,fs,rfl,SqL.of e4,by omega,fun lb bs hlb hup hbm=>?_⟩
   (generalize hE:upd H4 lb _=H5 at *;have s5:=cC hE hlb;have e5:=bu hE;clear hE)
   have hbs:∀l,l∈bs↔∃c,(c=0\/c=1)/\aT g.ds n.place c=some l:=fun l=>(hbm l).trans (hmem l)
   obtain ⟨r1,r2,r3,r4⟩:=Hq hg hn okA eg ep hup hbs
   have s15:=(((s2.trans s3).trans s4).trans s5)
   k_mem
   have gl:=hn.gl
   have l6:=hg.sh.l6
   have hbr:∀x∈bs,0<=x/\x < (n.gates.length:Int):=fun x hx=>by
    obtain ⟨c,_,hc⟩:=(hbs x).mp hx
    obtain ⟨z0,z1,_⟩:=cB hc
    omega
   have hbl:=Hr bs 0 n.gates.length (by omega) hup hbr
   have okl:∀us:List Int,(us.filter fun l=>n.gates.getD l.toNat false).length<=us.length:=fun us=>List.length_filter_le _ _
   k_upd
   refine ⟨⟨_,SqL.of e5⟩,?_⟩
   refine mI bs.length (fun i acc H'=>aq H5 H'/\∃ss:List Addr,acc=ss.map V.ref/\eT K H' ss (((bs.take i).filter fun l=>n.gates.getD l.toNat false).map Dd.sht)) ⟨aq.refl _,[],rfl,dE.nil⟩ ?_ ?_ ?_ ?_
   ·rintro i acc H' hi ⟨s6,_⟩
    k_upd
    exact ⟨_,.int bs[i],SqL.of (s6 _ _ e5),by rw [List.getElem?_map,List.getElem?_eq_getElem hi];rfl⟩
   ·rintro acc H' ⟨s6,_⟩
    k_upd
    exact ⟨_,SqL.of (s6 _ _ e5),by rw [WB];exact Nat.le_refl _⟩
   ·rintro i acc H6 hi ⟨s6,ss,rfl,hss⟩
    have hsl:=hss.1
    have hol:=okl (bs.take i)
    rw [WB] at hsl
    rw [List.length_take] at hol
    k_upd
    refine ⟨cy (by rw [WB];omega),?_⟩
    rintro x H7 ⟨e7,y⟩ M hM
    subst e7
    have hy:=y _ (SqL.of (s6 _ _ e5))
    rw [List.getElem?_map,List.getElem?_eq_getElem hi] at hy
    cases hy
    have hm:=hbr _ (List.getElem_mem hi)
    rw [List.take_succ_eq_append_getElem hi,List.filter_append,List.map_append] at hM
    k_mem
    refine ⟨⟨rfl,fun k v e=>?_⟩,?_⟩
    ·match k,e with
     | 0,e=>cases e
     | 1,e=>exact e
     | k+2,e=>simp at e
    k_upd
    refine ⟨_,((s15.trans s6)).tup hgt,_,jS hm.1 hm.2,?_⟩
    k_mem
    cases hb:n.gates.getD (bs[i].toNat) false with
    | true=>
     rw [if_pos rfl]
     k_upd
     refine ⟨by decide,fun p6 hp6=>hM _ _ ⟨s6.lay hp6,ss++[p6],by rw [List.map_append];rfl,?_⟩⟩
     rw [show List.filter (fun l=>n.gates.getD l.toNat false) [bs[i]]=[bs[i]] by rw [List.filter_cons,hb];rfl]
     exact (hss.same ((aq.refl _).lay hp6)).push (SqT.of ag)
    | false=>
     rw [if_neg (by decide)]
     refine hM _ _ ⟨s6,ss,rfl,?_⟩
     rw [show List.filter (fun l=>n.gates.getD l.toNat false) [bs[i]]=[] by rw [List.filter_cons,hb];rfl,List.map_nil,List.append_nil]
     exact hss
   ·rintro acc H6 ⟨s6,ss,rfl,hss⟩ lc hlc
    rw [List.take_length] at hss
    (generalize hE:upd H6 lc _=H7 at *;have s7:=cC hE hlc;have e7:=bu hE;clear hE)
    have s17:=(s15.trans s6).trans s7
    have hss7:=hss.same s7
    have hsl:=hss.1
    have hol:=okl bs
    rw [WB] at hsl
    have hal:=hA.1
    k_mem
    refine ⟨_,s17 _ _ hm,_,e7,by rw [WB,WB,sizeLine_eq];omega,fun m2 hm2=>?_⟩
    rw [←List.map_append]
    (generalize hE:upd H7 m2 _=H8 at *;have s8:=cC hE hm2;have e8:=bu hE;clear hE)
    have hAS:eT K H8 (as++ss) (A++(bs.filter fun l=>n.gates.getD l.toNat false).map Dd.sht):=eT.same ((hA.same s17).app hss7) s8
    have hbl1:(A++(bs.filter fun l=>n.gates.getD l.toNat false).map Dd.sht).length<=10:=by rw [List.length_append,WB];omega
    have f2:=(s1.trans s17).trans s8
    have hfree:H m2=none:=(s1.trans s17).free hm2
    k_mem
    split
    ·rename_i h48
     have e58:=((s6.trans s7).trans s8) _ _ e5
     have hpos:0 < bs.length:=by
      obtain ⟨c',hc',l',hl'⟩:=hn.st
      have:=(hbs l').mpr ⟨c',hc',hl'⟩
      exact List.length_pos_of_mem this
     obtain ⟨x,hx,ex⟩:=Ho (k:=c / 96) hpos
     k_upd
     refine ⟨.inl ⟨rfl,_,SqL.of e8⟩,_,.inl (SqL.of e58),by rw [WB];omega,_,SqL.of e58,_,by rw [WB];exact ex,by decide,fun p9 hp9=>?_⟩
     (generalize hE:upd H8 p9 _=H9 at *;have s9:=cC hE hp9;have e9:=bu hE;clear hE)
     k_upd
     refine ⟨_,s9 _ _ e8,by rw [WB,hAS.1,sizeLine_eq];omega,?_⟩
     obtain ⟨o1,o2,_⟩:=r4 x hx
     have kp:L2.aA m2 H9 (upd H9 m2 (HO.lst ((as++ss).map V.ref++[V.ref p9]))):=(aA.of (aq.refl H9)).put
     k_mem
     refine q m2 (as++ss++[p9]) _ _ hfree ((f2.trans s9).rewr hfree) (by rw [ag,List.map_append (l₂:=[p9])];rfl) ?_ o1 (by rw [List.length_append,List.length_singleton];omega) (by rw [o2,decide_eq_true h48])
     exact dE.push ((hAS.same s9).imp fun a x z=>z.keep kp (s9 _ _ e8)) ((show SqT K H9 p9 (ddV (.opn x)) from SqT.of e9).keep kp (s9 _ _ e8))
    ·rename_i h48
     k_mem
     exact q m2 (as++ss) _ _ hfree f2 e8 hAS r1 (by omega) (by rw [r2,decide_eq_false h48])
 refine seg 3 (ae (aN (dk (zD hr.units0) (pv' 10) (bc ff) (bL _)) (ae (aD (i:=11) aR.nd rfl orL (ao av (pv' 10) (aP lE (pv' 2) (aH aw (by rfl) T.bN ba (pa1 (pv' 10)))))) (ae (aD (i:=12) aR.nd rfl orL (ao au (ao av (ao av (pv' 0) af) (pv' 11)) (bY (eU (pv' 2) af) af))) (ae (aD (i:=9) aR.nd rfl orL (bc (pa3 (aQ (pa3 aE (pv' 11) (pv' 12))) (aQ (pa2 aE (pv' 12))) (aQ (pa2 aE (aP bt af (bY (pv' 12) af))))))) (ah (aD (i:=9) aR.nd rfl orL (aP lG (iR mP (pv' 9) uG (fi af)) (ao av (bc (pa4 (iR mP (pv' 9) (fi af) (fi af)) (iR mP (pv' 9) (fi af) uG) (iR mP (pv' 9) (fi af) (fi af)) (bc ff))) (bY (eU (pv' 2) af) af)))))))) (aC)) h1) fun zt3 zh3 ze3=>?_
 refine seg 2 (ae (AB ["_law_k","_law_dead"] [none,some 7] (iy:=10) aR.nd rfl rfl (bf (by rfl) T.cq (pa1 (aH aw (by rfl) T.bN ba (pa1 (pv' 4))))) (fun _ _ _ _=>(aB (i:=0) (show (["_law_k","_law_dead"]:List Str).Nodup by decide +kernel) rfl orL)) (fun _ _ _ _=>(ix (dk (show OpR _ _ (AZ K true) from gF) (pv' 0) (pv' 1) (by rfl)))) (fun _ _ _ _=>(pv' 0))) zh3) fun zt2 zh2 ze2=>?_
 refine seg 1 (ae (aD (i:=9) aR.nd rfl orL (bc ff)) zh2) fun zt1 zh1 ze1=>?_
 refine ⟨_,ae (gP (pv' 1) (eV rfl (aG (aB (i:=3) aR.nd rfl (Or.inr rfl)) (aG (aB (i:=4) aR.nd rfl (Or.inr rfl)) (aG (aB (i:=5) aR.nd rfl orL) (aG (aB (i:=6) aR.nd rfl orL) (aG (aB (i:=7) aR.nd rfl (Or.inr rfl)) (aG (aB (i:=8) aR.nd rfl orL) cM)))))))) zh1,?_⟩
 obtain ⟨gt,lt,ht,dt,h1,h2,h3,h4,h5⟩:=hSt.un
 obtain ⟨hp,hdl,⟨as,hcl,hT⟩,_,ek⟩:=id hP
 have l2:=hg.sh.l2
 have l6:=hg.sh.l6
 have gl:=hn.gl
 have fl:=hn.fl
 k_mem
 refine ⟨_,h1,rfl,?_⟩
 k_mem
 refine ⟨by decide,fun m0 hm0=>?_⟩
 (generalize hE:upd H m0 _=H1 at *;have s1:=cC hE hm0;have e1:=bu hE;clear hE)
 k_mem
 refine ⟨_,.inr (s1.tup h2),by rw [WB];omega,by rw [WB];omega,?_⟩
 rw [WB,show (n.gates.length:Int).toNat=n.fs.length by omega]
 refine dR (fun j=>!n.fs.getD j false) (fun (j:Nat)=>.int (j:Int)) (by rw [sizeLine_eq];omega) rfl (fun i hi N hN=>?_) (fun i hi _ N hN=>?_) fun lv hlv=>?_
 ·k_mem
  k_upd
  refine ⟨_,.inr (s1.tup h5),rfl,by simp [bO],?_⟩
  rw [nZ]
  have:(!decide (0+(i:Int)∈cO n.fs))=!n.fs.getD i false:=by
   congr 1
   rw [Bool.eq_iff_iff,decide_eq_true_eq,iM,Int.zero_add,Int.toNat_natCast]
   k_upd
   exact ⟨fun z=>z.2.2,fun z=>⟨Int.natCast_nonneg _,by omega,z⟩⟩
  rw [this]
  exact hN
 ·k_mem
  rw [Int.zero_add]
  exact hN
 rw [show List.map (fun (j:Nat)=>V.int (j:Int)) (List.filter (fun j=>!n.fs.getD j false) (List.range n.fs.length))=(dI n.fs).map V.int by unfold dI;rw [List.map_map];rfl] at *
 (generalize hE:upd H1 lv _=H2 at *;have s2:=cC hE hlv;have e2:=bu hE;clear hE)
 k_mem
 refine ⟨by decide,fun p0 hp0=>?_⟩
 (generalize hE:upd H2 p0 _=H3 at *;have s3:=cC hE hp0;have e3:=bu hE;clear hE)
 k_upd
 refine ⟨_,SqL.of (s3 _ _ e2),_,SqL.of e3,by simp [bO],rfl,?_⟩
 rw [zy]
 k_mem
 have f13:=(s1.trans s2).trans s3
 by_cases hz:(dI n.fs).map V.int=[]
 ·rw [if_neg (by simpa using hz)]
  exact k1 m0 lv gt lt ht dt [] [] H3 none none f13 (f13.tup h2) ((s2.trans s3) _ _ e1) dE.nil trivial rfl rfl (Nat.zero_le _)
 ·rw [if_pos (by simpa using hz)]
  have hlen:0 < (dI n.fs).length:=by
   rcases Nat.eq_zero_or_pos (dI n.fs).length with z | z
   ·exact absurd (by rw [List.eq_nil_of_length_eq_zero z];rfl) hz
   ·exact z
  have hm0:0<=c % ((dI n.fs).length:Int):=Int.emod_nonneg _ (by omega)
  have hm1:c % ((dI n.fs).length:Int) < ((dI n.fs).length:Int):=Int.emod_lt_of_pos _ (by omega)
  obtain ⟨v0,v1,v2⟩:=ym (cH (ds:=dI n.fs) (i:=(c % ((dI n.fs).length:Int)).toNat) (by omega))
  k_upd
  refine ⟨_,.inl (SqL.of (s3 _ _ e2)),by rw [WB];omega,_,SqL.of (s3 _ _ e2),_,by rw [WB];exact dh hm0 hm1,?_⟩
  generalize (dI n.fs).getD (c % ((dI n.fs).length:Int)).toNat 0=lx at *
  obtain ⟨ra,era,hra⟩:=lA (hT.same f13) v0 (by rw [hg.lc];omega)
  k_upd
  refine ⟨_,SqL.of (f13 _ _ hp),_,rfl,?_⟩
  k_mem
  refine ⟨_,SqL.of (f13 _ _ hcl),_,era,?_⟩
  k_mem
  refine ⟨_,hra,_,two_deep (by omega) (by omega),by decide,fun q1 hq1=>?_⟩
  generalize hcd:(if c / 6 % 2=0 then (eM g.ls lx).fst else (eM g.ls lx).snd)=cd at *
  (generalize hE:upd H3 q1 _=H4 at *;have s4:=cC hE hq1;have e4:=bu hE;clear hE)
  k_upd
  refine ⟨by decide,fun q2 hq2=>?_⟩
  (generalize hE:upd H4 q2 _=H5 at *;have s5:=cC hE hq2;have e5:=bu hE;clear hE)
  k_mem
  refine ⟨by decide,fun q3 hq3=>?_⟩
  (generalize hE:upd H5 q3 _=H6 at *;have s6:=cC hE hq3;have e6:=bu hE;clear hE)
  k_upd
  refine ⟨by decide,fun ml hml=>?_⟩
  (generalize hE:upd H6 ml _=H7 at *;have s7:=cC hE hml;have e7:=bu hE;clear hE)
  k_mem
  refine ⟨_,SqL.of e7,fun a1 ha1=>?_⟩
  (generalize hE:upd H7 a1 _=H8 at *;have s8:=cC hE ha1;have e8:=bu hE;clear hE)
  k_upd
  refine ⟨_,SqL.of (s8 _ _ e7),fun a2 ha2=>?_⟩
  (generalize hE:upd H8 a2 _=H9 at *;have s9:=cC hE ha2;have e9:=bu hE;clear hE)
  k_upd
  refine ⟨_,SqL.of ((s8.trans s9) _ _ e7),fun a3 ha3=>?_⟩
  (generalize hE:upd H9 a3 _=H10 at *;have s10:=cC hE ha3;have e10:=bu hE;clear hE)
  k_upd
  refine ⟨_,SqL.of (((s8.trans s9).trans s10) _ _ e7),fun a4 ha4=>?_⟩
  (generalize hE:upd H10 a4 _=H11 at *;have s11:=cC hE ha4;have e11:=bu hE;clear hE)
  k_upd
  refine ⟨by decide,fun a5 ha5=>?_⟩
  (generalize hE:upd H11 a5 _=H12 at *;have s12:=cC hE ha5;have e12:=bu hE;clear hE)
  k_upd
  refine ⟨by decide,fun a6 ha6=>?_⟩
  (generalize hE:upd H12 a6 _=H13 at *;have s13:=cC hE ha6;have e13:=bu hE;clear hE)
  have gcd:=hg.cd v0 (show lx < g.ds.length by omega)
  have hor:cd=(eM g.ls lx).1\/cd=(eM g.ls lx).2:=by
   rw [←hcd]
   k_upd
   split
   ·exact .inl rfl
   ·exact .inr rfl
  have c19:1<=cd/\cd<=9:=by
   obtain ⟨z1,z2,_⟩:=gcd
   rcases hor with h | h<;>omega
  obtain ⟨_,o1,o9⟩:=Ms c19.1 c19.2
  have okR:eI g n (.ring lx cd)=none:=mM v0 (by omega) v2 hor
  have okW:∀x,1<=x->x<=9->eI g (cv g n (.ring lx cd)) (.rept x)=none:=fun x x1 x9=>mO (show (cv g n (.ring lx cd)).e=.wait lx cd from rfl) x1 x9
  have f313:=(((((((((s4.trans s5).trans s6).trans s7).trans s8).trans s9).trans s10).trans s11).trans s12).trans s13)
  have f8:=((((s9.trans s10).trans s11).trans s12).trans s13)
  have ha1:H13 a1=some (.lst [.ref q1]):=f8 _ _ e8
  have ha2:H13 a2=some (.lst [.ref q2]):=((((s10.trans s11).trans s12).trans s13)) _ _ e9
  have ha3:H13 a3=some (.lst [.ref q3]):=(((s11.trans s12).trans s13)) _ _ e10
  have ha4:H13 a4=some (.lst [.ref q2]):=((s12.trans s13)) _ _ e11
  have ha5:H13 a5=some (.lst []):=s13 _ _ e12
  have d1:SqT K H13 q1 (ddV (.ring lx cd)):=SqT.of ((((s5.trans s6).trans s7).trans (s8.trans f8)) _ _ e4)
  have d2:SqT K H13 q2 (ddV (.rept cd)):=SqT.of (((s6.trans s7).trans (s8.trans f8)) _ _ e5)
  have d3:SqT K H13 q3 (ddV (.rept (1+cd % 9))):=SqT.of ((s7.trans (s8.trans f8)) _ _ e6)
  have D1:eT K H13 [q1] [.ring lx cd]:=dE.nil.push d1
  have w0:=Int.emod_nonneg (c / 12) (show (4:Int)≠0 by decide)
  have w1:=Int.emod_lt_of_pos (c / 12) (show (0:Int) < 4 by decide)
  rcases (by omega:c / 12 % 4=0\/c / 12 % 4=1\/c / 12 % 4=2\/c / 12 % 4=3) with hw | hw | hw | hw
  ·rw [hw]
   k_upd
   refine ⟨_,SqL.of e13,_,rfl,_,ha1,_,ha2,(by rw [sizeLine_eq];simp),fun m3 hm3=>?_⟩
   (generalize hE:upd H13 m3 _=H14 at *;have s14:=cC hE hm3;have e14:=bu hE;clear hE)
   refine k1 m3 lv gt lt ht dt [q1,q2] [.ring lx cd,.rept cd] H14 _ _ ((f13.trans f313).trans s14) (((f13.trans f313).trans s14).tup h2) e14 (eT.same (D1.push d2) s14) ⟨⟨trivial,okR⟩,⟨trivial,okW _ c19.1 c19.2⟩,trivial⟩ rfl rfl (by simp)
  ·rw [hw]
   k_upd
   refine ⟨_,SqL.of e13,_,rfl,_,ha1,_,ha3,(by rw [sizeLine_eq];simp),fun m3 hm3=>?_⟩
   (generalize hE:upd H13 m3 _=H14 at *;have s14:=cC hE hm3;have e14:=bu hE;clear hE)
   refine k1 m3 lv gt lt ht dt [q1,q3] [.ring lx cd,.rept (1+cd % 9)] H14 _ _ ((f13.trans f313).trans s14) (((f13.trans f313).trans s14).tup h2) e14 (eT.same (D1.push d3) s14) ⟨⟨trivial,okR⟩,⟨trivial,okW _ o1 o9⟩,trivial⟩ rfl rfl (by simp)
  ·rw [hw]
   k_upd
   refine ⟨_,SqL.of e13,_,rfl,_,ha1,_,ha4,(by rw [sizeLine_eq];simp),fun m3 hm3=>?_⟩
   (generalize hE:upd H13 m3 _=H14 at *;have s14:=cC hE hm3;have e14:=bu hE;clear hE)
   refine k1 m3 lv gt lt ht dt [q1,q2] [.ring lx cd,.rept cd] H14 _ _ ((f13.trans f313).trans s14) (((f13.trans f313).trans s14).tup h2) e14 (eT.same (D1.push d2) s14) ⟨⟨trivial,okR⟩,⟨trivial,okW _ c19.1 c19.2⟩,trivial⟩ rfl rfl (by simp)
  ·rw [hw]
   k_upd
   refine ⟨_,SqL.of e13,_,rfl,_,ha1,_,ha5,(by rw [sizeLine_eq];simp),fun m3 hm3=>?_⟩
   (generalize hE:upd H13 m3 _=H14 at *;have s14:=cC hE hm3;have e14:=bu hE;clear hE)
   refine k1 m3 lv gt lt ht dt [q1] [.ring lx cd] H14 _ _ ((f13.trans f313).trans s14) (((f13.trans f313).trans s14).tup h2) e14 (eT.same D1 s14) ⟨⟨trivial,okR⟩,trivial⟩ rfl rfl (by simp)
variable (gn:KD P w K mg base CX0 2 "_law_made_ready" (ig K Z))
inductive ma (K:WA)(Z:Adr)(vs:List V)(H:Hp)(Q:VK)(E:XK):Prop | mk (y kn wh:Addr) (ks:List Str) (ws:List Int) (m n c:Int):vs=[.ref y,.int n,.int c]->cY Z.eY H y kn wh ks ws m->0<=c->c < 2->((¬(0<=n/\n < ws.length)->E (.ref Z.cE) none H))->((0<=n->n < ws.length->(ws.getD n.toNat 0=10\/ws.getD n.toNat 0=11)->E (.ref Z.eO) none H))->((0<=n->n < ws.length->¬(ws.getD n.toNat 0=10\/ws.getD n.toNat 0=11)->10+c∈ws->∀H',aq H H'->E (.ref Z.dW) none H'))->((0<=n->n < ws.length->¬(ws.getD n.toNat 0=10\/ws.getD n.toNat 0=11)->¬10+c∈ws->∀H',aA wh H H'->H' wh=some (.lst ((ws.set n.toNat (10+c)).map V.int))->Q .non H'))->ma K Z vs H Q E
include T cF iI in
theorem z9:FF P w K mg base (CXf P w) 3 "into" "Yard.into" ni tU (ma K Z):=fkF zI fun vs H Q E h=>by
 obtain ⟨y,kn,wh,ks,ws,m,n,c,rfl,hy,h0,h1,q1,q2,q3,q4⟩:=h
 k_all
 refine seg 3 (ah (gP (ao au (dD (by rfl) T.iC) (pv' 2)) (rT (ax (pv' 0)) (pv' 1) iO))) fun zt3 zh3 ze3=>?_
 refine seg 2 (ae (aN (JI (dm' (pv' 0) cF hr.dn aY (pa1 (pv' 2))) eJ) (ah (bh T.Bs (by rfl) T.Bm (pa1 aE))) (aC)) zh3) fun zt2 zh2 ze2=>?_
 refine seg 1 (ae (aN (dk lF (ao av (ax (pv' 0)) (pv' 1)) (dD (by rfl) T.iC) (by rfl)) (ah (bh T.pS (by rfl) T.pQ (pa1 aE))) (aC)) zh2) fun zt1 zh1 ze1=>?_
 refine ⟨_,ae (bb (dc iI hr.dn bG (pa2 (pv' 1) (aH aw (by rfl) T.bN ba (pa1 (ax (pv' 0))))))) zh1,?_⟩
 obtain ⟨⟨dx,hob⟩,hkn,hwh⟩:=id hy
 k_mem
 refine fgo hob T.cN T.bW rfl ?_
 k_mem
 refine ⟨_,.inl (SqL.of hwh),_,_,rfl,?_⟩
 rw [WB]
 k_upd
 refine ⟨fun hn=>?_,q1⟩
 ·k_mem
  k_upd
  refine fgo hob T.cN T.bW rfl ?_
  k_mem
  refine ⟨_,SqL.of hwh,_,dh hn.1 hn.2,_,.inr (T.iD _),rfl,rfl,?_⟩
  rw [yh]
  k_mem
  split
  ·rename_i h2
   k_upd
   exact ⟨by decide,q2 hn.1 hn.2 h2⟩
  ·rename_i h2
   k_upd
   refine mgo hob rfl ⟨_,_,_,_,_,_,_,rfl,hy,h0,h1,fun H' s1=>?_⟩
   k_mem
   by_cases hm:10+c∈ws
   ·rw [inC,if_pos hm,if_pos (show ¬(V.int _=V.non) from fun z=>V.noConfusion z)]
    k_upd
    exact ⟨by decide,q3 hn.1 hn.2 h2 hm H' s1⟩
   ·rw [inC,if_neg hm,if_neg (fun z=>z rfl)]
    k_upd
    refine ⟨_,T.iD _,_,ye h0 h1,_,_,_,s1 _ _ hob,T.cN,T.bW,_,rfl,?_⟩
    k_mem
    refine ⟨_,s1 _ _ hwh,_,zj hn.1 (by rw [WB];exact hn.2),?_⟩
    refine q4 hn.1 hn.2 h2 hm _ (aA.put (aA.of s1)) ?_
    rw [ag,List.map_set]
variable (uf:KM P w K mg base (CXf P w) 3 Z.eY "into" (ma K Z))
inductive nT (K:WA)(Z:Adr)(vs:List V)(H:Hp)(Q:VK)(E:XK):Prop | mk (y kn wh:Addr) (ks:List Str) (ws:List Int) (m c lv:Int):vs=[.ref y,.int c,.int lv]->cY Z.eY H y kn wh ks ws m->0<=c->c < 2->((¬(0<=lv/\lv < m)->E (.ref Z.aF) none H))->((0<=lv->lv < m->¬10+c∈ws->∀H',aq H H'->E (.ref Z.dX) none H'))->((0<=lv->lv < m->10+c∈ws->∀H',aA wh H H'->H' wh=some (.lst ((ws.set (ws.idxOf (10+c)) lv).map V.int))->Q .non H'))->nT K Z vs H Q E
include T cF bz in
theorem BO:FF P w K mg base (CXf P w) 3 "out" "Yard.out" pF vw (nT K Z):=fkF t6 fun vs H Q E h=>by
 obtain ⟨y,kn,wh,ks,ws,m,c,lv,rfl,hy,h0,h1,q1,q2,q3⟩:=h
 k_all
 refine seg 3 (ah (gP (pv' 2) (rT (ax (pv' 0)) (pv' 3) iO))) fun zt3 zh3 ze3=>?_
 refine seg 2 (ae (aN (zF (pv' 3) eJ) (ah (bh T.uc (by rfl) T.ub (pa1 aE))) (aC)) zh3) fun zt2 zh2 ze2=>?_
 refine seg 1 (ae (aD (i:=3) t6.nd rfl orL (dm' (pv' 0) cF hr.dn aY (pa1 (pv' 1)))) zh2) fun zt1 zh1 ze1=>?_
 refine ⟨_,ae (bb (dc bz hr.dn bG (pa2 (pv' 2) (ax (pv' 0))))) zh1,?_⟩
 obtain ⟨⟨dx,hob⟩,hkn,hwh⟩:=id hy
 k_mem
 refine fgo hob T.cN T.iE rfl ?_
 k_mem
 refine ⟨_,_,rfl,fun hlv=>?_,q1⟩
 k_mem
 refine mgo hob rfl ⟨_,_,_,_,_,_,_,rfl,hy,h0,h1,fun H' s1=>?_⟩
 k_mem
 by_cases hm:10+c∈ws
 ·rw [inC,if_pos hm,if_neg (show ¬(V.int _=V.non) from fun z=>V.noConfusion z)]
  have hlt:ws.idxOf (10+c) < ws.length:=List.idxOf_lt_length_iff.mpr hm
  k_mem
  refine fgo (s1 _ _ hob) T.cN T.bW rfl ?_
  k_mem
  refine ⟨_,s1 _ _ hwh,_,zj (Int.natCast_nonneg _) (by rw [WB];omega),?_⟩
  refine q3 hlv.1 hlv.2 hm _ (aA.put (aA.of s1)) ?_
  rw [ag,List.map_set];rfl
 ·rw [inC,if_neg hm,if_pos rfl]
  k_upd
  exact ⟨by decide,q2 hlv.1 hlv.2 hm H' s1⟩
variable (wC:KM P w K mg base (CXf P w) 3 Z.eY "out" (nT K Z))
inductive gC (K:WA)(Z:Adr)(vs:List V)(H:Hp)(Q:VK)(E:XK):Prop | mk (y kn wh:Addr) (ks:List Str) (ws:List Int) (m lv:Int):vs=[.ref y,.int lv]->cY Z.eY H y kn wh ks ws m->ws.length<=1000->((0<=lv/\lv < m->∀p H',H p=none->aq H H'->H' p=some (.lst ((iW ws lv).map V.int))->Q (.ref p) H'))->((¬(0<=lv/\lv < m)->E (.ref Z.aF) none H))->gC K Z vs H Q E
include T bz in
theorem tG:FF P w K mg base (CXf P w) 3 "at_level" "Yard.at_level" gT mn (gC K Z):=fkF sN fun vs H Q E h=>by
 obtain ⟨y,kn,wh,ks,ws,m,lv,rfl,hy,hlen,q1,q2⟩:=h
 k_all
 refine seg 1 (ah (az (jA ["number","spot","level"] [none,none,some 1] (vt (by rfl) T.nD lj (ax (pv' 0))) (fun _ _ _ _=>(show PG _ _ (oH K 2 _) from eV (n:=2) rfl (aG (aB (i:=0) (show (["number","spot","level"]:List Str).Nodup by decide +kernel) rfl orL) (aG (aB (i:=1) (show (["number","spot","level"]:List Str).Nodup by decide +kernel) rfl orL) cM)))) (fun _ _ _ _=>(ix (bQ (pv' 1) (pv' 2)))) (fun _ _ _ _=>(pv' 0))))) fun zt1 zh1 ze1=>?_
 refine ⟨_,ae (bb (dc bz hr.dn bG (pa2 (pv' 1) (ax (pv' 0))))) zh1,?_⟩
 obtain ⟨⟨dx,hob⟩,hkn,hwh⟩:=id hy
 k_mem
 refine fgo hob T.cN T.iE rfl ?_
 k_mem
 refine ⟨_,_,rfl,fun hlv=>?_,q2⟩
 k_mem
 refine fgo hob T.cN T.bW rfl ?_
 k_mem
 refine ⟨⟨_,SqL.of hwh⟩,?_⟩
 refine mI ws.length (fun i acc H'=>aq H H'/\acc=(wY ws lv i).map V.int) ⟨aq.refl H,rfl⟩ ?_ ?_ ?_ ?_
 ·rintro i acc H' hi ⟨s1,_⟩
  k_upd
  exact ⟨_,_,s1.seq (SqL.of hwh),by rw [List.getElem?_map,kF hi];rfl⟩
 ·rintro acc H' ⟨s1,_⟩
  k_upd
  exact ⟨_,s1.seq (SqL.of hwh),by rw [WB];exact Nat.le_refl _⟩
 ·rintro i acc H' hi ⟨s1,rfl⟩
  k_upd
  refine ⟨by have:=AI ws lv i;rw [WB,sizeLine_eq];omega,?_⟩
  rintro x H2 ⟨tp,z,rfl,htp,rfl,hz⟩ M hM
  have e:=hz _ (s1.seq (SqL.of hwh))
  rw [List.getElem?_map,kF hi] at e
  cases e
  k_mem
  refine ⟨_,SqT.of ag,rfl,?_⟩
  k_mem
  refine ⟨⟨rfl,fun k v e=>?_⟩,?_⟩
  ·match k,e with
   | 0,e=>cases e
   | 1,e=>cases e
   | 2,e=>exact e
  ·have gs:=E4 ws lv i
   k_upd
   split
   ·rename_i h
    refine hM _ _ ⟨s1.lay htp,?_⟩
    rw [gs,if_pos h,List.map_append];rfl
   ·rename_i h
    refine hM _ _ ⟨s1.lay htp,?_⟩
    rw [gs,if_neg h,List.append_nil]
 ·rintro acc H' ⟨s1,rfl⟩ p hp
  k_upd
  exact q1 hlv p _ (s1.free hp) (s1.lay hp) ag
variable (mx:KM P w K mg base (CXf P w) 3 Z.eY "at_level" (gC K Z))
inductive me (K:WA)(Z:Adr)(vs:List V)(H:Hp)(Q:VK)(E:XK):Prop | mk (y kn wh:Addr) (ks:List Str) (ws:List Int) (m:Int):vs=[.ref y]->cY Z.eY H y kn wh ks ws m->(∀(y' kn' wh':Addr) (H':Hp),H y'=none->H kn'=none->H wh'=none->kn'≠wh'->aq H H'->cY Z.eY H' y' kn' wh' ks ws m->Q (.ref y') H')->me K Z vs H Q E
include T jK in
theorem Aa:FF P w K mg base CX0 3 "twin" "Yard.twin" nj tV (me K Z):=fk0 qZ fun vs H Q E h=>by
 obtain ⟨y,kn,wh,ks,ws,m,rfl,hy,q⟩:=h
 k_all
 refine ⟨_,ae (aD (i:=1) qZ.nd rfl orL (dn jK hr.dn T.HJ aY (pa2 (bc ff) (ax (pv' 0))))) (ae (bP (pv' 1) (bg bx (by rfl) T.eh cW (pa1 (ax (pv' 0)))) rfl) (ae (bP (pv' 1) (bg bx (by rfl) T.eh cW (pa1 (ax (pv' 0)))) rfl) (ah (az (pv' 1))))),?_⟩
 obtain ⟨⟨dy,hob⟩,hkn,hwh⟩:=id hy
 k_mem
 refine ⟨by decide,fun p0 hp0=>⟨_,_,_,upo hob hp0,T.cN,T.iE,_,rfl,?_⟩⟩
 refine fun x dx hx hdx nxd=>?_
 have s0:=(aq.refl H).lay (o:=HO.lst []) hp0
 have hx':upd (upd H p0 (HO.lst [])) dx (.own x) x=none:=by rw [aJ (Ne.symm nxd)];exact hx
 refine ⟨x,dx,p0,[],m,rfl,ag,⟨[],SqL.of (upo (upo ag hdx) hx'),jQ.nil⟩,by decide,fun kn0 wh0 H1 hkn0 hwh0 nkw kp hy1=>⟨rfl,?_⟩⟩
 have s1:=s0.trans (gM hx hdx kp)
 obtain ⟨⟨dx1,hob1⟩,hkn1,hwh1⟩:=id hy1
 have hxn:H x=none:=s0.free hx
 clear kp hy1
 k_mem
 refine fgo (s1 _ _ hob) T.cN T.gH rfl ?_
 k_mem
 refine ⟨_,.inl (SqL.of (s1 _ _ hkn)),fun k1 hk1=>⟨_,_,_,upo hob1 hk1,T.cN,T.gH,by show 3 < 1000;decide,?_⟩⟩
 have nk1:k1≠x:=fun z=>by rw [z,hob1] at hk1;cases hk1
 have s2:aq H (upd (upd H1 k1 (HO.lst (ks.map V.str))) x (HO.ins Z.eY dx1 (bw "kinds" (.ref k1) [("kinds",V.ref kn0),("where",V.ref wh0),("many",V.int m)]))):=(s1.lay hk1).rewr hxn
 have hob2:upd (upd H1 k1 (HO.lst (ks.map V.str))) x (HO.ins Z.eY dx1 (bw "kinds" (.ref k1) [("kinds",V.ref kn0),("where",V.ref wh0),("many",V.int m)])) x=some (HO.ins Z.eY dx1 [("kinds",V.ref k1),("where",V.ref wh0),("many",V.int m)]):=by rw [ag];rfl
 have hk2:upd (upd H1 k1 (HO.lst (ks.map V.str))) x (HO.ins Z.eY dx1 (bw "kinds" (.ref k1) [("kinds",V.ref kn0),("where",V.ref wh0),("many",V.int m)])) k1=some (HO.lst (ks.map V.str)):=by rw [aJ nk1,ag]
 generalize upd (upd H1 k1 (HO.lst (ks.map V.str))) x (HO.ins Z.eY dx1 (bw "kinds" (.ref k1) [("kinds",V.ref kn0),("where",V.ref wh0),("many",V.int m)]))=H2 at *
 refine fgo (s2 _ _ hob) T.cN T.bW rfl ?_
 k_mem
 refine ⟨_,.inl (SqL.of (s2 _ _ hwh)),fun w1 hw1=>⟨_,_,_,upo hob2 hw1,T.cN,T.bW,by show 3 < 1000;decide,?_⟩⟩
 have nw1:w1≠x:=fun z=>by rw [z,hob2] at hw1;cases hw1
 have nkw1:k1≠w1:=ak hk2 hw1
 refine q x k1 w1 _ hxn (s1.free hk1) (s2.free hw1) nkw1 ((s2.lay hw1).rewr hxn) ⟨⟨dx1,by rw [ag];rfl⟩,?_,?_⟩
 ·rw [aJ nk1,aJ nkw1];exact hk2
 ·rw [aJ nw1,ag]
variable (ug:KM P w K mg base CX0 3 Z.eY "twin" (me K Z))
theorem Mt (s:Int)(x:Cd):inV (.int s) (cdV x)=decide (s=x.1\/s=x.2):=DS s x.1 x.2
inductive kr (K:WA)(Z:Adr)(vs:List V)(H:Hp)(Q:VK)(E:XK):Prop | mk (b cs fl st:Addr) (ls:List Cd) (fs:List Bool) (e:Eng) (lv s:Int):vs=[.ref b,.int lv,.int s]->bC Z.bF K H b cs fl st ls fs e->((¬(0<=lv/\lv < ls.length)->E (.ref Z.aF) none H))->((0<=lv->lv < ls.length->fs.getD lv.toNat false=true->E (.ref Z.fq) none H))->((0<=lv->lv < ls.length->fs.getD lv.toNat false=false->¬(s=(eM ls lv).1\/s=(eM ls lv).2)->E (.ref Z.g0) none H))->((0<=lv->lv < ls.length->fs.getD lv.toNat false=false->(s=(eM ls lv).1\/s=(eM ls lv).2)->∀st' H',aA b H H'->bC Z.bF K H' b cs fl st' ls fs (.wait lv s)->Q .non H'))->kr K Z vs H Q E
include T bz in
theorem xI:FF P w K mg base (CXf P w) 3 "ring" "Bells.ring" lK qK (kr K Z):=fkF xf fun vs H Q E h=>by
 obtain ⟨b,cs,fl,st,ls,fs,e,lv,s,rfl,hB,q1,q2,q3,q4⟩:=h
 k_all
 refine seg 3 (ah (bP (pv' 0) (aQ (pa4 aE (pv' 1) (pv' 2) eJ)) rfl)) fun zt3 zh3 ze3=>?_
 refine seg 2 (ae (aN (dk gF (pv' 2) (ao av (ax (pv' 0)) (pv' 1)) (by rfl)) (ah (bh T.Bz (by rfl) T.Bn (pa1 aE))) (aC)) zh3) fun zt2 zh2 ze2=>?_
 refine seg 1 (ae (aN (cx (ao av (ax (pv' 0)) (pv' 1))) (ah (bh T.Dn (by rfl) T.Dk (pa1 aE))) (aC)) zh2) fun zt1 zh1 ze1=>?_
 refine ⟨_,ae (bb (dc bz hr.dn bG (pa2 (pv' 1) (aH aw (by rfl) T.bN ba (pa1 (ax (pv' 0))))))) zh1,?_⟩
 obtain ⟨⟨dx,hob⟩,⟨as,hcs,hT⟩,hfl,hst,nn,ln⟩:=id hB
 k_mem
 refine fgo hob T.bB T.cU rfl ?_
 k_mem
 refine ⟨_,.inl (SqL.of hcs),_,_,rfl,?_⟩
 rw [WB,hT.1]
 k_upd
 refine ⟨fun hlv=>?_,q1⟩
 k_mem
 refine fgo hob T.bB T.cK rfl ?_
 k_mem
 refine ⟨_,SqL.of hfl,_,jS hlv.1 (by omega),?_⟩
 k_mem
 split
 ·rename_i h
  k_upd
  exact ⟨by decide,q2 hlv.1 hlv.2 h⟩
 ·rename_i h
  k_upd
  refine fgo hob T.bB T.cU rfl ?_
  k_mem
  obtain ⟨ar,ea,hr⟩:=lA hT hlv.1 hlv.2
  k_upd
  refine ⟨_,SqL.of hcs,_,ea,?_⟩
  k_mem
  refine ⟨_,.inr hr,rfl,rfl,?_⟩
  rw [Mt]
  k_mem
  split
  ·rename_i h2
   k_upd
   exact ⟨by decide,q3 hlv.1 hlv.2 (by simpa using h) h2⟩
  ·rename_i h2
   k_upd
   refine ⟨by decide,fun st' hst'=>⟨_,_,_,upo hob hst',T.bB,T.bD,by show 3 < 1000;decide,?_⟩⟩
   have nsx:st'≠b:=fun z=>by rw [z,hob] at hst';cases hst'
   refine q4 hlv.1 hlv.2 (by simpa using h) (Decidable.not_not.mp h2) st' _ ((aA.of ((aq.refl H).lay hst')).put) (hB.state ((aA.of ((aq.refl H).lay hst')).put) (dx:=dx) (by rw [ag];rfl) (SqT.of ?_))
   rw [aJ nsx,ag];rfl
variable (rE:KM P w K mg base (CXf P w) 3 Z.bF "ring" (kr K Z))
inductive ku (K:WA)(Z:Adr)(vs:List V)(H:Hp)(Q:VK)(E:XK):Prop | mk (b cs fl st:Addr) (ls:List Cd) (fs:List Bool) (e:Eng) (lv:Int):vs=[.ref b,.int lv]->bC Z.bF K H b cs fl st ls fs e->((¬(0<=lv/\lv < ls.length)->E (.ref Z.aF) none H))->((0<=lv->lv < ls.length->fs.getD lv.toNat false=true->E (.ref Z.dG) none H))->((0<=lv->lv < ls.length->fs.getD lv.toNat false=false->∀H',aA fl H H'->H' fl=some (.lst ((fs.set lv.toNat true).map V.bl))->Q .non H'))->ku K Z vs H Q E
include T bz in
theorem xJ:FF P w K mg base (CXf P w) 3 "fail" "Bells.fail" lL qL (ku K Z):=fkF xg fun vs H Q E h=>by
 obtain ⟨b,cs,fl,st,ls,fs,e,lv,rfl,hB,q1,q2,q3⟩:=h
 k_all
 refine seg 2 (ah (gP iQ (rT (ax (pv' 0)) (pv' 1) iO))) fun zt2 zh2 ze2=>?_
 refine seg 1 (ae (aN (cx (ao av (ax (pv' 0)) (pv' 1))) (ah (bh T.wa (by rfl) T.vX (pa1 aE))) (aC)) zh2) fun zt1 zh1 ze1=>?_
 refine ⟨_,ae (bb (dc bz hr.dn bG (pa2 (pv' 1) (aH aw (by rfl) T.bN ba (pa1 (ax (pv' 0))))))) zh1,?_⟩
 obtain ⟨⟨dx,hob⟩,⟨as,hcs,hT⟩,hfl,hst,nn,ln⟩:=id hB
 k_mem
 refine fgo hob T.bB T.cU rfl ?_
 k_mem
 refine ⟨_,.inl (SqL.of hcs),_,_,rfl,?_⟩
 rw [WB,hT.1]
 k_upd
 refine ⟨fun hlv=>?_,q1⟩
 k_mem
 refine fgo hob T.bB T.cK rfl ?_
 k_mem
 refine ⟨_,SqL.of hfl,_,jS hlv.1 (by omega),?_⟩
 k_mem
 split
 ·rename_i h
  k_upd
  exact ⟨by decide,q2 hlv.1 hlv.2 h⟩
 ·rename_i h
  k_upd
  refine fgo hob T.bB T.cK rfl ?_
  k_mem
  refine ⟨_,hfl,_,zj hlv.1 (by rw [WB];omega),?_⟩
  k_upd
  exact q3 hlv.1 hlv.2 (by simpa using h) _ ((aA.of (aq.refl H)).put) (by rw [ag,List.map_set])
variable (rF:KM P w K mg base (CXf P w) 3 Z.bF "fail" (ku K Z))
theorem Mu (e:Eng)(lv c:Int):eqL (lz e) [V.str "armed",V.int lv,V.int c,V.int c]=match e with | .armed l' r=>decide (l'=lv/\r=c) | _=>false:=by
 cases e with
 | armed l r=>
  simp only [lz,eqL,zd,Bool.and_true]
  have:eqV (V.str "armed") (V.str "armed")=true:=rfl
  rw [this]
  by_cases h1:l=lv<;>by_cases h2:r=c<;>simp [h1,h2]
 | _=>rfl
theorem JW {k:Str}(hk:k="men"\/k="coal"):∃i:Int,(if eqV (V.str "men") (V.str k)=true then (0:Int) else 1)=i/\(eqV (V.str "men") (V.str k) || eqV (V.str "coal") (V.str k))=true/\∀x:Cd,atI (cdV x) i=some (.int (if k="men" then x.1 else x.2)):=by
 rcases hk with rfl | rfl
 ·exact ⟨0,rfl,rfl,fun x=>rfl⟩
 ·exact ⟨1,rfl,rfl,fun x=>rfl⟩
inductive mf (K:WA)(Z:Adr)(vs:List V)(H:Hp)(Q:VK)(E:XK):Prop | mk (b cs fl st:Addr) (ls:List Cd) (fs:List Bool) (e:Eng) (lv:Int) (k:Str):vs=[.ref b,.int lv,.str k]->bC Z.bF K H b cs fl st ls fs e->((k="men"\/k="coal"))->((¬(0<=lv/\lv < ls.length)->E (.ref Z.aF) none H))->((0<=lv->lv < ls.length->e≠.armed lv (cz ls lv k)->∀H',aq H H'->E (.ref Z.aZ) none H'))->((0<=lv->lv < ls.length->e=.armed lv (cz ls lv k)->∀st' H',aA b H H'->bC Z.bF K H' b cs fl st' ls fs (.used lv (cz ls lv k))->Q .non H'))->mf K Z vs H Q E
include T bz in
theorem Ab:FF P w K mg base (CXf P w) 3 "use" "Bells.use" nq tW (mf K Z):=fkF rd fun vs H Q E h=>by
 obtain ⟨b,cs,fl,st,ls,fs,e,lv,k,rfl,hB,hk,q1,q2,q3⟩:=h
 k_all
 refine seg 3 (ah (bP (pv' 0) (aQ (pa4 aE (pv' 1) (pv' 3) (pv' 3))) rfl)) fun zt3 zh3 ze3=>?_
 refine seg 2 (ae (aN (dk (LN hr.units0) (ax (pv' 0)) (aQ (pa4 aE (pv' 1) (pv' 3) (pv' 3))) (bL _)) (ah (bh T.Dq (by rfl) T.vY (pa1 aE))) (aC)) zh3) fun zt2 zh2 ze2=>?_
 refine seg 1 (ae (aD (i:=3) rd.nd rfl orL (ao au (ao av (ax (pv' 0)) (pv' 1)) (oE PySem.F.plainAttrs_tuple PySem.F.slot_tuple_index PySem.F.type_tuple_index E3 (dD (by rfl) T.JM) (pa1 (pv' 2))))) zh2) fun zt1 zh1 ze1=>?_
 refine ⟨_,ae (bb (dc bz hr.dn bG (pa2 (pv' 1) (aH aw (by rfl) T.bN ba (pa1 (ax (pv' 0))))))) zh1,?_⟩
 obtain ⟨⟨dx,hob⟩,⟨as,hcs,hT⟩,hfl,hst,nn,ln⟩:=id hB
 k_mem
 refine fgo hob T.bB T.cU rfl ?_
 k_mem
 refine ⟨_,.inl (SqL.of hcs),_,_,rfl,?_⟩
 rw [WB,hT.1]
 k_upd
 refine ⟨fun hlv=>?_,q1⟩
 k_mem
 obtain ⟨ar,ea,hr⟩:=lA hT hlv.1 hlv.2
 obtain ⟨i,ei,ek,ex⟩:=JW hk
 k_upd
 refine fgo hob T.bB T.cU rfl ?_
 k_mem
 refine ⟨_,SqL.of hcs,_,ea,.inr (.inl ⟨rfl,T.JO⟩),_,_,_,_,rfl,rfl,T.JN _,rfl,rfl,rfl,ek,?_⟩
 rw [ei]
 k_mem
 refine ⟨_,hr,_,ex _,?_⟩
 k_mem
 have ec:(if k=Str.ofString "men" then (eM ls lv).1 else (eM ls lv).2)=cz ls lv k:=rfl
 rw [ec]
 k_upd
 refine fgo hob T.bB T.bD rfl ⟨by decide,fun tp htp=>?_⟩
 k_mem
 refine ⟨_,_,_,_,rfl,rfl,((aq.refl H).lay htp).tup hst,SqT.of ag,List.all_eq_true.mpr (sg e),rfl,?_⟩
 have s0:=(aq.refl H).lay (o:=HO.tup [V.str (Str.ofString "armed"),V.int lv,V.int (cz ls lv k),V.int (cz ls lv k)]) htp
 have e2:eqL (lz e) [V.str (Str.ofString "armed"),V.int lv,V.int (cz ls lv k),V.int (cz ls lv k)]=_:=Mu e lv (cz ls lv k)
 rw [e2]
 have hob0:=s0 _ _ hob
 generalize upd H tp (HO.tup [V.str (Str.ofString "armed"),V.int lv,V.int (cz ls lv k),V.int (cz ls lv k)])=H0 at *
 have no:e≠.armed lv (cz ls lv k)->E (.ref Z.aZ) none H0:=fun z=>q2 hlv.1 hlv.2 z H0 s0
 cases e with
 | armed l' r=>
  k_mem
  by_cases hh:l'=lv/\r=cz ls lv k
  ·rw [if_neg (by simp [hh])]
   k_mem
   refine ⟨by decide,fun st' hst'=>⟨_,_,_,upo hob0 hst',T.bB,T.bD,by show 3 < 1000;decide,?_⟩⟩
   have nsx:st'≠b:=fun z=>by rw [z,hob0] at hst';cases hst'
   have k0:=((aA.of (s0.lay (o:=HO.tup [V.str (Str.ofString "used up"),V.int lv,V.int (cz ls lv k),V.int (cz ls lv k)]) hst')).put (o:=HO.ins Z.bF dx (bw "state" (.ref st') [("codes",V.ref cs),("failed",V.ref fl),("state",V.ref st)])) (p:=b))
   refine q3 hlv.1 hlv.2 (by rw [hh.1,hh.2]) st' _ k0 (hB.state k0 (dx:=dx) (by rw [ag];rfl) (SqT.of ?_))
   rw [aJ nsx,ag];rfl
  ·rw [if_pos (by simp;intro z1 z2;exact hh ⟨z1,z2⟩)]
   k_mem
   exact ⟨by decide,no fun z=>by injection z with z1 z2;exact hh ⟨z1,z2⟩⟩
 | _=>
  k_mem
  exact ⟨by decide,no fun z=>Eng.noConfusion z⟩
variable (uh:KM P w K mg base (CXf P w) 3 Z.bF "use" (mf K Z))
inductive kv (K:WA)(Z:Adr)(vs:List V)(H:Hp)(Q:VK)(E:XK):Prop | mk (b cs fl st:Addr) (ls:List Cd) (fs:List Bool) (e:Eng):vs=[.ref b]->bC Z.bF K H b cs fl st ls fs e->ls.length<=1000->(∀(b' cs' fl':Addr) (H':Hp),H b'=none->H cs'=none->H fl'=none->aq H H'->bC Z.bF K H' b' cs' fl' st ls fs e->Q (.ref b') H')->kv K Z vs H Q E
include T iH in
theorem xK:FF P w K mg base CX0 3 "twin" "Bells.twin" lO qN (kv K Z):=fk0 oX fun vs H Q E h=>by
 obtain ⟨b,cs,fl,st,ls,fs,e,rfl,hB,hn,q⟩:=h
 k_all
 refine ⟨_,ae (aD (i:=1) oX.nd rfl orL (dn iH hr.dn T.Eu aY (pa1 (ax (pv' 0))))) (ae (bP (pv' 1) (bg bx (by rfl) T.eh cW (pa1 (ax (pv' 0)))) rfl) (ae (bP (pv' 1) (ax (pv' 0)) rfl) (ah (az (pv' 1))))),?_⟩
 obtain ⟨⟨db,hob⟩,⟨as,hcs,hT⟩,hfl,hst,nn,ln⟩:=id hB
 k_mem
 refine fgo hob T.bB T.cU rfl ?_
 refine fun x dx hx hdx nxd=>?_
 have hx':upd H dx (.own x) x=none:=by rw [aJ (Ne.symm nxd)];exact hx
 refine ⟨x,dx,cs,ls,rfl,ag,hB.rows.same (((aq.refl H).lay hdx).lay hx'),hn,fun cs1 fl1 st1 H1 hcs1 hfl1 kp hB1=>⟨rfl,?_⟩⟩
 have s1:=gM hx hdx kp
 obtain ⟨⟨dx1,hob1⟩,⟨as1,hc1,hT1⟩,hf1,_,nn1,ln1⟩:=id hB1
 clear kp
 k_mem
 refine fgo (s1 _ _ hob) T.bB T.cK rfl ?_
 k_mem
 refine ⟨_,.inl (SqL.of (s1 _ _ hfl)),fun f2 hf2=>⟨_,_,_,upo hob1 hf2,T.bB,T.cK,by show 3 < 1000;decide,?_⟩⟩
 have nf2:f2≠x:=fun z=>by rw [z,hob1] at hf2;cases hf2
 have ncf:cs1≠f2:=ak hc1 hf2
 have ncx:cs1≠x:=fun z=>by rw [z,hob1] at hc1;cases hc1
 have s2:aq H (upd (upd H1 f2 (HO.lst (fs.map V.bl))) x (HO.ins Z.bF dx1 (bw "failed" (.ref f2) [("codes",V.ref cs1),("failed",V.ref fl1),("state",V.ref st1)]))):=(s1.lay hf2).rewr hx
 have k2:L2.aA x H1 (upd (upd H1 f2 (HO.lst (fs.map V.bl))) x (HO.ins Z.bF dx1 (bw "failed" (.ref f2) [("codes",V.ref cs1),("failed",V.ref fl1),("state",V.ref st1)]))):=(aA.of ((aq.refl H1).lay hf2)).put
 have hob2:upd (upd H1 f2 (HO.lst (fs.map V.bl))) x (HO.ins Z.bF dx1 (bw "failed" (.ref f2) [("codes",V.ref cs1),("failed",V.ref fl1),("state",V.ref st1)])) x=some (HO.ins Z.bF dx1 [("codes",V.ref cs1),("failed",V.ref f2),("state",V.ref st1)]):=by rw [ag];rfl
 have hff:upd (upd H1 f2 (HO.lst (fs.map V.bl))) x (HO.ins Z.bF dx1 (bw "failed" (.ref f2) [("codes",V.ref cs1),("failed",V.ref fl1),("state",V.ref st1)])) f2=some (HO.lst (fs.map V.bl)):=by rw [aJ nf2,ag]
 generalize upd (upd H1 f2 (HO.lst (fs.map V.bl))) x (HO.ins Z.bF dx1 (bw "failed" (.ref f2) [("codes",V.ref cs1),("failed",V.ref fl1),("state",V.ref st1)]))=H2 at *
 refine fgo (s2 _ _ hob) T.bB T.bD rfl ?_
 k_mem
 refine ⟨_,_,_,hob2,T.bB,T.bD,by show 3 < 1000;decide,?_⟩
 have k3:L2.aA x H2 (upd H2 x (HO.ins Z.bF dx1 (bw "state" (.ref st) [("codes",V.ref cs1),("failed",V.ref f2),("state",V.ref st1)]))):=(aA.of (aq.refl H2)).put
 refine q x cs1 f2 _ hx (fQ hcs1) (s1.free hf2) (s2.rewr hx) ⟨⟨dx1,by rw [ag];rfl⟩,⟨as1,k3 _ _ ncx (k2 _ _ ncx hc1),(hT1.keepI k2 hob1).keepI k3 hob2⟩,k3 _ _ nf2 hff,(s2.rewr hx).tup hst,ncf,ln⟩
variable (rG:KM P w K mg base CX0 3 Z.bF "twin" (kv K Z))
inductive jr (K:WA)(Z:Adr)(vs:List V)(H:Hp)(Q:VK)(E:XK):Prop | mk (a:Addr) (ds:List Int) (c lv:Int):vs=[.ref a,.int c,.int lv]->SqL K H a (ds.map V.int)->0<=lv->lv < ds.length->Q (.int (if c=0 then ds.getD lv.toNat 0 else cu ds - ds.getD lv.toNat 0)) H->jr K Z vs H Q E
include T dY in
theorem wD:FF P w K mg base CX0 3 "wound_place" "wound_place" jZ oO (jr K Z):=fk0 vE fun vs H Q E h=>by
 obtain ⟨a,ds,c,lv,rfl,hS,h0,h1,q⟩:=h
 k_all
 refine seg 1 (ah (az (dc0 dY hr.dn (pa2 (pv' 0) (ao av (pv' 0) (pv' 2)))))) fun zt1 zh1 ze1=>?_
 refine ⟨_,ae (aN (bQ (pv' 1) af) (ah (az (ao av (pv' 0) (pv' 2)))) (aC)) zh1,?_⟩
 k_mem
 split
 ·rename_i hc
  k_upd
  rw [if_pos hc] at q
  k_upd
  exact ⟨_,hS,_,dh h0 h1,q⟩
 ·rename_i hc
  k_upd
  rw [if_neg hc] at q
  k_upd
  refine ⟨_,hS,_,dh h0 h1,?_⟩
  k_mem
  exact ⟨a,ds,_,rfl,hS,by omega,q⟩
variable (pz:KD P w K mg base CX0 3 "wound_place" (jr K Z))
inductive nU (K:WA)(Z:Adr)(vs:List V)(H:Hp)(Q:VK)(E:XK):Prop | mk (a:Addr) (ds:List Int) (pl:Int):vs=[.ref a,.int pl]->SqL K H a (ds.map V.int)->0 < ds.length->ds.length<=1000->(∀(b:Addr) (H':Hp),H b=none->aq H H'->H' b=some (.lst ((iA ds pl).map V.int))->Q (.ref b) H')->nU K Z vs H Q E
include T dY in
theorem BP:FF P w K mg base CX0 3 "gates_by" "gates_by" pH vy (nU K Z):=fk0 t9 fun vs H Q E h=>by
 obtain ⟨a,ds,pl,rfl,hS,h0,h1,q⟩:=h
 k_all
 refine ⟨_,ae (aD (i:=2) t9.nd rfl (Or.inr rfl) (aQ (pa2 (pv' 1) (dc0 dY hr.dn (pa2 (pv' 0) (pv' 1)))))) (ah (az (jA ["level","depths","stands"] [none,some 0,some 2] (bf (by rfl) T.cq (pa1 (aH aw (by rfl) T.bN ba (pa1 (pv' 0))))) (fun _ _ _ _=>(aB (i:=0) (show (["level","depths","stands"]:List Str).Nodup by decide +kernel) rfl orL)) (fun _ _ _ _=>(ix (dk (show OpR _ _ (AZ K false) from lF) (ao (show IxR _ (AX K) from av) (pv' 1) (pv' 0)) (pv' 2) (by rfl)))) (fun _ _ _ _=>(pv' 0))))),?_⟩
 k_mem
 refine ⟨a,ds,pl,rfl,hS,h0,?_⟩
 k_mem
 refine ⟨by decide,fun t ht=>⟨_,.inl (((aq.refl H).lay ht).seq hS),by omega,by rw [WB];omega,?_⟩⟩
 refine dR (fun i=>decide (ds.getD i 0=pl\/ds.getD i 0=cu ds - pl)) (fun i=>V.int (i:Int)) (Nat.le_of_lt (cy (by rw [WB];omega))) rfl (fun i hi N q=>?_) (fun i hi _ N q=>?_) (fun b hb=>?_)
 ·rw [WB] at hi
  k_mem
  refine ⟨_,((aq.refl H).lay ht).seq hS,_,by rw [Int.zero_add];exact gL (by omega),_,.inr (SqT.of ag),rfl,rfl,?_⟩
  rw [DS]
  exact q
 ·k_mem
  rw [Int.zero_add]
  exact q
 ·refine q b _ (upn hb) (((aq.refl H).lay ht).lay hb) ?_
  rw [ag]
  unfold iA
  rw [List.map_map,WB]
  rfl
variable (wF:KD P w K mg base CX0 3 "gates_by" (nU K Z))
inductive ky (K:WA)(Z:Adr)(vs:List V)(H:Hp)(Q:VK)(E:XK):Prop | mk (x dx d c l:Addr) (ds:List Int) (ls:List Cd) (lds:List Ld) (slow fast:Int) (N:Addr->Prop):vs=[.ref x,.ref d,.ref c,.int slow,.int fast,.ref l]->H x=some (.ins Z.bq dx [])->SqL K H d (ds.map V.int)->jR cdV K H c ls->fv K H l lds->ds.length<=1000->ls.length<=1000->lds.length<=1000->((∀p,N p->∃ys,H p=some (.lst ys)))->((¬cf ds->E (.ref Z.eW) none H))->((cf ds->¬((ls.length:Int)=(ds.length:Nat)/\∀x∈ls,eL x)->E (.ref Z.gh) none H))->((cf ds->((ls.length:Int)=(ds.length:Nat)/\∀x∈ls,eL x)->¬(1<=slow/\slow<=fast/\fast<=500)->E (.ref Z.eX) none H))->((cf ds->((ls.length:Int)=(ds.length:Nat)/\∀x∈ls,eL x)->(1<=slow/\slow<=fast/\fast<=500)->¬(lds.length<=30/\∀x∈lds,iU (ds.length:Nat) x)->E (.ref Z.gg) none H))->((cf ds->((ls.length:Int)=(ds.length:Nat)/\∀x∈ls,eL x)->(1<=slow/\slow<=fast/\fast<=500)->(lds.length<=30/\∀x∈lds,iU (ds.length:Nat) x)->∀bk rl H',aA x H H'->H rl=none->WAt (clZ Z) K H' x bk rl (dS ds ls slow fast lds N) (fe ds ls lds) []->Q .non H'))->ky K Z vs H Q E
include T jK iH nM nO fA ud ph pj in
theorem xM:FF P w K mg base (CXf P w) 3 "__init__" "Works.__init__" lS qR (ky K Z):=fkF j4 fun vs H Q E h=>by
 obtain ⟨x,dx,d,c,l,ds,ls,lds,slow,fast,N,rfl,hx,hD,hC,hL,n1,n2,n3,hN,q1,q2,q3,q4,q5⟩:=h
 k_all
 refine ⟨_,ae (bb (dc nM hr.dn bG (pa1 (pv' 1)))) (ae (bb (dc pj hr.dn bG (pa2 (pv' 2) (aH aw (by rfl) T.bN ba (pa1 (pv' 1)))))) (ae (bb (dc nO hr.dn bG (pa2 (pv' 3) (pv' 4)))) (ae (bb (dc ph hr.dn bG (pa2 (pv' 5) (aH aw (by rfl) T.bN ba (pa1 (pv' 1)))))) (ae (bP (pv' 0) (bg bx (by rfl) T.eh cW (pa1 (pv' 1))) rfl) (ae (bP (pv' 0) (pv' 3) rfl) (ae (bP (pv' 0) (pv' 4) rfl) (ae (bP (pv' 0) (jA ["kind","level","goal"] [none,none,none] (cT (pv' 5)) (fun _ _ _ _=>(show PG _ _ (oH K 3 _) from eV (n:=3) rfl (aG (aB (i:=0) (show (["kind","level","goal"]:List Str).Nodup by decide +kernel) rfl orL) (aG (aB (i:=1) (show (["kind","level","goal"]:List Str).Nodup by decide +kernel) rfl orL) (aG (aB (i:=2) (show (["kind","level","goal"]:List Str).Nodup by decide +kernel) rfl orL) cM))))) (fun _ _ _ _=>fO) (fun _ _ _ _=>(pv' 2))) rfl) (ae (AB ["depth"] [none] (iy:=6) j4.nd rfl rfl (cT (pv' 1)) (fun _ _ _ _=>(aB (i:=0) (show (["depth"]:List Str).Nodup by decide +kernel) rfl orL)) (fun _ _ _ _=>fO) (fun _ _ _ _=>iQ)) (ae (aD (i:=7) j4.nd rfl orL (dn fA hr.dn T.v3 aY (pa4 (ao av (pv' 1) af) (pv' 6) (dn iH hr.dn T.Eu aY (pa1 (pv' 2))) (dn jK hr.dn T.HJ aY (pa2 (pv' 5) (aH aw (by rfl) T.bN ba (pa1 (pv' 1)))))))) (ah (bP (pv' 0) (dn ud hr.dn T.Mh aY (pa2 (pv' 7) (dD (by rfl) T.zQ))) rfl))))))))))),?_⟩
 k_mem
 refine ⟨d,ds,rfl,hD,by omega,fun sh=>?_,q1⟩
 k_mem
 refine ⟨_,.inl hD,?_⟩
 rw [WB]
 refine ⟨c,ls,_,rfl,hC,fun h2=>?_,q2 sh⟩
 k_mem
 refine ⟨_,_,rfl,?_⟩
 by_cases h3:1<=slow/\slow<=fast/\fast<=500
 case neg=>rw [if_neg h3];exact q3 sh h2 h3
 rw [if_pos h3]
 k_mem
 refine ⟨_,.inl hD,?_⟩
 rw [WB]
 refine ⟨l,lds,_,rfl,hL,fun h4=>?_,q4 sh h2 h3⟩
 replace q5:=q5 sh h2 h3 h4
 clear q1 q2 q3 q4
 k_mem
 refine ⟨_,.inl hD,fun dl hdl=>⟨_,_,_,upo hx hdl,T.aV,T.cL,by decide,_,_,_,ag,T.aV,T.o8,by show 1 < 1000;decide,_,_,_,ag,T.aV,T.pe,by show 2 < 1000;decide,?_⟩⟩
 have ndx:dl≠x:=fun z=>by rw [z,hx] at hdl;cases hdl
 have k1:L2.aA x H (upd (upd (upd (upd H dl (HO.lst (ds.map V.int))) x (HO.ins Z.bq dx (bw "depths" (.ref dl) []))) x (HO.ins Z.bq dx (bw "slow" (.int slow) (bw "depths" (.ref dl) [])))) x (HO.ins Z.bq dx (bw "fast" (.int fast) (bw "slow" (.int slow) (bw "depths" (.ref dl) []))))):=(((aA.of ((aq.refl H).lay hdl)).put).put).put
 have hx1:upd (upd (upd (upd H dl (HO.lst (ds.map V.int))) x (HO.ins Z.bq dx (bw "depths" (.ref dl) []))) x (HO.ins Z.bq dx (bw "slow" (.int slow) (bw "depths" (.ref dl) [])))) x (HO.ins Z.bq dx (bw "fast" (.int fast) (bw "slow" (.int slow) (bw "depths" (.ref dl) [])))) x=some (HO.ins Z.bq dx [("depths",.ref dl),("slow",.int slow),("fast",.int fast)]):=by rw [ag];rfl
 have hd1:upd (upd (upd (upd H dl (HO.lst (ds.map V.int))) x (HO.ins Z.bq dx (bw "depths" (.ref dl) []))) x (HO.ins Z.bq dx (bw "slow" (.int slow) (bw "depths" (.ref dl) [])))) x (HO.ins Z.bq dx (bw "fast" (.int fast) (bw "slow" (.int slow) (bw "depths" (.ref dl) [])))) dl=some (HO.lst (ds.map V.int)):=by rw [aJ ndx,aJ ndx,aJ ndx,ag]
 generalize upd (upd (upd (upd H dl (HO.lst (ds.map V.int))) x (HO.ins Z.bq dx (bw "depths" (.ref dl) []))) x (HO.ins Z.bq dx (bw "slow" (.int slow) (bw "depths" (.ref dl) [])))) x (HO.ins Z.bq dx (bw "fast" (.int fast) (bw "slow" (.int slow) (bw "depths" (.ref dl) []))))=H1 at *
 obtain ⟨asL,hLs,hLt⟩:=id hL
 refine ⟨⟨_,hLs.keepI k1 hx⟩,sJ (fun y=>.int y.2.2) (hL.keepI k1 hx) (by rw [sizeLine_eq];omega) rfl (fun y _ M hM=>by k_mem;exact hM) fun gl hgl=>?_⟩
 k_mem
 refine ⟨_,_,_,upo hx1 hgl,T.aV,T.nG,by show 3 < 1000;decide,?_⟩
 have ngx:gl≠x:=fun z=>by rw [z,hx1] at hgl;cases hgl
 have ngd:dl≠gl:=ak hd1 hgl
 have k2:L2.aA x H1 (upd (upd H1 gl (HO.lst (lds.map fun y=>V.int y.2.2))) x (HO.ins Z.bq dx (bw "goals" (.ref gl) [("depths",.ref dl),("slow",.int slow),("fast",.int fast)]))):=(aA.of ((aq.refl H1).lay hgl)).put
 have hx2:upd (upd H1 gl (HO.lst (lds.map fun y=>V.int y.2.2))) x (HO.ins Z.bq dx (bw "goals" (.ref gl) [("depths",.ref dl),("slow",.int slow),("fast",.int fast)])) x=some (HO.ins Z.bq dx [("depths",.ref dl),("slow",.int slow),("fast",.int fast),("goals",.ref gl)]):=by rw [ag];rfl
 have hg2:upd (upd H1 gl (HO.lst (lds.map fun y=>V.int y.2.2))) x (HO.ins Z.bq dx (bw "goals" (.ref gl) [("depths",.ref dl),("slow",.int slow),("fast",.int fast)])) gl=some (HO.lst ((lds.map (·.2.2)).map V.int)):=by rw [aJ ngx,ag,List.map_map];rfl
 generalize upd (upd H1 gl (HO.lst (lds.map fun y=>V.int y.2.2))) x (HO.ins Z.bq dx (bw "goals" (.ref gl) [("depths",.ref dl),("slow",.int slow),("fast",.int fast)]))=H2 at *
 have k12:=k1.trans k2
 have hd2:=k2 _ _ ndx hd1
 refine ⟨⟨_,hD.keepI k12 hx⟩,?_⟩
 refine tN (fun _=>true) (fun _=>V.bl false) (hD.keepI k12 hx) (by rw [WB,sizeLine_eq];omega) rfl (fun y _ M hM=>by k_mem;exact hM) (fun y _ _ M hM=>by k_mem;exact hM) fun sh1 hsh1=>?_
 have es:((ds.map V.int).filter fun _=>true).map (fun _=>V.bl false)=(ds.map fun _=>false).map V.bl:=by
  rw [List.filter_eq_self.mpr (by simp),List.map_map,List.map_map];rfl
 rw [es]
 have f3:=(aq.refl H2).lay (o:=HO.lst ((ds.map fun _=>false).map V.bl)) hsh1
 have hs3:upd H2 sh1 (HO.lst ((ds.map fun _=>false).map V.bl)) sh1=some (HO.lst ((ds.map fun _=>false).map V.bl)):=ag
 generalize upd H2 sh1 (HO.lst ((ds.map fun _=>false).map V.bl))=H3 at *
 have k13:L2.aA x H H3:=k12.trans (aA.of f3)
 have sl2:=sh.l2
 k_mem
 refine ⟨_,hD.keepI k13 hx,_,dh (k:=0) (by omega) (by omega),?_⟩
 k_mem
 refine fun b db hb hdb nbd=>?_
 have hb':upd H3 db (.own b) b=none:=by rw [aJ (Ne.symm nbd)];exact hb
 refine ⟨b,db,c,ls,rfl,ag,(hC.keepI k13 hx).same (((aq.refl H3).lay hdb).lay hb'),n2,fun cs fl st H4 hcs hfl kp hB=>⟨rfl,?_⟩⟩
 have f4:=gM hb hdb kp
 have fcs:=fQ hcs
 have ffl:=fQ hfl
 clear kp hcs hfl
 have f34:=f3.trans f4
 have k14:L2.aA x H H4:=k13.trans (aA.of f4)
 k_mem
 refine ⟨_,.inl (hD.keepI k14 hx),?_⟩
 rw [WB]
 refine fun y dy hy hdy nyd=>?_
 have hy':upd H4 dy (.own y) y=none:=by rw [aJ (Ne.symm nyd)];exact hy
 refine ⟨y,dy,l,lds,_,rfl,ag,(hL.keepI k14 hx).same (((aq.refl H4).lay hdy).lay hy'),n3,fun kn wh H5 hkn hwh nkw kp hY=>⟨rfl,?_⟩⟩
 have f5:=gM hy hdy kp
 have fkn:=fQ hkn
 have fwh:=fQ hwh
 clear kp hkn hwh
 k_mem
 refine fun s ds1 hs hds1 nsd=>?_
 have hs':upd H5 ds1 (.own s) s=none:=by rw [aJ (Ne.symm nsd)];exact hs
 refine ⟨s,ds1,sh1,b,y,ds.getD 0 0,ds.map fun _=>false,rfl,ag,(((aq.refl H5).lay hds1).lay hs').seq (SqL.of (f5 _ _ (f4 _ _ hs3))),fun ol H6 hol kp hob6 hol6=>⟨rfl,?_⟩⟩
 have f6:=gM hs hds1 kp
 have fol:=fQ hol
 clear kp hol
 k_mem
 refine fun bk dbk hbk hdbk nbk=>?_
 refine ⟨bk,dbk,s,rfl,ag,fun rl H7 hrl kp hob7 hrl7=>⟨rfl,?_⟩⟩
 have f7:=gM hbk hdbk kp
 have frl:=fQ hrl
 clear kp hrl
 have f26:=(f3.trans f4).trans (f5.trans f6)
 have f27:=f26.trans f7
 have hx7:=f27 _ _ hx2
 k_mem
 refine ⟨_,_,_,hx7,T.aV,T.aS,by show 4 < 1000;decide,?_⟩
 have k8:L2.aA x H7 (upd H7 x (HO.ins Z.bq dx (bw "log" (.ref bk) [("depths",.ref dl),("slow",.int slow),("fast",.int fast),("goals",.ref gl)]))):=(aA.of (aq.refl H7)).put
 have hx8:upd H7 x (HO.ins Z.bq dx (bw "log" (.ref bk) [("depths",.ref dl),("slow",.int slow),("fast",.int fast),("goals",.ref gl)])) x=some (HO.ins Z.bq dx [("depths",.ref dl),("slow",.int slow),("fast",.int fast),("goals",.ref gl),("log",.ref bk)]):=by rw [ag];rfl
 generalize upd H7 x (HO.ins Z.bq dx (bw "log" (.ref bk) [("depths",.ref dl),("slow",.int slow),("fast",.int fast),("goals",.ref gl)]))=H8 at *
 have frx:∀z,H6 z=none->H z=none:=fun z hz=>by
  by_cases e:z=x
  ·subst e;rw [f26 _ _ hx2] at hz;cases hz
  ·exact k12.free e (f26.free hz)
 obtain ⟨_,⟨asc,oc4,_⟩,of4,_,ncf,_⟩:=id hB
 obtain ⟨_,okn5,owh5⟩:=id hY
 have hsx:s≠x:=fun z=>by rw [z] at hs;rw [f5 _ _ (f34 _ _ hx2)] at hs;cases hs
 have hbx:b≠x:=fun z=>by rw [z] at hb;rw [f3 _ _ hx2] at hb;cases hb
 have hyx:y≠x:=fun z=>by rw [z] at hy;rw [f34 _ _ hx2] at hy;cases hy
 have hbkx:bk≠x:=fun z=>by rw [z] at hbk;rw [f26 _ _ hx2] at hbk;cases hbk
 have f46:=f5.trans f6
 have hN6:∀p,N p->∃ys,H6 p=some (.lst ys):=fun p hp=>by
  obtain ⟨ys,e⟩:=hN p hp
  exact ⟨ys,f26 _ _ (k12 _ _ (fun z=>by rw [z,hx] at e;cases e) e)⟩
 have hNn:∀p,N p->∀z,H z=none->z≠p:=fun p hp z hz e=>by
  obtain ⟨ys,e'⟩:=hN p hp
  rw [←e,hz] at e';cases e'
 have fr3:∀z,z≠x->H3 z=none->H z=none:=fun z e hz=>k13.free e hz
 have nx3:∀z,H3 z=none->z≠x:=fun z hz e=>by rw [e,f3 _ _ hx2] at hz;cases hz
 have gcs:=fr3 cs (nx3 cs fcs) fcs
 have gfl:=fr3 fl (nx3 fl ffl) ffl
 have gkn:=fr3 kn (nx3 kn (f4.free fkn)) (f4.free fkn)
 have gwh:=fr3 wh (nx3 wh (f4.free fwh)) (f4.free fwh)
 have gol:=fr3 ol (nx3 ol (f4.free (f5.free fol))) (f4.free (f5.free fol))
 have cs5:=f5 _ _ oc4
 have fl5:=f5 _ _ of4
 have hst:aU (clZ Z) K H7 rl (dS ds ls slow fast lds N) s ⟨ds1,ol,b,cs,fl,st,y,kn,wh⟩ (fe ds ls lds):=
  ⟨f7 _ _ hob6,f7 _ _ hol6,((hB.same f5).same f6).same f7,(hY.same f6).same f7,
   ⟨ak hol6 frl,ak (f6 _ _ cs5) frl,ak (f6 _ _ fl5) frl,ak (f6 _ _ okn5) frl,ak (f6 _ _ owh5) frl,
   ak cs5 fol,ak fl5 fol,ak okn5 fol,ak owh5 fol,
   (ak fl5 fol).symm,(ak of4 fkn).symm,(ak of4 fwh).symm,
   (ak owh5 fol).symm,ak oc4 fwh,ak of4 fwh,nkw⟩,
   ⟨fun p hp=>by obtain ⟨ys,e⟩:=hN6 p hp;exact ⟨ys,f7 _ _ e⟩,fun p hp=>hNn p hp rl (frx rl frl),fun p hp=>hNn p hp ol gol,fun p hp=>hNn p hp cs gcs,fun p hp=>hNn p hp fl gfl,fun p hp=>hNn p hp kn gkn,fun p hp=>hNn p hp wh gwh⟩⟩
 have hst8:=hst.keepI k8 hx7 hsx hbx hyx
 have nrx:rl≠x:=fun z=>by rw [z] at frl;rw [f26 _ _ hx2] at frl;cases frl
 refine q5 bk rl H8 ((k12.trans (aA.of f27)).trans k8) (frx rl frl) ⟨⟨dx,dl,gl,hx8,k8 _ _ ndx (f27 _ _ hd2),k8 _ _ ngx (f27 _ _ hg2),ak (f26 _ _ hd2) frl,ak (f26 _ _ hg2) frl,fun p hp=>hNn p hp dl hdl,fun p hp=>hNn p hp gl (k1.free ngx hgl)⟩,⟨dbk,s,k8 _ _ hbkx hob7,hst8.at⟩,[],k8 _ _ nrx hrl7,rfl,fun i a r e=>by simp at e⟩
variable (rH:KN P w K mg base (CXf P w) 3 Z.bq (ky K Z))
def ui (Z:Adr)(K:WA)(H:Hp)(w bk rl:Addr)(g:Cfg)(n0:aM)(rs:List Row)(d:Dd)(Q:VK)(E:XK):Prop:=
 (300<=rs.length->∀H',aq H H'->E (.ref Z.eP) none H')/\(rs.length < 300->∀H',aA rl H H'->WAt (clZ Z) K H' w bk rl g n0 (rs++[mi g n0 rs d])->Q (.int (cS rs+sk g (ai n0 rs) d)) H')
inductive js (K:WA)(Z:Adr)(vs:List V)(H:Hp)(Q:VK)(E:XK):Prop | mk (w bk rl:Addr) (g:Cfg) (n0:aM) (rs:List Row) (dd s:Addr) (tk:Int) (dv:List V) (n:aM):vs=[.ref w,.ref dd,.int tk,.ref s]->WAt (clZ Z) K H w bk rl g n0 rs->SqT K H dd dv->eB (clZ Z) K H rl g s n->g.ks.length=n.ws.length->((300<=rs.length->∀H',aq H H'->E (.ref Z.eP) none H'))->((rs.length < 300->∀H',aA rl H H'->WAt (clZ Z) K H' w bk rl g n0 (rs++[⟨cS rs,cS rs+tk,dv,fS g n,n⟩])->Q (.int (cS rs+tk)) H'))->js K Z vs H Q E
include T rz dP jN in
theorem wG:FF P w K mg base (CXf P w) 3 "write" "Works.write" j6 oR (js K Z):=fkF vH fun vs H Q E h=>by
 obtain ⟨w,bk,rl,g,n0,rs,dd,s0,tk,dv,n,rfl,hW,hD,hS,hl,q1,q2⟩:=h
 k_all
 refine seg 1 (ah (az (dw (pv' 0) jN hr.dn aY))) fun zt1 zh1 ze1=>?_
 refine ⟨_,ae (bb (dm' (ax (pv' 0)) rz hr.dn bG (pa4 (pv' 1) (pv' 2) (dm' (pv' 0) dP hr.dn aY (pa1 (pv' 3))) (pv' 3)))) zh1,?_⟩
 obtain ⟨⟨dx,dl,gl,hob,hdl,hgl,n1,n2⟩,hB⟩:=id hW
 obtain ⟨⟨db,f0,hbo,hF⟩,as,hrl,hR⟩:=id hB
 k_mem
 refine fgo hob T.aV T.aS rfl ?_
 k_mem
 refine mgo hbo rfl (mgo hob rfl ⟨_,_,_,_,_,_,_,_,rfl,hW,hS,hl,fun H1 s1=>?_⟩)
 k_mem
 refine ⟨bk,rl,dd,s0,g,n0,n,rs,tk,fS g n,dv,rfl,hB.same s1,s1.tup hD,hS.same s1,fun h=>q1 h H1 s1,fun h H2 k2 hB2=>?_⟩
 k_mem
 have k1:L2.aA rl H H2:=(aA.of s1).trans k2
 have hW2:WAt (clZ Z) K H2 w bk rl g n0 _:=(hW.same s1).keep k2 (s1 _ _ hrl) hB2
 obtain ⟨dx2,_,_,hob2,_⟩:=id hW2.ob
 k_upd
 refine mgo hob2 rfl ⟨_,_,_,_,_,_,rfl,hW2,?_⟩
 rw [sj]
 k_upd
 exact q2 h H2 k1 hW2
variable (bA:KM P w K mg base (CXf P w) 3 Z.bq "write" (js K Z))
inductive eR (K:WA)(Z:Adr)(vs:List V)(H:Hp)(Q:VK)(E:XK):Prop | mk (w bk rl:Addr) (g:Cfg) (n0:aM) (rs:List Row) (pl:Int):vs=[.ref w,.int pl]->WAt (clZ Z) K H w bk rl g n0 rs->0 < g.ds.length->(∀p,H p=none->Q (.ref p) (upd H p (.tup [.int pl,.int (cu g.ds - pl)])))->eR K Z vs H Q E
include T dY in
theorem nV:FF P w K mg base CX0 3 "both_places" "Works.both_places" fg ir (eR K Z):=fk0 nA fun vs H Q E h=>by
 obtain ⟨w,bk,rl,g,n0,rs,pl,rfl,hW,hn,q⟩:=h
 k_all
 refine ⟨_,ah (az (aQ (pa2 (pv' 1) (dc0 dY hr.dn (pa2 (ax (pv' 0)) (pv' 1)))))),?_⟩
 obtain ⟨⟨dx,dl,gl,hob,hdl,hgl,n1,n2⟩,hB⟩:=id hW
 obtain ⟨⟨db,f0,hbo,hF⟩,as,hrl,hR⟩:=id hB
 k_mem
 refine fgo hob T.aV T.cL rfl ?_
 k_mem
 refine ⟨_,_,_,rfl,SqL.of hdl,hn,?_⟩
 k_mem
 exact ⟨by decide,q⟩
variable (iu:KM P w K mg base CX0 3 Z.bq "both_places" (eR K Z))
theorem Fo {x y z i:Int}(h0:0<=i)(h2:i<=2):atI [V.int x,V.int y,V.int z] i=some (.int (if i=0 then x else if i=1 then y else z)):=by
 rcases (by omega:i=0\/i=1\/i=2) with rfl | rfl | rfl<;>rfl
inductive qf (K:WA)(Z:Adr)(vs:List V)(H:Hp)(Q:VK)(E:XK):Prop | mk (a:Addr) (ns:List Int):vs=[.ref a]->SqL K H a (ns.map V.int)->(∀(p dl cl:Addr) (ds:List Int) (as:List Addr) (ls:List Cd) (slow fast:Int) (H':Hp),aq H H'->H p=none->H dl=none->H cl=none->dl≠cl->H' p=some (.lst [.ref dl,.ref cl,.int slow,.int fast])->H' dl=some (.lst (ds.map V.int))->cf ds->H' cl=some (.lst (as.map V.ref))->cR cdV K H' as ls->ls.length=ds.length->(∀x∈ls,eL x)->(1<=slow/\slow<=fast/\fast<=500)->Q (.ref p) H')->qf K Z vs H Q E
include T kj bX wB yU in
theorem DC:FF P w K mg base CX0 3 "_law_shaft" "_law_shaft" kM yz (qf K Z):=fk0 fD fun vs H Q E h=>by
 obtain ⟨a,ns,rfl,hS,q⟩:=h
 k_all
 obtain ⟨t1,h1,k1⟩:∃t,PSs (oq CX0 P w K mg base ["_law_script","_law_depths_here","_law_codes_here","_law_cell","_law_slow","_law_fast"] "_law_shaft" (aj kM) zf zv zA zo zs H E).nox ((bH kM).drop 4) t/\∀(dl cl:Addr) (ds:List Int) (as:List Addr) (ls:List Cd) (c slow:Int) (H1:Hp),aq H H1->H dl=none->H cl=none->dl≠cl->H1 dl=some (.lst (ds.map V.int))->cf ds->H1 cl=some (.lst (as.map V.ref))->cR cdV K H1 as ls->ls.length=ds.length->(∀x∈ls,eL x)->1<=slow->slow<=500->t ({nx:=fun _ H2=>Q .non H2,rt:=Q}:gO) [some (.ref a),some (.ref dl),some (.ref cl),some (.int c),some (.int slow),none] H1:=by
  refine ⟨_,ae (aN (bQ (dc0 bX hr.dn (pa3 (pv' 3) af af)) af) (ah (aD (i:=4) fD.nd rfl orL af)) (aC)) (ae (aD (i:=5) fD.nd rfl orL (ao av (bc (pa3 (pv' 4) af (aP bt (pv' 4) (dc0 bX hr.dn (pa3 (pv' 3) af (aP dB af (pv' 4))))))) (aH (pD rfl) (by rfl) T.Hz Cq (pa2 af (dc0 bX hr.dn (pa3 (pv' 3) af af)))))) (ah (az (bc (pa4 (pv' 1) (pv' 2) (pv' 4) (pv' 5)))))),?_⟩
  intro dl cl ds as ls c slow H1 s1 fd fc ndc hdl hsh hcl hT hlen hg h1 h5
  k_mem
  refine ⟨c,4,16,rfl,by omega,by omega,by omega,fun r4 h40 h41=>?_⟩
  k_mem
  split
  all_goals
   refine ⟨c,2,_,rfl,by omega,by omega,by omega,fun r2 h20 h21=>⟨by decide,fun p1 hp1=>⟨c,3,8,rfl,by omega,by omega,by omega,fun r3 h30 h31=>?_⟩⟩⟩
   k_mem
   refine ⟨_,SqL.of ag,_,Fo (by split<;>omega) (by split<;>omega),by decide,fun p2 hp2=>?_⟩
   refine q p2 dl cl ds as ls _ _ _ (s1.trans (((aq.refl H1).lay hp1).lay hp2)) (s1.free (upn hp2)) fd fc ndc ag (upo (upo hdl hp1) hp2) hsh (upo (upo hcl hp1) hp2) (hT.same (((aq.refl H1).lay hp1).lay hp2)) hlen hg ⟨by omega,?_,?_⟩
   ·(repeat' split)<;>omega
   ·(repeat' split)<;>omega
 refine ⟨_,ae (aD (i:=1) fD.nd rfl orL (dc0 wB hr.dn (pa1 (dc0 kj hr.dn (pa2 (pv' 0) af))))) (ae (aD (i:=2) fD.nd rfl orL (dc0 yU hr.dn (pa2 (dc0 kj hr.dn (pa2 (pv' 0) af)) (aH aw (by rfl) T.bN ba (pa1 (pv' 1)))))) (ae (aD (i:=3) fD.nd rfl orL (dc0 kj hr.dn (pa2 (pv' 0) af))) (ae (aD (i:=4) fD.nd rfl orL (aP bt af (dc0 bX hr.dn (pa3 (pv' 3) af (ao av (bc (pa2 af af)) (dc0 bX hr.dn (pa3 (pv' 3) af af))))))) h1))),?_⟩
 k_mem
 refine ⟨a,ns,1,rfl,hS,by omega,?_⟩
 k_mem
 refine ⟨_,rfl,fun dl ds H1 hdn s1 hdl hsh=>?_⟩
 have l2:=hsh.l2
 have l6:=hsh.l6
 k_mem
 refine ⟨a,ns,2,rfl,s1.seq hS,by omega,?_⟩
 k_mem
 refine ⟨_,.inl (SqL.of hdl),?_⟩
 rw [WB]
 refine ⟨_,_,rfl,by omega,by omega,fun cl as ls H2 hcn s2 hcl hT hlen hg=>?_⟩
 have ndc:dl≠cl:=ak hdl hcn
 k_mem
 refine ⟨a,ns,3,rfl,(s1.trans s2).seq hS,by omega,?_⟩
 k_mem
 refine ⟨by decide,fun p hp=>⟨_,0,2,rfl,by omega,by omega,by omega,fun r0 h00 h01=>?_⟩⟩
 have e0:∃m:Int,(m=30\/m=500)/\atI [V.int 30,V.int 500] r0=some (.int m):=IA (x:=30) (y:=500) (by omega)
 obtain ⟨m,hm,em⟩:=e0
 k_mem
 refine ⟨_,SqL.of ag,_,em,_,1,m,rfl,by omega,by omega,by omega,fun r1 h10 h11=>?_⟩
 k_mem
 have sx:=(aq.refl H2).lay (o:=HO.lst [V.int 30,V.int 500]) hp
 exact k1 dl cl ds as ls _ _ _ ((s1.trans s2).trans sx) hdn (s1.free hcn) ndc (sx _ _ (s2 _ _ hdl)) hsh (sx _ _ hcl) (hT.same sx) (by omega) hg (by omega) (by omega)
variable (yW:KD P w K mg base CX0 3 "_law_shaft" (qf K Z))
inductive jt (K:WA)(Z:Adr)(vs:List V)(H:Hp)(Q:VK)(E:XK):Prop | mk (p dl cl ll sl:Addr) (g:Cfg) (lds:List Ld) (n0:aM) (rs:List Row) (c:Int):vs=[.ref p,.ref sl,.int c]->dN K H p dl cl ll g lds->fR g->cZ g (ai n0 rs)->((∃as:List Addr,H sl=some (.lst (as.map V.ref))/\dE (iB K H) as (mj n0 rs)))->((∀dd d H',aq H H'->SqT K H' dd (ddV d)->vf d->eI g (ai n0 rs) d=none->Q (.ref dd) H'))->((rs≠[]->∀dd H',aq H H'->SqT K H' dd [.str "take back"]->Q (.ref dd) H'))->jt K Z vs H Q E
include T kS kT in
theorem wH:FF P w K mg base CX0 3 "_law_good_deed" "_law_good_deed" bV oW (jt K Z):=fk0 gf fun vs H Q E h=>by
 obtain ⟨p,dl,cl,ll,sl,g,lds,n0,rs,c,rfl,hP,hg,hn,⟨as,hsl,hA⟩,q,qb⟩:=h
 k_all
 obtain ⟨t4,h4,k4⟩:∃t,PSs (oq CX0 P w K mg base ["_law_setup_here","_law_states","_law_cell","_law_state","_law_rest","_law_level"] "_law_good_deed" (aj bV) zf zv zA zo zs H E).nox ((bH bV).drop 8) t/\∀(a:Addr) (lv:Int),iB K H a (ai n0 rs,cS rs)->0<=lv->lv < g.ds.length->t ({nx:=fun _ H2=>Q .non H2,rt:=Q}:gO) [some (.ref p),some (.ref sl),some (.int c),some (.ref a),some (.int (c / 12)),some (.int lv)] H:=by
  refine ⟨_,ah (az (ao av (bc (pa2 (aQ (pa2 aE (pv' 5))) (aQ (pa2 aE (pv' 5))))) (bg gw (by rfl) T.ua mG (pa1 (ao au (ao au (pv' 3) af) (pv' 5)))))),?_⟩
  intro a lv hSt v0 v1
  obtain ⟨gt,lt,ht,dt,h1,h2,h3,h4,h5⟩:=hSt.un
  have gl:=hn.gl
  k_mem
  refine ⟨by decide,fun p2 hp2=>⟨by decide,fun p3 hp3=>⟨by decide,fun p4 hp4=>?_⟩⟩⟩
  have f4:=(((aq.refl H).lay (o:=HO.tup [V.str (Str.ofString "open"),V.int lv]) hp2).lay (o:=HO.tup [V.str (Str.ofString "shut"),V.int lv]) hp3).lay (o:=HO.lst [V.ref p2,V.ref p3]) hp4
  have e2:upd (upd (upd H p2 (HO.tup [V.str (Str.ofString "open"),V.int lv])) p3 (HO.tup [V.str (Str.ofString "shut"),V.int lv])) p4 (HO.lst [V.ref p2,V.ref p3]) p2=some (HO.tup [V.str (Str.ofString "open"),V.int lv]):=upo (upo ag hp3) hp4
  have e3:upd (upd (upd H p2 (HO.tup [V.str (Str.ofString "open"),V.int lv])) p3 (HO.tup [V.str (Str.ofString "shut"),V.int lv])) p4 (HO.lst [V.ref p2,V.ref p3]) p3=some (HO.tup [V.str (Str.ofString "shut"),V.int lv]):=upo ag hp4
  have e4:upd (upd (upd H p2 (HO.tup [V.str (Str.ofString "open"),V.int lv])) p3 (HO.tup [V.str (Str.ofString "shut"),V.int lv])) p4 (HO.lst [V.ref p2,V.ref p3]) p4=some (HO.lst [V.ref p2,V.ref p3]):=ag
  generalize upd (upd (upd H p2 (HO.tup [V.str (Str.ofString "open"),V.int lv])) p3 (HO.tup [V.str (Str.ofString "shut"),V.int lv])) p4 (HO.lst [V.ref p2,V.ref p3])=H3 at *
  k_upd
  refine ⟨_,f4.tup h1,_,rfl,?_⟩
  k_mem
  refine ⟨_,f4.tup h2,_,jS v0 (by omega),?_⟩
  k_mem
  refine ⟨_,SqL.of e4,_,Eo,?_⟩
  by_cases hb:(ai n0 rs).gates.getD lv.toNat false=true
  ·rw [if_pos hb]
   k_upd
   exact q p3 (.sht lv) _ f4 (SqT.of e3) trivial (iX v0 v1 hb)
  ·rw [if_neg hb]
   k_upd
   exact q p2 (.opn lv) _ f4 (SqT.of e2) trivial (pC v0 v1 (by simpa using hb))
 obtain ⟨t3,h3,k3⟩:∃t,PSs (oq CX0 P w K mg base ["_law_setup_here","_law_states","_law_cell","_law_state","_law_rest","_law_level"] "_law_good_deed" (aj bV) zf zv zA zo zs H E).nox ((bH bV).drop 7) t/\∀(a:Addr) (lv:Int),iB K H a (ai n0 rs,cS rs)->0<=lv->lv < g.ds.length->t ({nx:=fun _ H2=>Q .non H2,rt:=Q}:gO) [some (.ref p),some (.ref sl),some (.int c),some (.ref a),some (.int (c / 12)),some (.int lv)] H:=by
  refine ⟨_,ae (aN (kZ (bQ (bY (pv' 2) af) af) (kZ (bQ (bY (pv' 4) af) af) (jy (A8 (aH aw (by rfl) T.bN ba (pa1 (pv' 1))) af)))).pt (ah (az (aQ (pa1 aE)))) (aC)) h4,?_⟩
  intro a lv hSt v0 v1
  obtain ⟨gt,lt,ht,dt,h1,h2,h3,h4,h5⟩:=hSt.un
  have hlen:=hA.1
  rw [yk] at hlen
  k_mem
  split
  ·split
   ·k_upd
    refine ⟨_,.inl (SqL.of hsl),?_⟩
    rw [WB]
    k_mem
    split
    ·rename_i hgt
     k_upd
     refine ⟨by decide,fun dd hdd=>?_⟩
     k_upd
     exact qb (fun z=>by rw [z] at hlen;simp only [List.length_nil] at hlen;omega) dd _ ((aq.refl H).lay hdd) (SqT.of ag)
    ·exact k4 a lv hSt v0 v1
   ·exact k4 a lv hSt v0 v1
  ·exact k4 a lv hSt v0 v1
 obtain ⟨t2,h2,k2⟩:∃t,PSs (oq CX0 P w K mg base ["_law_setup_here","_law_states","_law_cell","_law_state","_law_rest","_law_level"] "_law_good_deed" (aj bV) zf zv zA zo zs H E).nox ((bH bV).drop 6) t/\∀(a:Addr) (lv:Int),iB K H a (ai n0 rs,cS rs)->0<=lv->lv < g.ds.length->t ({nx:=fun _ H2=>Q .non H2,rt:=Q}:gO) [some (.ref p),some (.ref sl),some (.int c),some (.ref a),some (.int (c / 12)),some (.int lv)] H:=by
  refine ⟨_,ae (aN (kZ (bQ (bY (pv' 2) af) af) (jy (bQ (ao au (ao au (pv' 3) af) af) aE))).pt (ah (az (aQ (pa2 aE (aP bt af (bY (pv' 4) af)))))) (aC)) h3,?_⟩
  intro a lv hSt v0 v1
  obtain ⟨gt,lt,ht,dt,h1,h2,h3,h4,h5⟩:=hSt.un
  k_mem
  split
  ·k_upd
   refine ⟨_,h1,_,rfl,?_⟩
   k_mem
   rcases Md (ai n0 rs).e with ⟨l,rr,he⟩ | ⟨l,rr,he⟩ | ⟨w1,w2,w3,w4,he,na,nb⟩
   ·rw [he] at h4
    k_upd
    refine ⟨_,h4,_,rfl,?_⟩
    k_mem
    rw [if_pos rfl]
    k_upd
    refine ⟨by decide,fun dd hdd=>?_⟩
    k_upd
    exact q dd (.rept _) _ ((aq.refl H).lay hdd) (SqT.of ag) trivial (mO he (by omega) (by omega))
   ·rw [he] at h4
    k_upd
    refine ⟨_,h4,_,rfl,?_⟩
    k_mem
    rw [if_neg (by decide)]
    exact k3 a lv hSt v0 v1
   ·rw [he] at h4
    k_upd
    refine ⟨_,h4,_,rfl,?_⟩
    k_mem
    rw [if_neg na]
    exact k3 a lv hSt v0 v1
  ·exact k3 a lv hSt v0 v1
 obtain ⟨t1,h1,k1⟩:∃t,PSs (oq CX0 P w K mg base ["_law_setup_here","_law_states","_law_cell","_law_state","_law_rest","_law_level"] "_law_good_deed" (aj bV) zf zv zA zo zs H E).nox ((bH bV).drop 5) t/\∀(a:Addr) (lv:Int),iB K H a (ai n0 rs,cS rs)->0<=lv->lv < g.ds.length->t ({nx:=fun _ H2=>Q .non H2,rt:=Q}:gO) [some (.ref p),some (.ref sl),some (.int c),some (.ref a),some (.int (c / 12)),some (.int lv)] H:=by
  refine ⟨_,ae (aN (kZ (bQ (bY (pv' 2) af) af) (jy (dk gF (pv' 5) (ao au (pv' 3) af) (by rfl)))).pt (ah (az (ao av (bc (pa2 (aQ (pa3 aE (pv' 5) (ao au (ao av (ao av (pv' 0) af) (pv' 5)) (bY (eU (pv' 4) af) af)))) (aQ (pa2 aE (pv' 5))))) (bg gw (by rfl) T.ua mG (pa1 (cG fT (bY (pv' 4) af) af (bL _))))))) (aC)) h2,?_⟩
  intro a lv hSt v0 v1
  obtain ⟨gt,lt,ht,dt,h1,h2,h3,h4,h5⟩:=hSt.un
  obtain ⟨hp,hdl,⟨bs,hcl,hT⟩,_,_⟩:=id hP
  have gl:=hn.gl
  have fl:=hn.fl
  have ed:inV (V.int lv) ((cO (ai n0 rs).fs).map V.int)=(ai n0 rs).fs.getD lv.toNat false:=by
   rw [nZ,Bool.eq_iff_iff,decide_eq_true_eq,iM]
   k_upd
   exact ⟨fun z=>z.2.2,fun z=>⟨v0,by omega,z⟩⟩
  k_mem
  split
  ·k_upd
   refine ⟨_,h1,_,rfl,?_⟩
   k_mem
   refine ⟨_,.inr h5,rfl,by simp [bO],?_⟩
   rw [ed]
   k_mem
   split
   ·rename_i hf
    obtain ⟨ra,era,hra⟩:=lA hT v0 (by rw [hg.lc];exact v1)
    k_upd
    refine ⟨_,SqL.of hp,_,rfl,?_⟩
    k_mem
    refine ⟨_,SqL.of hcl,_,era,?_⟩
    k_mem
    refine ⟨_,hra,_,two_deep (by omega) (by omega),?_⟩
    generalize hcd:(if c / 12 / 6 % 2=0 then (eM g.ls lv).fst else (eM g.ls lv).snd)=cd
    have hcd':cd=(eM g.ls lv).1\/cd=(eM g.ls lv).2:=by
     rw [←hcd]
     k_upd
     split
     ·exact .inl rfl
     ·exact .inr rfl
    k_upd
    refine ⟨by decide,fun p2 hp2=>⟨by decide,fun p3 hp3=>⟨by decide,fun p4 hp4=>?_⟩⟩⟩
    have f4:=(((aq.refl H).lay (o:=HO.tup [V.str (Str.ofString "ring"),V.int lv,V.int cd]) hp2).lay (o:=HO.tup [V.str (Str.ofString "fail"),V.int lv]) hp3).lay (o:=HO.lst [V.ref p2,V.ref p3]) hp4
    k_upd
    refine ⟨_,SqL.of ag,_,Eo,?_⟩
    by_cases hb:c / 12 % 5=4
    ·rw [if_pos (decide_eq_true hb)]
     k_upd
     exact q p3 (.fail lv) _ f4 (SqT.of (upo ag hp4)) trivial (A2 v0 v1 hf)
    ·rw [if_neg (by simpa using hb)]
     k_upd
     exact q p2 (.ring lv cd) _ f4 (SqT.of (upo (upo ag hp3) hp4)) trivial (mM v0 v1 hf hcd')
   ·exact k2 a lv hSt v0 v1
  ·exact k2 a lv hSt v0 v1
 refine seg 4 (ae (aN (qG (bY (pv' 2) af) af) (ah (az (dc0 kT hr.dn (pa3 (pv' 0) (pv' 3) (pv' 4))))) (aC)) h1) fun zt4 zh4 ze4=>?_
 refine seg 3 (ae (aN (qG (bY (pv' 2) af) af) (ah (az (dc0 kS hr.dn (pa3 (pv' 0) (pv' 3) (pv' 4))))) (aC)) zh4) fun zt3 zh3 ze3=>?_
 refine seg 2 (ae (aD (i:=5) gf.nd rfl orL (aP lE (pv' 4) (aH aw (by rfl) T.bN ba (pa1 (ao av (pv' 0) af))))) zh3) fun zt2 zh2 ze2=>?_
 refine seg 1 (ae (aD (i:=4) gf.nd rfl orL (eU (pv' 2) af)) zh2) fun zt1 zh1 ze1=>?_
 refine ⟨_,ae (aD (i:=3) gf.nd rfl orL (ao av (pv' 1) (gJ dj af))) zh1,?_⟩
 obtain ⟨as1,a,rfl,hSt⟩:=vm hA
 obtain ⟨hp,hdl,_,_,_⟩:=id hP
 have l2:=hg.sh.l2
 k_mem
 refine ⟨_,SqL.of hsl,_,jE,?_⟩
 k_mem
 refine ⟨_,SqL.of hp,_,rfl,?_⟩
 k_mem
 refine ⟨_,.inl (SqL.of hdl),by rw [WB];omega,?_⟩
 rw [WB]
 have v0:0<=c / 12 % (g.ds.length:Int):=Int.emod_nonneg _ (by omega)
 have v1:c / 12 % (g.ds.length:Int) < (g.ds.length:Int):=Int.emod_lt_of_pos _ (by omega)
 generalize c / 12 % (g.ds.length:Int)=lv at *
 k_mem
 split
 ·k_upd
  refine ⟨p,dl,cl,ll,a,g,lds,_,_,_,rfl,hP,hg,hn,hSt,fun dd d H1 s1 hd ok hr=>?_⟩
  k_upd
  exact q dd d H1 s1 hd ok hr
 k_upd
 split
 ·k_upd
  refine ⟨p,dl,cl,ll,a,g,lds,_,_,_,rfl,hP,hg,hn,hSt,fun dd d H1 s1 hd ok hr=>?_⟩
  k_upd
  exact q dd d H1 s1 hd ok hr
 exact k1 a lv hSt v0 v1
variable (pA:KD P w K mg base CX0 3 "_law_good_deed" (jt K Z))
inductive gD (K:WA)(Z:Adr)(vs:List V)(H:Hp)(Q:VK)(E:XK):Prop | mk (s rl:Addr) (g:Cfg) (n:aM) (ys:List V):vs=[.ref s]->eB (clZ Z) K H rl g s n->H rl=some (.lst ys)->g.ls.length<=1000->(∀(s':Addr) (A:SA) (H':Hp),aq H H'->H s'=none->H A.ol=none->H A.b=none->H A.fl=none->H A.y=none->H A.wh=none->aU (clZ Z) K H' rl g s' A n->Q (.ref s') H')->gD K Z vs H Q E
include T fA ug rG in
theorem tH:FF P w K mg base CX0 4 "twin" "Standing.twin" gW mr (gD K Z):=fk0 sP fun vs H Q E h=>by
 obtain ⟨s0,rl,g,n,ys,rfl,⟨A0,hA⟩,hrl,hls,q⟩:=h
 k_all
 refine ⟨_,ah (az (dn fA hr.dn T.v3 aY (pa4 (ax (pv' 0)) (ax (pv' 0)) (dw (ax (pv' 0)) rG hr.dn aY) (dw (ax (pv' 0)) ug hr.dn aY)))),?_⟩
 k_mem
 refine fgo hA.ob T.aK T.cJ rfl (fgo hA.ob T.aK T.ck rfl (fgo hA.ob T.aK T.bS rfl ?_))
 k_mem
 obtain ⟨db,hbb⟩:=hA.be.ob
 obtain ⟨dy,hyb⟩:=hA.ya.ob
 k_upd
 refine mgo hbb rfl ⟨_,_,_,_,_,_,_,rfl,hA.be,hls,fun b1 cs1 fl1 H1 hb1 hc1 hf1 s1 hB1=>?_⟩
 k_upd
 refine fgo (s1 _ _ hA.ob) T.aK T.bE rfl ?_
 k_mem
 refine mgo (s1 _ _ hyb) rfl ⟨_,_,_,_,_,_,rfl,hA.ya.same s1,fun y2 kn2 wh2 H2 hy2 hk2 hw2 nkw s2 hY2=>?_⟩
 refine fun x dx hx hdx nxd=>?_
 have s12:=s1.trans s2
 have hx':upd H2 dx (.own x) x=none:=by rw [aJ (Ne.symm nxd)];exact hx
 k_upd
 refine ⟨x,dx,A0.ol,b1,y2,n.place,n.gates,rfl,ag,(((aq.refl H2).lay hdx).lay hx').seq (SqL.of (s12 _ _ hA.go)),fun ol H3 hol kp hob3 hol3=>⟨rfl,?_⟩⟩
 have s3:=gM hx hdx kp
 have holn:=fQ hol
 obtain ⟨_,⟨as1,oc1,_⟩,of1,_⟩:=id hB1
 obtain ⟨_,okn2,owh2⟩:=id hY2
 have cs2:=s2 _ _ oc1
 have fl2:=s2 _ _ of1
 refine q x ⟨dx,ol,b1,cs1,fl1,A0.st,y2,kn2,wh2⟩ H3 (s12.trans s3) (s12.free hx) (s12.free holn) hb1 hf1 (s1.free hy2) (s1.free hw2) ⟨hob3,hol3,(hB1.same s2).same s3,hY2.same s3,⟨?_,?_,?_,?_,?_,?_,?_,?_,?_,?_,?_,?_,?_,?_,?_,?_⟩,⟨(hA.nn.same (s12.trans s3)).al,hA.nn.nr,?_,?_,?_,?_,?_⟩⟩
 ·exact (ak hrl (s12.free holn)).symm
 ·exact (ak hrl hc1).symm
 ·exact (ak hrl hf1).symm
 ·exact (ak hrl (s1.free hk2)).symm
 ·exact (ak hrl (s1.free hw2)).symm
 ·exact ak cs2 holn
 ·exact ak fl2 holn
 ·exact ak okn2 holn
 ·exact ak owh2 holn
 ·exact (ak fl2 holn).symm
 ·exact (ak of1 hk2).symm
 ·exact (ak of1 hw2).symm
 ·exact (ak owh2 holn).symm
 ·exact ak oc1 hw2
 ·exact ak of1 hw2
 ·exact nkw
 all_goals
  intro q hq
  obtain ⟨us,hu⟩:=hA.nn.al q hq
 ·exact (ak hu (s12.free holn)).symm
 ·exact (ak hu hc1).symm
 ·exact (ak hu hf1).symm
 ·exact (ak hu (s1.free hk2)).symm
 ·exact (ak hu (s1.free hw2)).symm
variable (aW:KM P w K mg base CX0 4 Z.dU "twin" (gD K Z))
inductive ju (K:WA)(Z:Adr)(vs:List V)(H:Hp)(Q:VK)(E:XK):Prop | mk (w bk rl:Addr) (g:Cfg) (n0:aM) (rs:List Row):vs=[.ref w]->WAt (clZ Z) K H w bk rl g n0 rs->0 < g.ds.length->(∀p,H p=none->Q (.ref p) (upd H p (.tup [.int (ai n0 rs).place,.int (cu g.ds - (ai n0 rs).place)])))->ju K Z vs H Q E
include T aI iu in
theorem wI:FF P w K mg base CX0 4 "cages" "Works.cages" j8 oU (ju K Z):=fk0 vJ fun vs H Q E h=>by
 obtain ⟨w,bk,rl,g,n0,rs,rfl,hW,hn,q⟩:=h
 k_all
 refine ⟨_,ah (az (dm' (pv' 0) iu hr.dn aY (pa1 (ax (dw (ax (pv' 0)) aI hr.dn aY))))),?_⟩
 obtain ⟨⟨dx,dl,gl,hob,hdl,hgl,n1,n2⟩,hB⟩:=id hW
 obtain ⟨⟨db,f0,hbo,hF⟩,as,hrl,hR⟩:=id hB
 k_mem
 refine mgo hob rfl (fgo hob T.aV T.aS rfl ?_)
 k_mem
 refine mgo hbo rfl ⟨_,_,_,_,_,rfl,hB,fun s0 ⟨A,hA⟩=>?_⟩
 k_mem
 refine fgo hA.ob T.aK T.cJ rfl ?_
 k_upd
 exact ⟨_,_,_,_,_,_,_,rfl,hW,hn,q⟩
variable (gI:KM P w K mg base CX0 4 Z.bq "cages" (ju K Z))
inductive gp (K:WA)(Z:Adr)(vs:List V)(H:Hp)(Q:VK)(E:XK):Prop | mk (w bk rl:Addr) (g:Cfg) (n0:aM) (rs:List Row) (lv:Int):vs=[.ref w,.int lv]->WAt (clZ Z) K H w bk rl g n0 rs->(ai n0 rs).ws.length<=1000->((0<=lv/\lv < g.ds.length->∀p H',H p=none->aq H H'->H' p=some (.lst ((iW (ai n0 rs).ws lv).map V.int))->Q (.ref p) H'))->((¬(0<=lv/\lv < g.ds.length)->E (.ref Z.aF) none H))->gp K Z vs H Q E
include T aI mx in
theorem rJ:FF P w K mg base (CXf P w) 4 "at_level" "Works.at_level" gy kI (gp K Z):=fkF rg fun vs H Q E h=>by
 obtain ⟨w,bk,rl,g,n0,rs,lv,rfl,hW,hn,q1,q2⟩:=h
 k_all
 refine ⟨_,ah (az (dm' (ax (dw (ax (pv' 0)) aI hr.dn aY)) mx hr.dn bG (pa1 (pv' 1)))),?_⟩
 obtain ⟨⟨dx,dl,gl,hob,hdl,hgl,n1,n2⟩,hB⟩:=id hW
 obtain ⟨⟨db,f0,hbo,hF⟩,as,hrl,hR⟩:=id hB
 k_mem
 refine fgo hob T.aV T.aS rfl ?_
 k_mem
 refine mgo hbo rfl ⟨_,_,_,_,_,rfl,hB,fun s0 ⟨A,hA⟩=>?_⟩
 k_mem
 refine fgo hA.ob T.aK T.bE rfl ?_
 k_mem
 obtain ⟨dy,hyb⟩:=hA.ya.ob
 k_upd
 exact ⟨_,_,hyb,rfl,_,_,_,_,_,_,_,rfl,hA.ya,hn,q1,q2⟩
variable (kU:KM P w K mg base (CXf P w) 4 Z.bq "at_level" (gp K Z))
inductive qg (K:WA)(Z:Adr)(vs:List V)(H:Hp)(Q:VK)(E:XK):Prop | mk (a:Addr) (ns:List Int) (mo:Int):vs=[.ref a,.int mo]->SqL K H a (ns.map V.int)->0<=mo->mo<=30->(∀(p dl cl ll:Addr) (ds:List Int) (ls:List Cd) (slow fast:Int) (lds:List Ld) (H':Hp),aq H H'->H p=none->H dl=none->H cl=none->H ll=none->dN K H' p dl cl ll (dS ds ls slow fast lds fun _=>False) lds->cf ds->ls.length=ds.length->(∀x∈ls,eL x)->(1<=slow/\slow<=fast/\fast<=500)->(lds.length:Int)<=mo->(∀x∈lds,iU (ds.length:Nat) x/\Cu x)->Q (.ref p) H')->qg K Z vs H Q E
include T kj yV yW in
theorem DD:FF P w K mg base CX0 4 "_law_setup" "_law_setup" sV yA (qg K Z):=fk0 je fun vs H Q E h=>by
 obtain ⟨a,ns,mo,rfl,hS,h0,h1,q⟩:=h
 k_all
 refine seg 1 (ah (az (bc (cV (pv' 2) (pa4 (pv' 3) (pv' 4) (pv' 5) (dc0 yV hr.dn (pa3 (dc0 kj hr.dn (pa2 (pv' 0) af)) (aH aw (by rfl) T.bN ba (pa1 (pv' 2))) (pv' 1)))))))) fun zt1 zh1 ze1=>?_
 refine ⟨_,ae (gP (dc0 yW hr.dn (pa1 (pv' 0))) (zG rfl (aG (aB (i:=2) je.nd rfl orL) (aG (aB (i:=3) je.nd rfl orL) (aG (aB (i:=4) je.nd rfl orL) (aG (aB (i:=5) je.nd rfl orL) cM)))))) zh1,?_⟩
 k_mem
 refine ⟨a,ns,rfl,hS,fun p dl cl ds as ls slow fast H1 s1 hpn hdn hcn ndc hp hdl hsh hcl hT hlen hg hsp=>?_⟩
 have l2:=hsh.l2
 have l6:=hsh.l6
 k_mem
 refine ⟨_,SqL.of hp,rfl,?_⟩
 k_mem
 refine ⟨a,ns,4,rfl,s1.seq hS,by omega,?_⟩
 k_mem
 refine ⟨_,.inl (SqL.of hdl),?_⟩
 rw [WB]
 k_upd
 refine ⟨_,_,_,rfl,by omega,h0,by omega,fun ll bs lds H2 hln s2 hll hT2 hlen2 hk=>?_⟩
 k_mem
 refine ⟨by decide,fun p5 hp5=>?_⟩
 have s3:=s2.lay (o:=HO.lst [V.ref dl,V.ref cl,V.int slow,V.int fast,V.ref ll]) hp5
 have s23:=(aq.refl H2).lay (o:=HO.lst [V.ref dl,V.ref cl,V.int slow,V.int fast,V.ref ll]) hp5
 k_upd
 exact q p5 dl cl ll ds ls slow fast lds _ (s1.trans s3) (s1.free (s2.free hp5)) hdn hcn (s1.free hln) ⟨ag,s3 _ _ hdl,⟨as,s3 _ _ hcl,hT.same s3⟩,⟨bs,s23 _ _ hll,hT2.same s23⟩,rfl⟩ hsh hlen hg hsp hlen2 hk
variable (om:KD P w K mg base CX0 4 "_law_setup" (qg K Z))
inductive kz (K:WA)(Z:Adr)(vs:List V)(H:Hp)(Q:VK)(E:XK):Prop | mk (w bk rl:Addr) (g:Cfg) (n0:aM) (rs:List Row) (lv s:Int):vs=[.ref w,.int lv,.int s]->WAt (clZ Z) K H w bk rl g n0 rs->g.ls.length<=1000->g.ks.length=(ai n0 rs).ws.length->((¬(0<=lv/\lv < g.ls.length)->∀H',aq H H'->E (.ref Z.aF) none H'))->((0<=lv->lv < g.ls.length->(ai n0 rs).fs.getD lv.toNat false=true->∀H',aq H H'->E (.ref Z.fq) none H'))->((0<=lv->lv < g.ls.length->(ai n0 rs).fs.getD lv.toNat false=false->¬(s=(eM g.ls lv).1\/s=(eM g.ls lv).2)->∀H',aq H H'->E (.ref Z.g0) none H'))->((0<=lv->lv < g.ls.length->(ai n0 rs).fs.getD lv.toNat false=false->(s=(eM g.ls lv).1\/s=(eM g.ls lv).2)->ui Z K H w bk rl g n0 rs (.ring lv s) Q E))->kz K Z vs H Q E
include T aI rE bA aW in
theorem xN:FF P w K mg base (CXf P w) 5 "ring" "Works.ring" lT qS (kz K Z):=fkF oZ fun vs H Q E h=>by
 obtain ⟨w,bk,rl,g,n0,rs,lv,s,rfl,hW,hls,hks,q1,q2,q3,q4⟩:=h
 k_all
 refine seg 2 (ah (az (dm' (pv' 0) bA hr.dn bG (pa3 (aQ (pa3 aE (pv' 1) (pv' 2))) af (pv' 3))))) fun zt2 zh2 ze2=>?_
 refine seg 1 (ae (bb (dm' (ax (pv' 3)) rE hr.dn bG (pa2 (pv' 1) (pv' 2)))) zh2) fun zt1 zh1 ze1=>?_
 refine ⟨_,ae (aD (i:=3) oZ.nd rfl orL (dw (dw (ax (pv' 0)) aI hr.dn aY) aW hr.dn aY)) zh1,?_⟩
 obtain ⟨⟨dx,dl,gl,hob,hdl,hgl,n1,n2⟩,hB⟩:=id hW
 obtain ⟨⟨db,f0,hbo,hF⟩,as,hrl,hR⟩:=id hB
 k_mem
 refine fgo hob T.aV T.aS rfl ?_
 k_mem
 refine mgo hbo rfl ⟨_,_,_,_,_,rfl,hB,fun s0 ⟨A0,hA0⟩=>?_⟩
 k_mem
 refine mgo hA0.ob rfl ⟨_,_,_,_,_,rfl,hA0.at,hrl,hls,fun s1 A H1 e1 hs1 ho1 hb1 hf1 hy1 hw1 hA=>?_⟩
 have hW1:=hW.same e1
 have hob1:=e1 _ _ hob
 have hbo1:=e1 _ _ hbo
 have hrl1:=e1 _ _ hrl
 have hdl1:=e1 _ _ hdl
 k_mem
 refine fgo hA.ob T.aK T.bS rfl ?_
 k_mem
 obtain ⟨db1,hbb⟩:=hA.be.ob
 k_upd
 refine mgo hbb rfl ⟨_,_,_,_,_,_,_,_,_,rfl,hA.be,fun h=>q1 h _ e1,fun h h' h2=>q2 h h' h2 _ e1,fun h h' h2 h4=>q3 h h' h2 h4 _ e1,fun h h' h2 h4 st2 H2 k2 hB2=>?_⟩
 have h3:=q4 h h' h2 h4
 have e2:=e1.keeps k2 hb1
 have hA2:=hA.bells k2 hB2
 clear k2 hB2
 k_mem
 refine ⟨_,_,e2 _ _ hob,rfl,by decide,fun p hp=>?_⟩
 have e3:=e2.lay (o:=HO.tup [V.str (Str.ofString "ring"),V.int lv,V.int s]) hp
 have f3:=(aq.refl H2).lay (o:=HO.tup [V.str (Str.ofString "ring"),V.int lv,V.int s]) hp
 k_upd
 refine ⟨_,_,_,_,_,_,p,s1,1,ddV (.ring lv s),cv g (ai n0 rs) (.ring lv s),rfl,hW.same e3,SqT.of (by rw [ag];rfl),?_,?_,fun h H' s'=>h3.1 h H' (e3.trans s'),fun h H' k hWn=>?_⟩
 ·exact (aU.at hA2).same f3
 ·rw [hks];first | rfl | simp only [cv,List.length_set]
 ·k_upd
  exact h3.2 h H' ((aA.of e3).trans k) hWn
variable (rK:KM P w K mg base (CXf P w) 5 Z.bq "ring" (kz K Z))
inductive ij (K:WA)(Z:Adr)(vs:List V)(H:Hp)(Q:VK)(E:XK):Prop | mk (w bk rl:Addr) (g:Cfg) (n0:aM) (rs:List Row) (s:Int):vs=[.ref w,.int s]->WAt (clZ Z) K H w bk rl g n0 rs->g.ls.length<=1000->g.ks.length=(ai n0 rs).ws.length->(((∀l r,(ai n0 rs).e≠.wait l r)->∀H',aq H H'->E (.ref Z.cQ) none H'))->((∀l r,(ai n0 rs).e=.wait l r->¬(1<=s/\s<=9)->∀H',aq H H'->E (.ref Z.g0) none H'))->((∀l r,(ai n0 rs).e=.wait l r->(1<=s/\s<=9)->(300<=rs.length->∀H',aq H H'->E (.ref Z.eP) none H')/\(rs.length < 300->∀p H',aA rl H H'->WAt (clZ Z) K H' w bk rl g n0 (rs++[mi g n0 rs (.rept s)])->SqT K H' p [.bl (decide (s=r)),.int r,.int s]->Q (.ref p) H')))->ij K Z vs H Q E
include T aI nQ bA aW in
theorem uD:FF P w K mg base (CXf P w) 5 "repeat" "Works.repeat" i9 mX (ij K Z):=fkF gX fun vs H Q E h=>by
 obtain ⟨w,bk,rl,g,n0,rs,s,rfl,hW,hls,hks,q1,q2,q3⟩:=h
 k_all
 refine seg 3 (ah (az (pv' 3))) fun zt3 zh3 ze3=>?_
 refine seg 2 (ae (bb (dm' (pv' 0) bA hr.dn bG (pa3 (aQ (pa2 aE (pv' 1))) af (pv' 2)))) zh3) fun zt2 zh2 ze2=>?_
 refine seg 1 (ae (aD (i:=3) gX.nd rfl orL (dm' (ax (pv' 2)) nQ hr.dn bG (pa1 (pv' 1)))) zh2) fun zt1 zh1 ze1=>?_
 refine ⟨_,ae (aD (i:=2) gX.nd rfl orL (dw (dw (ax (pv' 0)) aI hr.dn aY) aW hr.dn aY)) zh1,?_⟩
 obtain ⟨⟨dx,dl,gl,hob,hdl,hgl,n1,n2⟩,hB⟩:=id hW
 obtain ⟨⟨db,f0,hbo,hF⟩,as,hrl,hR⟩:=id hB
 k_mem
 refine fgo hob T.aV T.aS rfl ?_
 k_mem
 refine mgo hbo rfl ⟨_,_,_,_,_,rfl,hB,fun s0 ⟨A0,hA0⟩=>?_⟩
 k_mem
 refine mgo hA0.ob rfl ⟨_,_,_,_,_,rfl,hA0.at,hrl,hls,fun s1 A H1 e1 hs1 ho1 hb1 hf1 hy1 hw1 hA=>?_⟩
 have hW1:=hW.same e1
 have hob1:=e1 _ _ hob
 have hbo1:=e1 _ _ hbo
 have hrl1:=e1 _ _ hrl
 have hdl1:=e1 _ _ hdl
 k_mem
 refine fgo hA.ob T.aK T.bS rfl ?_
 k_mem
 obtain ⟨db1,hbb⟩:=hA.be.ob
 k_upd
 refine mgo hbb rfl ⟨_,_,_,_,_,_,_,_,rfl,hA.be,fun h=>q1 h _ e1,fun l r h h'=>q2 l r h h' _ e1,fun l r h h' st2 p2 H2 hp2 k2 hB2 hT2=>?_⟩
 have h3:=q3 l r h h'
 have e2:=e1.keeps k2 hb1
 have hA2:aU (clZ Z) K H2 rl g s1 {A with st:=st2} (cv g (ai n0 rs) (.rept s)):=by
  have:=hA.bells k2 hB2
  have e0:cv g (ai n0 rs) (.rept s)={(ai n0 rs) with e:=(if s=r then Eng.armed l r else Eng.other l r s)}:=by
   show aM.mk _ _ _ (vg g (ai n0 rs) (.rept s)) _=_
   rw [show vg g (ai n0 rs) (.rept s)=(if s=r then Eng.armed l r else Eng.other l r s) from by simp only [vg,h]]
  rw [e0]
  exact this
 clear k2 hB2
 k_mem
 refine ⟨_,_,e2 _ _ hob,rfl,by decide,fun p hp=>?_⟩
 have e3:=e2.lay (o:=HO.tup [V.str (Str.ofString "repeat"),V.int s]) hp
 have f3:=(aq.refl H2).lay (o:=HO.tup [V.str (Str.ofString "repeat"),V.int s]) hp
 k_upd
 refine ⟨_,_,_,_,_,_,p,s1,1,ddV (.rept s),cv g (ai n0 rs) (.rept s),rfl,hW.same e3,SqT.of (by rw [ag];rfl),?_,?_,fun h H' s'=>h3.1 h H' (e3.trans s'),fun h H' k hWn=>?_⟩
 ·exact (aU.at hA2).same f3
 ·rw [hks];first | rfl | simp only [cv,List.length_set]
 ·k_upd
  exact h3.2 h _ H' ((aA.of e3).trans k) hWn ((f3.tup hT2).keep k (e3 _ _ hrl))
variable (nW:KM P w K mg base (CXf P w) 5 Z.bq "repeat" (ij K Z))
inductive kA (K:WA)(Z:Adr)(vs:List V)(H:Hp)(Q:VK)(E:XK):Prop | mk (w bk rl:Addr) (g:Cfg) (n0:aM) (rs:List Row) (lv:Int):vs=[.ref w,.int lv]->WAt (clZ Z) K H w bk rl g n0 rs->g.ls.length<=1000->g.ks.length=(ai n0 rs).ws.length->((¬(0<=lv/\lv < g.ls.length)->∀H',aq H H'->E (.ref Z.aF) none H'))->((0<=lv->lv < g.ls.length->(ai n0 rs).fs.getD lv.toNat false=true->∀H',aq H H'->E (.ref Z.dG) none H'))->((0<=lv->lv < g.ls.length->(ai n0 rs).fs.getD lv.toNat false=false->ui Z K H w bk rl g n0 rs (.fail lv) Q E))->kA K Z vs H Q E
include T aI rF bA aW in
theorem xO:FF P w K mg base (CXf P w) 5 "fail" "Works.fail" lU qT (kA K Z):=fkF o6 fun vs H Q E h=>by
 obtain ⟨w,bk,rl,g,n0,rs,lv,rfl,hW,hls,hks,q1,q2,q3⟩:=h
 k_all
 refine seg 2 (ah (az (dm' (pv' 0) bA hr.dn bG (pa3 (aQ (pa2 aE (pv' 1))) af (pv' 2))))) fun zt2 zh2 ze2=>?_
 refine seg 1 (ae (bb (dm' (ax (pv' 2)) rF hr.dn bG (pa1 (pv' 1)))) zh2) fun zt1 zh1 ze1=>?_
 refine ⟨_,ae (aD (i:=2) o6.nd rfl orL (dw (dw (ax (pv' 0)) aI hr.dn aY) aW hr.dn aY)) zh1,?_⟩
 obtain ⟨⟨dx,dl,gl,hob,hdl,hgl,n1,n2⟩,hB⟩:=id hW
 obtain ⟨⟨db,f0,hbo,hF⟩,as,hrl,hR⟩:=id hB
 k_mem
 refine fgo hob T.aV T.aS rfl ?_
 k_mem
 refine mgo hbo rfl ⟨_,_,_,_,_,rfl,hB,fun s0 ⟨A0,hA0⟩=>?_⟩
 k_mem
 refine mgo hA0.ob rfl ⟨_,_,_,_,_,rfl,hA0.at,hrl,hls,fun s1 A H1 e1 hs1 ho1 hb1 hf1 hy1 hw1 hA=>?_⟩
 have hW1:=hW.same e1
 have hob1:=e1 _ _ hob
 have hbo1:=e1 _ _ hbo
 have hrl1:=e1 _ _ hrl
 have hdl1:=e1 _ _ hdl
 k_mem
 refine fgo hA.ob T.aK T.bS rfl ?_
 k_mem
 obtain ⟨db1,hbb⟩:=hA.be.ob
 k_upd
 refine mgo hbb rfl ⟨_,_,_,_,_,_,_,_,rfl,hA.be,fun h=>q1 h _ e1,fun h h' h2=>q2 h h' h2 _ e1,fun h h' h2 H2 k2 hB2=>?_⟩
 have h3:=q3 h h' h2
 have e2:=e1.keeps k2 hf1
 have hA2:=hA.fail k2 hB2 (List.length_set ..)
 clear k2 hB2
 k_mem
 refine ⟨_,_,e2 _ _ hob,rfl,by decide,fun p hp=>?_⟩
 have e3:=e2.lay (o:=HO.tup [V.str (Str.ofString "fail"),V.int lv]) hp
 have f3:=(aq.refl H2).lay (o:=HO.tup [V.str (Str.ofString "fail"),V.int lv]) hp
 k_upd
 refine ⟨_,_,_,_,_,_,p,s1,1,ddV (.fail lv),cv g (ai n0 rs) (.fail lv),rfl,hW.same e3,SqT.of (by rw [ag];rfl),?_,?_,fun h H' s'=>h3.1 h H' (e3.trans s'),fun h H' k hWn=>?_⟩
 ·exact (aU.at hA2).same f3
 ·rw [hks];first | rfl | simp only [cv,List.length_set]
 ·k_upd
  exact h3.2 h H' ((aA.of e3).trans k) hWn
variable (rL:KM P w K mg base (CXf P w) 5 Z.bq "fail" (kA K Z))
inductive fH (K:WA)(Z:Adr)(vs:List V)(H:Hp)(Q:VK)(E:XK):Prop | mk (w bk rl:Addr) (g:Cfg) (n0:aM) (rs:List Row) (wd:Str) (lv:Int) (b:Bool) (d:Dd):vs=[.ref w,.str wd,.int lv,.bl b]->WAt (clZ Z) K H w bk rl g n0 rs->g.ls.length<=1000->g.ks.length=(ai n0 rs).ws.length->(ai n0 rs).gates.length=g.ds.length->(((wd="open"/\b=true/\d=.opn lv)\/(wd="shut"/\b=false/\d=.sht lv)))->((¬(0<=lv/\lv < g.ds.length)->∀H',aq H H'->E (.ref Z.aF) none H'))->((0<=lv->lv < g.ds.length->(ai n0 rs).gates.getD lv.toNat false=b->∀H',aq H H'->E (.ref Z.dG) none H'))->((0<=lv->lv < g.ds.length->(ai n0 rs).gates.getD lv.toNat false=!b->ui Z K H w bk rl g n0 rs d Q E))->fH K Z vs H Q E
include T aI bz bA aW in
theorem qh:FF P w K mg base (CXf P w) 5 "turn_gate" "Works.turn_gate" fY jI (fH K Z):=fkF ja fun vs H Q E h=>by
 obtain ⟨w,bk,rl,g,n0,rs,wd,lv,b,d,rfl,hW,hls,hks,hgl2,hd,q1,q2,q3⟩:=h
 k_all
 refine seg 4 (ah (az (dm' (pv' 0) bA hr.dn bG (pa3 (aQ (pa2 (pv' 1) (pv' 2))) af (pv' 4))))) fun zt4 zh4 ze4=>?_
 refine seg 3 (ae (gP (pv' 3) (rT (ax (pv' 4)) (pv' 2) iO)) zh4) fun zt3 zh3 ze3=>?_
 refine seg 2 (ae (aN (bQ (ao av (ax (pv' 4)) (pv' 2)) (pv' 3)) (ah (bh T.wa (by rfl) T.vX (pa1 aE))) (aC)) zh3) fun zt2 zh2 ze2=>?_
 refine seg 1 (ae (bb (dc bz hr.dn bG (pa2 (pv' 2) (aH aw (by rfl) T.bN ba (pa1 (ax (pv' 0))))))) zh2) fun zt1 zh1 ze1=>?_
 refine ⟨_,ae (aD (i:=4) ja.nd rfl orL (dw (dw (ax (pv' 0)) aI hr.dn aY) aW hr.dn aY)) zh1,?_⟩
 obtain ⟨⟨dx,dl,gl,hob,hdl,hgl,n1,n2⟩,hB⟩:=id hW
 obtain ⟨⟨db,f0,hbo,hF⟩,as,hrl,hR⟩:=id hB
 k_mem
 refine fgo hob T.aV T.aS rfl ?_
 k_mem
 refine mgo hbo rfl ⟨_,_,_,_,_,rfl,hB,fun s0 ⟨A0,hA0⟩=>?_⟩
 k_mem
 refine mgo hA0.ob rfl ⟨_,_,_,_,_,rfl,hA0.at,hrl,hls,fun s1 A H1 e1 hs1 ho1 hb1 hf1 hy1 hw1 hA=>?_⟩
 have hW1:=hW.same e1
 have hob1:=e1 _ _ hob
 have hbo1:=e1 _ _ hbo
 have hrl1:=e1 _ _ hrl
 have hdl1:=e1 _ _ hdl
 k_mem
 refine fgo hob1 T.aV T.cL rfl ?_
 k_mem
 refine ⟨_,.inl (SqL.of hdl1),_,_,rfl,?_⟩
 rw [WB]
 k_upd
 refine ⟨fun hlv=>?_,fun h=>q1 h _ e1⟩
 k_mem
 refine fgo hA.ob T.aK T.ck rfl ?_
 k_mem
 refine ⟨_,SqL.of hA.go,_,jS hlv.1 (by omega),?_⟩
 k_mem
 split
 ·rename_i h
  k_upd
  exact ⟨by decide,q2 hlv.1 hlv.2 h _ e1⟩
 ·rename_i h
  have h3:=q3 hlv.1 hlv.2 (by cases b<;>simpa using h)
  k_upd
  refine fgo hA.ob T.aK T.ck rfl ?_
  k_mem
  refine ⟨_,hA.go,_,zj hlv.1 (by rw [WB];omega),?_⟩
  have e2:=e1.rewr (o:=HO.lst (((ai n0 rs).gates.map V.bl).set lv.toNat (V.bl b))) ho1
  have k2:L2.aA A.ol H1 (upd H1 A.ol (HO.lst (((ai n0 rs).gates.map V.bl).set lv.toNat (V.bl b)))):=(aA.of (aq.refl H1)).put
  have hA2:=hA.gates k2 (gs:=(ai n0 rs).gates.set lv.toNat b) (by rw [ag,List.map_set])
  generalize upd H1 A.ol (HO.lst (((ai n0 rs).gates.map V.bl).set lv.toNat (V.bl b)))=H2 at *
  have hW2:=hW.same e2
  k_upd
  refine ⟨_,_,e2 _ _ hob,rfl,by decide,fun p hp=>?_⟩
  have e3:=e2.lay (o:=HO.tup [V.str wd,V.int lv]) hp
  have f3:=(aq.refl H2).lay (o:=HO.tup [V.str wd,V.int lv]) hp
  k_upd
  refine ⟨_,_,_,_,_,_,p,s1,1,ddV d,cv g (ai n0 rs) d,rfl,hW.same e3,SqT.of ?_,?_,?_,fun h H' s'=>h3.1 h H' (e3.trans s'),fun h H' k hWn=>?_⟩
  ·rw [ag];rcases hd with ⟨rfl,_,rfl⟩ | ⟨rfl,_,rfl⟩<;>rfl
  ·refine (aU.at (A:=A) ?_).same f3
   rcases hd with ⟨_,rfl,rfl⟩ | ⟨_,rfl,rfl⟩<;>exact hA2
  ·rw [hks];rcases hd with ⟨_,rfl,rfl⟩ | ⟨_,rfl,rfl⟩<;>rfl
  ·have:=h3.2 h H' ((aA.of e3).trans k)
   rcases hd with ⟨_,rfl,rfl⟩ | ⟨_,rfl,rfl⟩<;>exact this hWn
variable (eD:KM P w K mg base (CXf P w) 5 Z.bq "turn_gate" (fH K Z))
def JX (w:Addr)(c lv:Int)(kd:Str)(s:Addr)(H:Hp)(gs:List Int)(gates:List Bool)(i:Nat)(σ:St)(H':Hp):Prop:=H'=H/\(∃t,σ=[some (.ref w),some (.int c),some (.int lv),some (.str kd),some (.ref s),t,none,none])/\∀j,j < i->∀x,gs[j]?=some x->gates.getD x.toNat false=false
inductive kB (K:WA)(Z:Adr)(vs:List V)(H:Hp)(Q:VK)(E:XK):Prop | mk (w bk rl:Addr) (g:Cfg) (n0:aM) (rs:List Row) (c lv:Int) (kd:Str):vs=[.ref w,.int c,.int lv,.str kd]->WAt (clZ Z) K H w bk rl g n0 rs->g.ls.length<=1000->g.ks.length=(ai n0 rs).ws.length->cf g.ds->(ai n0 rs).gates.length=g.ds.length->g.ls.length=g.ds.length->1<=fS g (ai n0 rs)->fS g (ai n0 rs)<=500->((kd="men"\/kd="coal"))->((¬(0<=lv/\lv < g.ds.length)->∀H',aq H H'->E (.ref Z.aF) none H'))->((0<=lv->lv < g.ds.length->dM g (ai n0 rs)=true->∀H',aq H H'->E (.ref Z.bj) none H'))->((0<=lv->lv < g.ds.length->dM g (ai n0 rs)=false->(ai n0 rs).e≠.armed lv (cz g.ls lv kd)->∀H',aq H H'->E (.ref Z.aZ) none H'))->((0<=lv->lv < g.ds.length->dM g (ai n0 rs)=false->(ai n0 rs).e=.armed lv (cz g.ls lv kd)->ui Z K H w bk rl g n0 rs (.wind c lv kd) Q E))->kB K Z vs H Q E
include T rp aI bz dP uh pz wF bA aW in
theorem xP:FF P w K mg base (CXf P w) 5 "wind" "Works.wind" lW qV (kB K Z):=fkF fm fun vs H Q E h=>by
 obtain ⟨w,bk,rl,g,n0,rs,c,lv,kd,rfl,hW,hls,hks,hsh,hgl2,hlc,hsp1,hsp5,hkd,q1,q2,q3,q4⟩:=h
 k_all
 refine seg 7 (ah (az (dm' (pv' 0) bA hr.dn bG (pa3 (aQ (pa4 aE (pv' 1) (pv' 2) (pv' 3))) (pv' 7) (pv' 4))))) fun zt7 zh7 ze7=>?_
 refine seg 6 (ae (bP (pv' 4) (pv' 6) rfl) zh7) fun zt6 zh6 ze6=>?_
 refine seg 5 (ae (aD (i:=7) fm.nd rfl orL (dc0 rp hr.dn (pa2 (aH yv (by rfl) T.KA Gg (pa1 (aP dB (pv' 6) (ax (pv' 4))))) (dm' (pv' 0) dP hr.dn aY (pa1 (pv' 4)))))) zh6) fun zt5 zh5 ze5=>?_
 refine seg 4 (ae (aD (i:=6) fm.nd rfl orL (dc0 pz hr.dn (pa3 (ax (pv' 0)) (pv' 1) (pv' 2)))) zh5) fun zt4 zh4 ze4=>?_
 refine seg 3 (ae (bb (dm' (ax (pv' 4)) uh hr.dn bG (pa2 (pv' 2) (pv' 3)))) zh4) fun zt3 zh3 ze3=>?_
 refine seg 2 (ae (cX u6 rfl (cT (dc0 wF hr.dn (pa2 (ax (pv' 0)) (ax (pv' 4))))) (aB (i:=5) fm.nd rfl orL) (ah (aN (cx (ao av (ax (pv' 4)) (pv' 5))) (ah (bh T.Ds (by rfl) T.vZ (pa1 aE))) (aC)))) zh3) fun zt2 zh2 ze2=>?_
 refine seg 1 (ae (bb (dc bz hr.dn bG (pa2 (pv' 2) (aH aw (by rfl) T.bN ba (pa1 (ax (pv' 0))))))) zh2) fun zt1 zh1 ze1=>?_
 refine ⟨_,ae (aD (i:=4) fm.nd rfl orL (dw (dw (ax (pv' 0)) aI hr.dn aY) aW hr.dn aY)) zh1,?_⟩
 obtain ⟨⟨dx,dl,gl,hob,hdl,hgl,n1,n2⟩,hB⟩:=id hW
 obtain ⟨⟨db,f0,hbo,hF⟩,as,hrl,hR⟩:=id hB
 k_mem
 refine fgo hob T.aV T.aS rfl ?_
 k_mem
 refine mgo hbo rfl ⟨_,_,_,_,_,rfl,hB,fun s0 ⟨A0,hA0⟩=>?_⟩
 k_mem
 refine mgo hA0.ob rfl ⟨_,_,_,_,_,rfl,hA0.at,hrl,hls,fun s1 A H1 e1 hs1 ho1 hb1 hf1 hy1 hw1 hA=>?_⟩
 have hW1:=hW.same e1
 have hob1:=e1 _ _ hob
 have hbo1:=e1 _ _ hbo
 have hrl1:=e1 _ _ hrl
 have hdl1:=e1 _ _ hdl
 k_mem
 refine fgo hob1 T.aV T.cL rfl ?_
 k_mem
 refine ⟨_,.inl (SqL.of hdl1),_,_,rfl,?_⟩
 rw [WB]
 k_upd
 refine ⟨fun hlv=>?_,fun h=>q1 h _ e1⟩
 have l6:=hsh.l6
 k_mem
 refine fgo hob1 T.aV T.cL rfl ?_
 k_upd
 refine fgo hA.ob T.aK T.cJ rfl ?_
 k_mem
 refine ⟨_,_,_,rfl,SqL.of hdl1,by omega,by omega,fun gb H2 hgb f2 hgb2=>?_⟩
 have e2:=e1.trans f2
 replace hA:=hA.same f2
 k_mem
 refine ⟨⟨_,SqL.of hgb2⟩,?_⟩
 have gr:∀x∈iA g.ds (ai n0 rs).place,0<=x/\x < g.ds.length:=fun x hx=>by
  unfold iA at hx
  rw [List.mem_map] at hx
  obtain ⟨i,hi,rfl⟩:=hx
  have:=List.mem_range.mp (List.mem_filter.mp hi).1
  omega
 k_upd
 refine iK ((iA g.ds (ai n0 rs).place).map V.int) (JX w c lv kd s1 H2 (iA g.ds (ai n0 rs).place) (ai n0 rs).gates) ⟨rfl,⟨_,rfl⟩,fun j hj=>absurd hj (Nat.not_lt_zero _)⟩ ?_ ?_ ?_
 ·rintro i σ H' _ ⟨rfl,_⟩
  exact SqL.of hgb2
 ·rintro i x σ H' hx ⟨rfl,⟨t,rfl⟩,hj⟩
  obtain ⟨z,rfl,hz,hzm⟩:=lr hx
  have hzr:=gr z hzm
  k_mem
  refine fgo hA.ob T.aK T.ck rfl ?_
  k_mem
  refine ⟨_,SqL.of hA.go,_,jS hzr.1 (by omega),?_⟩
  k_mem
  split
  ·rename_i hopen
   k_upd
   exact ⟨by decide,q2 hlv.1 hlv.2 (List.any_eq_true.mpr ⟨z,hzm,hopen⟩) _ e2⟩
  ·rename_i hopen
   k_upd
   refine ⟨rfl,⟨_,rfl⟩,fun j hj' y hy=>?_⟩
   by_cases e:j=i
   ·subst e
    rw [hz] at hy
    cases hy
    simpa using hopen
   ·exact hj j (by omega) y hy
 ·rintro σ H' ⟨rfl,⟨t,rfl⟩,hj⟩
  have hno:dM g (ai n0 rs)=false:=by
   unfold dM
   rw [List.any_eq_false]
   intro x hx
   obtain ⟨j,hjx⟩:=List.getElem?_of_mem hx
   rw [hj j (by rw [WB];exact (List.getElem?_eq_some_iff.mp hjx).1) x hjx]
   exact Bool.false_ne_true
  k_mem
  refine fgo hA.ob T.aK T.bS rfl ?_
  k_mem
  obtain ⟨db1,hbb⟩:=hA.be.ob
  k_upd
  refine mgo hbb rfl ⟨_,_,_,_,_,_,_,_,_,rfl,hA.be,hkd,fun h=>absurd ⟨hlv.1,by omega⟩ h,fun _ _ h H' s'=>q3 hlv.1 hlv.2 hno h H' (e2.trans s'),fun _ _ harm st2 H3 k3 hB3=>?_⟩
  have h3:=q4 hlv.1 hlv.2 hno harm
  have e3:=e2.keeps k3 hb1
  have hA3:=hA.bells k3 hB3
  clear k3 hB3
  k_mem
  refine fgo (e3 _ _ hob) T.aV T.cL rfl ?_
  k_mem
  refine ⟨_,_,_,_,rfl,SqL.of (e3 _ _ hdl),hlv.1,hlv.2,?_⟩
  rw [show (if c=0 then g.ds.getD lv.toNat 0 else cu g.ds - g.ds.getD lv.toNat 0)=gR g.ds c lv from rfl]
  k_mem
  refine fgo hA3.ob T.aK T.cJ rfl ?_
  k_mem
  refine mgo (e3 _ _ hob) rfl ⟨_,_,_,_,_,_,_,_,rfl,hW.same e3,hA3.at,hks,fun H4 f4=>?_⟩
  have e4:=e3.trans f4
  replace hA3:=hA3.same f4
  have hspd:fS g {(ai n0 rs) with e:=Eng.used lv (cz g.ls lv kd)}=fS g (ai n0 rs):=rfl
  rw [hspd]
  k_upd
  refine ⟨_,_,rfl,by omega,Int.lt_of_le_of_lt hsp5 (by decide),?_⟩
  k_mem
  refine ⟨_,_,_,hA3.ob,T.aK,T.cJ,by show 4 < 1000;decide,?_⟩
  have k5:L2.aA s1 H4 (upd H4 s1 (HO.ins (clZ Z).S A.dx (bw "place" (.int (gR g.ds c lv)) [("place",.int (ai n0 rs).place),("opened",.ref A.ol),("bells",.ref A.b),("yard",.ref A.y)]))):=(aA.of (aq.refl H4)).put
  have e5:=e4.keeps k5 hs1
  have hA5:=hA3.placed k5 (pl:=gR g.ds c lv) (by rw [ag];rfl)
  clear hgb2 f2 f4
  generalize upd H4 s1 (HO.ins (clZ Z).S A.dx (bw "place" (.int (gR g.ds c lv)) [("place",.int (ai n0 rs).place),("opened",.ref A.ol),("bells",.ref A.b),("yard",.ref A.y)]))=H5 at *
  k_upd
  refine ⟨_,_,e5 _ _ hob,rfl,by decide,fun p hp=>?_⟩
  have e6:=e5.lay (o:=HO.tup [V.str (Str.ofString "wind"),V.int c,V.int lv,V.str kd]) hp
  have f6:=(aq.refl H5).lay (o:=HO.tup [V.str (Str.ofString "wind"),V.int c,V.int lv,V.str kd]) hp
  k_upd
  refine ⟨_,_,_,_,_,_,p,s1,(sk g (ai n0 rs) (.wind c lv kd)),ddV (.wind c lv kd),cv g (ai n0 rs) (.wind c lv kd),rfl,hW.same e6,SqT.of (by rw [ag];rfl),?_,?_,fun h H' s'=>h3.1 h H' (e6.trans s'),fun h H' k hWn=>?_⟩
  ·exact (aU.at hA5).same f6
  ·rw [hks];first | rfl | simp only [cv,List.length_set]
  ·k_upd
   exact h3.2 h H' ((aA.of e6).trans k) hWn
variable (iJ:KM P w K mg base (CXf P w) 5 Z.bq "wind" (kB K Z))
theorem two_deepW {p q c:Int}(h0:0<=c)(h1:c < 2):atI [V.int p,V.int q] c=some (.int (if c=0 then p else q)):=by
 rcases (by omega:c=0\/c=1) with rfl | rfl<;>rfl
inductive gq (K:WA)(Z:Adr)(vs:List V)(H:Hp)(Q:VK)(E:XK):Prop | mk (w bk rl:Addr) (g:Cfg) (n0:aM) (rs:List Row) (c:Int):vs=[.ref w,.int c]->WAt (clZ Z) K H w bk rl g n0 rs->cf g.ds->0<=c->c < 2->(∀H',aq H H'->Q (lvV (aT g.ds (ai n0 rs).place c)) H')->gq K Z vs H Q E
include T wg gI in
theorem rM:FF P w K mg base CX0 5 "level_of" "Works.level_of" gx kH (gq K Z):=fk0 rf fun vs H Q E h=>by
 obtain ⟨w,bk,rl,g,n0,rs,c,rfl,hW,hsh,h0,h1,q⟩:=h
 k_all
 refine ⟨_,ah (az (dc0 wg hr.dn (pa2 (ax (pv' 0)) (ao au (dw (pv' 0) gI hr.dn aY) (pv' 1))))),?_⟩
 obtain ⟨⟨dx,dl,gl,hob,hdl,hgl,n1,n2⟩,hB⟩:=id hW
 obtain ⟨⟨db,f0,hbo,hF⟩,as,hrl,hR⟩:=id hB
 k_mem
 refine fgo hob T.aV T.cL rfl ?_
 k_mem
 refine mgo hob rfl ⟨_,_,_,_,_,_,rfl,hW,by have:=hsh.l2;omega,fun p hp=>?_⟩
 have s1:=(aq.refl H).lay (o:=HO.tup [.int (ai n0 rs).place,.int (cu g.ds - (ai n0 rs).place)]) hp
 k_mem
 refine ⟨_,SqT.of ag,_,two_deepW h0 h1,?_⟩
 have l6:=hsh.l6
 k_upd
 refine ⟨_,_,_,rfl,SqL.of (s1 _ _ hdl),by omega,fun i hi e=>?_,fun hne=>?_⟩
 ·have q':=q _ s1
  rw [show aT g.ds (ai n0 rs).place c=some (i:Int) from by rw [aT];split<;>rename_i hc<;>(first | rw [if_pos hc] at e | rw [if_neg hc] at e)<;>exact iV hsh hi e] at q'
  k_upd
  exact q'
 ·have q':=q _ s1
  rw [show aT g.ds (ai n0 rs).place c=none from by rw [aT];split<;>rename_i hc<;>refine AE fun i hi=>?_<;>have:=hne i hi<;>(first | rw [if_pos hc] at this | rw [if_neg hc] at this)<;>exact this] at q'
  k_upd
  exact q'
variable (eZ:KM P w K mg base CX0 5 Z.bq "level_of" (gq K Z))
noncomputable def nX (K:WA):Nat->Sp
 | 0=>fun _ _ _ _=>False
 | n+1=>fun vs H Q _=>∃(x y:V) (d:Dt),vs=[x,y]/\Rep K H n x d/\Rep K H n y d/\∀H',aq H H'->Q (.bl true) H'
noncomputable def Fp (K:WA)(Z:Adr):Sp:=nX K 5
def Ey (x y:V)(H:Hp)(_:Nat)(σ:St)(H':Hp):Prop:=aq H H'/\∃t,σ=[some x,some y,none,t]
theorem Fq {v:V}{T:String}(h:u9 v=some T):(["list","tuple"].any (Aq T))=false:=by
 cases v<;>simp only [u9,Option.some.injEq,reduceCtorEq] at h<;>subst h<;>decide
theorem BQ {v:V}(h:bO v=true):∃T,u9 v=some T:=by
 cases v<;>simp only [bO,reduceCtorEq,Bool.false_eq_true] at h<;>exact ⟨_,rfl⟩
theorem Fs {v:V}(h:bO v=true):wN v v=true:=by
 cases v<;>simp only [bO,reduceCtorEq,Bool.false_eq_true] at h<;>rfl
include T in
theorem uj {n:Nat}(gN:KD P w K mg base CX0 n "_law_same" (nX K n)):FF P w K mg base CX0 (n+1) "_law_same" "_law_same" nB qY (nX K (n+1)):=fk0 sS fun vs H Q E h=>by
 obtain ⟨x,y,d,rfl,hx,hy,q⟩:=h
 k_all
 refine ⟨_,ae (aN (eK (cx (aH r9 (by rfl) T.bZ bJ (pa2 (pv' 1) (aQ (pa2 (fu (v:=.ty "list") (by rfl) T.eh cW rfl) (fu (v:=.ty "tuple") (by rfl) T.rj mH rfl))))))) (ae (aD (i:=2) sS.nd rfl orL (cG fT (aH r9 (by rfl) T.bZ bJ (pa2 (pv' 0) (aQ (pa2 (fu (v:=.ty "int") (by rfl) T.ua mG rfl) (fu (v:=.ty "str") (by rfl) T.KC Gh rfl))))) (aH r9 (by rfl) T.bZ bJ (pa2 (pv' 1) (aQ (pa2 (fu (v:=.ty "int") (by rfl) T.ua mG rfl) (fu (v:=.ty "str") (by rfl) T.KC Gh rfl))))) (bL _))) (ah (az (gG (pv' 2) (gG (cG fT (aH iL (by rfl) T.bZ bJ (pa2 (pv' 0) (fu (v:=.ty "bool") (by rfl) T.Hy DQ rfl))) (aH iL (by rfl) T.bZ bJ (pa2 (pv' 1) (fu (v:=.ty "bool") (by rfl) T.Hy DQ rfl))) (bL _)) (my (cG fT (pv' 0) (pv' 1) (bL _)))))))) (aC)) (ae (aN (tS (aH iL (by rfl) T.bZ bJ (pa2 (pv' 0) (fu (v:=.ty "list") (by rfl) T.eh cW rfl))) (aH iL (by rfl) T.bZ bJ (pa2 (pv' 1) (fu (v:=.ty "list") (by rfl) T.eh cW rfl)))) (ah (az iQ)) (aC)) (ae (aN (oC (tS (aH iL (by rfl) T.bZ bJ (pa2 (pv' 0) (fu (v:=.ty "tuple") (by rfl) T.rj mH rfl))) (aH iL (by rfl) T.bZ bJ (pa2 (pv' 1) (fu (v:=.ty "tuple") (by rfl) T.rj mH rfl)))) (kY (tS (aH aw (by rfl) T.bN ba (pa1 (pv' 0))) (aH aw (by rfl) T.bN ba (pa1 (pv' 1)))))).pt (ah (az iQ)) (aC)) (ae (cX PassesOwn.never rfl (bf (by rfl) T.cq (pa1 (aH aw (by rfl) T.bN ba (pa1 (pv' 1))))) (aB (i:=3) sS.nd rfl orL) (ah (aN (eK (cx (dc0 gN hr (pa2 (ao FX (pv' 0) (pv' 3)) (ao FX (pv' 1) (pv' 3)))))) (ah (az iQ)) (aC)))) (ah (az iQ))))),?_⟩
 k_mem
 refine ⟨by decide,fun tp htp=>?_⟩
 have s1:=(aq.refl H).lay (o:=HO.tup [V.ty "list",V.ty "tuple"]) htp
 have ht1:upd H tp (HO.tup [V.ty "list",V.ty "tuple"]) tp=some (HO.tup (["list","tuple"].map V.ty)):=ag
 generalize upd H tp (HO.tup [V.ty "list",V.ty "tuple"])=H1 at *
 cases hx with
 | @flat _ v hv=>
  cases hy with
  | flat _=>
   obtain ⟨T0,hT⟩:=BQ hv
   refine ⟨_,tp,["list","tuple"],T0,rfl,SqT.of ht1,.inl hT,by decide,?_⟩
   rw [Fq hT]
   k_mem
   refine ⟨by decide,fun p1 hp1=>⟨_,p1,["int","str"],T0,rfl,SqT.of ag,.inl hT,by decide,?_⟩⟩
   refine ⟨by decide,fun p2 hp2=>⟨_,p2,["int","str"],T0,rfl,SqT.of ag,.inl hT,by decide,?_⟩⟩
   k_mem
   rw [if_pos rfl]
   refine ⟨_,"bool",T0,rfl,.inl hT,by decide,_,"bool",T0,rfl,.inl hT,by decide,?_⟩
   k_mem
   rw [if_pos rfl]
   refine Eg.mp ⟨Fs hv,?_⟩
   rw [decide_eq_true rfl]
   exact q _ ((s1.lay hp1).lay hp2)
 | @lst m a xs ds hs hb hl hrx=>
  cases hy with
  | @lst _ b ys _ hs' hb' hl' hry=>
   have ha1:=s1.seq hs
   have hb1:=s1.seq hs'
   refine ⟨.ref b,tp,["list","tuple"],"list",rfl,SqT.of ht1,.inr (.inl ⟨b,ys,rfl,hb1,rfl⟩),by decide,?_⟩
   rw [show (["list","tuple"].any (Aq "list"))=true from by decide]
   k_mem
   refine ⟨.ref a,"list","list",rfl,.inr (.inl ⟨a,xs,rfl,ha1,rfl⟩),by decide,.ref b,"list","list",rfl,.inr (.inl ⟨b,ys,rfl,hb1,rfl⟩),by decide,?_⟩
   k_mem
   refine ⟨.ref a,"tuple","list",rfl,.inr (.inl ⟨a,xs,rfl,ha1,rfl⟩),by decide,.ref b,"tuple","list",rfl,.inr (.inl ⟨b,ys,rfl,hb1,rfl⟩),by decide,?_⟩
   k_mem
   refine ⟨xs,.inl ha1,ys,.inl hb1,?_⟩
   rw [if_neg (by omega)]
   refine ⟨ys,.inl hb1,by omega,by omega,?_⟩
   refine cj (Ey (.ref a) (.ref b) H1) ⟨aq.refl _,_,rfl⟩ ?_ ?_
   ·rintro i σ H2 hi ⟨s2,t,rfl⟩
    have hi1:i < xs.length:=by omega
    have hi2:i < ys.length:=by omega
    have hi3:i < ds.length:=by omega
    have ex:xs[i]?=some xs[i]:=List.getElem?_eq_getElem hi1
    have ey:ys[i]?=some ys[i]:=List.getElem?_eq_getElem hi2
    have ed:ds[i]?=some ds[i]:=List.getElem?_eq_getElem hi3
    k_mem
    rw [Int.zero_add]
    refine .inl ⟨a,xs,_,_,rfl,rfl,s2.seq ha1,lu ex,.inl ⟨b,ys,_,_,rfl,rfl,s2.seq hb1,lu ey,?_⟩⟩
    refine ⟨_,_,ds[i],rfl,(hrx i _ _ ex ed).same (s1.trans s2),(hry i _ _ ey ed).same (s1.trans s2),fun H3 s3=>?_⟩
    k_mem
    exact ⟨s2.trans s3,_,rfl⟩
   ·rintro σ H2 ⟨s2,t,rfl⟩
    k_mem
    exact q _ (s1.trans s2)
 | @tup m a xs ds hs hb hl hrx=>
  cases hy with
  | @tup _ b ys _ hs' hb' hl' hry=>
   have ha1:=s1.tup hs
   have hb1:=s1.tup hs'
   refine ⟨.ref b,tp,["list","tuple"],"tuple",rfl,SqT.of ht1,.inr (.inr ⟨b,ys,rfl,hb1,rfl⟩),by decide,?_⟩
   rw [show (["list","tuple"].any (Aq "tuple"))=true from by decide]
   k_mem
   refine ⟨.ref a,"list","tuple",rfl,.inr (.inr ⟨a,xs,rfl,ha1,rfl⟩),by decide,.ref b,"list","tuple",rfl,.inr (.inr ⟨b,ys,rfl,hb1,rfl⟩),by decide,?_⟩
   k_mem
   refine ⟨.ref a,"tuple","tuple",rfl,.inr (.inr ⟨a,xs,rfl,ha1,rfl⟩),by decide,.ref b,"tuple","tuple",rfl,.inr (.inr ⟨b,ys,rfl,hb1,rfl⟩),by decide,?_⟩
   k_mem
   refine ⟨xs,.inr ha1,ys,.inr hb1,?_⟩
   rw [if_neg (by omega)]
   refine ⟨ys,.inr hb1,by omega,by omega,?_⟩
   refine cj (Ey (.ref a) (.ref b) H1) ⟨aq.refl _,_,rfl⟩ ?_ ?_
   ·rintro i σ H2 hi ⟨s2,t,rfl⟩
    have hi1:i < xs.length:=by omega
    have hi2:i < ys.length:=by omega
    have hi3:i < ds.length:=by omega
    have ex:xs[i]?=some xs[i]:=List.getElem?_eq_getElem hi1
    have ey:ys[i]?=some ys[i]:=List.getElem?_eq_getElem hi2
    have ed:ds[i]?=some ds[i]:=List.getElem?_eq_getElem hi3
    k_mem
    rw [Int.zero_add]
    refine .inr (.inl ⟨a,xs,_,_,rfl,rfl,s2.tup ha1,lu ex,.inr (.inl ⟨b,ys,_,_,rfl,rfl,s2.tup hb1,lu ey,?_⟩)⟩)
    refine ⟨_,_,ds[i],rfl,(hrx i _ _ ex ed).same (s1.trans s2),(hry i _ _ ey ed).same (s1.trans s2),fun H3 s3=>?_⟩
    k_mem
    exact ⟨s2.trans s3,_,rfl⟩
   ·rintro σ H2 ⟨s2,t,rfl⟩
    k_mem
    exact q _ (s1.trans s2)
include T in
theorem Ft {f:Addr}{fd:FuncData}(b:mg "_law_same"=some (.ref f))(F:Fun K "_law_same" "_law_same" nB f fd)(c:dQ K fd qY []):FF P w K mg base CX0 5 "_law_same" "_law_same" nB qY (nX K 5):=
 have h:∀n,KD P w K mg base CX0 n "_law_same" (nX K n):=fun n=>by
  induction n with
  | zero=>exact ⟨f,fd,_,b,F.kp,c,Gu⟩
  | succ n ih=>exact KD.mk b F c (uj T ih)
 uj T (h 4)
variable (gN:KD P w K mg base CX0 5 "_law_same" (Fp K Z))
inductive tI (K:WA)(Z:Adr)(vs:List V)(H:Hp)(Q:VK)(E:XK):Prop | mk (p dl cl ll:Addr) (ds:List Int) (ls:List Cd) (slow fast:Int) (lds:List Ld) (N0:Addr->Prop):vs=[.ref p]->dN K H p dl cl ll (dS ds ls slow fast lds N0) lds->cf ds->ls.length=ds.length->((∀x∈ls,eL x))->((1<=slow/\slow<=fast/\fast<=500))->lds.length<=30->((∀x∈lds,iU (ds.length:Nat) x))->(∀(w bk rl:Addr) (N:Addr->Prop) (H':Hp),aq H H'->H rl=none->H w=none->WAt (clZ Z) K H' w bk rl (dS ds ls slow fast lds N) (fe ds ls lds) []->Q (.ref w) H')->tI K Z vs H Q E
include T rH in
theorem Fu:FF P w K mg base (CXf P w) 5 "_law_made" "_law_made" vM Bb (tI K Z):=fkF fL fun vs H Q E h=>by
 obtain ⟨p,dl,cl,ll,ds,ls,slow,fast,lds,N0,rfl,hP,hsh,hlen,hg,hsp,h30,hld,q⟩:=h
 k_all
 refine seg 6 (ah (az (pv' 7))) fun zt6 zh6 ze6=>?_
 refine seg 5 (ae (bb (uX PySem.F.plainAttrs_list PySem.F.slot_list_clear PySem.F.type_list_clear yu (ao av (pv' 6) af))) zh6) fun zt5 zh5 ze5=>?_
 refine seg 4 (ae (bb (uX PySem.F.plainAttrs_list PySem.F.slot_list_clear PySem.F.type_list_clear yu (ao av (pv' 6) af))) zh5) fun zt4 zh4 ze4=>?_
 refine seg 3 (ae (gP af (rT (ao av (pv' 6) af) (gJ dj af) iO)) zh4) fun zt3 zh3 ze3=>?_
 refine seg 2 (ae (aD (i:=7) fL.nd rfl orL (dn rH hr.dn T.JP bG (cV (ao av (pv' 6) af) (pa4 (ao av (pv' 6) af) (pv' 3) (pv' 4) (ao av (pv' 6) af))))) zh3) fun zt2 zh2 ze2=>?_
 refine seg 1 (ae (aD (i:=6) fL.nd rfl orL (bc (pa3 (bg bx (by rfl) T.eh cW (pa1 (pv' 1))) (bg bx (by rfl) T.eh cW (pa1 (pv' 2))) (bg bx (by rfl) T.eh cW (pa1 (pv' 5)))))) zh2) fun zt1 zh1 ze1=>?_
 refine ⟨_,ae (gP (pv' 0) (zG rfl (aG (aB (i:=1) fL.nd rfl orL) (aG (aB (i:=2) fL.nd rfl orL) (aG (aB (i:=3) fL.nd rfl orL) (aG (aB (i:=4) fL.nd rfl orL) (aG (aB (i:=5) fL.nd rfl orL) cM))))))) zh1,?_⟩
 obtain ⟨hp,hdl,⟨as,hcl,hT⟩,⟨bs,hll,hT2⟩,_⟩:=id hP
 replace hdl:H dl=some (HO.lst (ds.map V.int)):=hdl
 replace hp:H p=some (HO.lst [V.ref dl,V.ref cl,V.int slow,V.int fast,V.ref ll]):=hp
 replace hT:cR cdV K H as ls:=hT
 have l2:=hsh.l2
 have l6:=hsh.l6
 k_mem
 refine ⟨_,SqL.of hp,rfl,?_⟩
 k_mem
 refine ⟨_,.inl (SqL.of hdl),fun p1 hp1=>⟨_,.inl (SqL.of (upo hcl hp1)),fun p2 hp2=>⟨_,.inl (SqL.of (upo (upo hll hp1) hp2)),fun p3 hp3=>⟨by decide,fun h hh=>?_⟩⟩⟩⟩
 have s2:=(((((aq.refl H).lay (o:=HO.lst (ds.map V.int)) hp1).lay (o:=HO.lst (as.map V.ref)) hp2).lay (o:=HO.lst (bs.map V.ref)) hp3).lay (o:=HO.lst [V.ref p1,V.ref p2,V.ref p3]) hh)
 have q1:upd (upd (upd (upd H p1 (HO.lst (ds.map V.int))) p2 (HO.lst (as.map V.ref))) p3 (HO.lst (bs.map V.ref))) h (HO.lst [V.ref p1,V.ref p2,V.ref p3]) p1=some (HO.lst (ds.map V.int)):=upo (upo (upo ag hp2) hp3) hh
 have q2:upd (upd (upd (upd H p1 (HO.lst (ds.map V.int))) p2 (HO.lst (as.map V.ref))) p3 (HO.lst (bs.map V.ref))) h (HO.lst [V.ref p1,V.ref p2,V.ref p3]) p2=some (HO.lst (as.map V.ref)):=upo (upo ag hp3) hh
 have q3:upd (upd (upd (upd H p1 (HO.lst (ds.map V.int))) p2 (HO.lst (as.map V.ref))) p3 (HO.lst (bs.map V.ref))) h (HO.lst [V.ref p1,V.ref p2,V.ref p3]) p3=some (HO.lst (bs.map V.ref)):=upo ag hh
 have q4:upd (upd (upd (upd H p1 (HO.lst (ds.map V.int))) p2 (HO.lst (as.map V.ref))) p3 (HO.lst (bs.map V.ref))) h (HO.lst [V.ref p1,V.ref p2,V.ref p3]) h=some (HO.lst [V.ref p1,V.ref p2,V.ref p3]):=ag
 have f1:=hp1
 have f2:=upn hp2
 have f3:=upn (upn hp3)
 have n12:p1≠p2:=ak ag hp2
 have n13:p1≠p3:=ak (upo ag hp2) hp3
 have n23:p2≠p3:=ak ag hp3
 have nh1:p1≠h:=ak (upo (upo ag hp2) hp3) hh
 have nh2:p2≠h:=ak (upo ag hp3) hh
 have nh3:p3≠h:=ak ag hh
 generalize upd (upd (upd (upd H p1 (HO.lst (ds.map V.int))) p2 (HO.lst (as.map V.ref))) p3 (HO.lst (bs.map V.ref))) h (HO.lst [V.ref p1,V.ref p2,V.ref p3])=H2 at *
 k_upd
 refine ⟨_,SqL.of q4,_,rfl,_,SqL.of q4,_,rfl,_,SqL.of q4,_,rfl,?_⟩
 refine fun x dx hx hdx nxd=>?_
 have hx':upd H2 dx (.own x) x=none:=by rw [aJ (Ne.symm nxd)];exact hx
 have sx:=((aq.refl H2).lay (o:=HO.own x) hdx).lay (o:=HO.ins Z.bq dx []) hx'
 k_upd
 refine ⟨x,dx,p1,p2,p3,ds,ls,lds,slow,fast,fun z=>z=p1\/z=p2\/z=p3,rfl,ag,sx.seq (SqL.of q1),⟨as,sx.seq (SqL.of q2),(hT.same s2).same sx⟩,⟨bs,sx.seq (SqL.of q3),(hT2.same s2).same sx⟩,by omega,by omega,by omega,?_,fun h=>absurd hsh h,fun _ h=>absurd ⟨by omega,hg⟩ h,fun _ _ h=>absurd hsp h,fun _ _ _ h=>absurd ⟨h30,hld⟩ h,fun _ _ _ _ bk rl H3 kx hrl hW=>⟨rfl,?_⟩⟩
 ·rintro z (rfl | rfl | rfl)
  ·k_upd
   exact ⟨_,sx _ _ q1⟩
  ·k_upd
   exact ⟨_,sx _ _ q2⟩
  ·k_upd
   exact ⟨_,sx _ _ q3⟩
 have s3:=gM hx hdx kx
 have frl:H2 rl=none:=fQ hrl
 clear kx hrl sx
 k_mem
 refine ⟨_,SqL.of (s3 _ _ q4),_,rfl,_,s3 _ _ q1,ds.length - 1,by rw [WB];exact LW (by omega),?_⟩
 have k4:L2.aA p1 H3 (upd H3 p1 (HO.lst ((ds.map V.int).set (ds.length - 1) (V.int 777)))):=(aA.of (aq.refl H3)).put
 have e4:upd H3 p1 (HO.lst ((ds.map V.int).set (ds.length - 1) (V.int 777))) p1=some (HO.lst ((ds.map V.int).set (ds.length - 1) (V.int 777))):=ag
 generalize upd H3 p1 (HO.lst ((ds.map V.int).set (ds.length - 1) (V.int 777)))=H4 at *
 have hW4:=hW.own (.inl rfl) k4 e4
 have s4:aq H H4:=(s2.trans s3).keeps k4 f1
 have r2:=k4 _ _ n12.symm (s3 _ _ q2)
 have r3:=k4 _ _ n13.symm (s3 _ _ q3)
 have r4:=k4 _ _ nh1.symm (s3 _ _ q4)
 k_mem
 refine ⟨_,SqL.of r4,_,rfl,.inl ⟨rfl,_,SqL.of r2⟩,?_⟩
 k_mem
 refine ⟨_,r2,?_⟩
 have k5:L2.aA p2 H4 (upd H4 p2 (HO.lst [])):=(aA.of (aq.refl H4)).put
 have e5:upd H4 p2 (HO.lst []) p2=some (HO.lst []):=ag
 generalize upd H4 p2 (HO.lst [])=H5 at *
 have hW5:=hW4.own (.inr (.inl rfl)) k5 e5
 have s5:aq H H5:=s4.keeps k5 f2
 have u3:=k5 _ _ n23.symm r3
 have u4:=k5 _ _ nh2.symm r4
 k_mem
 refine ⟨_,SqL.of u4,_,rfl,.inl ⟨rfl,_,SqL.of u3⟩,?_⟩
 k_mem
 refine ⟨_,u3,?_⟩
 have k6:L2.aA p3 H5 (upd H5 p3 (HO.lst [])):=(aA.of (aq.refl H5)).put
 have e6:upd H5 p3 (HO.lst []) p3=some (HO.lst []):=ag
 have hW6:=hW5.own (.inr (.inr rfl)) k6 e6
 k_upd
 exact q x bk rl _ _ (s5.keeps k6 f3) (s2.free frl) (s2.free hx) hW6
variable (rN:KD P w K mg base (CXf P w) 5 "_law_made" (tI K Z))
inductive fI (K:WA)(Z:Adr)(vs:List V)(H:Hp)(Q:VK)(E:XK):Prop | mk (w bk rl:Addr) (g:Cfg) (n0:aM) (rs:List Row) (lv:Int):vs=[.ref w,.int lv]->WAt (clZ Z) K H w bk rl g n0 rs->g.ls.length<=1000->g.ks.length=(ai n0 rs).ws.length->(ai n0 rs).gates.length=g.ds.length->((¬(0<=lv/\lv < g.ds.length)->∀H',aq H H'->E (.ref Z.aF) none H'))->((0<=lv->lv < g.ds.length->(ai n0 rs).gates.getD lv.toNat false=true->∀H',aq H H'->E (.ref Z.dG) none H'))->((0<=lv->lv < g.ds.length->(ai n0 rs).gates.getD lv.toNat false=false->ui Z K H w bk rl g n0 rs (.opn lv) Q E))->fI K Z vs H Q E
include T eD in
theorem qi:FF P w K mg base (CXf P w) 6 "open_gate" "Works.open_gate" fW jG (fI K Z):=fkF pJ fun vs H Q E h=>by
 obtain ⟨w,bk,rl,g,n0,rs,lv,rfl,hW,hls,hks,hgl2,q1,q2,q3⟩:=h
 k_all
 refine ⟨_,ah (az (dm' (pv' 0) eD hr.dn bG (pa3 aE (pv' 1) iQ))),?_⟩
 obtain ⟨dx,dl,gl,hob,_⟩:=id hW.ob
 k_mem
 exact mgo hob rfl ⟨_,_,_,_,_,_,_,_,_,_,rfl,hW,hls,hks,hgl2,.inl ⟨rfl,rfl,rfl⟩,q1,q2,q3⟩
variable (jO:KM P w K mg base (CXf P w) 6 Z.bq "open_gate" (fI K Z))
inductive fJ (K:WA)(Z:Adr)(vs:List V)(H:Hp)(Q:VK)(E:XK):Prop | mk (w bk rl:Addr) (g:Cfg) (n0:aM) (rs:List Row) (lv:Int):vs=[.ref w,.int lv]->WAt (clZ Z) K H w bk rl g n0 rs->g.ls.length<=1000->g.ks.length=(ai n0 rs).ws.length->(ai n0 rs).gates.length=g.ds.length->((¬(0<=lv/\lv < g.ds.length)->∀H',aq H H'->E (.ref Z.aF) none H'))->((0<=lv->lv < g.ds.length->(ai n0 rs).gates.getD lv.toNat false=false->∀H',aq H H'->E (.ref Z.dG) none H'))->((0<=lv->lv < g.ds.length->(ai n0 rs).gates.getD lv.toNat false=true->ui Z K H w bk rl g n0 rs (.sht lv) Q E))->fJ K Z vs H Q E
include T eD in
theorem qj:FF P w K mg base (CXf P w) 6 "shut_gate" "Works.shut_gate" fX jH (fJ K Z):=fkF pK fun vs H Q E h=>by
 obtain ⟨w,bk,rl,g,n0,rs,lv,rfl,hW,hls,hks,hgl2,q1,q2,q3⟩:=h
 k_all
 refine ⟨_,ah (az (dm' (pv' 0) eD hr.dn bG (pa3 aE (pv' 1) iQ))),?_⟩
 obtain ⟨dx,dl,gl,hob,_⟩:=id hW.ob
 k_mem
 exact mgo hob rfl ⟨_,_,_,_,_,_,_,_,_,_,rfl,hW,hls,hks,hgl2,.inr ⟨rfl,rfl,rfl⟩,q1,q2,q3⟩
variable (jP:KM P w K mg base (CXf P w) 6 Z.bq "shut_gate" (fJ K Z))
inductive kC (K:WA)(Z:Adr)(vs:List V)(H:Hp)(Q:VK)(E:XK):Prop | mk (w bk rl:Addr) (g:Cfg) (n0:aM) (rs:List Row) (k c:Int):vs=[.ref w,.int k,.int c]->WAt (clZ Z) K H w bk rl g n0 rs->g.ls.length<=1000->g.ks.length=(ai n0 rs).ws.length->cf g.ds->(ai n0 rs).gates.length=g.ds.length->g.goals.length=(ai n0 rs).ws.length->0<=c->c < 2->((¬(0<=k/\k < (ai n0 rs).ws.length)->∀H',aq H H'->E (.ref Z.cE) none H'))->((0<=k->k < (ai n0 rs).ws.length->(∀l,aT g.ds (ai n0 rs).place c=some l->(ai n0 rs).ws.getD k.toNat 0≠l)->∀H',aq H H'->E (.ref Z.eO) none H'))->((∀l,0<=k->k < (ai n0 rs).ws.length->aT g.ds (ai n0 rs).place c=some l->(ai n0 rs).ws.getD k.toNat 0=l->10+c∈(ai n0 rs).ws->∀H',aq H H'->E (.ref Z.dW) none H'))->((∀l,0<=k->k < (ai n0 rs).ws.length->aT g.ds (ai n0 rs).place c=some l->(ai n0 rs).ws.getD k.toNat 0=l->¬10+c∈(ai n0 rs).ws->(ai n0 rs).gates.getD l.toNat false=false->∀H',aq H H'->E (.ref Z.eQ) none H'))->((∀l,0<=k->k < (ai n0 rs).ws.length->aT g.ds (ai n0 rs).place c=some l->(ai n0 rs).ws.getD k.toNat 0=l->¬10+c∈(ai n0 rs).ws->(ai n0 rs).gates.getD l.toNat false=true->ui Z K H w bk rl g n0 rs (.load k c) Q E))->kC K Z vs H Q E
include T iG aI iI cD uf bA aW eZ in
theorem xQ:FF P w K mg base (CXf P w) 6 "load" "Works.load" lV qU (kC K Z):=fkF j5 fun vs H Q E h=>by
 obtain ⟨w,bk,rl,g,n0,rs,k,c,rfl,hW,hls,hks,hsh,hgl2,hgo,h0,h1,q1,q2,q3,q4,q5⟩:=h
 k_all
 refine seg 6 (ah (az (dm' (pv' 0) bA hr.dn bG (pa3 (aQ (pa3 aE (pv' 1) (pv' 2))) af (pv' 3))))) fun zt6 zh6 ze6=>?_
 refine seg 5 (ae (bb (dm' (pv' 0) cD hr.dn bG (pa1 (pv' 4)))) zh6) fun zt5 zh5 ze5=>?_
 refine seg 4 (ae (bb (dm' (ax (pv' 3)) uf hr.dn bG (pa2 (pv' 1) (pv' 2)))) zh5) fun zt4 zh4 ze4=>?_
 refine seg 3 (ae (aN (oC (zF (pv' 4) eJ) (kY (tS (ao av (dw (ax (pv' 3)) iG hr.dn aY) (pv' 1)) (pv' 4)))).pt (ah (bh T.pS (by rfl) T.pQ (pa1 aE))) (aC)) zh4) fun zt3 zh3 ze3=>?_
 refine seg 2 (ae (aD (i:=4) j5.nd rfl orL (dm' (pv' 0) eZ hr.dn aY (pa1 (pv' 2)))) zh3) fun zt2 zh2 ze2=>?_
 refine seg 1 (ae (bb (dc iI hr.dn bG (pa2 (pv' 1) (aH aw (by rfl) T.bN ba (pa1 (ax (pv' 0))))))) zh2) fun zt1 zh1 ze1=>?_
 refine ⟨_,ae (aD (i:=3) j5.nd rfl orL (dw (dw (ax (pv' 0)) aI hr.dn aY) aW hr.dn aY)) zh1,?_⟩
 obtain ⟨⟨dx,dl,gl,hob,hdl,hgl,n1,n2⟩,hB⟩:=id hW
 obtain ⟨⟨db,f0,hbo,hF⟩,as,hrl,hR⟩:=id hB
 k_mem
 refine fgo hob T.aV T.aS rfl ?_
 k_mem
 refine mgo hbo rfl ⟨_,_,_,_,_,rfl,hB,fun s0 ⟨A0,hA0⟩=>?_⟩
 k_mem
 refine mgo hA0.ob rfl ⟨_,_,_,_,_,rfl,hA0.at,hrl,hls,fun s1 A H1 e1 hs1 ho1 hb1 hf1 hy1 hw1 hA=>?_⟩
 have hW1:=hW.same e1
 have hob1:=e1 _ _ hob
 have hbo1:=e1 _ _ hbo
 have hrl1:=e1 _ _ hrl
 have hdl1:=e1 _ _ hdl
 k_mem
 refine fgo hob1 T.aV T.nG rfl ?_
 k_mem
 refine ⟨_,.inl (SqL.of (e1 _ _ hgl)),_,_,rfl,?_⟩
 rw [WB,hgo]
 k_upd
 refine ⟨fun hk=>?_,fun h=>q1 h _ e1⟩
 k_mem
 refine mgo hob1 rfl ⟨_,_,_,_,_,_,_,rfl,hW1,hsh,h0,h1,fun H2 f2=>?_⟩
 have e2:=e1.trans f2
 replace hA:=hA.same f2
 k_mem
 cases hc:aT g.ds (ai n0 rs).place c with
 | none=>
  rw [if_pos (show lvV none=V.non from rfl)]
  k_upd
  exact ⟨by decide,q2 hk.1 hk.2 (fun l e=>by rw [hc] at e;cases e) _ e2⟩
 | some l=>
  obtain ⟨l0,l1,_⟩:=cB hc
  have l6:=hsh.l6
  k_upd
  rw [if_neg (show ¬(lvV (some l)=V.non) from fun z=>V.noConfusion z)]
  k_upd
  refine fgo hA.ob T.aK T.bE rfl ?_
  k_mem
  obtain ⟨dy,hyb⟩:=hA.ya.ob
  k_upd
  refine ⟨_,_,hyb,rfl,_,_,_,_,_,_,rfl,hA.ya,fun p hp=>?_⟩
  have e3:=e2.lay (o:=HO.lst ((ai n0 rs).ws.map V.int)) hp
  have f3:=(aq.refl H2).lay (o:=HO.lst ((ai n0 rs).ws.map V.int)) hp
  have hq3:upd H2 p (HO.lst ((ai n0 rs).ws.map V.int)) p=some (HO.lst ((ai n0 rs).ws.map V.int)):=ag
  replace hA:=hA.same f3
  generalize upd H2 p (HO.lst ((ai n0 rs).ws.map V.int))=H3 at *
  k_mem
  refine ⟨_,SqL.of hq3,_,dh hk.1 hk.2,?_⟩
  simp only [lvV]
  k_mem
  split
  ·rename_i hne
   k_upd
   exact ⟨by decide,q2 hk.1 hk.2 (fun l' e=>by rw [hc] at e;cases e;exact hne) _ e3⟩
  ·rename_i hne
   have heq:(ai n0 rs).ws.getD k.toNat 0=l:=Decidable.not_not.mp hne
   k_upd
   refine fgo hA.ob T.aK T.bE rfl ?_
   k_mem
   obtain ⟨dy,hyb⟩:=hA.ya.ob
   k_upd
   refine ⟨_,_,hyb,rfl,_,_,_,_,_,_,_,_,rfl,hA.ya,h0,h1,fun h=>absurd hk h,fun _ _ h=>by omega,fun _ _ _ h H' s'=>q3 l hk.1 hk.2 hc heq h H' (e3.trans s'),fun _ _ _ hni H4 k4 hw4=>?_⟩
   have e4:=e3.keeps k4 hw1
   have hA4:=hA.spots k4 hw4
   clear k4 hw4
   k_mem
   refine mgo (e4 _ _ hob) rfl ⟨_,_,_,_,_,_,_,rfl,hW.same e4,l0,by omega,fun hg=>?_,fun hg=>q4 l hk.1 hk.2 hc heq hni hg _ e4⟩
   have h3:=q5 l hk.1 hk.2 hc heq hni hg
   k_mem
   refine ⟨_,_,e4 _ _ hob,rfl,by decide,fun p hp=>?_⟩
   have e5:=e4.lay (o:=HO.tup [V.str (Str.ofString "load"),V.int k,V.int c]) hp
   have f5:=(aq.refl H4).lay (o:=HO.tup [V.str (Str.ofString "load"),V.int k,V.int c]) hp
   k_upd
   refine ⟨_,_,_,_,_,_,p,s1,1,ddV (.load k c),cv g (ai n0 rs) (.load k c),rfl,hW.same e5,SqT.of (by rw [ag];rfl),?_,?_,fun h H' s'=>h3.1 h H' (e5.trans s'),fun h H' k9 hWn=>?_⟩
   ·exact (aU.at hA4).same f5
   ·rw [hks];first | rfl | simp only [cv,List.length_set]
   ·k_upd
    exact h3.2 h H' ((aA.of e5).trans k9) hWn
variable (rO:KM P w K mg base (CXf P w) 6 Z.bq "load" (kC K Z))
inductive ik (K:WA)(Z:Adr)(vs:List V)(H:Hp)(Q:VK)(E:XK):Prop | mk (w bk rl:Addr) (g:Cfg) (n0:aM) (rs:List Row) (c:Int):vs=[.ref w,.int c]->WAt (clZ Z) K H w bk rl g n0 rs->g.ls.length<=1000->g.ks.length=(ai n0 rs).ws.length->cf g.ds->(ai n0 rs).gates.length=g.ds.length->0<=c->c < 2->((¬10+c∈(ai n0 rs).ws->∀H',aq H H'->E (.ref Z.dX) none H'))->((10+c∈(ai n0 rs).ws->aT g.ds (ai n0 rs).place c=none->∀H',aq H H'->E (.ref Z.eO) none H'))->((∀l,10+c∈(ai n0 rs).ws->aT g.ds (ai n0 rs).place c=some l->(ai n0 rs).gates.getD l.toNat false=false->∀H',aq H H'->E (.ref Z.eQ) none H'))->((∀l,10+c∈(ai n0 rs).ws->aT g.ds (ai n0 rs).place c=some l->(ai n0 rs).gates.getD l.toNat false=true->ui Z K H w bk rl g n0 rs (.unload c) Q E))->ik K Z vs H Q E
include T cF aI cD wC bA aW eZ in
theorem uE:FF P w K mg base (CXf P w) 6 "unload" "Works.unload" jb mY (ik K Z):=fkF gY fun vs H Q E h=>by
 obtain ⟨w,bk,rl,g,n0,rs,c,rfl,hW,hls,hks,hsh,hgl2,h0,h1,q1,q2,q3,q4⟩:=h
 k_all
 refine seg 6 (ah (az (dm' (pv' 0) bA hr.dn bG (pa3 (aQ (pa2 aE (pv' 1))) af (pv' 2))))) fun zt6 zh6 ze6=>?_
 refine seg 5 (ae (bb (dm' (ax (pv' 2)) wC hr.dn bG (pa2 (pv' 1) (pv' 3)))) zh6) fun zt5 zh5 ze5=>?_
 refine seg 4 (ae (bb (dm' (pv' 0) cD hr.dn bG (pa1 (pv' 3)))) zh5) fun zt4 zh4 ze4=>?_
 refine seg 3 (ae (aN (zF (pv' 3) eJ) (ah (bh T.pS (by rfl) T.pQ (pa1 aE))) (aC)) zh4) fun zt3 zh3 ze3=>?_
 refine seg 2 (ae (aD (i:=3) gY.nd rfl orL (dm' (pv' 0) eZ hr.dn aY (pa1 (pv' 1)))) zh3) fun zt2 zh2 ze2=>?_
 refine seg 1 (ae (aN (zF (dm' (ax (pv' 2)) cF hr.dn aY (pa1 (pv' 1))) eJ) (ah (bh T.uc (by rfl) T.ub (pa1 aE))) (aC)) zh2) fun zt1 zh1 ze1=>?_
 refine ⟨_,ae (aD (i:=2) gY.nd rfl orL (dw (dw (ax (pv' 0)) aI hr.dn aY) aW hr.dn aY)) zh1,?_⟩
 obtain ⟨⟨dx,dl,gl,hob,hdl,hgl,n1,n2⟩,hB⟩:=id hW
 obtain ⟨⟨db,f0,hbo,hF⟩,as,hrl,hR⟩:=id hB
 k_mem
 refine fgo hob T.aV T.aS rfl ?_
 k_mem
 refine mgo hbo rfl ⟨_,_,_,_,_,rfl,hB,fun s0 ⟨A0,hA0⟩=>?_⟩
 k_mem
 refine mgo hA0.ob rfl ⟨_,_,_,_,_,rfl,hA0.at,hrl,hls,fun s1 A H1 e1 hs1 ho1 hb1 hf1 hy1 hw1 hA=>?_⟩
 have hW1:=hW.same e1
 have hob1:=e1 _ _ hob
 have hbo1:=e1 _ _ hbo
 have hrl1:=e1 _ _ hrl
 have hdl1:=e1 _ _ hdl
 k_mem
 refine fgo hA.ob T.aK T.bE rfl ?_
 k_mem
 obtain ⟨dy,hyb⟩:=hA.ya.ob
 k_upd
 refine ⟨_,_,hyb,rfl,_,_,_,_,_,_,_,rfl,hA.ya,h0,h1,fun H2 f2=>?_⟩
 have e2:=e1.trans f2
 replace hA:=hA.same f2
 k_mem
 by_cases hm:10+c∈(ai n0 rs).ws
 ·rw [inC,if_pos hm]
  k_upd
  rw [if_neg (show ¬(V.int _=V.non) from fun z=>V.noConfusion z)]
  k_mem
  refine mgo (e2 _ _ hob) rfl ⟨_,_,_,_,_,_,_,rfl,hW.same e2,hsh,h0,h1,fun H3 f3=>?_⟩
  have e3:=e2.trans f3
  replace hA:=hA.same f3
  k_mem
  cases hc:aT g.ds (ai n0 rs).place c with
  | none=>
   rw [if_pos (show lvV none=V.non from rfl)]
   k_upd
   exact ⟨by decide,q2 hm hc _ e3⟩
  | some l=>
   obtain ⟨l0,l1,_⟩:=cB hc
   k_upd
   rw [if_neg (show ¬(lvV (some l)=V.non) from fun z=>V.noConfusion z)]
   k_mem
   refine mgo (e3 _ _ hob) rfl ⟨_,_,_,_,_,_,_,rfl,hW.same e3,l0,by omega,fun hg=>?_,fun hg=>q3 l hm hc hg _ e3⟩
   have h3:=q4 l hm hc hg
   k_mem
   refine fgo hA.ob T.aK T.bE rfl ?_
   k_mem
   obtain ⟨dy,hyb⟩:=hA.ya.ob
   k_upd
   refine ⟨_,_,hyb,rfl,_,_,_,_,_,_,_,_,rfl,hA.ya,h0,h1,fun h=>absurd ⟨l0,l1⟩ h,fun _ _ h=>absurd hm h,fun _ _ _ H4 k4 hw4=>?_⟩
   have e4:=e3.keeps k4 hw1
   have hA4:aU (clZ Z) K H4 rl g s1 A (cv g (ai n0 rs) (.unload c)):=by
    have:=hA.spots k4 hw4
    simp only [cv,hc,Option.getD_some]
    exact this
   clear k4 hw4
   k_mem
   refine ⟨_,_,e4 _ _ hob,rfl,by decide,fun p hp=>?_⟩
   have e5:=e4.lay (o:=HO.tup [V.str (Str.ofString "unload"),V.int c]) hp
   have f5:=(aq.refl H4).lay (o:=HO.tup [V.str (Str.ofString "unload"),V.int c]) hp
   k_upd
   refine ⟨_,_,_,_,_,_,p,s1,1,ddV (.unload c),cv g (ai n0 rs) (.unload c),rfl,hW.same e5,SqT.of (by rw [ag];rfl),?_,?_,fun h H' s'=>h3.1 h H' (e5.trans s'),fun h H' k hWn=>?_⟩
   ·exact (aU.at hA4).same f5
   ·rw [hks];first | rfl | simp only [cv,List.length_set]
   ·k_upd
    exact h3.2 h H' ((aA.of e5).trans k) hWn
 ·rw [inC,if_neg hm]
  k_upd
  rw [if_pos rfl]
  k_upd
  exact ⟨by decide,q1 hm _ e2⟩
variable (nY:KM P w K mg base (CXf P w) 6 Z.bq "unload" (ik K Z))
noncomputable def HQ (g:Cfg)(n:aM)(t:Int):List Dt:=[.flat (.int t),.tup ((lz n.e).map Dt.flat),.lst ((n.gates.map V.bl).map Dt.flat),.lst (((cO n.fs).map V.int).map Dt.flat),.tup ([V.int n.place,V.int (cu g.ds - n.place)].map Dt.flat),.lst ((n.ws.map V.int).map Dt.flat)]
noncomputable def KP (ws:List Int):Dt:=.lst [.flat (inC ws 0),.flat (inC ws 1)]
def JY (H:Hp)(held:Addr)(ws:List Int)(a0 a1 a2 a3 a4 a5 a6 a7 a8 a9:V)(i:Nat)(σ:St)(H':Hp):Prop:=aA held H H'/\(∃x0 x1,H' held=some (.lst [x0,x1])/\HV ws i 0 x0/\HV ws i 1 x1)/\∃t,σ=[some a0,some a1,some a2,some a3,some a4,some a5,some a6,some a7,some a8,some a9,some (.ref held),t,none,none,none]
inductive tJ (K:WA)(Z:Adr)(vs:List V)(H:Hp)(Q:VK)(E:XK):Prop | mk (H0:Hp) (wk bk rl p dl cl ll sl wl:Addr) (g:Cfg) (lds:List Ld) (n0:aM) (rs:List Row):vs=[.ref wk,.ref p,.ref sl,.ref wl]->iY (clZ Z) K H0 H p dl cl ll wk bk rl sl wl g lds n0 rs->rs.length<=300->(∀H',aq H H'->Q (.bl true) H')->tJ K Z vs H Q E
include T jN rA nR rB pk pw ie gI kU gN in
theorem Fv:FF P w K mg base (CXf P w) 6 "_law_view" "_law_view" jf Bg (tJ K Z):=fkF de fun vs H Q E h=>by
 obtain ⟨H0,wk,bk,rl,p,dl,cl,ll,sl,wl,g,lds,n0,rs,rfl,hX,h300,q⟩:=h
 k_all
 obtain ⟨t2,h2,k2⟩:∃t,PSs (cxF P w K mg base ["_law_works","_law_setup_here","_law_states","_law_rows","_law_place","_law_gates","_law_lying","_law_heard_here","_law_dead","_law_clock","_law_held","_law_k","_law_waits","_law_due","_law_found"] "_law_view" (aj jf) zf zv zA zo zs H E) ((bH jf).drop 5) t/\∀(gt lt ht dt held waits due:Addr) (kk:Option V) (dv:List V) (H1:Hp),aq H H1->SqT K H1 gt ((ai n0 rs).gates.map V.bl)->H1 due=some (.lst dv)->dv.length=6->kG K H1 3 dv (HQ g (ai n0 rs) (cS rs))->Rep K H1 3 (.ref held) (KP (ai n0 rs).ws)->Rep K H1 3 (.ref waits) (De (ai n0 rs).ws g.ds.length)->t ({nx:=fun _ H2=>Q .non H2,rt:=Q}:gO) [some (.ref wk),some (.ref p),some (.ref sl),some (.ref wl),some (.int (ai n0 rs).place),some (.ref gt),some (.ref lt),some (.ref ht),some (.ref dt),some (.int (cS rs)),some (.ref held),kk,some (.ref waits),some (.ref due),none] H1:=by
  refine seg 3 (ah (az (dc0 gN hr.dn (pa2 (aP lG (pv' 14) (bc (pa1 (dw (pv' 0) rA hr.dn aY)))) (aP lG (pv' 13) (bc (pa3 (pv' 10) (pv' 12) (pv' 3)))))))) fun zt3 zh3 ze3=>?_
  refine seg 2 (ae (bb (oE PySem.F.plainAttrs_list PySem.F.slot_list_append PySem.F.type_list_append dO (pv' 14) (pa1 (jA ["_law_at_here","_law_works"] [none,some 0] (bf (by rfl) T.cq (pa1 (aH aw (by rfl) T.bN ba (pa1 (pv' 5))))) (fun _ _ _ _=>(aB (i:=0) (show (["_law_at_here","_law_works"]:List Str).Nodup by decide +kernel) rfl orL)) (fun _ _ _ _=>fO) (fun _ _ _ _=>(dm' (pv' 1) kU.calm0 hr.dn aY (pa1 (pv' 0)))))))) zh3) fun zt2 zh2 ze2=>?_
  refine seg 1 (ae (bb (oE PySem.F.plainAttrs_list PySem.F.slot_list_append PySem.F.type_list_append dO (pv' 14) (pa1 (bc (pa2 (dm' (pv' 0) ie hr.dn aY (pa1 af)) (dm' (pv' 0) ie hr.dn aY (pa1 af))))))) zh2) fun zt1 zh1 ze1=>?_
  refine ⟨_,ae (aD (i:=14) de.nd rfl orL (bc (cV (dw (pv' 0) jN hr.dn aY) (cV (dw (pv' 0) nR hr.dn aY) (pa4 (dw (pv' 0) pk hr.dn aY) (dw (pv' 0) rB hr.dn aY) (dw (pv' 0) gI hr.dn aY) (dw (pv' 0) pw hr.dn aY)))))) zh1,?_⟩
  intro gt lt ht dt held waits due kk dv H1 s1 hgt hdue hdv hrep hheld hwaits
  have hW:=(hX.same s1).da.wk
  have hg:=hX.cg
  have hn:=hX.snap
  have gl:=hn.gl
  have wl':=hn.wl
  have k30:=hg.k30
  have l6:=hg.sh.l6
  have l2:=hg.sh.l2
  have fl:=hn.fl
  obtain ⟨⟨dx,dl',gl',hob,_⟩,_⟩:=id hW
  k_mem
  refine mgo hob rfl ⟨_,_,_,_,_,_,rfl,hW,?_⟩
  k_mem
  refine mgo hob rfl ⟨_,_,_,_,_,_,rfl,hW,fun st hst=>?_⟩
  k_mem
  refine mgo hob rfl ⟨_,_,_,_,_,_,rfl,hW,fun p1 hp1=>?_⟩
  (generalize hE:upd H1 p1 _=H2 at *;have s2:=cC hE hp1;have e1:=bu hE;clear hE)
  k_mem
  refine mgo (s2 _ _ hob) rfl ⟨_,_,_,_,_,_,rfl,hW.same s2,by omega,fun p2 H3 hp2 s3 e2=>?_⟩
  have s13:=s2.trans s3
  k_mem
  refine mgo (s13 _ _ hob) rfl ⟨_,_,_,_,_,_,rfl,hW.same s13,by omega,fun p3 hp3=>?_⟩
  (generalize hE:upd H3 p3 _=H4 at *;have s4:=cC hE hp3;have e3:=bu hE;clear hE)
  have s14:=s13.trans s4
  k_mem
  refine mgo (s14 _ _ hob) rfl ⟨_,_,_,_,_,_,rfl,hW.same s14,fun p4 hp4=>?_⟩
  (generalize hE:upd H4 p4 _=H5 at *;have s5:=cC hE hp4;have e4:=bu hE;clear hE)
  have s15:=s14.trans s5
  have hf6:kG K H5 3 [.int (cS rs),.ref st,.ref p1,.ref p2,.ref p3,.ref p4] (HQ g (ai n0 rs) (cS rs)):=
   .cons (.flat rfl) (.cons (eS (s15.tup hst) (by rw [AD];decide) (sg _)) (.cons (yj (SqL.of (((s3.trans s4).trans s5) _ _ e1)) (by omega)) (.cons (mK (SqL.of ((s4.trans s5) _ _ e2)) (by have:=sv (ai n0 rs).fs;omega)) (.cons (eS (SqT.of (s5 _ _ e3)) (by show 2<=100000;decide) (A5 rfl rfl)) (.cons (mK (SqL.of e4) (by omega)) .nil)))))
  k_mem
  refine ⟨by decide,fun fo hfo=>?_⟩
  (generalize hE:upd H5 fo _=H6 at *;have s6:=cC hE hfo;have e6:=bu hE;clear hE)
  have s16:=s15.trans s6
  k_upd
  refine ⟨.inl ⟨rfl,_,SqL.of e6⟩,?_⟩
  k_upd
  refine mgo (s16 _ _ hob) rfl ⟨_,_,_,_,_,_,_,rfl,hW.same s16,by omega,by omega,fun H7 s7=>?_⟩
  have s17:=s16.trans s7
  k_mem
  refine mgo (s17 _ _ hob) rfl ⟨_,_,_,_,_,_,_,rfl,hW.same s17,by omega,by omega,fun H8 s8=>?_⟩
  have s18:=s17.trans s8
  k_mem
  refine ⟨by decide,fun ic hic=>?_⟩
  (generalize hE:upd H8 ic _=H9 at *;have s9:=cC hE hic;have e9:=bu hE;clear hE)
  have s19:=s18.trans s9
  k_upd
  refine ⟨_,((s7.trans s8).trans s9) _ _ e6,by show 6 < sizeLine;decide,?_⟩
  have k10:L2.aA fo H9 (upd H9 fo (HO.lst ([V.int (cS rs),V.ref st,V.ref p1,V.ref p2,V.ref p3,V.ref p4]++[V.ref ic]))):=(aA.of (aq.refl H9)).put
  have e10:upd H9 fo (HO.lst ([V.int (cS rs),V.ref st,V.ref p1,V.ref p2,V.ref p3,V.ref p4]++[V.ref ic])) fo=some (HO.lst [V.int (cS rs),V.ref st,V.ref p1,V.ref p2,V.ref p3,V.ref p4,V.ref ic]):=ag
  have ffo:H5 fo=none:=hfo
  generalize upd H9 fo (HO.lst ([V.int (cS rs),V.ref st,V.ref p1,V.ref p2,V.ref p3,V.ref p4]++[V.ref ic]))=H10 at *
  have nic:ic≠fo:=fun z=>by
   have:=(s7.trans s8) _ _ e6
   rw [←z,hic] at this
   cases this
  have s5A:aq H5 H10:=(((s6.trans s7).trans s8).trans s9).keeps k10 ffo
  have s1A:aq H1 H10:=s15.trans s5A
  have eicA:H10 ic=some (HO.lst [inC (ai n0 rs).ws 0,inC (ai n0 rs).ws 1]):=k10 _ _ nic e9
  k_mem
  refine ⟨.inl ⟨rfl,_,SqL.of e10⟩,?_⟩
  k_upd
  refine ⟨_,.inr (s1A.tup hgt),by omega,by rw [WB];omega,?_⟩
  rw [WB,Int.toNat_natCast,gl]
  refine ly (fun i acc H'=>aq H10 H'/\∃as:List Addr,acc=as.map V.ref/\eC H' (ai n0 rs).ws as i/\∀a∈as,H10 a=none) ⟨aq.refl _,[],rfl,eC.nil,fun a h=>by cases h⟩ rfl ?_ ?_
  ·rintro i acc H' hi ⟨sx,as,rfl,hws,hfr⟩
   k_upd
   refine ⟨by rw [WB,hws.1,sizeLine_eq];omega,fun N hN=>?_⟩
   have s1x:=s1A.trans sx
   k_mem
   refine mgo (s1x _ _ hob) rfl ⟨_,_,_,_,_,_,_,rfl,hW.same s1x,by omega,fun _ pp H'' hpp sy epp=>?_,fun z=>absurd ⟨by omega,by omega⟩ z⟩
   refine hN _ _ ⟨sx.trans sy,as++[pp],by rw [List.map_append];rfl,(hws.same sy).push (by rw [Int.zero_add] at epp;exact epp),fun a ha=>?_⟩
   rcases List.mem_append.mp ha with ha | ha
   ·exact hfr a ha
   ·rw [List.mem_singleton] at ha
    rw [ha]
    exact sx.free hpp
  rintro acc HA ⟨sx,as,rfl,hws,hfr⟩ al hal
  (generalize hE:upd HA al _=HB at *;have sy:=cC hE hal;have eal:=bu hE;clear hE)
  have sAB:=sx.trans sy
  k_mem
  refine ⟨_,sAB _ _ e10,by show 7 < sizeLine;decide,?_⟩
  have k11:L2.aA fo HB (upd HB fo (HO.lst ([V.int (cS rs),V.ref st,V.ref p1,V.ref p2,V.ref p3,V.ref p4,V.ref ic]++[V.ref al]))):=(aA.of (aq.refl HB)).put
  have e11:upd HB fo (HO.lst ([V.int (cS rs),V.ref st,V.ref p1,V.ref p2,V.ref p3,V.ref p4,V.ref ic]++[V.ref al])) fo=some (HO.lst [V.int (cS rs),V.ref st,V.ref p1,V.ref p2,V.ref p3,V.ref p4,V.ref ic,V.ref al]):=ag
  generalize upd HB fo (HO.lst ([V.int (cS rs),V.ref st,V.ref p1,V.ref p2,V.ref p3,V.ref p4,V.ref ic]++[V.ref al]))=HC at *
  have s5C:aq H5 HC:=(s5A.trans sAB).keeps k11 ffo
  have s1C:aq H1 HC:=s15.trans s5C
  have eicC:=k11 _ _ nic (sAB _ _ eicA)
  have ealC:=k11 _ _ (fun z=>by have:=sx _ _ e10;rw [←z,hal] at this;cases this) eal
  have hwsC:eC HC (ai n0 rs).ws as g.ds.length:=⟨hws.1,fun j a e=>k11 _ _ (fun z=>by
   have:=hfr a (List.mem_of_getElem? e)
   rw [z,e10] at this
   cases this) (sy _ _ (hws.2 j a e))⟩
  have hWC:=hW.same s1C
  have hX1:=hX.same s1
  obtain ⟨bs,hwl,hB⟩:=hX1.da.ro
  k_mem
  refine mgo (s1C _ _ hob) rfl ⟨_,_,_,_,_,_,rfl,hWC,by omega,fun bp bas HD hbp sD ebp hbt=>?_⟩
  k_mem
  refine ⟨by decide,fun l1 hl1=>?_⟩
  (generalize hE:upd HD l1 _=HE at *;have sE:=cC hE hl1;have eE:=bu hE;clear hE)
  have sCE:=sD.trans sE
  have s1E:=s1C.trans sCE
  k_upd
  refine ⟨_,sCE _ _ e11,_,eE,by show 9<=sizeLine;decide,fun fo2 hfo2=>?_⟩
  have sF:=(aq.refl HE).lay (o:=HO.lst ([V.int (cS rs),V.ref st,V.ref p1,V.ref p2,V.ref p3,V.ref p4,V.ref ic,V.ref al]++[V.ref bp])) hfo2
  have eF:upd HE fo2 (HO.lst ([V.int (cS rs),V.ref st,V.ref p1,V.ref p2,V.ref p3,V.ref p4,V.ref ic,V.ref al]++[V.ref bp])) fo2=some (HO.lst [V.int (cS rs),V.ref st,V.ref p1,V.ref p2,V.ref p3,V.ref p4,V.ref ic,V.ref al,V.ref bp]):=ag
  generalize upd HE fo2 (HO.lst ([V.int (cS rs),V.ref st,V.ref p1,V.ref p2,V.ref p3,V.ref p4,V.ref ic,V.ref al]++[V.ref bp]))=HF at *
  have s1F:=s1E.trans sF
  k_upd
  refine ⟨by decide,fun l2 hl2=>?_⟩
  (generalize hE:upd HF l2 _=HG at *;have sG:=cC hE hl2;have eG:=bu hE;clear hE)
  have s1G:=s1F.trans sG
  k_upd
  refine ⟨_,s1G _ _ hdue,_,eG,by rw [hdv];show 9<=sizeLine;decide,fun du2 hdu2=>?_⟩
  (generalize hE:upd HG du2 _=HH at *;have sH:=cC hE hdu2;have eH:=bu hE;clear hE)
  have s1H:=s1G.trans sH
  have sEH:=(sF.trans sG).trans sH
  have hdeeds:=hX.da.run.deeds
  k_upd
  refine ⟨_,_,.lst (HQ g (ai n0 rs) (cS rs)++[KP (ai n0 rs).ws,De (ai n0 rs).ws g.ds.length,Ku rs]),rfl,?_,?_,fun HI sI=>q HI ((s1.trans s1H).trans sI)⟩
  ·refine kG.rep (xs:=[V.int (cS rs),V.ref st,V.ref p1,V.ref p2,V.ref p3,V.ref p4]++[V.ref ic,V.ref al,V.ref bp]) ((hf6.same (((s5C.trans sCE).trans sEH))).append (.cons ?_ (.cons ?_ (.cons ?_ .nil)))) (SqL.of ((sG.trans sH) _ _ eF)) (by show 9<=100000;decide)
   ·exact AF (SqL.of ((sCE.trans sEH) _ _ eicC)) (.flat (qD _ _)) (.flat (qD _ _))
   ·exact yr (SqL.of ((sCE.trans sEH) _ _ ealC)) (hwsC.same (sCE.trans sEH)) (by omega) (by omega)
   ·exact AS (SqL.of ((sE.trans sEH) _ _ ebp)) (hbt.same (sE.trans sEH)) hdeeds (by omega)
  ·refine kG.rep ((hrep.same s1H).append (.cons (hheld.same s1H) (.cons (hwaits.same s1H) (.cons ?_ .nil)))) (SqL.of eH) (by rw [List.length_append,hdv];show 9<=100000;decide)
   exact AS (SqL.of (s1H _ _ hwl)) (hB.same s1H) hdeeds (by omega)
 obtain ⟨t1,h1,k1⟩:∃t,PSs (cxF P w K mg base ["_law_works","_law_setup_here","_law_states","_law_rows","_law_place","_law_gates","_law_lying","_law_heard_here","_law_dead","_law_clock","_law_held","_law_k","_law_waits","_law_due","_law_found"] "_law_view" (aj jf) zf zv zA zo zs H E) ((bH jf).drop 3) t/\∀(gt lt ht dt held:Addr) (kk:Option V) (H1:Hp),aq H H1->SqT K H1 gt ((ai n0 rs).gates.map V.bl)->H1 lt=some (.tup ((ai n0 rs).ws.map V.int))->SqT K H1 ht (lz (ai n0 rs).e)->SqT K H1 dt ((cO (ai n0 rs).fs).map V.int)->H1 held=some (.lst [inC (ai n0 rs).ws 0,inC (ai n0 rs).ws 1])->t ({nx:=fun _ H2=>Q .non H2,rt:=Q}:gO) [some (.ref wk),some (.ref p),some (.ref sl),some (.ref wl),some (.int (ai n0 rs).place),some (.ref gt),some (.ref lt),some (.ref ht),some (.ref dt),some (.int (cS rs)),some (.ref held),kk,none,none,none] H1:=by
  refine seg 1 (ae (aD (i:=13) de.nd rfl orL (bc (cV (pv' 9) (cV (pv' 7) (pa4 (bg bx (by rfl) T.eh cW (pa1 (pv' 5))) (bg bx (by rfl) T.eh cW (pa1 (pv' 8))) (aQ (pa2 (pv' 4) (aP dB (ao av (ao av (pv' 1) af) (gJ dj af)) (pv' 4)))) (bg bx (by rfl) T.eh cW (pa1 (pv' 6)))))))) h2) fun zt1 zh1 ze1=>?_
  refine ⟨_,ae (Me ["_law_at_here","_law_lying"] "_law_at_here" [none,some 6] (iy:=12) de.nd rfl rfl (bf (by rfl) T.cq (pa1 (aH aw (by rfl) T.bN ba (pa1 (pv' 5))))) (fun _ _ _ _=>(aB (i:=0) (show (["_law_at_here","_law_lying"]:List Str).Nodup by decide +kernel) rfl (Or.inr rfl))) (fun _ _ _ _=>fO) (fun _ _ _ _=>(jA ["_law_k","_law_lying","_law_at_here"] [none,some 1,some 0] (bf (by rfl) T.cq (pa1 (aH (show ez _ (.builtin "len") (GY K) from aw) (by rfl) T.bN ba (pa1 (pv' 1))))) (fun _ _ _ _=>(aB (i:=0) (show (["_law_k","_law_lying","_law_at_here"]:List Str).Nodup by decide +kernel) rfl orL)) (fun _ _ _ _=>(ix (bQ (ao (show IxR _ (qC K) from au) (pv' 1) (pv' 0)) (pv' 2)))) (fun _ _ _ _=>(pv' 0))))) zh1,?_⟩
  intro gt lt ht dt held kk H1 s1 h2 h3 h4 h5 hheld
  have hg:=hX.cg
  have hn:=hX.snap
  have gl:=hn.gl
  have wl':=hn.wl
  have k30:=hg.k30
  have l6:=hg.sh.l6
  have l2:=hg.sh.l2
  have fl:=hn.fl
  have hP:=hX.setup.same s1
  k_mem
  refine ⟨_,.inr h2,by omega,by rw [WB];omega,?_⟩
  rw [WB,Int.toNat_natCast,gl]
  refine ly (fun i acc H'=>aq H1 H'/\∃as:List Addr,acc=as.map V.ref/\eC H' (ai n0 rs).ws as i) ⟨aq.refl _,[],rfl,eC.nil⟩ rfl ?_ ?_
  ·rintro i acc H' hi ⟨sx,as,rfl,hws⟩
   k_upd
   refine ⟨by rw [WB,hws.1,sizeLine_eq];omega,fun N hN=>?_⟩
   k_mem
   refine ⟨_,.inr (SqT.of (sx _ _ h3)),by omega,by rw [WB];omega,?_⟩
   rw [WB,Int.toNat_natCast]
   refine dR (fun j=>decide ((ai n0 rs).ws.getD j 0=(i:Int))) (fun (j:Nat)=>.int (j:Int)) (by rw [sizeLine_eq];omega) rfl (fun j hj N hN=>?_) (fun j hj _ N hN=>?_) fun lv hlv=>?_
   ·k_mem
    k_upd
    refine ⟨_,SqT.of (sx _ _ h3),_,by rw [Int.zero_add];exact gL hj,?_⟩
    k_mem
    rw [Int.zero_add]
    by_cases e:(ai n0 rs).ws.getD j 0=(i:Int)
    ·rw [if_pos e];rw [decide_eq_true e] at hN;exact hN
    ·rw [if_neg e];rw [decide_eq_false e] at hN;exact hN
   ·k_mem
    rw [Int.zero_add]
    exact hN
   ·refine hN _ _ ⟨sx.lay hlv,as++[lv],by rw [List.map_append];rfl,(hws.same ((aq.refl H').lay hlv)).push ?_⟩
    rw [ag]
    unfold iW wY
    rw [List.map_map];rfl
  rintro acc H2 ⟨sx,as,rfl,hws⟩ wt hwt
  have s3:=sx.lay (o:=HO.lst (as.map V.ref)) hwt
  (generalize hE:upd H2 wt _=H3 at *;have f3:=cC hE hwt;have ewt:=bu hE;clear hE)
  have s13:=s1.trans s3
  k_mem
  refine ⟨_,.inr (s3.tup h2),fun p1 hp1=>?_⟩
  (generalize hE:upd H3 p1 _=H4 at *;have f4:=cC hE hp1;have e4:=bu hE;clear hE)
  k_upd
  refine ⟨_,.inr ((s3.trans f4).tup h5),fun p2 hp2=>?_⟩
  (generalize hE:upd H4 p2 _=H5 at *;have f5:=cC hE hp2;have e5:=bu hE;clear hE)
  have s15:=(s3.trans f4).trans f5
  k_upd
  refine ⟨_,SqL.of (s15 _ _ hP.ob),_,rfl,?_⟩
  k_mem
  refine ⟨_,SqL.of (s15 _ _ hP.od),_,Cs (by omega),?_⟩
  k_mem
  refine ⟨by decide,fun p3 hp3=>?_⟩
  (generalize hE:upd H5 p3 _=H6 at *;have f6:=cC hE hp3;have e6:=bu hE;clear hE)
  have s16:=s15.trans f6
  k_upd
  refine ⟨_,.inr (SqT.of (s16 _ _ h3)),fun p4 hp4=>?_⟩
  (generalize hE:upd H6 p4 _=H7 at *;have f7:=cC hE hp4;have e7:=bu hE;clear hE)
  have s17:=s16.trans f7
  k_upd
  refine ⟨by decide,fun du hdu=>?_⟩
  (generalize hE:upd H7 du _=H8 at *;have f8:=cC hE hdu;have e8:=bu hE;clear hE)
  have s18:=s17.trans f8
  refine k2 gt lt ht dt held wt du kk _ H8 (s1.trans s18) (s18.tup h2) e8 rfl ?_ ?_ ?_
  ·exact .cons (.flat rfl) (.cons (eS (s18.tup h4) (by rw [AD];decide) (sg _)) (.cons (yj (SqL.of ((((f5.trans f6).trans f7).trans f8) _ _ e4)) (by omega)) (.cons (mK (SqL.of (((f6.trans f7).trans f8) _ _ e5)) (by have:=sv (ai n0 rs).fs;omega)) (.cons (eS (SqT.of ((f7.trans f8) _ _ e6)) (by show 2<=100000;decide) (A5 rfl rfl)) (.cons (mK (SqL.of (f8 _ _ e7)) (by omega)) .nil)))))
  ·exact AF (SqL.of (s18 _ _ hheld)) (.flat (qD _ _)) (.flat (qD _ _))
  ·have f38:=(((f4.trans f5).trans f6).trans f7).trans f8
   exact yr (SqL.of (f38 _ _ ewt)) ((hws.same f3).same f38) (by omega) (by omega)
 refine seg 2 (ae (cX u6 rfl (bf (by rfl) T.cq (pa1 (aH aw (by rfl) T.bN ba (pa1 (pv' 6))))) (aB (i:=11) de.nd rfl orL) (ah (aN (A9 (ao au (pv' 6) (pv' 11)) af) (ah (gP (pv' 11) (rT (pv' 10) (aP dB (ao au (pv' 6) (pv' 11)) af) iO))) (aC)))) h1) fun zt2 zh2 ze2=>?_
 refine seg 1 (ae (aD (i:=10) de.nd rfl orL (bc (pa2 eJ eJ))) zh2) fun zt1 zh1 ze1=>?_
 refine ⟨_,ae (gP (ao av (pv' 2) (gJ dj af)) (eV rfl (aG (aB (i:=4) de.nd rfl orL) (aG (aB (i:=5) de.nd rfl orL) (aG (aB (i:=6) de.nd rfl (Or.inr rfl)) (aG (aB (i:=7) de.nd rfl orL) (aG (aB (i:=8) de.nd rfl orL) (aG (aB (i:=9) de.nd rfl orL) cM)))))))) zh1,?_⟩
 obtain ⟨hW,⟨as,hsl,hA⟩,⟨bs,hwl,hB⟩,hNs,hNw,hne,hrun⟩:=id hX.da
 have hg:=hX.cg
 have hn:=hX.snap
 have wl':=hn.wl
 have k30:=hg.k30
 have l6:=hg.sh.l6
 obtain ⟨as1,a,rfl,hSt⟩:=vm hA
 obtain ⟨gt,lt,ht,dt,h1,h2,h3,h4,h5⟩:=hSt.un
 k_mem
 refine ⟨_,SqL.of hsl,_,jE,?_⟩
 k_mem
 refine ⟨_,h1,rfl,?_⟩
 k_mem
 refine ⟨by decide,fun held hheld=>?_⟩
 (generalize hE:upd H held _=H1 at *;have f1:=cC hE hheld;have e1:=bu hE;clear hE)
 k_upd
 refine ⟨_,.inr (SqT.of (f1 _ _ h3)),by omega,by rw [WB];omega,?_⟩
 rw [WB,Int.toNat_natCast]
 k_upd
 refine cj (JY H1 held (ai n0 rs).ws (.ref wk) (.ref p) (.ref sl) (.ref wl) (.int (ai n0 rs).place) (.ref gt) (.ref lt) (.ref ht) (.ref dt) (.int (cS rs))) ⟨aA.of (aq.refl _),⟨_,_,e1,HV.nil,HV.nil⟩,_,rfl⟩ ?_ ?_
 ·rintro i σ H2 hi ⟨k2,⟨x0,x1,ex,v0,v1⟩,t,rfl⟩
  have hlt:=f1.keeps k2 hheld _ _ h3
  have hwr:=hn.wr _ (cH hi)
  k_mem
  refine ⟨_,SqT.of hlt,_,by rw [Int.zero_add];exact gL hi,?_⟩
  k_mem
  split
  ·rename_i h10
   k_upd
   refine ⟨_,SqT.of hlt,_,by rw [Int.zero_add];exact gL hi,?_⟩
   k_mem
   rcases (by omega:(ai n0 rs).ws.getD i 0=10\/(ai n0 rs).ws.getD i 0=11) with e | e
   ·rw [e]
    k_upd
    refine ⟨_,ex,0,rfl,?_⟩
    rw [Int.zero_add]
    k_upd
    exact ⟨k2.put,⟨_,_,ag,HV.yes (by rw [e];rfl),v1.no (by rw [e];decide)⟩,_,rfl⟩
   ·rw [e]
    k_upd
    refine ⟨_,ex,1,rfl,?_⟩
    rw [Int.zero_add]
    k_upd
    exact ⟨k2.put,⟨_,_,ag,v0.no (by rw [e];decide),HV.yes (by rw [e];rfl)⟩,_,rfl⟩
  ·rename_i h10
   k_upd
   exact ⟨k2,⟨_,_,ex,v0.no (by omega),v1.no (by omega)⟩,_,rfl⟩
 ·rintro σ H2 ⟨k2,⟨x0,x1,ex,v0,v1⟩,t,rfl⟩
  have s2:=f1.keeps k2 hheld
  rw [v0.all hn (by omega),v1.all hn (by omega)] at ex
  exact k1 gt lt ht dt held t H2 s2 (s2.tup h2) (s2 _ _ h3) (s2.tup h4) (s2.tup h5) ex
variable (rP:KD P w K mg base (CXf P w) 6 "_law_view" (tJ K Z))
inductive oo (K:WA)(Z:Adr)(vs:List V)(H:Hp)(Q:VK)(E:XK):Prop | mk (w bk rl:Addr) (g:Cfg) (n0:aM) (rs:List Row) (c lv:Int) (kd:Str):vs=[.ref w,.int c,.int lv,.str kd]->WAt (clZ Z) K H w bk rl g n0 rs->fR g->cZ g (ai n0 rs)->((kd="men"\/kd="coal"))->(((0<=lv/\lv < g.ds.length)->dM g (ai n0 rs)=false->(ai n0 rs).e≠.armed lv (cz g.ls lv kd)))->(∀p H',aq H H'->H' p=some (.lst [.bl (!decide (0<=lv/\lv < g.ds.length)),.bl (decide (0<=lv/\lv < g.ds.length) && dM g (ai n0 rs)),.bl (decide (0<=lv/\lv < g.ds.length) && !dM g (ai n0 rs))])->Q (.ref p) H')->oo K Z vs H Q E
include T iJ in
theorem Fw:FF P w K mg base CX0 6 "_law_wind" "_law_wind" vT Bi (oo K Z):=fk0 oj fun vs H Q E h=>by
 obtain ⟨w,bk,rl,g,n0,rs,c,lv,kd,rfl,hW,hg,hn,hkd,hna,q⟩:=h
 k_all
 refine seg 2 (ah (az (pv' 4))) fun zt2 zh2 ze2=>?_
 refine seg 1 (ae (LF (i:=5) rfl rfl (fun _ _=>ah (bb (dmT (pv' 0) iJ hr.dn (pa3 (pv' 1) (pv' 2) (pv' 3))))) (fun _=>ah (aD (i:=4) oj.nd rfl orL (bc (pa3 (aH (show ez _ (.builtin "isinstance") (Gs K) from u7) (by rfl) T.bZ bJ (pa2 (pv' 5) (uF (v:=.ref Z.aF) (by rfl) T.nE rfl))) (aH (show ez _ (.builtin "isinstance") (Gs K) from u7) (by rfl) T.bZ bJ (pa2 (pv' 5) (uF (v:=.ref Z.bj) (by rfl) T.vZ rfl))) (aH (show ez _ (.builtin "isinstance") (Gs K) from u7) (by rfl) T.bZ bJ (pa2 (pv' 5) (uF (v:=.ref Z.aZ) (by rfl) T.vY rfl))))))) oj.nd rfl rfl (by rfl) T.Bp) zh2) fun zt1 zh1 ze1=>?_
 refine ⟨_,ae (aD (i:=4) oj.nd rfl orL (bc ff)) zh1,?_⟩
 k_mem
 refine ⟨by decide,fun h0 hh0=>?_⟩
 (generalize hE:upd H h0 _=H1 at *;have s1:=cC hE hh0;have e1:=bu hE;clear hE)
 have hW1:=hW.same s1
 obtain ⟨dx,dl,gl,hob,_⟩:=id hW1.ob
 have l6:=hg.sh.l6
 have lc:=hg.lc
 have sp:=hg.speed (ai n0 rs)
 k_mem
 refine ⟨_,_,_,rfl,hob,rfl,_,_,_,_,_,_,_,_,_,rfl,hW1,by omega,hn.wl.symm,hg.sh,hn.gl,lc,sp.1,sp.2,hkd,fun hu H2 s2=>?_,fun k0 k1 ho H2 s2=>?_,fun k0 k1 ho he H2 s2=>?_,fun k0 k1 ho he=>absurd he (hna ⟨k0,k1⟩ ho)⟩
 ·k_upd
  refine ⟨T.ka,fun y hy=>?_⟩
  (generalize hE:upd H2 y _=H3 at *;have s3:=cC hE hy;have e3:=bu hE;clear hE)
  refine ze e3 T.jg T.iF fP (ze e3 T.jg T.kO fP (ze e3 T.jg T.kP fP ⟨by decide,fun p1 hp1=>?_⟩))
  (generalize hE:upd H3 p1 _=H4 at *;have s4:=cC hE hp1;have e4:=bu hE;clear hE)
  k_mem
  refine q p1 H4 (((s1.trans s2).trans s3).trans s4) ?_
  rw [e4,decide_eq_false hu,Bool.false_and,Bool.false_and,Bool.not_false]
 ·k_upd
  refine ⟨T.nJ,fun y hy=>?_⟩
  (generalize hE:upd H2 y _=H3 at *;have s3:=cC hE hy;have e3:=bu hE;clear hE)
  refine ze e3 T.pV T.kR fP (ze e3 T.pV T.oz fP (ze e3 T.pV T.oA fP ⟨by decide,fun p1 hp1=>?_⟩))
  (generalize hE:upd H3 p1 _=H4 at *;have s4:=cC hE hp1;have e4:=bu hE;clear hE)
  k_mem
  refine q p1 H4 (((s1.trans s2).trans s3).trans s4) ?_
  rw [e4,decide_eq_true ⟨k0,k1⟩,ho,Bool.true_and,Bool.true_and,Bool.not_true]
 ·k_upd
  refine ⟨T.nH,fun y hy=>?_⟩
  (generalize hE:upd H2 y _=H3 at *;have s3:=cC hE hy;have e3:=bu hE;clear hE)
  refine ze e3 T.pU T.kQ fP (ze e3 T.pU T.ox fP (ze e3 T.pU T.oy fP ⟨by decide,fun p1 hp1=>?_⟩))
  (generalize hE:upd H3 p1 _=H4 at *;have s4:=cC hE hp1;have e4:=bu hE;clear hE)
  k_mem
  refine q p1 H4 (((s1.trans s2).trans s3).trans s4) ?_
  rw [e4,decide_eq_true ⟨k0,k1⟩,ho,Bool.true_and,Bool.true_and,Bool.not_true,Bool.not_false]
variable (rQ:KD P w K mg base CX0 6 "_law_wind" (oo K Z))
noncomputable def NS (Z:Adr):Rw->Addr
 | .lv=>Z.aF
 | .db=>Z.fq
 | .nc=>Z.g0
 | .nr=>Z.cQ
 | .ch=>Z.dG
 | .na=>Z.aZ
 | .ul=>Z.cE
 | .nt=>Z.eO
 | .ct=>Z.dW
 | .gs=>Z.eQ
 | .ce=>Z.dX
 | .go=>Z.bj
inductive tK (K:WA)(Z:Adr)(vs:List V)(H:Hp)(Q:VK)(E:XK):Prop | mk (w bk rl dd:Addr) (g:Cfg) (n0:aM) (rs:List Row):vs=[.ref w,.ref dd]->WAt (clZ Z) K H w bk rl g n0 rs->fR g->cZ g (ai n0 rs)->rs.length < 300->(((∃d,SqT K H dd (ddV d)/\vf d/\(∀r,eI g (ai n0 rs) d=some r->∀H',aq H H'->E (.ref (NS Z r)) none H')/\(eI g (ai n0 rs) d=none->∀v H',aA rl H H'->WAt (clZ Z) K H' w bk rl g n0 (rs++[mi g n0 rs d])->w8 K H' (ai n0 rs) (cS rs+sk g (ai n0 rs) d) d v->Q v H'))\/
  (SqT K H dd [.str "take back"]/\∃rs' r,rs=rs'++[r]/\∀p H',aA rl H H'->WAt (clZ Z) K H' w bk rl g n0 rs'->SqT K H' p r.deed->Q (.ref p) H')))->tK K Z vs H Q E
include T jM rK nW rL iJ jO jP rO nY in
theorem Fx:FF P w K mg base (CXf P w) 7 "_law_call" "_law_call" vR Bf (tK K Z):=fkF Fh fun vs H Q E h=>by
 obtain ⟨w,bk,rl,dd,g,n0,rs,rfl,hW,hg,hn,h300,hc⟩:=h
 k_all
 refine seg 8 (ah (az (dw (pv' 0) jM hr.dn bG))) fun zt8 zh8 ze8=>?_
 refine seg 7 (ae (aN (bQ (ao au (pv' 1) af) aE) (ah (az (dm' (pv' 0) rL hr.dn bG (pa1 (ao au (pv' 1) af))))) (aC)) zh8) fun zt7 zh7 ze7=>?_
 refine seg 6 (ae (aN (bQ (ao au (pv' 1) af) aE) (ah (az (dm' (pv' 0) iJ hr.dn bG (pa3 (ao au (pv' 1) af) (ao au (pv' 1) af) (ao au (pv' 1) af))))) (aC)) zh7) fun zt6 zh6 ze6=>?_
 refine seg 5 (ae (aN (bQ (ao au (pv' 1) af) aE) (ah (az (dm' (pv' 0) nY hr.dn bG (pa1 (ao au (pv' 1) af))))) (aC)) zh6) fun zt5 zh5 ze5=>?_
 refine seg 4 (ae (aN (bQ (ao au (pv' 1) af) aE) (ah (az (dm' (pv' 0) rO hr.dn bG (pa2 (ao au (pv' 1) af) (ao au (pv' 1) af))))) (aC)) zh5) fun zt4 zh4 ze4=>?_
 refine seg 3 (ae (aN (bQ (ao au (pv' 1) af) aE) (ah (az (dm' (pv' 0) jP hr.dn bG (pa1 (ao au (pv' 1) af))))) (aC)) zh4) fun zt3 zh3 ze3=>?_
 refine seg 2 (ae (aN (bQ (ao au (pv' 1) af) aE) (ah (az (dm' (pv' 0) jO hr.dn bG (pa1 (ao au (pv' 1) af))))) (aC)) zh3) fun zt2 zh2 ze2=>?_
 refine seg 1 (ae (aN (bQ (ao au (pv' 1) af) aE) (ah (az (dm' (pv' 0) nW hr.dn bG (pa1 (ao au (pv' 1) af))))) (aC)) zh2) fun zt1 zh1 ze1=>?_
 refine ⟨_,ae (aN (bQ (ao au (pv' 1) af) aE) (ah (az (dm' (pv' 0) rK hr.dn bG (pa2 (ao au (pv' 1) af) (ao au (pv' 1) af))))) (aC)) zh1,?_⟩
 obtain ⟨⟨dx,dl,gl,hob,hdl,hgl,n1,n2⟩,hB⟩:=id hW
 have l2:=hg.sh.l2
 have l6:=hg.sh.l6
 have lc:=hg.lc
 have wl:=hn.wl
 have gk:=hg.gk
 have full:¬300<=rs.length:=by omega
 k_mem
 rcases hc with ⟨d,hD,ok,qe,q⟩ | ⟨hD,rs2,r,rfl,q⟩
 rotate_left
 ·k_upd
  refine ⟨_,hD,_,rfl,?_⟩
  k_mem
  rw [if_neg (by decide)]
  k_upd
  refine ⟨_,hD,_,rfl,?_⟩
  k_mem
  rw [if_neg (by decide)]
  k_upd
  refine ⟨_,hD,_,rfl,?_⟩
  k_mem
  rw [if_neg (by decide)]
  k_upd
  refine ⟨_,hD,_,rfl,?_⟩
  k_mem
  rw [if_neg (by decide)]
  k_upd
  refine ⟨_,hD,_,rfl,?_⟩
  k_mem
  rw [if_neg (by decide)]
  k_upd
  refine ⟨_,hD,_,rfl,?_⟩
  k_mem
  rw [if_neg (by decide)]
  k_upd
  refine ⟨_,hD,_,rfl,?_⟩
  k_mem
  rw [if_neg (by decide)]
  k_upd
  refine ⟨_,hD,_,rfl,?_⟩
  k_mem
  rw [if_neg (by decide)]
  k_upd
  exact ⟨_,_,hob,rfl,_,_,_,_,_,_,rfl,hW,fun z=>by simp at z,fun rs3 r3 e p H2 k hW2 hp=>by obtain ⟨rfl,rfl⟩:=AR e;exact q p H2 k hW2 hp⟩
 ·cases d with
  | ring l s=>
   refine ⟨_,hD,_,rfl,?_⟩
   k_mem
   rw [if_pos rfl]
   k_upd
   refine mgo hob rfl ⟨_,hD,_,rfl,_,hD,_,rfl,?_⟩
   k_mem
   refine ⟨_,_,_,_,_,_,_,_,rfl,hW,by omega,wl.symm,fun h H2 s2=>qe .lv ?_ H2 s2,fun h h' h3 H2 s2=>qe .db ?_ H2 s2,fun h h' h3 h4 H2 s2=>qe .nc ?_ H2 s2,fun h h' h3 h4=>⟨fun z=>absurd z full,fun _ H2 k2 hW2=>q ?_ _ H2 k2 hW2 rfl⟩⟩
   ·rw [lc] at h
    exact if_pos h
   ·rw [lc] at h'
    exact (if_neg (fun z=>z ⟨h,h'⟩)).trans (if_pos h3)
   ·rw [lc] at h'
    exact (if_neg (fun z=>z ⟨h,h'⟩)).trans ((if_neg (by rw [h3];exact Bool.false_ne_true)).trans (if_neg h4))
   ·rw [lc] at h'
    exact (if_neg (fun z=>z ⟨h,h'⟩)).trans ((if_neg (by rw [h3];exact Bool.false_ne_true)).trans (if_pos h4))
  | rept s=>
   refine ⟨_,hD,_,rfl,?_⟩
   k_mem
   rw [if_neg (by decide)]
   k_upd
   refine ⟨_,hD,_,rfl,?_⟩
   k_mem
   rw [if_pos rfl]
   k_upd
   refine mgo hob rfl ⟨_,hD,_,rfl,?_⟩
   k_mem
   refine ⟨_,_,_,_,_,_,_,rfl,hW,by omega,wl.symm,fun h H2 s2=>qe .nr ?_ H2 s2,fun l r e h H2 s2=>qe .nc ?_ H2 s2,fun l r e h=>⟨fun z=>absurd z full,fun _ p H2 k2 hW2 hT=>q ?_ _ H2 k2 hW2 ⟨p,l,r,rfl,e,hT⟩⟩⟩
   ·simp only [eI]
   ·simp only [eI,e];exact if_neg h
   ·simp only [eI,e];exact if_pos h
  | opn l=>
   refine ⟨_,hD,_,rfl,?_⟩
   k_mem
   rw [if_neg (by decide)]
   k_upd
   refine ⟨_,hD,_,rfl,?_⟩
   k_mem
   rw [if_neg (by decide)]
   k_upd
   refine ⟨_,hD,_,rfl,?_⟩
   k_mem
   rw [if_pos rfl]
   k_upd
   refine mgo hob rfl ⟨_,hD,_,rfl,?_⟩
   k_mem
   refine ⟨_,_,_,_,_,_,_,rfl,hW,by omega,wl.symm,hn.gl,fun h H2 s2=>qe .lv (if_pos h) H2 s2,fun h h' h3 H2 s2=>qe .ch ((if_neg (fun z=>z ⟨h,h'⟩)).trans (if_pos h3)) H2 s2,fun h h' h3=>⟨fun z=>absurd z full,fun _ H2 k2 hW2=>q ((if_neg (fun z=>z ⟨h,h'⟩)).trans (if_neg (by rw [h3];decide))) _ H2 k2 hW2 rfl⟩⟩
  | sht l=>
   refine ⟨_,hD,_,rfl,?_⟩
   k_mem
   rw [if_neg (by decide)]
   k_upd
   refine ⟨_,hD,_,rfl,?_⟩
   k_mem
   rw [if_neg (by decide)]
   k_upd
   refine ⟨_,hD,_,rfl,?_⟩
   k_mem
   rw [if_neg (by decide)]
   k_upd
   refine ⟨_,hD,_,rfl,?_⟩
   k_mem
   rw [if_pos rfl]
   k_upd
   refine mgo hob rfl ⟨_,hD,_,rfl,?_⟩
   k_mem
   refine ⟨_,_,_,_,_,_,_,rfl,hW,by omega,wl.symm,hn.gl,fun h H2 s2=>qe .lv (if_pos h) H2 s2,fun h h' h3 H2 s2=>qe .ch ((if_neg (fun z=>z ⟨h,h'⟩)).trans (if_pos h3)) H2 s2,fun h h' h3=>⟨fun z=>absurd z full,fun _ H2 k2 hW2=>q ((if_neg (fun z=>z ⟨h,h'⟩)).trans (if_neg (by rw [h3];decide))) _ H2 k2 hW2 rfl⟩⟩
  | load k c=>
   refine ⟨_,hD,_,rfl,?_⟩
   k_mem
   rw [if_neg (by decide)]
   k_upd
   refine ⟨_,hD,_,rfl,?_⟩
   k_mem
   rw [if_neg (by decide)]
   k_upd
   refine ⟨_,hD,_,rfl,?_⟩
   k_mem
   rw [if_neg (by decide)]
   k_upd
   refine ⟨_,hD,_,rfl,?_⟩
   k_mem
   rw [if_neg (by decide)]
   k_upd
   refine ⟨_,hD,_,rfl,?_⟩
   k_mem
   rw [if_pos rfl]
   k_upd
   refine mgo hob rfl ⟨_,hD,_,rfl,_,hD,_,rfl,?_⟩
   k_mem
   refine ⟨_,_,_,_,_,_,_,_,rfl,hW,by omega,wl.symm,hg.sh,hn.gl,by omega,ok.1,ok.2,fun h H2 s2=>qe .ul (if_pos h) H2 s2,fun h h' h3 H2 s2=>qe .nt ?_ H2 s2,fun l h h' hl h3 h4 H2 s2=>qe .ct ?_ H2 s2,fun l h h' hl h3 h4 h5 H2 s2=>qe .gs ?_ H2 s2,fun l h h' hl h3 h4 h5=>⟨fun z=>absurd z full,fun _ H2 k2 hW2=>q ?_ _ H2 k2 hW2 rfl⟩⟩
   ·refine (if_neg (fun z=>z ⟨h,h'⟩)).trans ?_
    cases hl:aT g.ds (ai n0 rs).place c with
    | none=>rfl
    | some l=>exact if_pos (h3 l hl)
   ·refine (if_neg (fun z=>z ⟨h,h'⟩)).trans ?_
    rw [hl]
    exact (if_neg (fun z=>z h3)).trans (if_pos h4)
   ·refine (if_neg (fun z=>z ⟨h,h'⟩)).trans ?_
    rw [hl]
    exact (if_neg (fun z=>z h3)).trans ((if_neg h4).trans (if_neg (by rw [h5];exact Bool.false_ne_true)))
   ·refine (if_neg (fun z=>z ⟨h,h'⟩)).trans ?_
    rw [hl]
    exact (if_neg (fun z=>z h3)).trans ((if_neg h4).trans (if_pos h5))
  | unload c=>
   refine ⟨_,hD,_,rfl,?_⟩
   k_mem
   rw [if_neg (by decide)]
   k_upd
   refine ⟨_,hD,_,rfl,?_⟩
   k_mem
   rw [if_neg (by decide)]
   k_upd
   refine ⟨_,hD,_,rfl,?_⟩
   k_mem
   rw [if_neg (by decide)]
   k_upd
   refine ⟨_,hD,_,rfl,?_⟩
   k_mem
   rw [if_neg (by decide)]
   k_upd
   refine ⟨_,hD,_,rfl,?_⟩
   k_mem
   rw [if_neg (by decide)]
   k_upd
   refine ⟨_,hD,_,rfl,?_⟩
   k_mem
   rw [if_pos rfl]
   k_upd
   refine mgo hob rfl ⟨_,hD,_,rfl,?_⟩
   k_mem
   refine ⟨_,_,_,_,_,_,_,rfl,hW,by omega,wl.symm,hg.sh,hn.gl,ok.1,ok.2,fun h H2 s2=>qe .ce (if_pos h) H2 s2,fun h hl H2 s2=>qe .nt ?_ H2 s2,fun l h hl h3 H2 s2=>qe .gs ?_ H2 s2,fun l h hl h3=>⟨fun z=>absurd z full,fun _ H2 k2 hW2=>q ?_ _ H2 k2 hW2 rfl⟩⟩
   ·refine (if_neg (fun z=>z h)).trans ?_
    simp only [hl]
   ·refine (if_neg (fun z=>z h)).trans ?_
    rw [hl]
    exact if_neg (by rw [h3];exact Bool.false_ne_true)
   ·refine (if_neg (fun z=>z h)).trans ?_
    rw [hl]
    exact if_pos h3
  | wind c l k=>
   refine ⟨_,hD,_,rfl,?_⟩
   k_mem
   rw [if_neg (by decide)]
   k_upd
   refine ⟨_,hD,_,rfl,?_⟩
   k_mem
   rw [if_neg (by decide)]
   k_upd
   refine ⟨_,hD,_,rfl,?_⟩
   k_mem
   rw [if_neg (by decide)]
   k_upd
   refine ⟨_,hD,_,rfl,?_⟩
   k_mem
   rw [if_neg (by decide)]
   k_upd
   refine ⟨_,hD,_,rfl,?_⟩
   k_mem
   rw [if_neg (by decide)]
   k_upd
   refine ⟨_,hD,_,rfl,?_⟩
   k_mem
   rw [if_neg (by decide)]
   k_upd
   refine ⟨_,hD,_,rfl,?_⟩
   k_mem
   rw [if_pos rfl]
   have sp:=hg.speed (ai n0 rs)
   k_upd
   refine mgo hob rfl ⟨_,hD,_,rfl,_,hD,_,rfl,_,hD,_,rfl,?_⟩
   k_mem
   refine ⟨_,_,_,_,_,_,_,_,_,rfl,hW,by omega,wl.symm,hg.sh,hn.gl,lc,sp.1,sp.2,ok.2,fun h H2 s2=>qe .lv (if_pos h) H2 s2,fun h h' h3 H2 s2=>qe .go ((if_neg (fun z=>z ⟨h,h'⟩)).trans (if_pos h3)) H2 s2,fun h h' h3 h4 H2 s2=>qe .na ((if_neg (fun z=>z ⟨h,h'⟩)).trans ((if_neg (by rw [h3];exact Bool.false_ne_true)).trans (if_neg h4))) H2 s2,fun h h' h3 h4=>⟨fun z=>absurd z full,fun _ H2 k2 hW2=>q ((if_neg (fun z=>z ⟨h,h'⟩)).trans ((if_neg (by rw [h3];exact Bool.false_ne_true)).trans (if_pos h4))) _ H2 k2 hW2 rfl⟩⟩
  | fail l=>
   refine ⟨_,hD,_,rfl,?_⟩
   k_mem
   rw [if_neg (by decide)]
   k_upd
   refine ⟨_,hD,_,rfl,?_⟩
   k_mem
   rw [if_neg (by decide)]
   k_upd
   refine ⟨_,hD,_,rfl,?_⟩
   k_mem
   rw [if_neg (by decide)]
   k_upd
   refine ⟨_,hD,_,rfl,?_⟩
   k_mem
   rw [if_neg (by decide)]
   k_upd
   refine ⟨_,hD,_,rfl,?_⟩
   k_mem
   rw [if_neg (by decide)]
   k_upd
   refine ⟨_,hD,_,rfl,?_⟩
   k_mem
   rw [if_neg (by decide)]
   k_upd
   refine ⟨_,hD,_,rfl,?_⟩
   k_mem
   rw [if_neg (by decide)]
   k_upd
   refine ⟨_,hD,_,rfl,?_⟩
   k_mem
   rw [if_pos rfl]
   k_upd
   refine mgo hob rfl ⟨_,hD,_,rfl,?_⟩
   k_mem
   refine ⟨_,_,_,_,_,_,_,rfl,hW,by omega,wl.symm,fun h H2 s2=>qe .lv ?_ H2 s2,fun h h' h3 H2 s2=>qe .ch ?_ H2 s2,fun h h' h3=>⟨fun z=>absurd z full,fun _ H2 k2 hW2=>q ?_ _ H2 k2 hW2 rfl⟩⟩
   ·rw [lc] at h
    exact if_pos h
   ·rw [lc] at h'
    exact (if_neg (fun z=>z ⟨h,h'⟩)).trans (if_pos h3)
   ·rw [lc] at h'
    exact (if_neg (fun z=>z ⟨h,h'⟩)).trans (if_neg (by rw [h3];exact Bool.false_ne_true))
variable (BR:KD P w K mg base (CXf P w) 7 "_law_call" (tK K Z))
inductive tL (K:WA)(Z:Adr)(vs:List V)(H:Hp)(Q:VK)(E:XK):Prop | mk (H0:Hp) (w bk rl p dl cl ll sl wl dd:Addr) (g:Cfg) (lds:List Ld) (n0:aM) (rs:List Row):vs=[.ref w,.ref p,.ref sl,.ref wl,.ref dd]->iY (clZ Z) K H0 H p dl cl ll w bk rl sl wl g lds n0 rs->rs.length < 300->(((∃d,SqT K H dd (ddV d)/\vf d/\eI g (ai n0 rs) d=none/\∀H',bI rl sl wl H H'->iY (clZ Z) K H0 H' p dl cl ll w bk rl sl wl g lds n0 (rs++[mi g n0 rs d])->Q (.bl true) H')\/
  (SqT K H dd [.str "take back"]/\∃rs' r,rs=rs'++[r]/\∀H',bI rl sl wl H H'->iY (clZ Z) K H0 H' p dl cl ll w bk rl sl wl g lds n0 rs'->Q (.bl true) H')))->tL K Z vs H Q E
include T BN gN BR in
theorem Fy:FF P w K mg base (CXf P w) 8 "_law_done" "_law_done" vS Bh (tL K Z):=fkF td fun vs H Q E h=>by
 obtain ⟨H0,w,bk,rl,p,dl,cl,ll,sl,wl,dd,g,lds,n0,rs,rfl,hX,h300,hc⟩:=h
 k_all
 refine seg 6 (ah (az (dc0 gN hr.dn (pa2 (pv' 5) (ao au (ao av (pv' 2) (gJ dj af)) af))))) fun zt6 zh6 ze6=>?_
 refine seg 5 (ae (aN (bQ (ao au (pv' 4) af) aE) (ah (az (dc0 gN hr.dn (pa2 (pv' 5) (aQ (pa3 (cG fT (ao au (pv' 4) af) (ao au (pv' 6) af) (bL _)) (ao au (pv' 6) af) (ao au (pv' 4) af))))))) (aC)) zh6) fun zt5 zh5 ze5=>?_
 refine seg 4 (ae (bb (oE PySem.F.plainAttrs_list PySem.F.slot_list_append PySem.F.type_list_append dO (pv' 3) (pa1 (aQ (pa3 (ao au (ao av (pv' 2) (gJ dj af)) af) (ao au (ao av (pv' 2) (gJ dj af)) af) (pv' 4)))))) zh5) fun zt4 zh4 ze4=>?_
 refine seg 3 (ae (bb (oE PySem.F.plainAttrs_list PySem.F.slot_list_append PySem.F.type_list_append dO (pv' 2) (pa1 (dc0 BN hr.dn (pa3 (pv' 1) (ao av (pv' 2) (gJ dj af)) (pv' 4)))))) zh4) fun zt3 zh3 ze3=>?_
 refine seg 2 (ae (aD (i:=6) td.nd rfl orL (ao au (ao av (pv' 2) (gJ dj af)) af)) zh3) fun zt2 zh2 ze2=>?_
 refine seg 1 (ae (aN (bQ (ao au (pv' 4) af) aE) (ae (bb (uX PySem.F.plainAttrs_list PySem.F.slot_list_pop PySem.F.type_list_pop zE (pv' 2))) (ah (az (dc0 gN hr.dn (pa2 (pv' 5) (ao au (uX PySem.F.plainAttrs_list PySem.F.slot_list_pop PySem.F.type_list_pop zE (pv' 3)) af)))))) (aC)) zh2) fun zt1 zh1 ze1=>?_
 refine ⟨_,ae (aD (i:=5) td.nd rfl orL (dc BR hr.dn bG (pa2 (pv' 0) (pv' 4)))) zh1,?_⟩
 obtain ⟨hW,⟨as,hsl,hA⟩,⟨bs,hwl,hB⟩,hNs,hNw,hne,hrun⟩:=id hX.da
 have hg:=hX.cg
 have hn:=hX.snap
 obtain ⟨rr,hrl⟩:=hW.rows
 have nrs:rl≠sl:=hW.off sl hNs
 have nrw:rl≠wl:=hW.off wl hNw
 k_mem
 rcases hc with ⟨d,hD,ok,hrf,q⟩ | ⟨hD,rs2,r,rfl,q⟩
 ·k_upd
  refine ⟨w,bk,rl,dd,g,n0,rs,rfl,hW,hg,hn,h300,.inl ⟨d,hD,ok,fun r e=>(by rw [hrf] at e;cases e),fun _ v H1 k1 hW1 ans=>?_⟩⟩
  have hD1:=hD.keep k1 hrl
  have hsl1:=k1 _ _ nrs.symm hsl
  have hwl1:=k1 _ _ nrw.symm hwl
  have hA1:dE (iB K H1) as (mj n0 rs):=hA.imp fun a x h=>h.keep k1 hrl
  have hB1:c8 K H1 bs rs:=hB.keep k1 hrl
  have sa1:aq H0 H1:=hX.sa.keeps k1 hX.fr
  obtain ⟨as1,a,rfl,hSt⟩:=vm hA1
  obtain ⟨gt,lt,ht,dt,h1,h2,h3,h4,h5⟩:=hSt.un
  obtain ⟨w0,ew0,nw0⟩:=JD d
  have hal:=hA1.1
  have hbl:=hB1.1
  rw [yk,List.length_append,List.length_singleton] at hal
  k_mem
  refine ⟨_,hD1,_,ew0,?_⟩
  k_mem
  rw [if_neg nw0]
  k_upd
  refine ⟨_,SqL.of hsl1,_,jE,?_⟩
  k_mem
  refine ⟨_,h1,_,rfl,?_⟩
  k_mem
  refine ⟨.inl ⟨rfl,_,SqL.of hsl1⟩,_,SqL.of hsl1,_,jE,?_⟩
  k_mem
  refine ⟨p,dl,cl,ll,a,dd,g,lds,ai n0 rs,cS rs,d,rfl,hX.su.same sa1,hg,hn,hSt,hD1,ok,hrf,fun b H2 s2 hb=>?_⟩
  k_mem
  refine ⟨_,s2 _ _ hsl1,cy (by rw [WB,List.length_append,List.length_singleton];omega),?_⟩
  have k3:L2.aA sl H2 (upd H2 sl (HO.lst (List.map V.ref (as1++[a])++[V.ref b]))):=(aA.of (aq.refl H2)).put
  have e3:upd H2 sl (HO.lst (List.map V.ref (as1++[a])++[V.ref b])) sl=some (HO.lst ((as1++[a]++[b]).map V.ref)):=by rw [ag];simp
  generalize upd H2 sl (HO.lst (List.map V.ref (as1++[a])++[V.ref b]))=H3 at *
  have hW3:=(hW1.same s2).own hNs k3 e3
  have hwl3:=k3 _ _ hne.symm (s2 _ _ hwl1)
  have hb3:=hb.keep k3 (s2 _ _ hsl1)
  have h13:=(s2.tup h1).keep k3 (s2 _ _ hsl1)
  obtain ⟨gt2,lt2,ht2,dt2,hb31,_⟩:=hb3.un
  k_mem
  refine ⟨.inl ⟨rfl,_,SqL.of hwl3⟩,_,SqL.of e3,_,JF,?_⟩
  k_mem
  refine ⟨_,h13,_,rfl,_,SqL.of e3,_,jE,?_⟩
  k_mem
  refine ⟨_,hb31,_,rfl,by decide,fun tp htp=>?_⟩
  (generalize hE:upd H3 tp _=H4 at *;have f4:=cC hE htp;have e4:=bu hE;clear hE)
  k_upd
  refine ⟨_,f4 _ _ hwl3,cy (by rw [WB];omega),?_⟩
  have k5:L2.aA wl H4 (upd H4 wl (HO.lst (List.map V.ref bs++[V.ref tp]))):=(aA.of (aq.refl H4)).put
  have e5:upd H4 wl (HO.lst (List.map V.ref bs++[V.ref tp])) wl=some (HO.lst ((bs++[tp]).map V.ref)):=by rw [ag];simp
  generalize upd H4 wl (HO.lst (List.map V.ref bs++[V.ref tp]))=H5 at *
  have hwl4:=f4 _ _ hwl3
  have hW5:=(hW3.same f4).own hNw k5 e5
  have hD5:SqT K H5 dd (ddV d):=(f4.tup ((s2.tup hD1).keep k3 (s2 _ _ hsl1))).keep k5 hwl4
  have hsl5:=k5 _ _ hne (f4 _ _ e3)
  have h45:SqT K H5 ht (lz (ai n0 rs).e):=(f4.tup ((s2.tup h4).keep k3 (s2 _ _ hsl1))).keep k5 hwl4
  have hb51:=(f4.tup hb31).keep k5 hwl4
  have K05:bI rl sl wl H H5:=((((bI.a k1).trans (bI.of s2)).trans (bI.b k3)).trans (bI.of f4)).trans (bI.c k5)
  have hX5:iY (clZ Z) K H0 H5 p dl cl ll w bk rl sl wl g lds n0 (rs++[mi g n0 rs d]):=hX.to K05 ⟨hW5,⟨as1++[a]++[b],hsl5,?_⟩,⟨bs++[tp],e5,?_⟩,hNs,hNw,hne,.snoc hrun ok hrf⟩
  rotate_left
  ·rw [pB]
   exact dE.push (hA1.imp fun a x h=>(((h.same s2).keep k3 (s2 _ _ hsl1)).same f4).keep k5 hwl4) ((hb3.same f4).keep k5 hwl4)
  ·exact ((((hB1.same s2).keep k3 (s2 _ _ hsl1)).same f4).keep k5 hwl4).push ⟨dd,(SqT.of e4).keep k5 hwl4,hD5⟩
  have ans5:w8 K H5 (ai n0 rs) (cS rs+sk g (ai n0 rs) d) d v:=(((ans.same s2).keep k3 (s2 _ _ hsl1)).same f4).keep k5 hwl4
  have qq:∀H',aq H5 H'->Q (.bl true) H':=fun H' s=>q H' (K05.trans (bI.of s)) (hX5.same s)
  clear hX5 K05 hW5 hW3 hW1 hsl1 hwl1 hA1 hB1 sa1 h13 hb31 hb3 hwl3 k3 f4 k5 hD1
  k_mem
  by_cases hr:∃s,d=.rept s
  ·obtain ⟨s,rfl⟩:=hr
   obtain ⟨pa,l,r,rfl,he,hpa⟩:=ans5
   rw [he] at h45
   k_upd
   refine ⟨_,hD5,_,rfl,?_⟩
   k_mem
   rw [if_pos rfl]
   k_upd
   refine ⟨_,hD5,_,rfl,_,h45,_,rfl,?_⟩
   k_mem
   refine ⟨_,h45,_,rfl,_,hD5,_,rfl,by decide,fun tq htq=>?_⟩
   have f6:=(aq.refl H5).lay (o:=HO.tup [V.bl (decide (s=r)),V.int r,V.int s]) htq
   k_upd
   refine ⟨_,_,_,rfl,eS (f6.tup hpa) (by show 3<=100000;decide) ?_,eS (SqT.of ag) (by show 3<=100000;decide) ?_,fun H' s'=>qq H' (f6.trans s')⟩
   all_goals
    intro x hx
    simp only [List.mem_cons,List.not_mem_nil,or_false] at hx
    rcases hx with rfl | rfl | rfl<;>rfl
  ·obtain ⟨w1,ew1,nw1⟩:=JE (d:=d) fun s e=>hr ⟨s,e⟩
   have ev:=ans5.int fun s e=>hr ⟨s,e⟩
   subst ev
   k_upd
   refine ⟨_,hD5,_,ew1,?_⟩
   k_mem
   rw [if_neg nw1]
   k_upd
   refine ⟨_,SqL.of hsl5,_,jE,?_⟩
   k_mem
   refine ⟨_,hb51,_,rfl,?_⟩
   k_mem
   exact ⟨_,_,_,rfl,.flat rfl,.flat rfl,qq⟩
 ·k_upd
  refine ⟨w,bk,rl,dd,g,n0,rs2++[r],rfl,hW,hg,hn,h300,.inr ⟨hD,rs2,r,rfl,fun pp H1 k1 hW1 hpp=>?_⟩⟩
  have hD1:=hD.keep k1 hrl
  have hsl1:=k1 _ _ nrs.symm hsl
  have hwl1:=k1 _ _ nrw.symm hwl
  have hA1:dE (iB K H1) as (mj n0 (rs2++[r])):=hA.imp fun a x h=>h.keep k1 hrl
  have hB1:c8 K H1 bs (rs2++[r]):=hB.keep k1 hrl
  rw [pB] at hA1
  obtain ⟨as1,a,rfl,hA2,_⟩:=hA1.last
  obtain ⟨bs1,b,rfl,hB2,dd2,hb1,hb2⟩:=hB1.last
  obtain ⟨dr,hdr⟩:=hrun.deeds r (by simp)
  k_mem
  refine ⟨_,hD1,_,rfl,?_⟩
  k_mem
  rw [if_pos rfl]
  k_upd
  refine ⟨.inl ⟨rfl,_,SqL.of hsl1⟩,_,hsl1,.ref a,by simp,?_⟩
  have k3:L2.aA sl H1 (upd H1 sl (HO.lst (List.map V.ref (as1++[a])).dropLast)):=(aA.of (aq.refl H1)).put
  have e3:upd H1 sl (HO.lst (List.map V.ref (as1++[a])).dropLast) sl=some (HO.lst (as1.map V.ref)):=by rw [ag];simp
  generalize upd H1 sl (HO.lst (List.map V.ref (as1++[a])).dropLast)=H3 at *
  have hwl3:=k3 _ _ hne.symm hwl1
  k_mem
  refine ⟨.inl ⟨rfl,_,SqL.of hwl3⟩,_,hwl3,.ref b,by simp,?_⟩
  have k5:L2.aA wl H3 (upd H3 wl (HO.lst (List.map V.ref (bs1++[b])).dropLast)):=(aA.of (aq.refl H3)).put
  have e5:upd H3 wl (HO.lst (List.map V.ref (bs1++[b])).dropLast) wl=some (HO.lst (bs1.map V.ref)):=by rw [ag];simp
  generalize upd H3 wl (HO.lst (List.map V.ref (bs1++[b])).dropLast)=H5 at *
  have K05:bI rl sl wl H H5:=((bI.a k1).trans (bI.b k3)).trans (bI.c k5)
  have hX5:iY (clZ Z) K H0 H5 p dl cl ll w bk rl sl wl g lds n0 rs2:=hX.to K05 ⟨(hW1.own hNs k3 e3).own hNw k5 e5,⟨as1,k5 _ _ hne e3,hA2.imp fun a x h=>(h.keep k3 hsl1).keep k5 hwl3⟩,⟨bs1,e5,(hB2.keep k3 hsl1).keep k5 hwl3⟩,hNs,hNw,hne,hrun.inv.1⟩
  have lenr:=Ed dr
  k_mem
  refine ⟨_,(hb1.keep k3 hsl1).keep k5 hwl3,_,rfl,?_⟩
  k_mem
  refine ⟨_,_,_,rfl,eS ((hpp.keep k3 hsl1).keep k5 hwl3) (by rw [hdr];omega) (by rw [hdr];exact ve dr),eS ((hb2.keep k3 hsl1).keep k5 hwl3) (by rw [hdr];omega) (by rw [hdr];exact ve dr),fun H' s=>q H' (K05.trans (bI.of s)) (hX5.same s)⟩
variable (kW:KD P w K mg base (CXf P w) 8 "_law_done" (tL K Z))
def Mv (Z:Adr)(K:WA)(H0 H:Hp)(p dl cl ll w bk rl sl wl a:Addr)(g:Cfg)(lds:List Ld)(n0:aM)(b e:Int)(i:Nat)(σ:St)(H':Hp):Prop:=∃rs,bI rl sl wl H H'/\iY (clZ Z) K H0 H' p dl cl ll w bk rl sl wl g lds n0 rs/\rs.length<=i/\∃t u,σ=[some (.ref w),some (.ref p),some (.ref a),some (.int b),some (.int e),some (.ref sl),some (.ref wl),t,u]
inductive wJ (K:WA)(Z:Adr)(vs:List V)(H:Hp)(Q:VK)(E:XK):Prop | mk (H0:Hp) (w bk rl p dl cl ll a:Addr) (ds:List Int) (ls:List Cd) (slow fast:Int) (lds:List Ld) (N:Addr->Prop) (ns:List Int) (b e:Int):vs=[.ref w,.ref p,.ref a,.int b,.int e]->yq ds ls slow fast lds->dN K H0 p dl cl ll (dS ds ls slow fast lds N) lds->aq H0 H->H0 rl=none->SqL K H0 a (ns.map V.int)->ns.length<=63->0<=b->b<=1000->0<=e->e<=1000->WAt (clZ Z) K H w bk rl (dS ds ls slow fast lds N) (fe ds ls lds) []->(∀(lp sl wl:Addr) (N':Addr->Prop) (rs:List Row) (H':Hp),H lp=none->lp≠rl->aA rl H H'->iY (clZ Z) K H0 H' p dl cl ll w bk rl sl wl (dS ds ls slow fast lds N') lds (fe ds ls lds) rs->rs.length<=63->H' lp=some (.lst [.ref sl,.ref wl])->Q (.ref lp) H')->wJ K Z vs H Q E
include T yP yS pA kW in
theorem HR:FF P w K mg base (CXf P w) 9 "_law_day" "_law_day" zN Et (wJ K Z):=fkF nC fun vs H Q E h=>by
 obtain ⟨H0,w,bk,rl,p,dl,cl,ll,a,ds,ls,slow,fast,lds,N,ns,b,e,rfl,hU,hP,sa,fr,hS,h63,b0,b1,e0,e1,hW,q⟩:=h
 k_all
 refine seg 3 (ah (az (bc (pa2 (pv' 5) (pv' 6))))) fun zt3 zh3 ze3=>?_
 refine seg 2 (ae (cX u6 rfl (vq (by rfl) T.cq (pa2 (pv' 3) (aH (pD rfl) (by rfl) T.Hz Cq (pa2 (pv' 4) (aH aw (by rfl) T.bN ba (pa1 (pv' 2))))))) (aB (i:=7) nC.nd rfl orL) (ae (aD (i:=8) nC.nd rfl orL (dc0 pA hr.dn (pa3 (pv' 1) (pv' 5) (dc0 yP hr.dn (pa2 (pv' 2) (pv' 7)))))) (ah (aN (eK (cx (dc kW hr.dn bG (cV (pv' 0) (pa4 (pv' 1) (pv' 5) (pv' 6) (pv' 8)))))) (ah (az (bc ff))) (aC))))) zh3) fun zt2 zh2 ze2=>?_
 refine seg 1 (ae (aD (i:=6) nC.nd rfl orL (bc ff)) zh2) fun zt1 zh1 ze1=>?_
 refine ⟨_,ae (aD (i:=5) nC.nd rfl orL (bc (pa1 (dc0 yS hr.dn (pa1 (pv' 1)))))) zh1,?_⟩
 have l2:=hU.sh.l2
 have l6:=hU.sh.l6
 k_mem
 refine ⟨p,dl,cl,ll,ds,ls,slow,fast,lds,N,rfl,hP.same sa,l2,l6,hU.l30,fun st H1 s1 hst=>?_⟩
 k_mem
 refine ⟨by decide,fun sl hsl=>?_⟩
 have f2:=(aq.refl H1).lay (o:=HO.lst [V.ref st]) hsl
 have e2:upd H1 sl (HO.lst [V.ref st]) sl=some (HO.lst [V.ref st]):=ag
 have hWa:=(hW.same s1).grow hsl f2 e2
 generalize upd H1 sl (HO.lst [V.ref st])=H2 at *
 k_upd
 refine ⟨by decide,fun wl hwl=>?_⟩
 have f3:=(aq.refl H2).lay (o:=HO.lst []) hwl
 have e3:upd H2 wl (HO.lst []) wl=some (HO.lst []):=ag
 have nsw:sl≠wl:=ak e2 hwl
 have hWb:=hWa.grow hwl f3 e3
 generalize upd H2 wl (HO.lst [])=H3 at *
 have s03:=(s1.trans f2).trans f3
 have hsl0:H sl=none:=s1.free hsl
 have hwl0:H wl=none:=(s1.trans f2).free hwl
 obtain ⟨rr,hrl⟩:=hW.rows
 have hX:iY (clZ Z) K H0 H3 p dl cl ll w bk rl sl wl (dS ds ls slow fast lds fun q=>(N q\/q=sl)\/q=wl) lds (fe ds ls lds) []:=⟨⟨hP.ob,hP.od,hP.oc,hP.ol,hP.ek⟩,sa.trans s03,fr,sa.free hsl0,sa.free hwl0,⟨hWb,⟨[st],f3 _ _ e2,dE.nil.push ((hst.same f2).same f3)⟩,⟨[],e3,c8.nil⟩,.inl (.inr rfl),.inr rfl,nsw,.nil⟩,hU.cfg _,hU.snap _⟩
 clear hWa hWb hst
 k_mem
 refine ⟨_,.inl ((sa.trans s03).seq hS),?_⟩
 rw [WB]
 k_mem
 have hj:(if (ns.length:Int) < e then (ns.length:Int) else e)<=ns.length:=by split<;>omega
 have hj1:(if (ns.length:Int) < e then (ns.length:Int) else e)<=1000:=by split<;>omega
 have hj0:0<=(if (ns.length:Int) < e then (ns.length:Int) else e):=by split<;>omega
 generalize (if (ns.length:Int) < e then (ns.length:Int) else e)=j at *
 k_upd
 refine ⟨⟨by omega,by omega,by omega,by omega⟩,?_⟩
 k_upd
 refine cj (Mv Z K H0 H3 p dl cl ll w bk rl sl wl a (dS ds ls slow fast lds fun q=>(N q\/q=sl)\/q=wl) lds (fe ds ls lds) b e) ⟨[],bI.of (aq.refl _),hX,Nat.le_refl _,_,_,rfl⟩ ?_ ?_
 ·rintro i σ H4 hi ⟨rs,k4,hX4,hlen,t,u,rfl⟩
  obtain ⟨as,hsl4,hA4⟩:=hX4.da.st
  k_mem
  refine ⟨a,ns,b+(i:Int),rfl,hX4.sa.seq hS,by omega,by omega,fun c=>?_⟩
  k_mem
  refine ⟨p,dl,cl,ll,sl,_,lds,_,rs,c,rfl,hX4.setup,hX4.cg,hX4.snap,⟨as,hsl4,hA4⟩,fun dd d H5 s5 hd ok hr=>?_,fun hrs dd H5 s5 hd=>?_⟩
  ·k_mem
   k_upd
   refine ⟨H0,w,bk,rl,p,dl,cl,ll,sl,wl,dd,_,lds,_,rs,rfl,hX4.same s5,by omega,.inl ⟨d,hd,ok,hr,fun H6 k6 hX6=>?_⟩⟩
   k_mem
   exact ⟨_,(k4.trans (bI.of s5)).trans k6,hX6,by rw [List.length_append,List.length_singleton];omega,_,_,rfl⟩
  ·obtain ⟨rs2,r,rfl⟩:∃rs2 r,rs=rs2++[r]:=by
    rcases di rs with z | z
    ·exact absurd z hrs
    ·exact z
   k_mem
   refine ⟨H0,w,bk,rl,p,dl,cl,ll,sl,wl,dd,_,lds,_,rs2++[r],rfl,hX4.same s5,by omega,.inr ⟨hd,rs2,r,rfl,fun H6 k6 hX6=>?_⟩⟩
   k_mem
   exact ⟨_,(k4.trans (bI.of s5)).trans k6,hX6,by rw [List.length_append,List.length_singleton] at hlen;omega,_,_,rfl⟩
 ·rintro σ H4 ⟨rs,k4,hX4,hlen,t,u,rfl⟩
  k_mem
  refine ⟨by decide,fun lp hlp=>?_⟩
  have f5:=(aq.refl H4).lay (o:=HO.lst [V.ref sl,V.ref wl]) hlp
  have k04:L2.aA rl H H4:=fun d o n e=>k4 d o n (ak e hsl0) (ak e hwl0) (s03 d o e)
  have nlr:lp≠rl:=fun z=>by
   obtain ⟨r2,hr2⟩:=hX4.da.wk.rows
   rw [z,hr2] at hlp
   cases hlp
  k_upd
  exact q lp sl wl _ rs _ (k04.free nlr hlp) nlr (k04.trans (aA.of f5)) (hX4.same f5) (by omega) ag
variable (uQ:KD P w K mg base (CXf P w) 9 "_law_day" (wJ K Z))
def Mw (Z:Adr)(K:WA)(H0 H:Hp)(p dl cl ll w bk rl sl wl:Addr)(g:Cfg)(lds:List Ld)(n0:aM)(rs:List Row)(A:List Dd)(x0 x3 x6:V)(i:Nat)(σ:St)(H':Hp):Prop:=bI rl sl wl H H'/\iY (clZ Z) K H0 H' p dl cl ll w bk rl sl wl g lds n0 (qF g n0 rs (A.take i))/\∃t,σ=[some x0,some (.ref p),some (.ref w),some x3,some (.ref sl),some (.ref wl),some x6,t,none,none,none,none,none,none,none,none,none]
def Mx (H:Hp)(x0 x1 x2 x3 x4 x5 x6 x8 x9:V)(x7:Option V)(_:Nat)(σ:St)(H':Hp):Prop:=aq H H'/\∃a b c d e f g,σ=[some x0,some x1,some x2,some x3,some x4,some x5,some x6,x7,some x8,some x9,a,b,c,d,e,f,g]
def My (H:Hp)(x0 x1 x2 x3 x4 x5 x6 x8 x9 x10:V)(x7:Option V)(_:Nat)(σ:St)(H':Hp):Prop:=aq H H'/\∃b c d e f g,σ=[some x0,some x1,some x2,some x3,some x4,some x5,some x6,x7,some x8,some x9,some x10,b,c,d,e,f,g]
def wK (H:Hp)(x0 x1 x2 x3 x4 x5 x6 x8 x9 x10 x11:V)(x7:Option V)(_:Nat)(σ:St)(H':Hp):Prop:=aq H H'/\∃c d e f g,σ=[some x0,some x1,some x2,some x3,some x4,some x5,some x6,x7,some x8,some x9,some x10,some x11,c,d,e,f,g]
theorem JZ (b1 b2 b3:Bool):eqL [V.bl b1,.bl b2,.bl b3] [V.bl b1,.bl b2,.bl b3]=true:=by cases b1<;>cases b2<;>cases b3<;>rfl
theorem Nx (k:Nat)(h:k < 2):∃kd:Str,atI [V.str "men",.str "coal"] (0+(k:Int))=some (.str kd)/\(kd="men"\/kd="coal")/\∀ls l,cz ls l kd=if k=0 then (eM ls l).1 else (eM ls l).2:=by
 rcases (by omega:k=0\/k=1) with rfl | rfl
 ·exact ⟨"men",rfl,.inl rfl,fun ls l=>rfl⟩
 ·exact ⟨"coal",rfl,.inr rfl,fun ls l=>rfl⟩
noncomputable def wL (K:WA)(Z:Adr):Sp:=fun vs H Q _=>∃(a:Addr) (ns:List Int),vs=[.ref a]/\SqL K H a (ns.map V.int)/\ns.length<=63/\∀H',Q (.bl true) H'
include T kj gn om rN rP rQ kW uQ in
theorem Mz:FF P w K mg base (CXf P w) 10 "law" "law" vU Hx (wL K Z):=fkF dZ fun vs H Q E h=>by
 obtain ⟨a,ns,rfl,hS,hn,q⟩:=h
 k_all
 refine seg 10 (ah (az (dc rP hr.dn bG (pa4 (pv' 2) (pv' 1) (pv' 4) (pv' 5))))) fun zt10 zh10 ze10=>?_
 refine seg 9 (ae (cX u6 rfl (cT (aP lG (bc (pa3 (gJ dj af) (pv' 8) (aP JG af af))) (bg (wV rfl) (by rfl) T.eh cW (pa1 (bg Ap (by rfl) T.cq Gi (pa1 (pv' 8))))))) (aB (i:=10) dZ.nd rfl orL) (ah (cX u6 rfl (bf (by rfl) T.cq (pa1 af)) (aB (i:=11) dZ.nd rfl orL) (ah (cX u6 rfl (bf (by rfl) T.cq (pa1 af)) (aB (i:=12) dZ.nd rfl orL) (ae (aD (i:=13) dZ.nd rfl orL (gG (cG Dh (pv' 10) af (bL _)) (my (cG Hs (pv' 10) (pv' 8) (bL _))))) (ae (aD (i:=14) dZ.nd rfl orL (cG fT (bY (eU (pv' 6) af) af) af (bL _))) (ae (aD (i:=15) dZ.nd rfl orL (gG (pv' 13) (gG (cG fT (ao au (pv' 9) af) aE (bL _)) (my (cG fT (ao au (pv' 9) af) (pv' 10) (bL _)))))) (ae (aD (i:=15) dZ.nd rfl orL (gG (pv' 15) (my (cG fT (ao au (pv' 9) af) (ao au (ao av (ao av (pv' 1) af) (pv' 10)) (pv' 12)) (bL _))))) (ae (aD (i:=16) dZ.nd rfl orL (bc (pa3 (Es (pv' 13)) (gG (pv' 13) (my (pv' 14))) (gG (pv' 13) (my (Es (pv' 14))))))) (ah (aN (oC (cx (pv' 14)) (kY (eK (cx (pv' 15))))).pt (ah (aN (dk (zD hr.units0) (dc0 rQ hr.dn (pa4 (pv' 2) (pv' 11) (pv' 10) (ao av (bc (pa2 aE aE)) (pv' 12)))) (pv' 16) (bL _)) (ah (az iQ)) (aC))) (aC))))))))))))) zh10) fun zt9 zh9 ze9=>?_
 refine seg 8 (ae (aD (i:=9) dZ.nd rfl orL (ao au (ao av (pv' 4) (gJ dj af)) af)) zh9) fun zt8 zh8 ze8=>?_
 refine seg 7 (ae (aD (i:=8) dZ.nd rfl orL (aH aw (by rfl) T.bN ba (pa1 (ao av (pv' 1) af)))) zh8) fun zt7 zh7 ze7=>?_
 refine seg 6 (ae (cX u6 rfl (cT (dc0 gn hr.dn (pa3 (pv' 1) (ao av (pv' 4) (gJ dj af)) (pv' 6)))) (aB (i:=7) dZ.nd rfl orL) (ah (aN (eK (cx (dc kW hr.dn bG (cV (pv' 2) (pa4 (pv' 1) (pv' 4) (pv' 5) (pv' 7)))))) (ah (az iQ)) (aC)))) zh7) fun zt6 zh6 ze6=>?_
 refine seg 5 (ae (aD (i:=6) dZ.nd rfl orL (eU (dc0 kj hr.dn (pa2 (pv' 0) af)) af)) zh6) fun zt5 zh5 ze5=>?_
 refine seg 4 (ae (gP (pv' 3) (zG rfl (aG (aB (i:=4) dZ.nd rfl orL) (aG (aB (i:=5) dZ.nd rfl orL) cM)))) zh5) fun zt4 zh4 ze4=>?_
 refine seg 3 (ae (aN (dk (Mf hr.units0) (pv' 3) (bc ff) (bL _)) (ah (az iQ)) (aC)) zh4) fun zt3 zh3 ze3=>?_
 refine seg 2 (ae (aD (i:=3) dZ.nd rfl orL (dc uQ hr.dn bG (cV (pv' 2) (pa4 (pv' 1) (pv' 0) af af)))) zh3) fun zt2 zh2 ze2=>?_
 refine seg 1 (ae (aD (i:=2) dZ.nd rfl orL (dc rN hr.dn bG (pa1 (pv' 1)))) zh2) fun zt1 zh1 ze1=>?_
 refine ⟨_,ae (aD (i:=1) dZ.nd rfl orL (dc0 om hr.dn (pa2 (pv' 0) af))) zh1,?_⟩
 k_mem
 refine ⟨a,ns,8,rfl,hS,by omega,by omega,fun p dl cl ll ds ls slow fast lds H1 s1 fp fdl fcl fll hP hsh hlen hgd hsp hlm hld=>?_⟩
 have hU:yq ds ls slow fast lds:=⟨hsh,hlen,hgd,hsp,by omega,fun x hx=>(hld x hx).1⟩
 k_mem
 refine ⟨p,dl,cl,ll,ds,ls,slow,fast,lds,_,rfl,hP,hsh,hlen,hgd,hsp,hU.l30,hU.gl,fun wk bk rl N H2 s2 frl fwk hW=>?_⟩
 k_mem
 refine ⟨H1,wk,bk,rl,p,dl,cl,ll,a,ds,ls,slow,fast,lds,N,ns,5,35,rfl,hU,⟨hP.ob,hP.od,hP.oc,hP.ol,hP.ek⟩,s2,frl,s1.seq hS,hn,by omega,by omega,by omega,by omega,hW,fun lp sl wl N' rs H3 flp nlp k3 hX h63 hlp=>?_⟩
 k_mem
 refine ⟨by decide,fun p0 hp0=>?_⟩
 have f4:=(aq.refl H3).lay (o:=HO.lst []) hp0
 have e4:upd H3 p0 (HO.lst []) p0=some (HO.lst []):=ag
 generalize upd H3 p0 (HO.lst [])=H4 at *
 k_upd
 refine ⟨_,SqL.of (f4 _ _ hlp),_,SqL.of e4,by show (2:Nat)≠0;decide,?_⟩
 k_mem
 refine ⟨_,SqL.of (f4 _ _ hlp),rfl,?_⟩
 k_mem
 replace hX:=hX.same f4
 have hg:=hX.cg
 have l2:=hg.sh.l2
 have l6:=hg.sh.l6
 obtain ⟨hW,⟨as,hsl,hA⟩,⟨bs,hwl,hB⟩,hNs,hNw,hne,hrun⟩:=id hX.da
 obtain ⟨as',sa,rfl,hSt⟩:=vm hA
 k_upd
 refine ⟨a,ns,0,rfl,hX.sa.seq (s1.seq hS),by decide,?_⟩
 k_mem
 generalize ns.getD 0 0 / 2=cc at *
 k_upd
 refine ⟨_,SqL.of hsl,_,jE,?_⟩
 k_mem
 have hP4:=hX.setup
 k_upd
 refine ⟨p,dl,cl,ll,sa,_,lds,_,_,cc,rfl,hP4,hg,hX.snap,hSt,fun md dA A H5 fmd s5 emd hD okA hAl hop=>?_⟩
 k_mem
 refine ⟨⟨_,SqL.of emd⟩,?_⟩
 have hX5:=hX.same s5
 obtain ⟨rr,hrr⟩:=hX5.da.wk.rows
 have n1:md≠rl:=fun z=>by rw [z] at fmd;obtain ⟨ra,hra⟩:=hX.da.wk.rows;rw [fmd] at hra;cases hra
 have n2:md≠sl:=fun z=>by rw [z,hsl] at fmd;cases fmd
 have n3:md≠wl:=fun z=>by rw [z,hwl] at fmd;cases fmd
 have hdl:=hD.1
 k_upd
 refine iK (dA.map V.ref) (Mw Z K H1 H5 p dl cl ll wk bk rl sl wl (dS ds ls slow fast lds N') lds (fe ds ls lds) rs A (.ref a) (.ref lp) (.int cc)) ⟨bI.of (aq.refl _),hX5,_,rfl⟩ (fun i σ H' _ h=>SqL.of (h.1 _ _ n1 n2 n3 emd)) ?_ ?_
 ·rintro i x σ H6 hx ⟨k6,hX6,t,rfl⟩
  rw [List.getElem?_map] at hx
  obtain ⟨da,eda,rfl⟩:=Option.map_eq_some_iff.mp hx
  have hi:i < dA.length:=(List.getElem?_eq_some_iff.mp eda).1
  have hiA:i < A.length:=by omega
  have eA:A[i]?=some A[i]:=List.getElem?_eq_getElem hiA
  have hd:=hD.2 i da _ eda eA
  obtain ⟨ok,hrf⟩:=Hn _ A _ i _ okA eA
  rw [←sL] at hrf
  k_mem
  refine ⟨H1,wk,bk,rl,p,dl,cl,ll,sl,wl,da,_,lds,_,_,rfl,hX6,by rw [vp,List.length_take];omega,.inl ⟨A[i],hd.k3 hX5 k6,ok,hrf,fun H7 k7 hX7=>?_⟩⟩
  k_mem
  refine ⟨k6.trans k7,?_,_,rfl⟩
  rw [Fe eA]
  exact hX7
 ·rintro σ H6 ⟨k6,hX6,t,rfl⟩
  rw [WB,hdl,List.take_length] at hX6
  have hlen:(qF (dS ds ls slow fast lds N') (fe ds ls lds) rs A).length<=100:=by rw [vp];omega
  rw [←sL] at hop
  generalize qF (dS ds ls slow fast lds N') (fe ds ls lds) rs A=us at *
  obtain ⟨hW6,⟨as6,hsl6,hA6⟩,⟨bs6,hwl6,hB6⟩,_,_,_,hrun6⟩:=id hX6.da
  obtain ⟨as7,sa6,rfl,hSt6⟩:=vm hA6
  obtain ⟨gt,lt,ht,dt,u1,u2,u3,u4,u5⟩:=hSt6.un
  have hsn:=hX6.snap
  generalize hN:ai (fe ds ls lds) us=nn at *
  have hP6:=hX6.setup
  obtain ⟨cas,hcl6,hT6⟩:=id hP6.oc
  k_mem
  refine ⟨_,SqL.of hP6.ob,_,rfl,?_⟩
  k_mem
  refine ⟨_,.inl (SqL.of hP6.od),?_⟩
  rw [WB]
  k_upd
  refine ⟨_,SqL.of hsl6,_,jE,?_⟩
  k_mem
  refine ⟨_,u1,_,rfl,?_⟩
  k_mem
  refine ⟨by decide,by decide,fun pl hpl=>?_⟩
  (generalize hE:upd H6 pl _=H7 at *;have s7:=cC hE hpl;have e7:=bu hE;clear hE)
  k_upd
  refine ⟨_,rfl,fun pr hpr=>⟨pr,(dS ds ls slow fast lds N').ds.length,rfl,by rw [ag],by omega,fun pq hpq=>?_⟩⟩
  (generalize hE:upd H7 pr _=H8 at *;have s8:=cC hE hpr;have e8:=bu hE;clear hE)
  (generalize hE:upd H8 pq _=H9 at *;have s9:=cC hE hpq;have e9:=bu hE;clear hE)
  k_upd
  refine ⟨_,(s8.trans s9) _ _ e7,_,e9,?_,fun pm hpm=>?_⟩
  ·rw [sizeLine_eq];simp only [List.length_cons,List.length_nil,WB,List.length_range];omega
  (generalize hE:upd H9 pm _=H10 at *;have s10:=cC hE hpm;have e10:=bu hE;clear hE)
  k_mem
  generalize hm:(dS ds ls slow fast lds N').ds.length=mm at *
  k_upd
  refine ⟨⟨_,SqL.of e10⟩,?_⟩
  have s610:=((s7.trans s8).trans s9).trans s10
  have einit:∀(i:Nat) (x:V),([V.int (-1),V.int (mm:Int),V.int 1000000000000000000000000000000]++(List.range mm).map fun (j:Nat)=>V.int (j:Int))[i]?=some x->∃v:Int,x=.int v:=fun i x hx=>by
   have:=List.mem_of_getElem? hx
   rcases List.mem_append.mp this with h | h
   ·simp only [List.mem_cons,List.not_mem_nil,or_false] at h
    rcases h with rfl | rfl | rfl<;>exact ⟨_,rfl⟩
   ·obtain ⟨j,_,rfl⟩:=List.mem_map.mp h
    k_upd
    exact ⟨_,rfl⟩
  k_upd
  refine iK _ (Mx H10 (.ref a) (.ref p) (.ref wk) (.ref lp) (.ref sl) (.ref wl) (.int cc) (.int (mm:Int)) (.ref ht) t) ⟨aq.refl _,_,_,_,_,_,_,_,rfl⟩ (fun i σ H' _ h=>SqL.of (h.1 _ _ e10)) ?_ ?_
  ·rintro i x σ H11 hx ⟨s11,a1,a2,a3,a4,a5,a6,a7,rfl⟩
   obtain ⟨v,rfl⟩:=einit i x hx
   k_mem
   refine ⟨by decide,by decide,?_⟩
   k_upd
   refine cj (My H10 (.ref a) (.ref p) (.ref wk) (.ref lp) (.ref sl) (.ref wl) (.int cc) (.int (mm:Int)) (.ref ht) (.int v) t) ⟨s11,_,_,_,_,_,_,rfl⟩ ?_ ?_
   ·rintro j σ H12 hj ⟨s12,b2,b3,b4,b5,b6,b7,rfl⟩
    k_mem
    refine ⟨by decide,by decide,?_⟩
    k_upd
    refine cj (wK H10 (.ref a) (.ref p) (.ref wk) (.ref lp) (.ref sl) (.ref wl) (.int cc) (.int (mm:Int)) (.ref ht) (.int v) (.int (0+(j:Int))) t) ⟨s12,_,_,_,_,_,rfl⟩ ?_ ?_
    ·rintro k σ H13 hk ⟨s13,c3,c4,c5,c6,c7,rfl⟩
     generalize hU:K3 (tB' (tOp (A1 K) (Am (oo K Z) _ _ _) (AW 16))) _ _=UU
     generalize hT:K2 (Aj (Ll (kE (zu (AW 13)) _)) _) _=TT
     obtain ⟨kd,ekd,hkd,hcode⟩:=Nx k hk
     have tail2:∀(D:gO) (kn ar:Bool) (pd:Addr) (H14:Hp),aq H13 H14->H14 pd=some (.lst [.bl (!kn),.bl (kn && decide (cc / 48 % 2=1)),.bl (kn && !decide (cc / 48 % 2=1))])->kn=decide (0<=v/\v < (mm:Int))->(kn=true->decide (cc / 48 % 2=1)=false->nn.e≠.armed v (cz ls v kd))->(∀σ H',wK H10 (.ref a) (.ref p) (.ref wk) (.ref lp) (.ref sl) (.ref wl) (.int cc) (.int (mm:Int)) (.ref ht) (.int v) (.int (0+(j:Int))) t (k+1) σ H'->D.nx σ H')->UU D [some (.ref a),some (.ref p),some (.ref wk),some (.ref lp),some (.ref sl),some (.ref wl),some (.int cc),t,some (.int (mm:Int)),some (.ref ht),some (.int v),some (.int (0+(j:Int))),some (.int (0+(k:Int))),some (.bl kn),some (.bl (decide (cc / 48 % 2=1))),some (.bl ar),some (.ref pd)] H14:=by
      intro D kn ar pd H14 s14 epd hkn hna hD
      subst hU hN hm
      k_mem
      refine ⟨by decide,fun p2 hp2=>?_⟩
      (generalize hE:upd H14 p2 _=H15 at *;have s15:=cC hE hp2;have e15:=bu hE;clear hE)
      have hX15:=hX6.same (((s610.trans s13).trans s14).trans s15)
      k_upd
      refine ⟨_,SqL.of e15,_,ekd,wk,bk,rl,_,_,us,_,v,kd,rfl,hX15.da.wk,hX15.cg,hX15.snap,hkd,fun hk1 ho=>hna (hkn.trans (decide_eq_true hk1)) (by rw [←hop];exact ho),fun p3 H16 s16 e16=>?_⟩
      k_upd
      refine ⟨_,SqL.of e16,_,SqL.of ((s15.trans s16) _ _ epd),rfl,rfl,?_⟩
      rw [hop,hkn,JZ,if_neg (by decide)]
      exact hD _ _ ⟨((s13.trans s14).trans s15).trans s16,_,_,_,_,_,rfl⟩
     have tail:∀(D:gO) (kn ar:Bool),kn=decide (0<=v/\v < (mm:Int))->(kn=true->ar=false->nn.e≠.armed v (cz ls v kd))->(kn=true->decide (cc / 48 % 2=1)=false->ar=true->True)->(∀σ H',wK H10 (.ref a) (.ref p) (.ref wk) (.ref lp) (.ref sl) (.ref wl) (.int cc) (.int (mm:Int)) (.ref ht) (.int v) (.int (0+(j:Int))) t (k+1) σ H'->D.nx σ H')->TT D [some (.ref a),some (.ref p),some (.ref wk),some (.ref lp),some (.ref sl),some (.ref wl),some (.int cc),t,some (.int (mm:Int)),some (.ref ht),some (.int v),some (.int (0+(j:Int))),some (.int (0+(k:Int))),some (.bl kn),some (.bl (decide (cc / 48 % 2=1))),some (.bl ar),c7] H13:=by
      intro D kn ar hkn hna _ hD
      subst hT
      have go:∀pd H14,aq H13 H14->H14 pd=some (.lst [.bl (!kn),.bl (kn && decide (cc / 48 % 2=1)),.bl (kn && !decide (cc / 48 % 2=1))])->(if decide (cc / 48 % 2=1)=true then UU D [some (.ref a),some (.ref p),some (.ref wk),some (.ref lp),some (.ref sl),some (.ref wl),some (.int cc),t,some (.int (mm:Int)),some (.ref ht),some (.int v),some (.int (0+(j:Int))),some (.int (0+(k:Int))),some (.bl kn),some (.bl (decide (cc / 48 % 2=1))),some (.bl ar),some (.ref pd)] H14 else if (!ar)=true then UU D [some (.ref a),some (.ref p),some (.ref wk),some (.ref lp),some (.ref sl),some (.ref wl),some (.int cc),t,some (.int (mm:Int)),some (.ref ht),some (.int v),some (.int (0+(j:Int))),some (.int (0+(k:Int))),some (.bl kn),some (.bl (decide (cc / 48 % 2=1))),some (.bl ar),some (.ref pd)] H14 else D.nx [some (.ref a),some (.ref p),some (.ref wk),some (.ref lp),some (.ref sl),some (.ref wl),some (.int cc),t,some (.int (mm:Int)),some (.ref ht),some (.int v),some (.int (0+(j:Int))),some (.int (0+(k:Int))),some (.bl kn),some (.bl (decide (cc / 48 % 2=1))),some (.bl ar),some (.ref pd)] H14):=fun pd H14 s14 epd=>by
       by_cases hw:decide (cc / 48 % 2=1)=true
       ·rw [if_pos hw]
        exact tail2 D kn ar pd H14 s14 epd hkn (fun _ z=>by rw [hw] at z;cases z) hD
       ·rw [if_neg hw]
        by_cases ha:(!ar)=true
        ·rw [if_pos ha]
         exact tail2 D kn ar pd H14 s14 epd hkn (fun z _=>hna z (by simpa using ha)) hD
        ·rw [if_neg ha]
         exact hD _ _ ⟨s13.trans s14,_,_,_,_,_,rfl⟩
      cases kn with
      | false=>
       k_mem
       refine ⟨by decide,fun pd hpd=>?_⟩
       (generalize hE:upd H13 pd _=H14 at *;have s14:=cC hE hpd;have e14:=bu hE;clear hE)
       exact go pd H14 s14 e14
      | true=>
       k_mem
       refine ⟨by decide,fun pd hpd=>?_⟩
       (generalize hE:upd H13 pd _=H14 at *;have s14:=cC hE hpd;have e14:=bu hE;clear hE)
       exact go pd H14 s14 e14
     have hD0:∀σ H',wK H10 (.ref a) (.ref p) (.ref wk) (.ref lp) (.ref sl) (.ref wl) (.int cc) (.int (mm:Int)) (.ref ht) (.int v) (.int (0+(j:Int))) t (k+1) σ H'->wK H10 (.ref a) (.ref p) (.ref wk) (.ref lp) (.ref sl) (.ref wl) (.int cc) (.int (mm:Int)) (.ref ht) (.int v) (.int (0+(j:Int))) t (k+1) σ H':=fun _ _ z=>z
     k_mem
     by_cases k0:0<=v
     ·rw [if_pos k0]
      by_cases k1:v < (mm:Int)
      ·rw [show decide (v < (mm:Int))=true from decide_eq_true k1,if_pos rfl]
       have kt:true=decide (0<=v/\v < (mm:Int)):=(decide_eq_true ⟨k0,k1⟩).symm
       have u413:=(s610.trans s13).tup u4
       have hP13:=hP6.same (s610.trans s13)
       rcases Md nn.e with ⟨l,rr,he⟩ | ⟨l,rr,he⟩ | ⟨w1,w2,w3,w4,he,na,nb⟩
       ·simp only [he] at u413
        k_upd
        refine ⟨_,u413,_,rfl,?_⟩
        k_mem
        rw [if_neg (by decide)]
        exact tail _ true false kt (fun _ _ z=>by rw [he] at z;cases z) (fun _ _ _=>trivial) hD0
       ·simp only [he] at u413
        k_upd
        refine ⟨_,u413,_,rfl,?_⟩
        k_mem
        rw [if_pos (by decide)]
        k_upd
        refine ⟨_,u413,_,rfl,?_⟩
        k_mem
        by_cases hl:l=v
        ·rw [if_pos hl]
         obtain ⟨ra,era,hra⟩:=lA (hT6.same (s610.trans s13)) k0 (by rw [hg.lc,hm];exact k1)
         k_upd
         refine ⟨_,u413,_,rfl,_,SqL.of hP13.ob,_,rfl,?_⟩
         k_mem
         refine ⟨_,SqL.of ((s610.trans s13) _ _ hcl6),_,era,?_⟩
         k_mem
         refine ⟨_,hra,_,two_deep (by omega) (by omega),?_⟩
         k_mem
         refine tail _ true _ kt (fun _ hf z=>?_) (fun _ _ _=>trivial) hD0
         rw [he,hcode] at z
         cases z
         refine (of_decide_eq_false hf) ?_
         k_upd
         split<;>split<;>first | rfl | omega
        ·rw [if_neg hl]
         exact tail _ true false kt (fun _ _ z=>by rw [he] at z;cases z;exact hl rfl) (fun _ _ _=>trivial) hD0
       ·simp only [he] at u413
        k_upd
        refine ⟨_,u413,_,rfl,?_⟩
        k_mem
        rw [if_neg (by simpa using nb)]
        refine tail _ true false kt (fun _ _ z=>?_) (fun _ _ _=>trivial) hD0
        rw [z] at he
        cases he
        exact nb rfl
      ·rw [show decide (v < (mm:Int))=false from decide_eq_false k1,if_neg (by decide)]
       k_upd
       exact tail _ false false (decide_eq_false fun z=>k1 z.2).symm (fun z=>by cases z) (fun _ _ _=>trivial) hD0
     ·rw [if_neg k0]
      k_upd
      exact tail _ false false (decide_eq_false fun z=>k0 z.1).symm (fun z=>by cases z) (fun _ _ _=>trivial) hD0
    ·rintro σ H13 ⟨s13,c3,c4,c5,c6,c7,rfl⟩
     k_mem
     exact ⟨s13,_,_,_,_,_,_,rfl⟩
   ·rintro σ H12 ⟨s12,b2,b3,b4,b5,b6,b7,rfl⟩
    k_mem
    exact ⟨s12,_,_,_,_,_,_,_,rfl⟩
  ·rintro σ H11 ⟨s11,a1,a2,a3,a4,a5,a6,a7,rfl⟩
   k_mem
   exact ⟨_,wk,bk,rl,p,dl,cl,ll,sl,wl,_,lds,_,us,rfl,hX6.same (s610.trans s11),by omega,fun H12 s12=>q H12⟩
include T kj gn om rN rP rQ kW uQ in
theorem MA:FF P w K mg base CX0 10 "law" "law" vU Hx (wL K Z):=(Mz T kj gn om rN rP rQ kW uQ).calm fun vs H Q E h=>h
end
theorem MB {l:W.OpenLaw}{w:World}{K:WA}{h:Heap}{mg:Str->Option Value}{fa:Addr}(X:K.In h)(G:h.Ns mainGlobals mg)(hfa:mg "law"=some (.ref fa)){C0 C1 C2 C3 C4 C5 C6 C7 C8 C9 C10 C11 C12 C13 C14 C15 C16 C17 C18 C19 C20 C21 C22 C23:Addr}{ta_KINDS:Addr}{tk_KINDS_0 tk_KINDS_1:Tok}{tn_KINDS:Nat}{ts_KINDS:Array (Option Value)}{ta_CAGE_SPOTS:Addr}{tk_CAGE_SPOTS_0 tk_CAGE_SPOTS_1:Tok}{to_CAGE_SPOTS:Option Addr}{tn_CAGE_SPOTS:Nat}{ts_CAGE_SPOTS:Array (Option Value)}(fx:KO K C0 C1 C2 C3 C4 C5 C6 C7 C8 C9 C10 C11 C12 C13 C14 C15 C16 C17 C18 C19 C20 C21 C22 C23 ta_KINDS tk_KINDS_0 tk_KINDS_1 tn_KINDS ts_KINDS ta_CAGE_SPOTS tk_CAGE_SPOTS_0 tk_CAGE_SPOTS_1 to_CAGE_SPOTS tn_CAGE_SPOTS ts_CAGE_SPOTS)
 : ∃Z:Adr,∃fd:FuncData,(∀(s:Shared) (v:Value),BindsTo s fd ⟨[v],[]⟩ [("_law_script",v)])/\∀base:Heap,K.In base->base.Ns mainGlobals mg->fM l.prog w K mg base CX0 10 fa fd ["_law_script"] (wL K Z):=by
 obtain ⟨z_len,z_list,z_enumerate,z_zip,z_range,z_abs,z_isinstance,z_tuple,z_int,z_str,z_bool,z_min,z_sorted,z_set,m0,m1,m2,m3,m4,m5,m6,m7,m8,m9,m10,m11,m12,m13,m14,m15,m16,m17,m18,m19,m20,m21,m22,m23,n_MOST_LOADS,n_FEWEST_STROKES,n_MOST_STROKES,n_FEWEST_LEVELS,n_MOST_LEVELS,n_GREATEST_DEPTH,n_GREATEST_SPEED,n_MOST_DEEDS,n_KINDS,lt_KINDS,n_CAGE_SPOTS,lt_CAGE_SPOTS,cl19,na19_kinds,na19_where,na19_many,cl20,na20_codes,na20_failed,na20_state,cl21,na21_place,na21_opened,na21_bells,na21_yard,cl22,na22_first,na22_most,na22_rows,cl23,na23_depths,na23_slow,na23_fast,na23_goals,na23_log,l0,x0,x1,x2,x3,x4,x5,x6,x7,x8,x9,x10,x11,x12,x13,x14,x15,x16,x17,e0_CageError,k0_UnknownLevel,k0_GateOpen,k0_NotArmed,e1_CageError,k1_UnknownLevel,k1_GateOpen,k1_NotArmed,e2_CageError,k2_UnknownLevel,k2_GateOpen,k2_NotArmed,e3_CageError,k3_UnknownLevel,k3_GateOpen,k3_NotArmed,e4_CageError,k4_UnknownLevel,k4_GateOpen,k4_NotArmed,e5_CageError,k5_UnknownLevel,k5_GateOpen,k5_NotArmed,e6_CageError,k6_UnknownLevel,k6_GateOpen,k6_NotArmed,e7_CageError,k7_UnknownLevel,k7_GateOpen,k7_NotArmed,e8_CageError,k8_UnknownLevel,k8_GateOpen,k8_NotArmed,e9_CageError,k9_UnknownLevel,k9_GateOpen,k9_NotArmed,e10_CageError,k10_UnknownLevel,k10_GateOpen,k10_NotArmed,e11_CageError,k11_UnknownLevel,k11_GateOpen,k11_NotArmed,e12_CageError,k12_UnknownLevel,k12_GateOpen,k12_NotArmed,e13_CageError,k13_UnknownLevel,k13_GateOpen,k13_NotArmed,e14_CageError,k14_UnknownLevel,k14_GateOpen,k14_NotArmed,e15_CageError,k15_UnknownLevel,k15_GateOpen,k15_NotArmed,e16_CageError,k16_UnknownLevel,k16_GateOpen,k16_NotArmed,e17_CageError,k17_UnknownLevel,k17_GateOpen,k17_NotArmed,d0,d1,d2,d3,d4,d5,d6,d7,d8,d9,d10,d11,d12,d13,d14,d15,d16,d17,d18,d19,d20,d21,d22,d23,d24,d25,d26,d27,d28,d29,d30,d31,d32,d33,d34,d35,d36,d37,d38,d39,d40,d41,d42,d43,d44,d45,d46,d47,d48,d49,d50,d51,d52,d53,d54,d55,d56,d57,d58,d59,d60,d61,d62,d63,d64,d65,d66,d67,d68,d69,d70,d71,d72,d73,d74,d75,d76,d77,d78,d79,d80,d81,d82,d83,d84,d85,d86,d87,d88,d89⟩:=fx
 obtain ⟨f0,_,b0,F0⟩:=d0
 obtain ⟨f1,_,b1,F1⟩:=d1
 obtain ⟨f2,_,b2,F2⟩:=d2
 obtain ⟨f3,_,b3,F3⟩:=d3
 obtain ⟨f4,_,b4,F4⟩:=d4
 obtain ⟨f5,_,b5,F5⟩:=d5
 obtain ⟨f6,_,b6,F6⟩:=d6
 obtain ⟨f7,_,b7,F7⟩:=d7
 obtain ⟨f8,_,b8,F8⟩:=d8
 obtain ⟨f9,_,b9,F9⟩:=d9
 obtain ⟨f10,_,b10,F10⟩:=d10
 obtain ⟨f11,_,b11,F11⟩:=d11
 obtain ⟨f12,_,b12,F12⟩:=d12
 obtain ⟨f13,_,b13,F13⟩:=d13
 obtain ⟨f14,_,b14,F14⟩:=d14
 obtain ⟨f15,_,b15,F15⟩:=d15
 obtain ⟨f16,_,b16,F16⟩:=d16
 obtain ⟨f17,_,b17,F17⟩:=d17
 obtain ⟨f18,_,b18,F18⟩:=d18
 obtain ⟨f19,_,b19,F19⟩:=d19
 obtain ⟨f20,_,b20,F20⟩:=d20
 obtain ⟨f21,_,b21,F21⟩:=d21
 obtain ⟨f22,_,b22,F22⟩:=d22
 obtain ⟨f23,_,b23,F23⟩:=d23
 obtain ⟨f24,_,b24,F24⟩:=d24
 obtain ⟨f25,_,b25,F25⟩:=d25
 obtain ⟨f26,_,b26,F26⟩:=d26
 obtain ⟨f27,_,b27,F27⟩:=d27
 obtain ⟨f28,_,b28,F28⟩:=d28
 obtain ⟨f29,_,b29,F29⟩:=d29
 obtain ⟨f30,_,b30,F30⟩:=d30
 obtain ⟨f31,_,b31,F31⟩:=d31
 obtain ⟨f32,_,b32,F32⟩:=d32
 obtain ⟨f33,_,b33,F33⟩:=d33
 obtain ⟨f34,_,b34,F34⟩:=d34
 obtain ⟨f35,_,b35,F35⟩:=d35
 obtain ⟨f36,_,b36,F36⟩:=d36
 obtain ⟨f37,_,b37,F37⟩:=d37
 obtain ⟨f38,_,b38,F38⟩:=d38
 obtain ⟨f39,_,b39,F39⟩:=d39
 obtain ⟨f40,_,b40,F40⟩:=d40
 obtain ⟨f41,_,b41,F41⟩:=d41
 obtain ⟨f42,_,b42,F42⟩:=d42
 obtain ⟨f43,_,b43,F43⟩:=d43
 obtain ⟨f44,_,b44,F44⟩:=d44
 obtain ⟨f45,_,b45,F45⟩:=d45
 obtain ⟨f46,_,b46,F46⟩:=d46
 obtain ⟨f47,_,b47,F47⟩:=d47
 obtain ⟨f48,_,b48,F48⟩:=d48
 obtain ⟨f49,_,b49,F49⟩:=d49
 obtain ⟨f50,_,b50,F50⟩:=d50
 obtain ⟨f51,_,b51,F51⟩:=d51
 obtain ⟨f52,_,b52,F52⟩:=d52
 obtain ⟨f53,_,b53,F53⟩:=d53
 obtain ⟨f54,_,b54,F54⟩:=d54
 obtain ⟨f55,_,b55,F55⟩:=d55
 obtain ⟨f56,_,b56,F56⟩:=d56
 obtain ⟨f57,_,b57,F57⟩:=d57
 obtain ⟨f58,_,b58,F58⟩:=d58
 obtain ⟨f59,_,b59,F59⟩:=d59
 obtain ⟨f60,_,b60,F60⟩:=d60
 obtain ⟨f61,_,b61,F61⟩:=d61
 obtain ⟨f62,_,b62,F62⟩:=d62
 obtain ⟨f63,_,b63,F63⟩:=d63
 obtain ⟨f64,_,b64,F64⟩:=d64
 obtain ⟨f65,_,b65,F65⟩:=d65
 obtain ⟨f66,_,b66,F66⟩:=d66
 obtain ⟨f67,_,b67,F67⟩:=d67
 obtain ⟨f68,_,b68,F68⟩:=d68
 obtain ⟨f69,_,b69,F69⟩:=d69
 obtain ⟨f70,_,b70,F70⟩:=d70
 obtain ⟨f71,_,b71,F71⟩:=d71
 obtain ⟨f72,_,b72,F72⟩:=d72
 obtain ⟨f73,_,b73,F73⟩:=d73
 obtain ⟨f74,_,b74,F74⟩:=d74
 obtain ⟨f75,_,b75,F75⟩:=d75
 obtain ⟨f76,_,b76,F76⟩:=d76
 obtain ⟨f77,_,b77,F77⟩:=d77
 obtain ⟨f78,_,b78,F78⟩:=d78
 obtain ⟨f79,_,b79,F79⟩:=d79
 obtain ⟨f80,_,b80,F80⟩:=d80
 obtain ⟨f81,_,b81,F81⟩:=d81
 obtain ⟨f82,_,b82,F82⟩:=d82
 obtain ⟨f83,_,b83,F83⟩:=d83
 obtain ⟨f84,_,b84,F84⟩:=d84
 obtain ⟨f85,_,b85,F85⟩:=d85
 obtain ⟨f86,_,b86,F86⟩:=d86
 obtain ⟨f87,_,b87,F87⟩:=d87
 obtain ⟨f88,_,b88,F88⟩:=d88
 obtain ⟨f89,_,b89,F89⟩:=d89
 have e:=hfa.symm.trans (W.mg_of X G b89)
 cases e
 obtain ⟨oc,od,kV,dc,pm,an,cd,ct,sl,rfl,ll,cc⟩:=F89.ex
 let Z:Adr:=⟨C0,C1,C2,C3,C4,C5,C6,C7,C8,C9,C10,C11,C12,C13,C14,C15,C16,C17,C18,C19,C20,C21,C22,C23,ta_KINDS,ta_CAGE_SPOTS⟩
 refine ⟨Z,W.fnOf "law" "law" (dJ vU) (bH vU) (aj vU) .none kV dc pm an cd ct,fun s v=>.of_eq rfl,fun base _ _=>?_⟩
 have T:Txt l.prog w K mg base Z:=⟨W.mg_none_of X G z_len,W.mg_none_of X G z_list,W.mg_none_of X G z_enumerate,W.mg_none_of X G z_zip,W.mg_none_of X G z_range,W.mg_none_of X G z_abs,W.mg_none_of X G z_isinstance,W.mg_none_of X G z_tuple,W.mg_none_of X G z_int,W.mg_none_of X G z_str,W.mg_none_of X G z_bool,W.mg_none_of X G z_min,W.mg_none_of X G z_sorted,W.mg_none_of X G z_set,KI.txt X G n_MOST_LOADS,KI.txt X G n_FEWEST_STROKES,KI.txt X G n_MOST_STROKES,KI.txt X G n_FEWEST_LEVELS,KI.txt X G n_MOST_LEVELS,KI.txt X G n_GREATEST_DEPTH,KI.txt X G n_GREATEST_SPEED,KI.txt X G n_MOST_DEEDS,⟨_,W.mg_of X G n_KINDS,rfl⟩,fun H=>.inr ⟨_,_,_,lt_KINDS,rfl,rfl,(by show 2<=sizeLine;decide),.cons ⟨_,rfl⟩ (.cons ⟨_,rfl⟩ .nil)⟩,⟨_,lt_KINDS,rfl,rfl⟩,⟨_,W.mg_of X G n_CAGE_SPOTS,rfl⟩,fun H=>.inr ⟨_,_,_,lt_CAGE_SPOTS,rfl,rfl,(by show 2<=sizeLine;decide),.cons ⟨_,rfl⟩ (.cons ⟨_,rfl⟩ .nil)⟩,W.mg_of X G m0,W.mg_of X G m1,W.mg_of X G m2,W.mg_of X G m3,W.mg_of X G m4,W.mg_of X G m5,W.mg_of X G m6,W.mg_of X G m7,W.mg_of X G m8,W.mg_of X G m9,W.mg_of X G m10,W.mg_of X G m11,W.mg_of X G m12,W.mg_of X G m13,W.mg_of X G m14,W.mg_of X G m15,W.mg_of X G m16,W.mg_of X G m17,W.mg_of X G m18,W.mg_of X G m19,W.mg_of X G m20,W.mg_of X G m21,W.mg_of X G m22,W.mg_of X G m23,cl19,na19_kinds,na19_where,na19_many,cl20,na20_codes,na20_failed,na20_state,cl21,na21_place,na21_opened,na21_bells,na21_yard,cl22,na22_first,na22_most,na22_rows,cl23,na23_depths,na23_slow,na23_fast,na23_goals,na23_log,(x0 l0).ex,x0 l0,e0_CageError,k0_UnknownLevel,k0_GateOpen,k0_NotArmed,(x1 l0).ex,x1 l0,e1_CageError,k1_UnknownLevel,k1_GateOpen,k1_NotArmed,(x2 l0).ex,x2 l0,e2_CageError,k2_UnknownLevel,k2_GateOpen,k2_NotArmed,(x3 l0).ex,x3 l0,e3_CageError,k3_UnknownLevel,k3_GateOpen,k3_NotArmed,(x4 l0).ex,x4 l0,e4_CageError,k4_UnknownLevel,k4_GateOpen,k4_NotArmed,(x5 l0).ex,x5 l0,e5_CageError,k5_UnknownLevel,k5_GateOpen,k5_NotArmed,(x6 l0).ex,x6 l0,e6_CageError,k6_UnknownLevel,k6_GateOpen,k6_NotArmed,(x7 l0).ex,x7 l0,e7_CageError,k7_UnknownLevel,k7_GateOpen,k7_NotArmed,(x8 l0).ex,x8 l0,e8_CageError,k8_UnknownLevel,k8_GateOpen,k8_NotArmed,(x9 l0).ex,x9 l0,e9_CageError,k9_UnknownLevel,k9_GateOpen,k9_NotArmed,(x10 l0).ex,x10 l0,e10_CageError,k10_UnknownLevel,k10_GateOpen,k10_NotArmed,(x11 l0).ex,x11 l0,e11_CageError,k11_UnknownLevel,k11_GateOpen,k11_NotArmed,(x12 l0).ex,x12 l0,e12_CageError,k12_UnknownLevel,k12_GateOpen,k12_NotArmed,(x13 l0).ex,x13 l0,e13_CageError,k13_UnknownLevel,k13_GateOpen,k13_NotArmed,(x14 l0).ex,x14 l0,e14_CageError,k14_UnknownLevel,k14_GateOpen,k14_NotArmed,(x15 l0).ex,x15 l0,e15_CageError,k15_UnknownLevel,k15_GateOpen,k15_NotArmed,(x16 l0).ex,x16 l0,e16_CageError,k16_UnknownLevel,k16_GateOpen,k16_NotArmed,(x17 l0).ex,x17 l0,e17_CageError,k17_UnknownLevel,k17_GateOpen,k17_NotArmed⟩
 have D0:=KD.mk (W.mg_of X G b0) F0 F0.b2 (BI T)
 have D4:=KN.mk b4 F4 F4.b3 (zY T)
 have D7:=KM.mk cl19 b7 F7 F7.b1 (xy T)
 have D8:=KM.mk cl19 b8 F8 F8.b2 (uw T)
 have D10:=KM.mk cl19 b10 F10 F10.b1 (pW T)
 have D12:=KD.mk (W.mg_of X G b12) F12 F12.b1 (we T)
 have D14:=KN.mk b14 F14 F14.b2 (xA T)
 have D17:=KM.mk cl20 b17 F17 F17.b1 (ux T)
 have D19:=KM.mk cl20 b19 F19 F19.b1 (xB T)
 have D22:=KD.mk (W.mg_of X G b22) F22 F22.b1 (uy T)
 have D23:=KD.mk (W.mg_of X G b23) F23 F23.b1 (xC T)
 have D25:=KD.mk (W.mg_of X G b25) F25 F25.b2 (BJ T)
 have D28:=KD.mk (W.mg_of X G b28) F28 F28.b2 (uz T)
 have D29:=KD.mk (W.mg_of X G b29) F29 F29.b2 (xD T)
 have D30:=KN.mk b30 F30 F30.b5 (tw T)
 have D32:=KN.mk b32 F32 F32.b3 (zZ T)
 have D34:=KM.mk cl22 b34 F34 F34.b1 (wj T)
 have D35:=KM.mk cl22 b35 F35 F35.b1 (BK T)
 have D36:=KM.mk cl22 b36 F36 F36.b1 (wm T)
 have D37:=KM.mk cl22 b37 F37 F37.b1 (z5 T)
 have D63:=KD.mk (W.mg_of X G b63) F63 F63.b2 (JR T)
 have D64:=KD.mk (W.mg_of X G b64) F64 F64.b3 (Fi T)
 have D65:=KD.mk (W.mg_of X G b65) F65 F65.b2 (Dv T)
 have D73:=KD.mk (W.mg_of X G b73) F73 F73.b3 (JT T)
 have D74:=KD.mk (W.mg_of X G b74) F74 F74.b3 (Fj T)
 have D75:=KD.mk (W.mg_of X G b75) F75 F75.b2 (Dw T)
 have D76:=KD.mk (W.mg_of X G b76) F76 F76.b2 (Dx T)
 have D77:=KD.mk (W.mg_of X G b77) F77 F77.b1 (Dy T)
 have D78:=KD.mk (W.mg_of X G b78) F78 F78.b2 (Dz T)
 have D1:=KD.mk (W.mg_of X G b1) F1 F1.b2 (wo T D0)
 have D2:=KD.mk (W.mg_of X G b2) F2 F2.b2 (xE T D0)
 have D3:=KD.mk (W.mg_of X G b3) F3 F3.b2 (wq T D0)
 have D13:=KD.mk (W.mg_of X G b13) F13 F13.b2 (wu T D12)
 have D16:=KM.mk cl20 b16 F16 F16.b2 (uA T D12)
 have D24:=KD.mk (W.mg_of X G b24) F24 F24.b2 (wx T D23)
 have D33:=KM.mk cl22 b33 F33 F33.b5 (xF T D35)
 have D48:=KM.mk cl23 b48 F48 F48.b1 (qa T D34)
 have D50:=KM.mk cl23 b50 F50 F50.b2 (oB T D10)
 have D52:=KM.mk cl23 b52 F52 F52.b2 (jx T D36)
 have D53:=KM.mk cl23 b53 F53 F53.b1 (z8 T D35)
 have D54:=KM.mk cl23 b54 F54 F54.b1 (xG T D37)
 have D55:=KM.mk cl23 b55 F55 F55.b1 (uB T D17 D36)
 have D56:=KM.mk cl23 b56 F56 F56.b1 (xH T D19 D36)
 have D57:=KM.mk cl23 b57 F57 F57.b1 (wz T D36)
 have D60:=KM.mk cl23 b60 F60 F60.b1 (wA T D7 D36)
 have D61:=KM.mk cl23 b61 F61 F61.b2 (tE T D8 D36)
 have D67:=KD.mk (W.mg_of X G b67) F67 F67.b1 (BM T D64)
 have D68:=KD.mk (W.mg_of X G b68) F68 F68.b2 (DA T D64)
 have D69:=KD.mk (W.mg_of X G b69) F69 F69.b3 (DB T D64)
 have D79:=KD.mk (W.mg_of X G b79) F79 F79.b3 (Fn T D73 D74 D75 D76 D78)
 have D82:=KD.mk (W.mg_of X G b82) F82 F82.b3 (rC T D73)
 have D83:=KD.mk (W.mg_of X G b83) F83 F83.b3 (rD T D73)
 have D88:=KD.mk (W.mg_of X G b88) F88 F88.b3 (uC T D73)
 have D5:=KM.mk cl19 b5 F5 F5.b3 (z9 T D8 D2)
 have D6:=KM.mk cl19 b6 F6 F6.b3 (BO T D8 D1)
 have D9:=KM.mk cl19 b9 F9 F9.b2 (tG T D1)
 have D11:=KM.mk cl19 b11 F11 F11.b1 (Aa T D4)
 have D15:=KM.mk cl20 b15 F15 F15.b3 (xI T D1)
 have D18:=KM.mk cl20 b18 F18 F18.b2 (xJ T D1)
 have D20:=KM.mk cl20 b20 F20 F20.b3 (Ab T D1)
 have D21:=KM.mk cl20 b21 F21 F21.b1 (xK T D14)
 have D26:=KD.mk (W.mg_of X G b26) F26 F26.b3 (wD T D24)
 have D27:=KD.mk (W.mg_of X G b27) F27 F27.b2 (BP T D24)
 have D38:=KN.mk b38 F38 F38.b6 (xM T D4 D14 D22 D28 D30 D32 D3 D13)
 have D49:=KM.mk cl23 b49 F49 F49.b4 (wG T D33 D50 D53)
 have D59:=KM.mk cl23 b59 F59 F59.b2 (nV T D24)
 have D70:=KD.mk (W.mg_of X G b70) F70 F70.b1 (DC T D63 D64 D67 D68)
 have D84:=KD.mk (W.mg_of X G b84) F84 F84.b3 (wH T D82 D83)
 have D31:=KM.mk cl21 b31 F31 F31.b1 (tH T D30 D11 D21)
 have D58:=KM.mk cl23 b58 F58 F58.b1 (wI T D36 D59)
 have D62:=KM.mk cl23 b62 F62 F62.b2 (rJ T D36 D9)
 have D71:=KD.mk (W.mg_of X G b71) F71 F71.b2 (DD T D63 D69 D70)
 have D39:=KM.mk cl23 b39 F39 F39.b3 (xN T D36 D15 D49 D31)
 have D40:=KM.mk cl23 b40 F40 F40.b2 (uD T D36 D16 D49 D31)
 have D41:=KM.mk cl23 b41 F41 F41.b2 (xO T D36 D18 D49 D31)
 have D44:=KM.mk cl23 b44 F44 F44.b4 (qh T D36 D1 D49 D31)
 have D47:=KM.mk cl23 b47 F47 F47.b4 (xP T D29 D36 D1 D50 D20 D26 D27 D49 D31)
 have D51:=KM.mk cl23 b51 F51 F51.b2 (rM T D25 D58)
 have D66:=KD.mk (W.mg_of X G b66) F66 F66.b2 (Ft T (W.mg_of X G b66) F66 F66.b2)
 have D72:=KD.mk (W.mg_of X G b72) F72 F72.b1 (Fu T D38)
 have D42:=KM.mk cl23 b42 F42 F42.b2 (qi T D44)
 have D43:=KM.mk cl23 b43 F43 F43.b2 (qj T D44)
 have D45:=KM.mk cl23 b45 F45 F45.b3 (xQ T D7 D36 D2 D52 D5 D49 D31 D51)
 have D46:=KM.mk cl23 b46 F46 F46.b2 (uE T D8 D36 D52 D6 D49 D31 D51)
 have D81:=KD.mk (W.mg_of X G b81) F81 F81.b4 (Fv T D53 D54 D55 D56 D57 D60 D61 D58 D62 D66)
 have D87:=KD.mk (W.mg_of X G b87) F87 F87.b4 (Fw T D47)
 have D80:=KD.mk (W.mg_of X G b80) F80 F80.b2 (Fx T D48 D39 D40 D41 D47 D42 D43 D45 D46)
 have D85:=KD.mk (W.mg_of X G b85) F85 F85.b5 (Fy T D79 D66 D80)
 have D86:=KD.mk (W.mg_of X G b86) F86 F86.b5 (HR T D65 D77 D84 D85)
 exact MA T D63 D88 D71 D72 D81 D87 D85 D86 _ _ F89
theorem Fz {K:WA}{Z:Adr}{H:Hp}{a:Addr}{ns:List Int}(hl:ns.length<=63)(hS:SqL K H a (ns.map V.int)){Q:VK}{E:XK}(q:∀H',Q (.bl true) H'):wL K Z [.ref a] H Q E:=⟨a,ns,rfl,hS,hl,q⟩
noncomputable def SPl (K:WA):Sp:=fun vs H Q _=>∃(a:Addr) (ns:List Int),vs=[.ref a]/\SqL K H a (ns.map V.int)/\ns.length<=63/\∀H',Q (.bl true) H'
theorem NT {l:W.OpenLaw}{q:Program}{loose:List Str}{XP:(Str->Option Value)->Heap->Prop}{YP:World->Heap->Prop}{d:DefRec}{K:Params->WA}(hn:l.most=some 63)(hdf:d.params.defaults=[])
  (hY:∀(w:World) (h:Heap),YP w h->(K w.params).In h)
  (F:∀(w:World) (mg:Str->Option Value) (fa:Addr) (h:Heap),(K w.params).In h->h.Ns mainGlobals mg->mg d.name=some (.ref fa)->
   ∃Z:Adr,∃fd:FuncData,(∀(s:Shared) (u:Value),BindsTo s fd ⟨[u],[]⟩ [("_law_script",u)])/\∀base:Heap,(K w.params).In base->base.Ns mainGlobals mg->fM l.prog w (K w.params) mg base CX0 10 fa fd ["_law_script"] (wL (K w.params) Z)) :
  W.WalkO q loose XP YP l.row.toRowW d [] (fun f vs=>PySem.call f vs):=
 L2.Iv (n:=63) (k:=10) (x:="_law_script") (CX:=fun _=>CX0) (sp:=fun w=>SPl (K w.params)) hn (by decide) hdf ⟨rfl,by decide,by decide⟩ hY
  (fun w mg fa h a b c=>let ⟨Z,fd,b1,b2⟩:=F w mg fa h a b c;⟨fd,b1,fun base x y=>(b2 base x y).imp fun vs H Q E ⟨a,ns,e,hS,hl,q⟩=>by subst e;exact Fz hl hS q⟩) (fun _ _ a ns hl _ hS=>⟨a,ns,rfl,hS,hl,fun _=>rfl⟩) fun _ _ _ _ _ z=>z
end K34
local macro_rules | `(tactic| walk_at "m_is") => `(tactic| (delta L2.Xm; kts_exm))
local macro_rules | `(tactic| walk_at "h_is") => `(tactic| (delta L2.Kt; kit_is))
local macro_rules | `(tactic| walk_at "n_is") => `(tactic| (delta L2.NI; k_is))
local macro_rules | `(tactic| walk_at "a_is") => `(tactic| (delta L2.aX; k_is))
local macro_rules | `(tactic| walk_at "i_is") => `(tactic| (apply L2.KI.mk; k_is))
local macro_rules | `(tactic| walk_at "c_is") => `(tactic| (apply L2.Cls.mk; iterate 4 k_is))
local macro_rules | `(tactic| walk_at "o_is") => `(tactic| (apply L2.C0I.mk; k_is; exact rfl; k_is; exact rfl; exact rfl))
local macro_rules | `(tactic| walk_at "x_is") => `(tactic| (apply L2.XI.mk; k_is; k_is; exact rfl; exact rfl; k_is; k_is))
local macro_rules | `(tactic| walk_at "d_is") => `(tactic| (apply L2.DI.mk; iterate 4 k_is))
local macro_rules | `(tactic| walk_at "e_is") => `(tactic| (apply L2.MI.mk; iterate 5 k_is))
local macro_rules | `(tactic| walk_at "t_is") => `(tactic| (apply L2.II.mk; iterate 7 k_is))
open PySem PySem.W PyProof.Rows
set_option maxRecDepth 100000 in
set_option maxHeartbeats 0 in
theorem PySem.Challenge.cw_cagebells_k34_whole_first_refusal_holds : PySem.Challenge.rw_cagebells_k34_whole_first_refusal.Holds := by
 refine hd ?_
 k_fill
 refine K34.NT (l:=PySem.Challenge.rw_cagebells_k34_whole_first_refusal) rfl rfl (fun w h Y=>W.kIn_of Y) ?F
 case F=>
  intro w mg fa h KX G hmg
  apply K34.MB KX G hmg
  apply K34.KO.mk
  iterate 14 k_is
  iterate 24 walk_at "n_is"
  iterate 8 walk_at "i_is"
  iterate 4 k_is
  walk_at "c_is"
  iterate 3 walk_at "a_is"
  walk_at "c_is"
  iterate 3 walk_at "a_is"
  walk_at "c_is"
  iterate 4 walk_at "a_is"
  walk_at "c_is"
  iterate 3 walk_at "a_is"
  walk_at "c_is"
  iterate 5 walk_at "a_is"
  walk_at "o_is"
  iterate 18 walk_at "x_is"
  walk_at "m_is"
  iterate 3 walk_at "h_is"
  walk_at "m_is"
  iterate 3 walk_at "h_is"
  walk_at "m_is"
  iterate 3 walk_at "h_is"
  walk_at "m_is"
  iterate 3 walk_at "h_is"
  walk_at "m_is"
  iterate 3 walk_at "h_is"
  walk_at "m_is"
  iterate 3 walk_at "h_is"
  walk_at "m_is"
  iterate 3 walk_at "h_is"
  walk_at "m_is"
  iterate 3 walk_at "h_is"
  walk_at "m_is"
  iterate 3 walk_at "h_is"
  walk_at "m_is"
  iterate 3 walk_at "h_is"
  walk_at "m_is"
  iterate 3 walk_at "h_is"
  walk_at "m_is"
  iterate 3 walk_at "h_is"
  walk_at "m_is"
  iterate 3 walk_at "h_is"
  walk_at "m_is"
  iterate 3 walk_at "h_is"
  walk_at "m_is"
  iterate 3 walk_at "h_is"
  walk_at "m_is"
  iterate 3 walk_at "h_is"
  walk_at "m_is"
  iterate 3 walk_at "h_is"
  walk_at "m_is"
  iterate 3 walk_at "h_is"
  iterate 4 walk_at "d_is"
  walk_at "t_is"
  iterate 7 walk_at "e_is"
  iterate 2 walk_at "d_is"
  walk_at "t_is"
  iterate 7 walk_at "e_is"
  iterate 8 walk_at "d_is"
  walk_at "t_is"
  walk_at "e_is"
  walk_at "t_is"
  iterate 5 walk_at "e_is"
  walk_at "t_is"
  iterate 24 walk_at "e_is"
  iterate 27 walk_at "d_is"
