import PyProof.Rows.All
import Wide.All
import OpenK.AllK
import Wide.FinOn
import HandS.ForMost
import HandS.More
import HandS.IsInst
import HandS.Bytes
import HandS.Walk
import HandS.TupAny
import HandS.Style
import HandS.SortKw
import KE.GoesEnum
import KE.KMinKey
import HandS.WideBits
import HandS.Strs
import HandS.ToBytes
import PyProof.SumWalkG
import KE.KBytesWalk
import HandS.Star
import HandS.Star
import HandS.RaiseMore
import HandS.FStr
import HandS.Conv
import HandS.Dict
import HandS.DictComp
import HandS.SetFor
import HandS.TupSets
import HandS.Walk
import HandS.WordsDict
import HandS.NoneIn
import HandS.Steps
import HandS.Text
import KE.LtSeq
import KE.DataMinMax
import KE.KBytesEq
import KE.KBytesFind
import HandS.Bytes
import HandS.ToBytes
import HandS.RevRange
import KE.KDictCopyH
import KE.DatumOrd
import KE.SortData
import HandS.Exc
import HandS.ExcIs
import HandS.ExcField
import HandS.TryOnly
import HandS.Lambda
import HandS.EndTab
import HandS.FStr
import HandS.WordsExc
import KE.KExcSuper
import KE.KExcIs
import PySem.Challenge.RW_patchover_k53_cheapest_ways
set_option Elab.async false
set_option linter.all false
set_option maxRecDepth 100000
set_option maxHeartbeats 4000000
def PySem.W.Fast.tw1490629760807941390 : Unit := ()
def PySem.W.Fast.tw3082595082009966762 : Unit := ()
def PySem.W.Fast.tw11302235069263135098 : Unit := ()
def PySem.W.Fast.tw10941314068346589142 : Unit := ()
def PySem.W.Fast.tw8188298095413983575 : Unit := ()
def PySem.W.Fast.tw4707672718155462490 : Unit := ()
def PySem.W.Fast.tw16212933704523338035 : Unit := ()
def PySem.W.Fast.tw6042867563678853504 : Unit := ()
def PySem.W.Fast.tw766054439934288535 : Unit := ()
def PySem.W.Fast.tw3847082814603452153 : Unit := ()
def PySem.W.Fast.tw437604473871430466 : Unit := ()
def PySem.W.Fast.tw7990387254459769570 : Unit := ()
def PySem.W.Fast.tw8891139152911697829 : Unit := ()
def PySem.W.Fast.tw1158013159146214644 : Unit := ()
def PySem.W.Fast.tw5646363561940023809 : Unit := ()
def PySem.W.Fast.tw17300580889306137929 : Unit := ()
def PySem.W.Fast.tw17983382290377971723 : Unit := ()
def PySem.W.Fast.tw5541102611670689537 : Unit := ()
def PySem.W.Fast.tw15589847094378337470 : Unit := ()
def PySem.W.Fast.tw12158579936464581894 : Unit := ()
def PySem.W.Fast.tw3665716312043296841 : Unit := ()
def PySem.W.Fast.tw12671881326045768208 : Unit := ()
def PySem.W.Fast.tw14798320394398581040 : Unit := ()
def PySem.W.Fast.tw4001576249364863903 : Unit := ()
def PySem.W.Fast.tw1040231106239466114 : Unit := ()
def PySem.W.Fast.tw9917883516855238773 : Unit := ()
def PySem.W.Fast.tw14410167775113039209 : Unit := ()
def PySem.W.Fast.tw2832401120639891415 : Unit := ()
def PySem.W.Fast.tw12615249764551832299 : Unit := ()
def PySem.W.Fast.tw8692384841329769510 : Unit := ()
def PySem.W.Fast.tw14909469786069860538 : Unit := ()
def PySem.W.Fast.tw8802802056681603276 : Unit := ()
def PySem.W.Fast.tw5415888523508095126 : Unit := ()
def PySem.W.Fast.tw12398498350831199763 : Unit := ()
def PySem.W.Fast.tw9238175569274901684 : Unit := ()
def PySem.W.Fast.tw6303090763910372871 : Unit := ()
def PySem.W.Fast.tw8289367522504934768 : Unit := ()
def PySem.W.Fast.tw12569574135703656385 : Unit := ()
def PySem.W.Fast.tw10658955135685050131 : Unit := ()
def PySem.W.Fast.tw3382861872932594293 : Unit := ()
def PySem.W.Fast.tw6626595369415608305 : Unit := ()
def PySem.W.Fast.tw1021157980698754848 : Unit := ()
def PySem.W.Fast.tw17547191231041990226 : Unit := ()
def PySem.W.Fast.tw9722564141152030618 : Unit := ()
def PySem.W.Fast.tw5280787785588032967 : Unit := ()
def PySem.W.Fast.tw1070153855467591385 : Unit := ()
def PySem.W.Fast.tw10372587383512854207 : Unit := ()
def PySem.W.Fast.tw18049744577793304350 : Unit := ()
def PySem.W.Fast.tw200824137362679236 : Unit := ()
def PySem.W.Fast.tw14150219185824058159 : Unit := ()
def PySem.W.Fast.tw13655849268481593411 : Unit := ()
def PySem.W.Fast.tw16283705857403399432 : Unit := ()
def PySem.W.Fast.tw16117344256296557344 : Unit := ()
def PySem.W.Fast.tw14945428720368066883 : Unit := ()
def PySem.W.Fast.tw1705092316868360685 : Unit := ()
def PySem.W.Fast.tw14624138825645035529 : Unit := ()
def PySem.W.Fast.tw15847965346662236134 : Unit := ()
def PySem.W.Fast.tw17684055050573406053 : Unit := ()
def PySem.W.Fast.tw18162181510755998862 : Unit := ()
def PySem.W.Fast.tw17652405099075279104 : Unit := ()
def PySem.W.Fast.tw4646026248350602774 : Unit := ()
def PySem.W.Fast.tw1632285984690098154 : Unit := ()
def PySem.W.Fast.tw10124083195713909239 : Unit := ()
def PySem.W.Fast.tw4562005596636327459 : Unit := ()
def PySem.W.Fast.tw9048620586200783386 : Unit := ()
def PySem.W.Fast.tw7455022547213274826 : Unit := ()
def PySem.W.Fast.tw467232797666016783 : Unit := ()
def PySem.W.Fast.tw14552151034147585547 : Unit := ()
def PySem.W.Fast.tw14605308710687198825 : Unit := ()
def PySem.W.Fast.tw12320254785684503139 : Unit := ()
def PySem.W.Fast.tw254183045814150878 : Unit := ()
def PySem.W.Fast.tw10727054741304405857 : Unit := ()
def PySem.W.Fast.tw5594534262593402899 : Unit := ()
def PySem.W.Fast.tw11704118600685240691 : Unit := ()
def PySem.W.Fast.tw4468209870541880055 : Unit := ()
def PySem.W.Fast.tw17597072263551380336 : Unit := ()
def PySem.W.Fast.tw13275166729102130078 : Unit := ()
def PySem.W.Fast.tw10017165292251440267 : Unit := ()
def PySem.W.Fast.tw13555075104936011019 : Unit := ()
def PySem.W.Fast.tw5403164911116156865 : Unit := ()
def PySem.W.Fast.tw14571210335014240922 : Unit := ()
def PySem.W.Fast.tw9566307054003538762 : Unit := ()
def PySem.W.Fast.tw14669241386965479175 : Unit := ()
def PySem.W.Fast.tw10740832924868269728 : Unit := ()
def PySem.W.Fast.tw1828399627262684885 : Unit := ()
def PySem.W.Fast.tw2453880023086282606 : Unit := ()
def PySem.W.Fast.tw10120154203860826496 : Unit := ()
def PySem.W.Fast.tw3719447741186659148 : Unit := ()
def PySem.W.Fast.tw18156257001371687753 : Unit := ()
def PySem.W.Fast.tw13099449844649386547 : Unit := ()
def PySem.W.Fast.tw3959181699563442097 : Unit := ()
def PySem.W.Fast.tw17719616377814077907 : Unit := ()
def PySem.W.Fast.tw10651196414645910209 : Unit := ()
def PySem.W.Fast.tw8906789512692245344 : Unit := ()
def PySem.W.Fast.tw9311140437478382395 : Unit := ()
def PySem.W.Fast.tw15495546084197061971 : Unit := ()
def PySem.W.Fast.tw56728221088828383 : Unit := ()
def PySem.W.Fast.tw12779648119062566173 : Unit := ()
def PySem.W.Fast.tw17677856934904152170 : Unit := ()
def PySem.W.Fast.tw3037235072370105174 : Unit := ()
def PySem.W.Fast.tw3380552017512796111 : Unit := ()
def PySem.W.Fast.tw3816293567497260620 : Unit := ()
def PySem.W.Fast.tw12868050678611989585 : Unit := ()
def PySem.W.Fast.tw6317251979329452670 : Unit := ()
def PySem.W.Fast.tw2268871485927177168 : Unit := ()
def PySem.W.Fast.tw14450656924251546456 : Unit := ()
def PySem.W.Fast.tw10235367492009065054 : Unit := ()
def PySem.W.Fast.tw4391453870436435884 : Unit := ()
def PySem.W.Fast.tw1380812326879145512 : Unit := ()
def PySem.W.Fast.tw4282956880462118908 : Unit := ()
def PySem.W.Fast.tw14495335682174881870 : Unit := ()
def PySem.W.Fast.tw13290545314275844521 : Unit := ()
def PySem.W.Fast.tw1195324448164867561 : Unit := ()
def PySem.W.Fast.tw16524366261868585541 : Unit := ()
def PySem.W.Fast.tw10849252471601285513 : Unit := ()
def PySem.W.Fast.tw14464430535187157282 : Unit := ()
def PySem.W.Fast.tw15408964484804760162 : Unit := ()
def PySem.W.Fast.tw13437641405838246552 : Unit := ()
def PySem.W.Fast.tw3648736383860051527 : Unit := ()
def PySem.W.Fast.tw13440447768754412172 : Unit := ()
def PySem.W.Fast.tw13726947144815435745 : Unit := ()
def PySem.W.Fast.tw6362804389985907884 : Unit := ()
def PySem.W.Fast.tw17181426692968840303 : Unit := ()
def PySem.W.Fast.tw9927365884893022219 : Unit := ()
def PySem.W.Fast.tw13166510244312810124 : Unit := ()
def PySem.W.Fast.tw12925261685056224392 : Unit := ()
def PySem.W.Fast.tw14371233940546386785 : Unit := ()
def PySem.W.Fast.tw10091415985129425758 : Unit := ()
def PySem.W.Fast.tw7987634552113323448 : Unit := ()
def PySem.W.Fast.tw8766612870569787848 : Unit := ()
def PySem.W.Fast.tw16722436157987957948 : Unit := ()
def PySem.W.Fast.tw25362121696237418 : Unit := ()
def PySem.W.Fast.tw12040031228001937811 : Unit := ()
def PySem.W.Fast.tw15987609002654725745 : Unit := ()
def PySem.W.Fast.tw4522400795583250685 : Unit := ()
def PySem.W.Fast.tw5312375686496657291 : Unit := ()
def PySem.W.Fast.tw15396856117736520667 : Unit := ()
def PySem.W.Fast.tw12978266573985357810 : Unit := ()
def PySem.W.Fast.tw4336556542935281623 : Unit := ()
def PySem.W.Fast.tw11489395363266789546 : Unit := ()
def PySem.W.Fast.tw8350989526195950961 : Unit := ()
def PySem.W.Fast.tw9895026549519759352 : Unit := ()
def PySem.W.Fast.tw10914653464225635404 : Unit := ()
def PySem.W.Fast.tw11098903086691907128 : Unit := ()
def PySem.W.Fast.tw159744678400395916 : Unit := ()
def PySem.W.Fast.tw8100852282503033746 : Unit := ()
def PySem.W.Fast.tw11313312839765986109 : Unit := ()
def PySem.W.Fast.tw8909894574120178695 : Unit := ()
def PySem.W.Fast.tw2853548928359370052 : Unit := ()
def PySem.W.Fast.tw7417198626376498403 : Unit := ()
def PySem.W.Fast.tw12090125331615815653 : Unit := ()
def PySem.W.Fast.tw16678163885756898407 : Unit := ()
def PySem.W.Fast.tw5616468641302661981 : Unit := ()
def PySem.W.Fast.tw4815310788166661482 : Unit := ()
def PySem.W.Fast.tw17963624386003007458 : Unit := ()
def PySem.W.Fast.tw2045728461680714864 : Unit := ()
def PySem.W.Fast.tw4244494595662184919 : Unit := ()
def PySem.W.Fast.tw15617379087389701900 : Unit := ()
def PySem.W.Fast.tw1913993772752752818 : Unit := ()
def PySem.W.Fast.tw6094314773010616546 : Unit := ()
def PySem.W.Fast.tw17490634369395320102 : Unit := ()
def PySem.W.Fast.tw4518844711691698836 : Unit := ()
def PySem.W.Fast.tw9991439168683606588 : Unit := ()
def PySem.W.Fast.tw18267682410765362475 : Unit := ()
def PySem.W.Fast.tw10324775994636113619 : Unit := ()
def PySem.W.Fast.tw6938967346672261837 : Unit := ()
def PySem.W.Fast.tw12276606792603589609 : Unit := ()
def PySem.W.Fast.tw9986180541373449846 : Unit := ()
def PySem.W.Fast.tw5333628237247374050 : Unit := ()
def PySem.W.Fast.tw318112057786025445 : Unit := ()
def PySem.W.Fast.tw2231514207869566035 : Unit := ()
def PySem.W.Fast.tw1945427702136152835 : Unit := ()
def PySem.W.Fast.tw15641820085261855914 : Unit := ()
def PySem.W.Fast.tw11666743428792974360 : Unit := ()
def PySem.W.Fast.tw3524712949058781759 : Unit := ()
def PySem.W.Fast.tw15059822015811728386 : Unit := ()
def PySem.W.Fast.tw227040046553644712 : Unit := ()
def PySem.W.Fast.tw16317813921744476194 : Unit := ()
def PySem.W.Fast.tw9313660199511445295 : Unit := ()
def PySem.W.Fast.tw4724672771241072391 : Unit := ()
def PySem.W.Fast.tw9344860332469308963 : Unit := ()
def PySem.W.Fast.tw15310722131340765434 : Unit := ()
def PySem.W.Fast.tw11809489774846978457 : Unit := ()
def PySem.W.Fast.tw8410600487395825469 : Unit := ()
def PySem.W.Fast.tw11523667221656466504 : Unit := ()
def PySem.W.Fast.tw641045317341061742 : Unit := ()
def PySem.W.Fast.tw1424625532582403082 : Unit := ()
def PySem.W.Fast.tw16426364777724460107 : Unit := ()
def PySem.W.Fast.tw16443703744000144011 : Unit := ()
def PySem.W.Fast.tw13078017235130156265 : Unit := ()
def PySem.W.Fast.tw14260065400285293391 : Unit := ()
def PySem.W.Fast.tw7294065329820280153 : Unit := ()
def PySem.W.Fast.tw6932185230633705660 : Unit := ()
def PySem.W.Fast.tw523930454891988466 : Unit := ()
def PySem.W.Fast.tw8625966430354484409 : Unit := ()
def PySem.W.Fast.tw9106784491993439400 : Unit := ()
def PySem.W.Fast.tw16710637991215683583 : Unit := ()
def PySem.W.Fast.tw477357865318163302 : Unit := ()
def PySem.W.Fast.tw2050115976276972369 : Unit := ()
def PySem.W.Fast.tw1552677626057660104 : Unit := ()
def PySem.W.Fast.tw1283475440617137366 : Unit := ()
def PySem.W.Fast.tw3660076892437224100 : Unit := ()
def PySem.W.Fast.tw17622845136977352116 : Unit := ()
def PySem.W.Fast.tw1528845261068530554 : Unit := ()
def PySem.W.Fast.tw14169643660001719319 : Unit := ()
def PySem.W.Fast.tw15985931164831121328 : Unit := ()
def PySem.W.Fast.tw3191773193265524073 : Unit := ()
def PySem.W.Fast.tw13969502025554883644 : Unit := ()
def PySem.W.Fast.tw14370758645125188775 : Unit := ()
def PySem.W.Fast.tw11838157820494670280 : Unit := ()
def PySem.W.Fast.tw5088723774274272905 : Unit := ()
def PySem.W.Fast.tw4740627448756334841 : Unit := ()
def PySem.W.Fast.tw8025991223428334324 : Unit := ()
def PySem.W.Fast.tw10501517469212262117 : Unit := ()
def PySem.W.Fast.tw13640221330612448787 : Unit := ()
def PySem.W.Fast.tw5346647544313355169 : Unit := ()
def PySem.W.Fast.tw13550113541008092338 : Unit := ()
def PySem.W.Fast.tw3501305765918023345 : Unit := ()
def PySem.W.Fast.tw1345600081705114213 : Unit := ()
def PySem.W.Fast.tw18299550350529799256 : Unit := ()
def PySem.W.Fast.tw11605524592106705909 : Unit := ()
def PySem.W.Fast.tw8475182375975048173 : Unit := ()
def PySem.W.Fast.tw17016079023200421917 : Unit := ()
def PySem.W.Fast.tw14193176174926156097 : Unit := ()
def PySem.W.Fast.tw5334303999222735628 : Unit := ()
def PySem.W.Fast.tw2636208830429551425 : Unit := ()
def PySem.W.Fast.tw2971123327922558306 : Unit := ()
def PySem.W.Fast.tw15978914729730356702 : Unit := ()
def PySem.W.Fast.tw5389732902782878570 : Unit := ()
def PySem.W.Fast.tw5215373280932485440 : Unit := ()
def PySem.W.Fast.tw9375441203509360913 : Unit := ()
def PySem.W.Fast.tw12934058272671815657 : Unit := ()
def PySem.W.Fast.tw16307422790129639941 : Unit := ()
def PySem.W.Fast.tw898360574159029209 : Unit := ()
def PySem.W.Fast.tw9861759178118647759 : Unit := ()
def PySem.W.Fast.tw2129261012340823227 : Unit := ()
def PySem.W.Fast.tw463724919656462893 : Unit := ()
def PySem.W.Fast.tw10712028384679038181 : Unit := ()
def PySem.W.Fast.tw1933514667892532923 : Unit := ()
def PySem.W.Fast.tw6349075411896393418 : Unit := ()
def PySem.W.Fast.tw8900279540682419306 : Unit := ()
def PySem.W.Fast.tw4500069354327179986 : Unit := ()
def PySem.W.Fast.tw471262506939787438 : Unit := ()
def PySem.W.Fast.tw15949261154578839889 : Unit := ()
def PySem.W.Fast.tw2008206044697681247 : Unit := ()
def PySem.W.Fast.tw1565806440174615510 : Unit := ()
def PySem.W.Fast.tw14817554768535407436 : Unit := ()
def PySem.W.Fast.tw16317733056316048184 : Unit := ()
def PySem.W.Fast.tw12571032229492645429 : Unit := ()
def PySem.W.Fast.tw16460986625601973740 : Unit := ()
def PySem.W.Fast.tw797450939939253497 : Unit := ()
def PySem.W.Fast.tw805655149615088820 : Unit := ()
def PySem.W.Fast.tw6415245317628828620 : Unit := ()
def PySem.W.Fast.tw12616565335414203130 : Unit := ()
def PySem.W.Fast.tw1779252285599258161 : Unit := ()
def PySem.W.Fast.tw14231024423355491066 : Unit := ()
def PySem.W.Fast.tw3569305939450334296 : Unit := ()
def PySem.W.Fast.tw9362693937375714693 : Unit := ()
def PySem.W.Fast.tw2203063554023712123 : Unit := ()
def PySem.W.Fast.tw12469266074526185455 : Unit := ()
def PySem.W.Fast.tw16249303789127222114 : Unit := ()
def PySem.W.Fast.tw14705937001533005459 : Unit := ()
def PySem.W.Fast.tw11459397302120200563 : Unit := ()
def PySem.W.Fast.tw14395581409851199014 : Unit := ()
def PySem.W.Fast.tw6664065973719183546 : Unit := ()
def PySem.W.Fast.tw10980978151505552479 : Unit := ()
def PySem.W.Fast.tw106842288585196902 : Unit := ()
def PySem.W.Fast.tw10633068440157881650 : Unit := ()
def PySem.W.Fast.tw3989109574296760074 : Unit := ()
def PySem.W.Fast.tw17361788446752401381 : Unit := ()
def PySem.W.Fast.tw7179749838085674202 : Unit := ()
def PySem.W.Fast.tw7540177697471282882 : Unit := ()
def PySem.W.Fast.tw433397363688911275 : Unit := ()
def PySem.W.Fast.tw5584128840301431838 : Unit := ()
def PySem.W.Fast.tw11265122225775323805 : Unit := ()
def PySem.W.Fast.tw6425049038079698033 : Unit := ()
def PySem.W.Fast.tw8756461830587993448 : Unit := ()
def PySem.W.Fast.tw2083702616407714735 : Unit := ()
def PySem.W.Fast.tw9788823304593771951 : Unit := ()
def PySem.W.Fast.tw15942476766625227888 : Unit := ()
def PySem.W.Fast.tw6445543657157986447 : Unit := ()
def PySem.W.Fast.tw2299764025228689364 : Unit := ()
def PySem.W.Fast.tw6007453361070533017 : Unit := ()
def PySem.W.Fast.tw14599473719823842784 : Unit := ()
def PySem.W.Fast.tw2495034970628547313 : Unit := ()
def PySem.W.Fast.tw5757836049831007682 : Unit := ()
def PySem.W.Fast.tw7243633489406782816 : Unit := ()
def PySem.W.Fast.tw299068786296758770 : Unit := ()
def PySem.W.Fast.tw13750437084931822134 : Unit := ()
def PySem.W.Fast.tw8509128791850219898 : Unit := ()
def PySem.W.Fast.tw7226643683536128247 : Unit := ()
def PySem.W.Fast.tw2613996633324086762 : Unit := ()
def PySem.W.Fast.tw7033752133976243016 : Unit := ()
def PySem.W.Fast.tw13275684955366428287 : Unit := ()
def PySem.W.Fast.tw12835633395649720780 : Unit := ()
def PySem.W.Fast.tw6316173988704799746 : Unit := ()
def PySem.W.Fast.tw1498014228437150349 : Unit := ()
def PySem.W.Fast.tw18161777053968963957 : Unit := ()
def PySem.W.Fast.tw5604414307078781067 : Unit := ()
def PySem.W.Fast.tw7278836186888427200 : Unit := ()
def PySem.W.Fast.tw5334918415921576052 : Unit := ()
def PySem.W.Fast.tw10546567966569499017 : Unit := ()
def PySem.W.Fast.tw6384488127300648558 : Unit := ()
def PySem.W.Fast.tw8517218670689017343 : Unit := ()
def PySem.W.Fast.tw14502265275555631341 : Unit := ()
def PySem.W.Fast.tw929802349619317412 : Unit := ()
def PySem.W.Fast.tw4828911270652190064 : Unit := ()
def PySem.W.Fast.tw12302851182122765959 : Unit := ()
def PySem.W.Fast.tw2074915879894904667 : Unit := ()
def PySem.W.Fast.tw4035965708259551038 : Unit := ()
def PySem.W.Fast.tw8449718352412480190 : Unit := ()
def PySem.W.Fast.tw2084293449766227888 : Unit := ()
def PySem.W.Fast.tw1630828846144953349 : Unit := ()
def PySem.W.Fast.tw3883241005650909443 : Unit := ()
def PySem.W.Fast.tw15889473868708298607 : Unit := ()
def PySem.W.Fast.tw16441238980545533937 : Unit := ()
def PySem.W.Fast.tw15553768170769184995 : Unit := ()
def PySem.W.Fast.tw7994321691881303621 : Unit := ()
def PySem.W.Fast.tw14696137539203511122 : Unit := ()
def PySem.W.Fast.tw2600086141089022326 : Unit := ()
def PySem.W.Fast.tw9706653786819046378 : Unit := ()
def PySem.W.Fast.tw12594771787118720113 : Unit := ()
def PySem.W.Fast.tw1957276528809864482 : Unit := ()
def PySem.W.Fast.tw16693099403131009428 : Unit := ()
def PySem.W.Fast.tw18176129834671776612 : Unit := ()
def PySem.W.Fast.tw6663869910098114409 : Unit := ()
def PySem.W.Fast.tw2144710671826659808 : Unit := ()
def PySem.W.Fast.tw17798634505774576230 : Unit := ()
def PySem.W.Fast.tw1850650568771178261 : Unit := ()
def PySem.W.Fast.tw9493871763258202735 : Unit := ()
def PySem.W.Fast.tw4215054923072014595 : Unit := ()
def PySem.W.Fast.tw3015043245622542755 : Unit := ()
def PySem.W.Fast.tw8229201336644486233 : Unit := ()
def PySem.W.Fast.tw3581110452241687275 : Unit := ()
def PySem.W.Fast.tw15068542154209674209 : Unit := ()
def PySem.W.Fast.tw9012273933085383900 : Unit := ()
def PySem.W.Fast.tw18412390389922223300 : Unit := ()
def PySem.W.Fast.tw16227752223856819733 : Unit := ()
def PySem.W.Fast.tw7415332694503605155 : Unit := ()
def PySem.W.Fast.tw5223991534228069599 : Unit := ()
def PySem.W.Fast.tw8403394839011761468 : Unit := ()
def PySem.W.Fast.tw8314386502317988124 : Unit := ()
def PySem.W.Fast.tw6285185863038696876 : Unit := ()
def PySem.W.Fast.tw7179833937802145964 : Unit := ()
def PySem.W.Fast.tw15380495331165766626 : Unit := ()
def PySem.W.Fast.tw9630083766593708200 : Unit := ()
def PySem.W.Fast.tw9690943169420988221 : Unit := ()
def PySem.W.Fast.tw14439003692851642932 : Unit := ()
def PySem.W.Fast.tw14528250798181423557 : Unit := ()
def PySem.W.Fast.tw9736489668624344078 : Unit := ()
def PySem.W.Fast.tw9692298592469755124 : Unit := ()
def PySem.W.Fast.tw18401262826638629113 : Unit := ()
def PySem.W.Fast.tw1577606132470054783 : Unit := ()
def PySem.W.Fast.tw15958442106079665629 : Unit := ()
def PySem.W.Fast.tw12255659091586465064 : Unit := ()
def PySem.W.Fast.tw14205244134059810396 : Unit := ()
def PySem.W.Fast.tw14374990663304628462 : Unit := ()
def PySem.W.Fast.tw10613862073888438217 : Unit := ()
def PySem.W.Fast.tw14519728472024314021 : Unit := ()
def PySem.W.Fast.tw5757061761310113208 : Unit := ()
def PySem.W.Fast.tw11958879347379308705 : Unit := ()
def PySem.W.Fast.tw8075000301656976175 : Unit := ()
def PySem.W.Fast.tw13861083703115769078 : Unit := ()
def PySem.W.Fast.tw8309849558114542424 : Unit := ()
def PySem.W.Fast.tw1614318343239170032 : Unit := ()
def PySem.W.Fast.tw15389483787201937720 : Unit := ()
def PySem.W.Fast.tw6302451806783504348 : Unit := ()
def PySem.W.Fast.tw429307792255202542 : Unit := ()
def PySem.W.Fast.tw4796872272664550847 : Unit := ()
def PySem.W.Fast.tw12351946179332883853 : Unit := ()
def PySem.W.Fast.tw8114598965675874484 : Unit := ()
def PySem.W.Fast.tw3038353820369073269 : Unit := ()
def PySem.W.Fast.tw7772686231020628303 : Unit := ()
def PySem.W.Fast.tw6991598605648049480 : Unit := ()
def PySem.W.Fast.tw12843320338829805329 : Unit := ()
def PySem.W.Fast.tw3536454567003520758 : Unit := ()
def PySem.W.Fast.tw7637219155118140368 : Unit := ()
def PySem.W.Fast.tw14304567456488623003 : Unit := ()
def PySem.W.Fast.tw2314246275844880703 : Unit := ()
def PySem.W.Fast.tw9862165560841849581 : Unit := ()
def PySem.W.Fast.tw6138428241505383686 : Unit := ()
def PySem.W.Fast.tw18415260868134357951 : Unit := ()
def PySem.W.Fast.tw6082103913243453829 : Unit := ()
def PySem.W.Fast.tw2734633649601130432 : Unit := ()
def PySem.W.Fast.tw1429537667030167837 : Unit := ()
def PySem.W.Fast.tw15578255348269687929 : Unit := ()
def PySem.W.Fast.tw17526793381809514937 : Unit := ()
def PySem.W.Fast.tw5963743067970510437 : Unit := ()
def PySem.W.Fast.tw14679586417618330292 : Unit := ()
def PySem.W.Fast.tw3549509963326170438 : Unit := ()
def PySem.W.Fast.tw16369640723244727483 : Unit := ()
def PySem.W.Fast.tw12106668615873090927 : Unit := ()
def PySem.W.Fast.tw14730748400167578551 : Unit := ()
def PySem.W.Fast.tw6374365148034920910 : Unit := ()
def PySem.W.Fast.tw13210969892054104337 : Unit := ()
def PySem.W.Fast.tw4003301753503173110 : Unit := ()
def PySem.W.Fast.tw8128674882032449005 : Unit := ()
def PySem.W.Fast.tw2001888935905785334 : Unit := ()
def PySem.W.Fast.tw775731894404388009 : Unit := ()
def PySem.W.Fast.tw17486314377918942235 : Unit := ()
def PySem.W.Fast.tw15444262085074761913 : Unit := ()
def PySem.W.Fast.tw14739246926526429331 : Unit := ()
def PySem.W.Fast.tw6460849834058688437 : Unit := ()
def PySem.W.Fast.tw8756615430411935959 : Unit := ()
def PySem.W.Fast.tw4964380182754083954 : Unit := ()
def PySem.W.Fast.tw2807778706284301208 : Unit := ()
def PySem.W.Fast.tw15165797323861704222 : Unit := ()
def PySem.W.Fast.tw16103880475900038087 : Unit := ()
def PySem.W.Fast.tw10303033762061145127 : Unit := ()
def PySem.W.Fast.tw4866172330565220075 : Unit := ()
def PySem.W.Fast.tw7550928089822928444 : Unit := ()
def PySem.W.Fast.tw3603056323836033005 : Unit := ()
def PySem.W.Fast.tw12559251122425654805 : Unit := ()
def PySem.W.Fast.tw1016047527365521708 : Unit := ()
def PySem.W.Fast.tw5799705934593981985 : Unit := ()
def PySem.W.Fast.tw15825813893709393498 : Unit := ()
def PySem.W.Fast.tw3228386410104914448 : Unit := ()
def PySem.W.Fast.tw7075505783273171 : Unit := ()
def PySem.W.Fast.tw5174458768964658215 : Unit := ()
def PySem.W.Fast.tw11543810124977337924 : Unit := ()
def PySem.W.Fast.tw9522100305239082196 : Unit := ()
def PySem.W.Fast.tw15562625401002919350 : Unit := ()
def PySem.W.Fast.tw7081991784972897005 : Unit := ()
def PySem.W.Fast.tw6415826758221511362 : Unit := ()
def PySem.W.Fast.tw13439868825499110139 : Unit := ()
def PySem.W.Fast.tw10395126640465841496 : Unit := ()
def PySem.W.Fast.tw16415733998086599720 : Unit := ()
def PySem.W.Fast.tw9075566172240404857 : Unit := ()
def PySem.W.Fast.tw3814069480711352913 : Unit := ()
def PySem.W.Fast.tw15223249951734070273 : Unit := ()
def PySem.W.Fast.tw11424908831500342485 : Unit := ()
def PySem.W.Fast.tw16863994810093756905 : Unit := ()
def PySem.W.Fast.tw5003084219683027868 : Unit := ()
def PySem.W.Fast.tw3604478080923048175 : Unit := ()
def PySem.W.Fast.tw2335454640893040694 : Unit := ()
def PySem.W.Fast.tw8208775077619873219 : Unit := ()
def PySem.W.Fast.tw7919999339992249753 : Unit := ()
def PySem.W.Fast.tw2968065569841502803 : Unit := ()
def PySem.W.Fast.tw18329060799913058635 : Unit := ()
def PySem.W.Fast.tw15606977400739423746 : Unit := ()
def PySem.W.Fast.tw16642239127371308595 : Unit := ()
def PySem.W.Fast.tw14520881051524997710 : Unit := ()
def PySem.W.Fast.tw3328546193377015275 : Unit := ()
def PySem.W.Fast.tw10867089065555351392 : Unit := ()
def PySem.W.Fast.tw15621239522240230731 : Unit := ()
def PySem.W.Fast.tw7411527573695774996 : Unit := ()
def PySem.W.Fast.tw356249980039650880 : Unit := ()
def PySem.W.Fast.tw7428049166239672005 : Unit := ()
def PySem.W.Fast.tw7672524153400577250 : Unit := ()
def PySem.W.Fast.tw4312413485362155576 : Unit := ()
def PySem.W.Fast.tw3756478549228817252 : Unit := ()
def PySem.W.Fast.tw5270405265221914894 : Unit := ()
def PySem.W.Fast.tw11545813900900627939 : Unit := ()
def PySem.W.Fast.tw17687064743323564454 : Unit := ()
def PySem.W.Fast.tw16091237472814612089 : Unit := ()
def PySem.W.Fast.tw18037538047271929028 : Unit := ()
def PySem.W.Fast.tw7282242243100363274 : Unit := ()
def PySem.W.Fast.tw6888992814006490976 : Unit := ()
def PySem.W.Fast.tw14064114773925355240 : Unit := ()
def PySem.W.Fast.tw16844389244875909520 : Unit := ()
def PySem.W.Fast.tw8219355881010847664 : Unit := ()
def PySem.W.Fast.tw3399036375795990333 : Unit := ()
def PySem.W.Fast.tw16970327061880285369 : Unit := ()
def PySem.W.Fast.tw6876138808141300756 : Unit := ()
def PySem.W.Fast.tw2587518437816351290 : Unit := ()
def PySem.W.Fast.tw18198529583529937259 : Unit := ()
def PySem.W.Fast.tw14922805439810397442 : Unit := ()
def PySem.W.Fast.tw4426429114959142809 : Unit := ()
def PySem.W.Fast.tw5409400137302464434 : Unit := ()
def PySem.W.Fast.tw17964036253780373268 : Unit := ()
def PySem.W.Fast.tw13108180317380699269 : Unit := ()
def PySem.W.Fast.tw21553918876150150 : Unit := ()
def PySem.W.Fast.tw7422242946807247336 : Unit := ()
def PySem.W.Fast.tw11345160523720913231 : Unit := ()
def PySem.W.Fast.tw14047470203544505264 : Unit := ()
def PySem.W.Fast.tw17400273729475560557 : Unit := ()
def PySem.W.Fast.tw2665413344283005026 : Unit := ()
def PySem.W.Fast.tw4632642734966458278 : Unit := ()
def PySem.W.Fast.tw14111773385012811638 : Unit := ()
def PySem.W.Fast.tw4024162097495167484 : Unit := ()
def PySem.W.Fast.tw17234761483603646972 : Unit := ()
def PySem.W.Fast.tw15154292001299550031 : Unit := ()
def PySem.W.Fast.tw773698655187101707 : Unit := ()
def PySem.W.Fast.tw7031494414844693503 : Unit := ()
def PySem.W.Fast.tw4025898299184426284 : Unit := ()
def PySem.W.Fast.tw7618057455899307641 : Unit := ()
def PySem.W.Fast.tw5493518549972390895 : Unit := ()
def PySem.W.Fast.tw2175533832319700437 : Unit := ()
def PySem.W.Fast.tw15360383541674901359 : Unit := ()
def PySem.W.Fast.tw18318905401926232315 : Unit := ()
def PySem.W.Fast.tw4006870702595422827 : Unit := ()
def PySem.W.Fast.tw15111156776245664221 : Unit := ()
def PySem.W.Fast.tw12485027354689632300 : Unit := ()
def PySem.W.Fast.tw6517000699240287629 : Unit := ()
def PySem.W.Fast.tw13550731994627024922 : Unit := ()
def PySem.W.Fast.tw5548925216375794173 : Unit := ()
def PySem.W.Fast.tw8103737436083275654 : Unit := ()
def PySem.W.Fast.tw7990027246548557873 : Unit := ()
def PySem.W.Fast.tw5711004103514673952 : Unit := ()
def PySem.W.Fast.tw7815262903257714133 : Unit := ()
def PySem.W.Fast.tw5473433224084273652 : Unit := ()
def PySem.W.Fast.tw10084091632793370195 : Unit := ()
def PySem.W.Fast.tw13198091319924960435 : Unit := ()
def PySem.W.Fast.tw18170234675891593986 : Unit := ()
def PySem.W.Fast.tw14480657348472590057 : Unit := ()
def PySem.W.Fast.tw1590205674133166741 : Unit := ()
def PySem.W.Fast.tw14620683736519041545 : Unit := ()
def PySem.W.Fast.tw1513676177076792547 : Unit := ()
def PySem.W.Fast.tw5923369840736466647 : Unit := ()
def PySem.W.Fast.tw5956262137076641156 : Unit := ()
def PySem.W.Fast.tw11801768437551451105 : Unit := ()
def PySem.W.Fast.tw9499517477994150863 : Unit := ()
def PySem.W.Fast.tw5555435479315593501 : Unit := ()
def PySem.W.Fast.tw5891508927980227127 : Unit := ()
def PySem.W.Fast.tw9267707709581287726 : Unit := ()
def PySem.W.Fast.tw16705613680723990087 : Unit := ()
def PySem.W.Fast.tw14591675513033825729 : Unit := ()
def PySem.W.Fast.tw7845240723816888179 : Unit := ()
def PySem.W.Fast.tw7126171236850673472 : Unit := ()
def PySem.W.Fast.tw1461975806150343828 : Unit := ()
def PySem.W.Fast.tw16366352380924244808 : Unit := ()
def PySem.W.Fast.tw9244289505152483654 : Unit := ()
def PySem.W.Fast.tw352039277958087732 : Unit := ()
def PySem.W.Fast.tw5396494584074782356 : Unit := ()
def PySem.W.Fast.tw10392533850392399681 : Unit := ()
def PySem.W.Fast.tw17000187327955674400 : Unit := ()
def PySem.W.Fast.tw13372602829361045088 : Unit := ()
def PySem.W.Fast.tw17245326946251204574 : Unit := ()
def PySem.W.Fast.tw12771271518029084704 : Unit := ()
def PySem.W.Fast.tw17614805025366032407 : Unit := ()
def PySem.W.Fast.tw10245984477081186532 : Unit := ()
def PySem.W.Fast.tw9686689058143326649 : Unit := ()
def PySem.W.Fast.tw13987271596065111992 : Unit := ()
def PySem.W.Fast.tw15613009885444357773 : Unit := ()
def PySem.W.Fast.tw9318941238986226134 : Unit := ()
def PySem.W.Fast.tw4754189888870095470 : Unit := ()
def PySem.W.Fast.tw7812017799180784464 : Unit := ()
def PySem.W.Fast.tw1441360161522257633 : Unit := ()
def PySem.W.Fast.tw13895623371089431986 : Unit := ()
def PySem.W.Fast.tw4724114669681286735 : Unit := ()
def PySem.W.Fast.tw12288088025696510765 : Unit := ()
def PySem.W.Fast.tw10090802818417620336 : Unit := ()
def PySem.W.Fast.tw8535778667581435023 : Unit := ()
def PySem.W.Fast.tw9819041309084916104 : Unit := ()
def PySem.W.Fast.tw16026219528808744227 : Unit := ()
def PySem.W.Fast.tw9788329614274654512 : Unit := ()
def PySem.W.Fast.tw4400390220549225856 : Unit := ()
def PySem.W.Fast.tw5379017237470179455 : Unit := ()
def PySem.W.Fast.tw17618564577854876204 : Unit := ()
def PySem.W.Fast.tw12595744125454190361 : Unit := ()
def PySem.W.Fast.tw8066626164322646100 : Unit := ()
def PySem.W.Fast.tw2254652159413025094 : Unit := ()
def PySem.W.Fast.tw13246126190919735293 : Unit := ()
def PySem.W.Fast.tw1221594570370738737 : Unit := ()
def PySem.W.Fast.tw1191142868569250774 : Unit := ()
def PySem.W.Fast.tw11982194262974070855 : Unit := ()
def PySem.W.Fast.tw1185094562001646784 : Unit := ()
def PySem.W.Fast.tw1555871762622707318 : Unit := ()
def PySem.W.Fast.tw3494289355740519080 : Unit := ()
def PySem.W.Fast.tw17778459254696630185 : Unit := ()
def PySem.W.Fast.tw3998840919298754633 : Unit := ()
def PySem.W.Fast.tw16337310884226791583 : Unit := ()
def PySem.W.Fast.tw2398467025585043434 : Unit := ()
def PySem.W.Fast.tw9577605785236894540 : Unit := ()
def PySem.W.Fast.tw9914996885327818010 : Unit := ()
def PySem.W.Fast.tw16640452954352276956 : Unit := ()
def PySem.W.Fast.tw16559988064550377689 : Unit := ()
def PySem.W.Fast.tw11989349216994551346 : Unit := ()
def PySem.W.Fast.tw7791419040573446424 : Unit := ()
def PySem.W.Fast.tw8926805689581107269 : Unit := ()
def PySem.W.Fast.tw9586702877225690202 : Unit := ()
def PySem.W.Fast.tw12138151878095909511 : Unit := ()
def PySem.W.Fast.tw3557625021185572761 : Unit := ()
def PySem.W.Fast.tw12768432759666968908 : Unit := ()
def PySem.W.Fast.tw15422997655093671054 : Unit := ()
def PySem.W.Fast.tw337445777105850183 : Unit := ()
def PySem.W.Fast.tw10542552416780122034 : Unit := ()
def PySem.W.Fast.tw9869931997177405370 : Unit := ()
def PySem.W.Fast.tw15361307232324599221 : Unit := ()
def PySem.W.Fast.tw10444521648501214344 : Unit := ()
def PySem.W.Fast.tw14105650779457703555 : Unit := ()
def PySem.W.Fast.tw5800038468974797476 : Unit := ()
def PySem.W.Fast.tw13349513862446816817 : Unit := ()
def PySem.W.Fast.tw2670458572275847676 : Unit := ()
def PySem.W.Fast.tw11614459792585711241 : Unit := ()
def PySem.W.Fast.tw14835151875925095526 : Unit := ()
def PySem.W.Fast.tw8590448653739979932 : Unit := ()
def PySem.W.Fast.tw6809089623721847899 : Unit := ()
def PySem.W.Fast.tw4928279631580810206 : Unit := ()
def PySem.W.Fast.tw9584980211405449869 : Unit := ()
def PySem.W.Fast.tw6317969584956111788 : Unit := ()
def PySem.W.Fast.tw12882684130343011013 : Unit := ()
def PySem.W.Fast.tw977348009794396431 : Unit := ()
def PySem.W.Fast.tw11602956889297751101 : Unit := ()
def PySem.W.Fast.tw13064355815598125503 : Unit := ()
def PySem.W.Fast.tw3465840236604677562 : Unit := ()
def PySem.W.Fast.tw12490932290171266705 : Unit := ()
def PySem.W.Fast.tw4081230730734461311 : Unit := ()
def PySem.W.Fast.tw8064670799314202239 : Unit := ()
def PySem.W.Fast.tw11710296986606957686 : Unit := ()
def PySem.W.Fast.tw4295893585540270526 : Unit := ()
def PySem.W.Fast.tw2556306024109804495 : Unit := ()
def PySem.W.Fast.tw8849589917424926970 : Unit := ()
def PySem.W.Fast.tw4483324821990383084 : Unit := ()
def PySem.W.Fast.tw11103944484880253332 : Unit := ()
def PySem.W.Fast.tw959877546920584309 : Unit := ()
def PySem.W.Fast.tw11272842672656977495 : Unit := ()
def PySem.W.Fast.tw14634370498015580044 : Unit := ()
def PySem.W.Fast.tw8006841472051101983 : Unit := ()
def PySem.W.Fast.tw14152919909773653398 : Unit := ()
def PySem.W.Fast.tw641800554993581446 : Unit := ()
def PySem.W.Fast.tw7582912923914563190 : Unit := ()
def PySem.W.Fast.tw1198986795259584537 : Unit := ()
def PySem.W.Fast.tw5734680695733365163 : Unit := ()
def PySem.W.Fast.tw17257203417095405 : Unit := ()
def PySem.W.Fast.tw10536654491614602333 : Unit := ()
def PySem.W.Fast.tw14966179469387235171 : Unit := ()
def PySem.W.Fast.tw9681274211607946457 : Unit := ()
def PySem.W.Fast.tw15510532090577471951 : Unit := ()
def PySem.W.Fast.tw11151865317889056095 : Unit := ()
def PySem.W.Fast.tw978302882989241968 : Unit := ()
def PySem.W.Fast.tw3482537012608468410 : Unit := ()
def PySem.W.Fast.tw4468468860940628472 : Unit := ()
def PySem.W.Fast.tw6235613036549633111 : Unit := ()
def PySem.W.Fast.tw7434517741547809869 : Unit := ()
def PySem.W.Fast.tw10007601407352256037 : Unit := ()
def PySem.W.Fast.tw16002906708718684232 : Unit := ()
def PySem.W.Fast.tw11701165058394797534 : Unit := ()
def PySem.W.Fast.tw5818893983191154442 : Unit := ()
def PySem.W.Fast.tw10264028545935487368 : Unit := ()
def PySem.W.Fast.tw3410304861641281247 : Unit := ()
def PySem.W.Fast.tw2499784031344198729 : Unit := ()
def PySem.W.Fast.tw9484603736002384011 : Unit := ()
def PySem.W.Fast.tw9725270617413302875 : Unit := ()
def PySem.W.Fast.tw16806059759353227330 : Unit := ()
def PySem.W.Fast.tw17070242177032731611 : Unit := ()
def PySem.W.Fast.tw17765780728789672202 : Unit := ()
def PySem.W.Fast.tw1992515796281054526 : Unit := ()
def PySem.W.Fast.tw12035300498930124247 : Unit := ()
def PySem.W.Fast.tw14278619365721281557 : Unit := ()
def PySem.W.Fast.tw6751816355008065710 : Unit := ()
def PySem.W.Fast.tw16231594476333275187 : Unit := ()
def PySem.W.Fast.tw14023693795014799817 : Unit := ()
def PySem.W.Fast.tw11962086874413667211 : Unit := ()
def PySem.W.Fast.tw15608604801244351891 : Unit := ()
def PySem.W.Fast.tw11206600791248826565 : Unit := ()
def PySem.W.Fast.tw11764532593533755202 : Unit := ()
def PySem.W.Fast.tw1494495969307942942 : Unit := ()
def PySem.W.Fast.tw11232205143373486748 : Unit := ()
def PySem.W.Fast.tw13403735909099465549 : Unit := ()
def PySem.W.Fast.tw783816506236041135 : Unit := ()
def PySem.W.Fast.tw6251637290403591951 : Unit := ()
def PySem.W.Fast.tw5064969328884896035 : Unit := ()
def PySem.W.Fast.tw671157932893926781 : Unit := ()
def PySem.W.Fast.tw10764104973213953924 : Unit := ()
def PySem.W.Fast.tw323745226452347728 : Unit := ()
def PySem.W.Fast.tw712535009239636714 : Unit := ()
def PySem.W.Fast.tw68361331533342311 : Unit := ()
def PySem.W.Fast.tw916854313290366321 : Unit := ()
def PySem.W.Fast.tw9504222564191780641 : Unit := ()
def PySem.W.Fast.tw17236508767787671121 : Unit := ()
def PySem.W.Fast.tw786594690260918565 : Unit := ()
def PySem.W.Fast.tw9121355584438143007 : Unit := ()
def PySem.W.Fast.tw4155262695206077277 : Unit := ()
def PySem.W.Fast.tw12086718404272143404 : Unit := ()
def PySem.W.Fast.tw8737677171771182785 : Unit := ()
def PySem.W.Fast.tw14849397137684591001 : Unit := ()
def PySem.W.Fast.tw18124003570147074844 : Unit := ()
def PySem.W.Fast.tw17620066100610066037 : Unit := ()
def PySem.W.Fast.tw13748221022980956480 : Unit := ()
def PySem.W.Fast.tw5433986365801064527 : Unit := ()
def PySem.W.Fast.tw1552921179167117490 : Unit := ()
def PySem.W.Fast.tw3486323337013869017 : Unit := ()
def PySem.W.Fast.tw15282299577729263356 : Unit := ()
def PySem.W.Fast.tw11394956498025789786 : Unit := ()
def PySem.W.Fast.tw2564017984468226450 : Unit := ()
def PySem.W.Fast.tw17140505162254252888 : Unit := ()
def PySem.W.Fast.tw17450583638680351802 : Unit := ()
def PySem.W.Fast.tw17297656055403672632 : Unit := ()
def PySem.W.Fast.tw16970569941798701552 : Unit := ()
def PySem.W.Fast.tw5628486756091802535 : Unit := ()
def PySem.W.Fast.tw18313419450123156404 : Unit := ()
def PySem.W.Fast.tw16976450159159503034 : Unit := ()
def PySem.W.Fast.tw17570984704218294211 : Unit := ()
def PySem.W.Fast.tw5072289725320407798 : Unit := ()
def PySem.W.Fast.tw5042552238483373626 : Unit := ()
def PySem.W.Fast.tw16853314904049315855 : Unit := ()
def PySem.W.Fast.tw12688671729495066256 : Unit := ()
def PySem.W.Fast.tw4584037626597494817 : Unit := ()
def PySem.W.Fast.tw16915332942084650581 : Unit := ()
def PySem.W.Fast.tw3774443705754888769 : Unit := ()
def PySem.W.Fast.tw10902846800098124577 : Unit := ()
def PySem.W.Fast.tw16732010652335508659 : Unit := ()
def PySem.W.Fast.tw13042860990296648703 : Unit := ()
def PySem.W.Fast.tw1061676284098663985 : Unit := ()
def PySem.W.Fast.tw15678474425012578397 : Unit := ()
def PySem.W.Fast.tw16461468091887571348 : Unit := ()
def PySem.W.Fast.tw6072048672810752804 : Unit := ()
def PySem.W.Fast.tw3357020119666294563 : Unit := ()
def PySem.W.Fast.tw5277057461896702841 : Unit := ()
def PySem.W.Fast.tw5575544375351789294 : Unit := ()
def PySem.W.Fast.tw17160849664179868636 : Unit := ()
def PySem.W.Fast.tw11220340718283369690 : Unit := ()
def PySem.W.Fast.tw12286628807087921156 : Unit := ()
def PySem.W.Fast.tw17625928887745320710 : Unit := ()
def PySem.W.Fast.tw7753172221757011689 : Unit := ()
def PySem.W.Fast.tw11332205534688147308 : Unit := ()
def PySem.W.Fast.tw11682653751970922947 : Unit := ()
def PySem.W.Fast.tw12703542010109745199 : Unit := ()
def PySem.W.Fast.tw18070126934180021810 : Unit := ()
def PySem.W.Fast.tw4545394077477143872 : Unit := ()
def PySem.W.Fast.tw10201328795480037189 : Unit := ()
def PySem.W.Fast.tw6555173910263340696 : Unit := ()
def PySem.W.Fast.tw16286080108275596168 : Unit := ()
def PySem.W.Fast.tw14055221114963030549 : Unit := ()
def PySem.W.Fast.tw15618847258230172684 : Unit := ()
def PySem.W.Fast.tw11170088652458775683 : Unit := ()
def PySem.W.Fast.tw16709548796031675906 : Unit := ()
def PySem.W.Fast.tw16808494770866323643 : Unit := ()
def PySem.W.Fast.tw2280852342510031179 : Unit := ()
def PySem.W.Fast.tw3270691497971142012 : Unit := ()
def PySem.W.Fast.tw9557319757357754634 : Unit := ()
def PySem.W.Fast.tw18043130610208379582 : Unit := ()
def PySem.W.Fast.tw9676574366016005264 : Unit := ()
def PySem.W.Fast.tw11580717367996029447 : Unit := ()
def PySem.W.Fast.tw2119755309713778626 : Unit := ()
def PySem.W.Fast.tw15912945857120690596 : Unit := ()
def PySem.W.Fast.tw11846934244215471079 : Unit := ()
def PySem.W.Fast.tw7263490721586583076 : Unit := ()
def PySem.W.Fast.tw4513561539499653558 : Unit := ()
def PySem.W.Fast.tw6781405467574431699 : Unit := ()
def PySem.W.Fast.tw9777437279669158633 : Unit := ()
def PySem.W.Fast.tw4256106989011659700 : Unit := ()
def PySem.W.Fast.tw12948870409541141317 : Unit := ()
def PySem.W.Fast.tw5439260802493948558 : Unit := ()
def PySem.W.Fast.tw211963627426075601 : Unit := ()
def PySem.W.Fast.tw3122738507362049151 : Unit := ()
def PySem.W.Fast.tw529982922601588813 : Unit := ()
def PySem.W.Fast.tw3866956590059114192 : Unit := ()
def PySem.W.Fast.tw958598269095958706 : Unit := ()
def PySem.W.Fast.tw1600289707047565155 : Unit := ()
def PySem.W.Fast.tw12561631572010272427 : Unit := ()
def PySem.W.Fast.tw7427805405081150107 : Unit := ()
def PySem.W.Fast.tw15053780956735549703 : Unit := ()
def PySem.W.Fast.tw13332715840369584571 : Unit := ()
def PySem.W.Fast.tw14124153615005012133 : Unit := ()
def PySem.W.Fast.tw3511453716286901383 : Unit := ()
def PySem.W.Fast.tw17765716892950636831 : Unit := ()
def PySem.W.Fast.tw126930440702568440 : Unit := ()
def PySem.W.Fast.tw17322880298888219388 : Unit := ()
def PySem.W.Fast.tw13186854090035026326 : Unit := ()
def PySem.W.Fast.tw2608669765928892223 : Unit := ()
def PySem.W.Fast.tw6138783882397315106 : Unit := ()
def PySem.W.Fast.tw7397852802063822889 : Unit := ()
def PySem.W.Fast.tw15190326142766397055 : Unit := ()
def PySem.W.Fast.tw13814879449462108128 : Unit := ()
def PySem.W.Fast.tw9636182177118600987 : Unit := ()
def PySem.W.Fast.tw12685085652974952026 : Unit := ()
def PySem.W.Fast.tw4113732209753723623 : Unit := ()
def PySem.W.Fast.tw6376740394373214922 : Unit := ()
def PySem.W.Fast.tw7754579403064857031 : Unit := ()
def PySem.W.Fast.tw5822935951460809554 : Unit := ()
def PySem.W.Fast.tw12088200099946402854 : Unit := ()
def PySem.W.Fast.tw6576111045982071157 : Unit := ()
def PySem.W.Fast.tw16974720566340726594 : Unit := ()
def PySem.W.Fast.tw10170899617153758058 : Unit := ()
def PySem.W.Fast.tw14804471873491653046 : Unit := ()
def PySem.W.Fast.tw17753362273806973155 : Unit := ()
def PySem.W.Fast.tw13079786177813171300 : Unit := ()
def PySem.W.Fast.tw607246930911535773 : Unit := ()
def PySem.W.Fast.tw13822757422447809690 : Unit := ()
def PySem.W.Fast.tw1079598149377638711 : Unit := ()
def PySem.W.Fast.tw6864652049376701719 : Unit := ()
def PySem.W.Fast.tw8904738613790295363 : Unit := ()
def PySem.W.Fast.tw15024038163093991536 : Unit := ()
def PySem.W.Fast.tw11131957502588957883 : Unit := ()
def PySem.W.Fast.tw14650853038377374757 : Unit := ()
def PySem.W.Fast.tw13022420724724684243 : Unit := ()
def PySem.W.Fast.tw2535783623670971632 : Unit := ()
def PySem.W.Fast.tw6856838438511805546 : Unit := ()
def PySem.W.Fast.tw15259487078792426929 : Unit := ()
def PySem.W.Fast.tw2815486089843548629 : Unit := ()
def PySem.W.Fast.tw874810060513027286 : Unit := ()
def PySem.W.Fast.tw16859851328356600612 : Unit := ()
def PySem.W.Fast.tw8660199141590510762 : Unit := ()
def PySem.W.Fast.tw8000622961418317375 : Unit := ()
def PySem.W.Fast.tw2572741752739948988 : Unit := ()
def PySem.W.Fast.tw1337539699851146988 : Unit := ()
def PySem.W.Fast.tw3116883939251452847 : Unit := ()
def PySem.W.Fast.tw11269083975892808307 : Unit := ()
def PySem.W.Fast.tw15088665132643505658 : Unit := ()
def PySem.W.Fast.tw17294571030234172048 : Unit := ()
def PySem.W.Fast.tw2964036586046798455 : Unit := ()
def PySem.W.Fast.tw4363509588409970960 : Unit := ()
def PySem.W.Fast.tw3843944452452943396 : Unit := ()
def PySem.W.Fast.tw8059849003925691494 : Unit := ()
def PySem.W.Fast.tw4415956572961470183 : Unit := ()
def PySem.W.Fast.tw9770727353663508604 : Unit := ()
def PySem.W.Fast.tw17004274100724194446 : Unit := ()
def PySem.W.Fast.tw2631092801929417725 : Unit := ()
def PySem.W.Fast.tw1719996277849093447 : Unit := ()
def PySem.W.Fast.tw2219087570295183325 : Unit := ()
def PySem.W.Fast.tw16814710942975003028 : Unit := ()
def PySem.W.Fast.tw17106596752910473223 : Unit := ()
def PySem.W.Fast.tw9970652866399907325 : Unit := ()
def PySem.W.Fast.tw14381031053193087109 : Unit := ()
def PySem.W.Fast.tw6971547110729600642 : Unit := ()
def PySem.W.Fast.tw18201406446624438451 : Unit := ()
def PySem.W.Fast.tw4588709644595697055 : Unit := ()
def PySem.W.Fast.tw4378670574823972375 : Unit := ()
def PySem.W.Fast.tw15069486525290313384 : Unit := ()
def PySem.W.Fast.tw13884398821056469943 : Unit := ()
def PySem.W.Fast.tw9104033437971522726 : Unit := ()
def PySem.W.Fast.tw17887480515758600871 : Unit := ()
def PySem.W.Fast.tw17010186713801568002 : Unit := ()
def PySem.W.Fast.tw10883805016309305877 : Unit := ()
def PySem.W.Fast.tw16863472834497787446 : Unit := ()
def PySem.W.Fast.tw3745837383253553052 : Unit := ()
def PySem.W.Fast.tw3799859804725411926 : Unit := ()
def PySem.W.Fast.tw6433142732033154405 : Unit := ()
def PySem.W.Fast.tw15433318712996939383 : Unit := ()
def PySem.W.Fast.tw15023489891835138179 : Unit := ()
def PySem.W.Fast.tw1357649705786596469 : Unit := ()
def PySem.W.Fast.tw10814617677082439522 : Unit := ()
def PySem.W.Fast.tw2464904853734305320 : Unit := ()
def PySem.W.Fast.tw7986712303270396746 : Unit := ()
def PySem.W.Fast.tw8792067681201857047 : Unit := ()
def PySem.W.Fast.tw15677605536419902291 : Unit := ()
def PySem.W.Fast.tw2371023884378705940 : Unit := ()
def PySem.W.Fast.tw14176515499771009259 : Unit := ()
def PySem.W.Fast.tw14077743320105139821 : Unit := ()
def PySem.W.Fast.tw15938543840782576592 : Unit := ()
def PySem.W.Fast.tw12860646139124001168 : Unit := ()
def PySem.W.Fast.tw13505863843572432903 : Unit := ()
def PySem.W.Fast.tw7848476278323663206 : Unit := ()
def PySem.W.Fast.tw9817674705607079792 : Unit := ()
def PySem.W.Fast.tw1981141002221991214 : Unit := ()
def PySem.W.Fast.tw4524795313701570661 : Unit := ()
def PySem.W.Fast.tw13057490103270387728 : Unit := ()
def PySem.W.Fast.tw14546267715904145279 : Unit := ()
def PySem.W.Fast.tw2331047546483632854 : Unit := ()
def PySem.W.Fast.tw1829030881040241939 : Unit := ()
def PySem.W.Fast.tw7046660174527698991 : Unit := ()
def PySem.W.Fast.tw17401375533914594003 : Unit := ()
def PySem.W.Fast.tw2079831883210791327 : Unit := ()
def PySem.W.Fast.tw1401700921312478108 : Unit := ()
def PySem.W.Fast.tw7183243423611875410 : Unit := ()
def PySem.W.Fast.tw7131036723082580141 : Unit := ()
def PySem.W.Fast.tw3082490086971545837 : Unit := ()
def PySem.W.Fast.tw11035251102637712048 : Unit := ()
def PySem.W.Fast.tw1090501110609772044 : Unit := ()
def PySem.W.Fast.tw17423179503516306891 : Unit := ()
def PySem.W.Fast.tw12380208454813343687 : Unit := ()
def PySem.W.Fast.tw12272670448184092626 : Unit := ()
def PySem.W.Fast.tw3902646803408660346 : Unit := ()
def PySem.W.Fast.tw449973681818662013 : Unit := ()
def PySem.W.Fast.tw6447041976229235080 : Unit := ()
def PySem.W.Fast.tw3506734886964760224 : Unit := ()
def PySem.W.Fast.tw17298628626298904399 : Unit := ()
def PySem.W.Fast.tw3829672433840101668 : Unit := ()
def PySem.W.Fast.tw10075137167908324333 : Unit := ()
def PySem.W.Fast.tw15695333074669366349 : Unit := ()
def PySem.W.Fast.tw1911706404846424145 : Unit := ()
def PySem.W.Fast.tw4689443786110852536 : Unit := ()
def PySem.W.Fast.tw4302090531979896809 : Unit := ()
def PySem.W.Fast.tw4137669057010811561 : Unit := ()
def PySem.W.Fast.tw15046633780960358572 : Unit := ()
def PySem.W.Fast.tw12052473782521205420 : Unit := ()
def PySem.W.Fast.tw14347284296051957436 : Unit := ()
def PySem.W.Fast.tw9488369248098714875 : Unit := ()
def PySem.W.Fast.tw12666616281713471219 : Unit := ()
def PySem.W.Fast.tw13834515256178779192 : Unit := ()
def PySem.W.Fast.tw16558312074230764621 : Unit := ()
def PySem.W.Fast.tw8897545209595002935 : Unit := ()
def PySem.W.Fast.tw16888974242564383423 : Unit := ()
def PySem.W.Fast.tw3221896743250781322 : Unit := ()
def PySem.W.Fast.tw7309269715807736485 : Unit := ()
def PySem.W.Fast.tw15978252937625163804 : Unit := ()
def PySem.W.Fast.tw18104682408383289013 : Unit := ()
def PySem.W.Fast.tw7889335292573312525 : Unit := ()
def PySem.W.Fast.tw5984800620049345860 : Unit := ()
def PySem.W.Fast.tw15136245033910123525 : Unit := ()
def PySem.W.Fast.tw18416372989886729729 : Unit := ()
def PySem.W.Fast.tw9373462491528772963 : Unit := ()
def PySem.W.Fast.tw14256133244345478510 : Unit := ()
def PySem.W.Fast.tw14794403637400677558 : Unit := ()
def PySem.W.Fast.tw10434442696179361032 : Unit := ()
def PySem.W.Fast.tw12892600212031813751 : Unit := ()
def PySem.W.Fast.tw2310196938583852521 : Unit := ()
def PySem.W.Fast.tw3183697671029287489 : Unit := ()
def PySem.W.Fast.tw15494369406415759691 : Unit := ()
def PySem.W.Fast.tw1669195729404115944 : Unit := ()
def PySem.W.Fast.tw1652620628008035234 : Unit := ()
def PySem.W.Fast.tw662363974298759676 : Unit := ()
def PySem.W.Fast.tw1300523949919464440 : Unit := ()
def PySem.W.Fast.tw8642510776350144758 : Unit := ()
def PySem.W.Fast.tw3740283639615248415 : Unit := ()
def PySem.W.Fast.tw8785963222070764467 : Unit := ()
def PySem.W.Fast.tw12832626870007824817 : Unit := ()
def PySem.W.Fast.tw5147800090307050059 : Unit := ()
def PySem.W.Fast.tw7504432426511463330 : Unit := ()
def PySem.W.Fast.tw14969551814710240648 : Unit := ()
def PySem.W.Fast.tw14547400638638820149 : Unit := ()
def PySem.W.Fast.tw7538325965395751903 : Unit := ()
def PySem.W.Fast.tw2409756697226744054 : Unit := ()
def PySem.W.Fast.tw1640516925573682164 : Unit := ()
def PySem.W.Fast.tw18235415306919967850 : Unit := ()
def PySem.W.Fast.tw3429049294553514251 : Unit := ()
def PySem.W.Fast.tw6649133382235632780 : Unit := ()
def PySem.W.Fast.tw8303763711104627044 : Unit := ()
def PySem.W.Fast.tw10640565697167087409 : Unit := ()
def PySem.W.Fast.tw17392425339894620250 : Unit := ()
def PySem.W.Fast.tw2630182885902697446 : Unit := ()
def PySem.W.Fast.tw4084730670697792501 : Unit := ()
def PySem.W.Fast.tw14027757403240487063 : Unit := ()
def PySem.W.Fast.tw9047188120439908585 : Unit := ()
def PySem.W.Fast.tw14325914177566176295 : Unit := ()
def PySem.W.Fast.tw7584602955498917644 : Unit := ()
def PySem.W.Fast.tw15608897064797285453 : Unit := ()
def PySem.W.Fast.tw13381639695034243733 : Unit := ()
def PySem.W.Fast.tw14275364691531324535 : Unit := ()
def PySem.W.Fast.tw10535293579910836470 : Unit := ()
def PySem.W.Fast.tw12996095677228844829 : Unit := ()
def PySem.W.Fast.tw10391891428062647540 : Unit := ()
def PySem.W.Fast.tw1999945439192207949 : Unit := ()
def PySem.W.Fast.tw14909657865015134486 : Unit := ()
def PySem.W.Fast.tw3682754067342772706 : Unit := ()
def PySem.W.Fast.tw2553993007749984466 : Unit := ()
def PySem.W.Fast.tw13673974643582083263 : Unit := ()
def PySem.W.Fast.tw4337230826842695660 : Unit := ()
def PySem.W.Fast.tw3560843629638050055 : Unit := ()
def PySem.W.Fast.tw3719988645968527126 : Unit := ()
def PySem.W.Fast.tw15515007679796690137 : Unit := ()
def PySem.W.Fast.tw8093488369216709964 : Unit := ()
def PySem.W.Fast.tw14295893362602799784 : Unit := ()
def PySem.W.Fast.tw12200440136207788990 : Unit := ()
def PySem.W.Fast.tw7208598498284596220 : Unit := ()
def PySem.W.Fast.tw6033606360337561799 : Unit := ()
def PySem.W.Fast.tw7266366428464666885 : Unit := ()
def PySem.W.Fast.tw6683892800433091324 : Unit := ()
def PySem.W.Fast.tw3299863683017213660 : Unit := ()
def PySem.W.Fast.tw2278007174970380647 : Unit := ()
def PySem.W.Fast.tw4508064116020620668 : Unit := ()
def PySem.W.Fast.tw6605570002505985299 : Unit := ()
def PySem.W.Fast.tw3130254105043245430 : Unit := ()
def PySem.W.Fast.tw3597048181168193874 : Unit := ()
def PySem.W.Fast.tw3587331419859430844 : Unit := ()
def PySem.W.Fast.tw16145872285061823204 : Unit := ()
def PySem.W.Fast.tw13248477072661583818 : Unit := ()
def PySem.W.Fast.tw3343911836040675754 : Unit := ()
def PySem.W.Fast.tw2672244783657795706 : Unit := ()
def PySem.W.Fast.tw13042078064260058457 : Unit := ()
def PySem.W.Fast.tw381508053553803603 : Unit := ()
def PySem.W.Fast.tw1502308698932540737 : Unit := ()
def PySem.W.Fast.tw7920912083739140817 : Unit := ()
def PySem.W.Fast.tw13976893966358946479 : Unit := ()
def PySem.W.Fast.tw2253494458234811342 : Unit := ()
def PySem.W.Fast.tw4359329090171571856 : Unit := ()
def PySem.W.Fast.tw16954146179720867896 : Unit := ()
def PySem.W.Fast.tw560152673346163646 : Unit := ()
def PySem.W.Fast.tw13771444533765787005 : Unit := ()
def PySem.W.Fast.tw14212416722825489183 : Unit := ()
def PySem.W.Fast.tw13642334593074671287 : Unit := ()
def PySem.W.Fast.tw14038034707412877598 : Unit := ()
def PySem.W.Fast.tw13170024347051837081 : Unit := ()
def PySem.W.Fast.tw2733130586547274792 : Unit := ()
def PySem.W.Fast.tw14913145973800385886 : Unit := ()
def PySem.W.Fast.tw11978427499643253058 : Unit := ()
def PySem.W.Fast.tw3605310906783352133 : Unit := ()
def PySem.W.Fast.tw13094301574833731060 : Unit := ()
def PySem.W.Fast.tw16102348024214606955 : Unit := ()
def PySem.W.Fast.tw17710682410428921436 : Unit := ()
def PySem.W.Fast.tw2583513283533077986 : Unit := ()
def PySem.W.Fast.tw15091219167846719817 : Unit := ()
def PySem.W.Fast.tw7719430709227410898 : Unit := ()
def PySem.W.Fast.tw17762887785977442509 : Unit := ()
def PySem.W.Fast.tw3615128782976996886 : Unit := ()
def PySem.W.Fast.tw10609023671857363714 : Unit := ()
def PySem.W.Fast.tw1619786503266593311 : Unit := ()
def PySem.W.Fast.tw6748366749535655797 : Unit := ()
def PySem.W.Fast.tw7993326700995187294 : Unit := ()
def PySem.W.Fast.tw4689773738627542675 : Unit := ()
def PySem.W.Fast.tw4348472197991259859 : Unit := ()
def PySem.W.Fast.tw754845769394648537 : Unit := ()
def PySem.W.Fast.tw4697393563085101587 : Unit := ()
def PySem.W.Fast.tw7641013209499521295 : Unit := ()
def PySem.W.Fast.tw18091831744704362977 : Unit := ()
def PySem.W.Fast.tw16268672474221266901 : Unit := ()
def PySem.W.Fast.tw7150477034192169770 : Unit := ()
def PySem.W.Fast.tw10787799292427330575 : Unit := ()
def PySem.W.Fast.tw7111997070007633708 : Unit := ()
def PySem.W.Fast.tw16147831449759224880 : Unit := ()
def PySem.W.Fast.tw976933199322966428 : Unit := ()
def PySem.W.Fast.tw3458985923791260980 : Unit := ()
def PySem.W.Fast.tw18361540791849240523 : Unit := ()
def PySem.W.Fast.tw2802861404871128490 : Unit := ()
def PySem.W.Fast.tw16144868968708019645 : Unit := ()
def PySem.W.Fast.tw13734332684361142639 : Unit := ()
def PySem.W.Fast.tw9915155672417546339 : Unit := ()
def PySem.W.Fast.tw827084934679861136 : Unit := ()
def PySem.W.Fast.tw10087817041077180812 : Unit := ()
def PySem.W.Fast.tw14785820910890675394 : Unit := ()
def PySem.W.Fast.tw10614407525287950209 : Unit := ()
def PySem.W.Fast.tw11314009039371177004 : Unit := ()
def PySem.W.Fast.tw13129291071908825112 : Unit := ()
def PySem.W.Fast.tw6788110571718282184 : Unit := ()
def PySem.W.Fast.tw8777191201060940035 : Unit := ()
def PySem.W.Fast.tw1533128080932634571 : Unit := ()
def PySem.W.Fast.tw11841571598485214031 : Unit := ()
def PySem.W.Fast.tw4687197670725744125 : Unit := ()
def PySem.W.Fast.tw10484895310525822237 : Unit := ()
def PySem.W.Fast.tw15097341721599995005 : Unit := ()
def PySem.W.Fast.tw11942307853961197138 : Unit := ()
def PySem.W.Fast.tw13166305355334598441 : Unit := ()
def PySem.W.Fast.tw15538326747341567131 : Unit := ()
def PySem.W.Fast.tw751614134033784379 : Unit := ()
def PySem.W.Fast.tw14103093125473180973 : Unit := ()
def PySem.W.Fast.tw2056787409715288189 : Unit := ()
def PySem.W.Fast.tw13441632781112400662 : Unit := ()
def PySem.W.Fast.tw14907790446884834090 : Unit := ()
def PySem.W.Fast.tw3383135960986422247 : Unit := ()
def PySem.W.Fast.tw5328270350915147196 : Unit := ()
def PySem.W.Fast.tw8705009361600679459 : Unit := ()
def PySem.W.Fast.tw7509932873213453271 : Unit := ()
def PySem.W.Fast.tw1784600781214387695 : Unit := ()
def PySem.W.Fast.tw15683047613450504700 : Unit := ()
def PySem.W.Fast.tw13547056444243153982 : Unit := ()
def PySem.W.Fast.tw15436733885736854026 : Unit := ()
def PySem.W.Fast.tw10731035974308658518 : Unit := ()
def PySem.W.Fast.tw2508072401938831507 : Unit := ()
def PySem.W.Fast.tw7896500379813456637 : Unit := ()
def PySem.W.Fast.tw12287752458458882151 : Unit := ()
def PySem.W.Fast.tw8288820337208962232 : Unit := ()
def PySem.W.Fast.tw7335846001888313521 : Unit := ()
def PySem.W.Fast.tw8285503649462563406 : Unit := ()
def PySem.W.Fast.tw11590519789643058552 : Unit := ()
def PySem.W.Fast.tw2770663071434931431 : Unit := ()
def PySem.W.Fast.tw12536192913728095497 : Unit := ()
def PySem.W.Fast.tw11737721085974148385 : Unit := ()
def PySem.W.Fast.tw16910569740064635680 : Unit := ()
def PySem.W.Fast.tw2055903052032990143 : Unit := ()
def PySem.W.Fast.tw4291474423755652159 : Unit := ()
def PySem.W.Fast.tw16353967842044864651 : Unit := ()
def PySem.W.Fast.tw12306525421064459363 : Unit := ()
def PySem.W.Fast.tw11338871214303821538 : Unit := ()
def PySem.W.Fast.tw6809210844653508377 : Unit := ()
def PySem.W.Fast.tw1837149988787911955 : Unit := ()
def PySem.W.Fast.tw5458500019680439004 : Unit := ()
def PySem.W.Fast.tw12630978369328818346 : Unit := ()
def PySem.W.Fast.tw3065507124731189990 : Unit := ()
def PySem.W.Fast.tw11794625093147714028 : Unit := ()
def PySem.W.Fast.tw10250965217552413915 : Unit := ()
def PySem.W.Fast.tw2525929841118761173 : Unit := ()
def PySem.W.Fast.tw18340468644528919577 : Unit := ()
def PySem.W.Fast.tw2038163948651186950 : Unit := ()
def PySem.W.Fast.tw4100591631351378042 : Unit := ()
def PySem.W.Fast.tw4959726959428008151 : Unit := ()
def PySem.W.Fast.tw15927552515470011554 : Unit := ()
def PySem.W.Fast.tw4715334265240933308 : Unit := ()
def PySem.W.Fast.tw4887942742340572026 : Unit := ()
def PySem.W.Fast.tw15361741485876609533 : Unit := ()
def PySem.W.Fast.tw3181909888819663927 : Unit := ()
def PySem.W.Fast.tw9587096750666261786 : Unit := ()
def PySem.W.Fast.tw8826315718355940862 : Unit := ()
def PySem.W.Fast.tw753613529665848909 : Unit := ()
def PySem.W.Fast.tw17245510901595422190 : Unit := ()
def PySem.W.Fast.tw15164926090147622082 : Unit := ()
def PySem.W.Fast.tw5705331189013657926 : Unit := ()
def PySem.W.Fast.tw479620659468642826 : Unit := ()
def PySem.W.Fast.tw84037963315974728 : Unit := ()
def PySem.W.Fast.tw15821748400227489098 : Unit := ()
def PySem.W.Fast.tw8520360714521036912 : Unit := ()
def PySem.W.Fast.tw14368087809369362136 : Unit := ()
def PySem.W.Fast.tw9695750820504130985 : Unit := ()
def PySem.W.Fast.tw12903940742133710094 : Unit := ()
def PySem.W.Fast.tw2445867093743091572 : Unit := ()
def PySem.W.Fast.tw4139146832103196973 : Unit := ()
def PySem.W.Fast.tw16176253598886037817 : Unit := ()
def PySem.W.Fast.tw14613063936876763158 : Unit := ()
def PySem.W.Fast.tw11090297418659438022 : Unit := ()
def PySem.W.Fast.tw3321936787317065453 : Unit := ()
def PySem.W.Fast.tw10233444835587636151 : Unit := ()
def PySem.W.Fast.tw10609367141385938590 : Unit := ()
def PySem.W.Fast.tw16916758889969406177 : Unit := ()
def PySem.W.Fast.tw13454086311946614144 : Unit := ()
def PySem.W.Fast.tw13782669060020194487 : Unit := ()
def PySem.W.Fast.tw2096026646433626109 : Unit := ()
def PySem.W.Fast.tw5394324078119146952 : Unit := ()
def PySem.W.Fast.tw15550313774340770655 : Unit := ()
def PySem.W.Fast.tw18166272645553088440 : Unit := ()
def PySem.W.Fast.tw18417153137520886901 : Unit := ()
def PySem.W.Fast.tw5293930111716705995 : Unit := ()
def PySem.W.Fast.tw4227688309314258839 : Unit := ()
def PySem.W.Fast.tw14378852907774919886 : Unit := ()
def PySem.W.Fast.tw2691321786799540444 : Unit := ()
def PySem.W.Fast.tw13657145068907438675 : Unit := ()
def PySem.W.Fast.tw14471227150928451727 : Unit := ()
def PySem.W.Fast.tw6398036677216414849 : Unit := ()
def PySem.W.Fast.tw5235081747946318801 : Unit := ()
def PySem.W.Fast.tw2892218844957810380 : Unit := ()
def PySem.W.Fast.tw5787906108894320038 : Unit := ()
def PySem.W.Fast.tw11640219833138316892 : Unit := ()
def PySem.W.Fast.tw16939671677393282560 : Unit := ()
def PySem.W.Fast.tw5286209173284083868 : Unit := ()
def PySem.W.Fast.tw14372950941352039007 : Unit := ()
def PySem.W.Fast.tw16846452172406234072 : Unit := ()
def PySem.W.Fast.tw5809683443061705536 : Unit := ()
def PySem.W.Fast.tw1056093197898908810 : Unit := ()
def PySem.W.Fast.tw4681884460200511125 : Unit := ()
def PySem.W.Fast.tw17276255658739610024 : Unit := ()
def PySem.W.Fast.tw2044875779103556910 : Unit := ()
def PySem.W.Fast.tw16143815490235031495 : Unit := ()
def PySem.W.Fast.tw15687317555116431236 : Unit := ()
def PySem.W.Fast.tw14407597844616752841 : Unit := ()
def PySem.W.Fast.tw7336244450934840973 : Unit := ()
def PySem.W.Fast.tw1188856699809582801 : Unit := ()
def PySem.W.Fast.tw14145671463275450874 : Unit := ()
def PySem.W.Fast.tw2387132255463525225 : Unit := ()
def PySem.W.Fast.tw15948129403891157252 : Unit := ()
def PySem.W.Fast.tw9059424829392979880 : Unit := ()
def PySem.W.Fast.tw13243217192898320671 : Unit := ()
def PySem.W.Fast.tw6947680348416109435 : Unit := ()
def PySem.W.Fast.tw5751798977127152543 : Unit := ()
def PySem.W.Fast.tw8689323099880033266 : Unit := ()
def PySem.W.Fast.tw5664269687048855913 : Unit := ()
def PySem.W.Fast.tw9531842703911143828 : Unit := ()
def PySem.W.Fast.tw3329309138434662874 : Unit := ()
def PySem.W.Fast.tw5990381428656962991 : Unit := ()
def PySem.W.Fast.tw5250337416220053534 : Unit := ()
def PySem.W.Fast.tw18398338068323192926 : Unit := ()
def PySem.W.Fast.tw425744976417265278 : Unit := ()
def PySem.W.Fast.tw6898620272583524364 : Unit := ()
def PySem.W.Fast.tw6679235263434092023 : Unit := ()
def PySem.W.Fast.tw14785448600816205417 : Unit := ()
def PySem.W.Fast.tw8230390878776957878 : Unit := ()
def PySem.W.Fast.tw15576897070679655958 : Unit := ()
def PySem.W.Fast.tw12095335691129589038 : Unit := ()
def PySem.W.Fast.tw10128842279117260033 : Unit := ()
def PySem.W.Fast.tw13234882940147382855 : Unit := ()
def PySem.W.Fast.tw18359718777711657666 : Unit := ()
def PySem.W.Fast.tw10932625336821811931 : Unit := ()
def PySem.W.Fast.tw17846654095519581248 : Unit := ()
def PySem.W.Fast.tw9394413007335402320 : Unit := ()
def PySem.W.Fast.tw17445590237275485071 : Unit := ()
def PySem.W.Fast.tw7503634787496749420 : Unit := ()
def PySem.W.Fast.tw16452040878103820893 : Unit := ()
def PySem.W.Fast.tw706193816131949605 : Unit := ()
def PySem.W.Fast.tw10565173544721252009 : Unit := ()
def PySem.W.Fast.tw11007826521432909423 : Unit := ()
def PySem.W.Fast.tw7415004054337645584 : Unit := ()
def PySem.W.Fast.tw5160045474412071532 : Unit := ()
def PySem.W.Fast.tw16236213693923465510 : Unit := ()
def PySem.W.Fast.tw11100242137302914283 : Unit := ()
def PySem.W.Fast.tw14143043143191898199 : Unit := ()
def PySem.W.Fast.tw11700190139856251952 : Unit := ()
def PySem.W.Fast.tw14846662757275883147 : Unit := ()
def PySem.W.Fast.tw4803039180134150296 : Unit := ()
def PySem.W.Fast.tw1925297201020832727 : Unit := ()
def PySem.W.Fast.tw7663230401010507718 : Unit := ()
def PySem.W.Fast.tw8440183210565803180 : Unit := ()
def PySem.W.Fast.tw16603359342510324697 : Unit := ()
def PySem.W.Fast.tw16174993099772808862 : Unit := ()
def PySem.W.Fast.tw8464571495362906071 : Unit := ()
def PySem.W.Fast.tw13923191395926755145 : Unit := ()
def PySem.W.Fast.tw14550458426183824296 : Unit := ()
def PySem.W.Fast.tw8901057327684327287 : Unit := ()
def PySem.W.Fast.tw11606916428630333068 : Unit := ()
def PySem.W.Fast.tw5964844796232330039 : Unit := ()
def PySem.W.Fast.tw8543372308732759837 : Unit := ()
def PySem.W.Fast.tw9044502853444603505 : Unit := ()
def PySem.W.Fast.tw13115508616853104803 : Unit := ()
def PySem.W.Fast.tw2776147806185066860 : Unit := ()
def PySem.W.Fast.tw12545708991019816934 : Unit := ()
def PySem.W.Fast.tw17409760079529611229 : Unit := ()
def PySem.W.Fast.tw16175957895789056392 : Unit := ()
def PySem.W.Fast.tw7286570947354209002 : Unit := ()
def PySem.W.Fast.tw908787959552330260 : Unit := ()
def PySem.W.Fast.tw11374468480222169083 : Unit := ()
def PySem.W.Fast.tw11752361219431063597 : Unit := ()
def PySem.W.Fast.tw9849297115900667258 : Unit := ()
def PySem.W.Fast.tw12545510028291996533 : Unit := ()
def PySem.W.Fast.tw111904648876605582 : Unit := ()
def PySem.W.Fast.tw15058108789170788708 : Unit := ()
def PySem.W.Fast.tw14184399629083427837 : Unit := ()
def PySem.W.Fast.tw8866721016770214834 : Unit := ()
def PySem.W.Fast.tw16317843385837466508 : Unit := ()
def PySem.W.Fast.tw17462525154008823957 : Unit := ()
def PySem.W.Fast.tw15005627764522111788 : Unit := ()
def PySem.W.Fast.tw7589295192767964307 : Unit := ()
def PySem.W.Fast.tw4472592072379365801 : Unit := ()
def PySem.W.Fast.tw11047205621358476816 : Unit := ()
def PySem.W.Fast.tw8115208321387304504 : Unit := ()
def PySem.W.Fast.tw14765083294849057641 : Unit := ()
def PySem.W.Fast.tw8288917637905486724 : Unit := ()
def PySem.W.Fast.tw7913283258987723824 : Unit := ()
def PySem.W.Fast.tw17935732361960052248 : Unit := ()
def PySem.W.Fast.tw7024712772739656989 : Unit := ()
def PySem.W.Fast.tw3001844018427216 : Unit := ()
def PySem.W.Fast.tw10958763447584846468 : Unit := ()
def PySem.W.Fast.tw3522432430822477821 : Unit := ()
def PySem.W.Fast.tw4075293174397617900 : Unit := ()
def PySem.W.Fast.tw9543327905755915424 : Unit := ()
def PySem.W.Fast.tw16696447568706903385 : Unit := ()
def PySem.W.Fast.tw17711640263884485256 : Unit := ()
def PySem.W.Fast.tw5713722172278680920 : Unit := ()
def PySem.W.Fast.tw7909782879004074118 : Unit := ()
def PySem.W.Fast.tw939015241095942959 : Unit := ()
def PySem.W.Fast.tw8626139388433886194 : Unit := ()
def PySem.W.Fast.tw969850895297993076 : Unit := ()
def PySem.W.Fast.tw10701212249468158470 : Unit := ()
def PySem.W.Fast.tw18287229872079902472 : Unit := ()
def PySem.W.Fast.tw1522441303184550575 : Unit := ()
def PySem.W.Fast.tw5551169341006818297 : Unit := ()
def PySem.W.Fast.tw17298445697337163 : Unit := ()
def PySem.W.Fast.tw16549370161441417207 : Unit := ()
def PySem.W.Fast.tw3144502047472608858 : Unit := ()
def PySem.W.Fast.tw3939709402223789735 : Unit := ()
def PySem.W.Fast.tw1350715533880362733 : Unit := ()
def PySem.W.Fast.tw206555377151489169 : Unit := ()
def PySem.W.Fast.tw8022376049008117125 : Unit := ()
def PySem.W.Fast.tw4285799504484522276 : Unit := ()
def PySem.W.Fast.tw16279679798259390780 : Unit := ()
def PySem.W.Fast.tw859100401812174264 : Unit := ()
def PySem.W.Fast.tw3446991693309822554 : Unit := ()
def PySem.W.Fast.tw10916068893410667355 : Unit := ()
def PySem.W.Fast.tw17419470572381750052 : Unit := ()
def PySem.W.Fast.tw881634709926065607 : Unit := ()
def PySem.W.Fast.tw5826054269788883658 : Unit := ()
def PySem.W.Fast.tw590565129523056149 : Unit := ()
def PySem.W.Fast.tw9425257828309512947 : Unit := ()
def PySem.W.Fast.tw12865937235376458214 : Unit := ()
def PySem.W.Fast.tw515344688296461766 : Unit := ()
def PySem.W.Fast.tw5998308520509911906 : Unit := ()
def PySem.W.Fast.tw9470689298442363150 : Unit := ()
def PySem.W.Fast.tw9462101946034771002 : Unit := ()
def PySem.W.Fast.tw2019833108043675853 : Unit := ()
def PySem.W.Fast.tw5411092523535837072 : Unit := ()
def PySem.W.Fast.tw8553795551017084800 : Unit := ()
def PySem.W.Fast.tw10090958445723567257 : Unit := ()
def PySem.W.Fast.tw12798303001779226433 : Unit := ()
def PySem.W.Fast.tw7224538822364296097 : Unit := ()
def PySem.W.Fast.tw7075695697332318185 : Unit := ()
def PySem.W.Fast.tw17450812542465953303 : Unit := ()
def PySem.W.Fast.tw1086771713725071730 : Unit := ()
def PySem.W.Fast.tw13603766140665984097 : Unit := ()
def PySem.W.Fast.tw11330823497744734355 : Unit := ()
def PySem.W.Fast.tw3353112489662321533 : Unit := ()
def PySem.W.Fast.tw3707104194487356367 : Unit := ()
def PySem.W.Fast.tw9928233072242608587 : Unit := ()
def PySem.W.Fast.tw16801972396004382022 : Unit := ()
def PySem.W.Fast.tw12414134786248943762 : Unit := ()
def PySem.W.Fast.tw11202704805953616314 : Unit := ()
def PySem.W.Fast.tw12047356047639062053 : Unit := ()
def PySem.W.Fast.tw10222571820703934589 : Unit := ()
def PySem.W.Fast.tw15283597524425438511 : Unit := ()
def PySem.W.Fast.tw12643986886157534664 : Unit := ()
def PySem.W.Fast.tw15380736134583669148 : Unit := ()
def PySem.W.Fast.tw11466344854890736414 : Unit := ()
def PySem.W.Fast.tw11905282076006217127 : Unit := ()
def PySem.W.Fast.tw16571869946560028478 : Unit := ()
def PySem.W.Fast.tw15690105883692378418 : Unit := ()
def PySem.W.Fast.tw5711982531391067016 : Unit := ()
def PySem.W.Fast.tw17067441802196735888 : Unit := ()
def PySem.W.Fast.tw18404694043713212081 : Unit := ()
def PySem.W.Fast.tw14858105522483216734 : Unit := ()
def PySem.W.Fast.tw978974053228118949 : Unit := ()
def PySem.W.Fast.tw2563573971698093082 : Unit := ()
def PySem.W.Fast.tw13772453269123464783 : Unit := ()
def PySem.W.Fast.tw14799583362664387715 : Unit := ()
def PySem.W.Fast.tw7567618126291328087 : Unit := ()
def PySem.W.Fast.tw12674520589428325122 : Unit := ()
def PySem.W.Fast.tw12601496615113301474 : Unit := ()
def PySem.W.Fast.tw9938825575142146228 : Unit := ()
def PySem.W.Fast.tw8555127143832003239 : Unit := ()
def PySem.W.Fast.tw16219653105158997449 : Unit := ()
def PySem.W.Fast.tw15675126834370077518 : Unit := ()
def PySem.W.Fast.tw2203345042980769856 : Unit := ()
def PySem.W.Fast.tw18354492921841897748 : Unit := ()
def PySem.W.Fast.tw6932947499462849620 : Unit := ()
def PySem.W.Fast.tw3582804223505891151 : Unit := ()
def PySem.W.Fast.tw9408867564559562347 : Unit := ()
def PySem.W.Fast.tw1121075711000932911 : Unit := ()
def PySem.W.Fast.tw4050186079116500301 : Unit := ()
def PySem.W.Fast.tw3253072782649945333 : Unit := ()
def PySem.W.Fast.tw4602471651290344214 : Unit := ()
def PySem.W.Fast.tw6197938995530515437 : Unit := ()
def PySem.W.Fast.tw7601214852357087766 : Unit := ()
def PySem.W.Fast.tw17445901540300193478 : Unit := ()
def PySem.W.Fast.tw1826777097228737680 : Unit := ()
def PySem.W.Fast.tw11225823931659712970 : Unit := ()
def PySem.W.Fast.tw11479985553044746273 : Unit := ()
def PySem.W.Fast.tw598002975052022131 : Unit := ()
def PySem.W.Fast.tw3813731654864311136 : Unit := ()
def PySem.W.Fast.tw10835401545337413571 : Unit := ()
def PySem.W.Fast.tw315009710596522740 : Unit := ()
def PySem.W.Fast.tw13034100585852205768 : Unit := ()
def PySem.W.Fast.tw2367173292107842885 : Unit := ()
def PySem.W.Fast.tw15152285651058992519 : Unit := ()
def PySem.W.Fast.tw15417154548303731343 : Unit := ()
def PySem.W.Fast.tw16016282640367582545 : Unit := ()
def PySem.W.Fast.tw526039920254959896 : Unit := ()
def PySem.W.Fast.tw5394669631362591095 : Unit := ()
def PySem.W.Fast.tw7224259734706210016 : Unit := ()
def PySem.W.Fast.tw11780703691985066813 : Unit := ()
def PySem.W.Fast.tw10841045966542512242 : Unit := ()
def PySem.W.Fast.tw15429608180653202114 : Unit := ()
def PySem.W.Fast.tw8503535006428087922 : Unit := ()
def PySem.W.Fast.tw1509613328398857720 : Unit := ()
def PySem.W.Fast.tw16420693799752236048 : Unit := ()
def PySem.W.Fast.tw12416797380498804704 : Unit := ()
def PySem.W.Fast.tw17866759999142131362 : Unit := ()
def PySem.W.Fast.tw7561883180515853332 : Unit := ()
def PySem.W.Fast.tw7439734901390792603 : Unit := ()
def PySem.W.Fast.tw17832465784967749409 : Unit := ()
def PySem.W.Fast.tw10691853997302623980 : Unit := ()
def PySem.W.Fast.tw13121971524535633044 : Unit := ()
def PySem.W.Fast.tw5519427937492145047 : Unit := ()
def PySem.W.Fast.tw18098471444584962743 : Unit := ()
def PySem.W.Fast.tw15589757651078126931 : Unit := ()
def PySem.W.Fast.tw5975877978853392129 : Unit := ()
def PySem.W.Fast.tw209865535049127799 : Unit := ()
def PySem.W.Fast.tw9957019132217516735 : Unit := ()
def PySem.W.Fast.tw2173044275998262460 : Unit := ()
def PySem.W.Fast.tw3915904648444581004 : Unit := ()
def PySem.W.Fast.tw287467570400159651 : Unit := ()
def PySem.W.Fast.tw11404529068607167006 : Unit := ()
def PySem.W.Fast.tw9729593202812864248 : Unit := ()
def PySem.W.Fast.tw4690699971081818889 : Unit := ()
def PySem.W.Fast.tw15888334766629277515 : Unit := ()
def PySem.W.Fast.tw15575172094445422310 : Unit := ()
def PySem.W.Fast.tw354206486984308397 : Unit := ()
def PySem.W.Fast.tw7607328979085595547 : Unit := ()
def PySem.W.Fast.tw1190730753098045260 : Unit := ()
def PySem.W.Fast.tw8564783590024845930 : Unit := ()
def PySem.W.Fast.tw2081916571584201942 : Unit := ()
def PySem.W.Fast.tw18187017636806311239 : Unit := ()
def PySem.W.Fast.tw13848473824799577661 : Unit := ()
def PySem.W.Fast.tw6352473803160615962 : Unit := ()
def PySem.W.Fast.tw11144166022516132448 : Unit := ()
def PySem.W.Fast.tw11190576404650358063 : Unit := ()
def PySem.W.Fast.tw1952748986019701148 : Unit := ()
def PySem.W.Fast.tw6210908921366988503 : Unit := ()
def PySem.W.Fast.tw10016769295165739440 : Unit := ()
def PySem.W.Fast.tw4904674532915501522 : Unit := ()
def PySem.W.Fast.tw5682573201360347411 : Unit := ()
def PySem.W.Fast.tw1541822971762627943 : Unit := ()
def PySem.W.Fast.tw16277224672175954489 : Unit := ()
def PySem.W.Fast.tw14856597719793602008 : Unit := ()
def PySem.W.Fast.tw6305875631101086684 : Unit := ()
def PySem.W.Fast.tw12223518300547182962 : Unit := ()
def PySem.W.Fast.tw13537971863716760981 : Unit := ()
def PySem.W.Fast.tw4041860537558423678 : Unit := ()
def PySem.W.Fast.tw14050087472723457375 : Unit := ()
def PySem.W.Fast.tw6749180432951696450 : Unit := ()
def PySem.W.Fast.tw587615828869087697 : Unit := ()
def PySem.W.Fast.tw17482794119253817549 : Unit := ()
def PySem.W.Fast.tw9004322699142499952 : Unit := ()
def PySem.W.Fast.tw10565493944313035721 : Unit := ()
def PySem.W.Fast.tw9827534940824050184 : Unit := ()
def PySem.W.Fast.tw14406423741674750760 : Unit := ()
def PySem.W.Fast.tw11485398695644245406 : Unit := ()
def PySem.W.Fast.tw5229327989431686081 : Unit := ()
def PySem.W.Fast.tw3994635369579512861 : Unit := ()
def PySem.W.Fast.tw7748280297429501460 : Unit := ()
def PySem.W.Fast.tw17495447141895183532 : Unit := ()
def PySem.W.Fast.tw8147055607911659334 : Unit := ()
def PySem.W.Fast.tw1460200306194075675 : Unit := ()
def PySem.W.Fast.tw12734591967731245871 : Unit := ()
def PySem.W.Fast.tw10924562353793781008 : Unit := ()
def PySem.W.Fast.tw9645697092243437870 : Unit := ()
def PySem.W.Fast.tw12690980067015256699 : Unit := ()
def PySem.W.Fast.tw12753272484294451976 : Unit := ()
def PySem.W.Fast.tw5465084244381863204 : Unit := ()
def PySem.W.Fast.tw6175152673753800495 : Unit := ()
def PySem.W.Fast.tw11400542636548840645 : Unit := ()
def PySem.W.Fast.tw178846414318269009 : Unit := ()
def PySem.W.Fast.tw13901325552578598507 : Unit := ()
def PySem.W.Fast.tw10115060603388710078 : Unit := ()
def PySem.W.Fast.tw14557500940403582950 : Unit := ()
def PySem.W.Fast.tw566198536249137951 : Unit := ()
def PySem.W.Fast.tw16310437387619486995 : Unit := ()
def PySem.W.Fast.tw9667148004502562311 : Unit := ()
def PySem.W.Fast.tw13661830995777077878 : Unit := ()
def PySem.W.Fast.tw8467224985564206800 : Unit := ()
def PySem.W.Fast.tw13056468542477502090 : Unit := ()
def PySem.W.Fast.tw1335162903011659977 : Unit := ()
def PySem.W.Fast.tw2686111011295718078 : Unit := ()
def PySem.W.Fast.tw15339831273454807551 : Unit := ()
def PySem.W.Fast.tw15071300927182536991 : Unit := ()
def PySem.W.Fast.tw16447597659146531629 : Unit := ()
def PySem.W.Fast.tw10111916203081401944 : Unit := ()
def PySem.W.Fast.tw12338674283119493906 : Unit := ()
def PySem.W.Fast.tw1448224322816762922 : Unit := ()
def PySem.W.Fast.tw2631351395362048614 : Unit := ()
def PySem.W.Fast.tw4540089671882341707 : Unit := ()
def PySem.W.Fast.tw3778517260953207921 : Unit := ()
def PySem.W.Fast.tw10032853724629684686 : Unit := ()
def PySem.W.Fast.tw12281494256329882675 : Unit := ()
def PySem.W.Fast.tw10759815658423968008 : Unit := ()
def PySem.W.Fast.tw7567194041717935990 : Unit := ()
def PySem.W.Fast.tw11792024518265645371 : Unit := ()
def PySem.W.Fast.tw11606590321658062616 : Unit := ()
def PySem.W.Fast.tw14120225562200891265 : Unit := ()
def PySem.W.Fast.tw14995445094834207781 : Unit := ()
def PySem.W.Fast.tw15664294355223401814 : Unit := ()
def PySem.W.Fast.tw12321016248293596476 : Unit := ()
def PySem.W.Fast.tw12436441046445999139 : Unit := ()
def PySem.W.Fast.tw8336538394708687230 : Unit := ()
def PySem.W.Fast.tw7906132328899891333 : Unit := ()
def PySem.W.Fast.tw7816749269838895470 : Unit := ()
def PySem.W.Fast.tw11582655120759330468 : Unit := ()
def PySem.W.Fast.tw1262522762223250744 : Unit := ()
def PySem.W.Fast.tw1071920409093616440 : Unit := ()
def PySem.W.Fast.tw3966917666845902102 : Unit := ()
def PySem.W.Fast.tw16216994612693469897 : Unit := ()
def PySem.W.Fast.tw8995821625402281254 : Unit := ()
def PySem.W.Fast.tw14941609757057309032 : Unit := ()
def PySem.W.Fast.tw2879755128989948270 : Unit := ()
def PySem.W.Fast.tw620308186031980650 : Unit := ()
def PySem.W.Fast.tw15364146952092215894 : Unit := ()
def PySem.W.Fast.tw5884109097929462311 : Unit := ()
def PySem.W.Fast.tw1708473715916838618 : Unit := ()
def PySem.W.Fast.tw13047974889356060020 : Unit := ()
def PySem.W.Fast.tw6503728831608884686 : Unit := ()
def PySem.W.Fast.tw17247155177908945657 : Unit := ()
def PySem.W.Fast.tw9141610175614153347 : Unit := ()
def PySem.W.Fast.tw7332285606593475975 : Unit := ()
def PySem.W.Fast.tw295899751999374308 : Unit := ()
def PySem.W.Fast.tw10697665702326156212 : Unit := ()
def PySem.W.Fast.tw11704887349367116649 : Unit := ()
def PySem.W.Fast.tw687917125223255022 : Unit := ()
def PySem.W.Fast.tw1808585583794674624 : Unit := ()
def PySem.W.Fast.tw3632167658257357694 : Unit := ()
def PySem.W.Fast.tw2345182417902613231 : Unit := ()
def PySem.W.Fast.tw7771281096218706688 : Unit := ()
def PySem.W.Fast.tw11060561013053009765 : Unit := ()
def PySem.W.Fast.tw14844243544677948859 : Unit := ()
def PySem.W.Fast.tw8228474431826538216 : Unit := ()
def PySem.W.Fast.tw4776551833419306143 : Unit := ()
def PySem.W.Fast.tw2924118231269749396 : Unit := ()
def PySem.W.Fast.tw5372533869383386002 : Unit := ()
def PySem.W.Fast.tw13164006503117368733 : Unit := ()
def PySem.W.Fast.tw15178917997446484459 : Unit := ()
def PySem.W.Fast.tw14037903936204740427 : Unit := ()
def PySem.W.Fast.tw6893915800381857547 : Unit := ()
def PySem.W.Fast.tw3586383343704388467 : Unit := ()
def PySem.W.Fast.tw14781835888107996631 : Unit := ()
def PySem.W.Fast.tw7652191659703777716 : Unit := ()
def PySem.W.Fast.tw6253979813474347805 : Unit := ()
def PySem.W.Fast.tw11978946991471805420 : Unit := ()
def PySem.W.Fast.tw4151741035151688279 : Unit := ()
def PySem.W.Fast.tw3652963676891633164 : Unit := ()
def PySem.W.Fast.tw5741646415252045789 : Unit := ()
def PySem.W.Fast.tw7491897767697730856 : Unit := ()
def PySem.W.Fast.tw6764440390925808199 : Unit := ()
def PySem.W.Fast.tw2927929207954569272 : Unit := ()
def PySem.W.Fast.tw6070507588454204066 : Unit := ()
def PySem.W.Fast.tw5591130627326855823 : Unit := ()
def PySem.W.Fast.tw14777036957855514023 : Unit := ()
def PySem.W.Fast.tw7116956746164921548 : Unit := ()
def PySem.W.Fast.tw1980569680244999820 : Unit := ()
def PySem.W.Fast.tw15719977411874807166 : Unit := ()
def PySem.W.Fast.tw18188585642586676847 : Unit := ()
def PySem.W.Fast.tw4516879894927987386 : Unit := ()
def PySem.W.Fast.tw8470485517367927614 : Unit := ()
def PySem.W.Fast.tw3732377903014558754 : Unit := ()
def PySem.W.Fast.tw11791118447318289993 : Unit := ()
def PySem.W.Fast.tw10732668515537130186 : Unit := ()
def PySem.W.Fast.tw12082942835439725208 : Unit := ()
def PySem.W.Fast.tw13755339894422933372 : Unit := ()
def PySem.W.Fast.tw15736768493535827503 : Unit := ()
def PySem.W.Fast.tw16685502497294822645 : Unit := ()
def PySem.W.Fast.tw10982988112042619975 : Unit := ()
def PySem.W.Fast.tw8435189575897035002 : Unit := ()
def PySem.W.Fast.tw5284707108461112874 : Unit := ()
def PySem.W.Fast.tw7908491056850646213 : Unit := ()
def PySem.W.Fast.tw4554321035013590753 : Unit := ()
def PySem.W.Fast.tw10243015452348501660 : Unit := ()
def PySem.W.Fast.tw5157478985790182000 : Unit := ()
def PySem.W.Fast.tw1394641168037299030 : Unit := ()
def PySem.W.Fast.tw12405650751169184744 : Unit := ()
def PySem.W.Fast.tw16465021102713764317 : Unit := ()
def PySem.W.Fast.tw13159765576356293687 : Unit := ()
def PySem.W.Fast.tw17813202276003765318 : Unit := ()
def PySem.W.Fast.tw7874204953132094806 : Unit := ()
def PySem.W.Fast.tw12708353630743609999 : Unit := ()
def PySem.W.Fast.tw11526458169447903224 : Unit := ()
def PySem.W.Fast.tw11076475496157746197 : Unit := ()
def PySem.W.Fast.tw12200015082587874809 : Unit := ()
def PySem.W.Fast.tw9930578014583629745 : Unit := ()
def PySem.W.Fast.tw5826758718827209883 : Unit := ()
def PySem.W.Fast.tw17916329542614227277 : Unit := ()
def PySem.W.Fast.tw4084730876318765607 : Unit := ()
def PySem.W.Fast.tw4871931915131905066 : Unit := ()
def PySem.W.Fast.tw13931901623120091565 : Unit := ()
def PySem.W.Fast.tw13668961223363710259 : Unit := ()
def PySem.W.Fast.tw17919034024008081142 : Unit := ()
def PySem.W.Fast.tw13697998246966860854 : Unit := ()
def PySem.W.Fast.tw4626936877824634385 : Unit := ()
def PySem.W.Fast.tw10300917669994976708 : Unit := ()
def PySem.W.Fast.tw4211225512980219387 : Unit := ()
def PySem.W.Fast.tw4940784625375543191 : Unit := ()
def PySem.W.Fast.tw14999945130117262388 : Unit := ()
def PySem.W.Fast.tw11105450514467835211 : Unit := ()
def PySem.W.Fast.tw3628801808727675305 : Unit := ()
def PySem.W.Fast.tw1205458296627275849 : Unit := ()
def PySem.W.Fast.tw9386321868562348203 : Unit := ()
def PySem.W.Fast.tw9259163185509423333 : Unit := ()
def PySem.W.Fast.tw16723094558719735470 : Unit := ()
def PySem.W.Fast.tw1991582826057410773 : Unit := ()
def PySem.W.Fast.tw5471505563453578776 : Unit := ()
def PySem.W.Fast.tw11813609660568153957 : Unit := ()
def PySem.W.Fast.tw15389164986982896390 : Unit := ()
def PySem.W.Fast.tw5575793005746790116 : Unit := ()
def PySem.W.Fast.tw13905093027389151419 : Unit := ()
def PySem.W.Fast.tw11311439593616102411 : Unit := ()
def PySem.W.Fast.tw14138178685818659424 : Unit := ()
def PySem.W.Fast.tw10469118310783001876 : Unit := ()
def PySem.W.Fast.tw17353983382450647404 : Unit := ()
def PySem.W.Fast.tw16260049124122198958 : Unit := ()
def PySem.W.Fast.tw15823456178545470996 : Unit := ()
def PySem.W.Fast.tw3087684510643526617 : Unit := ()
def PySem.W.Fast.tw9713447520564083712 : Unit := ()
def PySem.W.Fast.tw320885977298852034 : Unit := ()
def PySem.W.Fast.tw12769642503191361245 : Unit := ()
def PySem.W.Fast.tw18138745784111116237 : Unit := ()
def PySem.W.Fast.tw11275073674125416769 : Unit := ()
def PySem.W.Fast.tw11888483600954415549 : Unit := ()
def PySem.W.Fast.tw17347014130716856045 : Unit := ()
def PySem.W.Fast.tw15098289781895711330 : Unit := ()
def PySem.W.Fast.tw4909210205238353293 : Unit := ()
def PySem.W.Fast.tw3488958494787904923 : Unit := ()
def PySem.W.Fast.tw3238635485973161778 : Unit := ()
def PySem.W.Fast.tw8984453335288749687 : Unit := ()
def PySem.W.Fast.tw8274951325865277611 : Unit := ()
def PySem.W.Fast.tw556478615919345022 : Unit := ()
def PySem.W.Fast.tw3383415544590517116 : Unit := ()
def PySem.W.Fast.tw1620953380738714336 : Unit := ()
def PySem.W.Fast.tw16444948370831284968 : Unit := ()
def PySem.W.Fast.tw6102507425655193137 : Unit := ()
def PySem.W.Fast.tw10533964777616817980 : Unit := ()
def PySem.W.Fast.tw6146995760243377290 : Unit := ()
def PySem.W.Fast.tw15400970392383236374 : Unit := ()
def PySem.W.Fast.tw16876244105724857140 : Unit := ()
def PySem.W.Fast.tw8875685986149919428 : Unit := ()
def PySem.W.Fast.tw8628146185581914682 : Unit := ()
def PySem.W.Fast.tw1325394386037994829 : Unit := ()
def PySem.W.Fast.tw2747459349947066607 : Unit := ()
def PySem.W.Fast.tw528342855629413125 : Unit := ()
def PySem.W.Fast.tw16536081082459658192 : Unit := ()
def PySem.W.Fast.tw5346973360648244018 : Unit := ()
def PySem.W.Fast.tw7197001485437633703 : Unit := ()
def PySem.W.Fast.tw10887492516016837943 : Unit := ()
def PySem.W.Fast.tw8432615563678207014 : Unit := ()
def PySem.W.Fast.tw16101274763845283273 : Unit := ()
def PySem.W.Fast.tw2232432625136098338 : Unit := ()
def PySem.W.Fast.tw18017516782544943308 : Unit := ()
def PySem.W.Fast.tw14705609261074067413 : Unit := ()
def PySem.W.Fast.tw7996828061243361421 : Unit := ()
def PySem.W.Fast.tw1412946461700540674 : Unit := ()
def PySem.W.Fast.tw11547690451323101898 : Unit := ()
def PySem.W.Fast.tw11652670586626323779 : Unit := ()
def PySem.W.Fast.tw11872452946171244567 : Unit := ()
def PySem.W.Fast.tw9933653409841530660 : Unit := ()
def PySem.W.Fast.tw3639158380678672147 : Unit := ()
def PySem.W.Fast.tw17315398529517422546 : Unit := ()
def PySem.W.Fast.tw17507219969462689121 : Unit := ()
def PySem.W.Fast.tw15584705646062361716 : Unit := ()
def PySem.W.Fast.tw12320883649769798937 : Unit := ()
def PySem.W.Fast.tw758381668888142155 : Unit := ()
def PySem.W.Fast.tw6559878637802380189 : Unit := ()
def PySem.W.Fast.tw18348039868858070144 : Unit := ()
def PySem.W.Fast.tw14587400883683387883 : Unit := ()
def PySem.W.Fast.tw14028901566819966416 : Unit := ()
def PySem.W.Fast.tw11926698597825030559 : Unit := ()
def PySem.W.Fast.tw8742910474081544218 : Unit := ()
def PySem.W.Fast.tw14046369004129101309 : Unit := ()
def PySem.W.Fast.tw4426173291543721787 : Unit := ()
def PySem.W.Fast.tw17288351423927850318 : Unit := ()
def PySem.W.Fast.tw12274863766429949407 : Unit := ()
def PySem.W.Fast.tw18158359143039610718 : Unit := ()
def PySem.W.Fast.tw17407315261480920490 : Unit := ()
def PySem.W.Fast.tw12812682680246096500 : Unit := ()
def PySem.W.Fast.tw4029598112748343461 : Unit := ()
def PySem.W.Fast.tw7761892312279526130 : Unit := ()
def PySem.W.Fast.tw6448288859925802294 : Unit := ()
def PySem.W.Fast.tw13201492450066380419 : Unit := ()
def PySem.W.Fast.tw15425917313001852337 : Unit := ()
def PySem.W.Fast.tw8059412378106374336 : Unit := ()
def PySem.W.Fast.tw7458335742129229077 : Unit := ()
def PySem.W.Fast.tw10892120938538717513 : Unit := ()
def PySem.W.Fast.tw7153030882707412092 : Unit := ()
def PySem.W.Fast.tw12068969902038753020 : Unit := ()
def PySem.W.Fast.tw13286908250758954104 : Unit := ()
def PySem.W.Fast.tw11226874562342769739 : Unit := ()
def PySem.W.Fast.tw12157815453750554020 : Unit := ()
def PySem.W.Fast.tw9913308304915454667 : Unit := ()
def PySem.W.Fast.tw17913858669609388917 : Unit := ()
def PySem.W.Fast.tw16797068757249665695 : Unit := ()
def PySem.W.Fast.tw10421398309210799470 : Unit := ()
def PySem.W.Fast.tw4901459021048600566 : Unit := ()
def PySem.W.Fast.tw10323327767147231716 : Unit := ()
def PySem.W.Fast.tw4108174410649264623 : Unit := ()
def PySem.W.Fast.tw1484284470463273889 : Unit := ()
def PySem.W.Fast.tw13430082982148351356 : Unit := ()
def PySem.W.Fast.tw5097241466314181289 : Unit := ()
def PySem.W.Fast.tw3617874474662001504 : Unit := ()
def PySem.W.Fast.tw9696236185447069862 : Unit := ()
def PySem.W.Fast.tw15783835903610441138 : Unit := ()
def PySem.W.Fast.tw6334183714276213672 : Unit := ()
def PySem.W.Fast.tw15356636172100986163 : Unit := ()
def PySem.W.Fast.tw9774675918748045348 : Unit := ()
def PySem.W.Fast.tw4034632326505340915 : Unit := ()
def PySem.W.Fast.tw15481649080580311177 : Unit := ()
def PySem.W.Fast.tw16944945671487533513 : Unit := ()
def PySem.W.Fast.tw8560525259910479343 : Unit := ()
def PySem.W.Fast.tw18281936555572934162 : Unit := ()
def PySem.W.Fast.tw11572867018060948223 : Unit := ()
def PySem.W.Fast.tw14919417898319355000 : Unit := ()
def PySem.W.Fast.tw13917154396303253713 : Unit := ()
def PySem.W.Fast.tw7411210646375612108 : Unit := ()
def PySem.W.Fast.tw1265588332171563608 : Unit := ()
def PySem.W.Fast.tw14483219233191929678 : Unit := ()
def PySem.W.Fast.tw15268140463115735096 : Unit := ()
def PySem.W.Fast.tw14905059651949630371 : Unit := ()
def PySem.W.Fast.tw10800050351229385467 : Unit := ()
def PySem.W.Fast.tw11897897622515658307 : Unit := ()
def PySem.W.Fast.tw12392438427081789621 : Unit := ()
def PySem.W.Fast.tw4911519063254521769 : Unit := ()
def PySem.W.Fast.tw17039016123256612804 : Unit := ()
def PySem.W.Fast.tw7646742420260983738 : Unit := ()
def PySem.W.Fast.tw7696432403692555828 : Unit := ()
def PySem.W.Fast.tw8594933808913813603 : Unit := ()
def PySem.W.Fast.tw6957726163157129422 : Unit := ()
def PySem.W.Fast.tw7935776790333511325 : Unit := ()
def PySem.W.Fast.tw16452924680120790286 : Unit := ()
def PySem.W.Fast.tw10203262506752855727 : Unit := ()
def PySem.W.Fast.tw16084498296429360511 : Unit := ()
def PySem.W.Fast.tw11106639773009247710 : Unit := ()
def PySem.W.Fast.tw18251918750815408070 : Unit := ()
def PySem.W.Fast.tw15595770803730088945 : Unit := ()
def PySem.W.Fast.tw6417937821380873615 : Unit := ()
def PySem.W.Fast.tw15748372747533463431 : Unit := ()
def PySem.W.Fast.tw1372134460420068834 : Unit := ()
def PySem.W.Fast.tw15205264675073191369 : Unit := ()
def PySem.W.Fast.tw11346687659849181195 : Unit := ()
def PySem.W.Fast.tw3247975885312429343 : Unit := ()
def PySem.W.Fast.tw15240982477906746346 : Unit := ()
def PySem.W.Fast.tw15842935631803653960 : Unit := ()
def PySem.W.Fast.tw2430417173358939788 : Unit := ()
def PySem.W.Fast.tw749681604279922522 : Unit := ()
def PySem.W.Fast.tw13747875404777572523 : Unit := ()
def PySem.W.Fast.tw15408543295088523272 : Unit := ()
def PySem.W.Fast.tw2705715860180731882 : Unit := ()
def PySem.W.Fast.tw6746804556743541635 : Unit := ()
def PySem.W.Fast.tw8943384262987551090 : Unit := ()
def PySem.W.Fast.tw11135956672045765989 : Unit := ()
def PySem.W.Fast.tw17372436505959874525 : Unit := ()
def PySem.W.Fast.tw17901753326019300984 : Unit := ()
def PySem.W.Fast.tw13213269791959990737 : Unit := ()
def PySem.W.Fast.tw804175803942057946 : Unit := ()
def PySem.W.Fast.tw15712895497116438881 : Unit := ()
def PySem.W.Fast.tw15881409781302228783 : Unit := ()
def PySem.W.Fast.tw13208025420706546697 : Unit := ()
def PySem.W.Fast.tw4786593702029300567 : Unit := ()
def PySem.W.Fast.tw1587849187200861236 : Unit := ()
def PySem.W.Fast.tw1544807086380081382 : Unit := ()
def PySem.W.Fast.tw12596107532345349095 : Unit := ()
def PySem.W.Fast.tw11438866055824038840 : Unit := ()
def PySem.W.Fast.tw8247180370062560417 : Unit := ()
def PySem.W.Fast.tw16855475525483652031 : Unit := ()
def PySem.W.Fast.tw2061546823777922237 : Unit := ()
def PySem.W.Fast.tw2346134935927986607 : Unit := ()
def PySem.W.Fast.tw16498838335810213013 : Unit := ()
def PySem.W.Fast.tw7439970028328496592 : Unit := ()
def PySem.W.Fast.tw8967642268172634508 : Unit := ()
def PySem.W.Fast.tw1971772945160710290 : Unit := ()
def PySem.W.Fast.tw954650415507796775 : Unit := ()
def PySem.W.Fast.tw10852375748657448160 : Unit := ()
def PySem.W.Fast.tw14750997155991379502 : Unit := ()
def PySem.W.Fast.tw8672407800539735064 : Unit := ()
def PySem.W.Fast.tw8143629991494882987 : Unit := ()
def PySem.W.Fast.tw1562938960420731962 : Unit := ()
def PySem.W.Fast.tw8631999002469164372 : Unit := ()
def PySem.W.Fast.tw16953250051422624763 : Unit := ()
def PySem.W.Fast.tw673425309301404992 : Unit := ()
def PySem.W.Fast.tw10650775409479905215 : Unit := ()
def PySem.W.Fast.tw976473997884172235 : Unit := ()
def PySem.W.Fast.tw14134562421706315448 : Unit := ()
def PySem.W.Fast.tw1987100776191810745 : Unit := ()
def PySem.W.Fast.tw9372053698292935019 : Unit := ()
def PySem.W.Fast.tw17224328783679969796 : Unit := ()
def PySem.W.Fast.tw4142317701382110339 : Unit := ()
def PySem.W.Fast.tw5867958917281809850 : Unit := ()
def PySem.W.Fast.tw7481581137116557092 : Unit := ()
def PySem.W.Fast.tw7530814192600999815 : Unit := ()
def PySem.W.Fast.tw5903656070679944162 : Unit := ()
def PySem.W.Fast.tw15474018316963213935 : Unit := ()
def PySem.W.Fast.tw6018810709094856338 : Unit := ()
def PySem.W.Fast.tw13803366591704359273 : Unit := ()
def PySem.W.Fast.tw5624330588820647074 : Unit := ()
def PySem.W.Fast.tw8993991205242629843 : Unit := ()
def PySem.W.Fast.tw17240048739395213984 : Unit := ()
def PySem.W.Fast.tw14067408137109785182 : Unit := ()
def PySem.W.Fast.tw15381640927194431063 : Unit := ()
def PySem.W.Fast.tw9905035887884239121 : Unit := ()
def PySem.W.Fast.tw8839735646879254018 : Unit := ()
def PySem.W.Fast.tw7033950453356573669 : Unit := ()
def PySem.W.Fast.tw14624243188517256948 : Unit := ()
def PySem.W.Fast.tw1870750898564772562 : Unit := ()
def PySem.W.Fast.tw17873321449842648768 : Unit := ()
def PySem.W.Fast.tw10017105748219187944 : Unit := ()
def PySem.W.Fast.tw8646761072545385699 : Unit := ()
def PySem.W.Fast.tw12195461764752452669 : Unit := ()
def PySem.W.Fast.tw13448218870471105810 : Unit := ()
def PySem.W.Fast.tw6598870925157955908 : Unit := ()
def PySem.W.Fast.tw8752804584905524092 : Unit := ()
def PySem.W.Fast.tw5817836455582192383 : Unit := ()
def PySem.W.Fast.tw13177219680069388257 : Unit := ()
def PySem.W.Fast.tw2510682435678003369 : Unit := ()
def PySem.W.Fast.tw6951237823157575939 : Unit := ()
def PySem.W.Fast.tw14049108929446348772 : Unit := ()
def PySem.W.Fast.tw8753873926291015930 : Unit := ()
def PySem.W.Fast.tw2836445096352124544 : Unit := ()
def PySem.W.Fast.tw11451697988873438411 : Unit := ()
def PySem.W.Fast.tw18357481917899921800 : Unit := ()
def PySem.W.Fast.tw10026911552893691376 : Unit := ()
def PySem.W.Fast.tw14454994206714994882 : Unit := ()
def PySem.W.Fast.tw2846674084042339579 : Unit := ()
def PySem.W.Fast.tw2139726068652882633 : Unit := ()
def PySem.W.Fast.tw11294378619408107904 : Unit := ()
def PySem.W.Fast.tw13923135993128313726 : Unit := ()
def PySem.W.Fast.tw8205923923871444743 : Unit := ()
def PySem.W.Fast.tw9593512820827806311 : Unit := ()
def PySem.W.Fast.tw17622574196249487770 : Unit := ()
def PySem.W.Fast.tw18308064811113594636 : Unit := ()
def PySem.W.Fast.tw14225121526724725761 : Unit := ()
def PySem.W.Fast.tw6511498379697522291 : Unit := ()
def PySem.W.Fast.tw8700426963640525011 : Unit := ()
def PySem.W.Fast.tw4737177263060390063 : Unit := ()
def PySem.W.Fast.tw3293731242721142315 : Unit := ()
def PySem.W.Fast.tw3330129034235417004 : Unit := ()
def PySem.W.Fast.tw2852444592640407734 : Unit := ()
def PySem.W.Fast.tw7596228048353820333 : Unit := ()
def PySem.W.Fast.tw5067214815150397490 : Unit := ()
def PySem.W.Fast.tw5791386989443792480 : Unit := ()
def PySem.W.Fast.tw9576845630488213364 : Unit := ()
def PySem.W.Fast.tw10860763797724209773 : Unit := ()
def PySem.W.Fast.tw14632355020470868888 : Unit := ()
def PySem.W.Fast.tw5777868621899624456 : Unit := ()
def PySem.W.Fast.tw3060675023389865448 : Unit := ()
def PySem.W.Fast.tw14222423335178366632 : Unit := ()
def PySem.W.Fast.tw3660136200086992721 : Unit := ()
def PySem.W.Fast.tw18140336797094055052 : Unit := ()
def PySem.W.Fast.tw9732741400515843447 : Unit := ()
def PySem.W.Fast.tw9527389596465045235 : Unit := ()
def PySem.W.Fast.tw10228321379063473338 : Unit := ()
def PySem.W.Fast.tw2918544249841379294 : Unit := ()
def PySem.W.Fast.tw15158369341525252960 : Unit := ()
def PySem.W.Fast.tw8047832859243267253 : Unit := ()
def PySem.W.Fast.tw14654358977509600752 : Unit := ()
def PySem.W.Fast.tw2223989527263563057 : Unit := ()
def PySem.W.Fast.tw6274078368052094847 : Unit := ()
def PySem.W.Fast.tw3194472693833496645 : Unit := ()
def PySem.W.Fast.tw1315465075313701378 : Unit := ()
def PySem.W.Fast.tw11402532592781345365 : Unit := ()
def PySem.W.Fast.tw13507148930411966424 : Unit := ()
def PySem.W.Fast.tw2849756249184984288 : Unit := ()
def PySem.W.Fast.tw2401119574546063844 : Unit := ()
def PySem.W.Fast.tw13246037766717435718 : Unit := ()
def PySem.W.Fast.tw6298526639005190808 : Unit := ()
def PySem.W.Fast.tw8660074619867891326 : Unit := ()
def PySem.W.Fast.tw7692298601478444142 : Unit := ()
def PySem.W.Fast.tw6711056010799820817 : Unit := ()
def PySem.W.Fast.tw10439802735876339209 : Unit := ()
def PySem.W.Fast.tw17328748387281737414 : Unit := ()
def PySem.W.Fast.tw6466858547115472582 : Unit := ()
def PySem.W.Fast.tw7146655778050371362 : Unit := ()
def PySem.W.Fast.tw11839755887631958076 : Unit := ()
def PySem.W.Fast.tw10744077980551416420 : Unit := ()
def PySem.W.Fast.tw12091824106397657069 : Unit := ()
def PySem.W.Fast.tw4154886950216558756 : Unit := ()
def PySem.W.Fast.tw17489098222171647390 : Unit := ()
def PySem.W.Fast.tw5969235938815994468 : Unit := ()
def PySem.W.Fast.tw16484509401091606752 : Unit := ()
def PySem.W.Fast.tw7866441634878449719 : Unit := ()
def PySem.W.Fast.tw9630603909232967530 : Unit := ()
def PySem.W.Fast.tw14318975948103688312 : Unit := ()
def PySem.W.Fast.tw3075747541132362512 : Unit := ()
def PySem.W.Fast.tw9016614483183245330 : Unit := ()
def PySem.W.Fast.tw4693038150021075886 : Unit := ()
def PySem.W.Fast.tw15310316011219249501 : Unit := ()
def PySem.W.Fast.tw18024095073913599617 : Unit := ()
def PySem.W.Fast.tw13167445489935512492 : Unit := ()
def PySem.W.Fast.tw3316979827412083022 : Unit := ()
def PySem.W.Fast.tw13712722651519126338 : Unit := ()
def PySem.W.Fast.tw9017141431126473121 : Unit := ()
def PySem.W.Fast.tw10547024217455161087 : Unit := ()
def PySem.W.Fast.tw4279151341038649740 : Unit := ()
def PySem.W.Fast.tw9522885871929395826 : Unit := ()
def PySem.W.Fast.tw9577256481128738033 : Unit := ()
def PySem.W.Fast.tw11930341176887646954 : Unit := ()
def PySem.W.Fast.tw4710703205965575326 : Unit := ()
def PySem.W.Fast.tw7873509740319432430 : Unit := ()
def PySem.W.Fast.tw9021326847694409437 : Unit := ()
def PySem.W.Fast.tw5691151733698534289 : Unit := ()
def PySem.W.Fast.tw13390024733333180471 : Unit := ()
def PySem.W.Fast.tw15344017375118914346 : Unit := ()
def PySem.W.Fast.tw14323245240792351233 : Unit := ()
def PySem.W.Fast.tw4210600290475269964 : Unit := ()
def PySem.W.Fast.tw9309222675548110953 : Unit := ()
def PySem.W.Fast.tw2205488520522609682 : Unit := ()
def PySem.W.Fast.tw5488315815723412609 : Unit := ()
def PySem.W.Fast.tw6620073645760407630 : Unit := ()
def PySem.W.Fast.tw10135488300562842242 : Unit := ()
def PySem.W.Fast.tw366507928627971473 : Unit := ()
def PySem.W.Fast.tw2044009308195328848 : Unit := ()
def PySem.W.Fast.tw1553193227735823233 : Unit := ()
def PySem.W.Fast.tw7668589402066373498 : Unit := ()
def PySem.W.Fast.tw8861616824973077460 : Unit := ()
def PySem.W.Fast.tw2531534505116151211 : Unit := ()
def PySem.W.Fast.tw9206769134980708616 : Unit := ()
def PySem.W.Fast.tw206716715639673880 : Unit := ()
def PySem.W.Fast.tw15494524890653500947 : Unit := ()
def PySem.W.Fast.tw7030738861226861709 : Unit := ()
def PySem.W.Fast.tw16365418908198310830 : Unit := ()
def PySem.W.Fast.tw10358944148094389413 : Unit := ()
def PySem.W.Fast.tw8942260002534934594 : Unit := ()
def PySem.W.Fast.tw3137661414924132843 : Unit := ()
def PySem.W.Fast.tw18241828817693231990 : Unit := ()
def PySem.W.Fast.tw8399787366626288852 : Unit := ()
def PySem.W.Fast.tw3405715354219167313 : Unit := ()
def PySem.W.Fast.tw18302213621632565727 : Unit := ()
def PySem.W.Fast.tw14203118007790679155 : Unit := ()
def PySem.W.Fast.tw1261965924555871372 : Unit := ()
def PySem.W.Fast.tw12559517104402381681 : Unit := ()
def PySem.W.Fast.tw10995000772151631863 : Unit := ()
def PySem.W.Fast.tw16208970155432959833 : Unit := ()
def PySem.W.Fast.tw3861365758424494661 : Unit := ()
def PySem.W.Fast.tw3004405148522765334 : Unit := ()
def PySem.W.Fast.tw17843799523766425968 : Unit := ()
def PySem.W.Fast.tw7954175612874081513 : Unit := ()
def PySem.W.Fast.tw8103477168855771040 : Unit := ()
def PySem.W.Fast.tw10470709443522138670 : Unit := ()
def PySem.W.Fast.tw7987603587866174451 : Unit := ()
def PySem.W.Fast.tw8652799257287688005 : Unit := ()
def PySem.W.Fast.tw10527671183984988342 : Unit := ()
def PySem.W.Fast.tw3071767741489074231 : Unit := ()
def PySem.W.Fast.tw46364592886632616 : Unit := ()
def PySem.W.Fast.tw7388226055373084533 : Unit := ()
def PySem.W.Fast.tw13224318977488687188 : Unit := ()
def PySem.W.Fast.tw3820657641352285292 : Unit := ()
def PySem.W.Fast.tw9401654880711081199 : Unit := ()
def PySem.W.Fast.tw424997029445516475 : Unit := ()
def PySem.W.Fast.tw5440871480368987036 : Unit := ()
def PySem.W.Fast.tw4720227997863059474 : Unit := ()
def PySem.W.Fast.tw8200003685945482813 : Unit := ()
def PySem.W.Fast.tw17436512472622658896 : Unit := ()
def PySem.W.Fast.tw10548106430396853930 : Unit := ()
def PySem.W.Fast.tw12464176331937670884 : Unit := ()
def PySem.W.Fast.tw3671958720782596425 : Unit := ()
def PySem.W.Fast.tw9508664505974747680 : Unit := ()
def PySem.W.Fast.tw4919132652312599902 : Unit := ()
def PySem.W.Fast.tw16517173685812604466 : Unit := ()
def PySem.W.Fast.tw14331570906296263273 : Unit := ()
def PySem.W.Fast.tw4311844991396808124 : Unit := ()
def PySem.W.Fast.tw880616626630655409 : Unit := ()
def PySem.W.Fast.tw12819991067522985010 : Unit := ()
def PySem.W.Fast.tw9605552126646734785 : Unit := ()
def PySem.W.Fast.tw8284619740037398958 : Unit := ()
def PySem.W.Fast.tw6055027448700836810 : Unit := ()
def PySem.W.Fast.tw13899093332206385787 : Unit := ()
def PySem.W.Fast.tw8256999425214687184 : Unit := ()
def PySem.W.Fast.tw16321931279650506814 : Unit := ()
def PySem.W.Fast.tw1706326231647359790 : Unit := ()
def PySem.W.Fast.tw10613152189167241431 : Unit := ()
def PySem.W.Fast.tw16130685749990016325 : Unit := ()
def PySem.W.Fast.tw5031512812839270109 : Unit := ()
def PySem.W.Fast.tw16084622140356200331 : Unit := ()
def PySem.W.Fast.tw13260513671735913772 : Unit := ()
def PySem.W.Fast.tw14847161800548658238 : Unit := ()
def PySem.W.Fast.tw16120316791744645990 : Unit := ()
def PySem.W.Fast.tw17788784341266596579 : Unit := ()
def PySem.W.Fast.tw11040061579836709483 : Unit := ()
def PySem.W.Fast.tw13834111188102464306 : Unit := ()
def PySem.W.Fast.tw9489806683657149798 : Unit := ()
def PySem.W.Fast.tw8191565884519137369 : Unit := ()
def PySem.W.Fast.tw11690419385240184815 : Unit := ()
def PySem.W.Fast.tw13686309866762179197 : Unit := ()
def PySem.W.Fast.tw17510661413295596067 : Unit := ()
def PySem.W.Fast.tw11301808541875703760 : Unit := ()
def PySem.W.Fast.tw9179268803129921577 : Unit := ()
def PySem.W.Fast.tw12968982203807838700 : Unit := ()
def PySem.W.Fast.tw2296059052564051099 : Unit := ()
def PySem.W.Fast.tw4417054245316816147 : Unit := ()
def PySem.W.Fast.tw3375573471056291428 : Unit := ()
def PySem.W.Fast.tw10633850690696738934 : Unit := ()
def PySem.W.Fast.tw119496402624850558 : Unit := ()
def PySem.W.Fast.tw9678978647713830548 : Unit := ()
def PySem.W.Fast.tw4170629928365915182 : Unit := ()
def PySem.W.Fast.tw11856206532840377877 : Unit := ()
def PySem.W.Fast.tw11427990716638049164 : Unit := ()
def PySem.W.Fast.tw210822639854022587 : Unit := ()
def PySem.W.Fast.tw17446869646402506780 : Unit := ()
def PySem.W.Fast.tw43120627068416822 : Unit := ()
def PySem.W.Fast.tw18372775239863496492 : Unit := ()
def PySem.W.Fast.tw14744064222242438491 : Unit := ()
def PySem.W.Fast.tw14887597715394875004 : Unit := ()
def PySem.W.Fast.tw7167852078009528502 : Unit := ()
def PySem.W.Fast.tw362262005069947305 : Unit := ()
def PySem.W.Fast.tw9075860844412375421 : Unit := ()
def PySem.W.Fast.tw11757623310341457103 : Unit := ()
def PySem.W.Fast.tw297539138944880390 : Unit := ()
def PySem.W.Fast.tw5879240407612077771 : Unit := ()
def PySem.W.Fast.tw11766172395530411893 : Unit := ()
def PySem.W.Fast.tw757582774270794816 : Unit := ()
def PySem.W.Fast.tw410857156178593438 : Unit := ()
def PySem.W.Fast.tw14773607752470741357 : Unit := ()
def PySem.W.Fast.tw12844527344395101704 : Unit := ()
def PySem.W.Fast.tw3598683249046673947 : Unit := ()
def PySem.W.Fast.tw16329358720571131985 : Unit := ()
def PySem.W.Fast.tw11482721366763597732 : Unit := ()
def PySem.W.Fast.tw400364760928096952 : Unit := ()
def PySem.W.Fast.tw1223637325700107754 : Unit := ()
def PySem.W.Fast.tw16962907521255336779 : Unit := ()
def PySem.W.Fast.tw12531931660949083776 : Unit := ()
def PySem.W.Fast.tw10094806166449638428 : Unit := ()
def PySem.W.Fast.tw1726858522908216572 : Unit := ()
def PySem.W.Fast.tw17098913143976508807 : Unit := ()
def PySem.W.Fast.tw13792061065988350902 : Unit := ()
def PySem.W.Fast.tw7024650104519430474 : Unit := ()
def PySem.W.Fast.tw1295620762241314409 : Unit := ()
def PySem.W.Fast.tw9524690472821511491 : Unit := ()
def PySem.W.Fast.tw2933720275757770472 : Unit := ()
def PySem.W.Fast.tw3184755510316272977 : Unit := ()
def PySem.W.Fast.tw288988397499826335 : Unit := ()
def PySem.W.Fast.tw3120618209724937102 : Unit := ()
def PySem.W.Fast.tw5851755894106061251 : Unit := ()
def PySem.W.Fast.tw11894424437558573922 : Unit := ()
def PySem.W.Fast.tw4219456687845262584 : Unit := ()
def PySem.W.Fast.tw11290537542504279969 : Unit := ()
def PySem.W.Fast.tw3499491454961650184 : Unit := ()
def PySem.W.Fast.tw16146546430618185878 : Unit := ()
def PySem.W.Fast.tw14430639424755890895 : Unit := ()
def PySem.W.Fast.tw8108282385756293476 : Unit := ()
def PySem.W.Fast.tw11086845878980352905 : Unit := ()
def PySem.W.Fast.tw6256846073332322910 : Unit := ()
def PySem.W.Fast.tw4056017189415431225 : Unit := ()
def PySem.W.Fast.tw12395764318714532185 : Unit := ()
def PySem.W.Fast.tw14177747539480144653 : Unit := ()
def PySem.W.Fast.tw1180181488448985885 : Unit := ()
def PySem.W.Fast.tw10606267844939247037 : Unit := ()
def PySem.W.Fast.tw6477039777157590782 : Unit := ()
def PySem.W.Fast.tw338889508486049632 : Unit := ()
def PySem.W.Fast.tw16315590851502849989 : Unit := ()
def PySem.W.Fast.tw16667308002924304365 : Unit := ()
def PySem.W.Fast.tw5144453689247203627 : Unit := ()
def PySem.W.Fast.tw18407719433611290016 : Unit := ()
def PySem.W.Fast.tw3348879113672277945 : Unit := ()
def PySem.W.Fast.tw8418612513010160804 : Unit := ()
def PySem.W.Fast.tw9382290934146389082 : Unit := ()
def PySem.W.Fast.tw3370093933036928367 : Unit := ()
def PySem.W.Fast.tw7269621614049726388 : Unit := ()
def PySem.W.Fast.tw4036936426764585590 : Unit := ()
def PySem.W.Fast.tw8794798383290810484 : Unit := ()
def PySem.W.Fast.tw8787082204032573310 : Unit := ()
def PySem.W.Fast.tw14286901156824324346 : Unit := ()
def PySem.W.Fast.tw6923273518226272103 : Unit := ()
def PySem.W.Fast.tw13340609139154918717 : Unit := ()
def PySem.W.Fast.tw10022587556588294086 : Unit := ()
def PySem.W.Fast.tw2420883764088363012 : Unit := ()
def PySem.W.Fast.tw9421052828577243161 : Unit := ()
def PySem.W.Fast.tw7545579985585974728 : Unit := ()
def PySem.W.Fast.tw17447457794495349328 : Unit := ()
def PySem.W.Fast.tw1560135365424770327 : Unit := ()
def PySem.W.Fast.tw8185981265302876028 : Unit := ()
def PySem.W.Fast.tw1146567290768497813 : Unit := ()
def PySem.W.Fast.tw8204642376862612194 : Unit := ()
def PySem.W.Fast.tw4883318035729628455 : Unit := ()
def PySem.W.Fast.tw2423289297570799738 : Unit := ()
def PySem.W.Fast.tw3283908685527710773 : Unit := ()
def PySem.W.Fast.tw1037833500393181705 : Unit := ()
def PySem.W.Fast.tw11339182481894489838 : Unit := ()
def PySem.W.Fast.tw9646611416163901229 : Unit := ()
def PySem.W.Fast.tw11740290971338723277 : Unit := ()
def PySem.W.Fast.tw16154054975679303511 : Unit := ()
def PySem.W.Fast.tw15113075956701332370 : Unit := ()
def PySem.W.Fast.tw7857936642113405678 : Unit := ()
def PySem.W.Fast.tw8483792728411217205 : Unit := ()
def PySem.W.Fast.tw30660978315337122 : Unit := ()
def PySem.W.Fast.tw9770456434702339889 : Unit := ()
def PySem.W.Fast.tw12694640065957413364 : Unit := ()
def PySem.W.Fast.tw7138235986345015216 : Unit := ()
def PySem.W.Fast.tw1499621182914660118 : Unit := ()
def PySem.W.Fast.tw9871566411311128825 : Unit := ()
def PySem.W.Fast.tw3943292472995839089 : Unit := ()
def PySem.W.Fast.tw223755967045128490 : Unit := ()
def PySem.W.Fast.tw2731417221406435429 : Unit := ()
def PySem.W.Fast.tw12917463450235079338 : Unit := ()
def PySem.W.Fast.tw5300419603694734278 : Unit := ()
def PySem.W.Fast.tw9414131084404643505 : Unit := ()
def PySem.W.Fast.tw2279411684707668544 : Unit := ()
def PySem.W.Fast.tw2760215133108206454 : Unit := ()
def PySem.W.Fast.tw3280782521610408667 : Unit := ()
def PySem.W.Fast.tw15788952001235435059 : Unit := ()
def PySem.W.Fast.tw15768956573701787281 : Unit := ()
def PySem.W.Fast.tw9924968275759344185 : Unit := ()
def PySem.W.Fast.tw9365166584453401298 : Unit := ()
def PySem.W.Fast.tw17383407004318964953 : Unit := ()
def PySem.W.Fast.tw15840668459984978847 : Unit := ()
def PySem.W.Fast.tw7692731205953414898 : Unit := ()
def PySem.W.Fast.tw4425422983321894995 : Unit := ()
def PySem.W.Fast.tw17334759593633404496 : Unit := ()
def PySem.W.Fast.tw16410730498114592730 : Unit := ()
def PySem.W.Fast.tw16130717340090772737 : Unit := ()
def PySem.W.Fast.tw1635414861954860758 : Unit := ()
def PySem.W.Fast.tw14603359626408245133 : Unit := ()
def PySem.W.Fast.tw7414056985017018210 : Unit := ()
def PySem.W.Fast.tw15851548994847127956 : Unit := ()
def PySem.W.Fast.tw12763623122609458463 : Unit := ()
def PySem.W.Fast.tw10512743451043816108 : Unit := ()
def PySem.W.Fast.tw15122928099228913752 : Unit := ()
def PySem.W.Fast.tw14816062381333203971 : Unit := ()
def PySem.W.Fast.tw4945293954686483806 : Unit := ()
def PySem.W.Fast.tw8180342098060071163 : Unit := ()
def PySem.W.Fast.tw4073780851322542313 : Unit := ()
def PySem.W.Fast.tw10497849906935027420 : Unit := ()
def PySem.W.Fast.tw5059256665449257331 : Unit := ()
def PySem.W.Fast.tw13900780657341766473 : Unit := ()
def PySem.W.Fast.tw12483638057666373982 : Unit := ()
def PySem.W.Fast.tw9200835295853414114 : Unit := ()
def PySem.W.Fast.tw17647637989312524941 : Unit := ()
def PySem.W.Fast.tw6327854618285062735 : Unit := ()
def PySem.W.Fast.tw16478051811370659788 : Unit := ()
def PySem.W.Fast.tw8931702356456345992 : Unit := ()
def PySem.W.Fast.tw6208224527515439956 : Unit := ()
def PySem.W.Fast.tw7054952202233744524 : Unit := ()
def PySem.W.Fast.tw5408956781533876664 : Unit := ()
def PySem.W.Fast.tw3572334898917154556 : Unit := ()
def PySem.W.Fast.tw8745759449999727371 : Unit := ()
def PySem.W.Fast.tw16302319753148945706 : Unit := ()
def PySem.W.Fast.tw12923432774255632297 : Unit := ()
def PySem.W.Fast.tw5981870516338336474 : Unit := ()
def PySem.W.Fast.tw6324893529506828356 : Unit := ()
def PySem.W.Fast.tw497429201625967129 : Unit := ()
def PySem.W.Fast.tw8290174585342969568 : Unit := ()
def PySem.W.Fast.tw3269714406511661246 : Unit := ()
def PySem.W.Fast.tw11311666869171301330 : Unit := ()
def PySem.W.Fast.tw9978087009308547966 : Unit := ()
def PySem.W.Fast.tw13481511437743028022 : Unit := ()
def PySem.W.Fast.tw18172508650314904938 : Unit := ()
def PySem.W.Fast.tw8673166341085333006 : Unit := ()
def PySem.W.Fast.tw11582862197953448387 : Unit := ()
def PySem.W.Fast.tw17700463658912816644 : Unit := ()
def PySem.W.Fast.tw9087003460972177207 : Unit := ()
def PySem.W.Fast.tw11276593065517513500 : Unit := ()
def PySem.W.Fast.tw2386340582194802477 : Unit := ()
def PySem.W.Fast.tw542485690413571872 : Unit := ()
def PySem.W.Fast.tw2550652511882724560 : Unit := ()
def PySem.W.Fast.tw7629924999016382682 : Unit := ()
def PySem.W.Fast.tw7140396819229872850 : Unit := ()
def PySem.W.Fast.tw6029953871115790490 : Unit := ()
def PySem.W.Fast.tw14695011627892807952 : Unit := ()
def PySem.W.Fast.tw6374188473714079265 : Unit := ()
def PySem.W.Fast.tw4532882499199114324 : Unit := ()
def PySem.W.Fast.tw6855293318994245631 : Unit := ()
def PySem.W.Fast.tw5799193801752248141 : Unit := ()
def PySem.W.Fast.tw2134070148509419301 : Unit := ()
def PySem.W.Fast.tw12409860742351600002 : Unit := ()
def PySem.W.Fast.tw14396658136162230460 : Unit := ()
def PySem.W.Fast.tw15535739352017010739 : Unit := ()
def PySem.W.Fast.tw5729667499463080961 : Unit := ()
def PySem.W.Fast.tw17878982772266630615 : Unit := ()
def PySem.W.Fast.tw9515264360695349542 : Unit := ()
def PySem.W.Fast.tw18161324466679966150 : Unit := ()
def PySem.W.Fast.tw11028196507138309148 : Unit := ()
def PySem.W.Fast.tw2279901648634806294 : Unit := ()
def PySem.W.Fast.tw2694075859674066918 : Unit := ()
def PySem.W.Fast.tw3597144304690508820 : Unit := ()
def PySem.W.Fast.tw86427789890799928 : Unit := ()
def PySem.W.Fast.tw4883882833204062103 : Unit := ()
def PySem.W.Fast.tw10432120010055231160 : Unit := ()
def PySem.W.Fast.tw14603426527245575267 : Unit := ()
def PySem.W.Fast.tw1120118413923340600 : Unit := ()
def PySem.W.Fast.tw8469666770000121868 : Unit := ()
def PySem.W.Fast.tw12645030243081863157 : Unit := ()
def PySem.W.Fast.tw6850365930109585863 : Unit := ()
def PySem.W.Fast.tw8298447158301120636 : Unit := ()
def PySem.W.Fast.tw3245622254704129738 : Unit := ()
def PySem.W.Fast.tw15925762002727220177 : Unit := ()
def PySem.W.Fast.tw11568333983341316349 : Unit := ()
def PySem.W.Fast.tw9478211197860886371 : Unit := ()
def PySem.W.Fast.tw12080198095869305875 : Unit := ()
def PySem.W.Fast.tw10816350842130641425 : Unit := ()
def PySem.W.Fast.tw15760870638418167301 : Unit := ()
def PySem.W.Fast.tw14418633372249573131 : Unit := ()
def PySem.W.Fast.tw9965784450658899598 : Unit := ()
def PySem.W.Fast.tw17816473409977479419 : Unit := ()
def PySem.W.Fast.tw2013860044334659270 : Unit := ()
def PySem.W.Fast.tw9149542112603479503 : Unit := ()
def PySem.W.Fast.tw12656440034403391923 : Unit := ()
def PySem.W.Fast.tw10290233102083905546 : Unit := ()
def PySem.W.Fast.tw2614732519480355480 : Unit := ()
def PySem.W.Fast.tw14969917065065982623 : Unit := ()
def PySem.W.Fast.tw2940414434636248487 : Unit := ()
def PySem.W.Fast.tw5747156238246085234 : Unit := ()
def PySem.W.Fast.tw14643482707550074212 : Unit := ()
def PySem.W.Fast.tw4421578889663169691 : Unit := ()
def PySem.W.Fast.tw8892824742757439593 : Unit := ()
def PySem.W.Fast.tw12575466812996183415 : Unit := ()
def PySem.W.Fast.tw8125425340815875997 : Unit := ()
def PySem.W.Fast.tw16431822480647108022 : Unit := ()
def PySem.W.Fast.tw7744245571459607172 : Unit := ()
def PySem.W.Fast.tw6615160797642413232 : Unit := ()
def PySem.W.Fast.tw7127963329020102927 : Unit := ()
def PySem.W.Fast.tw6687389247561543171 : Unit := ()
def PySem.W.Fast.tw14501997217378323358 : Unit := ()
def PySem.W.Fast.tw6955685888398061119 : Unit := ()
def PySem.W.Fast.tw1409205351063768439 : Unit := ()
def PySem.W.Fast.tw18400645596043219321 : Unit := ()
def PySem.W.Fast.tw11856420227348085028 : Unit := ()
def PySem.W.Fast.tw5255210586967660184 : Unit := ()
def PySem.W.Fast.tw15883311340549947012 : Unit := ()
def PySem.W.Fast.tw6238629025573690569 : Unit := ()
def PySem.W.Fast.tw1555960642035336366 : Unit := ()
def PySem.W.Fast.tw6359303326551302048 : Unit := ()
def PySem.W.Fast.tw13088336633202604808 : Unit := ()
def PySem.W.Fast.tw8919225031834207525 : Unit := ()
def PySem.W.Fast.tw8664375637332531158 : Unit := ()
def PySem.W.Fast.tw9777471458004987573 : Unit := ()
def PySem.W.Fast.tw13533774328016353879 : Unit := ()
def PySem.W.Fast.tw12380110042008016999 : Unit := ()
def PySem.W.Fast.tw2143860705971095609 : Unit := ()
def PySem.W.Fast.tw15830226081439039199 : Unit := ()
def PySem.W.Fast.tw12310268414267654804 : Unit := ()
def PySem.W.Fast.tw8606156197398329282 : Unit := ()
def PySem.W.Fast.tw15279442547550639456 : Unit := ()
def PySem.W.Fast.tw10686458285658387645 : Unit := ()
def PySem.W.Fast.tw2884913502058946324 : Unit := ()
def PySem.W.Fast.tw8601521895963703976 : Unit := ()
def PySem.W.Fast.tw7686188808543579618 : Unit := ()
def PySem.W.Fast.tw4740156176058243220 : Unit := ()
def PySem.W.Fast.tw12298929982973790124 : Unit := ()
def PySem.W.Fast.tw4132599108134779420 : Unit := ()
def PySem.W.Fast.tw17175707031133220468 : Unit := ()
def PySem.W.Fast.tw1905683339680112767 : Unit := ()
def PySem.W.Fast.tw13764655092189972920 : Unit := ()
def PySem.W.Fast.tw17803761587266613462 : Unit := ()
def PySem.W.Fast.tw3451641813287048874 : Unit := ()
def PySem.W.Fast.tw375910946150645005 : Unit := ()
def PySem.W.Fast.tw12826022577714965050 : Unit := ()
def PySem.W.Fast.tw12405415696467681402 : Unit := ()
def PySem.W.Fast.tw12463975115051931792 : Unit := ()
def PySem.W.Fast.tw13115807510382331455 : Unit := ()
def PySem.W.Fast.tw16165241244673667384 : Unit := ()
def PySem.W.Fast.tw13414144372939616980 : Unit := ()
def PySem.W.Fast.tw7637312244742260550 : Unit := ()
def PySem.W.Fast.tw7534547234782795793 : Unit := ()
def PySem.W.Fast.tw15094672468430324659 : Unit := ()
def PySem.W.Fast.tw17940753431762272834 : Unit := ()
def PySem.W.Fast.tw3768417638977560278 : Unit := ()
def PySem.W.Fast.tw5108411769480570605 : Unit := ()
def PySem.W.Fast.tw11347018581584943433 : Unit := ()
def PySem.W.Fast.tw8995278219958610162 : Unit := ()
def PySem.W.Fast.tw6410361622459037303 : Unit := ()
def PySem.W.Fast.tw13688848035027739531 : Unit := ()
def PySem.W.Fast.tw6482925174275015406 : Unit := ()
def PySem.W.Fast.tw5823309908444019950 : Unit := ()
def PySem.W.Fast.tw17263529731899439247 : Unit := ()
def PySem.W.Fast.tw13336067954453204790 : Unit := ()
def PySem.W.Fast.tw7877090942664731563 : Unit := ()
def PySem.W.Fast.tw10428173605177586852 : Unit := ()
def PySem.W.Fast.tw17139726732062454069 : Unit := ()
def PySem.W.Fast.tw12765741413706388380 : Unit := ()
def PySem.W.Fast.tw3596250939295641609 : Unit := ()
def PySem.W.Fast.tw12743100107528244696 : Unit := ()
def PySem.W.Fast.tw3744164060672450633 : Unit := ()
def PySem.W.Fast.tw17118541862829738496 : Unit := ()
def PySem.W.Fast.tw9423356943738917630 : Unit := ()
def PySem.W.Fast.tw16198800223471883315 : Unit := ()
def PySem.W.Fast.tw11741965250232645030 : Unit := ()
def PySem.W.Fast.tw14623544660357626280 : Unit := ()
def PySem.W.Fast.tw3173672210610759734 : Unit := ()
def PySem.W.Fast.tw11763031279876737145 : Unit := ()
def PySem.W.Fast.tw1045750192561096185 : Unit := ()
def PySem.W.Fast.tw2798522464942453152 : Unit := ()
def PySem.W.Fast.tw17866599697821503584 : Unit := ()
def PySem.W.Fast.tw14477273772388165123 : Unit := ()
def PySem.W.Fast.tw9703250510970270247 : Unit := ()
def PySem.W.Fast.tw7463209054415060797 : Unit := ()
def PySem.W.Fast.tw10309121542445110889 : Unit := ()
def PySem.W.Fast.tw11048677428618051472 : Unit := ()
def PySem.W.Fast.tw14174933283121926969 : Unit := ()
def PySem.W.Fast.tw8615032547313900669 : Unit := ()
def PySem.W.Fast.tw1459502338728543072 : Unit := ()
def PySem.W.Fast.tw4579237130185984598 : Unit := ()
def PySem.W.Fast.tw8078230287869506720 : Unit := ()
def PySem.W.Fast.tw407107486556968755 : Unit := ()
def PySem.W.Fast.tw5958110587150927773 : Unit := ()
def PySem.W.Fast.tw3425214533960440034 : Unit := ()
def PySem.W.Fast.tw10625928977427026503 : Unit := ()
def PySem.W.Fast.tw9324927060514676346 : Unit := ()
def PySem.W.Fast.tw13844031678467611945 : Unit := ()
def PySem.W.Fast.tw4020826274491191583 : Unit := ()
def PySem.W.Fast.tw17518276689198006133 : Unit := ()
def PySem.W.Fast.tw15206898458671654823 : Unit := ()
def PySem.W.Fast.tw15337866776779307820 : Unit := ()
def PySem.W.Fast.tw11131098586344992860 : Unit := ()
def PySem.W.Fast.tw11700991722109978848 : Unit := ()
def PySem.W.Fast.tw13436158050538510140 : Unit := ()
def PySem.W.Fast.tw13450414955233130804 : Unit := ()
def PySem.W.Fast.tw13503133936533391535 : Unit := ()
def PySem.W.Fast.tw15472542371217931175 : Unit := ()
def PySem.W.Fast.tw3559323116487527598 : Unit := ()
def PySem.W.Fast.tw12722343579583298873 : Unit := ()
def PySem.W.Fast.tw13388232783534492232 : Unit := ()
def PySem.W.Fast.tw9040193417423257791 : Unit := ()
def PySem.W.Fast.tw13326400342328139916 : Unit := ()
def PySem.W.Fast.tw17403951920027030770 : Unit := ()
def PySem.W.Fast.tw350939066319830214 : Unit := ()
def PySem.W.Fast.tw13661705177717658757 : Unit := ()
def PySem.W.Fast.tw13575465412886469158 : Unit := ()
def PySem.W.Fast.tw15013712045463242333 : Unit := ()
def PySem.W.Fast.tw16974710446935631710 : Unit := ()
def PySem.W.Fast.tw11610939523274925409 : Unit := ()
def PySem.W.Fast.tw14957434400169616314 : Unit := ()
def PySem.W.Fast.tw14807984605352293334 : Unit := ()
def PySem.W.Fast.tw6733837612114879043 : Unit := ()
def PySem.W.Fast.tw6224778947533587441 : Unit := ()
def PySem.W.Fast.tw1646601592003978748 : Unit := ()
def PySem.W.Fast.tw13747498226014932190 : Unit := ()
def PySem.W.Fast.tw13849591735999568740 : Unit := ()
def PySem.W.Fast.tw3331303803329745195 : Unit := ()
def PySem.W.Fast.tw2397559169486805581 : Unit := ()
def PySem.W.Fast.tw10394319676544429547 : Unit := ()
def PySem.W.Fast.tw5904837837806801110 : Unit := ()
def PySem.W.Fast.tw452531397105069196 : Unit := ()
def PySem.W.Fast.tw4838327090877305933 : Unit := ()
def PySem.W.Fast.tw667375862334135083 : Unit := ()
def PySem.W.Fast.tw2750155574734124815 : Unit := ()
def PySem.W.Fast.tw18331401709551996775 : Unit := ()
def PySem.W.Fast.tw9599744308218718902 : Unit := ()
def PySem.W.Fast.tw3148336576057880329 : Unit := ()
def PySem.W.Fast.tw12750520123250773519 : Unit := ()
def PySem.W.Fast.tw13215860588518386505 : Unit := ()
def PySem.W.Fast.tw9715235642570847009 : Unit := ()
def PySem.W.Fast.tw9893175886502924734 : Unit := ()
def PySem.W.Fast.tw18344480008151728533 : Unit := ()
def PySem.W.Fast.tw3976635126287211630 : Unit := ()
def PySem.W.Fast.tw9799551345242403050 : Unit := ()
def PySem.W.Fast.tw203528934841539350 : Unit := ()
def PySem.W.Fast.tw17614435641830067466 : Unit := ()
def PySem.W.Fast.tw6010421910567960086 : Unit := ()
def PySem.W.Fast.tw18193461974185026236 : Unit := ()
def PySem.W.Fast.tw2962399363841049 : Unit := ()
def PySem.W.Fast.tw8355695918187648400 : Unit := ()
def PySem.W.Fast.tw9911596631754189451 : Unit := ()
def PySem.W.Fast.tw15580664189044575413 : Unit := ()
def PySem.W.Fast.tw3937591745614068321 : Unit := ()
def PySem.W.Fast.tw5684065060995212437 : Unit := ()
def PySem.W.Fast.tw11508215424364967603 : Unit := ()
def PySem.W.Fast.tw733790385214265067 : Unit := ()
def PySem.W.Fast.tw2308334504255184470 : Unit := ()
def PySem.W.Fast.tw13424674981708285829 : Unit := ()
def PySem.W.Fast.tw1609463689121917982 : Unit := ()
def PySem.W.Fast.tw8342586191300367797 : Unit := ()
def PySem.W.Fast.tw17057588619614880441 : Unit := ()
def PySem.W.Fast.tw1856330950369727978 : Unit := ()
def PySem.W.Fast.tw261027069864198041 : Unit := ()
def PySem.W.Fast.tw758400549139788204 : Unit := ()
def PySem.W.Fast.tw9598088267477401427 : Unit := ()
def PySem.W.Fast.tw14666142730721143613 : Unit := ()
def PySem.W.Fast.tw13837679009701689278 : Unit := ()
def PySem.W.Fast.tw2726088558432964915 : Unit := ()
def PySem.W.Fast.tw12363555197508774540 : Unit := ()
def PySem.W.Fast.tw7686367097322715055 : Unit := ()
def PySem.W.Fast.tw14406270601978526432 : Unit := ()
def PySem.W.Fast.tw17729139651936747536 : Unit := ()
def PySem.W.Fast.tw10324170128438376234 : Unit := ()
def PySem.W.Fast.tw18269445030527279233 : Unit := ()
def PySem.W.Fast.tw17448011589521911580 : Unit := ()
def PySem.W.Fast.tw10796253484158125395 : Unit := ()
def PySem.W.Fast.tw16197378295133482549 : Unit := ()
def PySem.W.Fast.tw9237658185608240425 : Unit := ()
def PySem.W.Fast.tw14200896694419626033 : Unit := ()
def PySem.W.Fast.tw961379172469749866 : Unit := ()
def PySem.W.Fast.tw5997498127320092067 : Unit := ()
def PySem.W.Fast.tw8544454657998436693 : Unit := ()
def PySem.W.Fast.tw1359751937588028840 : Unit := ()
def PySem.W.Fast.tw12956868864870535416 : Unit := ()
def PySem.W.Fast.tw9302120409345145733 : Unit := ()
def PySem.W.Fast.tw8050923358920176513 : Unit := ()
def PySem.W.Fast.tw12168025135710112068 : Unit := ()
def PySem.W.Fast.tw3442435072678614687 : Unit := ()
def PySem.W.Fast.tw17895345233190393346 : Unit := ()
def PySem.W.Fast.tw6102608184593882519 : Unit := ()
def PySem.W.Fast.tw5460593525521791998 : Unit := ()
def PySem.W.Fast.tw13559429783860350752 : Unit := ()
def PySem.W.Fast.tw3673547005913631959 : Unit := ()
def PySem.W.Fast.tw3520064696838971301 : Unit := ()
def PySem.W.Fast.tw12868890225812491974 : Unit := ()
def PySem.W.Fast.tw7693882165982492202 : Unit := ()
def PySem.W.Fast.tw5483308422986260742 : Unit := ()
def PySem.W.Fast.tw12211878504040883270 : Unit := ()
def PySem.W.Fast.tw7730961789851791805 : Unit := ()
def PySem.W.Fast.tw9542906033914078533 : Unit := ()
def PySem.W.Fast.tw16227247238810983070 : Unit := ()
def PySem.W.Fast.tw10544392904356478982 : Unit := ()
def PySem.W.Fast.tw8640180688630903351 : Unit := ()
def PySem.W.Fast.tw280155894036168915 : Unit := ()
def PySem.W.Fast.tw10513950282472412468 : Unit := ()
def PySem.W.Fast.tw10753049167290345266 : Unit := ()
def PySem.W.Fast.tw2025423423398112799 : Unit := ()
def PySem.W.Fast.tw7265567289471936372 : Unit := ()
def PySem.W.Fast.tw8856525215932711876 : Unit := ()
def PySem.W.Fast.tw8824979846834877621 : Unit := ()
def PySem.W.Fast.tw15535292057924124855 : Unit := ()
def PySem.W.Fast.tw14900259280224716428 : Unit := ()
def PySem.W.Fast.tw16177771883272973256 : Unit := ()
def PySem.W.Fast.tw3489584261954582779 : Unit := ()
def PySem.W.Fast.tw8802695090118405871 : Unit := ()
def PySem.W.Fast.tw17339739604280021678 : Unit := ()
def PySem.W.Fast.tw2510724561092066765 : Unit := ()
def PySem.W.Fast.tw3078032628300347164 : Unit := ()
def PySem.W.Fast.tw6673310752651960816 : Unit := ()
def PySem.W.Fast.tw9439018209362533859 : Unit := ()
def PySem.W.Fast.tw2221866238507669931 : Unit := ()
def PySem.W.Fast.tw6162601800575449011 : Unit := ()
def PySem.W.Fast.tw8303677988806870628 : Unit := ()
def PySem.W.Fast.tw10425566578528412828 : Unit := ()
def PySem.W.Fast.tw11512244091177779269 : Unit := ()
def PySem.W.Fast.tw11069794284893050906 : Unit := ()
def PySem.W.Fast.tw14911672597538048458 : Unit := ()
def PySem.W.Fast.tw10533757095717088804 : Unit := ()
def PySem.W.Fast.tw4177490350096419770 : Unit := ()
def PySem.W.Fast.tw11698251938315699751 : Unit := ()
def PySem.W.Fast.tw15458872983130522413 : Unit := ()
def PySem.W.Fast.tw4468386068197325167 : Unit := ()
def PySem.W.Fast.tw1352222168272379782 : Unit := ()
def PySem.W.Fast.tw17580678485918409728 : Unit := ()
def PySem.W.Fast.tw1293274179979204032 : Unit := ()
def PySem.W.Fast.tw11440678302818536194 : Unit := ()
def PySem.W.Fast.tw3685724918245101274 : Unit := ()
def PySem.W.Fast.tw16783119429183080968 : Unit := ()
def PySem.W.Fast.tw18329291136095556222 : Unit := ()
def PySem.W.Fast.tw2463221823048575174 : Unit := ()
def PySem.W.Fast.tw307776115433845254 : Unit := ()
def PySem.W.Fast.tw3589527948307852290 : Unit := ()
def PySem.W.Fast.tw15967377358555851022 : Unit := ()
def PySem.W.Fast.tw17758913042570339888 : Unit := ()
def PySem.W.Fast.tw884931065443337740 : Unit := ()
def PySem.W.Fast.tw14018112519638261553 : Unit := ()
def PySem.W.Fast.tw1275040940807749549 : Unit := ()
def PySem.W.Fast.tw7558861161617074996 : Unit := ()
def PySem.W.Fast.tw10648921371051159154 : Unit := ()
def PySem.W.Fast.tw235787965205552711 : Unit := ()
def PySem.W.Fast.tw7169755484869129946 : Unit := ()
def PySem.W.Fast.tw9631655744326256558 : Unit := ()
def PySem.W.Fast.tw1745718852123777191 : Unit := ()
def PySem.W.Fast.tw6290120799858896112 : Unit := ()
def PySem.W.Fast.tw18296532878881166089 : Unit := ()
def PySem.W.Fast.tw9378840995102437254 : Unit := ()
def PySem.W.Fast.tw9270804204432301382 : Unit := ()
def PySem.W.Fast.tw2431855314189546609 : Unit := ()
def PySem.W.Fast.tw17539536235697064622 : Unit := ()
def PySem.W.Fast.tw5529775898592336397 : Unit := ()
def PySem.W.Fast.tw9984750436570295299 : Unit := ()
def PySem.W.Fast.tw1532671718300659389 : Unit := ()
def PySem.W.Fast.tw17867268530945963867 : Unit := ()
def PySem.W.Fast.tw3900148554277139098 : Unit := ()
def PySem.W.Fast.tw16716215035965911657 : Unit := ()
def PySem.W.Fast.tw2491081597400071126 : Unit := ()
def PySem.W.Fast.tw12819948492940167582 : Unit := ()
def PySem.W.Fast.tw2037150349265028791 : Unit := ()
def PySem.W.Fast.tw6619293820116714768 : Unit := ()
def PySem.W.Fast.tw12426794967871930401 : Unit := ()
def PySem.W.Fast.tw9540233988000316973 : Unit := ()
def PySem.W.Fast.tw3597120536047816356 : Unit := ()
def PySem.W.Fast.tw4010448483035692294 : Unit := ()
def PySem.W.Fast.tw7799358977904150115 : Unit := ()
def PySem.W.Fast.tw14947450577480374010 : Unit := ()
def PySem.W.Fast.tw5881619411747244983 : Unit := ()
def PySem.W.Fast.tw979241585247549327 : Unit := ()
def PySem.W.Fast.tw5638150183467144166 : Unit := ()
def PySem.W.Fast.tw16726507384725910975 : Unit := ()
def PySem.W.Fast.tw16317210562064613962 : Unit := ()
def PySem.W.Fast.tw2289546284899398299 : Unit := ()
def PySem.W.Fast.tw1778366758936397558 : Unit := ()
def PySem.W.Fast.tw2402987467100889957 : Unit := ()
def PySem.W.Fast.tw7856885160526208452 : Unit := ()
def PySem.W.Fast.tw17526363931776578211 : Unit := ()
def PySem.W.Fast.tw6229920517321275425 : Unit := ()
def PySem.W.Fast.tw3476953561118526342 : Unit := ()
def PySem.W.Fast.tw5534009502302258213 : Unit := ()
def PySem.W.Fast.tw8972904100374588449 : Unit := ()
def PySem.W.Fast.tw17976379145407185296 : Unit := ()
def PySem.W.Fast.tw9149781735744124494 : Unit := ()
def PySem.W.Fast.tw11073737148884280995 : Unit := ()
def PySem.W.Fast.tw18004707980131779847 : Unit := ()
def PySem.W.Fast.tw1758393043216337481 : Unit := ()
def PySem.W.Fast.tw10992328441962987691 : Unit := ()
def PySem.W.Fast.tw18405452448520325905 : Unit := ()
def PySem.W.Fast.tw8111762095351231330 : Unit := ()
def PySem.W.Fast.tw15674481069532292585 : Unit := ()
def PySem.W.Fast.tw16140590260708130803 : Unit := ()
def PySem.W.Fast.tw12929814525938909263 : Unit := ()
def PySem.W.Fast.tw15199961992865646142 : Unit := ()
def PySem.W.Fast.tw1740747771589762472 : Unit := ()
def PySem.W.Fast.tw7218217216751436812 : Unit := ()
def PySem.W.Fast.tw9994694807271227668 : Unit := ()
def PySem.W.Fast.tw13878459401267435468 : Unit := ()
def PySem.W.Fast.tw12110657523012555677 : Unit := ()
def PySem.W.Fast.tw12867110816191523431 : Unit := ()
def PySem.W.Fast.tw9391913870364196101 : Unit := ()
def PySem.W.Fast.tw9912345113686972954 : Unit := ()
def PySem.W.Fast.tw1717592629425613366 : Unit := ()
def PySem.W.Fast.tw12654617896483037421 : Unit := ()
def PySem.W.Fast.tw13403810113467699847 : Unit := ()
def PySem.W.Fast.tw13743671543003234101 : Unit := ()
def PySem.W.Fast.tw9960829969951883267 : Unit := ()
def PySem.W.Fast.tw13712738254976620265 : Unit := ()
def PySem.W.Fast.tw5468192428863903735 : Unit := ()
def PySem.W.Fast.tw17905688555444945507 : Unit := ()
def PySem.W.Fast.tw15986131401022867988 : Unit := ()
def PySem.W.Fast.tw382597834026888477 : Unit := ()
def PySem.W.Fast.tw12654541676687064200 : Unit := ()
def PySem.W.Fast.tw4126918933662668406 : Unit := ()
def PySem.W.Fast.tw2811777206669188089 : Unit := ()
def PySem.W.Fast.tw16466110821203118783 : Unit := ()
def PySem.W.Fast.tw12608805418248330706 : Unit := ()
def PySem.W.Fast.tw14784145889737247424 : Unit := ()
def PySem.W.Fast.tw1337816370548903675 : Unit := ()
def PySem.W.Fast.tw5495296845973250557 : Unit := ()
def PySem.W.Fast.tw766427243879956068 : Unit := ()
def PySem.W.Fast.tw5689206752638873584 : Unit := ()
def PySem.W.Fast.tw5044329095875182259 : Unit := ()
def PySem.W.Fast.tw13269712590212267690 : Unit := ()
def PySem.W.Fast.tw6571330610185569798 : Unit := ()
def PySem.W.Fast.tw3828911863727057392 : Unit := ()
def PySem.W.Fast.tw4652736808068593078 : Unit := ()
def PySem.W.Fast.tw11465225229995704153 : Unit := ()
def PySem.W.Fast.tw7258516064025734310 : Unit := ()
def PySem.W.Fast.tw3854819943126985673 : Unit := ()
def PySem.W.Fast.tw2414188238625046673 : Unit := ()
def PySem.W.Fast.tw9245887169660137550 : Unit := ()
def PySem.W.Fast.tw17159422354927944248 : Unit := ()
def PySem.W.Fast.tw13877234109157478113 : Unit := ()
def PySem.W.Fast.tw7223099788254449603 : Unit := ()
def PySem.W.Fast.tw102909502708123479 : Unit := ()
def PySem.W.Fast.tw8581972820209241665 : Unit := ()
def PySem.W.Fast.tw568967000218051262 : Unit := ()
def PySem.W.Fast.tw8418455257533255608 : Unit := ()
def PySem.W.Fast.tw5633311300463429263 : Unit := ()
def PySem.W.Fast.tw2953519142238140359 : Unit := ()
def PySem.W.Fast.tw12885634937600619187 : Unit := ()
def PySem.W.Fast.tw12310795634797746490 : Unit := ()
def PySem.W.Fast.tw9002564546016185561 : Unit := ()
def PySem.W.Fast.tw2535511462977555249 : Unit := ()
def PySem.W.Fast.tw266406131760738291 : Unit := ()
def PySem.W.Fast.tw5827234918972277115 : Unit := ()
def PySem.W.Fast.tw6825615542519763660 : Unit := ()
def PySem.W.Fast.tw10350122720186918499 : Unit := ()
def PySem.W.Fast.tw4836956658355559854 : Unit := ()
def PySem.W.Fast.tw6076205890307572075 : Unit := ()
def PySem.W.Fast.tw9751147752922884215 : Unit := ()
def PySem.W.Fast.tw16487915338316172833 : Unit := ()
def PySem.W.Fast.tw1812151597413659730 : Unit := ()
def PySem.W.Fast.tw11832883120263094024 : Unit := ()
def PySem.W.Fast.tw7561016730084261805 : Unit := ()
def PySem.W.Fast.tw16577009028133231922 : Unit := ()
def PySem.W.Fast.tw18323194756909369796 : Unit := ()
def PySem.W.Fast.tw15845395207528695604 : Unit := ()
def PySem.W.Fast.tw6708619991402143732 : Unit := ()
def PySem.W.Fast.tw14261343411783162638 : Unit := ()
def PySem.W.Fast.tw3738565300583420606 : Unit := ()
def PySem.W.Fast.tw16646505842377950307 : Unit := ()
def PySem.W.Fast.tw2965390900103181186 : Unit := ()
def PySem.W.Fast.tw1025329066988658046 : Unit := ()
def PySem.W.Fast.tw639308189945212454 : Unit := ()
def PySem.W.Fast.tw4614549434005374947 : Unit := ()
def PySem.W.Fast.tw6604594038080821513 : Unit := ()
def PySem.W.Fast.tw4032241314071640103 : Unit := ()
def PySem.W.Fast.tw15642469893470749655 : Unit := ()
def PySem.W.Fast.tw7260318976880540941 : Unit := ()
def PySem.W.Fast.tw6581965000582169606 : Unit := ()
def PySem.W.Fast.tw5029832194561103722 : Unit := ()
def PySem.W.Fast.tw8522547834390665800 : Unit := ()
def PySem.W.Fast.tw2344655369907927465 : Unit := ()
def PySem.W.Fast.tw15362824610369034278 : Unit := ()
def PySem.W.Fast.tw3964557580307915630 : Unit := ()
def PySem.W.Fast.tw17754217257837258663 : Unit := ()
def PySem.W.Fast.tw7907222283924290797 : Unit := ()
def PySem.W.Fast.tw8114798474226244798 : Unit := ()
def PySem.W.Fast.tw7993175328263796090 : Unit := ()
def PySem.W.Fast.tw9810172287796772674 : Unit := ()
def PySem.W.Fast.tw11275867304629031075 : Unit := ()
def PySem.W.Fast.tw4140842676335232076 : Unit := ()
def PySem.W.Fast.tw8308587030934237296 : Unit := ()
def PySem.W.Fast.tw1817194602281137308 : Unit := ()
def PySem.W.Fast.tw457689556882382097 : Unit := ()
def PySem.W.Fast.tw5835146567330347957 : Unit := ()
def PySem.W.Fast.tw11520602052526231989 : Unit := ()
def PySem.W.Fast.tw4203853975836718999 : Unit := ()
def PySem.W.Fast.tw17287502212206171112 : Unit := ()
def PySem.W.Fast.tw6078020245252284670 : Unit := ()
def PySem.W.Fast.tw15944786514325417283 : Unit := ()
def PySem.W.Fast.tw16176776782603463896 : Unit := ()
def PySem.W.Fast.tw10666223771404456866 : Unit := ()
def PySem.W.Fast.tw17755834397259235325 : Unit := ()
def PySem.W.Fast.tw14580337742207049009 : Unit := ()
def PySem.W.Fast.tw4932849811638985349 : Unit := ()
def PySem.W.Fast.tw1830798906234258778 : Unit := ()
def PySem.W.Fast.tw10226595077388654205 : Unit := ()
def PySem.W.Fast.tw15361223284977370330 : Unit := ()
def PySem.W.Fast.tw17751938806014784971 : Unit := ()
def PySem.W.Fast.tw14741891034412507549 : Unit := ()
def PySem.W.Fast.tw780644460866952532 : Unit := ()
def PySem.W.Fast.tw12129406615523809369 : Unit := ()
def PySem.W.Fast.tw16812205265567288785 : Unit := ()
def PySem.W.Fast.tw7395574416373417644 : Unit := ()
def PySem.W.Fast.tw3939527374800138411 : Unit := ()
def PySem.W.Fast.tw10578682877776935398 : Unit := ()
def PySem.W.Fast.tw232200487591532104 : Unit := ()
def PySem.W.Fast.tw13178454875684104240 : Unit := ()
def PySem.W.Fast.tw5890573335262921146 : Unit := ()
def PySem.W.Fast.tw292567389637396345 : Unit := ()
def PySem.W.Fast.tw5839717192830641683 : Unit := ()
def PySem.W.Fast.tw9350252166568856501 : Unit := ()
def PySem.W.Fast.tw10455137792722786156 : Unit := ()
def PySem.W.Fast.tw18082309944230612189 : Unit := ()
def PySem.W.Fast.tw12155403927381592739 : Unit := ()
def PySem.W.Fast.tw44781680632520349 : Unit := ()
def PySem.W.Fast.tw17048130413714944037 : Unit := ()
def PySem.W.Fast.tw1083344908986486856 : Unit := ()
def PySem.W.Fast.tw6968682180249971350 : Unit := ()
def PySem.W.Fast.tw5705841711116243173 : Unit := ()
def PySem.W.Fast.tw2766447258545448739 : Unit := ()
def PySem.W.Fast.tw1611142172514188315 : Unit := ()
def PySem.W.Fast.tw9291913208152686271 : Unit := ()
def PySem.W.Fast.tw15665151494307055466 : Unit := ()
def PySem.W.Fast.tw14098532801549791394 : Unit := ()
def PySem.W.Fast.tw8639224038847020931 : Unit := ()
def PySem.W.Fast.tw8931360923378499769 : Unit := ()
def PySem.W.Fast.tw7478822876539300447 : Unit := ()
def PySem.W.Fast.tw15984418324103614789 : Unit := ()
def PySem.W.Fast.tw4041714212371992901 : Unit := ()
def PySem.W.Fast.tw15504549054166827600 : Unit := ()
def PySem.W.Fast.tw5974645395179436228 : Unit := ()
def PySem.W.Fast.tw81983159554366880 : Unit := ()
def PySem.W.Fast.tw17437350245661390060 : Unit := ()
def PySem.W.Fast.tw15250370092359819935 : Unit := ()
def PySem.W.Fast.tw5417633900232975534 : Unit := ()
def PySem.W.Fast.tw6693546072655336629 : Unit := ()
def PySem.W.Fast.tw15075622196022784586 : Unit := ()
def PySem.W.Fast.tw1180001658277931544 : Unit := ()
def PySem.W.Fast.tw11908485473264980033 : Unit := ()
def PySem.W.Fast.tw2463562749410619323 : Unit := ()
def PySem.W.Fast.tw17398184164561664621 : Unit := ()
def PySem.W.Fast.tw17129617822355131625 : Unit := ()
def PySem.W.Fast.tw16708721414389606900 : Unit := ()
def PySem.W.Fast.tw18320782426602330209 : Unit := ()
def PySem.W.Fast.tw6562356465499735256 : Unit := ()
def PySem.W.Fast.tw9000351259969901894 : Unit := ()
def PySem.W.Fast.tw11789752327659194727 : Unit := ()
def PySem.W.Fast.tw4093413787221093277 : Unit := ()
def PySem.W.Fast.tw7038390247849473142 : Unit := ()
def PySem.W.Fast.tw18130778811057885679 : Unit := ()
def PySem.W.Fast.tw8669740162132027919 : Unit := ()
def PySem.W.Fast.tw8741353470093666321 : Unit := ()
def PySem.W.Fast.tw2142212639198660525 : Unit := ()
def PySem.W.Fast.tw14957346182825042224 : Unit := ()
def PySem.W.Fast.tw17732088600856508408 : Unit := ()
def PySem.W.Fast.tw3114191238004120255 : Unit := ()
def PySem.W.Fast.tw8083415075372921817 : Unit := ()
def PySem.W.Fast.tw5301907781368351872 : Unit := ()
def PySem.W.Fast.tw5979828441563273379 : Unit := ()
def PySem.W.Fast.tw955593744210403268 : Unit := ()
def PySem.W.Fast.tw7288713281922796892 : Unit := ()
def PySem.W.Fast.tw864199638408998872 : Unit := ()
def PySem.W.Fast.tw14915898482770191280 : Unit := ()
def PySem.W.Fast.tw17641530741153525291 : Unit := ()
def PySem.W.Fast.tw8479831500903554831 : Unit := ()
def PySem.W.Fast.tw14686722296979768680 : Unit := ()
def PySem.W.Fast.tw3514573973296356834 : Unit := ()
def PySem.W.Fast.tw3388826272623727057 : Unit := ()
def PySem.W.Fast.tw2664225005946112216 : Unit := ()
def PySem.W.Fast.tw4528273718890197209 : Unit := ()
def PySem.W.Fast.tw9221629377456926069 : Unit := ()
def PySem.W.Fast.tw14394970891924583362 : Unit := ()
def PySem.W.Fast.tw12124560726476847702 : Unit := ()
def PySem.W.Fast.tw257559107400501183 : Unit := ()
def PySem.W.Fast.tw14374582113091354792 : Unit := ()
def PySem.W.Fast.tw11125608906069136779 : Unit := ()
def PySem.W.Fast.tw7704714955434959149 : Unit := ()
def PySem.W.Fast.tw10360134056687897431 : Unit := ()
def PySem.W.Fast.tw6897687672498979415 : Unit := ()
def PySem.W.Fast.tw88046198141145809 : Unit := ()
def PySem.W.Fast.tw12537234296930281497 : Unit := ()
def PySem.W.Fast.tw5209687199992925827 : Unit := ()
def PySem.W.Fast.tw1339223424416016502 : Unit := ()
def PySem.W.Fast.tw7897144446246119587 : Unit := ()
def PySem.W.Fast.tw1231351686002353269 : Unit := ()
def PySem.W.Fast.tw17836144350328122558 : Unit := ()
def PySem.W.Fast.tw10098082914776002612 : Unit := ()
def PySem.W.Fast.tw16498194142628027522 : Unit := ()
def PySem.W.Fast.tw7026368365922070245 : Unit := ()
def PySem.W.Fast.tw1902433603595129675 : Unit := ()
def PySem.W.Fast.tw1607845751407619560 : Unit := ()
def PySem.W.Fast.tw2301818898177250109 : Unit := ()
def PySem.W.Fast.tw4146229860178851583 : Unit := ()
def PySem.W.Fast.tw3436090977193372498 : Unit := ()
def PySem.W.Fast.tw12228394305078109261 : Unit := ()
def PySem.W.Fast.tw7406329890719353043 : Unit := ()
def PySem.W.Fast.tw12669156219043192676 : Unit := ()
def PySem.W.Fast.tw10953763262050538649 : Unit := ()
def PySem.W.Fast.tw10583092203534219722 : Unit := ()
def PySem.W.Fast.tw2150615413941805560 : Unit := ()
def PySem.W.Fast.tw5257841454073277184 : Unit := ()
def PySem.W.Fast.tw15229577309372078415 : Unit := ()
def PySem.W.Fast.tw14439730504353996460 : Unit := ()
def PySem.W.Fast.tw14401106340505204881 : Unit := ()
def PySem.W.Fast.tw3247474165278531546 : Unit := ()
def PySem.W.Fast.tw4555831469077896317 : Unit := ()
def PySem.W.Fast.tw584916445326530960 : Unit := ()
def PySem.W.Fast.tw12851549889127992296 : Unit := ()
def PySem.W.Fast.tw5543447432334667803 : Unit := ()
def PySem.W.Fast.tw12731484142536169993 : Unit := ()
def PySem.W.Fast.tw16397742129536734873 : Unit := ()
def PySem.W.Fast.tw2007960288574874766 : Unit := ()
def PySem.W.Fast.tw13367075518565385498 : Unit := ()
def PySem.W.Fast.tw1410780434035696487 : Unit := ()
def PySem.W.Fast.tw7915695594212463460 : Unit := ()
def PySem.W.Fast.tw16428336137019614954 : Unit := ()
def PySem.W.Fast.tw9074393177407830048 : Unit := ()
def PySem.W.Fast.tw12476430607355018822 : Unit := ()
def PySem.W.Fast.tw16825411635868218555 : Unit := ()
def PySem.W.Fast.tw8949136172723102813 : Unit := ()
def PySem.W.Fast.tw7275626588124835408 : Unit := ()
def PySem.W.Fast.tw16358403149046882010 : Unit := ()
def PySem.W.Fast.tw3617663525001155624 : Unit := ()
def PySem.W.Fast.tw10618122771918775630 : Unit := ()
def PySem.W.Fast.tw14007930434446729343 : Unit := ()
def PySem.W.Fast.tw5195142928268207242 : Unit := ()
def PySem.W.Fast.tw9843809672067146618 : Unit := ()
def PySem.W.Fast.tw4507328356409552827 : Unit := ()
def PySem.W.Fast.tw863164631092555166 : Unit := ()
def PySem.W.Fast.tw1263642281810747385 : Unit := ()
def PySem.W.Fast.tw3396113235672520201 : Unit := ()
def PySem.W.Fast.tw10014597963651036204 : Unit := ()
def PySem.W.Fast.tw9694867678950216883 : Unit := ()
def PySem.W.Fast.tw5757643565559571408 : Unit := ()
def PySem.W.Fast.tw5594761370887700447 : Unit := ()
def PySem.W.Fast.tw17715242372462112411 : Unit := ()
def PySem.W.Fast.tw5488339101245485889 : Unit := ()
def PySem.W.Fast.tw18168244194586899362 : Unit := ()
def PySem.W.Fast.tw705267338584285968 : Unit := ()
def PySem.W.Fast.tw17368390115520942128 : Unit := ()
def PySem.W.Fast.tw6509171872915262969 : Unit := ()
def PySem.W.Fast.tw10570901823788785751 : Unit := ()
def PySem.W.Fast.tw10753947485271790303 : Unit := ()
def PySem.W.Fast.tw2757145822814616680 : Unit := ()
def PySem.W.Fast.tw8614257701559283597 : Unit := ()
def PySem.W.Fast.tw4032109600446587100 : Unit := ()
def PySem.W.Fast.tw6577966212876443700 : Unit := ()
def PySem.W.Fast.tw9429036660788910602 : Unit := ()
def PySem.W.Fast.tw8095872461309645507 : Unit := ()
def PySem.W.Fast.tw18410550767579731963 : Unit := ()
def PySem.W.Fast.tw12989480511067331144 : Unit := ()
def PySem.W.Fast.tw8829832910733315156 : Unit := ()
def PySem.W.Fast.tw4471679337030989559 : Unit := ()
def PySem.W.Fast.tw14778764400896342240 : Unit := ()
def PySem.W.Fast.tw14100125997086105599 : Unit := ()
def PySem.W.Fast.tw13767207680191569373 : Unit := ()
def PySem.W.Fast.tw1310725560302586117 : Unit := ()
def PySem.W.Fast.tw2627759999950618398 : Unit := ()
def PySem.W.Fast.tw2361351692350234521 : Unit := ()
def PySem.W.Fast.tw9481252335950368462 : Unit := ()
def PySem.W.Fast.tw9492662624446338228 : Unit := ()
def PySem.W.Fast.tw12666197141355538079 : Unit := ()
def PySem.W.Fast.tw8121049130166308847 : Unit := ()
def PySem.W.Fast.tw9760477211737302214 : Unit := ()
def PySem.W.Fast.tw17441435921935370080 : Unit := ()
def PySem.W.Fast.tw15920574591391093284 : Unit := ()
def PySem.W.Fast.tw16108711246694795559 : Unit := ()
def PySem.W.Fast.tw16429932238381989509 : Unit := ()
def PySem.W.Fast.tw10376616810938774263 : Unit := ()
def PySem.W.Fast.tw18010163612827746443 : Unit := ()
def PySem.W.Fast.tw6579461702047504806 : Unit := ()
def PySem.W.Fast.tw7230623003879530508 : Unit := ()
def PySem.W.Fast.tw13968941054513057592 : Unit := ()
def PySem.W.Fast.tw2503475322477260355 : Unit := ()
def PySem.W.Fast.tw15412974483973254966 : Unit := ()
def PySem.W.Fast.tw14738526534918101526 : Unit := ()
def PySem.W.Fast.tw2795811787728015519 : Unit := ()
def PySem.W.Fast.tw7899184477075712615 : Unit := ()
def PySem.W.Fast.tw15391423347783323888 : Unit := ()
def PySem.W.Fast.tw12675843122376972103 : Unit := ()
def PySem.W.Fast.tw14191024450584827737 : Unit := ()
def PySem.W.Fast.tw4841911775148545197 : Unit := ()
def PySem.W.Fast.tw3585230340266979738 : Unit := ()
def PySem.W.Fast.tw3854268115596391847 : Unit := ()
def PySem.W.Fast.tw17857016525279922834 : Unit := ()
def PySem.W.Fast.tw12190843061345432187 : Unit := ()
def PySem.W.Fast.tw13505712856929436825 : Unit := ()
def PySem.W.Fast.tw2869615393371417033 : Unit := ()
def PySem.W.Fast.tw6187983065767889514 : Unit := ()
def PySem.W.Fast.tw12773129493378852331 : Unit := ()
def PySem.W.Fast.tw13327880118254101630 : Unit := ()
def PySem.W.Fast.tw5060263907282874176 : Unit := ()
def PySem.W.Fast.tw8721101717283452528 : Unit := ()
def PySem.W.Fast.tw10798316167700589666 : Unit := ()
def PySem.W.Fast.tw1536421780310840816 : Unit := ()
def PySem.W.Fast.tw18220422214276519742 : Unit := ()
def PySem.W.Fast.tw16853277923008818376 : Unit := ()
def PySem.W.Fast.tw1403874308176884680 : Unit := ()
def PySem.W.Fast.tw733437743023431390 : Unit := ()
def PySem.W.Fast.tw4375251963469993999 : Unit := ()
def PySem.W.Fast.tw13902795044367425844 : Unit := ()
def PySem.W.Fast.tw5241633904273942212 : Unit := ()
def PySem.W.Fast.tw17215686522691550450 : Unit := ()
def PySem.W.Fast.tw11752900582388396617 : Unit := ()
def PySem.W.Fast.tw7258626601999334260 : Unit := ()
def PySem.W.Fast.tw9224374799049136934 : Unit := ()
def PySem.W.Fast.tw818023279189084407 : Unit := ()
def PySem.W.Fast.tw16888589657061706577 : Unit := ()
def PySem.W.Fast.tw16588374903277368382 : Unit := ()
def PySem.W.Fast.tw10659023717016234350 : Unit := ()
def PySem.W.Fast.tw9998414513503658764 : Unit := ()
def PySem.W.Fast.tw16410314124784460538 : Unit := ()
def PySem.W.Fast.tw2019283592124771165 : Unit := ()
def PySem.W.Fast.tw5926914040283150006 : Unit := ()
def PySem.W.Fast.tw7720613624615102839 : Unit := ()
def PySem.W.Fast.tw14437848407044035351 : Unit := ()
def PySem.W.Fast.tw3505476172471670675 : Unit := ()
def PySem.W.Fast.tw10745784136085824413 : Unit := ()
def PySem.W.Fast.tw7704865897588488742 : Unit := ()
def PySem.W.Fast.tw7294335852797736715 : Unit := ()
def PySem.W.Fast.tw16375565683524337151 : Unit := ()
def PySem.W.Fast.tw11395949737796500434 : Unit := ()
def PySem.W.Fast.tw7874350543085718493 : Unit := ()
def PySem.W.Fast.tw11478990044023643936 : Unit := ()
def PySem.W.Fast.tw1003580352695698424 : Unit := ()
def PySem.W.Fast.tw14379925278720699690 : Unit := ()
def PySem.W.Fast.tw13702531745041829306 : Unit := ()
def PySem.W.Fast.tw18004189823234072 : Unit := ()
def PySem.W.Fast.tw6763729369984589507 : Unit := ()
def PySem.W.Fast.tw6450425505604776123 : Unit := ()
def PySem.W.Fast.tw5685330295789216160 : Unit := ()
def PySem.W.Fast.tw17492034000255290701 : Unit := ()
def PySem.W.Fast.tw12664439451446808435 : Unit := ()
def PySem.W.Fast.tw17245294403226484651 : Unit := ()
def PySem.W.Fast.tw9586306538645401151 : Unit := ()
def PySem.W.Fast.tw3420067414356310219 : Unit := ()
def PySem.W.Fast.tw9253298358296620800 : Unit := ()
def PySem.W.Fast.tw2161044026033143196 : Unit := ()
def PySem.W.Fast.tw8458204704206970634 : Unit := ()
def PySem.W.Fast.tw11843064117345496855 : Unit := ()
def PySem.W.Fast.tw17366229622900568743 : Unit := ()
def PySem.W.Fast.tw2044455706515299052 : Unit := ()
def PySem.W.Fast.tw1679484743166488979 : Unit := ()
def PySem.W.Fast.tw10168417824500448629 : Unit := ()
def PySem.W.Fast.tw6520606772599376383 : Unit := ()
def PySem.W.Fast.tw11154461519604444142 : Unit := ()
def PySem.W.Fast.tw1144239366618919892 : Unit := ()
def PySem.W.Fast.tw5496576765410270422 : Unit := ()
def PySem.W.Fast.tw7745902048860162968 : Unit := ()
def PySem.W.Fast.tw13821395934103637482 : Unit := ()
def PySem.W.Fast.tw12277354759764334609 : Unit := ()
def PySem.W.Fast.tw1841126158162318552 : Unit := ()
def PySem.W.Fast.tw6578027138163877367 : Unit := ()
def PySem.W.Fast.tw17065198937646725548 : Unit := ()
def PySem.W.Fast.tw5239158690714151677 : Unit := ()
def PySem.W.Fast.tw16707530789499374868 : Unit := ()
def PySem.W.Fast.tw12092622190330633881 : Unit := ()
def PySem.W.Fast.tw16825366565652436711 : Unit := ()
def PySem.W.Fast.tw5836547255300021888 : Unit := ()
def PySem.W.Fast.tw13177095107904494234 : Unit := ()
def PySem.W.Fast.tw16996092429536803777 : Unit := ()
def PySem.W.Fast.tw575534997041102218 : Unit := ()
def PySem.W.Fast.tw2209918354910269177 : Unit := ()
def PySem.W.Fast.tw3706495091192937528 : Unit := ()
def PySem.W.Fast.tw15134233552421306914 : Unit := ()
def PySem.W.Fast.tw8904888421213702568 : Unit := ()
def PySem.W.Fast.tw7237652740999361691 : Unit := ()
def PySem.W.Fast.tw15309125614146804168 : Unit := ()
def PySem.W.Fast.tw17369798525352092272 : Unit := ()
def PySem.W.Fast.tw15954019717989412509 : Unit := ()
def PySem.W.Fast.tw10204981474673376676 : Unit := ()
def PySem.W.Fast.tw3672945367530767219 : Unit := ()
def PySem.W.Fast.tw16041004676066386135 : Unit := ()
def PySem.W.Fast.tw15924078242470375944 : Unit := ()
def PySem.W.Fast.tw10865674766451637212 : Unit := ()
def PySem.W.Fast.tw3054851302223120500 : Unit := ()
def PySem.W.Fast.tw6616478251572175946 : Unit := ()
def PySem.W.Fast.tw14962664947472949099 : Unit := ()
def PySem.W.Fast.tw13265613001899695377 : Unit := ()
def PySem.W.Fast.tw11130226350476574943 : Unit := ()
def PySem.W.Fast.tw16099828880013048056 : Unit := ()
def PySem.W.Fast.tw3895958587484269074 : Unit := ()
def PySem.W.Fast.tw11462557695911127167 : Unit := ()
def PySem.W.Fast.tw16496339694778435647 : Unit := ()
def PySem.W.Fast.tw11848319492323541045 : Unit := ()
def PySem.W.Fast.tw15373764695597299909 : Unit := ()
def PySem.W.Fast.tw18351407783950173083 : Unit := ()
def PySem.W.Fast.tw54724418481299604 : Unit := ()
def PySem.W.Fast.tw5580984266920082637 : Unit := ()
def PySem.W.Fast.tw5282250751916140721 : Unit := ()
def PySem.W.Fast.tw1421748967288617522 : Unit := ()
def PySem.W.Fast.tw5044677366794707322 : Unit := ()
def PySem.W.Fast.tw3080194654808164666 : Unit := ()
def PySem.W.Fast.tw13101520584528407443 : Unit := ()
def PySem.W.Fast.tw9432781363026859337 : Unit := ()
def PySem.W.Fast.tw1747650103853162104 : Unit := ()
def PySem.W.Fast.tw1030908644375461718 : Unit := ()
def PySem.W.Fast.tw5266133361387560579 : Unit := ()
def PySem.W.Fast.tw4619960187393266571 : Unit := ()
def PySem.W.Fast.tw7487299490860904795 : Unit := ()
def PySem.W.Fast.tw8581790978962193102 : Unit := ()
def PySem.W.Fast.tw16406759900327682342 : Unit := ()
def PySem.W.Fast.tw17225079687769189292 : Unit := ()
def PySem.W.Fast.tw3402556749468283724 : Unit := ()
def PySem.W.Fast.tw12072259040533955189 : Unit := ()
def PySem.W.Fast.tw18015648712138593853 : Unit := ()
def PySem.W.Fast.tw5529225886939080251 : Unit := ()
def PySem.W.Fast.tw3822548485295073046 : Unit := ()
def PySem.W.Fast.tw10381134876057040744 : Unit := ()
def PySem.W.Fast.tw17197455528851615098 : Unit := ()
def PySem.W.Fast.tw10152731683938569237 : Unit := ()
def PySem.W.Fast.tw1837339623379652109 : Unit := ()
def PySem.W.Fast.tw12797972813369429472 : Unit := ()
def PySem.W.Fast.tw13661784283734189120 : Unit := ()
def PySem.W.Fast.tw3510110739651176065 : Unit := ()
def PySem.W.Fast.tw1180480657294427228 : Unit := ()
def PySem.W.Fast.tw17864559379892360256 : Unit := ()
def PySem.W.Fast.tw8381205547856232628 : Unit := ()
def PySem.W.Fast.tw5604078083506621967 : Unit := ()
def PySem.W.Fast.tw7096445033973064755 : Unit := ()
def PySem.W.Fast.tw8976132874577740002 : Unit := ()
def PySem.W.Fast.tw3062628745324711101 : Unit := ()
def PySem.W.Fast.tw6932254730065798709 : Unit := ()
def PySem.W.Fast.tw8561262901823000382 : Unit := ()
def PySem.W.Fast.tw8826135290401999216 : Unit := ()
def PySem.W.Fast.tw8742142735950291775 : Unit := ()
def PySem.W.Fast.tw13140364882825103335 : Unit := ()
def PySem.W.Fast.tw914018472510681649 : Unit := ()
def PySem.W.Fast.tw16663456045777057406 : Unit := ()
def PySem.W.Fast.tw13353124089925918186 : Unit := ()
def PySem.W.Fast.tw11336874010138121574 : Unit := ()
def PySem.W.Fast.tw13125204416567766937 : Unit := ()
def PySem.W.Fast.tw6341939251899431112 : Unit := ()
def PySem.W.Fast.tw15356801530969986097 : Unit := ()
def PySem.W.Fast.tw6962637811486317527 : Unit := ()
def PySem.W.Fast.tw8703201525739943825 : Unit := ()
def PySem.W.Fast.tw11295971305212555847 : Unit := ()
def PySem.W.Fast.tw11929310600501384672 : Unit := ()
def PySem.W.Fast.tw3133388273554990969 : Unit := ()
def PySem.W.Fast.tw5084975000818231812 : Unit := ()
def PySem.W.Fast.tw14103668979443715620 : Unit := ()
def PySem.W.Fast.tw1917891933398145602 : Unit := ()
def PySem.W.Fast.tw7286198003272598116 : Unit := ()
def PySem.W.Fast.tw1846567537935106693 : Unit := ()
def PySem.W.Fast.tw18058289417040109259 : Unit := ()
def PySem.W.Fast.tw7701291996641760850 : Unit := ()
def PySem.W.Fast.tw4380632172916149718 : Unit := ()
def PySem.W.Fast.tw11735572635967956592 : Unit := ()
def PySem.W.Fast.tw8107926125481105422 : Unit := ()
def PySem.W.Fast.tw6517077879568644679 : Unit := ()
def PySem.W.Fast.tw5961346443998992295 : Unit := ()
def PySem.W.Fast.tw686641610201751675 : Unit := ()
def PySem.W.Fast.tw14040135967516944748 : Unit := ()
def PySem.W.Fast.tw6789568875120504824 : Unit := ()
def PySem.W.Fast.tw7159362269581169 : Unit := ()
def PySem.W.Fast.tw4272283568408078871 : Unit := ()
def PySem.W.Fast.tw269957822730328414 : Unit := ()
def PySem.W.Fast.tw9894691397430802320 : Unit := ()
def PySem.W.Fast.tw373928222901447655 : Unit := ()
def PySem.W.Fast.tw1177792932996906489 : Unit := ()
def PySem.W.Fast.tw15977333567591467124 : Unit := ()
def PySem.W.Fast.tw16399018588437710207 : Unit := ()
def PySem.W.Fast.tw13748730079742827983 : Unit := ()
def PySem.W.Fast.tw2598600932046309610 : Unit := ()
def PySem.W.Fast.tw7252145258706128590 : Unit := ()
def PySem.W.Fast.tw17430277405240324552 : Unit := ()
def PySem.W.Fast.tw15848170070437396588 : Unit := ()
def PySem.W.Fast.tw1862639752186563709 : Unit := ()
def PySem.W.Fast.tw1322934851237514324 : Unit := ()
def PySem.W.Fast.tw12170345516145319057 : Unit := ()
def PySem.W.Fast.tw6719474264394122727 : Unit := ()
def PySem.W.Fast.tw8109885937246413840 : Unit := ()
def PySem.W.Fast.tw12190105948369809349 : Unit := ()
def PySem.W.Fast.tw8483528616145660963 : Unit := ()
def PySem.W.Fast.tw9065557976314915594 : Unit := ()
def PySem.W.Fast.tw12644210935856710009 : Unit := ()
def PySem.W.Fast.tw3828654607082277539 : Unit := ()
def PySem.W.Fast.tw1295673596095771935 : Unit := ()
def PySem.W.Fast.tw13611817806179727864 : Unit := ()
def PySem.W.Fast.tw17713173460388110031 : Unit := ()
def PySem.W.Fast.tw14129560000101910970 : Unit := ()
def PySem.W.Fast.tw4990924054616276220 : Unit := ()
def PySem.W.Fast.tw12773546286141311230 : Unit := ()
def PySem.W.Fast.tw871851498838795677 : Unit := ()
def PySem.W.Fast.tw7521325030180268823 : Unit := ()
def PySem.W.Fast.tw2688561771039635141 : Unit := ()
def PySem.W.Fast.tw13771229929067875678 : Unit := ()
def PySem.W.Fast.tw4923598455337742580 : Unit := ()
def PySem.W.Fast.tw16347688101385451657 : Unit := ()
def PySem.W.Fast.tw8611706704731203644 : Unit := ()
def PySem.W.Fast.tw9364260160427711664 : Unit := ()
def PySem.W.Fast.tw2009163320526866649 : Unit := ()
def PySem.W.Fast.tw1222989796142864859 : Unit := ()
def PySem.W.Fast.tw1453942097811891958 : Unit := ()
def PySem.W.Fast.tw14165630395038560219 : Unit := ()
def PySem.W.Fast.tw7538079872182648988 : Unit := ()
def PySem.W.Fast.tw335130295790348498 : Unit := ()
def PySem.W.Fast.tw17841780785339801730 : Unit := ()
def PySem.W.Fast.tw8790222118251831617 : Unit := ()
def PySem.W.Fast.tw7587006613163069054 : Unit := ()
def PySem.W.Fast.tw16168522231389999747 : Unit := ()
def PySem.W.Fast.tw4152328572911159551 : Unit := ()
def PySem.W.Fast.tw16163249660165139788 : Unit := ()
def PySem.W.Fast.tw7375276959387105355 : Unit := ()
def PySem.W.Fast.tw2193748385176170663 : Unit := ()
def PySem.W.Fast.tw5804854762130674950 : Unit := ()
def PySem.W.Fast.tw7399826572509433272 : Unit := ()
def PySem.W.Fast.tw2647701228322034830 : Unit := ()
def PySem.W.Fast.tw12521716146020900073 : Unit := ()
def PySem.W.Fast.tw16663949669481902743 : Unit := ()
def PySem.W.Fast.tw4107746535603125238 : Unit := ()
def PySem.W.Fast.tw15297921137624537369 : Unit := ()
def PySem.W.Fast.tw856234793178307109 : Unit := ()
def PySem.W.Fast.tw1576770161617881633 : Unit := ()
def PySem.W.Fast.tw9130544743311784381 : Unit := ()
def PySem.W.Fast.tw14361097820687238196 : Unit := ()
def PySem.W.Fast.tw2976532365214106180 : Unit := ()
def PySem.W.Fast.tw4788447340899940422 : Unit := ()
def PySem.W.Fast.tw14864714363521562822 : Unit := ()
def PySem.W.Fast.tw13237738573583645243 : Unit := ()
def PySem.W.Fast.tw5840051342586835989 : Unit := ()
def PySem.W.Fast.tw13286850014928569579 : Unit := ()
def PySem.W.Fast.tw16023932709090026325 : Unit := ()
def PySem.W.Fast.tw3468213378113137024 : Unit := ()
def PySem.W.Fast.tw14139015145904344087 : Unit := ()
def PySem.W.Fast.tw15059451837008865896 : Unit := ()
def PySem.W.Fast.tw7198666896815578388 : Unit := ()
def PySem.W.Fast.tw33796280062416066 : Unit := ()
def PySem.W.Fast.tw11171503258239502770 : Unit := ()
def PySem.W.Fast.tw17075357219347873031 : Unit := ()
def PySem.W.Fast.tw32299466354492157 : Unit := ()
def PySem.W.Fast.tw9108994066663186253 : Unit := ()
def PySem.W.Fast.tw3135189349500253484 : Unit := ()
def PySem.W.Fast.tw18055513328799838983 : Unit := ()
def PySem.W.Fast.tw11189483629235699166 : Unit := ()
def PySem.W.Fast.tw16995710091464503113 : Unit := ()
def PySem.W.Fast.tw6147862034234943616 : Unit := ()
def PySem.W.Fast.tw546069711108898785 : Unit := ()
def PySem.W.Fast.tw3829947532441154220 : Unit := ()
def PySem.W.Fast.tw2037931619563034161 : Unit := ()
def PySem.W.Fast.tw5694258894897526487 : Unit := ()
def PySem.W.Fast.tw3610598653418832640 : Unit := ()
def PySem.W.Fast.tw8822486150248132937 : Unit := ()
def PySem.W.Fast.tw9939441544412073293 : Unit := ()
def PySem.W.Fast.tw18352715836213624439 : Unit := ()
def PySem.W.Fast.tw1297398810901393523 : Unit := ()
def PySem.W.Fast.tw2349665969364240828 : Unit := ()
def PySem.W.Fast.tw5752750475787259407 : Unit := ()
def PySem.W.Fast.tw10275688381516989298 : Unit := ()
def PySem.W.Fast.tw6180272821002167151 : Unit := ()
def PySem.W.Fast.tw17515274310858443359 : Unit := ()
def PySem.W.Fast.tw10675232929228289487 : Unit := ()
def PySem.W.Fast.tw13862593123155983000 : Unit := ()
def PySem.W.Fast.tw16964963292110766961 : Unit := ()
def PySem.W.Fast.tw14929308465026831006 : Unit := ()
def PySem.W.Fast.tw6021190220105819260 : Unit := ()
def PySem.W.Fast.tw16460474247126483939 : Unit := ()
def PySem.W.Fast.tw7500175815637174891 : Unit := ()
def PySem.W.Fast.tw5811431035004418612 : Unit := ()
def PySem.W.Fast.tw17354591078892557013 : Unit := ()
def PySem.W.Fast.tw18354388732619645453 : Unit := ()
def PySem.W.Fast.tw9696246351503431671 : Unit := ()
def PySem.W.Fast.tw5098490494560310881 : Unit := ()
def PySem.W.Fast.tw7131000454409975497 : Unit := ()
def PySem.W.Fast.tw8982120436571316275 : Unit := ()
def PySem.W.Fast.tw4859736509427597040 : Unit := ()
def PySem.W.Fast.tw10645936853643216755 : Unit := ()
def PySem.W.Fast.tw5200179640922168952 : Unit := ()
def PySem.W.Fast.tw2280332997266269960 : Unit := ()
def PySem.W.Fast.tw11477136751683378634 : Unit := ()
def PySem.W.Fast.tw7701017876484236994 : Unit := ()
def PySem.W.Fast.tw2723928692285058933 : Unit := ()
def PySem.W.Fast.tw4929390336009095799 : Unit := ()
def PySem.W.Fast.tw10874431262021554370 : Unit := ()
def PySem.W.Fast.tw3674366539973879994 : Unit := ()
def PySem.W.Fast.tw7545457397603464638 : Unit := ()
def PySem.W.Fast.tw3153047620308031631 : Unit := ()
def PySem.W.Fast.tw3794701371079572328 : Unit := ()
def PySem.W.Fast.tw14616096631145795151 : Unit := ()
def PySem.W.Fast.tw15597082028616991392 : Unit := ()
def PySem.W.Fast.tw15104795506281583948 : Unit := ()
def PySem.W.Fast.tw3890011311234846852 : Unit := ()
def PySem.W.Fast.tw10720225811173453620 : Unit := ()
namespace My
open PySem PySem.Spec PyProof.Rows L2
/-! ### the text by places -/
def top (i : Nat) : Stmt := PySem.Challenge.pw_patchover_k53_cheapest_ways.main.body.getD i (.Pass ⟨0, 0, 0, 0⟩)
abbrev s_wall : Stmt := top 1
theorem sc_wall : FnScope ["k"] ["k"] (defScope s_wall) := ⟨rfl, rfl, rfl, by decide +kernel, rfl, by decide +kernel, by decide +kernel⟩
abbrev s_bytes_of : Stmt := top 15
theorem sc_bytes_of : FnScope ["numbers", "number"] ["numbers"] (defScope s_bytes_of) := ⟨rfl, rfl, rfl, by decide +kernel, rfl, by decide +kernel, by decide +kernel⟩
abbrev s_is_number : Stmt := top 17
theorem sc_is_number : FnScope ["what", "least", "most"] ["what", "least", "most"] (defScope s_is_number) := ⟨rfl, rfl, rfl, by decide +kernel, rfl, by decide +kernel, by decide +kernel⟩
abbrev s_can_be : Stmt := top 18
theorem sc_can_be : FnScope ["piece", "word", "some", "first", "many"] ["piece"] (defScope s_can_be) := ⟨rfl, rfl, rfl, by decide +kernel, rfl, by decide +kernel, by decide +kernel⟩
abbrev s_length_of : Stmt := top 19
theorem sc_length_of : FnScope ["piece"] ["piece"] (defScope s_length_of) := ⟨rfl, rfl, rfl, by decide +kernel, rfl, by decide +kernel, by decide +kernel⟩
abbrev s_check_edition : Stmt := top 20
theorem sc_check_edition : FnScope ["edition"] ["edition"] (defScope s_check_edition) := ⟨rfl, rfl, rfl, by decide +kernel, rfl, by decide +kernel, by decide +kernel⟩
abbrev s_check_patch : Stmt := top 21
theorem sc_check_patch : FnScope ["patch", "total", "at", "piece"] ["patch"] (defScope s_check_patch) := ⟨rfl, rfl, rfl, by decide +kernel, rfl, by decide +kernel, by decide +kernel⟩
abbrev s_size : Stmt := top 26
theorem sc_size : FnScope ["patch", "piece"] ["patch"] (defScope s_size) := ⟨rfl, rfl, rfl, by decide +kernel, rfl, by decide +kernel, by decide +kernel⟩
abbrev s_number_size : Stmt := top 27
theorem sc_number_size : FnScope ["number"] ["number"] (defScope s_number_size) := ⟨rfl, rfl, rfl, by decide +kernel, rfl, by decide +kernel, by decide +kernel⟩
abbrev s_first_number : Stmt := top 28
theorem sc_first_number : FnScope ["piece"] ["piece"] (defScope s_first_number) := ⟨rfl, rfl, rfl, by decide +kernel, rfl, by decide +kernel, by decide +kernel⟩
abbrev s_piece_size : Stmt := top 29
theorem sc_piece_size : FnScope ["piece", "many"] ["piece"] (defScope s_piece_size) := ⟨rfl, rfl, rfl, by decide +kernel, rfl, by decide +kernel, by decide +kernel⟩
abbrev s_way : Stmt := top 32
theorem sc_way : FnScope ["shop", "one", "other", "between", "name", "sizes", "many", "_", "names", "number", "some"] ["shop", "one", "other"] (defScope s_way) := ⟨rfl, rfl, rfl, by decide +kernel, rfl, by decide +kernel, by decide +kernel⟩
abbrev s_far : Stmt := top 33
theorem sc_far : FnScope ["shop", "name", "most", "sizes", "found", "at", "other"] ["shop", "name", "most"] (defScope s_far) := ⟨rfl, rfl, rfl, by decide +kernel, rfl, by decide +kernel, by decide +kernel⟩
abbrev s_sizes_of : Stmt := top 34
theorem sc_sizes_of : FnScope ["shop", "names", "one", "other"] ["shop"] (defScope s_sizes_of) := ⟨rfl, rfl, rfl, by decide +kernel, rfl, by decide +kernel, by decide +kernel⟩
abbrev s_way_by : Stmt := top 35
theorem sc_way_by : FnScope ["names", "sizes", "many", "pair"] ["names", "sizes"] (defScope s_way_by) := ⟨rfl, rfl, rfl, by decide +kernel, rfl, by decide +kernel, by decide +kernel⟩
abbrev s_least : Stmt := top 37
theorem sc_least : FnScope ["old", "new", "sizes", "firsts", "at", "piece"] ["old", "new"] (defScope s_least) := ⟨rfl, rfl, rfl, by decide +kernel, rfl, by decide +kernel, by decide +kernel⟩
abbrev s_one_behind_the_other : Stmt := top 38
theorem sc_one_behind_the_other : FnScope ["firsts", "patch", "at"] ["firsts"] (defScope s_one_behind_the_other) := ⟨rfl, rfl, rfl, by decide +kernel, rfl, by decide +kernel, by decide +kernel⟩
abbrev s_next_pieces : Stmt := top 39
theorem sc_next_pieces : FnScope ["old", "new", "at", "found", "end"] ["old", "new", "at"] (defScope s_next_pieces) := ⟨rfl, rfl, rfl, by decide +kernel, rfl, by decide +kernel, by decide +kernel⟩
abbrev s_next_copies : Stmt := top 40
theorem sc_next_copies : FnScope ["old", "new", "at", "found", "end", "begin"] ["old", "new", "at"] (defScope s_next_copies) := ⟨rfl, rfl, rfl, by decide +kernel, rfl, by decide +kernel, by decide +kernel⟩
abbrev s_next_runs : Stmt := top 41
theorem sc_next_runs : FnScope ["new", "at", "found", "end"] ["new", "at"] (defScope s_next_runs) := ⟨rfl, rfl, rfl, by decide +kernel, rfl, by decide +kernel, by decide +kernel⟩
abbrev s_hangs : Stmt := top 43
theorem sc_hangs : FnScope ["patch", "writers", "found", "one", "cell", "other"] ["patch"] (defScope s_hangs) := ⟨rfl, rfl, rfl, by decide +kernel, rfl, by decide +kernel, by decide +kernel⟩
abbrev s_starts : Stmt := top 44
theorem sc_starts : FnScope ["patch", "told", "cell", "piece"] ["patch"] (defScope s_starts) := ⟨rfl, rfl, rfl, by decide +kernel, rfl, by decide +kernel, by decide +kernel⟩
abbrev s_moving : Stmt := top 45
theorem sc_moving : FnScope ["patch", "at", "piece", "start"] ["patch"] (defScope s_moving) := ⟨rfl, rfl, rfl, by decide +kernel, rfl, by decide +kernel, by decide +kernel⟩
abbrev s_writers_of : Stmt := top 46
theorem sc_writers_of : FnScope ["patch", "begins", "told", "at", "cell"] ["patch"] (defScope s_writers_of) := ⟨rfl, rfl, rfl, by decide +kernel, rfl, by decide +kernel, by decide +kernel⟩
abbrev s_cells_read : Stmt := top 47
theorem sc_cells_read : FnScope ["piece"] ["piece"] (defScope s_cells_read) := ⟨rfl, rfl, rfl, by decide +kernel, rfl, by decide +kernel, by decide +kernel⟩
abbrev s_hung_from : Stmt := top 48
theorem sc_hung_from : FnScope ["patch", "pairs", "told", "piece", "one", "other"] ["patch"] (defScope s_hung_from) := ⟨rfl, rfl, rfl, by decide +kernel, rfl, by decide +kernel, by decide +kernel⟩
abbrev s_lightest : Stmt := top 51
theorem sc_lightest : FnScope ["patch", "others", "found", "knot", "pieces", "piece"] ["patch"] (defScope s_lightest) := ⟨rfl, rfl, rfl, by decide +kernel, rfl, by decide +kernel, by decide +kernel⟩
abbrev s_knots : Stmt := top 52
theorem sc_knots : FnScope ["others", "behind", "piece", "found", "first", "knot", "other"] ["others"] (defScope s_knots) := ⟨rfl, rfl, rfl, by decide +kernel, rfl, by decide +kernel, by decide +kernel⟩
abbrev s_reached : Stmt := top 53
theorem sc_reached : FnScope ["others", "first", "known", "left", "one", "other"] ["others", "first"] (defScope s_reached) := ⟨rfl, rfl, rfl, by decide +kernel, rfl, by decide +kernel, by decide +kernel⟩
abbrev s_lightest_of : Stmt := top 54
theorem sc_lightest_of : FnScope ["knot", "others", "weights", "free", "piece", "totals", "weight", "total", "most", "lot", "at"] ["knot", "others", "weights"] (defScope s_lightest_of) := ⟨rfl, rfl, rfl, by decide +kernel, rfl, by decide +kernel, by decide +kernel⟩
abbrev s_bits_of : Stmt := top 55
theorem sc_bits_of : FnScope ["knot", "pieces", "at", "piece"] ["knot", "pieces"] (defScope s_bits_of) := ⟨rfl, rfl, rfl, by decide +kernel, rfl, by decide +kernel, by decide +kernel⟩
abbrev s_lots_without_rings : Stmt := top 56
theorem sc_lots_without_rings : FnScope ["nexts", "free", "lot"] ["nexts"] (defScope s_lots_without_rings) := ⟨rfl, rfl, rfl, by decide +kernel, rfl, by decide +kernel, by decide +kernel⟩
abbrev s_is_free : Stmt := top 57
theorem sc_is_free : FnScope ["lot", "nexts", "free", "at", "hung"] ["lot", "nexts", "free"] (defScope s_is_free) := ⟨rfl, rfl, rfl, by decide +kernel, rfl, by decide +kernel, by decide +kernel⟩
abbrev s_is_lettered : Stmt := top 61
theorem sc_is_lettered : FnScope ["word", "letter"] ["word"] (defScope s_is_lettered) := ⟨rfl, rfl, rfl, by decide +kernel, rfl, by decide +kernel, by decide +kernel⟩
abbrev s_check_name : Stmt := top 62
theorem sc_check_name : FnScope ["name"] ["name"] (defScope s_check_name) := ⟨rfl, rfl, rfl, by decide +kernel, rfl, by decide +kernel, by decide +kernel⟩
abbrev s_without : Stmt := top 66
theorem sc_without : FnScope ["table", "name", "other", "worth"] ["table", "name"] (defScope s_without) := ⟨rfl, rfl, rfl, by decide +kernel, rfl, by decide +kernel, by decide +kernel⟩
abbrev s_law_taken : Stmt := top 68
theorem sc_law_taken : FnScope ["_law_row", "_law_many", "_law_found", "_law_cell"] ["_law_row", "_law_many"] (defScope s_law_taken) := ⟨rfl, rfl, rfl, by decide +kernel, rfl, by decide +kernel, by decide +kernel⟩
abbrev s_law_alike : Stmt := top 69
theorem sc_law_alike : FnScope ["_law_one", "_law_due", "_law_k"] ["_law_one", "_law_due"] (defScope s_law_alike) := ⟨rfl, rfl, rfl, by decide +kernel, rfl, by decide +kernel, by decide +kernel⟩
abbrev s_law_numbers : Stmt := top 70
theorem sc_law_numbers : FnScope ["_law_row", "_law_some", "_law_kinds", "_law_k", "_law_base", "_law_parts", "_law_begin"] ["_law_row", "_law_some"] (defScope s_law_numbers) := ⟨rfl, rfl, rfl, by decide +kernel, rfl, by decide +kernel, by decide +kernel⟩
abbrev s_law_long : Stmt := top 72
theorem sc_law_long : FnScope ["_law_number"] ["_law_number"] (defScope s_law_long) := ⟨rfl, rfl, rfl, by decide +kernel, rfl, by decide +kernel, by decide +kernel⟩
abbrev s_law_price : Stmt := top 73
theorem sc_law_price : FnScope ["_law_patch", "_law_total", "_law_piece"] ["_law_patch"] (defScope s_law_price) := ⟨rfl, rfl, rfl, by decide +kernel, rfl, by decide +kernel, by decide +kernel⟩
abbrev s_law_shop : Stmt := top 74
theorem sc_law_shop : FnScope ["_law_row", "_law_most_many", "_law_shop_here", "_law_some", "_law_name"] ["_law_row", "_law_most_many"] (defScope s_law_shop) := ⟨rfl, rfl, rfl, by decide +kernel, rfl, by decide +kernel, by decide +kernel⟩
abbrev s_law_all_ways : Stmt := top 75
theorem sc_law_all_ways : FnScope ["_law_names", "_law_line", "_law_goal", "_law_rows", "_law_name"] ["_law_names", "_law_line", "_law_goal"] (defScope s_law_all_ways) := ⟨rfl, rfl, rfl, by decide +kernel, rfl, by decide +kernel, by decide +kernel⟩
abbrev s_law : Stmt := top 76
theorem sc_law : FnScope ["_law_script", "_law_row", "_law_shop_here", "_law_some", "_law_names", "_law_costs", "_law_one", "_law_other", "_law_turn", "_law_rows", "_law_line", "_law_k", "_law_total", "_law_long_here", "_law_most", "_law_near", "_law_step", "_law_name"] ["_law_script"] (defScope s_law) := ⟨rfl, rfl, rfl, by decide +kernel, rfl, by decide +kernel, by decide +kernel⟩
abbrev s_Shop_init : Stmt := inClass (top 65) 0
theorem sc_Shop_init : FnScope ["self"] ["self"] (defScope s_Shop_init) := ⟨rfl, rfl, rfl, by decide +kernel, rfl, by decide +kernel, by decide +kernel⟩
abbrev s_Shop_put : Stmt := inClass (top 65) 1
theorem sc_Shop_put : FnScope ["self", "name", "edition"] ["self", "name", "edition"] (defScope s_Shop_put) := ⟨rfl, rfl, rfl, by decide +kernel, rfl, by decide +kernel, by decide +kernel⟩
abbrev s_Shop_whole : Stmt := inClass (top 65) 3
theorem sc_Shop_whole : FnScope ["self", "name"] ["self", "name"] (defScope s_Shop_whole) := ⟨rfl, rfl, rfl, by decide +kernel, rfl, by decide +kernel, by decide +kernel⟩
abbrev s_Shop_send : Stmt := inClass (top 65) 7
theorem sc_Shop_send : FnScope ["self", "number", "name", "customer", "many", "names", "one", "other", "patch"] ["self", "number", "name"] (defScope s_Shop_send) := ⟨rfl, rfl, rfl, by decide +kernel, rfl, by decide +kernel, by decide +kernel⟩
abbrev s_Shop_names : Stmt := inClass (top 65) 14
theorem sc_Shop_names : FnScope ["self"] ["self"] (defScope s_Shop_names) := ⟨rfl, rfl, rfl, by decide +kernel, rfl, by decide +kernel, by decide +kernel⟩
abbrev s_Shop_edition : Stmt := inClass (top 65) 15
theorem sc_Shop_edition : FnScope ["self", "name"] ["self", "name"] (defScope s_Shop_edition) := ⟨rfl, rfl, rfl, by decide +kernel, rfl, by decide +kernel, by decide +kernel⟩
abbrev s_Shop_sent : Stmt := inClass (top 65) 21
theorem sc_Shop_sent : FnScope ["self"] ["self"] (defScope s_Shop_sent) := ⟨rfl, rfl, rfl, by decide +kernel, rfl, by decide +kernel, by decide +kernel⟩
abbrev s_Shop_stands : Stmt := inClass (top 65) 25
theorem sc_Shop_stands : FnScope ["self", "number"] ["self", "number"] (defScope s_Shop_stands) := ⟨rfl, rfl, rfl, by decide +kernel, rfl, by decide +kernel, by decide +kernel⟩
abbrev s_Shop_patch_between : Stmt := inClass (top 65) 27
theorem sc_Shop_patch_between : FnScope ["self", "one", "other", "pair"] ["self", "one", "other"] (defScope s_Shop_patch_between) := ⟨rfl, rfl, rfl, by decide +kernel, rfl, by decide +kernel, by decide +kernel⟩
abbrev s_Shop_check_known : Stmt := inClass (top 65) 28
theorem sc_Shop_check_known : FnScope ["self", "name"] ["self", "name"] (defScope s_Shop_check_known) := ⟨rfl, rfl, rfl, by decide +kernel, rfl, by decide +kernel, by decide +kernel⟩
abbrev s_Shop_customer : Stmt := inClass (top 65) 29
theorem sc_Shop_customer : FnScope ["self", "number"] ["self", "number"] (defScope s_Shop_customer) := ⟨rfl, rfl, rfl, by decide +kernel, rfl, by decide +kernel, by decide +kernel⟩
abbrev s_Shop_keep : Stmt := inClass (top 65) 30
theorem sc_Shop_keep : FnScope ["self", "deed"] ["self", "deed"] (defScope s_Shop_keep) := ⟨rfl, rfl, rfl, by decide +kernel, rfl, by decide +kernel, by decide +kernel⟩
abbrev s_Shop_replace : Stmt := inClass (top 65) 31
theorem sc_Shop_replace : FnScope ["self", "number", "customer"] ["self", "number", "customer"] (defScope s_Shop_replace) := ⟨rfl, rfl, rfl, by decide +kernel, rfl, by decide +kernel, by decide +kernel⟩
structure PlnE (K : PySem.W.Frag) (C : Addr) : Prop where
  xC : PySem.W.excIn K C [.type "ValueError", .type "Exception", .type "BaseException", .type "object"] "ValueError.__new__" = true
  kC : PySem.W.keepIn K (.ref C) = true
  bC : PySem.W.subIn K (.ref C) (.type "BaseException") = some true
  tC : PySem.W.typeIn K (.ref C) = some (.type "type")
structure Df (K : PySem.W.Frag) (mg : Str → Option Value) (x : Str) (st : Stmt) (ps : List Str) where
  f : Addr
  fd : FuncData
  F : Fun K x x st f fd
  m : mg x = some (.ref f)
  b : Binds K fd ps []
structure DfM (K : PySem.W.Frag) (C : Addr) (m q : Str) (st : Stmt) (ps : List Str) where
  f : Addr
  fd : FuncData
  F : Fun K m q st f fd
  mt : Meth K C m f
  b : Binds K fd ps []
structure All (K : PySem.W.Frag) (mg : Str → Option Value) where
  d_wall : Df K mg "_wall" s_wall ["k"]
  d_bytes_of : Df K mg "bytes_of" s_bytes_of ["numbers"]
  d_is_number : Df K mg "is_number" s_is_number ["what", "least", "most"]
  d_can_be : Df K mg "can_be" s_can_be ["piece"]
  d_length_of : Df K mg "length_of" s_length_of ["piece"]
  d_check_edition : Df K mg "check_edition" s_check_edition ["edition"]
  d_check_patch : Df K mg "check_patch" s_check_patch ["patch"]
  d_size : Df K mg "size" s_size ["patch"]
  d_number_size : Df K mg "number_size" s_number_size ["number"]
  d_first_number : Df K mg "first_number" s_first_number ["piece"]
  d_piece_size : Df K mg "piece_size" s_piece_size ["piece"]
  d_way : Df K mg "way" s_way ["shop", "one", "other"]
  d_far : Df K mg "far" s_far ["shop", "name", "most"]
  d_sizes_of : Df K mg "sizes_of" s_sizes_of ["shop"]
  d_way_by : Df K mg "way_by" s_way_by ["names", "sizes"]
  d_least : Df K mg "least" s_least ["old", "new"]
  d_one_behind_the_other : Df K mg "one_behind_the_other" s_one_behind_the_other ["firsts"]
  d_next_pieces : Df K mg "next_pieces" s_next_pieces ["old", "new", "at"]
  d_next_copies : Df K mg "next_copies" s_next_copies ["old", "new", "at"]
  d_next_runs : Df K mg "next_runs" s_next_runs ["new", "at"]
  d_hangs : Df K mg "hangs" s_hangs ["patch"]
  d_starts : Df K mg "starts" s_starts ["patch"]
  d_moving : Df K mg "moving" s_moving ["patch"]
  d_writers_of : Df K mg "writers_of" s_writers_of ["patch"]
  d_cells_read : Df K mg "cells_read" s_cells_read ["piece"]
  d_hung_from : Df K mg "hung_from" s_hung_from ["patch"]
  d_lightest : Df K mg "lightest" s_lightest ["patch"]
  d_knots : Df K mg "knots" s_knots ["others"]
  d_reached : Df K mg "reached" s_reached ["others", "first"]
  d_lightest_of : Df K mg "lightest_of" s_lightest_of ["knot", "others", "weights"]
  d_bits_of : Df K mg "bits_of" s_bits_of ["knot", "pieces"]
  d_lots_without_rings : Df K mg "lots_without_rings" s_lots_without_rings ["nexts"]
  d_is_free : Df K mg "is_free" s_is_free ["lot", "nexts", "free"]
  d_is_lettered : Df K mg "is_lettered" s_is_lettered ["word"]
  d_check_name : Df K mg "check_name" s_check_name ["name"]
  d_without : Df K mg "without" s_without ["table", "name"]
  d_law_taken : Df K mg "_law_taken" s_law_taken ["_law_row", "_law_many"]
  d_law_alike : Df K mg "_law_alike" s_law_alike ["_law_one", "_law_due"]
  d_law_numbers : Df K mg "_law_numbers" s_law_numbers ["_law_row", "_law_some"]
  d_law_long : Df K mg "_law_long" s_law_long ["_law_number"]
  d_law_price : Df K mg "_law_price" s_law_price ["_law_patch"]
  d_law_shop : Df K mg "_law_shop" s_law_shop ["_law_row", "_law_most_many"]
  d_law_all_ways : Df K mg "_law_all_ways" s_law_all_ways ["_law_names", "_law_line", "_law_goal"]
  c_permutations : mg "permutations" = some (.type "itertools.permutations")
  t_MOST : Tok
  c_MOST : mg "MOST" = some (.int 200 t_MOST)
  t_LAST_BYTE : Tok
  c_LAST_BYTE : mg "LAST_BYTE" = some (.int 255 t_LAST_BYTE)
  a_WORDS : Addr
  c_WORDS : mg "WORDS" = some (.ref a_WORDS)
  v_WORDS : ∀ H : Hp, SqT K H a_WORDS [.str "copy", .str "bring", .str "run"]
  w_WORDS : ∃ o, K.lookup a_WORDS = some o ∧ o.cls = .type "tuple" ∧ o.dict = none
  t_SEVENS : Tok
  c_SEVENS : mg "SEVENS" = some (.int 128 t_SEVENS)
  t_MOST_SEVENS : Tok
  c_MOST_SEVENS : mg "MOST_SEVENS" = some (.int 2 t_MOST_SEVENS)
  t_MOST_BYTES : Tok
  c_MOST_BYTES : mg "MOST_BYTES" = some (.int 10000 t_MOST_BYTES)
  t_MOST_IN_KNOT : Tok
  c_MOST_IN_KNOT : mg "MOST_IN_KNOT" = some (.int 14 t_MOST_IN_KNOT)
  t_LETTERS : Tok
  c_LETTERS : mg "LETTERS" = some (.str "abcdefghijklmnopqrstuvwxyz" t_LETTERS)
  t_MOST_LETTERS : Tok
  c_MOST_LETTERS : mg "MOST_LETTERS" = some (.int 8 t_MOST_LETTERS)
  t_MOST_EDITIONS : Tok
  c_MOST_EDITIONS : mg "MOST_EDITIONS" = some (.int 6 t_MOST_EDITIONS)
  k_Shop : Addr
  m_Shop : mg "Shop" = some (.ref k_Shop)
  cl_Shop : Cls K k_Shop
  na_Shop_editions : NoAttr K k_Shop "_editions"
  na_Shop_leans : NoAttr K k_Shop "_leans"
  na_Shop_customers : NoAttr K k_Shop "_customers"
  na_Shop_sent : NoAttr K k_Shop "_sent"
  na_Shop_past : NoAttr K k_Shop "_past"
  na_Shop_found : NoAttr K k_Shop "_found"
  d_Shop_init : DfM K k_Shop "__init__" "Shop.__init__" s_Shop_init ["self"]
  d_Shop_put : DfM K k_Shop "put" "Shop.put" s_Shop_put ["self", "name", "edition"]
  d_Shop_whole : DfM K k_Shop "whole" "Shop.whole" s_Shop_whole ["self", "name"]
  d_Shop_send : DfM K k_Shop "send" "Shop.send" s_Shop_send ["self", "number", "name"]
  d_Shop_names : DfM K k_Shop "names" "Shop.names" s_Shop_names ["self"]
  d_Shop_edition : DfM K k_Shop "edition" "Shop.edition" s_Shop_edition ["self", "name"]
  d_Shop_sent : DfM K k_Shop "sent" "Shop.sent" s_Shop_sent ["self"]
  d_Shop_stands : DfM K k_Shop "stands" "Shop.stands" s_Shop_stands ["self", "number"]
  d_Shop_patch_between : DfM K k_Shop "patch_between" "Shop.patch_between" s_Shop_patch_between ["self", "one", "other"]
  d_Shop_check_known : DfM K k_Shop "_check_known" "Shop._check_known" s_Shop_check_known ["self", "name"]
  d_Shop_customer : DfM K k_Shop "_customer" "Shop._customer" s_Shop_customer ["self", "number"]
  d_Shop_keep : DfM K k_Shop "_keep" "Shop._keep" s_Shop_keep ["self", "deed"]
  d_Shop_replace : DfM K k_Shop "_replace" "Shop._replace" s_Shop_replace ["self", "number", "customer"]
  mk_Shop : Mk K k_Shop d_Shop_init.f
  k_BadEdition : Addr
  m_BadEdition : mg "BadEdition" = some (.ref k_BadEdition)
  o_BadEdition : PlnE K k_BadEdition
  k_BadCount : Addr
  m_BadCount : mg "BadCount" = some (.ref k_BadCount)
  o_BadCount : PlnE K k_BadCount
  k_TooMany : Addr
  m_TooMany : mg "TooMany" = some (.ref k_TooMany)
  o_TooMany : PlnE K k_TooMany
  k_BadName : Addr
  m_BadName : mg "BadName" = some (.ref k_BadName)
  o_BadName : PlnE K k_BadName
  k_Known : Addr
  m_Known : mg "Known" = some (.ref k_Known)
  o_Known : PlnE K k_Known
  k_NoName : Addr
  m_NoName : mg "NoName" = some (.ref k_NoName)
  o_NoName : PlnE K k_NoName
  k_NoDevice : Addr
  m_NoDevice : mg "NoDevice" = some (.ref k_NoDevice)
  o_NoDevice : PlnE K k_NoDevice
  b_all : mg "all" = none
  b_bool : mg "bool" = none
  b_bytes : mg "bytes" = none
  b_enumerate : mg "enumerate" = none
  b_int : mg "int" = none
  b_isinstance : mg "isinstance" = none
  b_len : mg "len" = none
  b_list : mg "list" = none
  b_max : mg "max" = none
  b_min : mg "min" = none
  b_range : mg "range" = none
  b_reversed : mg "reversed" = none
  b_set : mg "set" = none
  b_sorted : mg "sorted" = none
  b_sum : mg "sum" = none
  b_tuple : mg "tuple" = none
  b_zip : mg "zip" = none
/-! ### rules within a comprehension's block -/
theorem ixlK {X : Cx} {K : PySem.W.Frag} (h : X.K = K) : IxR X (rIxL K) := by subst h; exact ix_list
theorem ixtK {X : Cx} {K : PySem.W.Frag} (h : X.K = K) : IxR X (rIxT K) := by subst h; exact ix_tup
theorem ixsK {X : Cx} {K : PySem.W.Frag} (h : X.K = K) : IxR X (rIx K) := by subst h; exact ix_seq
theorem lenK {X : Cx} {K : PySem.W.Frag} (h : X.K = K) : CallR X (.builtin "len") (fun xs H Q => ∃ x n, xs = [x] ∧ LenV K x H n ∧ Q (.int n) H) := by subst h; exact call_len
theorem pg_tupK {X : Cx} {K : PySem.W.Frag} {es : List Expr} {k : Nat} {t : TGs} {n : Nat} {pos : Pos} (hK : X.K = K) (hc : X.calm = true) (h : PGs X es t)
    (hn : (assignEach es X.env).length = n := by rfl) (hst : (assignEach es X.env).findIdx? (·.1) = none := by rfl) : PG X (.Tuple es k pos) (gTup K n t) := by subst hK; exact pg_tup hc h hn hst
/-! ### heaps -/
/-- all but d is as it was -/
def But (d : Addr) (H H' : Hp) : Prop := ∀ b o, b ≠ d → H b = some o → H' b = some o
theorem But.refl (d : Addr) (H : Hp) : But d H H := fun _ _ _ h => h
theorem But.trans {d : Addr} {H H1 H2 : Hp} (a : But d H H1) (b : But d H1 H2) : But d H H2 := fun c o n h => b c o n (a c o n h)
theorem Same.but {d : Addr} {H H' : Hp} (a : Same H H') : But d H H' := fun c o _ h => a c o h
theorem But.put {d : Addr} {H : Hp} {o : HO} : But d H (upd H d o) := fun c u n h => by rw [upd_ne n]; exact h
theorem Same.new {p : Addr} {H : Hp} {o : HO} (n : H p = none) : Same H (upd H p o) := fun c u h => by rw [upd_ne (ne_of_none h n)]; exact h
theorem But.new {d p : Addr} {H : Hp} {o : HO} (n : H p = none) : But d H (upd H p o) := Same.but (Same.new n)
theorem But.at {d p : Addr} {H H' : Hp} {o u : HO} (b : But d H H') (hd : H d = some u) (h : H p = some o) (hn : o ≠ u) : H' p = some o := b p o (ne_of h hd hn) h
theorem But.free {d p : Addr} {H H' : Hp} {u : HO} (b : But d H H') (hd : H d = some u) (h : H' d = some u ∨ ∃ u', H' d = some u') (n : H' p = none) : H p = none := by
  cases e : H p with
  | none => rfl
  | some o =>
    by_cases hp : p = d
    · subst hp
      rcases h with h | ⟨_, h⟩ <;> (rw [n] at h; cases h)
    · rw [b p o hp e] at n; cases n
theorem tup_lst {xs ys : List V} : HO.tup xs ≠ HO.lst ys := by intro z; cases z
theorem sizeS {n : Nat} (h : n ≤ 100000) : n ≤ sizeLine := by rw [sizeLine_eq]; omega
theorem sizeL {n : Nat} (h : n ≤ 100000) : n < sizeLine := by rw [sizeLine_eq]; omega
/-! ### the dice -/
structure Dice (K : PySem.W.Frag) (a : Addr) (ns : List Int) (H : Hp) (d : Addr) : Prop where
  sq : SqL K H a (ns.map V.int)
  len : ns.length ≤ 63
  ex : ∃ p m g : Int, 0 ≤ p ∧ H d = some (.lst [.ref a, .int p, .int m, .int g])
theorem sq_but {K : PySem.W.Frag} {H H' : Hp} {a d : Addr} {ns : List Int} {x : Addr} {xs : List V} (b : But d H H') (hd : H d = some (.lst (.ref x :: xs))) (h : SqL K H a (ns.map V.int)) : SqL K H' a (ns.map V.int) := by
  rcases h with (h | ⟨o, h⟩) | h
  · refine .inl (.inl (b.at hd h ?_))
    intro z
    cases ns with
    | nil => cases z
    | cons n r => cases z
  · exact .inl (.inr ⟨o, b.at hd h (by intro z; cases z)⟩)
  · exact .inr h
section
variable {K : PySem.W.Frag} {a : Addr} {ns : List Int} {d : Addr}
theorem Dice.same {H H' : Hp} (D : Dice K a ns H d) (s : Same H H') : Dice K a ns H' d := by
  obtain ⟨h1, h2, p, m, g, h3, h4⟩ := D
  exact ⟨s.seq h1, h2, p, m, g, h3, s _ _ h4⟩
/-- the dice's list is no tuple, no list of ints -/
theorem Dice.is {H : Hp} (D : Dice K a ns H d) : ∃ xs, H d = some (.lst (.ref a :: xs)) := by
  obtain ⟨h1, h2, p, m, g, h3, h4⟩ := D
  exact ⟨_, h4⟩
theorem Dice.put {H : Hp} {p m g p' m' g' : Int} (h1 : SqL K H a (ns.map V.int)) (h2 : ns.length ≤ 63) (h3 : 0 ≤ p') (h4 : H d = some (.lst [.ref a, .int p, .int m, .int g])) :
    Dice K a ns (upd H d (.lst [.ref a, .int p', .int m', .int g'])) d :=
  ⟨sq_but But.put h4 h1, h2, p', m', g', h3, upd_same⟩
theorem tup_but {H H' : Hp} {p : Addr} {xs : List V} (D : Dice K a ns H d) (b : But d H H') (h : H p = some (.tup xs)) : H' p = some (.tup xs) := by
  obtain ⟨ys, e⟩ := D.is
  exact b.at e h tup_lst
theorem ints_but {H H' : Hp} {p : Addr} {ms : List Int} (D : Dice K a ns H d) (b : But d H H') (h : H p = some (.lst (ms.map V.int))) : H' p = some (.lst (ms.map V.int)) := by
  obtain ⟨ys, e⟩ := D.is
  refine b.at e h ?_
  intro z
  cases ms with
  | nil => cases z
  | cons n r => cases z
theorem none_but {H H' : Hp} {p : Addr} (D : Dice K a ns H d) (D' : Dice K a ns H' d) (b : But d H H') (h : H' p = none) : H p = none := by
  obtain ⟨ys, e⟩ := D.is
  obtain ⟨ys', e'⟩ := D'.is
  exact b.free e (.inr ⟨_, e'⟩) h
theorem Dice.ne {H : Hp} {p : Addr} (D : Dice K a ns H d) (h : H p = none) : p ≠ d := by
  obtain ⟨ys, e⟩ := D.is
  exact (ne_of_none e h).symm
/-- what was made since H0 may be changed -/
theorem But.fresh {H0 H : Hp} {p : Addr} {o : HO} (b : But d H0 H) (h : H0 p = none) : But d H0 (upd H p o) := fun c u n e => by rw [upd_ne (ne_of_none e h)]; exact b c u n e
theorem Dice.fresh {H0 H : Hp} {p : Addr} {o : HO} (D0 : Dice K a ns H0 d) (b : But d H0 H) (h : H0 p = none) (D : Dice K a ns H d) : Dice K a ns (upd H p o) d := by
  obtain ⟨ys, e⟩ := D0.is
  obtain ⟨h1, h2, q, m, g, h3, h4⟩ := D
  exact ⟨sq_but (But.fresh b h) e D0.sq, h2, q, m, g, h3, by rw [upd_ne (D0.ne h).symm]; exact h4⟩
end
/-- _law_dice(script) -/
def spDice (K : PySem.W.Frag) : Sp := fun vs H Q _ => ∃ (a : Addr) (ns : List Int), vs = [.ref a] ∧ SqL K H a (ns.map V.int) ∧ ns.length ≤ 63 ∧ ∀ H' d, Same H H' → H d = none → Dice K a ns H' d → Q (.ref d) H'
/-- _law_next(d, n): any number below n -/
def spNext (K : PySem.W.Frag) : Sp := fun vs H Q _ => ∃ (a : Addr) (ns : List Int) (d : Addr) (n : Int), vs = [.ref d, .int n] ∧ Dice K a ns H d ∧ 1 ≤ n ∧ n < 1073741824 ∧ ∀ H' r, But d H H' → Dice K a ns H' d → 0 ≤ r → r < n → Q (.int r) H'
section
variable {P : Program} {w : World} {K : PySem.W.Frag} {mg : Str → Option Value} {base : Heap}
theorem at_map {ns : List Int} {i : Nat} {x : V} (h : (ns.map V.int)[i]? = some x) : ∃ z, x = V.int z ∧ ns[i]? = some z := by
  rw [List.getElem?_map] at h
  cases e : ns[i]? with
  | none => rw [e] at h; cases h
  | some z => rw [e] at h; exact ⟨z, (Option.some.inj h).symm, rfl⟩
end
/-! ### enumerate(tuple) -/
open AutoSeq1 (wpAny_loadPart') in
set_option maxHeartbeats 1000000 in
theorem meets_enumT (t : Addr) (items : Array Value) :
    Meets (Builtin.«enumerate.__new__» ⟨[.type "enumerate", .ref t], []⟩) (fun _ R s => s.heap.IsTuple t items ∧
      R (.ok (.ret (.ref (s.heap.push { cls := .type "tuple_iterator", data := .fields #[.ref t, .int 0 0] }).objs.size)))
        { s with heap := (s.heap.push { cls := .type "tuple_iterator", data := .fields #[.ref t, .int 0 0] }).push { cls := .type "enumerate", data := .fields #[.none, .bool false, .ref s.heap.objs.size, rawInt 0, .none, .none] } }) :=
  .of_wp fun prog w A R s h => by
    obtain ⟨hp, g, d, tk, os⟩ := s; obtain ⟨hl, h⟩ := h
    have hsub := sub_enumerate
    have q1 : ∀ {A' : Around} {E : Value → Shared → Prop} {Q : Value → Shared → Prop}, Q (.ref hp.objs.size) ⟨hp.push { cls := .type "tuple_iterator", data := .fields #[.ref t, .int 0 0] }, g, d, tk, os⟩ → wpAny (model prog w) A' (pyIter (.ref t)) Q E ⟨hp, g, d, tk, os⟩ :=
      fun q => (begins_tuple t items).iter prog w _ _ ⟨hp, g, d, tk, os⟩ _ hl q
    wp_walk using q1
    refine wpAny_stack_any fun st => wpAny_pure ?_
    split
    · rename_i c _ _ _ _ _
      cases (c == Value.type "enumerate")
      · wp_walk using q1
        exact ⟨_, rfl, h⟩
      · wp_walk using q1
        exact ⟨_, rfl, h⟩
    · wp_walk using q1
      exact ⟨_, rfl, h⟩
theorem call_enumT {prog : Program} {w : World} {A : Around} {E : Value → Shared → Prop} {s : Shared} {t : Addr} {items : Array Value} {Q : Value → Shared → Prop} (ht : s.heap.IsTuple t items)
    (h : ∀ h', IsEnum h' (s.heap.objs.size + 1) s.heap.objs.size 0 .none → h'.IsTupleIter s.heap.objs.size t 0 → h'.objs.size = s.heap.objs.size + 2 →
      (∀ b o, s.heap.get? b = some o → h'.get? b = some o) → Q (.ref (s.heap.objs.size + 1)) { s with heap := h' }) :
    wpAny (model prog w) A (call (.type "enumerate") [.ref t]) Q E s := by
  refine callType_new F.called_enumerate (by decide) (F.typeCall_enumerate_1 _) (F.newCall_enumerate_1 _) (fun obj => F.args_object_init_2 obj _) F.entry_enumerate_new
    (meets_enumT t items) ⟨ht, ?_⟩
  have hz : (s.heap.push { cls := .type "tuple_iterator", data := .fields #[.ref t, .int 0 0] }).objs.size = s.heap.objs.size + 1 := Heap.size_push ..
  show _ ∧ _
  rw [hz]
  have he : IsEnum ((s.heap.push { cls := .type "tuple_iterator", data := .fields #[.ref t, .int 0 0] }).push
      { cls := .type "enumerate", data := .fields #[.none, .bool false, .ref s.heap.objs.size, rawInt 0, .none, .none] }) (s.heap.objs.size + 1) s.heap.objs.size 0 .none := by
    have := Heap.get?_push_size (s.heap.push { cls := .type "tuple_iterator", data := .fields #[.ref t, .int 0 0] })
      (o := { cls := .type "enumerate", data := .fields #[.none, .bool false, .ref s.heap.objs.size, rawInt 0, .none, .none] }) rfl
    rw [hz] at this; exact this
  refine ⟨⟨_, he, rfl⟩, h _ he ⟨_, Heap.get?_push_of_some _ (Heap.get?_push_size _ rfl), rfl, rfl⟩ (by rw [Heap.size_push, hz]) fun b o x => Heap.get?_push_of_some _ (Heap.get?_push_of_some _ x)⟩
theorem pyNext_enumT_end {prog : Program} {w : World} {A : Around} {E : Value → Shared → Prop} {s : Shared} {e it t : Addr} {i : Nat} {c : Int} {items : Array Value} {old : Value} {Q : Option Value → Shared → Prop} (hh : A.handled = none)
    (he : IsEnum s.heap e it c old) (hit : s.heap.IsTupleIter it t i) (ht : s.heap.IsTuple t items) (hx : items[i]? = none)
    (hQ : ∀ h', Heap.ExtBut it s.heap h' → Q none { s with heap := h' }) : wpAny (model prog w) A (pyNext (.ref e)) Q E s := by
  have hT : s.TypeIs (.ref e) "enumerate" := ⟨_, he, rfl⟩
  unfold pyNext
  refine wpAny_bind (wpAny_attempt (wpAny_callSpecial?_slot (name := Str.ofString "__next__") hT F.slot_enumerate_next
    (wpAny_call_entry F.slot_enumerate_next hT F.entry_enumerate_next ?_ (F.args_enumerate_next_1 _))))
  show wpAny _ _ (field (.ref e) 2 >>= _) _ _ _
  refine wpAny_bind (wpAny_field he rfl (x := .ref it) rfl ?_)
  refine wpAny_bind (wpAny_nextOf_tuple_end (by exact hh) hit ht hx fun h' x he' hx' => ?_)
  obtain ⟨o, ho, hc⟩ := hx'
  refine wpAny_bind (wpAny_isInstance (T := "StopIteration") (b := true) ⟨o, ho, hc⟩ isSubtype_stop ?_)
  exact wpAny_pure (hQ _ he')
/-- the tuple at a, each item in a new pair -/
def Itet (K : PySem.W.Frag) (a : Addr) : It :=
  ⟨fun i H => ∃ (xs : List V) (x : V), SqT K H a xs ∧ xs[i]? = some x, fun i H v H' => ∃ T x, v = .ref T ∧ H T = none ∧ H' = upd H T (.tup [.int (i : Nat), x]) ∧ ∀ xs, SqT K H a xs → xs[i]? = some x, fun i H => ∃ xs : List V, SqT K H a xs ∧ xs.length ≤ i⟩
theorem turn_enumT {P : Program} {w : World} {K : PySem.W.Frag} {elts : List Expr} {kk : Nat} {tpos : Pos} (a e it : Addr) :
    Turn P w K (.Tuple elts kk tpos) (Itet K a) [e, it] e (fun i h => (∃ old, IsEnum h e it ((i : Nat) : Int) old) ∧ h.IsTupleIter it a i ∧ e ≠ it ∧ a ≠ it ∧ e ≠ a) where
  mem := by simp
  obj := fun i h st b hb => by
    obtain ⟨⟨old, he⟩, ⟨o, ho, hc, hd⟩, _⟩ := st
    have e' : b = e ∨ b = it := by simpa using hb
    rcases e' with z | z
    · rw [z]; exact ⟨_, he, fun v q => nomatch q⟩
    · rw [z]; exact ⟨o, ho, fun v q => by rw [hd] at q; cases q⟩
  keep := fun i h h' st k => let ⟨⟨old, he⟩, hi, hne⟩ := st; ⟨⟨old, k e (by simp) _ he⟩, hi.at fun o q => k it (by simp) o q, hne⟩
  item := by
    intro X hP hw hK hc i pins s σ H E I hf st hg
    subst hP hw hK
    obtain ⟨⟨old, he⟩, hit, hne, hne2, hne3⟩ := st
    obtain ⟨xs, x, hq, hx⟩ := hg
    obtain ⟨its, rv, p, hz⟩ := I.tuple hq
    obtain ⟨u, hu, ru⟩ := rv.get hx
    have hel : e < s.heap.objs.size := Heap.lt_size he
    have hil : it < s.heap.objs.size := by obtain ⟨_, q, _⟩ := hit; exact Heap.lt_size q
    have ht : s.heap.IsTuple a its.toArray := p
    have hlt : i < its.toArray.size := by
      have := (List.getElem?_eq_some_iff.mp hu).1
      simpa using this
    refine wpAny_pyNext_enum_itemD (Draws.tuple (A := X.A.in1) (by exact I.ok.hd hc) it a hne2 its.toArray) he ⟨hit, ht⟩ hlt hne (by simp; exact ⟨hne, hne3⟩) fun y h' tk hPy ho hst' hT hsz hk => ?_
    have ey : y = u := by
      have z : its[i]? = some y := by simpa using hPy
      rw [hu] at z; exact (Option.some.inj z).symm
    subst ey
    refine ⟨_, rfl, wpAny_letOwnedTupleGo_enum (s := { s with heap := h', toks := tk + 1 }) ho fun h'' he' sb => ?_⟩
    have hT2 : h''.get? s.heap.objs.size = some { cls := .type "tuple", data := .seq #[.int i tk, y] } := (sb.2 _ (Nat.ne_of_gt hel)).trans hT
    have new : ObjOk X.prog X.w (upd H s.heap.objs.size (.tup [.int (i : Nat), x])) h'' s.heap.objs.size (.tup [.int (i : Nat), x]) :=
      ⟨by show 2 ≤ sizeLine; decide, [.int i tk, y], .cons ⟨_, rfl⟩ (.cons ru .nil), ⟨_, hT2, rfl, _, rfl⟩⟩
    have I1 : Inv X pins σ (upd H s.heap.objs.size (.tup [.int (i : Nat), x])) { s with heap := h'', toks := tk + 1 } :=
      I.turnedNew (ch := [e, it]) (fun b ob hb q => (sb.2 b (fun z => hb (by simp [z]))).trans (hk b ob (fun z => hb (by simp [z])) (fun z => hb (by simp [z])) q)) hf (Nat.le_refl _) new
    refine ⟨.ref s.heap.objs.size, _, I1, rfl, ⟨_, x, rfl, I.hok.fresh (Nat.le_refl _), rfl, fun ys hy => by rw [I.tuple_inj hy hq]; exact hx⟩, ⟨⟨y, ?_⟩, hst'.1.at fun o q => (sb.2 it (Ne.symm hne)).trans q, hne, hne2, hne3⟩, fun b hb => ?_⟩
    · have e1 : ((i + 1 : Nat) : Int) = (i : Int) + 1 := by omega
      rw [e1]; exact he'
    · have hb' : b < s.heap.objs.size := by
        have e' : b = e ∨ b = it := by simpa using hb
        rcases e' with z | z
        · rw [z]; exact hel
        · rw [z]; exact hil
      rw [upd_ne (Nat.ne_of_lt hb')]
      exact (hf b hb).1
  done := by
    intro X hP hw hK hc i pins s σ H E I hf st hg
    subst hP hw hK
    obtain ⟨⟨old, he⟩, hit, hne, hne2, hne3⟩ := st
    obtain ⟨xs, hq, hx⟩ := hg
    obtain ⟨its, rv, p, hz⟩ := I.tuple hq
    obtain ⟨f0, f1, f2, f3, f4, f5⟩ := hf it (by simp)
    have hl := rv.length
    have ht : s.heap.IsTuple a its.toArray := p
    exact pyNext_enumT_end (I.ok.hd hc) he hit ht (by simp; omega) fun h' eb => ⟨rfl, I.turned (t' := s.toks) (fun b o hb q => eb b o hb q) f0 f1 f3 f4 f5⟩
  self := fun A i s Q E st h => let ⟨⟨_, he⟩, _⟩ := st; wpAny_pyIter_enum he h
def iEnumT (K : PySem.W.Frag) (ta : TA) : TI := fun σ H R => ta σ H fun vs H1 => ∃ a xs, vs = [.ref a] ∧ SqT K H1 a xs ∧ R (Itet K a) H1
theorem pi_enumT {X : Cx} {e : Expr} {ta : TA} {p pos tpos : Pos} {elts : List Expr} {kk : Nat} (hg : Gl X "enumerate") (hm : X.mg "enumerate" = none) (ha : PA X [e] ta) (hs : starEach [e] X.env = [(false, eval e X.env)] := by rfl) :
    PI X (.Tuple elts kk tpos) (.Call (.Name "enumerate" p) [e] [] pos) (iEnumT X.K ta) := by
  refine ⟨fun pins s σ H R I h => ?_⟩
  refine Call_ (ld_blt I hg hm boot_enumerate (PyProof.Rows.callWith_type1 (thn (ha.run pos pins s σ H _ I h) fun us s1 ⟨vs, H1, I1, r1, q1⟩ => ?_) hs rfl))
  obtain ⟨a, xs, ex, hq, q⟩ := q1
  subst ex
  cases r1 with
  | cons r rr =>
    cases rr
    cases r
    obtain ⟨its, rv, p', hz⟩ := I1.tuple hq
    have ht : s1.heap.IsTuple a its.toArray := p'
    have hal : a < s1.heap.objs.size := by obtain ⟨_, q', _⟩ := id ht; exact Heap.lt_size q'
    refine call_enumT ht fun h' he hit hsz hk => wpAny_pyIter_enum he ?_
    have I2 : Inv X pins σ H1 { s1 with heap := h' } := I1.kept (t' := s1.toks) hk
    refine ⟨s1.heap.objs.size + 1, [s1.heap.objs.size + 1, s1.heap.objs.size], _, _, H1, rfl, I2, turn_enumT a (s1.heap.objs.size + 1) s1.heap.objs.size, ⟨⟨.none, he⟩, hit, Nat.succ_ne_self _, Nat.ne_of_lt hal, Nat.ne_of_gt (Nat.lt_succ_of_lt hal)⟩, fun b hb => ?_, q⟩
    have e' : b = s1.heap.objs.size + 1 ∨ b = s1.heap.objs.size := by simpa using hb
    have hle : s1.heap.objs.size ≤ b := by
      rcases e' with z | z
      · rw [z]; exact Nat.le_add_right _ _
      · rw [z]; exact Nat.le_refl _
    exact I1.fpOk hle (I1.hok.fresh hle)
theorem walk_enumT {K : PySem.W.Frag} {a : Addr} {xs : List V} : Walk (Itet K a) xs.length (fun H => SqT K H a xs) (YPair (fun i => some (.int (i : Nat))) (fun i => xs[i]?)) := by
  refine ⟨fun i _ hi q => ⟨xs, xs[i], q, by simp [hi]⟩, fun _ q => ⟨xs, q, Nat.le_refl _⟩, fun i H v H' _ q y => ?_⟩
  obtain ⟨T, x, h1, h2, h3, h4⟩ := y
  exact ⟨T, .int (i : Nat), x, h1, h2, h3, rfl, h4 xs q⟩
theorem walk_byt {x : Array UInt8} : Walk (Itb x) x.size (fun _ => True) (fun i H v H' => H' = H ∧ ∃ c, x[i]? = some c ∧ v = .int ((c.toNat : Nat) : Int)) :=
  ⟨fun _ _ hi _ => hi, fun _ _ => Nat.le_refl _, fun _ _ _ _ _ _ y => y⟩
/-- the i-th byte -/
theorem byt_at {bs : List Int} {i : Nat} {c : UInt8} (hb : B8 bs) (h : (byteArr bs)[i]? = some c) : bs[i]? = some ((c.toNat : Nat) : Int) := by
  have h1 : (bs.map fun n : Int => n.toNat.toUInt8)[i]? = some c := by
    have : (byteArr bs)[i]? = (bs.map fun n : Int => n.toNat.toUInt8)[i]? := by unfold byteArr; simp
    rw [← this]; exact h
  have hl : i < bs.length := by
    have := (List.getElem?_eq_some_iff.mp h1).1
    simpa using this
  have h2 := byte_at (j := i) hb (List.getElem?_eq_getElem hl)
  rw [List.getD_eq_getElem?_getD, h1] at h2
  rw [List.getElem?_eq_getElem hl, ← h2]
  rfl
/-! ### max(list of ints, default=int) -/
theorem args_maxD (a v : Value) : argsOk "max" ⟨[a], [(Str.ofString "default", v)]⟩ := by unfold argsOk; kernel_rfl
section
variable {prog : Program} {w : World} {A : Around} {R : Result → Shared → Prop} {I S : Addr} {fp wr : List Addr} {n : Nat} {P : Nat → Value → Prop} {St : Nat → Heap → Prop} {f : Nat → Int} {kw : List (Str × Value)}
theorem maxD_turns (W : Walks prog w A.in1 I fp wr n P St) (num : ∀ i v, P i v → ∃ t, v = Value.int (f i) t) (apart : S ∉ fp) : ∀ (left j b : Nat) (s : Shared) (best : Value) (c : Nat), n = j + 1 + left → St (j + 1) s.heap → P b best → b ≤ j → (∀ i, i ≤ j → f i ≤ f b) →
    s.heap.get? S = some { cls := .type "list", dict := none, data := .seq #[best, best] c, slots := #[] } →
    (∀ b v h' tk, b < n → P b v → (∀ i, i < n → f i ≤ f b) → (∀ a o, a ∉ wr → a ≠ S → s.heap.get? a = some o → h'.get? a = some o) → R (.ok (.ret v)) { s with heap := h', toks := tk }) →
    codeAny (model prog w) A (.builtin "max.loop" ⟨[.ref I, .none, .ref S], kw⟩) R s := by
  have outside : S ∉ wr := fun z => apart (W.sub _ z)
  have nm : (toString "max" ++ toString ".loop" : String) = "max.loop" := by decide
  intro left
  induction left with
  | zero =>
    intro j b s best c en st hb bj top hS fin
    refine codeAny_builtin F.entry_max_loop ?_
    rw [Around.under_plainId F.plain_max_loop _]
    refine wpAny_bind (wpAny_seqItems hS rfl (wpAny_bind (wpAny_tryCatch (W.done s _ _ (by rw [en]; exact st) fun h' tk kept => ?_))))
    refine wpAny_bind (wpAny_updateSeq (kept S _ outside hS) rfl (wpAny_bind (wpAny_letGo (wpAny_pure ?_))))
    exact fin b best _ tk (by omega) hb (fun i hi => top i (by omega)) fun a o ha hs e => (Heap.get?_update_other _ _ (Ne.symm hs)).trans (kept a o ha e)
  | succ left ih =>
    intro j b s best c en st hb bj top hS fin
    refine codeAny_builtin F.entry_max_loop ?_
    rw [Around.under_plainId F.plain_max_loop _]
    refine wpAny_bind (wpAny_seqItems hS rfl (wpAny_bind (wpAny_tryCatch (W.item (j + 1) s _ _ (by omega) st fun v h' tk hv st' kept => ?_))))
    have hS1 := kept S _ outside hS
    refine wpAny_bind (wpAny_pure ?_)
    refine wpAny_bind (wpAny_tryCatch (wpAny_holding (wpAny_bind (CmpOf.ints_gt f num (j + 1) b v best _ _ _ hv hb ?_))))
    refine wpAny_bind (wpAny_holding (wpAny_truthy_bool (wpAny_bind (wpAny_letGo (wpAny_pure ?_)))))
    by_cases gt : f (j + 1) > f b
    · rw [if_pos (by exact decide_eq_true gt)]
      refine wpAny_bind ?_
      refine wpAny_updateSeq hS1 rfl (wpAny_bind (wpAny_letGo ?_))
      rw [nm]
      refine wpAny_pure ⟨plainId_quiet F.plain_max_loop _, ?_⟩
      refine ih (j + 1) (j + 1) _ v c (by omega) (W.frame _ _ _ st' fun a ha o e => ?_) hv (Nat.le_refl _) (fun i hi => ?_) (Heap.get?_update_self _ hS1 rfl) fun b' v' h2 tk2 lt hv' top' kept' => ?_
      · exact (Heap.get?_update_other _ _ (fun z : S = a => apart (by rw [z]; exact ha))).trans e
      · by_cases e : i = j + 1
        · rw [e]; omega
        · have := top i (by omega)
          omega
      · exact fin b' v' h2 tk2 lt hv' top' fun a o ha hs e => kept' a o ha hs ((Heap.get?_update_other _ _ (Ne.symm hs)).trans (kept a o ha e))
    · rw [if_neg (by intro z; exact gt (of_decide_eq_true z))]
      refine wpAny_bind (wpAny_letGo ?_)
      rw [nm]
      refine wpAny_pure ⟨plainId_quiet F.plain_max_loop _, ?_⟩
      refine ih (j + 1) b _ best c (by omega) st' hb (by omega) (fun i hi => ?_) hS1 fun b' v' h2 tk2 lt hv' top' kept' => ?_
      · by_cases e : i = j + 1
        · rw [e]; omega
        · exact top i (by omega)
      · exact fin b' v' h2 tk2 lt hv' top' fun a o ha hs e => kept' a o ha hs (kept a o ha e)
end
theorem call_maxD {prog : Program} {w : World} {A : Around} {E : Value → Shared → Prop} {s : Shared} {l : Addr} {its : List Value} {ns : List Int} {d : Value} {Q : Value → Shared → Prop} (hh : A.handled = none) (hl : s.heap.IsList l its.toArray) (hi : ∀ i v, its[i]? = some v → ∃ t, v = Value.int (ns.getD i 0) t) (len : its.length = ns.length)
    (h0 : ns = [] → ∀ h' tk, (∀ b o, s.heap.get? b = some o → h'.get? b = some o) → Q d { s with heap := h', toks := tk })
    (h1 : ∀ m t h' tk, m ∈ ns → (∀ y, y ∈ ns → y ≤ m) → (∀ b o, s.heap.get? b = some o → h'.get? b = some o) → Q (Value.int m t) { s with heap := h', toks := tk }) :
    wpAny (model prog w) A (call (.builtin "max") [.ref l] [(Str.ofString "default", d)]) Q E s := by
  have nm : (toString "max" ++ toString ".loop" : String) = "max.loop" := by decide
  have below : l < s.heap.objs.size := by obtain ⟨_, q, _⟩ := id hl; exact Heap.lt_size q
  refine PyProof.Rows.kmk_tree F.kind_max F.plain_max F.entry_max (args_maxD _ _) ?_
  refine wpAny_bind (wpAny_of_eq (show Builtin.Builtins.bindParams "max" ["key", "default"] 0 ⟨[], [(Str.ofString "default", d)]⟩ = pure [none, some d] from rfl) (wpAny_bind (wpAny_pure ?_)))
  refine wpAny_bind (wpAny_pyIter_list hl (wpAny_bind (wpAny_newList ?_ (Nat.zero_le _))))
  rw [nm]
  have sz : (s.heap.push { cls := .type "list_iterator", data := .fields #[.ref l, .int 0 0] }).objs.size = s.heap.objs.size + 1 := Heap.size_push ..
  refine wpAny_pure ⟨plainId_quiet F.plain_max_loop _, ?_⟩
  have W := Walks.list (prog := prog) (w := w) (A := A.in1) hh s.heap.objs.size l (Nat.ne_of_lt below) its.toArray
  have hn : its.toArray.size = ns.length := by rw [List.size_toArray]; exact len
  have gI : ((s.heap.push { cls := .type "list_iterator", data := .fields #[.ref l, .int 0 0] }).push (PyProof.Rows.seqObj "list" #[] 0)).IsListIter s.heap.objs.size l 0 := ⟨_, Heap.get?_push_of_some _ (Heap.get?_push_size _ rfl), rfl, rfl⟩
  have gS : ((s.heap.push { cls := .type "list_iterator", data := .fields #[.ref l, .int 0 0] }).push (PyProof.Rows.seqObj "list" #[] 0)).get? (s.heap.push { cls := .type "list_iterator", data := .fields #[.ref l, .int 0 0] }).objs.size = some (PyProof.Rows.seqObj "list" #[] 0) := Heap.get?_push_size _ rfl
  have nS : (s.heap.push { cls := .type "list_iterator", data := .fields #[.ref l, .int 0 0] }).objs.size ≠ s.heap.objs.size := by rw [sz]; exact Nat.succ_ne_self _
  have old : ∀ b o, s.heap.get? b = some o → ((s.heap.push { cls := .type "list_iterator", data := .fields #[.ref l, .int 0 0] }).push (PyProof.Rows.seqObj "list" #[] 0)).get? b = some o := fun b o e => Heap.get?_push_of_some _ (Heap.get?_push_of_some _ e)
  have gl := hl.at fun o e => old l o e
  have away : ∀ b o, s.heap.get? b = some o → b ∉ [s.heap.objs.size] ∧ b ≠ (s.heap.push { cls := .type "list_iterator", data := .fields #[.ref l, .int 0 0] }).objs.size := fun b o e => by
    have := Heap.lt_size e
    constructor
    · intro hm; rw [List.mem_singleton.mp hm] at this; exact Nat.lt_irrefl _ this
    · rw [sz]; exact Nat.ne_of_lt (Nat.lt_succ_of_lt this)
  refine codeAny_builtin F.entry_max_loop ?_
  rw [Around.under_plainId F.plain_max_loop _]
  refine wpAny_bind (wpAny_seqItems gS rfl ?_)
  cases e : ns with
  | nil =>
    have z : its.toArray.size = 0 := by rw [hn, e]; rfl
    refine wpAny_bind (wpAny_tryCatch (W.done _ _ _ (by rw [z]; exact ⟨gI, gl⟩) fun h' tk kept => ?_))
    refine wpAny_bind (wpAny_rule (wpAny_pure ?_))
    exact h0 e _ tk fun b o q => kept b o (away b o q).1 (old b o q)
  | cons y r =>
    have pos : 0 < its.toArray.size := by rw [hn, e]; exact Nat.succ_pos _
    refine wpAny_bind (wpAny_tryCatch (W.item 0 _ _ _ pos ⟨gI, gl⟩ fun v h' tk hv st' kept => ?_))
    have hS1 := kept _ _ (by simpa using nS) gS
    refine wpAny_bind (wpAny_pure ?_)
    refine wpAny_bind ?_
    refine wpAny_updateSeq hS1 rfl ?_
    rw [nm]
    refine wpAny_pure ⟨plainId_quiet F.plain_max_loop _, ?_⟩
    have ap : (s.heap.push { cls := .type "list_iterator", data := .fields #[.ref l, .int 0 0] }).objs.size ∉ [s.heap.objs.size, l] := by
      intro hm
      rcases List.mem_cons.mp hm with hm | hm
      · exact nS hm
      · have q := List.mem_singleton.mp hm
        rw [sz] at q
        rw [← q] at below
        exact absurd below (by simp [Nat.not_lt])
    refine maxD_turns (f := fun i => ns.getD i 0) W (fun i v h => hi i v (by simpa using h)) ap (its.toArray.size - 1) 0 0 _ v _ (by omega) (W.frame _ _ _ st' fun a ha o q => ?_) hv (Nat.le_refl _) (fun i hi => by rw [Nat.le_zero.mp hi]; exact Int.le_refl _) (Heap.get?_update_self _ hS1 rfl) fun b v' h2 tk2 lt hv' top kept' => ?_
    · exact (Heap.get?_update_other _ _ (fun z => ap (by rw [z]; exact ha))).trans q
    · obtain ⟨t, ev⟩ := hi b v' (by simpa using hv')
      subst ev
      refine h1 _ t h2 tk2 ?_ (fun x hx => ?_) fun a o q => kept' a o (away a o q).1 (away a o q).2 ((Heap.get?_update_other _ _ (Ne.symm (away a o q).2)).trans (kept a o (away a o q).1 (old a o q)))
      · have lb : b < ns.length := by rw [← hn]; exact lt
        show ns.getD b 0 ∈ ns
        rw [List.getD_eq_getElem?_getD, List.getElem?_eq_getElem lb]
        exact List.getElem_mem lb
      · obtain ⟨i, hi', rfl⟩ := List.mem_iff_getElem.mp hx
        have := top i (by rw [hn]; exact hi')
        rw [List.getD_eq_getElem?_getD, List.getElem?_eq_getElem hi'] at this
        exact this
/-- max(xs, default=z) of a list of ints -/
def rMaxDf (K : PySem.W.Frag) : List V → List V → Hp → VK → Prop := fun vs zs H Q => ∃ (a : Addr) (ns : List Int) (z : Int), vs = [.ref a] ∧ zs = [.int z] ∧ SqL K H a (ns.map V.int) ∧ (ns = [] → Q (.int z) H) ∧ ∀ m, m ∈ ns → (∀ y, y ∈ ns → y ≤ m) → Q (.int m) H
theorem cr_maxDf {X : Cx} (hc : X.calm = true) : CallRK X (.builtin "max") [Str.ofString "default"] (rMaxDf X.K) := by
  intro pins s σ H vs zs us ws Q I r rz h
  obtain ⟨a, ns, z, rfl, rfl, hs, q0, q1⟩ := h
  obtain ⟨its, rv, hl, _⟩ := I.list hs
  obtain rfl := Vals.ref1 r
  obtain ⟨w1, rfl, e1⟩ := vals1 rz
  have len : its.length = ns.length := by rw [← rv.length, List.length_map]
  refine call_maxD (ns := ns) (I.ok.hd hc) hl.isList (fun i v hv => ?_) len (fun e h' tk hk => ⟨.int z, H, I.kept hk, e1, q0 e⟩) fun m t h' tk hm top hk => ⟨.int m, H, I.kept hk, ⟨t, rfl⟩, q1 m hm top⟩
  have lt : i < ns.length := by rw [← len]; exact (List.getElem?_eq_some_iff.mp hv).1
  obtain ⟨u, hu, ru⟩ := rv.get (i := i) (x := V.int ns[i]) (by rw [List.getElem?_map, List.getElem?_eq_getElem lt]; rfl)
  rw [hv] at hu
  cases hu
  obtain ⟨t, rfl⟩ := ru
  exact ⟨t, by rw [List.getD_eq_getElem?_getD, List.getElem?_eq_getElem lt]; rfl⟩
/-! ### zip(tuple, list) -/
def Itzm (K : PySem.W.Frag) (a b : Addr) : It :=
  ⟨fun i H => ∃ (xs ys : List V) (x y : V), SqT K H a xs ∧ SqL K H b ys ∧ xs[i]? = some x ∧ ys[i]? = some y,
    fun i H v H' => ∃ T x y, v = .ref T ∧ H T = none ∧ H' = upd H T (.tup [x, y]) ∧ (∀ xs, SqT K H a xs → xs[i]? = some x) ∧ ∀ ys, SqL K H b ys → ys[i]? = some y,
    fun i H => ∃ xs ys : List V, SqT K H a xs ∧ SqL K H b ys ∧ i ≤ xs.length ∧ i ≤ ys.length ∧ (i = xs.length ∨ i = ys.length)⟩
theorem turn_zipM {P : Program} {w : World} {K : PySem.W.Frag} {elts : List Expr} {kk : Nat} {tpos : Pos} {a b z TI TO i1 i2 : Addr} (D : ZipSep2 z TI TO i1 i2 [i1, a] [i2, b]) :
    Turn P w K (.Tuple elts kk tpos) (Itzm K a b) [z, TI, TO, i1, i2] z (fun i h => IsZip h z TI TO .none ∧ IsTupOf2 h TI (.ref i1) (.ref i2) ∧ (∃ x y, IsTupOf2 h TO x y) ∧ h.IsTupleIter i1 a i ∧ h.IsListIter i2 b i) where
  mem := by simp
  obj := fun i h st c hc => by
    obtain ⟨hz, hTI, ⟨x, y, hTO⟩, ⟨o1, e1, _, d1⟩, ⟨o2, e2, _, d2⟩⟩ := st
    have which : c = z ∨ c = TI ∨ c = TO ∨ c = i1 ∨ c = i2 := by simpa using hc
    rcases which with rfl | rfl | rfl | rfl | rfl
    · exact ⟨_, hz, fun v q => nomatch q⟩
    · exact ⟨_, hTI, fun v q => nomatch q⟩
    · exact ⟨_, hTO, fun v q => nomatch q⟩
    · exact ⟨o1, e1, fun v q => by rw [d1] at q; cases q⟩
    · exact ⟨o2, e2, fun v q => by rw [d2] at q; cases q⟩
  keep := fun i h h' ⟨hz, hTI, ⟨x, y, hTO⟩, h1, h2⟩ k =>
    ⟨k z (by simp) _ hz, k TI (by simp) _ hTI, ⟨x, y, k TO (by simp) _ hTO⟩, h1.at fun o q => k i1 (by simp) o q, h2.at fun o q => k i2 (by simp) o q⟩
  item := by
    intro X hP hw hK hc i pins s σ H E I hf st hg
    subst hP hw hK
    obtain ⟨hz, hTI, ⟨x0, y0, hTO⟩, h1, h2⟩ := st
    obtain ⟨xs, ys, x, y, hqx, hqy, hx, hy⟩ := hg
    obtain ⟨its, rv, p, _⟩ := I.tuple hqx
    obtain ⟨its2, rv2, p2, _⟩ := I.list hqy
    obtain ⟨u, hu, ru⟩ := rv.get hx
    obtain ⟨u2, hu2, ru2⟩ := rv2.get hy
    have l1 : i < its.toArray.size := by have := (List.getElem?_eq_some_iff.mp hu).1; simpa using this
    have l2 : i < its2.toArray.size := by have := (List.getElem?_eq_some_iff.mp hu2).1; simpa using this
    have hzl : z < s.heap.objs.size := Heap.lt_size hz
    have ht : s.heap.IsTuple a its.toArray := p
    have a1 : a ≠ i1 := by
      intro e; subst e
      obtain ⟨o, ho, c1, _⟩ := ht
      obtain ⟨o', ho', c2, _⟩ := h1
      rw [ho] at ho'; cases ho'
      rw [c1] at c2; exact absurd c2 (by simp)
    have b2 : b ≠ i2 := by
      intro e; subst e
      obtain ⟨o, ho, c1, _⟩ := p2.isList
      obtain ⟨o', ho', c2, _⟩ := h2
      rw [ho] at ho'; cases ho'
      rw [c1] at c2; exact absurd c2 (by simp)
    refine wpAny_pyNext_zipD2_item D (Draws.tuple (A := X.A.in1) (by exact I.ok.hd hc) i1 a a1 its.toArray) (Draws.list (A := X.A.in1) (by exact I.ok.hd hc) i2 b b2 its2.toArray) hz hTI hTO ⟨h1, ht⟩ ⟨h2, p2.isList⟩ l1 l2 fun y1 y2 h' tk e1 e2 z' TO' st1 st2 hT hsz hk => ?_
    have eq1 : y1 = u := by have q : its[i]? = some y1 := by simpa using e1
                            rw [hu] at q; exact (Option.some.inj q).symm
    have eq2 : y2 = u2 := by have q : its2[i]? = some y2 := by simpa using e2
                             rw [hu2] at q; exact (Option.some.inj q).symm
    subst eq1 eq2
    have n1 : i1 ≠ z := fun q => D.zf1 (by rw [← q]; exact D.mem1)
    have n2 : i2 ≠ z := fun q => D.zf2 (by rw [← q]; exact D.mem2)
    refine ⟨_, rfl, wpAny_letOwnedTupleGo_zip (s := { s with heap := h', toks := tk }) z' fun h'' z'' sb => ?_⟩
    have hT2 : h''.get? s.heap.objs.size = some { cls := .type "tuple", data := .seq #[y1, y2] } := (sb.2 _ (Nat.ne_of_gt hzl)).trans hT
    have new : ObjOk X.prog X.w (upd H s.heap.objs.size (.tup [x, y])) h'' s.heap.objs.size (.tup [x, y]) :=
      ⟨by show 2 ≤ sizeLine; decide, [y1, y2], .cons ru (.cons ru2 .nil), ⟨_, hT2, rfl, _, rfl⟩⟩
    have I1 : Inv X pins σ (upd H s.heap.objs.size (.tup [x, y])) { s with heap := h'', toks := tk } :=
      I.turnedNew (ch := [z, TI, TO, i1, i2]) (fun c o hb q => (sb.2 c (fun q' => hb (by simp [q']))).trans (hk c o (fun q' => hb (by simp [q'])) (fun q' => hb (by simp [q'])) (fun q' => hb (by simp [q'])) (fun q' => hb (by simp [q'])) q)) hf (Nat.le_refl _) new
    refine ⟨.ref s.heap.objs.size, _, I1, rfl, ⟨_, x, y, rfl, I.hok.fresh (Nat.le_refl _), rfl, fun l hl => by rw [I.tuple_inj hl hqx]; exact hx, fun l hl => by rw [I.list_inj hl hqy]; exact hy⟩, ⟨z'', ?_, ⟨y1, y2, ?_⟩, ?_, ?_⟩, fun c hcm => ?_⟩
    · exact (sb.2 _ D.TIz).trans (hk _ _ D.TIz D.TITO D.TIi1 D.TIi2 hTI)
    · exact (sb.2 _ D.TOz).trans TO'
    · exact st1.1.at fun o q => (sb.2 _ n1).trans q
    · exact st2.1.at fun o q => (sb.2 _ n2).trans q
    · have hlt : c < s.heap.objs.size := by
        have which : c = z ∨ c = TI ∨ c = TO ∨ c = i1 ∨ c = i2 := by simpa using hcm
        rcases which with rfl | rfl | rfl | rfl | rfl
        · exact hzl
        · exact Heap.lt_size hTI
        · exact Heap.lt_size hTO
        · obtain ⟨_, e1, _⟩ := h1; exact Heap.lt_size e1
        · obtain ⟨_, e2, _⟩ := h2; exact Heap.lt_size e2
      rw [upd_ne (Nat.ne_of_lt hlt)]
      exact (hf c hcm).1
  done := by
    intro X hP hw hK hc i pins s σ H E I hf st hg
    subst hP hw hK
    obtain ⟨hz, hTI, ⟨x0, y0, hTO⟩, h1, h2⟩ := st
    obtain ⟨xs, ys, hqx, hqy, le1, le2, hend⟩ := hg
    obtain ⟨its, rv, p, _⟩ := I.tuple hqx
    obtain ⟨its2, rv2, p2, _⟩ := I.list hqy
    have q1 := rv.length
    have q2 := rv2.length
    have ht : s.heap.IsTuple a its.toArray := p
    have a1 : a ≠ i1 := by
      intro e; subst e
      obtain ⟨o, ho, c1, _⟩ := ht
      obtain ⟨o', ho', c2, _⟩ := h1
      rw [ho] at ho'; cases ho'
      rw [c1] at c2; exact absurd c2 (by simp)
    have b2 : b ≠ i2 := by
      intro e; subst e
      obtain ⟨o, ho, c1, _⟩ := p2.isList
      obtain ⟨o', ho', c2, _⟩ := h2
      rw [ho] at ho'; cases ho'
      rw [c1] at c2; exact absurd c2 (by simp)
    refine wpAny_pyNext_zipD2_end D (Draws.tuple (A := X.A.in1) (by exact I.ok.hd hc) i1 a a1 its.toArray) (Draws.list (A := X.A.in1) (by exact I.ok.hd hc) i2 b b2 its2.toArray) hz hTI hTO ⟨h1, ht⟩ ⟨h2, p2.isList⟩ (by simp; omega) (by simp; omega) (by simp; omega) fun h' tk hk => ⟨rfl, I.turnedL (ch := [z, TI, TO, i1, i2]) (fun c o hb q =>
      hk c o (fun q' => hb (by simp [q'])) (fun q' => hb (by simp [q'])) (fun q' => hb (by simp [q'])) (fun q' => hb (by simp [q'])) q) hf⟩
  self := fun A i s Q E st h => wpAny_pyIter_zip st.1 h
def iZipM (K : PySem.W.Frag) (ta : TA) : TI := fun σ H R => ta σ H fun vs H1 => ∃ a b xs ys, vs = [.ref a, .ref b] ∧ SqT K H1 a xs ∧ SqL K H1 b ys ∧ R (Itzm K a b) H1
theorem pi_zipM {X : Cx} {e e2 : Expr} {ta : TA} {p pos tpos : Pos} {elts : List Expr} {kk : Nat} (hg : Gl X "zip") (hm : X.mg "zip" = none) (ha : PA X [e, e2] ta)
    (hs : starEach [e, e2] X.env = (false, eval e X.env) :: starEach [e2] X.env := by rfl) (hpl : (backTo pos (starEach [e2] X.env)).any (·.1) = false := by rfl) :
    PI X (.Tuple elts kk tpos) (.Call (.Name "zip" p) [e, e2] [] pos) (iZipM X.K ta) := by
  refine ⟨fun pins s σ H R I h => ?_⟩
  refine Call_ (ld_blt I hg hm PyProof.Rows.boot_zip (PyProof.Rows.callWith_type1 (thn (ha.run pos pins s σ H _ I h) fun us s1 ⟨vs, H1, I1, r1, q1⟩ => ?_) hs hpl))
  obtain ⟨a, b, xs, ys, ex, hqx, hqy, q⟩ := q1
  subst ex
  cases r1 with
  | cons r rr =>
    cases rr with
    | cons r' rr =>
      cases rr
      cases r
      cases r'
      obtain ⟨its, rv, p1, _⟩ := I1.tuple hqx
      obtain ⟨its2, rv2, p2, _⟩ := I1.list hqy
      have ht : s1.heap.IsTuple a its.toArray := p1
      have la : a < s1.heap.objs.size := by obtain ⟨_, z, _⟩ := id ht; exact Heap.lt_size z
      have lb : b < s1.heap.objs.size := p2.lt
      refine zip_begins2 (begins_tuple a its.toArray) (begins_list b its2.toArray) ht p2.isList fun h' hz hTI hTO g1 g2 hsz hk => wpAny_pyIter_zip hz ?_
      have I2 : Inv X pins σ H1 { s1 with heap := h' } := I1.kept (t' := s1.toks) hk
      refine ⟨s1.heap.objs.size + 4, [s1.heap.objs.size + 4, s1.heap.objs.size + 2, s1.heap.objs.size + 3, s1.heap.objs.size, s1.heap.objs.size + 1], _, _, H1, rfl, I2,
        turn_zipM (zip_sep2 (N := s1.heap.objs.size) (fp1 := [a]) (fp2 := [b]) (fun c hc => by rw [List.mem_singleton.mp hc]; exact la) (fun c hc => by rw [List.mem_singleton.mp hc]; exact lb)), ⟨hz, hTI, ⟨_, _, hTO⟩, ⟨_, g1, rfl, rfl⟩, ⟨_, g2, rfl, rfl⟩⟩, fun c hcm => ?_, q⟩
      have which : c = s1.heap.objs.size + 4 ∨ c = s1.heap.objs.size + 2 ∨ c = s1.heap.objs.size + 3 ∨ c = s1.heap.objs.size ∨ c = s1.heap.objs.size + 1 := by simpa using hcm
      have hle : s1.heap.objs.size ≤ c := by
        rcases which with z | z | z | z | z <;> (rw [z]; first | exact Nat.le_add_right _ _ | exact Nat.le_refl _)
      exact I1.fpOk hle (I1.hok.fresh hle)
theorem walk_zipM {K : PySem.W.Frag} {a b : Addr} {xs ys : List V} (hl : xs.length = ys.length) : Walk (Itzm K a b) xs.length (fun H => SqT K H a xs ∧ SqL K H b ys) (YPair (fun i => xs[i]?) (fun i => ys[i]?)) := by
  refine ⟨fun i _ hi q => ?_, fun _ q => ⟨xs, ys, q.1, q.2, Nat.le_refl _, by omega, .inl rfl⟩, fun i H v H' _ q y => ?_⟩
  · have h2 : i < ys.length := by omega
    exact ⟨xs, ys, xs[i], ys[i], q.1, q.2, by simp [hi], by simp [h2]⟩
  · obtain ⟨T, x, z, h1, h2, h3, h4, h5⟩ := y
    exact ⟨T, x, z, h1, h2, h3, h4 xs q.1, h5 ys q.2⟩
/-! ### rows, pieces, cells -/
inductive Cell where
  | old (k : Int) | new (b : Int)
  deriving DecidableEq
inductive Row where
  | copy (b n : Int) | run (b n : Int) | bring (bs : List Int)
  deriving DecidableEq
def Cell.tup : Cell → List V
  | .old k => [.str "old", .int k]
  | .new b => [.str "new", .int b]
def Row.tup : Row → List V
  | .copy b n => [.str "copy", .int b, .int n]
  | .run b n => [.str "run", .int b, .int n]
  | .bring bs => [.str "bring", .byt (byteArr bs)]
def Row.len : Row → Int
  | .copy _ n => n
  | .run _ n => n
  | .bring bs => bs.length
def Row.ok (c : Int) : Row → Prop
  | .copy b n => 0 ≤ b ∧ 1 ≤ n ∧ b + n ≤ c
  | .run b n => 0 ≤ b ∧ b < 256 ∧ 1 ≤ n
  | .bring bs => 1 ≤ (bs.length : Int) ∧ B8 bs
def total : List Row → Int
  | [] => 0
  | r :: l => r.len + total l
theorem total_app : ∀ (a b : List Row), total (a ++ b) = total a + total b
  | [], b => by show total b = 0 + total b; omega
  | r :: a, b => by
    have := total_app a b
    show r.len + total (a ++ b) = r.len + total a + total b
    omega
theorem Row.len_pos {c : Int} : ∀ {r : Row}, r.ok c → 1 ≤ r.len
  | .copy _ _, h => h.2.1
  | .run _ _, h => h.2.2
  | .bring _, h => h.1
theorem total_nn {c : Int} : ∀ {l : List Row}, (∀ r ∈ l, r.ok c) → 0 ≤ total l
  | [], _ => by show (0 : Int) ≤ 0; decide
  | r :: l, h => by
    have a := Row.len_pos (h r List.mem_cons_self)
    have b := total_nn (l := l) fun x hx => h x (List.mem_cons_of_mem _ hx)
    show 0 ≤ r.len + total l
    omega
theorem len_le_total {c : Int} : ∀ {l : List Row}, (∀ r ∈ l, r.ok c) → (l.length : Int) ≤ total l
  | [], _ => by show (0 : Int) ≤ 0; decide
  | r :: l, h => by
    have a := Row.len_pos (h r List.mem_cons_self)
    have b := len_le_total (l := l) fun x hx => h x (List.mem_cons_of_mem _ hx)
    show ((l.length + 1 : Nat) : Int) ≤ r.len + total l
    omega
def CellV (H : Hp) (v : V) (c : Cell) : Prop := ∃ p, v = .ref p ∧ H p = some (.tup c.tup)
def PieceV (H : Hp) (v : V) (r : Row) : Prop := ∃ p, v = .ref p ∧ H p = some (.tup r.tup)
def RowV (H : Hp) (v : V) : Row → Prop
  | .bring bs => ∃ p q, v = .ref p ∧ H p = some (.tup [.str "bring", .ref q]) ∧ H q = some (.lst (bs.map V.int))
  | r => ∃ p, v = .ref p ∧ H p = some (.tup r.tup)
/-- the tuples stay -/
def Tups (H H' : Hp) : Prop := ∀ p xs, H p = some (.tup xs) → H' p = some (.tup xs)
theorem Same.tups {H H' : Hp} (s : Same H H') : Tups H H' := fun p xs h => s p _ h
theorem But.tups {K : PySem.W.Frag} {a : Addr} {ns : List Int} {d : Addr} {H H' : Hp} (b : But d H H') (D : Dice K a ns H d) : Tups H H' := fun p xs h => tup_but D b h
theorem Tups.lst {H : Hp} {p : Addr} {xs : List V} {o : HO} (h : H p = some (.lst xs)) : Tups H (upd H p o) := fun q ys e => by rw [upd_ne (ne_of e h tup_lst)]; exact e
theorem Tups.trans {H H1 H2 : Hp} (a : Tups H H1) (b : Tups H1 H2) : Tups H H2 := fun p xs h => b p xs (a p xs h)
theorem CellV.tups {H H' : Hp} {v : V} {c : Cell} (t : Tups H H') (h : CellV H v c) : CellV H' v c := let ⟨p, e, x⟩ := h; ⟨p, e, t _ _ x⟩
theorem PieceV.tups {H H' : Hp} {v : V} {c : Row} (t : Tups H H') (h : PieceV H v c) : PieceV H' v c := let ⟨p, e, x⟩ := h; ⟨p, e, t _ _ x⟩
theorem RowV.keep {H H' : Hp} {v : V} : ∀ {r : Row}, Tups H H' → (∀ q ns, H q = some (.lst (List.map V.int ns)) → H' q = some (.lst (List.map V.int ns))) → RowV H v r → RowV H' v r
  | .copy _ _, t, _, ⟨p, e, x⟩ => ⟨p, e, t _ _ x⟩
  | .run _ _, t, _, ⟨p, e, x⟩ => ⟨p, e, t _ _ x⟩
  | .bring _, t, l, ⟨p, q, e, x, y⟩ => ⟨p, q, e, t _ _ x, l _ _ y⟩
theorem RowV.same {H H' : Hp} {v : V} {r : Row} (s : Same H H') (h : RowV H v r) : RowV H' v r := h.keep (Same.tups s) (fun q ns e => s _ _ e)
theorem RowV.but {K : PySem.W.Frag} {a : Addr} {ns : List Int} {H H' : Hp} {d : Addr} {v : V} {r : Row} (D : Dice K a ns H d) (b : But d H H') (h : RowV H v r) : RowV H' v r := h.keep (But.tups b D) (fun q ns e => ints_but D b e)
theorem RowV.isRef {H : Hp} {v : V} : ∀ {r : Row}, RowV H v r → ∃ p, v = .ref p
  | .copy _ _, ⟨p, e, _⟩ => ⟨p, e⟩
  | .run _ _, ⟨p, e, _⟩ => ⟨p, e⟩
  | .bring _, ⟨p, _, e, _⟩ => ⟨p, e⟩
theorem pairedMem {α β : Type} {F G : α → β → Prop} : ∀ {l : List α} {m : List β}, Paired F l m → (∀ a ∈ l, ∀ b ∈ m, F a b → G a b) → Paired G l m
  | _, _, .nil, _ => .nil
  | _, _, .cons r t, f => .cons (f _ List.mem_cons_self _ List.mem_cons_self r) (pairedMem t fun a ha b hb => f a (List.mem_cons_of_mem _ ha) b (List.mem_cons_of_mem _ hb))
theorem pairedMap {α β : Type} {F G : α → β → Prop} {l : List α} {m : List β} (h : Paired F l m) (f : ∀ a b, F a b → G a b) : Paired G l m := pairedMem h fun a _ b _ => f a b
theorem pairedApp {α β : Type} {F : α → β → Prop} : ∀ {l l' : List α} {m m' : List β}, Paired F l m → Paired F l' m' → Paired F (l ++ l') (m ++ m')
  | _, _, _, _, .nil, s => s
  | _, _, _, _, .cons r t, s => .cons r (pairedApp t s)
theorem pairedAt {α β : Type} {F : α → β → Prop} : ∀ {l : List α} {m : List β} {i : Nat} {x : α}, Paired F l m → l[i]? = some x → ∃ y, m[i]? = some y ∧ F x y
  | _, _, _, _, .nil, e => by simp at e
  | _, _, 0, _, .cons r _, e => by simp at e; subst e; exact ⟨_, rfl, r⟩
  | _, _, i + 1, x, .cons _ t, e => by
    obtain ⟨y, h1, h2⟩ := pairedAt (i := i) (x := x) t (by simpa using e)
    exact ⟨y, by simpa using h1, h2⟩
theorem pairedAt' {α β : Type} {F : α → β → Prop} : ∀ {l : List α} {m : List β} {i : Nat} {y : β}, Paired F l m → m[i]? = some y → ∃ x, l[i]? = some x ∧ F x y
  | _, _, _, _, .nil, e => by simp at e
  | _, _, 0, _, .cons r _, e => by simp at e; subst e; exact ⟨_, rfl, r⟩
  | _, _, i + 1, y, .cons _ t, e => by
    obtain ⟨x, h1, h2⟩ := pairedAt' (i := i) (y := y) t (by simpa using e)
    exact ⟨x, by simpa using h1, h2⟩
/-- a list of rows at p -/
def RowsAt (H : Hp) (p : Addr) (rows : List Row) : Prop := ∃ vs, H p = some (.lst vs) ∧ Paired (RowV H) vs rows
def PatchAt (H : Hp) (v : V) (rows : List Row) : Prop := ∃ p vs, v = .ref p ∧ H p = some (.tup vs) ∧ Paired (PieceV H) vs rows
def CellsAt (H : Hp) (p : Addr) (cs : List Cell) : Prop := ∃ vs, H p = some (.lst vs) ∧ Paired (CellV H) vs cs
theorem RowsAt.same {H H' : Hp} {p : Addr} {rows : List Row} (s : Same H H') (h : RowsAt H p rows) : RowsAt H' p rows := let ⟨vs, e, r⟩ := h; ⟨vs, s _ _ e, pairedMap r fun _ _ x => x.same s⟩
theorem CellsAt.same {H H' : Hp} {p : Addr} {cs : List Cell} (s : Same H H') (h : CellsAt H p cs) : CellsAt H' p cs := let ⟨vs, e, r⟩ := h; ⟨vs, s _ _ e, pairedMap r fun _ _ x => x.tups (Same.tups s)⟩
theorem PatchAt.tups {H H' : Hp} {v : V} {rows : List Row} (s : Tups H H') (h : PatchAt H v rows) : PatchAt H' v rows := let ⟨p, vs, e, x, r⟩ := h; ⟨p, vs, e, s _ _ x, pairedMap r fun _ _ x => x.tups s⟩
theorem RowsAt.but {K : PySem.W.Frag} {a : Addr} {ns : List Int} {H H' : Hp} {d p : Addr} {rows : List Row} (D : Dice K a ns H d) (b : But d H H') (hn : p ≠ d) (h : RowsAt H p rows) : RowsAt H' p rows :=
  let ⟨vs, e, r⟩ := h; ⟨vs, b _ _ hn e, pairedMap r fun _ _ x => x.but D b⟩
/-- one row more at the end of the list -/
theorem rows_put {H : Hp} {p : Addr} {vs : List V} {rows : List Row} {v : V} {r : Row} (e : H p = some (.lst vs)) (h : Paired (RowV H) vs rows) (hv : RowV H v r) (hq : ∀ bs p' q, r = .bring bs → H p' = some (.tup [.str "bring", .ref q]) → v = .ref p' → q ≠ p) :
    RowsAt (upd H p (.lst (vs ++ [v]))) p (rows ++ [r]) := by
  refine ⟨_, upd_same, pairedApp (pairedMem h fun a ha b _ x => ?_) (.cons ?_ .nil)⟩
  · refine x.keep (Tups.lst e) fun q ns z => ?_
    rw [upd_ne]
    · exact z
    · rintro rfl
      rw [e] at z
      obtain ⟨u, rfl⟩ := x.isRef
      have z' : vs = ns.map V.int := by injection z with z; injection z
      rw [z'] at ha
      obtain ⟨_, _, z2⟩ := List.mem_map.mp ha
      cases z2
  · cases r with
    | copy b n => obtain ⟨u, e1, e2⟩ := hv; exact ⟨u, e1, Tups.lst e _ _ e2⟩
    | run b n => obtain ⟨u, e1, e2⟩ := hv; exact ⟨u, e1, Tups.lst e _ _ e2⟩
    | bring bs =>
      obtain ⟨u, q, e1, e2, e3⟩ := hv
      exact ⟨u, q, e1, Tups.lst e _ _ e2, by rw [upd_ne (hq bs u q rfl e2 e1)]; exact e3⟩
/-! ### _law_bytes, _law_rows, _law_handed, bytes_of, is_number, numbers_of -/
def spBytes (K : PySem.W.Frag) : Sp := fun vs H Q _ => ∃ (a : Addr) (ns : List Int) (d : Addr) (m : Int), vs = [.ref d, .int m] ∧ Dice K a ns H d ∧ 0 ≤ m ∧ m ≤ 1000 ∧
  ∀ H' p bs, But d H H' → Dice K a ns H' d → H p = none → H' p = some (.lst (List.map V.int bs)) → B8 bs → (bs.length : Int) ≤ m → Q (.ref p) H'
def spRows (K : PySem.W.Frag) : Sp := fun vs H Q _ => ∃ (a : Addr) (ns : List Int) (d : Addr) (c m : Int), vs = [.ref d, .int c, .int m] ∧ Dice K a ns H d ∧ 0 ≤ c ∧ c ≤ 1000 ∧ 0 ≤ m ∧ m ≤ 1000 ∧
  ∀ H' p rows, But d H H' → Dice K a ns H' d → H p = none → RowsAt H' p rows → (∀ r ∈ rows, r.ok c) → total rows ≤ m → Q (.ref p) H'
def spIsNum : Sp := fun vs H Q _ => ∃ z lo hi : Int, vs = [.int z, .int lo, .int hi] ∧ Q (.bl (decide (lo ≤ z) && decide (z ≤ hi))) H
def spBytesOf (K : PySem.W.Frag) : Sp := fun vs H Q _ => ∃ (p : Addr) (bs : List Int), vs = [.ref p] ∧ SqL K H p (bs.map V.int) ∧ B8 bs ∧ Q (.byt (byteArr bs)) H
def spNumsOf : Sp := fun vs H Q _ => ∃ bs : List Int, vs = [.byt (byteArr bs)] ∧ B8 bs ∧ bs.length ≤ 100000 ∧ ∀ p, H p = none → Q (.ref p) (upd H p (.lst (bs.map V.int)))
def spHanded : Sp := fun vs H Q _ => ∃ (p : Addr) (rows : List Row) (c : Int), vs = [.ref p] ∧ RowsAt H p rows ∧ (∀ r ∈ rows, r.ok c) ∧ rows.length ≤ 10000 ∧ ∀ H' v, Same H H' → PatchAt H' v rows → Q v H'
section
variable {P : Program} {w : World} {K : PySem.W.Frag} {mg : Str → Option Value} {base : Heap}
theorem ok_is_number (T : All K mg) : FnOk P w K mg base CX0 1 T.d_is_number.f T.d_is_number.fd ["what", "least", "most"] spIsNum := by
  refine T.d_is_number.F.ok sc_is_number (fun vs H Q E h => ?_) (fun cdv A outer s H vs Q E hr h => ?_)
  · obtain ⟨z, lo, hi, rfl, _⟩ := h
    rfl
  · obtain ⟨z, lo, hi, rfl, k⟩ := h
    refine ⟨_, (pss_one 
      (ps_ret (pe_and (pe_callB call_isi (by rfl) T.b_isinstance (by decide +kernel) (pa_cons (pv 0) (pa_cons (pe_bltn (v := .ty "int") (by rfl) T.b_int (by decide +kernel) rfl) pa_nil))) (pe_and (pe_not (pe_callB call_isi (by rfl) T.b_isinstance (by decide +kernel) (pa_cons (pv 0) (pa_cons (pe_bltn (v := .ty "bool") (by rfl) T.b_bool (by decide +kernel) rfl) pa_nil)))) (pe_one (pe_chain op_le op_le (pv 1) (pv 0) (pv 2))))))), ?_⟩
    refine ⟨_, rfl, _, _, _, _, true, rfl, .ty _, .base (.int z), kit_ty (by decide +kernel), true, rfl, iteT ?_⟩
    refine ⟨_, rfl, _, _, _, _, false, rfl, .ty _, .base (.int z), kit_ty (by decide +kernel), false, rfl, true, rfl, iteT ?_⟩
    refine ⟨_, rfl, _, rfl, _, _, rfl, rfl, decide (lo ≤ z), rfl, ?_⟩
    by_cases h1 : lo ≤ z
    · rw [decide_eq_true h1] at k ⊢
      refine iteT ⟨_, rfl, _, _, rfl, rfl, ?_⟩
      exact k
    · rw [decide_eq_false h1] at k ⊢
      exact iteF k
theorem ok_bytes_of (T : All K mg) : FnOk P w K mg base CX0 2 T.d_bytes_of.f T.d_bytes_of.fd ["numbers"] (spBytesOf K) := by
  have G_is_number : FnOk P w K mg base CX0 1 T.d_is_number.f T.d_is_number.fd ["what", "least", "most"] spIsNum := ok_is_number T
  refine T.d_bytes_of.F.ok sc_bytes_of (fun vs H Q E h => ?_) (fun cdv A outer s H vs Q E hr h => ?_)
  · obtain ⟨p, bs, rfl, _⟩ := h
    rfl
  · obtain ⟨p, bs, rfl, hS, hb, k⟩ := h
    refine ⟨_, (pss_cons 
      (ps_for PassesOwn.never rfl (pi_list (pv 0)) (pg_name (i := 1) sc_bytes_of.nd rfl (Or.inl rfl)) (pss_one 
      (ps_if (pt_not (pt_val (pe_call G_is_number (hr.mono (by decide)) rfl T.d_is_number.m T.d_is_number.F.kp T.d_is_number.b .nil pass0 (pa_cons (pv 1) (pa_cons pe_int (pa_cons (pe_glob (v := .int 255) rfl T.c_LAST_BYTE ⟨_, rfl⟩) pa_nil)))))) (pss_one ps_never) pss_nil))) (pss_one 
      (ps_ret (pe_bytesOf rfl (by rfl) T.b_bytes (pv 0))))), ?_⟩
    refine ⟨_, rfl, p, rfl, ⟨_, hS⟩, for_list (K := K) (a := p) (xs := bs.map V.int) (fun i σ H' => ∃ v : Option V, σ = [some (.ref p), v] ∧ H' = H)
      ⟨none, rfl, rfl⟩ (fun i σ H' _ ⟨_, _, e⟩ => by rw [e]; exact hS) ?_ ?_⟩
    · rintro i y σ H' hi ⟨v, rfl, rfl⟩
      obtain ⟨z, rfl, hz⟩ := at_map hi
      have hm := hb z (List.mem_of_getElem? hz)
      refine ⟨_, rfl, z, 0, 255, rfl, _, rfl, ?_⟩
      rw [decide_eq_true hm.1, decide_eq_true (show z ≤ 255 by omega)]
      refine iteF ?_
      exact ⟨_, rfl, rfl⟩
    · rintro σ H' ⟨v, rfl, rfl⟩
      refine ⟨_, rfl, .inr ⟨p, bs, rfl, hS, hb, k⟩⟩
end
section
variable {P : Program} {w : World} {K : PySem.W.Frag} {mg : Str → Option Value} {base : Heap}
theorem RowsAt.at {H : Hp} {p : Addr} {rows : List Row} (h : RowsAt H p rows) : ∃ vs, H p = some (.lst vs) ∧ vs.length = rows.length := by
  obtain ⟨vs, e, r⟩ := h
  exact ⟨vs, e, Paired.length r⟩
end
/-! ### what a patch tells -/
def cellsR : Row → List Cell
  | .copy b n => (List.range n.toNat).map fun i => Cell.old (b + (i : Nat))
  | .run b n => List.replicate n.toNat (Cell.new b)
  | .bring bs => bs.map Cell.new
def cellsOf (rows : List Row) : List Cell := rows.flatMap cellsR
def Good (rows : List Row) : Prop := (∀ r ∈ rows, r.ok 200) ∧ total rows ≤ 200
def endsOf : List Row → List Int
  | [] => []
  | .copy b n :: l => (b + n) :: endsOf l
  | _ :: l => endsOf l
def top0 : List Int → Int
  | [] => 0
  | x :: l => if top0 l < x then x else top0 l
def needsOf (rows : List Row) : Int := top0 (endsOf rows)
def valOf (es : List Int) : Cell → Int
  | .old k => es.getD k.toNat 0
  | .new b => b
def doneOf (rows : List Row) (es : List Int) : List Int := (cellsOf rows).map (valOf es)
theorem Row.ok_mono {c e : Int} (h : c ≤ e) : ∀ {r : Row}, r.ok c → r.ok e
  | .copy _ _, ⟨a, b, d⟩ => ⟨a, b, by omega⟩
  | .run _ _, x => x
  | .bring _, x => x
theorem top0_ge : ∀ {l : List Int} {y : Int}, y ∈ l → y ≤ top0 l
  | x :: l, y, h => by
    show y ≤ if top0 l < x then x else top0 l
    rcases List.mem_cons.mp h with rfl | h
    · split <;> omega
    · have := top0_ge h
      split <;> omega
theorem top0_is : ∀ (l : List Int), top0 l = 0 ∨ top0 l ∈ l
  | [] => .inl rfl
  | x :: l => by
    show (if top0 l < x then x else top0 l) = 0 ∨ (if top0 l < x then x else top0 l) ∈ x :: l
    split
    · exact .inr List.mem_cons_self
    · rcases top0_is l with h | h
      · exact .inl h
      · exact .inr (List.mem_cons_of_mem _ h)
theorem top0_nn : ∀ (l : List Int), 0 ≤ top0 l
  | [] => by show (0 : Int) ≤ 0; decide
  | x :: l => by
    have := top0_nn l
    show (0 : Int) ≤ if top0 l < x then x else top0 l
    split <;> omega
theorem ends_pos {c : Int} : ∀ {l : List Row}, (∀ r ∈ l, r.ok c) → ∀ y ∈ endsOf l, 0 < y
  | [], _, y, hy => (List.not_mem_nil hy).elim
  | .copy b n :: l, h, y, hy => by
    have h0 := h _ List.mem_cons_self
    rcases List.mem_cons.mp hy with rfl | hy
    · have := h0.1; have := h0.2.1; omega
    · exact ends_pos (fun r hr => h r (List.mem_cons_of_mem _ hr)) y hy
  | .run b n :: l, h, y, hy => ends_pos (fun r hr => h r (List.mem_cons_of_mem _ hr)) y hy
  | .bring bs :: l, h, y, hy => ends_pos (fun r hr => h r (List.mem_cons_of_mem _ hr)) y hy
theorem top0_eq {l : List Int} {m : Int} (hm : m ∈ l) (hp : 0 < m) (ht : ∀ y, y ∈ l → y ≤ m) : m = top0 l := by
  have h1 := top0_ge hm
  rcases top0_is l with h | h
  · omega
  · have := ht _ h; omega
theorem cellsR_len {c : Int} : ∀ {r : Row}, r.ok c → ((cellsR r).length : Int) = r.len
  | .copy b n, h => by
    have := h.2.1
    show ((((List.range n.toNat).map fun i => Cell.old (b + (i : Nat))).length : Nat) : Int) = n
    rw [List.length_map, List.length_range]; omega
  | .run b n, h => by
    have := h.2.2
    show (((List.replicate n.toNat (Cell.new b)).length : Nat) : Int) = n
    rw [List.length_replicate]; omega
  | .bring bs, h => by
    show (((bs.map Cell.new).length : Nat) : Int) = bs.length
    rw [List.length_map]
theorem cellsOf_len {c : Int} : ∀ {l : List Row}, (∀ r ∈ l, r.ok c) → ((cellsOf l).length : Int) = total l
  | [], _ => rfl
  | r :: l, h => by
    have a := cellsR_len (h r List.mem_cons_self)
    have b := cellsOf_len (l := l) fun x hx => h x (List.mem_cons_of_mem _ hx)
    show ((((cellsR r) ++ cellsOf l).length : Nat) : Int) = r.len + total l
    rw [List.length_append]; omega
theorem take_snoc {α : Type} {l : List α} {i : Nat} {x : α} (h : l[i]? = some x) : l.take (i + 1) = l.take i ++ [x] := by rw [List.take_add_one, h]; rfl
theorem total_take {l : List Row} {i : Nat} {r : Row} (h : l[i]? = some r) : total (l.take (i + 1)) = total (l.take i) + r.len := by
  rw [take_snoc h, total_app]
  show total (l.take i) + (r.len + 0) = _
  omega
theorem total_take_le {c : Int} {l : List Row} (h : ∀ r ∈ l, r.ok c) (i : Nat) : total (l.take i) ≤ total l := by
  have e := total_app (l.take i) (l.drop i)
  rw [List.take_append_drop] at e
  have := total_nn (l := l.drop i) fun r hr => h r (List.mem_of_mem_drop hr)
  omega
theorem len_le_of {c : Int} {l : List Row} (h : ∀ r ∈ l, r.ok c) {r : Row} (hr : r ∈ l) : r.len ≤ total l := by
  obtain ⟨i, hi, rfl⟩ := List.mem_iff_getElem.mp hr
  have a := total_take (List.getElem?_eq_getElem hi)
  have b := total_take_le h (i + 1)
  have d := total_nn (l := l.take i) fun r hr => h r (List.mem_of_mem_take hr)
  omega
theorem CellsAt.len {H : Hp} {p : Addr} {cs : List Cell} (h : CellsAt H p cs) : ∃ vs, H p = some (.lst vs) ∧ Paired (CellV H) vs cs ∧ vs.length = cs.length := let ⟨vs, e, r⟩ := h; ⟨vs, e, r, Paired.length r⟩
/-! ### the promises -/
def spCanBe : Sp := fun vs H Q _ => ∃ (p : Addr) (r : Row), vs = [.ref p] ∧ H p = some (.tup r.tup) ∧ r.ok 200 ∧ r.len ≤ 200 ∧ Q (.bl true) H
def spLengthOf : Sp := fun vs H Q _ => ∃ (p : Addr) (r : Row), vs = [.ref p] ∧ H p = some (.tup r.tup) ∧ r.ok 200 ∧ r.len ≤ 200 ∧ Q (.int r.len) H
def spCellsOf : Sp := fun vs H Q _ => ∃ (p : Addr) (r : Row), vs = [.ref p] ∧ H p = some (.tup r.tup) ∧ r.ok 200 ∧ r.len ≤ 200 ∧ ∀ H' q, Same H H' → H q = none → CellsAt H' q (cellsR r) → Q (.ref q) H'
def spCheckPatch : Sp := fun vs H Q _ => ∃ (v : V) (rows : List Row), vs = [v] ∧ PatchAt H v rows ∧ Good rows ∧ ∀ H', Same H H' → Q .non H'
def spCheckEdition : Sp := fun vs H Q _ => ∃ es : List Int, vs = [.byt (byteArr es)] ∧ es.length ≤ 200 ∧ Q .non H
def spCheckReach : Sp := fun vs H Q _ => ∃ (v : V) (rows : List Row) (es : List Int), vs = [v, .byt (byteArr es)] ∧ PatchAt H v rows ∧ (∀ r ∈ rows, r.ok es.length) ∧ es.length ≤ 200 ∧ ∀ H', Same H H' → Q .non H'
def spCells : Sp := fun vs H Q _ => ∃ (v : V) (rows : List Row), vs = [v] ∧ PatchAt H v rows ∧ Good rows ∧ ∀ H' p, Same H H' → H p = none → CellsAt H' p (cellsOf rows) → Q (.ref p) H'
def spMakes : Sp := fun vs H Q _ => ∃ (v : V) (rows : List Row), vs = [v] ∧ PatchAt H v rows ∧ Good rows ∧ ∀ H', Same H H' → Q (.int (total rows)) H'
def spNeeds : Sp := fun vs H Q _ => ∃ (v : V) (rows : List Row), vs = [v] ∧ PatchAt H v rows ∧ Good rows ∧ ∀ H', Same H H' → Q (.int (needsOf rows)) H'
def spDone : Sp := fun vs H Q _ => ∃ (v : V) (rows : List Row) (es : List Int), vs = [v, .byt (byteArr es)] ∧ PatchAt H v rows ∧ Good rows ∧ (∀ r ∈ rows, r.ok es.length) ∧ B8 es ∧ es.length ≤ 200 ∧ ∀ H', Same H H' → Q (.byt (byteArr (doneOf rows es))) H'
section
variable {P : Program} {w : World} {K : PySem.W.Frag} {mg : Str → Option Value} {base : Heap}
theorem ok_length_of (T : All K mg) : FnOk P w K mg base CX0 1 T.d_length_of.f T.d_length_of.fd ["piece"] spLengthOf := by
  refine T.d_length_of.F.ok sc_length_of (fun vs H Q E h => ?_) (fun cdv A outer s H vs Q E hr h => ?_)
  · obtain ⟨p, _, rfl, _⟩ := h
    rfl
  · obtain ⟨p, r, rfl, hp, hok, hl, k⟩ := h
    refine ⟨_, (pss_cons 
      (ps_if (pt_cmpR op_eq (pe_ix ix_tup (pv 0) pe_int (fun _ _ => rfl)) pe_str (nomark _)) (pss_one 
      (ps_ret (pe_callB call_len (by rfl) T.b_len PySem.boot_len (pa_cons (pe_ix ix_tup (pv 0) pe_int (fun _ _ => rfl)) pa_nil)))) pss_nil) (pss_one 
      (ps_ret (pe_ix ix_tup (pv 0) pe_int (fun _ _ => rfl))))), ?_⟩
    cases r with
    | copy b n =>
      refine ⟨_, rfl, p, _, _, _, rfl, rfl, SqT.of hp, rfl, rfl, _, rfl, ite2 (fun h => absurd h (by decide)) fun _ => ?_⟩
      exact ⟨_, rfl, p, _, _, _, rfl, rfl, SqT.of hp, rfl, k⟩
    | run b n =>
      refine ⟨_, rfl, p, _, _, _, rfl, rfl, SqT.of hp, rfl, rfl, _, rfl, ite2 (fun h => absurd h (by decide)) fun _ => ?_⟩
      exact ⟨_, rfl, p, _, _, _, rfl, rfl, SqT.of hp, rfl, k⟩
    | bring bs =>
      refine ⟨_, rfl, p, _, _, _, rfl, rfl, SqT.of hp, rfl, rfl, _, rfl, ite2 (fun _ => ?_) fun h => absurd (by decide) h⟩
      have hl : (bs.length : Int) ≤ 200 := hl
      refine ⟨_, rfl, p, _, _, _, rfl, rfl, SqT.of hp, rfl, _, bs.length, rfl, ⟨by rw [byteArr_size]; exact sizeS (by omega), (byteArr_size bs).symm⟩, k⟩
theorem ok_can_be (T : All K mg) : FnOk P w K mg base CX0 2 T.d_can_be.f T.d_can_be.fd ["piece"] spCanBe := by
  have G_is_number : FnOk P w K mg base CX0 1 T.d_is_number.f T.d_is_number.fd ["what", "least", "most"] spIsNum := ok_is_number T
  refine T.d_can_be.F.ok sc_can_be (fun vs H Q E h => ?_) (fun cdv A outer s H vs Q E hr h => ?_)
  · obtain ⟨p, _, rfl, _⟩ := h
    rfl
  · obtain ⟨p, r, rfl, hp, hok, hl, k⟩ := h
    refine ⟨_, (pss_cons 
      (ps_if (pt_not (pt_val (pe_callB call_isi (by rfl) T.b_isinstance (by decide +kernel) (pa_cons (pv 0) (pa_cons (pe_bltn (v := .ty "tuple") (by rfl) T.b_tuple (by decide +kernel) rfl) pa_nil))))) (pss_one 
      (ps_ret pe_bl)) pss_nil) (pss_cons 
      (ps_if (pt_cmpR op_eq (pe_callB call_len (by rfl) T.b_len PySem.boot_len (pa_cons (pv 0) pa_nil)) pe_int (nomark _)) (pss_cons 
      (ps_asg (pv 0) (pg_tup rfl (pgs_cons (pg_name (i := 1) sc_can_be.nd rfl (Or.inl rfl)) (pgs_cons (pg_name (i := 2) sc_can_be.nd rfl (Or.inl rfl)) pgs_nil)))) (pss_one 
      (ps_ret (pe_and (pe_cmpR op_eq (pv 1) pe_str (nomark _)) (pe_and (pe_callB call_isi (by rfl) T.b_isinstance (by decide +kernel) (pa_cons (pv 2) (pa_cons (pe_bltn (v := .ty "bytes") (by rfl) T.b_bytes (by decide +kernel) rfl) pa_nil))) (pe_one (pe_chain op_le op_le pe_int (pe_callB call_len (by rfl) T.b_len PySem.boot_len (pa_cons (pv 2) pa_nil)) (pe_glob (v := .int 200) rfl T.c_MOST ⟨_, rfl⟩)))))))) pss_nil) (pss_cons 
      (ps_if (pt_cmpR op_ne (pe_callB call_len (by rfl) T.b_len PySem.boot_len (pa_cons (pv 0) pa_nil)) pe_int (nomark _)) (pss_one 
      (ps_ret pe_bl)) pss_nil) (pss_cons 
      (ps_asg (pv 0) (pg_tup rfl (pgs_cons (pg_name (i := 1) sc_can_be.nd rfl (Or.inl rfl)) (pgs_cons (pg_name (i := 3) sc_can_be.nd rfl (Or.inl rfl)) (pgs_cons (pg_name (i := 4) sc_can_be.nd rfl (Or.inl rfl)) pgs_nil))))) (pss_cons 
      (ps_if (pt_not (pt_val (pe_call G_is_number (hr.mono (by decide)) rfl T.d_is_number.m T.d_is_number.F.kp T.d_is_number.b .nil pass0 (pa_cons (pv 4) (pa_cons pe_int (pa_cons (pe_glob (v := .int 200) rfl T.c_MOST ⟨_, rfl⟩) pa_nil)))))) (pss_one 
      (ps_ret pe_bl)) pss_nil) (pss_cons 
      (ps_if (pt_cmpR op_eq (pv 1) pe_str (nomark _)) (pss_one 
      (ps_ret (pe_call G_is_number (hr.mono (by decide)) rfl T.d_is_number.m T.d_is_number.F.kp T.d_is_number.b .nil pass0 (pa_cons (pv 3) (pa_cons pe_int (pa_cons (pe_op op_sub (pe_glob (v := .int 200) rfl T.c_MOST ⟨_, rfl⟩) (pv 4)) pa_nil)))))) pss_nil) (pss_one 
      (ps_ret (pe_and (pe_cmpR op_eq (pv 1) pe_str (nomark _)) (pe_one (pe_call G_is_number (hr.mono (by decide)) rfl T.d_is_number.m T.d_is_number.F.kp T.d_is_number.b .nil pass0 (pa_cons (pv 3) (pa_cons pe_int (pa_cons (pe_glob (v := .int 255) rfl T.c_LAST_BYTE ⟨_, rfl⟩) pa_nil)))))))))))))), ?_⟩
    refine ⟨_, rfl, _, _, _, _, true, rfl, .ty _, .base (.tup hp), kit_ty (by decide +kernel), true, rfl, iteF ?_⟩
    cases r with
    | copy b n =>
      have h1 := hok.1
      have h2 := hok.2.1
      have h3 := hok.2.2
      have h4 : n ≤ 200 := hl
      refine ⟨_, rfl, _, 3, rfl, .inr ⟨_, SqT.of hp, rfl⟩, rfl, _, rfl, ite2 (fun h => absurd h (by decide)) fun _ => ?_⟩
      refine ⟨_, rfl, _, 3, rfl, .inr ⟨_, SqT.of hp, rfl⟩, rfl, _, rfl, ite2 (fun h => absurd h (by decide)) fun _ => ?_⟩
      refine ⟨_, rfl, p, _, rfl, SqT.of hp, rfl, _, _, rfl, _, _, rfl, _, _, rfl, rfl, ?_⟩
      refine ⟨_, rfl, n, 1, 200, rfl, _, rfl, ?_⟩
      rw [decide_eq_true h2, decide_eq_true h4]
      refine iteF ?_
      refine ⟨_, rfl, rfl, _, rfl, ite2 (fun _ => ?_) fun h => absurd (by decide) h⟩
      refine ⟨_, rfl, _, rfl, _, _, rfl, rfl, b, 0, 200 - n, rfl, ?_⟩
      rw [decide_eq_true h1, decide_eq_true (show b ≤ 200 - n by omega)]
      exact k
    | run b n =>
      have h1 := hok.1
      have h2 := hok.2.1
      have h3 := hok.2.2
      have h4 : n ≤ 200 := hl
      refine ⟨_, rfl, _, 3, rfl, .inr ⟨_, SqT.of hp, rfl⟩, rfl, _, rfl, ite2 (fun h => absurd h (by decide)) fun _ => ?_⟩
      refine ⟨_, rfl, _, 3, rfl, .inr ⟨_, SqT.of hp, rfl⟩, rfl, _, rfl, ite2 (fun h => absurd h (by decide)) fun _ => ?_⟩
      refine ⟨_, rfl, p, _, rfl, SqT.of hp, rfl, _, _, rfl, _, _, rfl, _, _, rfl, rfl, ?_⟩
      refine ⟨_, rfl, n, 1, 200, rfl, _, rfl, ?_⟩
      rw [decide_eq_true h3, decide_eq_true h4]
      refine iteF ?_
      refine ⟨_, rfl, rfl, _, rfl, ite2 (fun h => absurd h (by decide)) fun _ => ?_⟩
      refine ⟨_, rfl, rfl, _, rfl, ite2 (fun _ => ?_) fun h => absurd (by decide) h⟩
      refine ⟨_, rfl, b, 0, 255, rfl, ?_⟩
      rw [decide_eq_true h1, decide_eq_true (show b ≤ 255 by omega)]
      exact k
    | bring bs =>
      have h1 : 1 ≤ (bs.length : Int) := hok.1
      have h4 : (bs.length : Int) ≤ 200 := hl
      refine ⟨_, rfl, _, 2, rfl, .inr ⟨_, SqT.of hp, rfl⟩, rfl, _, rfl, ite2 (fun _ => ?_) fun h => absurd (by decide) h⟩
      refine ⟨_, rfl, p, _, rfl, SqT.of hp, rfl, _, _, rfl, _, _, rfl, rfl, ?_⟩
      refine ⟨_, rfl, rfl, _, rfl, ite2 (fun _ => ?_) fun h => absurd (by decide) h⟩
      refine ⟨_, rfl, _, _, _, _, true, rfl, .ty _, .byt _, kit_ty (by decide +kernel), true, rfl, iteT ?_⟩
      refine ⟨_, rfl, _, bs.length, rfl, ⟨by rw [byteArr_size]; exact sizeS (by omega), (byteArr_size bs).symm⟩, _, _, rfl, rfl, _, rfl, ?_⟩
      rw [decide_eq_true h1]
      refine iteT ⟨_, _, rfl, rfl, ?_⟩
      show Q (.bl (decide ((bs.length : Int) ≤ 200))) H
      rw [decide_eq_true h4]
      exact k
end
theorem cell_more {H H2 : Hp} {D : Addr} {ws : List V} {cs : List Cell} {c : Cell} {t : Addr} (hD : H D = none) (s2 : Same H H2) (hw : H2 D = some (.lst ws)) (pw : Paired (CellV H2) ws cs) (ht : H2 t = none) :
    Same H (upd (upd H2 t (.tup c.tup)) D (.lst (ws ++ [.ref t]))) ∧ Paired (CellV (upd (upd H2 t (.tup c.tup)) D (.lst (ws ++ [.ref t])))) (ws ++ [.ref t]) (cs ++ [c]) := by
  have hw' : (upd H2 t (.tup c.tup)) D = some (.lst ws) := Same.new ht _ _ hw
  refine ⟨fun b o e => ?_, pairedApp (pairedMap pw fun _ _ x => (x.tups (Same.tups (Same.new ht))).tups (Tups.lst hw')) (.cons ⟨t, rfl, Tups.lst hw' _ _ upd_same⟩ .nil)⟩
  rw [upd_ne (ne_of_none e hD)]
  exact Same.new ht _ _ (s2 _ _ e)
theorem rep_flat {α : Type} (x : α) : ∀ m : Nat, (List.replicate m [x]).flatten = List.replicate m x
  | 0 => rfl
  | m + 1 => by rw [List.replicate_succ, List.replicate_succ, List.flatten_cons, rep_flat x m]; rfl
theorem paired_rep {α β : Type} {F : α → β → Prop} {x : α} {y : β} (h : F x y) : ∀ m : Nat, Paired F (List.replicate m x) (List.replicate m y)
  | 0 => .nil
  | m + 1 => .cons h (paired_rep h m)
theorem cellsOf_take {rows : List Row} {i : Nat} {r : Row} (h : rows[i]? = some r) : cellsOf (rows.take (i + 1)) = cellsOf (rows.take i) ++ cellsR r := by
  rw [take_snoc h]
  show (rows.take i ++ [r]).flatMap cellsR = _
  rw [List.flatMap_append, List.flatMap_cons, List.flatMap_nil, List.append_nil]
  rfl
/-- what a cell may be -/
theorem cells_fit {c : Int} {rows : List Row} (hre : ∀ r ∈ rows, r.ok c) : ∀ cl ∈ cellsOf rows, (∃ n, cl = .old n ∧ 0 ≤ n ∧ n < c) ∨ ∃ b, cl = .new b ∧ 0 ≤ b ∧ b < 256 := by
  intro cl hcl
  obtain ⟨r, hr1, hr2⟩ := List.mem_flatMap.mp hcl
  have ho := hre r hr1
  cases r with
  | copy b n =>
    obtain ⟨i, hi, rfl⟩ := List.mem_map.mp hr2
    have hi := List.mem_range.mp hi
    have h1 := ho.1
    have h2 := ho.2.1
    have h3 := ho.2.2
    exact .inl ⟨_, rfl, by omega, by omega⟩
  | run b n =>
    rw [List.eq_of_mem_replicate hr2]
    exact .inr ⟨_, rfl, ho.1, ho.2.1⟩
  | bring bs =>
    obtain ⟨z, hz, rfl⟩ := List.mem_map.mp hr2
    exact .inr ⟨_, rfl, (ho.2 z hz).1, (ho.2 z hz).2⟩
theorem done_B8 {rows : List Row} {es : List Int} (hre : ∀ r ∈ rows, r.ok es.length) (hb : B8 es) : B8 (doneOf rows es) := fun z hz => by
  obtain ⟨cl, hcl, rfl⟩ := List.mem_map.mp hz
  rcases cells_fit hre cl hcl with ⟨n, rfl, n0, n1⟩ | ⟨b, rfl, b0, b1⟩
  · have jl : n.toNat < es.length := by omega
    show 0 ≤ es.getD n.toNat 0 ∧ es.getD n.toNat 0 < 256
    rw [List.getD_eq_getElem?_getD, List.getElem?_eq_getElem jl]
    exact hb _ (List.getElem_mem jl)
  · exact ⟨b0, b1⟩
theorem done_len {c : Int} {rows : List Row} (es : List Int) (hre : ∀ r ∈ rows, r.ok c) : ((doneOf rows es).length : Int) = total rows := by
  show ((((cellsOf rows).map (valOf es)).length : Nat) : Int) = _
  rw [List.length_map]; exact cellsOf_len hre
theorem Good.each {rows : List Row} (h : Good rows) : ∀ r ∈ rows, r.ok 200 ∧ r.len ≤ 200 := fun r hr => ⟨h.1 r hr, Int.le_trans (len_le_of h.1 hr) h.2⟩
theorem Good.few {rows : List Row} (h : Good rows) : (rows.length : Int) ≤ 200 := Int.le_trans (len_le_total h.1) h.2
theorem Good.take {rows : List Row} (h : Good rows) (i : Nat) : Good (rows.take i) := ⟨fun r hr => h.1 r (List.mem_of_mem_take hr), Int.le_trans (total_take_le h.1 i) h.2⟩
theorem Good.nat {rows : List Row} (h : Good rows) : rows.length ≤ 200 := by have := h.few; omega
section
variable {P : Program} {w : World} {K : PySem.W.Frag} {mg : Str → Option Value} {base : Heap}
theorem ends_app (a b : List Row) : endsOf (a ++ b) = endsOf a ++ endsOf b := by
  induction a with
  | nil => rfl
  | cons r l ih => cases r <;> simp [endsOf, ih]
theorem ends_len (a : List Row) : (endsOf a).length ≤ a.length := by
  induction a with
  | nil => exact Nat.le_refl _
  | cons r l ih => cases r <;> simp [endsOf] <;> omega
theorem total_sum : ∀ rows : List Row, (rows.map Row.len).sum = total rows
  | [] => rfl
  | r :: l => by rw [List.map_cons, List.sum_cons, total_sum l]; rfl
theorem ok_check_patch (T : All K mg) : FnOk P w K mg base CX0 3 T.d_check_patch.f T.d_check_patch.fd ["patch"] spCheckPatch := by
  have G_can_be : FnOk P w K mg base CX0 2 T.d_can_be.f T.d_can_be.fd ["piece"] spCanBe := ok_can_be T
  have G_length_of : FnOk P w K mg base CX0 1 T.d_length_of.f T.d_length_of.fd ["piece"] spLengthOf := ok_length_of T
  refine T.d_check_patch.F.ok sc_check_patch (fun vs H Q E h => ?_) (fun cdv A outer s H vs Q E hr h => ?_)
  · obtain ⟨v, _, rfl, _⟩ := h
    rfl
  · obtain ⟨v, rows, rfl, ⟨p, vs, rfl, hv, hpr⟩, ⟨hok, htot⟩, k⟩ := h
    have hvl : vs.length = rows.length := Paired.length hpr
    refine ⟨_, (pss_cons 
      (ps_set (i := 1) sc_check_patch.nd rfl (Or.inl rfl) pe_int) (pss_one 
      (ps_for PassesOwn.never rfl (pi_enumT (by rfl) T.b_enumerate (pa_cons (pv 0) pa_nil)) (pg_tup rfl (pgs_cons (pg_name (i := 2) sc_check_patch.nd rfl (Or.inl rfl)) (pgs_cons (pg_name (i := 3) sc_check_patch.nd rfl (Or.inl rfl)) pgs_nil))) (pss_cons 
      (ps_if (pt_not (pt_val (pe_call G_can_be (hr.mono (by decide)) rfl T.d_can_be.m T.d_can_be.F.kp T.d_can_be.b .nil pass0 (pa_cons (pv 3) pa_nil)))) (pss_one ps_never) pss_nil) (pss_cons 
      (ps_aug (i := 1) sc_check_patch.nd rfl (Or.inl rfl) (pe_call G_length_of (hr.mono (by decide)) rfl T.d_length_of.m T.d_length_of.F.kp T.d_length_of.b .nil pass0 (pa_cons (pv 3) pa_nil)) ip_add) (pss_one 
      (ps_if (pt_cmpR op_gt (pv 1) (pe_glob (v := .int 200) rfl T.c_MOST ⟨_, rfl⟩) (nomark _)) (pss_one ps_never) pss_nil))))))), ?_⟩
    refine ⟨_, rfl, p, vs, rfl, SqT.of hv, for_it walk_enumT (fun i σ H2 => ∃ v2 v3 : Option V, σ = [some (.ref p), some (.int (total (rows.take i))), v2, v3] ∧ Same H H2)
      ⟨none, none, rfl, Same.refl _⟩ (fun i σ H2 _ ⟨_, _, _, s2⟩ => SqT.of (s2 _ _ hv)) ?_ ?_⟩
    · rintro i x σ H2 H3 hi ⟨v2, v3, rfl, s2⟩ ⟨t, x1, y1, rfl, ht, rfl, e1, e2⟩
      cases e1
      obtain ⟨r, hr1, q, rfl, hq⟩ := pairedAt hpr e2
      have hro := hok r (List.mem_of_getElem? hr1)
      have hrl : r.len ≤ total rows := len_le_of hok (List.mem_of_getElem? hr1)
      have s3 : Same H (upd H2 t (.tup [.int (i : Nat), .ref q])) := s2.trans (Same.new ht)
      have hq3 := s3 _ _ hq
      refine ⟨t, _, rfl, SqT.of upd_same, rfl, _, _, rfl, _, _, rfl, rfl, ?_⟩
      refine ⟨_, rfl, q, r, rfl, hq3, hro, by omega, _, rfl, iteF ?_⟩
      refine ⟨_, rfl, _, rfl, q, r, rfl, hq3, hro, by omega, _, _, rfl, rfl, ?_⟩
      have ht1 := total_take hr1
      have ht2 := total_take_le hok (i + 1)
      refine ⟨_, rfl, _, _, rfl, rfl, _, rfl, ite2 (fun h => absurd (show (200 : Int) < total (rows.take i) + r.len from of_decide_eq_true h) (by omega)) fun _ => ?_⟩
      exact ⟨_, _, by rw [ht1]; rfl, s3⟩
    · rintro σ H2 ⟨v2, v3, rfl, s2⟩
      exact k H2 s2
theorem ok_check_edition (T : All K mg) : FnOk P w K mg base CX0 1 T.d_check_edition.f T.d_check_edition.fd ["edition"] spCheckEdition := by
  refine T.d_check_edition.F.ok sc_check_edition (fun vs H Q E h => ?_) (fun cdv A outer s H vs Q E hr h => ?_)
  · obtain ⟨_, rfl, _⟩ := h
    rfl
  · obtain ⟨es, rfl, hl, k⟩ := h
    refine ⟨_, (pss_one 
      (ps_if (pt_cmpR op_gt (pe_callB call_len (by rfl) T.b_len PySem.boot_len (pa_cons (pv 0) pa_nil)) (pe_glob (v := .int 200) rfl T.c_MOST ⟨_, rfl⟩) (nomark _)) (pss_one ps_never) pss_nil)), ?_⟩
    refine ⟨_, rfl, _, es.length, rfl, ⟨by rw [byteArr_size]; exact sizeS (by omega), (byteArr_size es).symm⟩, _, _, rfl, rfl, _, rfl, ite2 (fun h => absurd (of_decide_eq_true h) (by omega)) fun _ => k⟩
end
/-! ### the code of a patch -/
def numCode (n : Int) : List Int := if n < 128 then [n] else [128 + n % 2 ^ 7, n / 128]
def numSize (n : Int) : Int := if n < 128 then 1 else 2
def Row.word : Row → Int
  | .copy _ _ => 0
  | .bring _ => 1
  | .run _ _ => 2
def Row.tail : Row → List Int
  | .copy b _ => numCode b
  | .bring bs => bs
  | .run b _ => [b]
def firstNum (r : Row) : Int := r.len * 4 + r.word
def rowCode (r : Row) : List Int := numCode (firstNum r) ++ r.tail
def rowSize (r : Row) : Int := (rowCode r).length
def bodyCode (rows : List Row) : List Int := numCode rows.length ++ rows.flatMap rowCode
def codeOf (rows : List Row) : List Int := bodyCode rows ++ [(bodyCode rows).sum % 251]
theorem p7 : (2 : Int) ^ 7 = 128 := by decide
theorem p2 : (2 : Int) ^ 2 = 4 := by decide
theorem numCode_len (n : Int) : ((numCode n).length : Int) = numSize n := by
  unfold numCode numSize
  split <;> rfl
theorem numSize_le (n : Int) : 1 ≤ numSize n ∧ numSize n ≤ 2 := by
  unfold numSize
  split <;> constructor <;> decide
theorem numCode_b8 {n : Int} (h0 : 0 ≤ n) (h1 : n < 32768) : B8 (numCode n) := by
  unfold numCode
  split
  · intro x hx
    rw [List.mem_singleton.mp hx]
    omega
  · intro x hx
    rcases List.mem_cons.mp hx with rfl | hx
    · have : (2 : Int) ^ 7 = 128 := by decide
      omega
    · rw [List.mem_singleton.mp hx]
      omega
theorem Row.word_le : ∀ (r : Row), 0 ≤ r.word ∧ r.word ≤ 2
  | .copy _ _ => ⟨(by decide : (0 : Int) ≤ 0), (by decide : (0 : Int) ≤ 2)⟩
  | .bring _ => ⟨(by decide : (0 : Int) ≤ 1), (by decide : (1 : Int) ≤ 2)⟩
  | .run _ _ => ⟨(by decide : (0 : Int) ≤ 2), (by decide : (2 : Int) ≤ 2)⟩
theorem firstNum_le {r : Row} {c : Int} (h : r.ok c) (hl : r.len ≤ 200) : 4 ≤ firstNum r ∧ firstNum r ≤ 802 := by
  have a := Row.len_pos h
  have b := r.word_le
  unfold firstNum
  omega
theorem tail_b8 {r : Row} (h : r.ok 200) : B8 r.tail := by
  cases r with
  | copy b n =>
    have h1 := h.1
    have h2 := h.2.1
    have h3 := h.2.2
    exact numCode_b8 h1 (by omega)
  | run b n =>
    have h1 := h.1
    have h2 := h.2.1
    intro x hx
    rw [List.mem_singleton.mp hx]
    exact ⟨h1, h2⟩
  | bring bs => exact h.2
theorem tail_len {r : Row} (h : r.ok 200) : (r.tail.length : Int) ≤ r.len + 1 := by
  have a := Row.len_pos h
  cases r with
  | copy b n =>
    have h2 := numSize_le b
    rw [← numCode_len] at h2
    show ((numCode b).length : Int) ≤ n + 1
    have a : 1 ≤ n := a
    omega
  | run b n =>
    have a : 1 ≤ n := a
    show (([b] : List Int).length : Int) ≤ n + 1
    show (1 : Int) ≤ n + 1
    omega
  | bring bs =>
    show (bs.length : Int) ≤ bs.length + 1
    omega
theorem rowCode_b8 {r : Row} (h : r.ok 200) (hl : r.len ≤ 200) : B8 (rowCode r) := by
  have := firstNum_le h hl
  exact (numCode_b8 (by omega) (by omega)).app (tail_b8 h)
theorem rowCode_len {r : Row} (h : r.ok 200) : ((rowCode r).length : Int) ≤ 4 * r.len := by
  have a := Row.len_pos h
  have b := tail_len h
  have c := numSize_le (firstNum r)
  rw [← numCode_len] at c
  unfold rowCode
  rw [List.length_append]
  omega
theorem rows_b8 : ∀ {rows : List Row}, (∀ r ∈ rows, r.ok 200 ∧ r.len ≤ 200) → B8 (rows.flatMap rowCode)
  | [], _ => fun n hn => (List.not_mem_nil hn).elim
  | r :: l, h => by
    have a := h r List.mem_cons_self
    rw [List.flatMap_cons]
    exact (rowCode_b8 a.1 a.2).app (rows_b8 fun x hx => h x (List.mem_cons_of_mem _ hx))
theorem rows_len : ∀ {rows : List Row}, (∀ r ∈ rows, r.ok 200) → ((rows.flatMap rowCode).length : Int) ≤ 4 * total rows
  | [], _ => by show (0 : Int) ≤ 4 * 0; decide
  | r :: l, h => by
    have a := rowCode_len (h r List.mem_cons_self)
    have b := rows_len (rows := l) fun x hx => h x (List.mem_cons_of_mem _ hx)
    rw [List.flatMap_cons, List.length_append]
    show (((rowCode r).length + (l.flatMap rowCode).length : Nat) : Int) ≤ 4 * (r.len + total l)
    omega
/-- a body of some of the pieces -/
def partCode (n : Nat) (rows : List Row) : List Int := numCode n ++ rows.flatMap rowCode
theorem part_b8 {n : Nat} {rows : List Row} (hn : n ≤ 200) (h : Good rows) : B8 (partCode n rows) := (numCode_b8 (by omega) (by omega)).app (rows_b8 h.each)
theorem part_len {n : Nat} {rows : List Row} (h : Good rows) : (partCode n rows).length ≤ 810 := by
  have a := rows_len h.1
  have b := numSize_le n
  have d := h.2
  rw [← numCode_len] at b
  unfold partCode
  rw [List.length_append]
  omega
theorem body_part (rows : List Row) : bodyCode rows = partCode rows.length rows := rfl
theorem part_snoc {n : Nat} {rows : List Row} {i : Nat} {r : Row} (h : rows[i]? = some r) : partCode n (rows.take (i + 1)) = partCode n (rows.take i) ++ rowCode r := by
  unfold partCode
  rw [take_snoc h, List.flatMap_append, List.append_assoc, List.flatMap_cons, List.flatMap_nil, List.append_nil]
theorem code_b8 {rows : List Row} (h : Good rows) : B8 (codeOf rows) := by
  refine (part_b8 h.nat h).app fun x hx => ?_
  rw [List.mem_singleton.mp hx]
  have := Int.emod_nonneg (bodyCode rows).sum (show (251 : Int) ≠ 0 by decide)
  have := Int.emod_lt_of_pos (bodyCode rows).sum (show (0 : Int) < 251 by decide)
  omega
theorem code_len {rows : List Row} (h : Good rows) : (codeOf rows).length ≤ 811 := by
  have := part_len (n := rows.length) h
  unfold codeOf
  rw [List.length_append, body_part]
  show (partCode rows.length rows).length + 1 ≤ 811
  omega
theorem sizes_sum : ∀ (rows : List Row), (rows.map rowSize).sum = ((rows.flatMap rowCode).length : Int)
  | [] => rfl
  | r :: l => by
    rw [List.map_cons, List.sum_cons, sizes_sum l, List.flatMap_cons, List.length_append]
    show ((rowCode r).length : Int) + _ = _
    omega
theorem code_size (rows : List Row) : numSize rows.length + (rows.map rowSize).sum + 1 = ((codeOf rows).length : Int) := by
  rw [sizes_sum, ← numCode_len]
  unfold codeOf bodyCode
  rw [List.length_append, List.length_append]
  show _ = ((_ + 1 : Nat) : Int)
  omega
/-! ### sum(bytes), bytes += bytes -/
theorem noI_bytes_add : typeLookup (.type "bytes") (dunderI "add") = pure none := by rw [typeLookup_type, builtinLookup_eq_fast]; kernel_rfl
open PySem.W PySem.W.KBy Builtin in
theorem iadd_bytes {prog : Program} {w : World} {A : Around} {E : Value → Shared → Prop} {s : Shared} {b c : Array UInt8} {t u : Tok} {Q : Value → Shared → Prop} (hsz : b.size + c.size ≤ 16777216) (h : ∀ t' k, Q (.bytes (b ++ c) t') { s with toks := k }) :
    wpAny (model prog w) A (inplaceOp .Add (.bytes b t) (.bytes c u)) Q E s := by
  refine iconcat_gives (typeIs_bytes s b t) (typeIs_bytes s c u) noI_bytes_add noFill_bytes_add seq_bytes_add FB.slot_bytes_add FB.entry_bytes_add (FB.args_bytes_add_2 _ _) (gives_bytes_add (tooLong_not hsz)) ?_
  by_cases hb : b.isEmpty = true
  · rw [if_pos hb]
    have e : b = #[] := Array.isEmpty_iff.1 hb
    have h' := h u s.toks
    rw [e, Array.empty_append] at h'
    exact h'
  · rw [if_neg hb]
    by_cases hc : c.isEmpty = true
    · rw [if_pos hc]
      have e : c = #[] := Array.isEmpty_iff.1 hc
      have h' := h t s.toks
      rw [e, Array.append_empty] at h'
      exact h'
    · rw [if_neg hc]
      exact ⟨by rw [Array.size_append, sizeLine_eq]; exact hsz, h s.toks (s.toks + 1)⟩
theorem ip_add_byt {X : Cx} : PIp X .Add (fun x y H Q => ∃ i j, x = .byt i ∧ y = .byt j ∧ i.size + j.size ≤ 16777216 ∧ Q (.byt (i ++ j)) H) := by
  intro pins s σ H x y v u Q I rx ry h
  obtain ⟨i, j, rfl, rfl, hz, q⟩ := h
  obtain ⟨t, rfl⟩ := rx
  obtain ⟨t', rfl⟩ := ry
  exact iadd_bytes hz (fun t' tk => ⟨.byt (i ++ j), H, I.tok _, ⟨_, rfl⟩, q⟩)
theorem preSum_bi (b : Array UInt8) : ∀ (n : Nat), preSum (fun i => (PySem.W.KBw.bInts b).getD i 0) n = ((PySem.W.KBw.bInts b).take n).sum
  | 0 => rfl
  | n + 1 => by
    show preSum _ n + _ = _
    show _ + (PySem.W.KBw.bInts b).getD n 0 = _
    rw [preSum_bi b n, List.take_add_one, List.sum_append, List.getD_eq_getElem?_getD]
    cases (PySem.W.KBw.bInts b)[n]? with
    | none => rfl
    | some x => show _ = _ + (x + 0); simp
theorem cr_sumB {X : Cx} (hc : X.calm = true) : CallR X (.builtin "sum") (fun vs H Q => ∃ bs : List Int, vs = [.byt (byteArr bs)] ∧ B8 bs ∧ Q (.int bs.sum) H) := by
  intro pins s σ H vs us Q I r h
  obtain ⟨bs, rfl, hb, q⟩ := h
  cases r with
  | cons r rr =>
    cases rr
    obtain ⟨t, rfl⟩ := r
    refine call_sum_walkG (PySem.W.KBw.pyIter_bytes ?_)
    have W := PySem.W.KBw.walks (prog := X.prog) (w := X.w) (A := X.A.in1) (I.ok.hd hc) s.heap.objs.size (byteArr bs) t
    refine ⟨_, _, _, _, _, _, fun i => (PySem.W.KBw.bInts (byteArr bs)).getD i 0, rfl, W, ⟨_, Heap.get?_push_size _ rfl, rfl, rfl⟩, fun b hb => ?_, ?_, fun h' tk t' hk => ?_⟩
    · rw [List.mem_singleton.mp hb]
      show s.heap.objs.size < (s.heap.push _).objs.size
      rw [Heap.size_push]
      exact Nat.lt_succ_self _
    · rintro i v ⟨c, u, hc, rfl⟩
      refine ⟨u, ?_⟩
      show _ = Value.int ((PySem.W.KBw.bInts (byteArr bs)).getD i 0) u
      rw [List.getD_eq_getElem?_getD, PySem.W.KBw.ints_get hc]
      rfl
    · rw [preSum_bi, List.take_of_length_le (by rw [PySem.W.KBw.ints_length]; exact Nat.le_refl _), bInts_of hb]
      refine ⟨.int bs.sum, H, I.kept (t' := tk) fun b o e => ?_, ⟨_, rfl⟩, q⟩
      exact hk b o (fun hm => by rw [List.mem_singleton.mp hm] at e; exact absurd (Heap.lt_size e) (Nat.lt_irrefl _)) (Heap.get?_push_of_some _ e)
/-! ### the promises -/
def spNumCode : Sp := fun vs H Q _ => ∃ n : Int, vs = [.int n] ∧ 0 ≤ n ∧ n < 16384 ∧ ∀ H', Same H H' → Q (.byt (byteArr (numCode n))) H'
def spNumSize : Sp := fun vs H Q _ => ∃ n : Int, vs = [.int n] ∧ Q (.int (numSize n)) H
def spFirstNum : Sp := fun vs H Q _ => ∃ (p : Addr) (r : Row), vs = [.ref p] ∧ H p = some (.tup r.tup) ∧ r.ok 200 ∧ r.len ≤ 200 ∧ Q (.int (firstNum r)) H
def spPieceCode : Sp := fun vs H Q _ => ∃ (p : Addr) (r : Row), vs = [.ref p] ∧ H p = some (.tup r.tup) ∧ r.ok 200 ∧ r.len ≤ 200 ∧ ∀ H', Same H H' → Q (.byt (byteArr (rowCode r))) H'
def spPieceSize : Sp := fun vs H Q _ => ∃ (p : Addr) (r : Row), vs = [.ref p] ∧ H p = some (.tup r.tup) ∧ r.ok 200 ∧ r.len ≤ 200 ∧ Q (.int (rowSize r)) H
def spCheckOf : Sp := fun vs H Q _ => ∃ bs : List Int, vs = [.byt (byteArr bs)] ∧ B8 bs ∧ Q (.int (bs.sum % 251)) H
def spWithCheck : Sp := fun vs H Q _ => ∃ bs : List Int, vs = [.byt (byteArr bs)] ∧ B8 bs ∧ bs.length ≤ 10000 ∧ ∀ H', Same H H' → Q (.byt (byteArr (bs ++ [bs.sum % 251]))) H'
def spCoded : Sp := fun vs H Q _ => ∃ (v : V) (rows : List Row), vs = [v] ∧ PatchAt H v rows ∧ Good rows ∧ ∀ H', Same H H' → Q (.byt (byteArr (codeOf rows))) H'
def spSizeOf : Sp := fun vs H Q _ => ∃ (v : V) (rows : List Row), vs = [v] ∧ PatchAt H v rows ∧ Good rows ∧ ∀ H', Same H H' → Q (.int ((codeOf rows).length : Nat)) H'
section
variable {P : Program} {w : World} {K : PySem.W.Frag} {mg : Str → Option Value} {base : Heap}
theorem ok_number_size (T : All K mg) : FnOk P w K mg base CX0 1 T.d_number_size.f T.d_number_size.fd ["number"] spNumSize := by
  refine T.d_number_size.F.ok sc_number_size (fun vs H Q E h => ?_) (fun cdv A outer s H vs Q E hr h => ?_)
  · obtain ⟨n, rfl, _⟩ := h
    rfl
  · obtain ⟨n, rfl, k⟩ := h
    refine ⟨_, (pss_one 
      (ps_ret (pe_ifExp (pt_cmpR op_lt (pv 0) (pe_glob (v := .int 128) rfl T.c_SEVENS ⟨_, rfl⟩) (nomark _)) pe_int (pe_glob (v := .int 2) rfl T.c_MOST_SEVENS ⟨_, rfl⟩)))), ?_⟩
    refine ⟨_, rfl, _, _, rfl, rfl, _, rfl, ite2 (fun h => ?_) fun h => ?_⟩
    · have e : numSize n = 1 := if_pos (of_decide_eq_true h)
      rw [e] at k
      exact k
    · have e : numSize n = 2 := if_neg (of_decide_eq_false (Bool.not_eq_true _ ▸ h))
      rw [e] at k
      exact k
theorem ok_first_number (T : All K mg) : FnOk P w K mg base CX0 2 T.d_first_number.f T.d_first_number.fd ["piece"] spFirstNum := by
  have G_length_of : FnOk P w K mg base CX0 1 T.d_length_of.f T.d_length_of.fd ["piece"] spLengthOf := ok_length_of T
  refine T.d_first_number.F.ok sc_first_number (fun vs H Q E h => ?_) (fun cdv A outer s H vs Q E hr h => ?_)
  · obtain ⟨p, r, rfl, _⟩ := h
    rfl
  · obtain ⟨p, r, rfl, hp, hok, hl, k⟩ := h
    have hpos := Row.len_pos hok
    refine ⟨_, (pss_one 
      (ps_ret (pe_op op_add (pe_op op_mul (pe_call G_length_of (hr.mono (by decide)) rfl T.d_length_of.m T.d_length_of.F.kp T.d_length_of.b .nil pass0 (pa_cons (pv 0) pa_nil)) pe_int) (pe_bm PySem.F.plainAttrs_tuple PySem.F.slot_tuple_index PySem.F.type_tuple_index mt_tup_index (pe_glob (v := .ref T.a_WORDS) rfl T.c_WORDS rfl) (pa_cons (pe_ix ix_tup (pv 0) pe_int (fun _ _ => rfl)) pa_nil))))), ?_⟩
    refine ⟨_, rfl, p, r, rfl, hp, hok, hl, _, _, rfl, rfl, .inl ⟨by omega, by omega⟩, .inr (.inl ⟨rfl, T.w_WORDS⟩), _, rfl, p, ?_⟩
    cases r with
    | copy b n => exact ⟨_, _, _, rfl, rfl, SqT.of hp, rfl, _, ["copy", "bring", "run"], "copy", 0, rfl, rfl, T.v_WORDS H, rfl, fun m hm => absurd hm (Nat.not_lt_zero _), _, _, rfl, rfl, k⟩
    | run b n => exact ⟨_, _, _, rfl, rfl, SqT.of hp, rfl, _, ["copy", "bring", "run"], "run", 2, rfl, rfl, T.v_WORDS H, rfl, fun m hm => by
        have : m = 0 ∨ m = 1 := by omega
        rcases this with rfl | rfl <;> decide, _, _, rfl, rfl, k⟩
    | bring bs => exact ⟨_, _, _, rfl, rfl, SqT.of hp, rfl, _, ["copy", "bring", "run"], "bring", 1, rfl, rfl, T.v_WORDS H, rfl, fun m hm => by
        have : m = 0 := by omega
        subst this; decide, _, _, rfl, rfl, k⟩
theorem ok_piece_size (T : All K mg) : FnOk P w K mg base CX0 3 T.d_piece_size.f T.d_piece_size.fd ["piece"] spPieceSize := by
  have G_number_size : FnOk P w K mg base CX0 1 T.d_number_size.f T.d_number_size.fd ["number"] spNumSize := ok_number_size T
  have G_first_number : FnOk P w K mg base CX0 2 T.d_first_number.f T.d_first_number.fd ["piece"] spFirstNum := ok_first_number T
  refine T.d_piece_size.F.ok sc_piece_size (fun vs H Q E h => ?_) (fun cdv A outer s H vs Q E hr h => ?_)
  · obtain ⟨p, r, rfl, _⟩ := h
    rfl
  · obtain ⟨p, r, rfl, hp, hok, hl, k⟩ := h
    refine ⟨_, (pss_cons 
      (ps_set (i := 1) sc_piece_size.nd rfl (Or.inl rfl) (pe_call G_number_size (hr.mono (by decide)) rfl T.d_number_size.m T.d_number_size.F.kp T.d_number_size.b .nil pass0 (pa_cons (pe_call G_first_number (hr.mono (by decide)) rfl T.d_first_number.m T.d_first_number.F.kp T.d_first_number.b .nil pass0 (pa_cons (pv 0) pa_nil)) pa_nil))) (pss_cons 
      (ps_if (pt_cmpR op_eq (pe_ix ix_tup (pv 0) pe_int (fun _ _ => rfl)) pe_str (nomark _)) (pss_one 
      (ps_ret (pe_op op_add (pv 1) (pe_call G_number_size (hr.mono (by decide)) rfl T.d_number_size.m T.d_number_size.F.kp T.d_number_size.b .nil pass0 (pa_cons (pe_ix ix_tup (pv 0) pe_int (fun _ _ => rfl)) pa_nil))))) pss_nil) (pss_cons 
      (ps_if (pt_cmpR op_eq (pe_ix ix_tup (pv 0) pe_int (fun _ _ => rfl)) pe_str (nomark _)) (pss_one 
      (ps_ret (pe_op op_add (pv 1) (pe_callB call_len (by rfl) T.b_len PySem.boot_len (pa_cons (pe_ix ix_tup (pv 0) pe_int (fun _ _ => rfl)) pa_nil))))) pss_nil) (pss_one 
      (ps_ret (pe_op op_add (pv 1) pe_int)))))), ?_⟩
    have e : rowSize r = numSize (firstNum r) + (r.tail.length : Int) := by
      unfold rowSize rowCode
      rw [List.length_append, ← numCode_len]
      omega
    rw [e] at k
    refine ⟨_, rfl, p, r, rfl, hp, hok, hl, _, rfl, ?_⟩
    cases r with
    | copy b n =>
      refine ⟨_, rfl, p, _, _, _, rfl, rfl, SqT.of hp, rfl, rfl, _, rfl, ite2 (fun _ => ?_) fun h => absurd (by decide) h⟩
      have e2 : ((Row.tail (.copy b n)).length : Int) = numSize b := numCode_len b
      rw [e2] at k
      exact ⟨_, rfl, _, rfl, p, _, _, _, rfl, rfl, SqT.of hp, rfl, _, rfl, _, _, rfl, rfl, k⟩
    | run b n =>
      refine ⟨_, rfl, p, _, _, _, rfl, rfl, SqT.of hp, rfl, rfl, _, rfl, ite2 (fun h => absurd h (by decide)) fun _ => ?_⟩
      refine ⟨_, rfl, p, _, _, _, rfl, rfl, SqT.of hp, rfl, rfl, _, rfl, ite2 (fun h => absurd h (by decide)) fun _ => ?_⟩
      exact ⟨_, rfl, _, _, rfl, rfl, k⟩
    | bring bs =>
      have hbl : (bs.length : Int) ≤ 200 := hl
      refine ⟨_, rfl, p, _, _, _, rfl, rfl, SqT.of hp, rfl, rfl, _, rfl, ite2 (fun h => absurd h (by decide)) fun _ => ?_⟩
      refine ⟨_, rfl, p, _, _, _, rfl, rfl, SqT.of hp, rfl, rfl, _, rfl, ite2 (fun _ => ?_) fun h => absurd (by decide) h⟩
      exact ⟨_, rfl, _, rfl, p, _, _, _, rfl, rfl, SqT.of hp, rfl, _, bs.length, rfl, ⟨by rw [byteArr_size]; exact sizeS (by omega), (byteArr_size bs).symm⟩, _, _, rfl, rfl, k⟩
theorem ok_size (T : All K mg) : FnOk P w K mg base CX0 4 T.d_size.f T.d_size.fd ["patch"] spSizeOf := by
  have G_check_patch : FnOk P w K mg base CX0 3 T.d_check_patch.f T.d_check_patch.fd ["patch"] spCheckPatch := ok_check_patch T
  have G_number_size : FnOk P w K mg base CX0 1 T.d_number_size.f T.d_number_size.fd ["number"] spNumSize := ok_number_size T
  have G_piece_size : FnOk P w K mg base CX0 3 T.d_piece_size.f T.d_piece_size.fd ["piece"] spPieceSize := ok_piece_size T
  refine T.d_size.F.ok sc_size (fun vs H Q E h => ?_) (fun cdv A outer s H vs Q E hr h => ?_)
  · obtain ⟨v, _, rfl, _⟩ := h
    rfl
  · obtain ⟨v, rows, rfl, hP, hG, k⟩ := h
    refine ⟨_, (pss_cons 
      (ps_expr (pe_call G_check_patch (hr.mono (by decide)) rfl T.d_check_patch.m T.d_check_patch.F.kp T.d_check_patch.b .nil pass0 (pa_cons (pv 0) pa_nil))) (pss_one 
      (ps_ret (pe_op op_add (pe_op op_add (pe_call G_number_size (hr.mono (by decide)) rfl T.d_number_size.m T.d_number_size.F.kp T.d_number_size.b .nil pass0 (pa_cons (pe_callB call_len (by rfl) T.b_len PySem.boot_len (pa_cons (pv 0) pa_nil)) pa_nil)) (pe_callB (cr_sum rfl) (by rfl) T.b_sum (by decide +kernel) (pa_cons (pe_lc (own := [("piece", 1)]) (g := gName 1) (tt := tYes) rfl sc_size.nd (pi_tup (pv 0)) (blkOk_by (own := [("piece", 1)]) (N := ["patch", "piece"]) (sc := defScope s_size) (by decide +kernel)) (fun _ _ _ _ _ => (pg_name (i := 1) sc_size.nd rfl (Or.inl rfl))) (fun _ _ _ _ _ => pts_nil) (fun _ _ _ _ _ => (pe_call G_piece_size (hr.mono (by decide)) rfl T.d_piece_size.m T.d_piece_size.F.kp T.d_piece_size.b .nil pass0 (pa_cons (pv 1) pa_nil)))) pa_nil))) pe_int)))), ?_⟩
    refine ⟨_, rfl, v, rows, rfl, hP, hG, fun H1 s1 => ?_⟩
    obtain ⟨p, vs, rfl, hv, hpr⟩ := hP
    have hfew := hG.nat
    have hvl := Paired.length hpr
    refine ⟨_, rfl, _, vs.length, rfl, .inr ⟨_, SqT.of (s1 _ _ hv), rfl⟩, _, rfl, ?_⟩
    refine ⟨_, rfl, p, rfl, ⟨vs, SqT.of (s1 _ _ hv)⟩, fun D hD => lc_tup (K := K) (a := p) (xs := vs) (fun i H2 => Same H1 H2 ∧ H2 D = some (.lst (List.map V.int ((rows.take i).map rowSize))))
      ⟨Same.new hD, upd_same⟩ (fun i H2 _ ⟨s2, _⟩ => SqT.of (s2 _ _ (s1 _ _ hv))) ?_ ?_⟩
    · rintro i x H2 hi ⟨s2, hd⟩
      obtain ⟨r, hr1, q, rfl, hq⟩ := pairedAt hpr hi
      have hro := hG.each r (List.mem_of_getElem? hr1)
      have il : i < rows.length := (List.getElem?_eq_some_iff.mp hr1).1
      refine ⟨rfl, _, rfl, q, r, rfl, s2 _ _ (s1 _ _ hq), hro.1, hro.2, _, hd, sizeL (by rw [List.length_map, List.length_map, List.length_take]; omega), fun b o z => ?_, ?_⟩
      · rw [upd_ne (ne_of_none z hD)]; exact s2 _ _ z
      · rw [upd_same, take_snoc hr1, List.map_append, List.map_append]; rfl
    · rintro H2 ⟨s2, hd⟩
      rw [hvl, List.take_length] at hd
      refine ⟨D, _, rfl, SqL.of hd, _, _, rfl, rfl, _, _, rfl, rfl, ?_⟩
      have kk := k H2 (s1.trans s2)
      rw [← code_size rows, ← hvl] at kk
      exact kk
end
/-! ### a statement whose ways meet again; a list against the empty one -/
def tJoin (t : TS) : TS := fun D σ H => ∃ J : L2.St → Hp → Prop, t { D with nx := J } σ H ∧ ∀ σ' H', J σ' H' → D.nx σ' H'
theorem ps_join {X : Cx} {st : Stmt} {t : TS} (h : PS X st t) : PS X st (tJoin t) := by
  refine ⟨fun pins s σ H D I hh => ?_⟩
  obtain ⟨J, h1, h2⟩ := hh
  refine thn (h.run pins s σ H { D with nx := J } I h1) fun f s' q => ?_
  cases f with
  | next =>
    obtain ⟨σ', H', I', j⟩ := q
    exact ⟨σ', H', I', h2 _ _ j⟩
  | ret u => exact q
  | brk => exact q
  | cont => exact q
def rNeEmpty : R2 := fun x y H Q => ∃ a b xs, x = .ref a ∧ y = .ref b ∧ H a = some (.lst xs) ∧ H b = some (.lst []) ∧ Q (.bl (!xs.isEmpty)) H
theorem op_neEmpty {X : Cx} (hu : X.A.units + 64 < cLine) : OpR X (compareOp .NotEq) rNeEmpty := by
  intro pins s σ H x y v u Q I rx ry h
  obtain ⟨a, b, xs, rfl, rfl, ha, hb, q⟩ := h
  cases (show v = Value.ref a from rx)
  cases (show u = Value.ref b from ry)
  obtain ⟨us, r1, p1, _⟩ := I.list (SqL.of ha)
  obtain ⟨ws, r2, p2, _⟩ := I.list (SqL.of hb)
  cases r2
  cases r1 with
  | nil =>
    have z := SeqAt.RcNeAt.lists (A := X.A) (e := fun _ => true) p1.isList p2.isList rfl (by omega) (fun j h1 => absurd h1 (Nat.not_lt_zero j))
    exact z X.prog X.w _ _ ⟨.bl false, H, I, rfl, q⟩
  | cons c t =>
    have z := SeqAt.RcNeAt.lists_lengths (A := X.A) p1.isList p2.isList (by simp) (by omega)
    exact z X.prog X.w _ _ ⟨.bl true, H, I, rfl, q⟩
theorem op_notIn_rng {X : Cx} : OpR X (compareOp .NotIn) (fun x y H Q => ∃ i a lo hi, x = V.int i ∧ y = V.ref a ∧ H a = some (.rng lo hi) ∧ Q (.bl (!decide (lo ≤ i ∧ i < hi))) H) := by
  intro pins s σ H x y v u Q I rx ry h
  obtain ⟨i, a, lo, hi, rfl, rfl, ha, q⟩ := h
  obtain ⟨k, rfl⟩ := rx
  obtain rfl : u = Value.ref a := ry
  obtain ⟨t1, t2, t3, ho⟩ := I.hok a _ ha
  refine NotIn_slot (T := "range") ⟨_, ho, rfl⟩ PySem.F.slot_range_contains (call_meets PySem.F.slot_range_contains ⟨_, ho, rfl⟩ PySem.F.entry_range_contains (PySem.F.args_range_contains_2 _ _) (q_contains a lo hi i t1 t2 t3 k) ⟨ho, wpAny_truthy_bool ⟨.bl _, H, I, rfl, ?_⟩⟩)
  show Q (.bl (!(Builtin.Range.rangePlace? lo hi 1 i).isSome)) H
  rw [place1]
  exact q
theorem atIb {bs : List Int} {z b : Int} (h0 : 0 ≤ z) (h : bs[z.toNat]? = some b) : atI (bs.map V.int) z = some (.int b) := at_of (j := z.toNat) (by omega) (by rw [List.getElem?_map, h]; rfl)
/-! ### a < b, a == b of tuples: items are asked only up to the first that differ; min of a list of what compares so; bytes.find -/
section
open AutoSeq1 (wpAny_loadPart')
open SeqAt MeetsSeq MeetsSeq2 MeetsSeq3 SeqRoads2
/-- how two things compare: ==, and where they differ < -/
def Cmp (A : Around) (s : Shared) (v u : Value) (o : Ordering) : Prop := EqAt A s v u (decide (o = .eq)) ∧ RcLt A s v u (decide (o = .lt))
inductive Lex (A : Around) (s : Shared) : List Value → List Value → Ordering → Prop
  | nil : Lex A s [] [] .eq
  | less {u : Value} {us : List Value} : Lex A s [] (u :: us) .lt
  | more {v : Value} {vs : List Value} : Lex A s (v :: vs) [] .gt
  | eq {v u : Value} {vs us : List Value} {o : Ordering} : Cmp A s v u .eq → Lex A s vs us o → Lex A s (v :: vs) (u :: us) o
  | diff {v u : Value} {vs us : List Value} {o : Ordering} : o ≠ .eq → Cmp A s v u o → Lex A s (v :: vs) (u :: us) o
theorem Lex.ends {A : Around} {s : Shared} {a b : List Value} {o : Ordering} (h : Lex A s a b o) (z : a = [] ∨ b = []) : decide (o = .lt) = decide (a.length < b.length) ∧ decide (o = .eq) = decide (a.length = b.length) := by
  cases h with
  | nil => exact ⟨rfl, rfl⟩
  | less => exact ⟨by simp, by simp⟩
  | more => exact ⟨by simp, by simp⟩
  | eq _ _ => rcases z with z | z <;> cases z
  | diff _ _ => rcases z with z | z <;> cases z
theorem tuple_ltL (l b : Addr) (items items2 : Array Value) (n n2 : Nat) (dd dd2 : Option Addr) (sl sl2 : Array (Option Value)) (o : Ordering) :
    Meets (Builtin.«tuple.__lt__» ⟨[.ref l, .ref b], []⟩)
      (fun A R s => s.heap.get? l = some { cls := .type "tuple", dict := dd, data := .seq items n, slots := sl } ∧ s.heap.get? b = some { cls := .type "tuple", dict := dd2, data := .seq items2 n2, slots := sl2 } ∧
        Lex A.in1 s items.toList items2.toList o ∧ R (.ok (.ret (.bool (decide (o = .lt))))) s) :=
  .of_wp fun prog w A R s h => by
    obtain ⟨hp, g, d, tk, os⟩ := s; obtain ⟨hl, hb, hx, h⟩ := h
    have f2 := AutoSeq1.sub_tuple_tuple
    have hZ : (items.toList.zip items2.toList).length = min items.size items2.size := by simp
    wp_walk using wpAny_loadPart' hl, wpAny_loadPart' hb, wpAny_forIn_list _ (fun rest b s' => b.1 = none ∧ s' = ⟨hp, g, d, tk, os⟩ ∧ ∃ i, i ≤ min items.size items2.size ∧ rest = (items.toList.zip items2.toList).drop i ∧
      Lex A.in1 ⟨hp, g, d, tk, os⟩ (items.toList.drop i) (items2.toList.drop i) o) _
    case turn =>
      rintro ⟨y, x⟩ rest b s' ⟨hb', rfl, i, hi, hz, hR⟩
      have hlt : i < (items.toList.zip items2.toList).length := by
        rcases Nat.lt_or_ge i (items.toList.zip items2.toList).length with h' | h'
        · exact h'
        · rw [List.drop_of_length_le h'] at hz; cases hz
      have hm : i < min items.size items2.size := hZ ▸ hlt
      have h1 : i < items.size := Nat.lt_of_lt_of_le hm (Nat.min_le_left _ _)
      have h2 : i < items2.size := Nat.lt_of_lt_of_le hm (Nat.min_le_right _ _)
      rw [List.drop_eq_getElem_cons hlt] at hz
      injection hz with hyx hrest
      have hy : y = items[i] := by have := congrArg Prod.fst hyx; simpa using this
      have hx : x = items2[i] := by have := congrArg Prod.snd hyx; simpa using this
      subst hy hx
      have d1 : items.toList.drop i = items[i] :: items.toList.drop (i + 1) := List.drop_eq_getElem_cons (by simpa using h1)
      have d2 : items2.toList.drop i = items2[i] :: items2.toList.drop (i + 1) := List.drop_eq_getElem_cons (by simpa using h2)
      rw [d1, d2] at hR
      cases hR with
      | eq hc ht =>
        have hc := hc.1 prog w
        refine wpAny_bind (hc _ _ ?_)
        wp_walk
        exact ⟨rfl, rfl, i + 1, hm, hrest, ht⟩
      | diff ho hc =>
        have hc1 := hc.1 prog w
        have hc2 := hc.2 prog w
        rw [decide_eq_false ho] at hc1
        refine wpAny_bind (hc1 _ _ ?_)
        have hc3 : ∀ {E : Value → Shared → Prop} {Q : Value → Shared → Prop}, Q (.bool (decide (o = .lt))) ⟨hp, g, d, tk, os⟩ → wpAny (model prog w) A.in1 (richCompare .Lt items[i] items2[i]) Q E ⟨hp, g, d, tk, os⟩ := fun q => hc2 _ _ q
        wp_walk using hc3
        exact ⟨_, rfl, h⟩
    case fin =>
      rintro ⟨b1, b2⟩ s' ⟨hb', rfl, i, hi, hz, hR⟩
      simp only at hb'
      subst hb'
      have hge : min items.size items2.size ≤ i := by
        rcases Nat.lt_or_ge i (items.toList.zip items2.toList).length with h' | h'
        · rw [List.drop_eq_getElem_cons h'] at hz; cases hz
        · exact hZ ▸ h'
      wp_walk
      refine ⟨_, rfl, ?_⟩
      have z : items.toList.drop i = [] ∨ items2.toList.drop i = [] := by
        rcases Nat.le_total items.size items2.size with q | q
        · exact .inl (List.drop_of_length_le (by simp; omega))
        · exact .inr (List.drop_of_length_le (by simp; omega))
      have e := (hR.ends z).1
      rw [List.length_drop, List.length_drop, Array.length_toList, Array.length_toList] at e
      have e2 : decide (o = .lt) = decide (items.size < items2.size) := by
        rw [e]
        exact decide_eq_decide.mpr (by omega)
      rw [e2] at h
      simpa [Builtin.Tuple.tupleCompareSizes] using h
    case h =>
      exact ⟨rfl, rfl, 0, Nat.zero_le _, rfl, hx⟩
theorem tuple_eqL (l b : Addr) (items items2 : Array Value) (n n2 : Nat) (dd dd2 : Option Addr) (sl sl2 : Array (Option Value)) (o : Ordering) :
    Meets (Builtin.«tuple.__eq__» ⟨[.ref l, .ref b], []⟩)
      (fun A R s => s.heap.get? l = some { cls := .type "tuple", dict := dd, data := .seq items n, slots := sl } ∧ s.heap.get? b = some { cls := .type "tuple", dict := dd2, data := .seq items2 n2, slots := sl2 } ∧
        Lex A.in1 s items.toList items2.toList o ∧ R (.ok (.ret (.bool (decide (o = .eq))))) s) :=
  .of_wp fun prog w A R s h => by
    obtain ⟨hp, g, d, tk, os⟩ := s; obtain ⟨hl, hb, hx, h⟩ := h
    have f2 := AutoSeq1.sub_tuple_tuple
    have hZ : (items.toList.zip items2.toList).length = min items.size items2.size := by simp
    wp_walk using wpAny_loadPart' hl, wpAny_loadPart' hb, wpAny_forIn_list _ (fun rest b s' => b.1 = none ∧ s' = ⟨hp, g, d, tk, os⟩ ∧ ∃ i, i ≤ min items.size items2.size ∧ rest = (items.toList.zip items2.toList).drop i ∧
      Lex A.in1 ⟨hp, g, d, tk, os⟩ (items.toList.drop i) (items2.toList.drop i) o) _
    case turn =>
      rintro ⟨y, x⟩ rest b s' ⟨hb', rfl, i, hi, hz, hR⟩
      have hlt : i < (items.toList.zip items2.toList).length := by
        rcases Nat.lt_or_ge i (items.toList.zip items2.toList).length with h' | h'
        · exact h'
        · rw [List.drop_of_length_le h'] at hz; cases hz
      have hm : i < min items.size items2.size := hZ ▸ hlt
      have h1 : i < items.size := Nat.lt_of_lt_of_le hm (Nat.min_le_left _ _)
      have h2 : i < items2.size := Nat.lt_of_lt_of_le hm (Nat.min_le_right _ _)
      rw [List.drop_eq_getElem_cons hlt] at hz
      injection hz with hyx hrest
      have hy : y = items[i] := by have := congrArg Prod.fst hyx; simpa using this
      have hx : x = items2[i] := by have := congrArg Prod.snd hyx; simpa using this
      subst hy hx
      have d1 : items.toList.drop i = items[i] :: items.toList.drop (i + 1) := List.drop_eq_getElem_cons (by simpa using h1)
      have d2 : items2.toList.drop i = items2[i] :: items2.toList.drop (i + 1) := List.drop_eq_getElem_cons (by simpa using h2)
      rw [d1, d2] at hR
      cases hR with
      | eq hc ht =>
        have hc := hc.1 prog w
        refine wpAny_bind (hc _ _ ?_)
        wp_walk
        exact ⟨rfl, rfl, i + 1, hm, hrest, ht⟩
      | diff ho hc =>
        have hc1 := hc.1 prog w
        rw [decide_eq_false ho] at hc1 h
        refine wpAny_bind (hc1 _ _ ?_)
        wp_walk
        exact ⟨_, rfl, h⟩
    case fin =>
      rintro ⟨b1, b2⟩ s' ⟨hb', rfl, i, hi, hz, hR⟩
      simp only at hb'
      subst hb'
      have hge : min items.size items2.size ≤ i := by
        rcases Nat.lt_or_ge i (items.toList.zip items2.toList).length with h' | h'
        · rw [List.drop_eq_getElem_cons h'] at hz; cases hz
        · exact hZ ▸ h'
      wp_walk
      refine ⟨_, rfl, ?_⟩
      have z : items.toList.drop i = [] ∨ items2.toList.drop i = [] := by
        rcases Nat.le_total items.size items2.size with q | q
        · exact .inl (List.drop_of_length_le (by simp; omega))
        · exact .inr (List.drop_of_length_le (by simp; omega))
      have e := (hR.ends z).2
      rw [List.length_drop, List.length_drop, Array.length_toList, Array.length_toList] at e
      have e2 : decide (o = .eq) = decide (items.size = items2.size) := by
        rw [e]
        exact decide_eq_decide.mpr (by omega)
      rw [e2] at h
      have e3 : decide (items.size = items2.size) = (items.size == items2.size) := by rw [Bool.eq_iff_iff, decide_eq_true_iff, beq_iff_eq]
      rw [e3] at h
      simpa [Builtin.Tuple.tupleCompareSizes] using h
    case h =>
      exact ⟨rfl, rfl, 0, Nat.zero_le _, rfl, hx⟩

theorem RcLt.tuplesL {A : Around} {s : Shared} {l b : Addr} {items items2 : Array Value} {o : Ordering} (hl : s.heap.IsTuple l items) (hb : s.heap.IsTuple b items2) (hu : A.units < cLine) (hx : Lex A.in1 s items.toList items2.toList o) :
    RcLt A s (.ref l) (.ref b) (decide (o = .lt)) := fun prog w E Q h => by
  obtain ⟨⟨cls, dd, data, sl⟩, ho, hc, n, hd⟩ := id hl
  obtain ⟨⟨cls2, dd2, data2, sl2⟩, ho2, hc2, n2, hd2⟩ := id hb
  simp only at hc hd hc2 hd2
  subst hc hd hc2 hd2
  exact richCompare_meets_room (op := .Lt) ⟨_, ho, rfl⟩ ⟨_, ho2, rfl⟩ F.slot_tuple_lt F.entry_tuple_lt (F.args_tuple_lt_2 _ _) (tuple_ltL l b items items2 n n2 dd dd2 sl sl2 o)
    ⟨ho, ho2, hx, show Value.bool (decide (o = .lt)) ≠ Value.notImplemented ∧ Q (.bool (decide (o = .lt))) s from ⟨(fun x => nomatch x), h⟩⟩ hu
theorem RcAt.tuplesL {A : Around} {s : Shared} {l b : Addr} {items items2 : Array Value} {o : Ordering} (hl : s.heap.IsTuple l items) (hb : s.heap.IsTuple b items2) (hu : A.units < cLine) (hx : Lex A.in1 s items.toList items2.toList o) :
    RcAt A s (.ref l) (.ref b) (decide (o = .eq)) := fun prog w E Q h => by
  obtain ⟨⟨cls, dd, data, sl⟩, ho, hc, n, hd⟩ := id hl
  obtain ⟨⟨cls2, dd2, data2, sl2⟩, ho2, hc2, n2, hd2⟩ := id hb
  simp only at hc hd hc2 hd2
  subst hc hd hc2 hd2
  exact richCompare_meets_room (op := .Eq) ⟨_, ho, rfl⟩ ⟨_, ho2, rfl⟩ F.slot_tuple_eq F.entry_tuple_eq (F.args_tuple_eq_2 _ _) (tuple_eqL l b items items2 n n2 dd dd2 sl sl2 o)
    ⟨ho, ho2, hx, show Value.bool (decide (o = .eq)) ≠ Value.notImplemented ∧ Q (.bool (decide (o = .eq))) s from ⟨(fun x => nomatch x), h⟩⟩ hu
/-- two tuples -/
theorem Cmp.tuples {A : Around} {s : Shared} {l b : Addr} {items items2 : Array Value} {o : Ordering} (hl : s.heap.IsTuple l items) (hb : s.heap.IsTuple b items2) (hu : A.units < cLine) (hx : Lex A.in1 s items.toList items2.toList o) (same : l = b → o = .eq) :
    Cmp A s (.ref l) (.ref b) o := by
  refine ⟨?_, RcLt.tuplesL hl hb hu hx⟩
  by_cases e : l = b
  · subst e
    rw [same rfl]
    exact EqAt.same _
  · exact EqAt.of_refs e (RcAt.tuplesL hl hb hu hx)

theorem Cmp.ints {A : Around} {s : Shared} (a b : Int) (t u : Tok) : Cmp A s (.int a t) (.int b u) (compare a b) := by
  refine ⟨?_, fun prog w E Q q => ?_⟩
  · have z := EqAt.int_int (A := A) (s := s) a t b u
    have e : (a == b) = decide (compare a b = .eq) := by
      rw [Bool.eq_iff_iff, beq_iff_eq, decide_eq_true_iff, Int.compare_eq_eq]
    rw [e] at z
    exact z
  · refine P.lt_int ?_
    have e : decide (a < b) = decide (compare a b = .lt) := decide_eq_decide.mpr Int.compare_eq_lt.symm
    rw [e]
    exact q
theorem Cmp.strs {A : Around} {s : Shared} (a b : Str) (t u : Tok) (o : Ordering) (he : (a == b) = decide (o = .eq)) (hl : decide (a.cps.toList < b.cps.toList) = decide (o = .lt)) : Cmp A s (.str a t) (.str b u) o := by
  refine ⟨?_, fun prog w E Q q => ?_⟩
  · have z := EqAt.str_str (A := A) (s := s) a t b u
    rw [he] at z
    exact z
  · refine P.lt_str ?_
    rw [hl]
    exact q
theorem ord_eq : ∀ (a b : List Int), PySem.W.KBq.ord a b = .eq ↔ a = b
  | [], [] => by simp [PySem.W.KBq.ord]
  | [], _ :: _ => by simp [PySem.W.KBq.ord]
  | _ :: _, [] => by simp [PySem.W.KBq.ord]
  | x :: xs, y :: ys => by
    have ih := ord_eq xs ys
    unfold PySem.W.KBq.ord
    split
    · rename_i h; simp; omega
    · split
      · rename_i h; simp; omega
      · have e : x = y := by omega
        simp [e, ih]
theorem ord_lt : ∀ (a b : List Int), PySem.W.KBq.ord a b = .lt ↔ a < b
  | [], [] => by simp [PySem.W.KBq.ord]
  | [], _ :: _ => by simp [PySem.W.KBq.ord]
  | _ :: _, [] => by simp [PySem.W.KBq.ord]
  | x :: xs, y :: ys => by
    have ih := ord_lt xs ys
    unfold PySem.W.KBq.ord
    rw [List.cons_lt_cons_iff]
    split
    · rename_i h; simp [h]
    · split
      · rename_i h
        simp
        omega
      · have e : x = y := by omega
        simp [e, ih]
theorem ord_cons (x y : Int) (xs ys : List Int) : PySem.W.KBq.ord (x :: xs) (y :: ys) = (compare x y).then (PySem.W.KBq.ord xs ys) := by
  have e : PySem.W.KBq.ord (x :: xs) (y :: ys) = if x < y then .lt else if y < x then .gt else PySem.W.KBq.ord xs ys := rfl
  rw [e]
  by_cases h : x < y
  · rw [if_pos h, Int.compare_eq_lt.mpr h]; rfl
  · rw [if_neg h]
    by_cases h2 : y < x
    · rw [if_pos h2, Int.compare_eq_gt.mpr h2]; rfl
    · rw [if_neg h2, Int.compare_eq_eq.mpr (by omega)]; rfl
theorem Cmp.byts {A : Around} {s : Shared} {bs cs : List Int} (hb : B8 bs) (hc : B8 cs) (t u : Tok) : Cmp A s (.bytes (byteArr bs) t) (.bytes (byteArr cs) u) (PySem.W.KBq.ord bs cs) := by
  refine ⟨fun prog w E Q q => PySem.W.eqBool_bytes ?_, fun prog w E Q q => ?_⟩
  · have e : decide ((byteArr bs).toList = (byteArr cs).toList) = decide (PySem.W.KBq.ord bs cs = .eq) := by
      refine decide_eq_decide.mpr ?_
      rw [ord_eq]
      exact ⟨fun h => by rw [← bInts_of hb, Array.toList_inj.mp h, bInts_of hc], fun h => by rw [h]⟩
    rw [e]
    exact q
  · refine PySem.W.KBq.lt_K (bInts_of hb) (bInts_of hc) ?_
    have e : (PySem.W.KBq.ord bs cs == .lt) = decide (PySem.W.KBq.ord bs cs = .lt) := by rw [Bool.eq_iff_iff, beq_iff_eq, decide_eq_true_iff]
    rw [e]
    exact q
theorem Lex.cons {A : Around} {s : Shared} {v u : Value} {vs us : List Value} {o1 o2 : Ordering} (c : Cmp A s v u o1) (h : o1 = .eq → Lex A s vs us o2) : Lex A s (v :: vs) (u :: us) (o1.then o2) := by
  cases o1 with
  | eq => exact .eq c (h rfl)
  | lt => exact .diff (fun z => by cases z) c
  | gt => exact .diff (fun z => by cases z) c
/-! ### how two values compare, told of the heap -/
inductive LexV (F : V → V → Ordering → Prop) : List V → List V → Ordering → Prop
  | nil : LexV F [] [] .eq
  | less {u : V} {us : List V} : LexV F [] (u :: us) .lt
  | more {v : V} {vs : List V} : LexV F (v :: vs) [] .gt
  | cons {v u : V} {vs us : List V} {o1 o2 : Ordering} : F v u o1 → (o1 = .eq → LexV F vs us o2) → LexV F (v :: vs) (u :: us) (o1.then o2)
def Ov (H : Hp) : Nat → V → V → Ordering → Prop
  | 0, _, _, _ => False
  | n + 1, x, y, o => (∃ a b : Int, x = .int a ∧ y = .int b ∧ o = compare a b) ∨ (∃ a b : Str, x = .str a ∧ y = .str b ∧ (a == b) = decide (o = .eq) ∧ decide (a.cps.toList < b.cps.toList) = decide (o = .lt))
    ∨ (∃ bs cs : List Int, x = .byt (byteArr bs) ∧ y = .byt (byteArr cs) ∧ B8 bs ∧ B8 cs ∧ o = PySem.W.KBq.ord bs cs)
    ∨ ∃ a b xs ys, x = .ref a ∧ y = .ref b ∧ H a = some (.tup xs) ∧ H b = some (.tup ys) ∧ LexV (Ov H n) xs ys o ∧ (a = b → o = .eq)
theorem lexv_run {A : Around} {s : Shared} {F : V → V → Ordering → Prop} (ih : ∀ x y v u o, F x y o → RelV x v → RelV y u → Cmp A s v u o) {xs ys : List V} {o : Ordering} (h : LexV F xs ys o) : ∀ {us ws : List Value}, Vals xs us → Vals ys ws → Lex A s us ws o := by
  induction h with
  | nil => intro us ws r1 r2; cases r1; cases r2; exact .nil
  | less => intro us ws r1 r2; cases r1; cases r2; exact .less
  | more => intro us ws r1 r2; cases r1; cases r2; exact .more
  | cons f _ ih2 =>
    intro us ws r1 r2
    cases r1 with
    | cons a t =>
      cases r2 with
      | cons b t2 => exact Lex.cons (ih _ _ _ _ _ f a b) fun e => ih2 e t t2
theorem ov_run {X : Cx} {pins : List (Addr × Obj)} {σ : L2.St} {H : Hp} {s s' : Shared} (I : Inv X pins σ H s) (hk : ∀ b o, s.heap.get? b = some o → s'.heap.get? b = some o) :
    ∀ (n : Nat) (A : Around), A.units + n < cLine → ∀ (x y : V) (v u : Value) (o : Ordering), Ov H n x y o → RelV x v → RelV y u → Cmp A s' v u o
  | 0, _, _, _, _, _, _, _, h, _, _ => h.elim
  | n + 1, A, hu, x, y, v, u, o, h, rx, ry => by
    rcases h with ⟨a, b, rfl, rfl, rfl⟩ | ⟨a, b, rfl, rfl, h1, h2⟩ | ⟨bs, cs, rfl, rfl, h1, h2, rfl⟩ | ⟨a, b, xs, ys, rfl, rfl, ha, hb, hx, same⟩
    · obtain ⟨t, rfl⟩ := (show ∃ t, v = Value.int a t from rx)
      obtain ⟨t', rfl⟩ := (show ∃ t, u = Value.int b t from ry)
      exact Cmp.ints a b t t'
    · obtain ⟨t, rfl⟩ := (show ∃ t, v = Value.str a t from rx)
      obtain ⟨t', rfl⟩ := (show ∃ t, u = Value.str b t from ry)
      exact Cmp.strs a b t t' o h1 h2
    · obtain ⟨t, rfl⟩ := (show ∃ t, v = Value.bytes (byteArr bs) t from rx)
      obtain ⟨t', rfl⟩ := (show ∃ t, u = Value.bytes (byteArr cs) t from ry)
      exact Cmp.byts h1 h2 t t'
    · cases (show v = Value.ref a from rx)
      cases (show u = Value.ref b from ry)
      obtain ⟨us, r1, p1, _⟩ := I.tuple (SqT.of (K := X.K) ha)
      obtain ⟨ws, r2, p2, _⟩ := I.tuple (SqT.of (K := X.K) hb)
      refine Cmp.tuples (items := us.toArray) (items2 := ws.toArray) (Heap.IsTuple.at (show s.heap.IsTuple a us.toArray from p1) fun o e => hk _ _ e) (Heap.IsTuple.at (show s.heap.IsTuple b ws.toArray from p2) fun o e => hk _ _ e) (by omega) ?_ same
      exact lexv_run (fun x y v u o h rx ry => ov_run I hk n A.in1 (by show A.units + 1 + n < cLine; omega) x y v u o h rx ry) hx r1 r2
/-- the first of the least: none is less -/
theorem argBest_least {bt : Nat → Nat → Bool} {n : Nat} (rf : ∀ i, i < n → bt i i = false) (tr : ∀ i b m, i < n → b < n → m < n → bt i b = false → bt m b = true → bt i m = false) :
    ∀ k, k < n → argBest bt k ≤ k ∧ ∀ j, j ≤ k → bt j (argBest bt k) = false
  | 0, h => ⟨Nat.le_refl _, fun j hj => by rw [Nat.le_zero.mp hj]; exact rf 0 h⟩
  | k + 1, h => by
    obtain ⟨ih0, ih⟩ := argBest_least rf tr k (by omega)
    show (if bt (k + 1) (argBest bt k) then k + 1 else argBest bt k) ≤ k + 1 ∧ ∀ j, j ≤ k + 1 → bt j (if bt (k + 1) (argBest bt k) then k + 1 else argBest bt k) = false
    by_cases e : bt (k + 1) (argBest bt k) = true
    · rw [if_pos e]
      refine ⟨Nat.le_refl _, fun j hj => ?_⟩
      by_cases ej : j = k + 1
      · rw [ej]; exact rf _ h
      · exact tr j _ _ (by omega) (by omega) h (ih j (by omega)) e
    · rw [if_neg e]
      refine ⟨by omega, fun j hj => ?_⟩
      by_cases ej : j = k + 1
      · rw [ej]; simpa using e
      · exact ih j (by omega)
/-- min of a list whose items compare as their keys do -/
def rMinO (K : PySem.W.Frag) : List V → Hp → VK → Prop := fun vs H Q => ∃ (a : Addr) (xs : List V) (κ : Type) (ks : List κ) (f : κ → κ → Ordering), vs = [V.ref a] ∧ SqL K H a xs ∧ xs ≠ [] ∧ xs.length = ks.length ∧
  (∀ (i j : Nat) (x y : V) (k l : κ), xs[i]? = some x → xs[j]? = some y → ks[i]? = some k → ks[j]? = some l → Ov H 8 x y (f k l)) ∧ (∀ k ∈ ks, f k k ≠ .lt) ∧
  (∀ x ∈ ks, ∀ b ∈ ks, ∀ m ∈ ks, f x b ≠ .lt → f m b = .lt → f x m ≠ .lt) ∧ ∀ (i : Nat) (x : V) (k : κ), xs[i]? = some x → ks[i]? = some k → (∀ l ∈ ks, f l k ≠ .lt) → Q x H
theorem cr_minO {X : Cx} {K : PySem.W.Frag} (hc : X.calm = true) (hK : X.K = K) (hu : X.A.units + 64 < cLine) : CallR X (.builtin "min") (rMinO K) := by
  subst hK
  intro pins s σ H vs us Q I r h
  obtain ⟨a, xs, κ, ks, f, rfl, hs, hne, hlen, hx, rf, tr, q⟩ := h
  obtain ⟨its, rv, hl, hz⟩ := I.list hs
  obtain ⟨u, rfl, ru⟩ := vals1 r
  obtain rfl : u = Value.ref a := ru
  have len : its.length = xs.length := rv.length.symm
  have at_ : ∀ (i : Nat) (v : Value), its.toArray[i]? = some v → ∃ x k, xs[i]? = some x ∧ ks[i]? = some k ∧ RelV x v := fun (i : Nat) (v : Value) hv => by
    have hv : its[i]? = some v := by simpa using hv
    have lt : i < xs.length := by rw [← len]; exact (List.getElem?_eq_some_iff.mp hv).1
    obtain ⟨u, hu, ru⟩ := rv.get (i := i) (x := xs[i]) (List.getElem?_eq_getElem lt)
    rw [hv] at hu
    cases hu
    exact ⟨_, _, List.getElem?_eq_getElem lt, List.getElem?_eq_getElem (by omega), ru⟩
  have pos : 0 < its.toArray.size := by
    rw [List.size_toArray, len]
    exact List.length_pos_iff.mpr hne
  refine call_min_walkH (PySem.W.iter_listW (A := X.A.in1) (I.ok.hd hc) hl.isList fun s₂ e W st hfp hw hk => ?_)
  refine ⟨_, _, _, _, _, _, _, s.heap, (fun i j => match ks[i]?, ks[j]? with | some x, some y => decide (f x y = .lt) | _, _ => false), rfl, W, st, hfp, pos, hw, hk, fun i j vi vj s' Q' E' hk' hi hj hq => ?_, fun v s' hP m => ?_⟩
  · obtain ⟨x, k, ex, ek, rx⟩ := at_ i vi hi
    obtain ⟨y, l, ey, el, ry⟩ := at_ j vj hj
    simp only [ek, el] at hq
    have c := ov_run I hk' 8 X.A.in1 (by show X.A.units + 1 + 8 < cLine; omega) x y vi vj _ (hx i j x y k l ex ey ek el) rx ry
    exact c.2 _ _ _ _ hq
  · obtain ⟨h', tk, rfl, hk'⟩ := PySem.W.moved_old e rfl m
    have bl := argBest_least (n := ks.length) (bt := fun i j => match ks[i]?, ks[j]? with | some x, some y => decide (f x y = .lt) | _, _ => false) (fun i hi => ?_) (fun i b m hi hb hm h1 h2 => ?_) (its.toArray.size - 1) (by rw [← hlen, ← len, ← List.size_toArray]; omega)
    · obtain ⟨x, k, ex, ek, rx⟩ := at_ _ v hP
      refine ⟨x, H, I.kept hk', rx, q _ x k ex ek fun l hl => ?_⟩
      obtain ⟨j, ej⟩ := List.mem_iff_getElem?.mp hl
      have hj := (List.getElem?_eq_some_iff.mp ej).1
      have z := bl.2 j (by rw [← hlen, ← len] at hj; rw [List.size_toArray]; omega)
      simp only [ej, ek] at z
      exact of_decide_eq_false z
    · simp only [List.getElem?_eq_getElem hi]
      exact decide_eq_false (rf _ (List.getElem_mem hi))
    · simp only [List.getElem?_eq_getElem hi, List.getElem?_eq_getElem hb, List.getElem?_eq_getElem hm] at h1 h2 ⊢
      exact decide_eq_false (tr _ (List.getElem_mem hi) _ (List.getElem_mem hb) _ (List.getElem_mem hm) (of_decide_eq_false h1) (of_decide_eq_true h2))
/-! ### bytes.find -/
theorem mt_bfind {X : Cx} : MtR X "bytes.find" (fun x xs H Q => ∃ bs cs : List Int, x = .byt (byteArr bs) ∧ xs = [.byt (byteArr cs)] ∧ B8 bs ∧ B8 cs ∧ Q (.int (PySem.W.KBf.told (PySem.W.KBf.first? bs cs))) H) := by
  intro pins s σ H x xs v us Q I rx rs h
  obtain ⟨bs, cs, rfl, rfl, hb, hc, q⟩ := h
  obtain ⟨t, rfl⟩ := rx
  cases rs with
  | cons r rr =>
    cases rr
    obtain ⟨u, rfl⟩ := r
    exact PySem.W.KBf.find_K (bInts_of hb) (bInts_of hc) fun t' k _ _ _ => ⟨.int _, H, I.tok k, ⟨_, rfl⟩, q⟩
/-- a method of bytes -/
def tBMB (r : V → List V → Hp → VK → Prop) (to : TE) (t : TA) : TE := fun σ H Q => to σ H fun x H1 => (∃ b, x = .byt b) ∧ t σ H1 fun xs H2 => r x xs H2 Q
theorem pe_bmB {X : Cx} {o e : Expr} {es : List Expr} {to : TE} {t : TA} {name : Str} {apos cpos : Pos} {id : String} {r : V → List V → Hp → VK → Prop} (slot : Slot "bytes" name id) (hty : typeOf (.builtin id) = pure (.type "method_descriptor")) (hm : MtR X id r) (ho : PE X o to) (ha : PA X (e :: es) t)
    (hbase : attributeBase o name X.env (eval o X.env) = eval o X.env := by rfl)
    (hfew : ((backTo cpos (starEach (e :: es) X.env)).all (fun x => !x.1) && (backToKw cpos (keywordEach [] X.env)).all (fun x => x.1.isSome)
      && decide ((e :: es).length + ([] : List Keyword).length + (if ([] : List Keyword).isEmpty then 0 else 1) < 30)) = true := by rfl)
    (hline : (apos.endLine == cpos.line) = true := by rfl) (hs : starEach (e :: es) X.env = (false, eval e X.env) :: starEach es X.env := by rfl) (hplain : (backTo cpos (starEach es X.env)).any (·.1) = false := by rfl) :
    PE X (.Call (.Attribute o name apos) (e :: es) [] cpos) (tBMB r to t) := by
  refine ⟨fun pins s σ H Q I h => ?_⟩
  refine wpAny_Call_method_late hbase hfew hline rfl (thn (ho.run pins s σ H _ I h) fun v s1 ⟨x, H1, I1, r1, ty, q1⟩ => ?_)
  obtain ⟨b, rfl⟩ := ty
  obtain ⟨tk, rfl⟩ := (show ∃ t, v = Value.bytes b t from r1)
  refine ⟨"bytes", id, PySem.W.FB.plainAttrs_bytes, slot, hty, PySem.W.typeIs_bytes _ _ _, (fun _ e => nomatch e), ?_⟩
  have hA := ha.run cpos pins s1 σ H1 _ I1 q1
  rw [hs] at hA ⊢
  refine Calls.callWith_builtin (by show (false || (backTo cpos (starEach es X.env)).any (·.1)) = false; rw [hplain] <;> rfl) (Calls.evalArgs_plain ?_)
  exact thn hA fun us s2 ⟨vs, H2, I2, r2, q2⟩ => hm pins s2 σ H2 (.byt b) vs _ us Q I2 ⟨tk, rfl⟩ r2 q2
end
/-! ### the shortest code: what pieces may stand at a place, the first of the least -/
def Row.key : Row → List Int
  | .bring bs => 0 :: bs
  | .copy b n => [1, b, n]
  | .run b n => [2, b, n]
theorem Row.key_inj : ∀ {r r' : Row}, r.key = r'.key → r = r'
  | .bring _, .bring _, h => by simp only [Row.key, List.cons.injEq, true_and] at h; rw [h]
  | .copy _ _, .copy _ _, h => by simp only [Row.key, List.cons.injEq, true_and, and_true] at h; rw [h.1, h.2]
  | .run _ _, .run _ _, h => by simp only [Row.key, List.cons.injEq, true_and, and_true] at h; rw [h.1, h.2]
  | .bring _, .copy _ _, h => by simp [Row.key] at h
  | .bring _, .run _ _, h => by simp [Row.key] at h
  | .copy _ _, .bring _, h => by simp [Row.key] at h
  | .copy _ _, .run _ _, h => by simp [Row.key] at h
  | .run _ _, .bring _, h => by simp [Row.key] at h
  | .run _ _, .copy _ _, h => by simp [Row.key] at h
theorem keys_inj : ∀ {a b : List Row}, a.map Row.key = b.map Row.key → a = b
  | [], [], _ => rfl
  | [], _ :: _, h => by cases h
  | _ :: _, [], h => by cases h
  | x :: a, y :: b, h => by
    rw [List.map_cons, List.map_cons, List.cons.injEq] at h
    rw [Row.key_inj h.1, keys_inj h.2]
def valR (old : List Int) (r : Row) : List Int := (cellsR r).map (valOf old)
theorem done_cons (r : Row) (l : List Row) (old : List Int) : doneOf (r :: l) old = valR old r ++ doneOf l old := by
  show ((r :: l).flatMap cellsR).map (valOf old) = _
  rw [List.flatMap_cons, List.map_append]
  rfl
theorem valR_len {c : Int} {r : Row} (old : List Int) (h : r.ok c) : (valR old r).length = r.len.toNat := by
  have := cellsR_len h
  unfold valR
  rw [List.length_map]
  omega
structure Fits (old new : List Int) (i : Nat) (r : Row) : Prop where
  ok : r.ok old.length
  le : i + r.len.toNat ≤ new.length
  is : valR old r = (new.drop i).take r.len.toNat
theorem Fits.pos {old new : List Int} {i : Nat} {r : Row} (h : Fits old new i r) : 1 ≤ r.len.toNat := by
  have := Row.len_pos h.ok
  omega
theorem fits_cons {old new : List Int} {i : Nat} {r : Row} {rows : List Row} (hi : i ≤ new.length) (hok : r.ok old.length) (e : doneOf (r :: rows) old = new.drop i) :
    Fits old new i r ∧ doneOf rows old = new.drop (i + r.len.toNat) ∧ i < new.length := by
  rw [done_cons] at e
  have hl := valR_len old hok
  have hp := Row.len_pos hok
  have e2 := congrArg List.length e
  rw [List.length_append, List.length_drop, hl] at e2
  refine ⟨⟨hok, by omega, ?_⟩, ?_, by omega⟩
  · rw [← e, ← hl, List.take_left]
  · rw [← List.drop_drop, ← e, ← hl, List.drop_left]
def cost (rows : List Row) : Int := (rows.map rowSize).sum
/-- what follows place i costs S i; the piece there is F i, the first of the least -/
def PLess (old new : List Int) (S : Nat → Int) (F : Nat → Row) (i : Nat) : Prop :=
  Fits old new i (F i) ∧ S i = rowSize (F i) + S (i + (F i).len.toNat) ∧ ∀ r, Fits old new i r → ¬ ((rowSize r + S (i + r.len.toNat)) :: r.key) < (S i :: (F i).key)
inductive Chain (F : Nat → Row) (n : Nat) : Nat → List Row → Prop
  | nil : Chain F n n []
  | cons {i : Nat} {rows : List Row} : i < n → Chain F n (i + (F i).len.toNat) rows → Chain F n i (F i :: rows)
section
variable {old new : List Int} {S : Nat → Int} {F : Nat → Row}
theorem done_nil_at {i : Nat} (hi : i ≤ new.length) (e : doneOf [] old = new.drop i) : i = new.length := by
  have e2 := congrArg List.length e
  rw [List.length_drop] at e2
  have : (doneOf [] old).length = 0 := rfl
  omega
theorem least_sum (hS : S new.length = 0) (hb : ∀ i, i < new.length → PLess old new S F i) : ∀ (rows : List Row) (i : Nat), i ≤ new.length → (∀ r ∈ rows, r.ok old.length) → doneOf rows old = new.drop i → S i ≤ cost rows
  | [], i, hi, _, e => by
    rw [done_nil_at hi e, hS]
    exact Int.le_refl _
  | r :: rows, i, hi, hok, e => by
    obtain ⟨f, e2, lt⟩ := fits_cons hi (hok r List.mem_cons_self) e
    have ih := least_sum hS hb rows _ f.le (fun x hx => hok x (List.mem_cons_of_mem _ hx)) e2
    have z := (hb i lt).2.2 r f
    rw [List.cons_lt_cons_iff] at z
    show S i ≤ ((r :: rows).map rowSize).sum
    rw [List.map_cons, List.sum_cons]
    have ih : S (i + r.len.toNat) ≤ (rows.map rowSize).sum := ih
    omega
theorem least_lex (hS : S new.length = 0) (hb : ∀ i, i < new.length → PLess old new S F i) : ∀ (rows rs : List Row) (i : Nat), i ≤ new.length → (∀ r ∈ rows, r.ok old.length) → doneOf rows old = new.drop i → Chain F new.length i rs →
    S i < cost rows ∨ (S i = cost rows ∧ ¬ rows.map Row.key < rs.map Row.key)
  | [], rs, i, hi, _, e, c => by
    have ei := done_nil_at hi e
    subst ei
    refine .inr ⟨hS, ?_⟩
    cases c with
    | nil => exact List.lt_irrefl _
    | cons lt _ => omega
  | r :: rows, rs, i, hi, hok, e, c => by
    obtain ⟨f, e2, lt⟩ := fits_cons hi (hok r List.mem_cons_self) e
    have sm := least_sum hS hb rows _ f.le (fun x hx => hok x (List.mem_cons_of_mem _ hx)) e2
    have z := (hb i lt).2.2 r f
    rw [List.cons_lt_cons_iff] at z
    have ec : cost (r :: rows) = rowSize r + cost rows := by unfold cost; rw [List.map_cons, List.sum_cons]
    cases c with
    | nil => omega
    | @cons _ rs' _ c =>
      by_cases h : S i < cost (r :: rows)
      · exact .inl h
      · have h1 : rowSize r + S (i + r.len.toNat) = S i := by omega
        have h2 : S (i + r.len.toNat) = cost rows := by omega
        have z2 : ¬ r.key < (F i).key := fun q => z (.inr ⟨h1, q⟩)
        refine .inr ⟨by omega, fun q => ?_⟩
        rw [List.map_cons, List.map_cons, List.cons_lt_cons_iff] at q
        rcases q with q | ⟨q1, q2⟩
        · exact z2 q
        · have er := Row.key_inj q1
          rw [← er] at c
          rcases least_lex hS hb rows rs' _ f.le (fun x hx => hok x (List.mem_cons_of_mem _ hx)) e2 c with q3 | ⟨_, q3⟩
          · omega
          · exact q3 q2
theorem chain_is (hb : ∀ i, i < new.length → PLess old new S F i) {i : Nat} {rs : List Row} (c : Chain F new.length i rs) : (∀ r ∈ rs, r.ok old.length) ∧ doneOf rs old = new.drop i ∧ (S new.length = 0 → cost rs = S i) := by
  induction c with
  | nil => exact ⟨fun r hr => (List.not_mem_nil hr).elim, by rw [List.drop_length]; rfl, fun h => by rw [h]; rfl⟩
  | @cons i rows lt _ ih =>
    obtain ⟨f, e, _⟩ := hb i lt
    refine ⟨fun r hr => ?_, ?_, fun h => ?_⟩
    · rcases List.mem_cons.mp hr with rfl | hr
      · exact f.ok
      · exact ih.1 r hr
    · rw [done_cons, f.is, ih.2.1, ← List.drop_drop, List.take_append_drop]
    · have : cost (F i :: rows) = rowSize (F i) + cost rows := by unfold cost; rw [List.map_cons, List.sum_cons]
      rw [this, ih.2.2 h, e]
end
/-- the patch with the shortest code, of several the first -/
structure IsLeast (old new : List Int) (rs : List Row) : Prop where
  ok : ∀ r ∈ rs, r.ok old.length
  is : doneOf rs old = new
  lex : ∀ rows : List Row, (∀ r ∈ rows, r.ok old.length) → doneOf rows old = new → cost rs < cost rows ∨ (cost rs = cost rows ∧ ¬ rows.map Row.key < rs.map Row.key)
theorem isLeast_of {old new : List Int} {S : Nat → Int} {F : Nat → Row} {rs : List Row} (hS : S new.length = 0) (hb : ∀ i, i < new.length → PLess old new S F i) (c : Chain F new.length 0 rs) : IsLeast old new rs := by
  obtain ⟨h1, h2, h3⟩ := chain_is hb c
  refine ⟨h1, h2, fun rows hok e => ?_⟩
  rw [h3 hS]
  exact least_lex hS hb rows rs 0 (Nat.zero_le _) hok e c
theorem IsLeast.one {old new : List Int} {a b : List Row} (h : IsLeast old new a) (k : IsLeast old new b) : a = b := by
  refine keys_inj ?_
  rcases h.lex b k.ok k.is with h1 | ⟨h1, h2⟩
  · rcases k.lex a h.ok h.is with h3 | ⟨h3, _⟩ <;> omega
  · rcases k.lex a h.ok h.is with h3 | ⟨_, h3⟩
    · omega
    · exact List.le_antisymm (List.not_lt.mp h2) (List.not_lt.mp h3)
theorem IsLeast.total {old new : List Int} {a : List Row} (h : IsLeast old new a) : total a = new.length := by rw [← h.is, done_len old h.ok]
theorem IsLeast.good {old new : List Int} {a : List Row} (h : IsLeast old new a) (h1 : old.length ≤ 200) (h2 : new.length ≤ 200) : Good a := ⟨fun r hr => Row.ok_mono (by omega) (h.ok r hr), by rw [h.total]; omega⟩
/-! ### the pieces that are looked at -/
def bringsOf (tl : List Int) : List Row := (List.range tl.length).map fun k => Row.bring (tl.take (k + 1))
def foundIn (old tl : List Int) (k : Nat) : Option Nat := PySem.W.KBf.first? old (tl.take (k + 1))
def copyAt (old tl : List Int) (k : Nat) : Row := .copy (PySem.W.KBf.told (foundIn old tl k)) ((k + 1 : Nat) : Int)
def runAt (tl : List Int) (k : Nat) : Row := .run (tl.getD 0 0) ((k + 1 : Nat) : Int)
structure Copies (old tl : List Int) (m : Nat) : Prop where
  le : m ≤ tl.length
  yes : ∀ k, k < m → (foundIn old tl k).isSome = true
  no : m < tl.length → foundIn old tl m = none
structure Runs (tl : List Int) (m : Nat) : Prop where
  le : m ≤ tl.length
  yes : ∀ k, k < m → tl.getD k 0 = tl.getD 0 0
  no : m < tl.length → tl.getD m 0 ≠ tl.getD 0 0
def candsOf (old tl : List Int) (mc mr : Nat) : List Row := bringsOf tl ++ (List.range mc).map (copyAt old tl) ++ (List.range mr).map (runAt tl)
theorem valR_copy {old : List Int} {b n : Int} (h : (Row.copy b n).ok old.length) : valR old (.copy b n) = (old.drop b.toNat).take n.toNat := by
  have h1 := h.1
  have h2 := h.2.1
  have h3 := h.2.2
  show ((List.range n.toNat).map fun i => Cell.old (b + (i : Nat))).map (valOf old) = _
  rw [List.map_map]
  apply List.ext_getElem?
  intro j
  by_cases hj : j < n.toNat
  · rw [List.getElem?_map, List.getElem?_range hj, List.getElem?_take_of_lt hj, List.getElem?_drop]
    show some (old.getD (b + (j : Nat)).toNat 0) = _
    have e : (b + (j : Nat)).toNat = b.toNat + j := by omega
    have hl : b.toNat + j < old.length := by omega
    rw [e, List.getD_eq_getElem?_getD, List.getElem?_eq_getElem hl]
    rfl
  · rw [List.getElem?_eq_none (by rw [List.length_map, List.length_range]; omega), List.getElem?_eq_none (by rw [List.length_take]; omega)]
theorem valR_run {old : List Int} {b n : Int} : valR old (.run b n) = List.replicate n.toNat b := by
  show (List.replicate n.toNat (Cell.new b)).map (valOf old) = _
  rw [List.map_replicate]
  rfl
theorem valR_bring {old bs : List Int} : valR old (.bring bs) = bs := by
  show (bs.map Cell.new).map (valOf old) = bs
  rw [List.map_map]
  exact List.map_id _
section
variable {old new : List Int} {i : Nat}
theorem first_le {a tl : List Int} {j : Nat} (hj : j + tl.length ≤ a.length) (h : (a.drop j).take tl.length = tl) : ∃ i, PySem.W.KBf.first? a tl = some i ∧ i ≤ j := by
  have hr : j < a.length + 1 - tl.length := by omega
  cases e : PySem.W.KBf.first? a tl with
  | none =>
    have z := List.find?_eq_none.mp e j (List.mem_range.mpr hr)
    exact absurd (show PySem.W.KBf.at? a tl j = true from beq_iff_eq.mpr h) z
  | some i =>
    refine ⟨i, rfl, ?_⟩
    by_cases lt : i ≤ j
    · exact lt
    · obtain ⟨_, l1, l2, el, nb⟩ := List.find?_eq_some_iff_append.mp e
      have hi : i = l1.length := by
        have e3 := congrArg (fun l => l[l1.length]?) el
        simp only [List.getElem?_append_right (Nat.le_refl _), Nat.sub_self, List.getElem?_cons_zero] at e3
        unfold PySem.W.KBf.places at e3
        obtain ⟨_, h2⟩ := List.getElem?_eq_some_iff.mp e3
        rw [List.getElem_range] at h2
        exact h2.symm
      have hj1 : j < l1.length := by omega
      have e4 := congrArg (fun l => l[j]?) el
      simp only [List.getElem?_append_left hj1] at e4
      have e5 : l1[j]? = some j := by
        rw [← e4]
        unfold PySem.W.KBf.places
        exact List.getElem?_range hr
      have z := nb j (List.mem_of_getElem? e5)
      rw [show PySem.W.KBf.at? a tl j = true from beq_iff_eq.mpr h] at z
      cases z
theorem told_some (j : Nat) : PySem.W.KBf.told (some j) = (j : Int) := rfl
theorem take_len {tl : List Int} {k : Nat} (h : k < tl.length) : (tl.take (k + 1)).length = k + 1 := by rw [List.length_take]; omega
theorem cands_fit (hi : i < new.length) (hb : B8 new) {mc mr : Nat} (hc : Copies old (new.drop i) mc) (hr : Runs (new.drop i) mr) : ∀ r ∈ candsOf old (new.drop i) mc mr, Fits old new i r := by
  intro r hm
  have hl : (new.drop i).length = new.length - i := List.length_drop
  have hbt : B8 (new.drop i) := fun x hx => hb x (List.mem_of_mem_drop hx)
  have cl := hc.le
  have rl := hr.le
  unfold candsOf at hm
  rcases List.mem_append.mp hm with hm | hm
  · rcases List.mem_append.mp hm with hm | hm
    · obtain ⟨k, hk, rfl⟩ := List.mem_map.mp hm
      have hk := List.mem_range.mp hk
      have tk := take_len hk
      have e : (Row.len (.bring ((new.drop i).take (k + 1)))).toNat = k + 1 := by show (((new.drop i).take (k + 1)).length : Int).toNat = k + 1; omega
      refine ⟨⟨by omega, fun x hx => hbt x (List.mem_of_mem_take hx)⟩, by rw [e]; omega, by rw [e, valR_bring]⟩
    · obtain ⟨k, hk, rfl⟩ := List.mem_map.mp hm
      have hk := List.mem_range.mp hk
      have yes := hc.yes k hk
      unfold copyAt
      obtain ⟨j, ej⟩ := Option.isSome_iff_exists.mp yes
      have h1 := PySem.W.KBf.first_lt ej
      have h2 := PySem.W.KBf.first_at ej
      have tk := take_len (show k < (new.drop i).length by omega)
      rw [tk] at h1 h2
      rw [ej, told_some]
      have ok : (Row.copy (j : Int) ((k + 1 : Nat) : Int)).ok old.length := ⟨by omega, by omega, by omega⟩
      have e : (Row.len (.copy (j : Int) ((k + 1 : Nat) : Int))).toNat = k + 1 := by show ((k + 1 : Nat) : Int).toNat = k + 1; omega
      exact ⟨ok, by rw [e]; omega, by rw [e, valR_copy ok, Int.toNat_natCast, Int.toNat_natCast, h2]⟩
  · obtain ⟨k, hk, rfl⟩ := List.mem_map.mp hm
    have hk := List.mem_range.mp hk
    have h0 : 0 < (new.drop i).length := by omega
    have e0 : (new.drop i).getD 0 0 = (new.drop i)[0] := by rw [List.getD_eq_getElem?_getD, List.getElem?_eq_getElem h0]; rfl
    have hb0 := hbt _ (List.getElem_mem h0)
    unfold runAt
    have e : (Row.len (.run ((new.drop i).getD 0 0) ((k + 1 : Nat) : Int))).toNat = k + 1 := by show ((k + 1 : Nat) : Int).toNat = k + 1; omega
    refine ⟨⟨by rw [e0]; exact hb0.1, by rw [e0]; exact hb0.2, by omega⟩, by rw [e]; omega, ?_⟩
    rw [e, valR_run, Int.toNat_natCast]
    apply List.ext_getElem
    · rw [List.length_replicate, take_len (by omega)]
    · intro j hj1 hj2
      rw [List.length_replicate] at hj1
      rw [List.getElem_replicate, List.getElem_take]
      have z := hr.yes j (by omega)
      rw [List.getD_eq_getElem?_getD, List.getElem?_eq_getElem (by omega)] at z
      exact z.symm
theorem numSize_mono {a b : Int} (h : a ≤ b) : numSize a ≤ numSize b := by
  unfold numSize
  split <;> split <;> omega
theorem rowSize_copy (b n : Int) : rowSize (.copy b n) = numSize (n * 4 + 0) + numSize b := by
  unfold rowSize rowCode
  rw [List.length_append]
  have a := numCode_len (firstNum (.copy b n))
  have c := numCode_len b
  show (((numCode (firstNum (.copy b n))).length + (numCode b).length : Nat) : Int) = _
  have e : firstNum (.copy b n) = n * 4 + 0 := rfl
  rw [e] at a ⊢
  omega
theorem cands_all (hi : i < new.length) {mc mr : Nat} (hc : Copies old (new.drop i) mc) (hr : Runs (new.drop i) mr) : ∀ r, Fits old new i r → ∃ c ∈ candsOf old (new.drop i) mc mr, c.len = r.len ∧ ¬ (rowSize r :: r.key) < (rowSize c :: c.key) := by
  intro r f
  have hl : (new.drop i).length = new.length - i := List.length_drop
  have hp := Row.len_pos f.ok
  have fle := f.le
  have fis := f.is
  cases r with
  | bring bs =>
    rw [valR_bring] at fis
    have e : (Row.len (.bring bs)).toNat = bs.length := Int.toNat_natCast _
    have hp : 1 ≤ (bs.length : Int) := hp
    rw [e] at fis fle
    refine ⟨.bring bs, ?_, rfl, List.lt_irrefl _⟩
    refine List.mem_append.mpr (.inl (List.mem_append.mpr (.inl (List.mem_map.mpr ⟨bs.length - 1, List.mem_range.mpr (by omega), ?_⟩))))
    rw [show bs.length - 1 + 1 = bs.length by omega, ← fis]
  | copy b n =>
    rw [valR_copy f.ok] at fis
    have e : (Row.len (.copy b n)).toNat = n.toNat := rfl
    have h1 := f.ok.1
    have h2 := f.ok.2.1
    have h3 := f.ok.2.2
    rw [e] at fis fle
    -- each shorter stretch is found, too
    have found : ∀ k, k < n.toNat → ∃ j, foundIn old (new.drop i) k = some j ∧ j ≤ b.toNat := by
      intro k hk
      have tk := take_len (show k < (new.drop i).length by omega)
      refine first_le (by rw [tk]; omega) ?_
      rw [tk]
      have z := congrArg (List.take (k + 1)) fis
      rw [List.take_take, List.take_take, Nat.min_eq_left (by omega)] at z
      exact z
    have lt : n.toNat - 1 < mc := by
      rcases Nat.lt_or_ge (n.toNat - 1) mc with q | q
      · exact q
      · obtain ⟨j, ej, _⟩ := found mc (by omega)
        rw [hc.no (by omega)] at ej
        cases ej
    obtain ⟨j, ej, lj⟩ := found (n.toNat - 1) (by omega)
    have en : ((n.toNat - 1 + 1 : Nat) : Int) = n := by omega
    refine ⟨copyAt old (new.drop i) (n.toNat - 1), List.mem_append.mpr (.inl (List.mem_append.mpr (.inr (List.mem_map.mpr ⟨_, List.mem_range.mpr lt, rfl⟩)))), ?_, ?_⟩
    · exact en
    · unfold copyAt
      rw [ej, told_some, en, rowSize_copy, rowSize_copy]
      have m := numSize_mono (show (j : Int) ≤ b by omega)
      simp only [Row.key, List.cons_lt_cons_iff]
      intro q
      rcases q with q | ⟨_, q⟩
      · omega
      · rcases q with q | ⟨_, q⟩
        · omega
        · rcases q with q | ⟨_, q⟩
          · omega
          · rcases q with q | ⟨_, q⟩
            · omega
            · exact List.lt_irrefl _ q
  | run b n =>
    rw [valR_run] at fis
    have e : (Row.len (.run b n)).toNat = n.toNat := rfl
    have h3 := f.ok.2.2
    rw [e] at fis fle
    have val : ∀ k, k < n.toNat → (new.drop i).getD k 0 = b := by
      intro k hk
      have z := congrArg (fun l : List Int => l[k]?) fis
      simp only [List.getElem?_take_of_lt hk] at z
      rw [List.getElem?_replicate, if_pos hk] at z
      rw [List.getD_eq_getElem?_getD, ← z]
      rfl
    have lt : n.toNat - 1 < mr := by
      rcases Nat.lt_or_ge (n.toNat - 1) mr with q | q
      · exact q
      · exact absurd ((val mr (by omega)).trans (val 0 (by omega)).symm) (hr.no (by omega))
    refine ⟨.run b n, List.mem_append.mpr (.inr (List.mem_map.mpr ⟨n.toNat - 1, List.mem_range.mpr lt, ?_⟩)), rfl, List.lt_irrefl _⟩
    unfold runAt
    rw [val 0 (by omega), show ((n.toNat - 1 + 1 : Nat) : Int) = n by omega]
theorem pless_of (hi : i < new.length) (hb : B8 new) {mc mr : Nat} (hc : Copies old (new.drop i) mc) (hr : Runs (new.drop i) mr) {S : Nat → Int} {F : Nat → Row} (hm : F i ∈ candsOf old (new.drop i) mc mr) (hS : S i = rowSize (F i) + S (i + (F i).len.toNat))
    (hmin : ∀ r ∈ candsOf old (new.drop i) mc mr, ¬ ((rowSize r + S (i + r.len.toNat)) :: r.key) < ((rowSize (F i) + S (i + (F i).len.toNat)) :: (F i).key)) : PLess old new S F i := by
  refine ⟨cands_fit hi hb hc hr _ hm, hS, fun r f => ?_⟩
  obtain ⟨c, hcm, el, nl⟩ := cands_all hi hc hr r f
  have z := hmin c hcm
  rw [el, ← hS] at z
  rw [List.cons_lt_cons_iff] at z nl ⊢
  intro q
  have q1 : rowSize c ≤ rowSize r := by omega
  rcases q with q | ⟨q2, q3⟩
  · exact z (.inl (by omega))
  · by_cases h : rowSize c = rowSize r
    · refine z (.inr ⟨by omega, ?_⟩)
      exact List.lt_of_le_of_lt (List.not_lt.mp fun y => nl (.inr ⟨h.symm, y⟩)) q3
    · exact z (.inl (by omega))
end
/-! ### next_copies, next_runs, next_pieces, one_behind_the_other, least -/
theorem byteMid {ns : List Int} {i j : Int} (h0 : 0 ≤ i) (h1 : i ≤ j) (hj : j ≤ ns.length) : PySem.W.KBy.picked (byteArr ns) (some i) (some j) = byteArr ((ns.drop i.toNat).take (j.toNat - i.toNat)) := by
  obtain ⟨a, rfl⟩ : ∃ a : Nat, i = (a : Int) := ⟨i.toNat, by omega⟩
  obtain ⟨b, rfl⟩ : ∃ b : Nat, j = (b : Int) := ⟨j.toNat, by omega⟩
  rw [PySem.W.KBc.picked_eq]
  show (((byteArr ns).toList.drop (clipAt (byteArr ns).size (a : Int))).take (clipAt (byteArr ns).size (b : Int) - clipAt (byteArr ns).size (a : Int))).toArray = _
  rw [clipAt_nat, clipAt_nat, byteArr_size, Nat.min_eq_left (by omega), Nat.min_eq_left (by omega), Int.toNat_natCast, Int.toNat_natCast]
  unfold byteArr
  show (((ns.map _).drop a).take (b - a)).toArray = (((ns.drop a).take (b - a)).map _).toArray
  rw [List.map_take, List.map_drop]
theorem byteOne {bs : List Int} {j : Nat} (hb : B8 bs) (hj : j < bs.length) : ((((bs.map fun n : Int => n.toNat.toUInt8).getD ((j : Int)).toNat 0).toNat : Nat) : Int) = bs.getD j 0 := by
  have e := byte_at (j := j) hb (List.getElem?_eq_getElem hj)
  rw [Int.toNat_natCast, e, List.getD_eq_getElem?_getD, List.getElem?_eq_getElem hj]
  rfl
theorem lenBy {bs : List Int} {K : PySem.W.Frag} {H : Hp} (h : bs.length ≤ 100000) : LenV K (.byt (byteArr bs)) H bs.length := ⟨by rw [byteArr_size]; exact sizeS h, (byteArr_size bs).symm⟩
def PiecesAt (H : Hp) (p : Addr) (rows : List Row) : Prop := ∃ vs, H p = some (.lst vs) ∧ Paired (PieceV H) vs rows
theorem PiecesAt.same {H H' : Hp} {p : Addr} {rows : List Row} (s : Same H H') (h : PiecesAt H p rows) : PiecesAt H' p rows := let ⟨vs, e, r⟩ := h; ⟨vs, s _ _ e, pairedMap r fun _ _ x => x.tups (Same.tups s)⟩
/-- one piece more -/
theorem piece_more {H H2 : Hp} {D : Addr} {ws : List V} {rs : List Row} {r : Row} {t : Addr} (hD : H D = none) (s2 : Same H H2) (hw : H2 D = some (.lst ws)) (pw : Paired (PieceV H2) ws rs) (ht : H2 t = none) :
    (upd H2 t (.tup r.tup)) D = some (.lst ws) ∧ Same H (upd (upd H2 t (.tup r.tup)) D (.lst (ws ++ [.ref t]))) ∧ Paired (PieceV (upd (upd H2 t (.tup r.tup)) D (.lst (ws ++ [.ref t])))) (ws ++ [.ref t]) (rs ++ [r]) := by
  have hw' : (upd H2 t (.tup r.tup)) D = some (.lst ws) := Same.new ht _ _ hw
  refine ⟨hw', fun b o e => ?_, pairedApp (pairedMap pw fun _ _ x => (x.tups (Same.tups (Same.new ht))).tups (Tups.lst hw')) (.cons ⟨t, rfl, Tups.lst hw' _ _ upd_same⟩ .nil)⟩
  rw [upd_ne (ne_of_none e hD)]
  exact Same.new ht _ _ (s2 _ _ e)
/-! ### how pieces compare -/
def RowB : Row → Prop
  | .bring bs => B8 bs
  | _ => True
theorem RowB.of {c : Int} : ∀ {r : Row}, r.ok c → RowB r
  | .bring _, h => h.2
  | .copy _ _, _ => trivial
  | .run _ _, _ => trivial
theorem tup_key : ∀ {r r' : Row}, RowB r → RowB r' → r.tup = r'.tup → r.key = r'.key
  | .bring bs, .bring cs, hb, hc, e => by
    have e : byteArr bs = byteArr cs := by
      have e : [V.str "bring", V.byt (byteArr bs)] = [V.str "bring", V.byt (byteArr cs)] := e
      injection e with _ e
      injection e with e _
      injection e
    show 0 :: bs = 0 :: cs
    rw [← bInts_of hb, e, bInts_of hc]
  | .copy b n, .copy b' n', _, _, e => by
    have e : [V.str "copy", V.int b, V.int n] = [V.str "copy", V.int b', V.int n'] := e
    injection e with _ e
    injection e with e1 e
    injection e with e2 _
    injection e1 with e1
    injection e2 with e2
    rw [e1, e2]
  | .run b n, .run b' n', _, _, e => by
    have e : [V.str "run", V.int b, V.int n] = [V.str "run", V.int b', V.int n'] := e
    injection e with _ e
    injection e with e1 e
    injection e with e2 _
    injection e1 with e1
    injection e2 with e2
    rw [e1, e2]
  | .bring _, .copy _ _, _, _, e => by cases e
  | .bring _, .run _ _, _, _, e => by cases e
  | .copy _ _, .bring _, _, _, e => by cases e
  | .copy _ _, .run _ _, _, _, e => by
    have e : [V.str "copy", V.int _, V.int _] = [V.str "run", V.int _, V.int _] := e
    injection e with e _
    injection e with e
    exact absurd e (by decide)
  | .run _ _, .bring _, _, _, e => by cases e
  | .run _ _, .copy _ _, _, _, e => by
    have e : [V.str "run", V.int _, V.int _] = [V.str "copy", V.int _, V.int _] := e
    injection e with e _
    injection e with e
    exact absurd e (by decide)
theorem then_eq (o : Ordering) : o.then .eq = o := by cases o <;> rfl
theorem ov_int {H : Hp} {n : Nat} (a b : Int) : Ov H (n + 1) (.int a) (.int b) (compare a b) := .inl ⟨a, b, rfl, rfl, rfl⟩
theorem ov_str {H : Hp} {n : Nat} {a b : Str} {o : Ordering} (h : (a == b) = decide (o = .eq)) (h2 : decide (a.cps.toList < b.cps.toList) = decide (o = .lt)) : Ov H (n + 1) (.str a) (.str b) o := .inr (.inl ⟨a, b, rfl, rfl, h, h2⟩)
theorem ov_byt {H : Hp} {n : Nat} {a b : List Int} (ha : B8 a) (hb : B8 b) : Ov H (n + 1) (.byt (byteArr a)) (.byt (byteArr b)) (PySem.W.KBq.ord a b) := .inr (.inr (.inl ⟨a, b, rfl, rfl, ha, hb, rfl⟩))
theorem ov_tup {H : Hp} {n : Nat} {a b : Addr} {xs ys : List V} {o : Ordering} (ha : H a = some (.tup xs)) (hb : H b = some (.tup ys)) (h : LexV (Ov H n) xs ys o) (e : a = b → o = .eq) : Ov H (n + 1) (.ref a) (.ref b) o := .inr (.inr (.inr ⟨a, b, xs, ys, rfl, rfl, ha, hb, h, e⟩))
theorem ord_pair (a b a' b' : Int) (x : Int) : PySem.W.KBq.ord [x, a, b] [x, a', b'] = (compare a a').then ((compare b b').then .eq) := by
  rw [ord_cons, ord_cons, ord_cons, Int.compare_eq_eq.mpr rfl]
  rfl
theorem ov_row {H : Hp} {q q' : Addr} {n : Nat} : ∀ {r r' : Row}, RowB r → RowB r' → H q = some (.tup r.tup) → H q' = some (.tup r'.tup) → Ov H (n + 2) (.ref q) (.ref q') (PySem.W.KBq.ord r.key r'.key) := by
  intro r r' hb hb' hq hq'
  refine ov_tup hq hq' ?_ (fun e => ?_)
  · cases r with
    | bring bs =>
      cases r' with
      | bring cs =>
        show LexV _ _ _ (PySem.W.KBq.ord (0 :: bs) (0 :: cs))
        rw [ord_cons, Int.compare_eq_eq.mpr rfl, ← then_eq (PySem.W.KBq.ord bs cs)]
        exact .cons (ov_str (by decide +kernel) (by decide +kernel)) fun _ => .cons (ov_byt hb hb') fun _ => .nil
      | copy b' n' => exact LexV.cons (o1 := .lt) (o2 := .lt) (ov_str (by decide +kernel) (by decide +kernel)) fun z => by cases z
      | run b' n' => exact LexV.cons (o1 := .lt) (o2 := .lt) (ov_str (by decide +kernel) (by decide +kernel)) fun z => by cases z
    | copy b n =>
      cases r' with
      | bring cs => exact LexV.cons (o1 := .gt) (o2 := .lt) (ov_str (by decide +kernel) (by decide +kernel)) fun z => by cases z
      | copy b' n' =>
        show LexV _ _ _ (PySem.W.KBq.ord [1, b, n] [1, b', n'])
        rw [ord_pair]
        exact LexV.cons (o1 := .eq) (ov_str (by decide +kernel) (by decide +kernel)) fun _ => .cons (ov_int _ _) fun _ => .cons (ov_int _ _) fun _ => .nil
      | run b' n' => exact LexV.cons (o1 := .lt) (o2 := .lt) (ov_str (by decide +kernel) (by decide +kernel)) fun z => by cases z
    | run b n =>
      cases r' with
      | bring cs => exact LexV.cons (o1 := .gt) (o2 := .lt) (ov_str (by decide +kernel) (by decide +kernel)) fun z => by cases z
      | copy b' n' => exact LexV.cons (o1 := .gt) (o2 := .lt) (ov_str (by decide +kernel) (by decide +kernel)) fun z => by cases z
      | run b' n' =>
        show LexV _ _ _ (PySem.W.KBq.ord [2, b, n] [2, b', n'])
        rw [ord_pair]
        exact LexV.cons (o1 := .eq) (ov_str (by decide +kernel) (by decide +kernel)) fun _ => .cons (ov_int _ _) fun _ => .cons (ov_int _ _) fun _ => .nil
  · subst e
    rw [hq] at hq'
    injection hq' with hq'
    injection hq' with hq'
    exact (ord_eq _ _).mpr (tup_key hb hb' hq')
def spNextCopies : Sp := fun vs H Q _ => ∃ (old new : List Int) (i : Nat), vs = [.byt (byteArr old), .byt (byteArr new), .int (i : Int)] ∧ B8 old ∧ B8 new ∧ old.length ≤ 200 ∧ new.length ≤ 200 ∧ i < new.length ∧
  ∀ H' p m, Same H H' → H p = none → Copies old (new.drop i) m → PiecesAt H' p ((List.range m).map (copyAt old (new.drop i))) → Q (.ref p) H'
def spNextRuns : Sp := fun vs H Q _ => ∃ (new : List Int) (i : Nat), vs = [.byt (byteArr new), .int (i : Int)] ∧ B8 new ∧ new.length ≤ 200 ∧ i < new.length ∧
  ∀ H' p m, Same H H' → H p = none → Runs (new.drop i) m → PiecesAt H' p ((List.range m).map (runAt (new.drop i))) → Q (.ref p) H'
def spNextPieces : Sp := fun vs H Q _ => ∃ (old new : List Int) (i : Nat), vs = [.byt (byteArr old), .byt (byteArr new), .int (i : Int)] ∧ B8 old ∧ B8 new ∧ old.length ≤ 200 ∧ new.length ≤ 200 ∧ i < new.length ∧
  ∀ H' p mc mr, Same H H' → H p = none → Copies old (new.drop i) mc → Runs (new.drop i) mr → PiecesAt H' p (candsOf old (new.drop i) mc mr) → Q (.ref p) H'
def spLeast : Sp := fun vs H Q _ => ∃ old new : List Int, vs = [.byt (byteArr old), .byt (byteArr new)] ∧ B8 old ∧ B8 new ∧ old.length ≤ 200 ∧ new.length ≤ 200 ∧ ∀ H' v rs, Same H H' → IsLeast old new rs → PatchAt H' v rs → Q v H'
theorem PLess.congr {old new : List Int} {S S' : Nat → Int} {F F' : Nat → Row} {i : Nat} (h : PLess old new S F i) (hS : ∀ y, i ≤ y → S y = S' y) (hF : F i = F' i) : PLess old new S' F' i := by
  unfold PLess at h ⊢
  rw [← hF, ← hS i (Nat.le_refl _), ← hS _ (Nat.le_add_right _ _)]
  refine ⟨h.1, h.2.1, fun r f => ?_⟩
  rw [← hS _ (Nat.le_add_right _ _)]
  exact h.2.2 r f
theorem ixN_natL {n j : Nat} (h : j < n) : ixN n (j : Int) = some j := by
  unfold ixN
  rw [if_pos (by omega), if_pos (by omega)]
  simp
theorem snoc_range {α : Type} (f : Nat → α) (k : Nat) : (List.range (k + 1)).map f = (List.range k).map f ++ [f k] := by rw [List.range_succ, List.map_append]; rfl
section
variable {P : Program} {w : World} {K : PySem.W.Frag} {mg : Str → Option Value} {base : Heap}
theorem ok_next_copies (T : All K mg) : FnOk P w K mg base CX0 1 T.d_next_copies.f T.d_next_copies.fd ["old", "new", "at"] spNextCopies := by
  refine T.d_next_copies.F.ok sc_next_copies (fun vs H Q E h => ?_) (fun cdv A outer s H vs Q E hr h => ?_)
  · obtain ⟨_, _, _, rfl, _⟩ := h
    rfl
  · obtain ⟨old, new, i, rfl, ho, hn, lo, ln, hi, k⟩ := h
    refine ⟨_, (pss_cons 
      (ps_set (i := 3) sc_next_copies.nd rfl (Or.inl rfl) (pe_lst pa_nil)) (pss_cons 
      (ps_for PassesOwn.never rfl (pi_range2 (by rfl) T.b_range (pa_cons (pe_op op_add (pv 2) pe_int) (pa_cons (pe_op op_add (pe_callB call_len (by rfl) T.b_len PySem.boot_len (pa_cons (pv 1) pa_nil)) pe_int) pa_nil))) (pg_name (i := 4) sc_next_copies.nd rfl (Or.inl rfl)) (pss_cons 
      (ps_set (i := 5) sc_next_copies.nd rfl (Or.inl rfl) (pe_bmB PySem.W.KBf.slot_find PySem.W.KBf.type_find mt_bfind (pv 0) (pa_cons (pe_slice sl_byt (pv 1) (po_some (pv 2)) (po_some (pv 4))) pa_nil))) (pss_cons 
      (ps_if (pt_cmpR op_lt (pv 5) pe_int (nomark _)) (pss_one ps_break) pss_nil) (pss_one 
      (ps_expr (pe_bm PySem.F.plainAttrs_list PySem.F.slot_list_append PySem.F.type_list_append mt_append (pv 3) (pa_cons (pe_tup (pa_cons pe_str (pa_cons (pv 5) (pa_cons (pe_op op_sub (pv 4) (pv 2)) pa_nil)))) pa_nil))))))) (pss_one 
      (ps_ret (pv 3))))), ?_⟩
    have hl : (new.drop i).length = new.length - i := List.length_drop
    refine ⟨sizeS (by show 0 ≤ 100000; decide), fun D hD => ?_⟩
    refine ⟨_, rfl, _, _, rfl, rfl, _, rfl, _, new.length, rfl, lenBy (by omega), _, _, rfl, rfl, _, _, rfl, ⟨by omega, by omega, by omega, by omega⟩, ?_⟩
    refine for_range (lo := (i : Int) + 1) (n := ((new.length : Int) + 1 - ((i : Int) + 1)).toNat) (fun j σ H2 => ∃ (ws : List V) (v4 v5 : Option V), σ = [some (.byt (byteArr old)), some (.byt (byteArr new)), some (.int (i : Int)), some (.ref D), v4, v5] ∧ Same H H2 ∧ H2 D = some (.lst ws) ∧ Paired (PieceV H2) ws ((List.range j).map (copyAt old (new.drop i))) ∧ ∀ x, x < j → (foundIn old (new.drop i) x).isSome = true)
      ⟨[], none, none, rfl, Same.new hD, upd_same, .nil, fun x hx => absurd hx (Nat.not_lt_zero x)⟩ ?_ ?_
    · rintro j σ H2 hj ⟨ws, v4, v5, rfl, s2, hw, pw, yes⟩
      have jl : j < (new.drop i).length := by omega
      have tk := take_len jl
      have e : PySem.W.KBy.picked (byteArr new) (some (i : Int)) (some ((i : Int) + 1 + (j : Int))) = byteArr ((new.drop i).take (j + 1)) := by
        rw [byteMid (by omega) (by omega) (by omega), Int.toNat_natCast, show ((i : Int) + 1 + (j : Int)).toNat - i = j + 1 by omega]
      have bt : B8 ((new.drop i).take (j + 1)) := fun x hx => hn x (List.mem_of_mem_drop (List.mem_of_mem_take hx))
      refine ⟨_, rfl, ⟨_, rfl⟩, _, rfl, _, rfl, _, rfl, _, rfl, _, rfl, _, rfl, by rw [byteArr_size]; omega, ?_⟩
      rw [e]
      refine ⟨old, _, rfl, rfl, ho, bt, ?_⟩
      cases ef : PySem.W.KBf.first? old ((new.drop i).take (j + 1)) with
      | none =>
        refine ⟨_, rfl, _, _, rfl, rfl, _, rfl, iteT ?_⟩
        exact ⟨_, rfl, k H2 D j s2 hD ⟨by omega, yes, fun _ => ef⟩ ⟨ws, hw, pw⟩⟩
      | some b =>
        have eb : PySem.W.KBf.told (some b) = (b : Int) := rfl
        rw [eb]
        refine ⟨_, rfl, _, _, rfl, rfl, _, rfl, ite2 (fun h => absurd (show (b : Int) < 0 from of_decide_eq_true h) (by omega)) fun _ => ?_⟩
        refine ⟨_, rfl, .inl ⟨rfl, _, SqL.of hw⟩, _, rfl, _, rfl, _, rfl, _, _, rfl, rfl, sizeS (by show 3 ≤ 100000; decide), fun t ht => ?_⟩
        have wl : ws.length = j := by rw [Paired.length pw, List.length_map, List.length_range]
        have er : copyAt old (new.drop i) j = .copy (b : Int) ((i : Int) + 1 + (j : Int) - (i : Int)) := by
          unfold copyAt foundIn
          rw [ef, eb, show ((j + 1 : Nat) : Int) = (i : Int) + 1 + (j : Int) - (i : Int) by omega]
        obtain ⟨q0, q1, q2⟩ := piece_more (r := .copy (b : Int) ((i : Int) + 1 + (j : Int) - (i : Int))) hD s2 hw pw ht
        refine ⟨D, ws, _, rfl, rfl, q0, sizeL (by omega), ?_⟩
        refine ⟨_, _, _, rfl, q1, upd_same, ?_, fun x hx => ?_⟩
        · rw [snoc_range, er]
          exact q2
        · by_cases ex : x = j
          · rw [ex]
            show (PySem.W.KBf.first? old ((new.drop i).take (j + 1))).isSome = true
            rw [ef]
            rfl
          · exact yes x (by omega)
    · rintro σ H2 ⟨ws, v4, v5, rfl, s2, hw, pw, yes⟩
      refine ⟨_, rfl, k H2 D _ s2 hD ⟨by omega, yes, fun h => by omega⟩ ⟨_, hw, pw⟩⟩

theorem ok_next_runs (T : All K mg) : FnOk P w K mg base CX0 1 T.d_next_runs.f T.d_next_runs.fd ["new", "at"] spNextRuns := by
  refine T.d_next_runs.F.ok sc_next_runs (fun vs H Q E h => ?_) (fun cdv A outer s H vs Q E hr h => ?_)
  · obtain ⟨_, _, rfl, _⟩ := h
    rfl
  · obtain ⟨new, i, rfl, hn, ln, hi, k⟩ := h
    refine ⟨_, (pss_cons 
      (ps_set (i := 2) sc_next_runs.nd rfl (Or.inl rfl) (pe_lst pa_nil)) (pss_cons 
      (ps_for PassesOwn.never rfl (pi_range2 (by rfl) T.b_range (pa_cons (pe_op op_add (pv 1) pe_int) (pa_cons (pe_op op_add (pe_callB call_len (by rfl) T.b_len PySem.boot_len (pa_cons (pv 0) pa_nil)) pe_int) pa_nil))) (pg_name (i := 3) sc_next_runs.nd rfl (Or.inl rfl)) (pss_cons 
      (ps_if (pt_cmpR op_ne (pe_item_byt (pv 0) (pe_op op_sub (pv 3) pe_int) (fun _ _ => rfl)) (pe_item_byt (pv 0) (pv 1) (fun _ _ => rfl)) (nomark _)) (pss_one ps_break) pss_nil) (pss_one 
      (ps_expr (pe_bm PySem.F.plainAttrs_list PySem.F.slot_list_append PySem.F.type_list_append mt_append (pv 2) (pa_cons (pe_tup (pa_cons pe_str (pa_cons (pe_item_byt (pv 0) (pv 1) (fun _ _ => rfl)) (pa_cons (pe_op op_sub (pv 3) (pv 1)) pa_nil)))) pa_nil)))))) (pss_one 
      (ps_ret (pv 2))))), ?_⟩
    have hl : (new.drop i).length = new.length - i := List.length_drop
    have dg : ∀ x, (new.drop i).getD x 0 = new.getD (i + x) 0 := fun x => by rw [List.getD_eq_getElem?_getD, List.getD_eq_getElem?_getD, List.getElem?_drop]
    refine ⟨sizeS (by show 0 ≤ 100000; decide), fun D hD => ?_⟩
    refine ⟨_, rfl, _, _, rfl, rfl, _, rfl, _, new.length, rfl, lenBy (by omega), _, _, rfl, rfl, _, _, rfl, ⟨by omega, by omega, by omega, by omega⟩, ?_⟩
    refine for_range (lo := (i : Int) + 1) (n := ((new.length : Int) + 1 - ((i : Int) + 1)).toNat) (fun j σ H2 => ∃ (ws : List V) (v3 : Option V), σ = [some (.byt (byteArr new)), some (.int (i : Int)), some (.ref D), v3] ∧ Same H H2 ∧ H2 D = some (.lst ws) ∧ Paired (PieceV H2) ws ((List.range j).map (runAt (new.drop i))) ∧ ∀ x, x < j → (new.drop i).getD x 0 = (new.drop i).getD 0 0)
      ⟨[], none, rfl, Same.new hD, upd_same, .nil, fun x hx => absurd hx (Nat.not_lt_zero x)⟩ ?_ ?_
    · rintro j σ H2 hj ⟨ws, v3, rfl, s2, hw, pw, yes⟩
      have jl : j < (new.drop i).length := by omega
      have e1 : ((((new.map fun n : Int => n.toNat.toUInt8).getD ((i : Int) + 1 + (j : Int) - 1).toNat 0).toNat : Nat) : Int) = (new.drop i).getD j 0 := by
        rw [show (i : Int) + 1 + (j : Int) - 1 = ((i + j : Nat) : Int) by omega, byteOne hn (by omega), dg]
      have e2 : ((((new.map fun n : Int => n.toNat.toUInt8).getD ((i : Int)).toNat 0).toNat : Nat) : Int) = (new.drop i).getD 0 0 := by
        rw [byteOne hn hi, dg, Nat.add_zero]
      have len8 : (new.map fun n : Int => n.toNat.toUInt8).length ≤ sizeLine := sizeS (by rw [List.length_map]; omega)
      refine ⟨_, rfl, _, rfl, _, _, rfl, rfl, new.map fun n : Int => n.toNat.toUInt8, _, rfl, rfl, len8, by omega, by rw [List.length_map]; omega, ?_⟩
      refine ⟨_, rfl, _, rfl, new.map fun n : Int => n.toNat.toUInt8, _, rfl, rfl, len8, by omega, by rw [List.length_map]; omega, ?_⟩
      rw [e1, e2]
      refine ⟨rfl, _, rfl, ?_⟩
      by_cases c : (new.drop i).getD j 0 = (new.drop i).getD 0 0
      · have ct : decide (V.int ((new.drop i).getD j 0) = V.int ((new.drop i).getD 0 0)) = true := decide_eq_true (by rw [c])
        rw [ct]
        refine iteF ?_
        have wl : ws.length = j := by rw [Paired.length pw, List.length_map, List.length_range]
        refine ⟨_, rfl, .inl ⟨rfl, _, SqL.of hw⟩, _, rfl, _, rfl, new.map fun n : Int => n.toNat.toUInt8, _, rfl, rfl, len8, by omega, by rw [List.length_map]; omega, ?_⟩
        rw [e2]
        refine ⟨_, rfl, _, rfl, _, _, rfl, rfl, sizeS (by show 3 ≤ 100000; decide), fun t ht => ?_⟩
        have er : runAt (new.drop i) j = .run ((new.drop i).getD 0 0) ((i : Int) + 1 + (j : Int) - (i : Int)) := by
          unfold runAt
          rw [show ((j + 1 : Nat) : Int) = (i : Int) + 1 + (j : Int) - (i : Int) by omega]
        obtain ⟨q0, q1, q2⟩ := piece_more (r := .run ((new.drop i).getD 0 0) ((i : Int) + 1 + (j : Int) - (i : Int))) hD s2 hw pw ht
        refine ⟨D, ws, _, rfl, rfl, q0, sizeL (by omega), ?_⟩
        refine ⟨_, _, rfl, q1, upd_same, ?_, fun x hx => ?_⟩
        · rw [snoc_range, er]
          exact q2
        · by_cases ex : x = j
          · rw [ex]; exact c
          · exact yes x (by omega)
      · have cf : decide (V.int ((new.drop i).getD j 0) = V.int ((new.drop i).getD 0 0)) = false := decide_eq_false fun z => c (by injection z)
        rw [cf]
        refine iteT ?_
        exact ⟨_, rfl, k H2 D j s2 hD ⟨by omega, yes, fun _ => c⟩ ⟨ws, hw, pw⟩⟩
    · rintro σ H2 ⟨ws, v3, rfl, s2, hw, pw, yes⟩
      refine ⟨_, rfl, k H2 D _ s2 hD ⟨by omega, yes, fun h => by omega⟩ ⟨_, hw, pw⟩⟩

theorem ok_next_pieces (T : All K mg) : FnOk P w K mg base CX0 2 T.d_next_pieces.f T.d_next_pieces.fd ["old", "new", "at"] spNextPieces := by
  have G_next_copies : FnOk P w K mg base CX0 1 T.d_next_copies.f T.d_next_copies.fd ["old", "new", "at"] spNextCopies := ok_next_copies T
  have G_next_runs : FnOk P w K mg base CX0 1 T.d_next_runs.f T.d_next_runs.fd ["new", "at"] spNextRuns := ok_next_runs T
  refine T.d_next_pieces.F.ok sc_next_pieces (fun vs H Q E h => ?_) (fun cdv A outer s H vs Q E hr h => ?_)
  · obtain ⟨_, _, _, rfl, _⟩ := h
    rfl
  · obtain ⟨old, new, i, rfl, ho, hn, lo, ln, hi, k⟩ := h
    refine ⟨_, (pss_cons 
      (ps_set (i := 3) sc_next_pieces.nd rfl (Or.inl rfl) (pe_lst pa_nil)) (pss_cons 
      (ps_for PassesOwn.never rfl (pi_range2 (by rfl) T.b_range (pa_cons (pe_op op_add (pv 2) pe_int) (pa_cons (pe_op op_add (pe_callB call_len (by rfl) T.b_len PySem.boot_len (pa_cons (pv 1) pa_nil)) pe_int) pa_nil))) (pg_name (i := 4) sc_next_pieces.nd rfl (Or.inl rfl)) (pss_one 
      (ps_expr (pe_bm PySem.F.plainAttrs_list PySem.F.slot_list_append PySem.F.type_list_append mt_append (pv 3) (pa_cons (pe_tup (pa_cons pe_str (pa_cons (pe_slice sl_byt (pv 1) (po_some (pv 2)) (po_some (pv 4))) pa_nil))) pa_nil))))) (pss_one 
      (ps_ret (pe_op op_cat (pe_op op_cat (pv 3) (pe_call G_next_copies (hr.mono (by decide)) rfl T.d_next_copies.m T.d_next_copies.F.kp T.d_next_copies.b .nil pass0 (pa_cons (pv 0) (pa_cons (pv 1) (pa_cons (pv 2) pa_nil))))) (pe_call G_next_runs (hr.mono (by decide)) rfl T.d_next_runs.m T.d_next_runs.F.kp T.d_next_runs.b .nil pass0 (pa_cons (pv 1) (pa_cons (pv 2) pa_nil)))))))), ?_⟩
    have hl : (new.drop i).length = new.length - i := List.length_drop
    refine ⟨sizeS (by show 0 ≤ 100000; decide), fun D hD => ?_⟩
    refine ⟨_, rfl, _, _, rfl, rfl, _, rfl, _, new.length, rfl, lenBy (by omega), _, _, rfl, rfl, _, _, rfl, ⟨by omega, by omega, by omega, by omega⟩, ?_⟩
    refine for_range (lo := (i : Int) + 1) (n := ((new.length : Int) + 1 - ((i : Int) + 1)).toNat) (fun j σ H2 => ∃ (ws : List V) (v4 : Option V), σ = [some (.byt (byteArr old)), some (.byt (byteArr new)), some (.int (i : Int)), some (.ref D), v4] ∧ Same H H2 ∧ H2 D = some (.lst ws) ∧ Paired (PieceV H2) ws ((List.range j).map fun x => Row.bring ((new.drop i).take (x + 1))))
      ⟨[], none, rfl, Same.new hD, upd_same, .nil⟩ ?_ ?_
    · rintro j σ H2 hj ⟨ws, v4, rfl, s2, hw, pw⟩
      have jl : j < (new.drop i).length := by omega
      have e : PySem.W.KBy.picked (byteArr new) (some (i : Int)) (some ((i : Int) + 1 + (j : Int))) = byteArr ((new.drop i).take (j + 1)) := by
        rw [byteMid (by omega) (by omega) (by omega), Int.toNat_natCast, show ((i : Int) + 1 + (j : Int)).toNat - i = j + 1 by omega]
      have wl : ws.length = j := by rw [Paired.length pw, List.length_map, List.length_range]
      refine ⟨_, rfl, .inl ⟨rfl, _, SqL.of hw⟩, _, rfl, _, rfl, _, rfl, _, rfl, _, rfl, _, rfl, by rw [byteArr_size]; omega, ?_⟩
      rw [e]
      refine ⟨sizeS (by show 2 ≤ 100000; decide), fun t ht => ?_⟩
      obtain ⟨q0, q1, q2⟩ := piece_more (r := .bring ((new.drop i).take (j + 1))) hD s2 hw pw ht
      refine ⟨D, ws, _, rfl, rfl, q0, sizeL (by omega), ?_⟩
      refine ⟨_, _, rfl, q1, upd_same, ?_⟩
      rw [snoc_range]
      exact q2
    · rintro σ H2 ⟨ws, v4, rfl, s2, hw, pw⟩
      have en : ((new.length : Int) + 1 - ((i : Int) + 1)).toNat = (new.drop i).length := by omega
      rw [en] at pw
      refine ⟨_, rfl, _, rfl, _, rfl, _, rfl, old, new, i, rfl, ho, hn, lo, ln, hi, fun H3 p mc s3 hp hc hpc => ?_⟩
      obtain ⟨us, hu, pu⟩ := hpc
      have l1 : ws.length = (new.drop i).length := by rw [Paired.length pw, List.length_map, List.length_range]
      have l2 : us.length = mc := by rw [Paired.length pu, List.length_map, List.length_range]
      have cl := hc.le
      have pw3 := pairedMap pw fun _ _ x => PieceV.tups (Same.tups s3) x
      refine ⟨D, p, ws, us, rfl, rfl, s3 _ _ hw, hu, sizeS (by omega), fun q hq => ?_⟩
      have s4 : Same H3 (upd H3 q (.lst (ws ++ us))) := Same.new hq
      refine ⟨_, rfl, _, rfl, new, i, rfl, hn, ln, hi, fun H5 r mr s5 hr hm hpr => ?_⟩
      obtain ⟨xs, hx, px⟩ := hpr
      have l3 : xs.length = mr := by rw [Paired.length px, List.length_map, List.length_range]
      have rl := hm.le
      have pw5 := pairedMap (pairedApp pw3 pu) fun _ _ x => PieceV.tups (Same.tups (s4.trans s5)) x
      refine ⟨q, r, ws ++ us, xs, rfl, rfl, s5 _ _ upd_same, hx, sizeS (by rw [List.length_append]; omega), fun z hz => ?_⟩
      refine k _ z mc mr ((s2.trans s3).trans ((s4.trans s5).trans (Same.new hz))) (((s2.trans s3).trans (s4.trans s5)).free hz) hc hm ⟨_, upd_same, ?_⟩
      exact pairedMap (pairedApp pw5 px) fun _ _ x => PieceV.tups (Same.tups (Same.new hz)) x

def spOneBehind : Sp := fun vs H Q _ => ∃ (p : Addr) (ws : List V) (F : Nat → Row), vs = [.ref p] ∧ H p = some (.lst ws) ∧ ws.length ≤ 200 ∧ (∀ j x, ws[j]? = some x → PieceV H x (F j)) ∧ (∀ j, j < ws.length → (F j).ok 200 ∧ j + (F j).len.toNat ≤ ws.length) ∧
  ∀ H' v rs, Same H H' → Chain F ws.length 0 rs → PatchAt H' v rs → Q v H'
theorem Chain.last {F : Nat → Row} {n : Nat} : ∀ {j : Nat} {rs : List Row}, (∀ rest, Chain F n j rest → Chain F n 0 (rs ++ rest)) → j < n → ∀ rest, Chain F n (j + (F j).len.toNat) rest → Chain F n 0 (rs ++ [F j] ++ rest) := by
  intro j rs h lt rest c
  rw [List.append_assoc]
  exact h _ (.cons lt c)
theorem ok_one_behind_the_other (T : All K mg) : FnOk P w K mg base CX0 2 T.d_one_behind_the_other.f T.d_one_behind_the_other.fd ["firsts"] spOneBehind := by
  have G_length_of : FnOk P w K mg base CX0 1 T.d_length_of.f T.d_length_of.fd ["piece"] spLengthOf := ok_length_of T
  refine T.d_one_behind_the_other.F.ok sc_one_behind_the_other (fun vs H Q E h => ?_) (fun cdv A outer s H vs Q E hr h => ?_)
  · obtain ⟨_, _, _, rfl, _⟩ := h
    rfl
  · obtain ⟨p, ws, F, rfl, hp, wl, hF, hlen, k⟩ := h
    refine ⟨_, (pss_cons 
      (ps_set (i := 1) sc_one_behind_the_other.nd rfl (Or.inl rfl) (pe_lst pa_nil)) (pss_cons 
      (ps_set (i := 2) sc_one_behind_the_other.nd rfl (Or.inl rfl) pe_int) (pss_cons 
      (ps_while PassesOwn.never (pt_cmpR op_lt (pv 2) (pe_callB call_len (by rfl) T.b_len PySem.boot_len (pa_cons (pv 0) pa_nil)) (nomark _)) (pss_cons 
      (ps_expr (pe_bm PySem.F.plainAttrs_list PySem.F.slot_list_append PySem.F.type_list_append mt_append (pv 1) (pa_cons (pe_ix ix_list (pv 0) (pv 2) (fun _ _ => rfl)) pa_nil))) (pss_one 
      (ps_aug (i := 2) sc_one_behind_the_other.nd rfl (Or.inl rfl) (pe_call G_length_of (hr.mono (by decide)) rfl T.d_length_of.m T.d_length_of.F.kp T.d_length_of.b .nil pass0 (pa_cons (pe_ix ix_list (pv 0) (pv 2) (fun _ _ => rfl)) pa_nil)) ip_add)))) (pss_one 
      (ps_ret (pe_callTy call_tuple_of (by rfl) T.b_tuple (by decide +kernel) (pa_cons (pv 1) pa_nil))))))), ?_⟩
    refine ⟨sizeS (by show 0 ≤ 100000; decide), fun D hD => ?_⟩
    have npD : p ≠ D := ne_of_none hp hD
    refine while_by (fun σ H1 => ∃ (j : Nat) (us : List V) (rs : List Row), σ = [some (.ref p), some (.ref D), some (.int (j : Int))] ∧ j ≤ ws.length ∧ Same H H1 ∧ H1 D = some (.lst us) ∧ Paired (PieceV H1) us rs ∧ us.length ≤ j ∧ ∀ rest, Chain F ws.length j rest → Chain F ws.length 0 (rs ++ rest))
      (fun σ _ => match σ with | _ :: _ :: some (.int m) :: _ => ws.length - m.toNat | _ => 0) ⟨0, [], [], rfl, Nat.zero_le _, Same.new hD, upd_same, .nil, Nat.le_refl _, fun _ c => c⟩ ?_ ?_
    · rintro σ H1 ⟨j, us, rs, rfl, jl, s1, hu, pu, ul, ch⟩
      have hp1 := s1 _ _ hp
      refine ⟨_, rfl, _, rfl, _, ws.length, rfl, .inl ⟨_, SqL.of hp1, rfl⟩, _, _, rfl, rfl, _, rfl, ite2 (fun h => ?_) fun h => ?_⟩
      · have h : (j : Int) < ws.length := of_decide_eq_true h
        have lt : j < ws.length := by omega
        have ex := List.getElem?_eq_getElem lt
        obtain ⟨q, hq, hqt⟩ := hF j _ ex
        obtain ⟨ok, le⟩ := hlen j lt
        have pos := Row.len_pos ok
        refine ⟨_, rfl, .inl ⟨rfl, _, SqL.of hu⟩, _, rfl, _, rfl, p, _, _, _, rfl, rfl, SqL.of hp1, at_of (j := j) rfl ex, D, us, _, rfl, rfl, hu, sizeL (by omega), ?_⟩
        have s2 : Same H (upd H1 D (.lst (us ++ [ws[j]]))) := fun b o z => by
          rw [upd_ne (ne_of_none z hD)]
          exact s1 _ _ z
        refine ⟨_, rfl, _, rfl, _, rfl, p, _, _, _, rfl, rfl, SqL.of (s2 _ _ hp), at_of (j := j) rfl ex, q, F j, by rw [hq]; rfl, s2 _ _ hqt, ok, by omega, _, _, rfl, rfl, ?_⟩
        refine ⟨⟨j + (F j).len.toNat, us ++ [ws[j]], rs ++ [F j], by rw [show ((j + (F j).len.toNat : Nat) : Int) = (j : Int) + (F j).len by omega]; rfl, le, s2, upd_same, ?_, by rw [List.length_append]; show us.length + 1 ≤ _; omega, Chain.last ch lt⟩, ?_⟩
        · exact pairedApp (pairedMap pu fun _ _ x => x.tups (Tups.lst hu)) (.cons (PieceV.tups (Same.tups s2) (hF j _ ex)) .nil)
        · show ws.length - ((j : Int) + (F j).len).toNat < ws.length - (j : Int).toNat
          omega
      · have h : ¬ (j : Int) < ws.length := of_decide_eq_false (Bool.not_eq_true _ ▸ h)
        have ej : j = ws.length := by omega
        refine ⟨_, rfl, D, us, rfl, .inl ⟨SqL.of hu, fun u hu' => ?_⟩⟩
        have c := ch [] (by rw [ej]; exact .nil)
        rw [List.append_nil] at c
        exact k _ _ rs (s1.trans (Same.new hu')) c ⟨u, us, rfl, upd_same, pairedMap pu fun _ _ x => x.tups (Same.tups (Same.new hu'))⟩
    · rintro σ H1 Q1 Q2 hq ⟨v, e, u, e', x, n, ex, lv, i, j, ei, ej, b, eb, q⟩
      exact ⟨v, e, u, e', x, n, ex, lv, i, j, ei, ej, b, eb, hq _ _ q⟩

theorem ok_least (T : All K mg) : FnOk P w K mg base CX0 4 T.d_least.f T.d_least.fd ["old", "new"] spLeast := by
  have G_check_edition : FnOk P w K mg base CX0 1 T.d_check_edition.f T.d_check_edition.fd ["edition"] spCheckEdition := ok_check_edition T
  have G_piece_size : FnOk P w K mg base CX0 3 T.d_piece_size.f T.d_piece_size.fd ["piece"] spPieceSize := ok_piece_size T
  have G_length_of : FnOk P w K mg base CX0 1 T.d_length_of.f T.d_length_of.fd ["piece"] spLengthOf := ok_length_of T
  have G_next_pieces : FnOk P w K mg base CX0 2 T.d_next_pieces.f T.d_next_pieces.fd ["old", "new", "at"] spNextPieces := ok_next_pieces T
  have G_one_behind_the_other : FnOk P w K mg base CX0 2 T.d_one_behind_the_other.f T.d_one_behind_the_other.fd ["firsts"] spOneBehind := ok_one_behind_the_other T
  refine T.d_least.F.ok sc_least (fun vs H Q E h => ?_) (fun cdv A outer s H vs Q E hr h => ?_)
  · obtain ⟨_, _, rfl, _⟩ := h
    rfl
  · obtain ⟨old, new, rfl, ho, hn, lo, ln, k⟩ := h
    refine ⟨_, (pss_cons 
      (ps_expr (pe_call G_check_edition (hr.mono (by decide)) rfl T.d_check_edition.m T.d_check_edition.F.kp T.d_check_edition.b .nil pass0 (pa_cons (pv 0) pa_nil))) (pss_cons 
      (ps_expr (pe_call G_check_edition (hr.mono (by decide)) rfl T.d_check_edition.m T.d_check_edition.F.kp T.d_check_edition.b .nil pass0 (pa_cons (pv 1) pa_nil))) (pss_cons 
      (ps_set (i := 2) sc_least.nd rfl (Or.inr rfl) (pe_op op_rep (pe_lst (pa_cons pe_int pa_nil)) (pe_op op_add (pe_callB call_len (by rfl) T.b_len PySem.boot_len (pa_cons (pv 1) pa_nil)) pe_int))) (pss_cons 
      (ps_set (i := 3) sc_least.nd rfl (Or.inl rfl) (pe_op op_rep (pe_lst (pa_cons (pe_tup pa_nil) pa_nil)) (pe_callB call_len (by rfl) T.b_len PySem.boot_len (pa_cons (pv 1) pa_nil)))) (pss_cons 
      (ps_for PassesOwn.never rfl (pi_revR (by rfl) T.b_reversed (prg_1 (by rfl) T.b_range (pe_callB call_len (by rfl) T.b_len PySem.boot_len (pa_cons (pv 1) pa_nil)))) (pg_name (i := 4) sc_least.nd rfl (Or.inr rfl)) (pss_one 
      (ps_asg (pe_callB (cr_minO rfl rfl hr.units) (by rfl) T.b_min (by decide +kernel) (pa_cons (pe_lc (own := [("piece", 5)]) (g := gName 5) (tt := tYes) rfl sc_least.nd (pi_list (pe_call G_next_pieces (hr.mono (by decide)) rfl T.d_next_pieces.m T.d_next_pieces.F.kp T.d_next_pieces.b .nil pass0 (pa_cons (pv 0) (pa_cons (pv 1) (pa_cons (pv 4) pa_nil))))) (blkOk_by (own := [("piece", 5)]) (N := ["old", "new", "sizes", "firsts", "at", "piece"]) (sc := defScope s_least) (by decide +kernel)) (fun _ _ _ _ _ => (pg_name (i := 5) sc_least.nd rfl (Or.inl rfl))) (fun _ _ _ _ _ => pts_nil) (fun _ _ _ _ _ => (pe_tup (pa_cons (pe_op op_add (pe_call G_piece_size (hr.mono (by decide)) rfl T.d_piece_size.m T.d_piece_size.F.kp T.d_piece_size.b .nil pass0 (pa_cons (pv 5) pa_nil)) (pe_ix (ixlK (K := K) rfl) (pv 2) (pe_op op_add (pv 4) (pe_call G_length_of (hr.mono (by decide)) rfl T.d_length_of.m T.d_length_of.F.kp T.d_length_of.b .nil pass0 (pa_cons (pv 5) pa_nil))) (fun _ _ => rfl))) (pa_cons (pv 5) pa_nil))))) pa_nil)) (pg_tup rfl (pgs_cons (pg_sub (pv 2) (pv 4) set_list) (pgs_cons (pg_sub (pv 3) (pv 4) set_list) pgs_nil)))))) (pss_one 
      (ps_ret (pe_call G_one_behind_the_other (hr.mono (by decide)) rfl T.d_one_behind_the_other.m T.d_one_behind_the_other.F.kp T.d_one_behind_the_other.b .nil pass0 (pa_cons (pv 3) pa_nil))))))))), ?_⟩
    refine ⟨_, rfl, old, rfl, lo, ?_⟩
    refine ⟨_, rfl, new, rfl, ln, ?_⟩
    refine ⟨sizeS (by show 1 ≤ 100000; decide), fun l1 h1 => ⟨_, rfl, _, new.length, rfl, lenBy (by omega), _, _, rfl, rfl, l1, _, _, rfl, rfl, upd_same, by omega, by omega, sizeS (by show 1 * _ ≤ 100000; omega), fun D hD => ?_⟩⟩
    rw [rep_flat]
    refine ⟨sizeS (by show 0 ≤ 100000; decide), fun t ht => ⟨sizeS (by show 1 ≤ 100000; decide), fun l2 h2 => ⟨_, rfl, _, new.length, rfl, lenBy (by omega), l2, _, _, rfl, rfl, upd_same, by omega, by omega, sizeS (by show 1 * _ ≤ 100000; omega), fun D2 hD2 => ?_⟩⟩⟩
    rw [rep_flat]
    have s1 : Same H (upd H l1 (.lst [.int 0])) := Same.new h1
    have hD0 : H D = none := s1.free hD
    have sD := s1.trans (Same.new (o := .lst (List.replicate ((new.length : Int) + 1).toNat (V.int 0))) hD)
    have st := sD.trans (Same.new (o := .tup []) ht)
    have sl := st.trans (Same.new (o := .lst [.ref t]) h2)
    have hE0 : H D2 = none := sl.free hD2
    have s4 := sl.trans (Same.new (o := .lst (List.replicate ((new.length : Int)).toNat (V.ref t))) hD2)
    have hD4 := Same.new (o := .lst (List.replicate ((new.length : Int)).toNat (V.ref t))) hD2 _ _ (Same.new (o := .lst [.ref t]) h2 _ _ (Same.new (o := .tup []) ht _ _ (upd_same (H := upd H l1 (.lst [.int 0])) (a := D) (o := .lst (List.replicate ((new.length : Int) + 1).toNat (V.int 0))))))
    have hE4 : (upd (upd (upd (upd (upd H l1 (.lst [.int 0])) D (.lst (List.replicate ((new.length : Int) + 1).toNat (V.int 0)))) t (.tup [])) l2 (.lst [.ref t])) D2 (.lst (List.replicate ((new.length : Int)).toNat (V.ref t)))) D2 = some (.lst (List.replicate ((new.length : Int)).toNat (V.ref t))) := upd_same
    have nDE : D ≠ D2 := ne_of_none (Same.new (o := .lst [.ref t]) h2 _ _ (Same.new (o := .tup []) ht _ _ (upd_same (H := upd H l1 (.lst [.int 0])) (a := D) (o := .lst (List.replicate ((new.length : Int) + 1).toNat (V.int 0)))))) hD2
    refine ⟨_, rfl, _, new.length, rfl, lenBy (by omega), ?_⟩
    generalize upd (upd (upd (upd (upd H l1 (.lst [.int 0])) D (.lst (List.replicate ((new.length : Int) + 1).toNat (V.int 0)))) t (.tup [])) l2 (.lst [.ref t])) D2 (.lst (List.replicate ((new.length : Int)).toNat (V.ref t))) = H4 at s4 hD4 hE4 ⊢
    clear sl st sD s1 h1 h2 ht hD hD2
    refine ⟨_, rfl, by omega, by omega, by omega, by omega, for_rangeC (lo := 0 + ((((new.length : Int) - 0).toNat : Nat) : Int) - 1) (c := -1) (n := ((new.length : Int) - 0).toNat) (fun i σ H2 => ∃ (ss : List Int) (vs : List V) (F : Nat → Row) (v4 v5 : Option V),
      σ = [some (.byt (byteArr old)), some (.byt (byteArr new)), some (.ref D), some (.ref D2), v4, v5] ∧ Same H H2 ∧ H2 D = some (.lst (ss.map V.int)) ∧ ss.length = new.length + 1 ∧ ss.getD new.length 0 = 0 ∧ H2 D2 = some (.lst vs) ∧ vs.length = new.length ∧
        ∀ j, new.length - i ≤ j → j < new.length → (∃ x, vs[j]? = some x ∧ PieceV H2 x (F j)) ∧ PLess old new (fun j => ss.getD j 0) F j) ?_ ?_ ?_⟩
    · refine ⟨List.replicate ((new.length : Int) + 1).toNat 0, _, fun _ => .bring [], _, _, rfl, s4, by rw [List.map_replicate]; exact hD4, by rw [List.length_replicate]; omega, ?_, hE4, by rw [List.length_replicate]; omega, fun j h1 h2 => by omega⟩
      rw [List.getD_eq_getElem?_getD, List.getElem?_replicate]
      split <;> rfl
    · rintro i σ H5 hi ⟨ss, vs, F, v4, v5, rfl, s5, hss, ssl, ss0, hvs, vsl, inv⟩
      obtain ⟨j, ej, jl⟩ : ∃ j : Nat, (0 + ((((new.length : Int) - 0).toNat : Nat) : Int) - 1 + (i : Int) * -1) = (j : Int) ∧ j + 1 + i = new.length := ⟨new.length - 1 - i, by omega, by omega⟩
      rw [ej]
      refine ⟨_, rfl, _, rfl, _, rfl, old, new, j, rfl, ho, hn, lo, ln, by omega, fun H6 p mc mr s6 hp6 hc hr' hP => ?_⟩
      obtain ⟨us, hus, pus⟩ := hP
      have hi2 : j < new.length := by omega
      have fit := cands_fit (old := old) hi2 hn hc hr'
      have ul : us.length = (candsOf old (new.drop j) mc mr).length := Paired.length pus
      have few : (candsOf old (new.drop j) mc mr).length ≤ 600 := by
        have hl : (new.drop j).length = new.length - j := List.length_drop
        have a1 := hc.le
        have a2 := hr'.le
        unfold candsOf bringsOf
        rw [List.length_append, List.length_append, List.length_map, List.length_map, List.length_map, List.length_range, List.length_range, List.length_range]
        omega
      have ne0 : 0 < (candsOf old (new.drop j) mc mr).length := by
        have hl : (new.drop j).length = new.length - j := List.length_drop
        unfold candsOf bringsOf
        rw [List.length_append, List.length_append, List.length_map, List.length_range]
        omega
      generalize hcs : candsOf old (new.drop j) mc mr = cs at fit ul few ne0 pus
      have cost1 : ∀ r ∈ cs, r.ok 200 ∧ r.len ≤ 200 ∧ j + r.len.toNat ≤ new.length ∧ 1 ≤ r.len := fun r hm => by
        have f := fit r hm
        have q1 := Row.len_pos f.ok
        have q2 := f.le
        exact ⟨Row.ok_mono (by omega) f.ok, by omega, q2, q1⟩
      have hss6 := s6 _ _ hss
      refine ⟨p, rfl, ⟨_, SqL.of hus⟩, fun G hG => lc_list (K := K) (a := p) (xs := us) (fun m H7 => ∃ ws : List V, Same H6 H7 ∧ H7 G = some (.lst ws) ∧ Paired (fun x r => ∃ t q, x = V.ref t ∧ H7 t = some (.tup [.int (rowSize r + ss.getD (j + r.len.toNat) 0), .ref q]) ∧ H7 q = some (.tup (Row.tup r))) ws (cs.take m))
        ⟨[], Same.new hG, upd_same, .nil⟩ (fun m H7 _ ⟨_, s7, _⟩ => SqL.of (s7 _ _ hus)) ?_ ?_⟩
      · rintro m x H7 hm ⟨ws, s7, hG7, pw⟩
        obtain ⟨r, hr1, q, rfl, hq⟩ := pairedAt pus hm
        obtain ⟨c1, c2, c3, c4⟩ := cost1 r (List.mem_of_getElem? hr1)
        have hq7 := s7 _ _ hq
        have hss7 := s7 _ _ hss6
        have wl : ws.length ≤ m := by rw [Paired.length pw, List.length_take]; omega
        have ml := (List.getElem?_eq_some_iff.mp hr1).1
        refine ⟨rfl, _, rfl, q, r, rfl, hq7, c1, c2, _, rfl, _, rfl, _, rfl, q, r, rfl, hq7, c1, c2, _, _, rfl, rfl, D, _, _, _, rfl, rfl, SqL.of hss7, at_of (j := j + r.len.toNat) (v := .int (ss.getD (j + r.len.toNat) 0)) (by omega) ?_, _, _, rfl, rfl, _, rfl, sizeS (by show 2 ≤ 100000; decide), fun t ht => ?_⟩
        · rw [List.getElem?_map, List.getD_eq_getElem?_getD, List.getElem?_eq_getElem (show j + r.len.toNat < ss.length by omega)]
          rfl
        · have hG8 := Same.new (o := .tup [.int (rowSize r + ss.getD (j + r.len.toNat) 0), .ref q]) ht _ _ hG7
          have nGt : G ≠ t := ne_of_none hG7 ht
          refine ⟨ws, hG8, sizeL (by omega), ws ++ [.ref t], fun b o z => ?_, upd_same, ?_⟩
          · rw [upd_ne (ne_of_none z hG)]
            exact Same.new ht _ _ (s7 _ _ z)
          · rw [take_snoc hr1]
            have keep : ∀ {a : Addr} {xs : List V}, H7 a = some (.tup xs) → (upd (upd H7 t (.tup [.int (rowSize r + ss.getD (j + r.len.toNat) 0), .ref q])) G (.lst (ws ++ [.ref t]))) a = some (.tup xs) := fun {a xs} z => by
              rw [upd_ne (ne_of (Same.new ht _ _ z) hG8 (by intro y; cases y))]
              exact Same.new ht _ _ z
            refine pairedApp (pairedMap pw fun _ _ ⟨t', q', e1, e2, e3⟩ => ⟨t', q', e1, keep e2, keep e3⟩) (.cons ⟨t, q, rfl, ?_, keep hq7⟩ .nil)
            rw [upd_ne nGt.symm]
            exact upd_same
      · rintro H7 ⟨ws, s7, hG7, pw⟩
        rw [ul, List.take_length] at pw
        have wl : ws.length = cs.length := Paired.length pw
        refine ⟨G, ws, Row, cs, fun r r' => PySem.W.KBq.ord ((rowSize r + ss.getD (j + r.len.toNat) 0) :: r.key) ((rowSize r' + ss.getD (j + r'.len.toNat) 0) :: r'.key), rfl, SqL.of hG7, ?_, wl, ?_, ?_, ?_, ?_⟩
        · intro z
          rw [z] at wl
          simp at wl
          omega
        · intro a b x y r r' hx hy hr hr'
          obtain ⟨r1, er, t, q, rfl, ht, hq⟩ := pairedAt pw hx
          obtain ⟨r2, er2, t', q', rfl, ht', hq'⟩ := pairedAt pw hy
          rw [hr] at er
          rw [hr'] at er2
          injection er with er
          injection er2 with er2
          subst er er2
          refine ov_tup ht ht' ?_ (fun e => ?_)
          · dsimp only
            rw [ord_cons, ← then_eq (PySem.W.KBq.ord r.key r'.key)]
            exact .cons (ov_int _ _) fun _ => .cons (ov_row (n := 5) (RowB.of (fit r (List.mem_of_getElem? hr)).ok) (RowB.of (fit r' (List.mem_of_getElem? hr')).ok) hq hq') fun _ => .nil
          · subst e
            rw [ht] at ht'
            injection ht' with ht'
            injection ht' with ht'
            injection ht' with e1 ht'
            injection ht' with e2 _
            injection e1 with e1
            injection e2 with e2
            subst e2
            rw [hq] at hq'
            injection hq' with hq'
            injection hq' with hq'
            dsimp only
            rw [e1, tup_key (RowB.of (fit r (List.mem_of_getElem? hr)).ok) (RowB.of (fit r' (List.mem_of_getElem? hr')).ok) hq']
            exact (ord_eq _ _).mpr rfl
        · intro r _
          dsimp only
          rw [(ord_eq _ _).mpr rfl]
          intro z
          cases z
        · intro a _ b _ m _ h1 h2 h3
          dsimp only at h1 h2 h3
          rw [Ne, ord_lt] at h1
          rw [ord_lt] at h2 h3
          exact h1 (List.lt_trans h3 h2)
        · intro m x r hx hr hmin
          obtain ⟨r1, er, t, q, rfl, ht, hq⟩ := pairedAt pw hx
          rw [hr] at er
          injection er with er
          subst er
          have hrm := List.mem_of_getElem? hr
          obtain ⟨c1, c2, c3, c4⟩ := cost1 r hrm
          have hss7 := s7 _ _ hss6
          have hvs7 := s7 _ _ (s6 _ _ hvs)
          have s07 := s5.trans (s6.trans s7)
          have t8 : Tups H7 (upd H7 D (.lst ((ss.map V.int).set j (.int (rowSize r + ss.getD (j + r.len.toNat) 0))))) := Tups.lst hss7
          refine ⟨t, _, rfl, SqT.of ht, rfl, _, _, rfl, _, rfl, _, rfl, D, _, _, j, rfl, rfl, hss7, ixN_natL (by rw [List.length_map]; omega), _, _, rfl, _, rfl, _, rfl, D2, vs, _, j, rfl, rfl, by rw [upd_ne nDE.symm]; exact hvs7, ixN_natL (by omega), rfl, ?_⟩
          have hvs8 : (upd H7 D (.lst ((ss.map V.int).set j (.int (rowSize r + ss.getD (j + r.len.toNat) 0))))) D2 = some (.lst vs) := by rw [upd_ne nDE.symm]; exact hvs7
          have t9 := t8.trans (Tups.lst (o := .lst (vs.set j (.ref q))) hvs8)
          have gd : ∀ y, y ≠ j → (ss.set j (rowSize r + ss.getD (j + r.len.toNat) 0)).getD y 0 = ss.getD y 0 := fun y hy => by
            simp only [List.getD_eq_getElem?_getD, List.getElem?_set_ne (Ne.symm hy)]
          have gj : (ss.set j (rowSize r + ss.getD (j + r.len.toNat) 0)).getD j 0 = rowSize r + ss.getD (j + r.len.toNat) 0 := by
            rw [List.getD_eq_getElem?_getD, List.getElem?_set_self (by omega)]
            rfl
          refine ⟨ss.set j (rowSize r + ss.getD (j + r.len.toNat) 0), vs.set j (.ref q), fun x => if x = j then r else F x, _, _, rfl, fun b o z => ?_, ?_, by rw [List.length_set]; exact ssl, by rw [gd _ (by omega)]; exact ss0, upd_same, by rw [List.length_set]; exact vsl, fun y h1 h2 => ?_⟩
          · rw [upd_ne (ne_of_none z hE0), upd_ne (ne_of_none z hD0)]
            exact s07 _ _ z
          · rw [upd_ne nDE, upd_same, List.map_set]
          · by_cases ey : y = j
            · subst ey
              refine ⟨⟨.ref q, by rw [List.getElem?_set_self (by omega)], q, rfl, ?_⟩, ?_⟩
              · have eF : (fun x => if x = y then r else F x) y = r := if_pos rfl
                rw [eF]
                exact t9 _ _ hq
              · refine pless_of hi2 hn hc hr' ?_ ?_ fun r' hr' => ?_
                · rw [if_pos rfl, hcs]
                  exact hrm
                · rw [if_pos rfl, gj, gd _ (by omega)]
                · rw [hcs] at hr'
                  have q1 := (cost1 r' hr').2.2.2
                  rw [if_pos rfl, gd _ (by omega), gd _ (by omega), ← ord_lt]
                  exact hmin r' hr'
            · obtain ⟨⟨x, hx1, hx2⟩, pl⟩ := inv y (by omega) h2
              refine ⟨⟨x, by rw [List.getElem?_set_ne (Ne.symm ey)]; exact hx1, ?_⟩, ?_⟩
              · have eF : (fun x => if x = j then r else F x) y = F y := if_neg ey
                rw [eF]
                exact PieceV.tups t9 (PieceV.tups (Same.tups (s6.trans s7)) hx2)
              · exact pl.congr (fun z hz => (gd z (by omega)).symm) (if_neg ey).symm
    · rintro σ H5 ⟨ss, vs, F, v4, v5, rfl, s5, hss, ssl, ss0, hvs, vsl, inv⟩
      have inv' : ∀ j, j < new.length → (∃ x, vs[j]? = some x ∧ PieceV H5 x (F j)) ∧ PLess old new (fun j => ss.getD j 0) F j := fun j hj => inv j (by omega) hj
      refine ⟨_, rfl, D2, vs, F, rfl, hvs, by omega, fun j x hx => ?_, fun j hj => ?_, fun H6 v rs s6 hc hP => ?_⟩
      · obtain ⟨⟨y, hy, hp⟩, _⟩ := inv' j (by rw [← vsl]; exact (List.getElem?_eq_some_iff.mp hx).1)
        rw [hx] at hy
        injection hy with hy
        rw [hy]
        exact hp
      · have f := (inv' j (by omega)).2.1
        have := f.le
        exact ⟨Row.ok_mono (by omega) f.ok, by omega⟩
      · rw [vsl] at hc
        exact k H6 v rs (s5.trans s6) (isLeast_of (S := fun j => ss.getD j 0) ss0 (fun j hj => (inv' j hj).2) hc) hP
end
/-! ### == and != of the program's data -/
/-- the same data, of nesting below n -/
def Sd (K : PySem.W.Frag) (H : Hp) : Nat → V → V → Prop
  | 0, _, _ => False
  | n + 1, x, y => (x = y ∧ flatB x = true) ∨ (∃ a, x = .ref a ∧ y = .ref a) ∨ ∃ a b xs ys, x = .ref a ∧ y = .ref b ∧ ((SqT K H a xs ∧ SqT K H b ys) ∨ (SqL K H a xs ∧ SqL K H b ys)) ∧ Paired (Sd K H n) xs ys
theorem sd_items {A : Around} {s : Shared} {F : V → V → Prop} (ih : ∀ x y v u, F x y → RelV x v → RelV y u → SeqAt.EqAt A s v u true) : ∀ {xs ys : List V}, Paired F xs ys →
    ∀ {us ws : List Value}, Vals xs us → Vals ys ws → ∀ j (h1 : j < us.length) (h2 : j < ws.length), SeqAt.EqAt A s us[j] ws[j] true
  | _, _, .nil, _, _, .nil, _, j, h1, _ => absurd h1 (Nat.not_lt_zero j)
  | _, _, .cons h _, _, _, .cons a _, .cons b _, 0, _, _ => ih _ _ _ _ h a b
  | _, _, .cons _ t, _, _, .cons _ a, .cons _ b, j + 1, h1, h2 => sd_items ih t a b j (Nat.lt_of_succ_lt_succ h1) (Nat.lt_of_succ_lt_succ h2)
section
variable {X : Cx} {pins : List (Addr × Obj)} {σ : L2.St} {H : Hp} {s : Shared}
theorem all_true (n : Nat) : ((List.range n).all fun _ => true) = true := List.all_eq_true.mpr fun _ _ => rfl
theorem sd_run (I : Inv X pins σ H s) : ∀ (n : Nat) (A : Around), A.units + n < cLine → ∀ (x y : V) (v u : Value), Sd X.K H n x y → RelV x v → RelV y u → SeqAt.EqAt A s v u true
  | 0, _, _, _, _, _, _, h, _, _ => h.elim
  | n + 1, A, hu, x, y, v, u, h, rx, ry => by
    rcases h with ⟨rfl, f⟩ | ⟨a, rfl, rfl⟩ | ⟨a, b, xs, ys, rfl, rfl, h, hp⟩
    · exact eqAt_same rx ry f
    · cases (show v = Value.ref a from rx)
      cases (show u = Value.ref a from ry)
      exact SeqAt.EqAt.same _
    · cases (show v = Value.ref a from rx)
      cases (show u = Value.ref b from ry)
      by_cases e : a = b
      · subst e; exact SeqAt.EqAt.same _
      · have rc : SeqAt.RcAt A s (.ref a) (.ref b) true := by
          rcases h with ⟨ha, hb⟩ | ⟨ha, hb⟩
          · obtain ⟨us, r1, p1, _⟩ := I.tuple ha
            obtain ⟨ws, r2, p2, _⟩ := I.tuple hb
            have hsz : us.toArray.size = ws.toArray.size := by rw [List.size_toArray, List.size_toArray, ← r1.length, ← r2.length]; exact Paired.length hp
            have z := SeqAt.RcAt.tuples (A := A) (e := fun _ => true) (show s.heap.IsTuple a us.toArray from p1) (show s.heap.IsTuple b ws.toArray from p2) (by omega) (fun j h1 h2 => by
              have k := sd_items (fun x y v u h rx ry => sd_run I n A.in1 (by show A.units + 1 + n < cLine; omega) x y v u h rx ry) hp r1 r2 j (by simpa using h1) (by simpa using h2)
              simpa using k)
            rw [all_true, hsz] at z
            simpa using z
          · obtain ⟨us, r1, p1, _⟩ := I.list ha
            obtain ⟨ws, r2, p2, _⟩ := I.list hb
            have hsz : us.toArray.size = ws.toArray.size := by rw [List.size_toArray, List.size_toArray, ← r1.length, ← r2.length]; exact Paired.length hp
            have z := SeqAt.RcAt.lists (A := A) (e := fun _ => true) p1.isList p2.isList hsz (by omega) (fun j h1 h2 => by
              have k := sd_items (fun x y v u h rx ry => sd_run I n A.in1 (by show A.units + 1 + n < cLine; omega) x y v u h rx ry) hp r1 r2 j (by simpa using h1) (by simpa using h2)
              simpa using k)
            rw [all_true] at z
            exact z
        intro prog w E Q hq
        unfold eqBool
        refine wpAny_holding ?_
        refine wpAny_ite_split (fun hab => absurd (by have := eq_of_beq hab; injection this) e) (fun _ => ?_)
        exact wpAny_bind (rc prog w E _ (wpAny_truthy_bool hq))
end
/-- a != b of two tuples, or two lists, that are the same -/
def rNeS (K : PySem.W.Frag) : R2 := fun x y H Q => ∃ a b xs ys, x = .ref a ∧ y = .ref b ∧ ((SqT K H a xs ∧ SqT K H b ys) ∨ (SqL K H a xs ∧ SqL K H b ys)) ∧ Paired (Sd K H 60) xs ys ∧ Q (.bl false) H
theorem op_neS {X : Cx} (hu : X.A.units + 64 < cLine) : OpR X (compareOp .NotEq) (rNeS X.K) := by
  intro pins s σ H x y v u Q I rx ry h
  obtain ⟨a, b, xs, ys, rfl, rfl, h, hp, q⟩ := h
  cases (show v = Value.ref a from rx)
  cases (show u = Value.ref b from ry)
  have fin : EP X pins σ Q (.bool false) s := ⟨.bl false, H, I, rfl, q⟩
  have items : ∀ {us ws : List Value}, Vals xs us → Vals ys ws → ∀ j (h1 : j < us.toArray.size) (h2 : j < ws.toArray.size), SeqAt.EqAt X.A.in1 s us.toArray[j] ws.toArray[j] true := fun {us ws} r1 r2 j h1 h2 => by
    have k := sd_items (fun x y v u h rx ry => sd_run I 60 X.A.in1 (by show X.A.units + 1 + 60 < cLine; omega) x y v u h rx ry) hp r1 r2 j (by simpa using h1) (by simpa using h2)
    simpa using k
  rcases h with ⟨ha, hb⟩ | ⟨ha, hb⟩
  · obtain ⟨us, r1, p1, _⟩ := I.tuple ha
    obtain ⟨ws, r2, p2, _⟩ := I.tuple hb
    have hsz : us.toArray.size = ws.toArray.size := by rw [List.size_toArray, List.size_toArray, ← r1.length, ← r2.length]; exact Paired.length hp
    have z := SeqAt.RcNeAt.tuples (A := X.A) (e := fun _ => true) (show s.heap.IsTuple a us.toArray from p1) (show s.heap.IsTuple b ws.toArray from p2) (by omega) (items r1 r2)
    rw [all_true, hsz] at z
    exact z X.prog X.w _ _ (by simpa using fin)
  · obtain ⟨us, r1, p1, _⟩ := I.list ha
    obtain ⟨ws, r2, p2, _⟩ := I.list hb
    have hsz : us.toArray.size = ws.toArray.size := by rw [List.size_toArray, List.size_toArray, ← r1.length, ← r2.length]; exact Paired.length hp
    have z := SeqAt.RcNeAt.lists (A := X.A) (e := fun _ => true) p1.isList p2.isList hsz (by omega) (items r1 r2)
    rw [all_true] at z
    exact z X.prog X.w _ _ fin
section
variable {K : PySem.W.Frag} {H : Hp}
theorem Sd.flat {n : Nat} : ∀ {xs : List V}, (∀ x ∈ xs, flatB x = true) → Paired (Sd K H (n + 1)) xs xs
  | [], _ => .nil
  | x :: xs, h => .cons (.inl ⟨rfl, h x List.mem_cons_self⟩) (Sd.flat fun y hy => h y (List.mem_cons_of_mem _ hy))
theorem Sd.cell {n : Nat} {v u : V} {c : Cell} (h : CellV H v c) (h' : CellV H u c) : Sd K H (n + 2) v u := by
  obtain ⟨p, rfl, hp⟩ := h
  obtain ⟨q, rfl, hq⟩ := h'
  refine .inr (.inr ⟨p, q, _, _, rfl, rfl, .inl ⟨SqT.of hp, SqT.of hq⟩, Sd.flat ?_⟩)
  cases c <;> (intro x hx; simp [Cell.tup] at hx; rcases hx with rfl | rfl <;> rfl)
theorem Sd.piece {n : Nat} {v u : V} {r : Row} (h : PieceV H v r) (h' : PieceV H u r) : Sd K H (n + 2) v u := by
  obtain ⟨p, rfl, hp⟩ := h
  obtain ⟨q, rfl, hq⟩ := h'
  refine .inr (.inr ⟨p, q, _, _, rfl, rfl, .inl ⟨SqT.of hp, SqT.of hq⟩, Sd.flat ?_⟩)
  cases r with
  | copy b n => intro x hx; simp [Row.tup] at hx; rcases hx with rfl | rfl | rfl <;> rfl
  | run b n => intro x hx; simp [Row.tup] at hx; rcases hx with rfl | rfl | rfl <;> rfl
  | bring bs => intro x hx; simp [Row.tup] at hx; rcases hx with rfl | rfl <;> rfl
theorem Sd.pairs {α : Type} {F : V → α → Prop} {n : Nat} (f : ∀ v u c, F v c → F u c → Sd K H n v u) : ∀ {vs us : List V} {cs : List α}, Paired F vs cs → Paired F us cs → Paired (Sd K H n) vs us
  | _, _, _, .nil, .nil => .nil
  | _, _, _, .cons a r, .cons b t => .cons (f _ _ _ a b) (Sd.pairs f r t)
end
theorem op_orD {X : Cx} {f : Value → Value → Sem Value} {r1 r2 : R2} (h1 : OpR X f r1) (h2 : OpR X f r2) : OpR X f (fun x y H Q => r1 x y H Q ∨ r2 x y H Q) := by
  intro pins s σ H x y v u Q I rx ry h
  rcases h with h | h
  · exact h1 pins s σ H x y v u Q I rx ry h
  · exact h2 pins s σ H x y v u Q I rx ry h
/-! ### dicts whose keys are tuples of bytes, or of None and texts: a thing of its own (HO.ext), the keys' tuples stand beside it -/
section
open Sem (wp)
theorem slotx_bhash : Slot "bytes" "__hash__" "bytes.__hash__" :=
  .of (owner := "bytes") (n := "__hash__") (by rw [typeLookup_type, builtinLookup_eq_fast]; kernel_rfl) (by decide +kernel) (by decide +kernel) (by decide +kernel) (by first | exact .inl (by decide +kernel) | exact .inr (by decide +kernel)) (by rw [isSubtype_type]; kernel_rfl)
theorem entryx_bhash : entryFor table "bytes.__hash__" = some Builtin.«bytes.__hash__» := by first | exact entryFor_of_tree (by kernel_rfl) | exact entryFor_of_fast (by kernel_rfl)
theorem argsx_bhash (a : Value) : argsOk "bytes.__hash__" ⟨[a], []⟩ := by
  unfold argsOk; rw [signature?_of (id := "bytes.__hash__") (n := ['_', '_', 'h', 's', 'a', 'h', '_', '_']) (o := ['s', 'e', 't', 'y', 'b']) (by kernel_rfl) PySem.W.FB.owner_bytes]; kernel_rfl
def hashByt (w : World) (b : Array UInt8) : Int := reduceHash (hashStr w ⟨b.map (·.toNat)⟩)
theorem hashx_byt {prog : Program} {w : World} {A : Around} {E : Value → Shared → Prop} {s : Shared} {b : Array UInt8} {t : Tok} {Q : Int → Shared → Prop} (h : Q (hashByt w b) { s with toks := s.toks + 1 }) : wpAny (model prog w) A (pyHash (.bytes b t)) Q E s := by
  refine PySem.W.pyHash_slot (T := "bytes") rfl slotx_bhash entryx_bhash (argsx_bhash _) (beq_builtin_none _) (.inl rfl) ?_
  show wpAny _ _ (strHash ⟨b.map (·.toNat)⟩ >>= fun i => (do ret (← mkInt i))) _ _ s
  unfold strHash
  refine wpAny_bind (wpAny_bind (wpAny_askSetting (wpAny_pure (wpAny_bind (wpAny_mkInt (wpAny_pure ⟨_, _, rfl, ?_⟩))))))
  exact h
def bytIs (b : Array UInt8) : Value → Bool
  | .bytes c _ => decide (c = b)
  | _ => false
theorem bytIs_of {b : Array UInt8} {v : Value} (h : bytIs b v = true) : ∃ t, v = .bytes b t := by
  cases v <;> simp_all [bytIs]
def bytKind (prog : Program) (w : World) : KeyKind prog w (Array UInt8) where
  is := bytIs
  hash := hashByt w
  inj := fun v a b ha hb => by
    obtain ⟨t, rfl⟩ := bytIs_of ha
    obtain ⟨u, e⟩ := bytIs_of hb
    injection e
  byValue := fun k v h => by obtain ⟨t, rfl⟩ := bytIs_of h; rfl
  pyHash := fun hv h => by obtain ⟨t, rfl⟩ := bytIs_of hv; exact hashx_byt h
  eqBool := fun {A E s a b u v Q} hu hv h => by
    obtain ⟨t, rfl⟩ := bytIs_of hu
    obtain ⟨t2, rfl⟩ := bytIs_of hv
    refine PySem.W.eqBool_bytes ?_
    have e : decide (a.toList = b.toList) = decide (a = b) := decide_eq_decide.mpr Array.toList_inj
    rw [e]
    exact h
  «strs» := fun k x t v h => by
    obtain ⟨u, hu⟩ := bytIs_of h
    cases hu
/-- keys of such a kind, and what they are in the heap -/
structure XKind (κ : Type) [DecidableEq κ] where
  knd : (P : Program) → (w : World) → KeyKind P w κ
  kv : κ → V
  rel : ∀ (P : Program) (w : World) (k : κ) (u : Value), RelV (kv k) u → (knd P w).is k u = true
def bytX : XKind (Array UInt8) := ⟨bytKind, V.byt, fun P w k u h => by
  obtain ⟨t, rfl⟩ := h
  show decide (k = k) = true
  exact decide_eq_true rfl⟩
def leafV : Leaf → V
  | .none => .non
  | .num i => .int i
  | .text x => .str x
def leafX : XKind Leaf := ⟨leafKind, leafV, fun P w k u h => by
  cases k with
  | none => cases (show u = Value.none from h); rfl
  | num i =>
    obtain ⟨t, rfl⟩ := (show ∃ t, u = Value.int i t from h)
    show decide (i = i) = true
    exact decide_eq_true rfl
  | text x =>
    obtain ⟨t, rfl⟩ := (show ∃ t, u = Value.str x t from h)
    show (x == x) = true
    exact beq_self_eq_true x⟩
end
section
variable {κ : Type} [DecidableEq κ]
abbrev XRows (κ : Type) : Type := List (List κ × Addr × V)
/-- the dict's own object: its entries, by the keys' tuples -/
def dxO (X : XKind κ) (P : Program) (w : World) (d : Addr) (ks : XRows κ) : HO := .ext fun h => ks.length ≤ sizeLine ∧ (d == sysModules) = false ∧ ∃ xs : List (List κ × Addr × Value),
  Paired (fun (p : List κ × Addr × V) (q : List κ × Addr × Value) => p.1 = q.1 ∧ p.2.1 = q.2.1 ∧ RelV p.2.2 q.2.2) ks xs ∧
  ∃ o es ep, h.get? d = some o ∧ o.ExactDict ∧ o.data = .dict es ep ∧ es.toList = xs.map (entryOfKey (tupleKind (X.knd P w))) ∧ (xs.map (·.1)).Nodup
/-- at d stands the dict of ks: a tuple's address beside each key -/
structure DX (X : XKind κ) (P : Program) (w : World) (H : Hp) (d : Addr) (ks : XRows κ) : Prop where
  at_ : H d = some (dxO X P w d ks)
  tups : ∀ k ∈ ks, H k.2.1 = some (.tup (k.1.map X.kv))
def xval (ks : XRows κ) (k : List κ) : Option V := (ks.find? fun x => decide (x.1 = k)).map (·.2.2)
def xput (ks : XRows κ) (k : List κ) (b : Addr) (v : V) : XRows κ := if (xval ks k).isSome then ks.map (fun x => if x.1 = k then (x.1, x.2.1, v) else x) else ks ++ [(k, b, v)]
variable {X : XKind κ}
theorem itemsx_are {P : Program} {w : World} : ∀ {ks : List κ} {us : List Value}, Vals (ks.map X.kv) us → ItemsAre (X.knd P w) ks us
  | [], _, r => by rw [List.map_nil] at r; cases r; exact .nil
  | k :: ks, _, r => by
    rw [List.map_cons] at r
    cases r with
    | cons h t => exact .cons (X.rel P w _ _ h) (itemsx_are t)
theorem keyx_of {P : Program} {w : World} {H : Hp} {h : Heap} {b : Addr} {ks : List κ} (ok : HOk P w H h) (e : H b = some (.tup (ks.map X.kv))) : (tupleKind (X.knd P w)).is h ks b := by
  obtain ⟨_, its, r, o, h1, h2, n, h3⟩ := (show ObjOk P w H h b (.tup (ks.map X.kv)) from ok b _ e)
  exact ⟨o, its.toArray, n, h1, h2, h3, by simpa using itemsx_are r⟩
abbrev XT : XRows κ → List (List κ × Addr × Value) → Prop := Paired fun p q => p.1 = q.1 ∧ p.2.1 = q.2.1 ∧ RelV p.2.2 q.2.2
theorem XT.val {ks : XRows κ} {xs : List (List κ × Addr × Value)} (r : XT ks xs) (k : List κ) : RelO (xval ks k) ((atKey xs k).map (·.2)) := by
  induction r with
  | nil => exact True.intro
  | @cons p q ps qs h t ih =>
    obtain ⟨h1, _, h2⟩ := h
    by_cases e : p.1 = k
    · have e' : q.1 = k := h1.symm.trans e
      have a : xval (p :: ps) k = some p.2.2 := by simp [xval, List.find?_cons, e]
      have b : atKey (q :: qs) k = some q.2 := by simp [atKey, List.find?_cons, e']
      rw [a, b]; exact h2
    · have e' : ¬ q.1 = k := fun z => e (h1.trans z)
      have a : xval (p :: ps) k = xval ps k := by simp [xval, List.find?_cons, e]
      have b : atKey (q :: qs) k = atKey qs k := by simp [atKey, List.find?_cons, e']
      rw [a, b]; exact ih
theorem XT.put {ks : XRows κ} {xs : List (List κ × Addr × Value)} (r : XT ks xs) (k : List κ) {b : Addr} {y : V} {u : Value} (ry : RelV y u) : XT (xput ks k b y) (storedH xs k b u) := by
  have e := (r.val k).isSome_eq
  rw [Option.isSome_map] at e
  unfold xput storedH
  rw [e]
  by_cases q : (atKey xs k).isSome = true
  · rw [if_pos q, if_pos q]
    clear e q
    induction r with
    | nil => exact .nil
    | @cons p q ps qs h t ih =>
      rw [List.map_cons, List.map_cons]
      refine .cons ?_ ih
      obtain ⟨h1, h2, h3⟩ := h
      unfold putAt
      by_cases e : p.1 = k
      · rw [if_pos e, if_pos (h1.symm.trans e)]; exact ⟨h1, h2, ry⟩
      · rw [if_neg e, if_neg (fun z => e (h1.trans z))]; exact ⟨h1, h2, h3⟩
  · rw [if_neg q, if_neg q]; exact Paired.snoc r ⟨rfl, rfl, ry⟩
theorem dx_of {P : Program} {w : World} {H : Hp} {h : Heap} {d : Addr} {ks : XRows κ} (ok : HOk P w H h) (D : DX X P w H d ks) : ks.length ≤ sizeLine ∧ (d == sysModules) = false ∧ ∃ xs, XT ks xs ∧ h.DictOfH (tupleKind (X.knd P w)) d xs := by
  obtain ⟨⟨z, y, xs, r, o, es, ep, h1, h2, h3, h4, h5⟩, _⟩ := (show ObjOk P w H h d (dxO X P w d ks) from ok d _ D.at_)
  refine ⟨z, y, xs, r, o, es, ep, h1, h2, h3, h4, fun x hx => ?_, h5⟩
  obtain ⟨i, hi⟩ := List.mem_iff_getElem?.mp hx
  have hl := Paired.length r
  have hi2 := (List.getElem?_eq_some_iff.mp hi).1
  have pg : ∀ {l : XRows κ} {m : List (List κ × Addr × Value)} {i : Nat} {x : List κ × Addr × Value}, XT l m → m[i]? = some x → ∃ p ∈ l, p.1 = x.1 ∧ p.2.1 = x.2.1 := by
    intro l m i x q
    induction q generalizing i with
    | nil => intro e; simp at e
    | @cons p q ps qs hq t ih =>
      intro e
      cases i with
      | zero => simp at e; subst e; exact ⟨p, List.mem_cons_self, hq.1, hq.2.1⟩
      | succ i =>
        obtain ⟨p', m', z⟩ := ih (i := i) (by simpa using e)
        exact ⟨p', List.mem_cons_of_mem _ m', z⟩
  obtain ⟨p, hp, e1, e2⟩ := pg r hi
  have := D.tups p hp
  rw [e1, e2] at this
  exact keyx_of ok this
theorem DX.keep {P : Program} {w : World} {H H' : Hp} {d : Addr} {ks : XRows κ} (D : DX X P w H d ks) (h : H' d = H d) (t : ∀ b xs, H b = some (.tup xs) → H' b = some (.tup xs)) : DX X P w H' d ks := ⟨h.trans D.at_, fun k hk => t _ _ (D.tups k hk)⟩
theorem xput_mem {ks : XRows κ} {k : List κ} {b : Addr} {v : V} : ∀ p ∈ xput ks k b v, (∃ q ∈ ks, q.1 = p.1 ∧ q.2.1 = p.2.1) ∨ (p.1 = k ∧ p.2.1 = b) := fun p hp => by
  unfold xput at hp
  split at hp
  · obtain ⟨q, hq, e⟩ := List.mem_map.mp hp
    refine .inl ⟨q, hq, ?_⟩
    split at e <;> (subst e; exact ⟨rfl, rfl⟩)
  · rcases List.mem_append.mp hp with h | h
    · exact .inl ⟨p, h, rfl, rfl⟩
    · rw [List.mem_singleton.mp h]; exact .inr ⟨rfl, rfl⟩
theorem xput_len (ks : XRows κ) (k : List κ) (b : Addr) (v : V) : (xput ks k b v).length ≤ ks.length + 1 := by
  unfold xput
  split
  · rw [List.length_map]; omega
  · rw [List.length_append]; exact Nat.le_refl _
theorem xval_put_self {ks : XRows κ} {k : List κ} {b : Addr} {v : V} : xval (xput ks k b v) k = some v := by
  unfold xput
  split
  · rename_i h
    induction ks with
    | nil => simp [xval] at h
    | cons p ps ih =>
      by_cases e : p.1 = k
      · simp [xval, e]
      · have e2 : (xval ps k).isSome = true := by simpa [xval, e] using h
        have := ih e2
        simpa [xval, List.find?_cons, e] using this
  · rename_i h
    induction ks with
    | nil => simp [xval]
    | cons p ps ih =>
      by_cases e : p.1 = k
      · simp [xval, e] at h
      · have e2 : ¬ (xval ps k).isSome = true := by simpa [xval, e] using h
        have := ih e2
        simpa [xval, List.find?_cons, e] using this
theorem xval_put_ne {ks : XRows κ} {k k' : List κ} {b : Addr} {v : V} (hn : k' ≠ k) : xval (xput ks k b v) k' = xval ks k' := by
  unfold xput
  split
  · rename_i hh
    clear hh
    induction ks with
    | nil => rfl
    | cons p ps ih =>
      by_cases e : p.1 = k
      · have : ¬ p.1 = k' := fun z => hn (z.symm.trans e)
        simpa [xval, List.find?_cons, e, hn.symm, this] using ih
      · by_cases e2 : p.1 = k'
        · simp [xval, e, e2, hn]
        · simpa [xval, List.find?_cons, e, e2] using ih
  · rename_i hh
    clear hh
    induction ks with
    | nil => simp [xval, hn.symm]
    | cons p ps ih =>
      by_cases e2 : p.1 = k'
      · simp [xval, e2]
      · simpa [xval, List.find?_cons, e2] using ih
section
variable {C : Cx} {pins : List (Addr × Obj)} {σ : L2.St} {H : Hp} {s : Shared} {d b : Addr} {ks : XRows κ} {k : List κ} {A : Around} {E : Value → Shared → Prop}
theorem x_in {Q : Value → Shared → Prop} (hu : A.units + 1 < cLine) (I : Inv C pins σ H s) (D : DX X C.prog C.w H d ks) (eb : H b = some (.tup (k.map X.kv))) (h : ∀ s', Inv C pins σ H s' → Q (.bool (xval ks k).isSome) s') :
    wpAny (model C.prog C.w) A (compareOp .In (.ref b) (.ref d)) Q E s := by
  obtain ⟨z, hd, xs, rel, dd⟩ := dx_of I.hok D
  refine wpAny_in_heap (tupleKind_room_in1 hu) (keyx_of I.hok eb) hd dd ?_
  have q := (rel.val k).isSome_eq
  rw [Option.isSome_map] at q
  rw [← q]
  exact h _ (I.tok _)
theorem x_notIn {Q : Value → Shared → Prop} (hu : A.units + 1 < cLine) (I : Inv C pins σ H s) (D : DX X C.prog C.w H d ks) (eb : H b = some (.tup (k.map X.kv))) (h : ∀ s', Inv C pins σ H s' → Q (.bool (!(xval ks k).isSome)) s') :
    wpAny (model C.prog C.w) A (compareOp .NotIn (.ref b) (.ref d)) Q E s := by
  obtain ⟨z, hd, xs, rel, dd⟩ := dx_of I.hok D
  refine wpAny_notIn_heap (tupleKind_room_in1 hu) (keyx_of I.hok eb) hd dd ?_
  have q := (rel.val k).isSome_eq
  rw [Option.isSome_map] at q
  rw [← q]
  exact h _ (I.tok _)
theorem x_get {v : V} {Q : Value → Shared → Prop} (hu : A.units + 1 < cLine) (I : Inv C pins σ H s) (D : DX X C.prog C.w H d ks) (eb : H b = some (.tup (k.map X.kv))) (l : xval ks k = some v) (h : ∀ w' s', Inv C pins σ H s' → RelV v w' → Q w' s') :
    wpAny (model C.prog C.w) A (getItem (.ref d) (.ref b)) Q E s := by
  obtain ⟨z, hd, xs, rel, dd⟩ := dx_of I.hok D
  obtain ⟨w', hw, rw'⟩ := RelO.some_of (v := v) (o := (atKey xs k).map (·.2)) (by rw [← l]; exact rel.val k)
  obtain ⟨p, hp, hp2⟩ := Option.map_eq_some_iff.mp hw
  refine wpAny_getItem_heap (tupleKind_room_in1 hu) (keyx_of I.hok eb) dd hp ?_
  rw [hp2]
  exact h w' _ (I.tok _) rw'
theorem x_set {v : V} {r : Value} {Q : Unit → Shared → Prop} (hu : A.units + 1 < cLine) (I : Inv C pins σ H s) (D : DX X C.prog C.w H d ks) (eb : H b = some (.tup (k.map X.kv))) (hl : ks.length < sizeLine) (rv : RelV v r)
    (h : ∀ s', Inv C pins σ (upd H d (dxO X C.prog C.w d (xput ks k b v))) s' → Q () s') : wpAny (model C.prog C.w) A (setItem (.ref d) (.ref b) r) Q E s := by
  obtain ⟨z, hd, xs, rel, dd⟩ := dx_of I.hok D
  have hz : xs.length ≤ sizeLine := by rw [← Paired.length rel]; exact z
  have hl2 : (xput ks k b v).length ≤ sizeLine := by have := xput_len ks k b v; omega
  refine wpAny_setItem_heap (hsz := hz) (tupleKind_room_in1 hu) (keyx_of I.hok eb) dd fun h' dd' hs => h _ ?_
  obtain ⟨q, es, ep, hq, h2, h3, h4, _, h5⟩ := dd'
  refine d_write I (by rw [D.at_]; exact True.intro) hs ⟨q, hq⟩ ⟨⟨hl2, hd, _, rel.put k rv, q, es, ep, hq, h2, h3, h4, h5⟩, ⟨q, hq⟩, ?_⟩
  rintro g1 g2 ⟨a1, a2, ys, a3, o, es, ep, a4, a5⟩ keep
  exact ⟨a1, a2, ys, a3, o, es, ep, keep _ a4, a5⟩
theorem dx_typeIs (I : Inv C pins σ H s) (D : DX X C.prog C.w H d ks) : s.TypeIs (.ref d) "dict" := by
  obtain ⟨_, _, xs, _, dd⟩ := dx_of I.hok D
  exact dd.typeIs
theorem dx_new (I : Inv C pins σ H s) {t' : Nat} : Inv C pins σ (upd H s.heap.objs.size (dxO X C.prog C.w s.heap.objs.size [])) { s with heap := s.heap.push { cls := .type "dict", data := .dict #[] }, toks := t' } := by
  refine I.laid (fun _ _ q => Heap.get?_push_of_some _ q) (Nat.le_refl _) ⟨⟨Nat.zero_le _, beq_eq_false_iff_ne.mpr (Ne.symm (Nat.ne_of_lt I.big)), [], .nil, _, #[], 0, Heap.get?_push_size _ rfl, ⟨rfl, rfl, rfl⟩, rfl, rfl, List.nodup_nil⟩, ⟨_, Heap.get?_push_size _ rfl⟩, ?_⟩
  rintro g1 g2 ⟨a1, a2, ys, a3, o, es, ep, a4, a5⟩ keep
  exact ⟨a1, a2, ys, a3, o, es, ep, keep _ a4, a5⟩
end
def tXNew (X : XKind κ) (P : Program) (w : World) : TE := fun _ H Q => ∀ p, H p = none → Q (.ref p) (upd H p (dxO X P w p []))
def tXGet (X : XKind κ) (P : Program) (w : World) (td ty : TE) : TE := fun σ H Q => td σ H fun x H1 => ty σ H1 fun y H2 => ∃ d b ks k v, x = .ref d ∧ y = .ref b ∧ DX X P w H2 d ks ∧ H2 b = some (.tup (k.map X.kv)) ∧ xval ks k = some v ∧ Q v H2
def tXIn (X : XKind κ) (P : Program) (w : World) (ty td : TE) : TE := fun σ H Q => ty σ H fun y H1 => td σ H1 fun x H2 => ∃ d b ks k, x = .ref d ∧ y = .ref b ∧ DX X P w H2 d ks ∧ H2 b = some (.tup (k.map X.kv)) ∧ Q (.bl (xval ks k).isSome) H2
def tXNotIn (X : XKind κ) (P : Program) (w : World) (ty td : TE) : TE := fun σ H Q => ty σ H fun y H1 => td σ H1 fun x H2 => ∃ d b ks k, x = .ref d ∧ y = .ref b ∧ DX X P w H2 d ks ∧ H2 b = some (.tup (k.map X.kv)) ∧ Q (.bl (!(xval ks k).isSome)) H2
def sXPut (X : XKind κ) (P : Program) (w : World) (td ty tv : TE) : TS := fun D σ H => tv σ H fun v H1 => td σ H1 fun x H2 => ty σ H2 fun y H3 => ∃ d b ks k, x = .ref d ∧ y = .ref b ∧ DX X P w H3 d ks ∧ H3 b = some (.tup (k.map X.kv)) ∧ ks.length < sizeLine ∧ D.nx σ (upd H3 d (dxO X P w d (xput ks k b v)))
section
variable {C : Cx} {o i e value : Expr} {pos pos' : Pos} {td ty tv : TE} {P : Program} {w : World}
theorem pe_xnew (hP : C.prog = P) (hw : C.w = w) : PE C (.Dict [] [] pos) (tXNew X P w) := by
  subst hP hw
  exact ⟨fun pins s σ H Q I h => wpAny_Dict_empty ⟨.ref s.heap.objs.size, _, dx_new (X := X) (t' := s.toks) I, rfl, h _ (I.hok.fresh (Nat.le_refl _))⟩⟩
theorem pe_xget (hP : C.prog = P) (hw : C.w = w) (hu : C.A.units + 1 < cLine) (ho : PE C o td) (hi : PE C i ty) (hs : NoSl i) : PE C (.Subscript o i pos) (tXGet X P w td ty) := by
  subst hP hw
  refine ⟨fun pins s σ H Q I h => ?_⟩
  refine subD_of PySem.F.slot_dict_getitem.lookup hs (thn (ho.run pins s σ H _ I h) fun u s1 ⟨x, H1, I1, rx, q1⟩ => thn (hi.run pins s1 σ H1 _ I1 q1) fun iv s2 ⟨y, H2, I2, ry, d, b, ks, k, v, ex, ey, D, eb, l, q2⟩ => ?_)
  subst ex ey
  obtain rfl : u = Value.ref d := rx
  obtain rfl : iv = Value.ref b := ry
  exact ⟨dx_typeIs I2 D, x_get hu I2 D eb l fun w' s3 I3 rw' => ⟨v, H2, I3, rw', q2⟩⟩
theorem pc_xin (hP : C.prog = P) (hw : C.w = w) (hu : C.A.units + 1 < cLine) (hi : PE C i ty) (ho : PE C o td) : PC C .In i o (tXIn X P w ty td) := by
  subst hP hw
  refine ⟨fun pins s σ H Q I h => ?_⟩
  refine thn (hi.run pins s σ H _ I h) fun iv s1 ⟨y, H1, I1, ry, q1⟩ => thn (ho.run pins s1 σ H1 _ I1 q1) fun u s2 ⟨x, H2, I2, rx, d, b, ks, k, ex, ey, D, eb, q2⟩ => ?_
  subst ex ey
  obtain rfl : u = Value.ref d := rx
  obtain rfl : iv = Value.ref b := ry
  exact x_in hu I2 D eb fun s3 I3 => ⟨.bl (xval ks k).isSome, H2, I3, rfl, q2⟩
theorem pc_xnotin (hP : C.prog = P) (hw : C.w = w) (hu : C.A.units + 1 < cLine) (hi : PE C i ty) (ho : PE C o td) : PC C .NotIn i o (tXNotIn X P w ty td) := by
  subst hP hw
  refine ⟨fun pins s σ H Q I h => ?_⟩
  refine thn (hi.run pins s σ H _ I h) fun iv s1 ⟨y, H1, I1, ry, q1⟩ => thn (ho.run pins s1 σ H1 _ I1 q1) fun u s2 ⟨x, H2, I2, rx, d, b, ks, k, ex, ey, D, eb, q2⟩ => ?_
  subst ex ey
  obtain rfl : u = Value.ref d := rx
  obtain rfl : iv = Value.ref b := ry
  exact x_notIn hu I2 D eb fun s3 I3 => ⟨.bl (!(xval ks k).isSome), H2, I3, rfl, q2⟩
theorem ps_xput (hP : C.prog = P) (hw : C.w = w) (hu : C.A.units + 1 < cLine) (ho : PE C o td) (hi : PE C i ty) (hv : PE C value tv) (hs : swapsWith value (some (.Subscript o i pos')) pos.line C.env = pure false) :
    PS C (.Assign [.Subscript o i pos'] value pos) (sXPut X P w td ty tv) := by
  subst hP hw
  refine ⟨fun pins s σ H D I h => ?_⟩
  refine wpAny_Assign_Subscript (thn (hv.run pins s σ H _ I h) fun r s1 ⟨v, H1, I1, rv, q1⟩ => thn (ho.run pins s1 σ H1 _ I1 q1) fun u s2 ⟨x, H2, I2, rx, q2⟩ => thn (hi.run pins s2 σ H2 _ I2 q2) fun iv s3 ⟨y, H3, I3, ry, d, b, ks, k, ex, ey, DD, eb, hl, q3⟩ => ?_) hs
  subst ex ey
  obtain rfl : u = Value.ref d := rx
  obtain rfl : iv = Value.ref b := ry
  exact x_set hu I3 DD eb hl rv fun s4 I4 => ⟨σ, _, I4, q3⟩
end
end
/-! ### {**d, k: v} -/
section
open Sem (wp)
section
variable {prog : Program} {w : World} {κ : Type} [DecidableEq κ] {knd : KeyKind prog w κ} {A : Around} {E : Value → Shared → Prop} {s : Shared}
theorem star_put {d : Addr} {kvs : List (κ × Value)} {k : κ} {key v : Value} {Q : Unit → Shared → Prop} (hkey : knd.is k key = true) (hm : s.heap.DictOf knd d kvs) (hsz : kvs.length ≤ sizeLine)
    (hQ : ∀ h2, h2.DictOf knd d (stored kvs k v) → Heap.SameBut d s.heap h2 → Q () { s with heap := h2 }) : wpAny (model prog w) A (dictPut d (knd.hash k) key v) Q E s := by
  obtain ⟨o, es, ep, ho, hc, hd, hk, hp, hn⟩ := hm
  have hes : es.size ≤ sizeLine := by
    have e1 := hp.length
    have e2 : es.toList.length = es.size := by simp
    omega
  unfold dictPut
  refine wpAny_bind (wpAny_dictFind_of hkey ho hd hk ?_)
  have hidx : (es.findIdx? fun e => knd.is k e.key) = kvs.findIdx? fun kv => decide (kv.1 = k) := by
    rw [← hp.findIdx k]
    obtain ⟨l⟩ := es
    simp
  cases hi : es.findIdx? fun e => knd.is k e.key with
  | some i =>
    have an : (kvs.any fun kv => decide (kv.1 = k)) = true := any_of_findIdx_some (hidx ▸ hi)
    refine wpAny_updateDict ho hd (hQ _ ⟨_, _, ep, Heap.get?_update_self _ ho (Obj.isFreed_of_dict (Obj.data_mapDict hd _)), hc.mapDict _, Obj.data_mapDict hd _, hk.modify _ _, ?_, ?_⟩ (Heap.SameBut.update ..))
    · rw [stored, if_pos an]
      have hl : (es.toList.findIdx? fun e => knd.is k e.key) = some i := by
        rw [← hi]
        obtain ⟨l⟩ := es
        simp
      have z := hp.modify hn hl v
      obtain ⟨l⟩ := es
      simpa using z
    · rw [stored, if_pos an, keys_map_store]
      exact hn
  | none =>
    have hnot : k ∉ kvs.map (·.1) := not_mem_of_findIdx_none (hidx ▸ hi)
    have an : ¬ (kvs.any fun kv => decide (kv.1 = k)) = true := by
      rw [List.any_eq_true]
      rintro ⟨kv, h1, h2⟩
      exact hnot (List.mem_map.mpr ⟨kv, h1, of_decide_eq_true h2⟩)
    refine wpAny_updateDictKeys (hz := hes) ho hd (hQ _ ⟨_, _, ep + 1, Heap.get?_update_self _ ho (Obj.isFreed_of_dict (Obj.data_mapDictKeys hd _)), hc.mapDictKeys _, Obj.data_mapDictKeys hd _, hk.push hkey _, ?_, ?_⟩ (Heap.SameBut.update ..))
    · rw [stored, if_neg an]
      have z := hp.append hkey (knd.hash k) v
      obtain ⟨l⟩ := es
      simpa using z
    · rw [stored, if_neg an, List.map_append, List.nodup_append]
      refine ⟨hn, by simp, fun a ha b hb => ?_⟩
      have hb : b = k := by simpa using hb
      subst hb
      exact fun e => hnot (e ▸ ha)
theorem star_merge {d o : Addr} {kvs more : List (κ × Value)} {Q : Unit → Shared → Prop} (hdo : d ≠ o) (hoS : (o == sysModules) = false) (hd : s.heap.DictOf knd d kvs) (ho : s.heap.DictOf knd o more) (hsz : kvs.length + more.length ≤ sizeLine)
    (hQ : ∀ h2, h2.DictOf knd d (merged kvs more) → Heap.SameBut d s.heap h2 → Q () { s with heap := h2 }) : wpAny (model prog w) A (mergeMapping d (.ref o) false) Q E s := by
  obtain ⟨od, esd, epd, hod, hcd, hdd, hkd, hpd, hnd⟩ := id hd
  obtain ⟨oo, eso, epo, hoo, hco, hdo', hko, hpo, hno⟩ := id ho
  have hlen : more.length = eso.size := by
    rw [← hpo.length]
    simp
  unfold mergeMapping
  refine wpAny_bind (wpAny_isInstance ho.typeIs isSubtype_dict_dict ?_)
  dsimp only
  rw [if_pos rfl]
  refine wpAny_bind (wpAny_specialOf ho.typeIs F.slot_dict_iter.lookup (wpAny_bind (wpAny_pure ?_)))
  rw [show (some (Value.builtin "dict.__iter__") == some (Value.builtin "dict.__iter__")) = true from beq_self_eq_true _]
  dsimp only
  rw [if_neg (by rw [hoS]; exact Bool.false_ne_true)]
  refine wpAny_bind (wpAny_dictEntries hod hdd ?_)
  split
  case' isTrue =>
    refine wpAny_bind (wpAny_dictEntries hoo hdo' ?_)
    refine wpAny_bind ?_
    rw [← Array.forIn_toList]
    refine wpAny_of_eq (a := PUnit.unit) (forIn_yield_id _ fun e he c => ?_) ?_
    · obtain ⟨k, hkey, _⟩ := hko e (Array.mem_toList_iff.mp he)
      have := knd.byValue k _ hkey
      cases hk : e.key with
      | ref a => rw [hk] at this; cases this
      | _ => rfl
  all_goals
    refine wpAny_bind (wpAny_dictEntries hoo hdo' ?_)
    refine wpAny_bind (wpAny_dictEpoch hoo hdo' ?_)
    refine wpAny_bind (wpAny_forIn_list _ (fun rest _ s2 => ∃ h2 i, s2 = { s with heap := h2 } ∧ rest = (List.range eso.size).drop i ∧ i ≤ eso.size ∧ h2.DictOf knd d (merged kvs (more.take i)) ∧ h2.get? o = some oo ∧ Heap.SameBut d s.heap h2) _ ?_ ?_ _ _
      ⟨s.heap, 0, rfl, rfl, Nat.zero_le _, hd, hoo, Heap.SameBut.refl _ _⟩)
    · rintro x rest b s2 ⟨h2, i, rfl, hr, hi, hd2, hoo2, hs2⟩
      have hlt : i < eso.size := by
        rcases Nat.lt_or_ge i eso.size with h | h
        · exact h
        · rw [List.drop_eq_nil_of_le (by rw [List.length_range]; exact h)] at hr
          cases hr
      rw [List.drop_eq_getElem_cons (by rw [List.length_range]; exact hlt)] at hr
      obtain ⟨e1, hrest⟩ := List.cons.inj hr
      rw [List.getElem_range] at e1
      subst e1
      refine wpAny_bind (wpAny_dictEntries hoo2 hdo' ?_)
      rw [Array.getElem?_eq_getElem hlt]
      obtain ⟨⟨k, v⟩, hkv⟩ : ∃ kv, more[x]? = some kv := ⟨more[x]'(by rw [hlen]; exact hlt), List.getElem?_eq_getElem _⟩
      obtain ⟨hkey, hval⟩ := hpo.get? (e := eso[x]) (by simp [hlt]) hkv
      obtain ⟨k2, hkey2, hhash⟩ := hko eso[x] (Array.getElem_mem hlt)
      obtain rfl : k2 = k := knd.inj _ _ _ hkey2 hkey
      show wpAny _ _ (holding [eso[x].key, eso[x].val] (dictPut d eso[x].hash eso[x].key eso[x].val) >>= _) _ _ _
      rw [hhash, hval]
      have hmx : (merged kvs (more.take x)).length ≤ sizeLine := by
        have e1 := merged_length_le kvs (more.take x)
        have e2 : (more.take x).length ≤ more.length := by rw [List.length_take]; omega
        omega
      refine wpAny_bind (wpAny_holding (star_put hkey hd2 hmx fun h3 hd3 hs3 => ?_))
      have hoo3 : h3.get? o = some oo := (hs3.2 o (Ne.symm hdo)).trans hoo2
      refine wpAny_bind (wpAny_dictEpoch hoo3 hdo' ?_)
      rw [if_neg (by simp)]
      exact wpAny_pure ⟨h3, x + 1, rfl, hrest, hlt, by rw [merged_take_succ kvs more x (k2, v) hkv]; exact hd3, hoo3, hs2.trans hs3⟩
    · rintro b s2 ⟨h2, i, rfl, hr, hi, hd2, hoo2, hs2⟩
      have hin : i = eso.size := by
        rcases Nat.lt_or_ge i eso.size with h | h
        · have := congrArg List.length hr
          rw [List.length_drop, List.length_range] at this
          have z : 0 = eso.size - i := this
          omega
        · exact Nat.le_antisymm hi h
      refine wpAny_pure (hQ h2 ?_ hs2)
      rw [hin, ← hlen, List.take_length] at hd2
      exact hd2
end
/-- {**e, k: v}: the new dict at p; the one for k: v at q -/
def tStar (te tk tv : TE) : TE := fun σ H Q => ∀ p, H p = none → te σ (upd H p (.dK [])) fun x H1 => ∃ a kvs, x = .ref a ∧ a ≠ p ∧ H1 p = some (.dK []) ∧ H1 a = some (.dK kvs) ∧ kvs.length < sizeLine ∧
  ∀ q, (upd H1 p (.dK (mergeK [] kvs))) q = none → tPairs [(tk, tv)] σ (upd (upd H1 p (.dK (mergeK [] kvs))) q (.dK [])) fun ps H3 => ∃ k z, ps = [(kV k, z)] ∧ p ≠ q ∧ H3 p = some (.dK (mergeK [] kvs)) ∧ H3 q = some (.dK []) ∧
    Q (.ref p) (upd (upd H3 q (.dK [(k, z)])) p (.dK (putK (mergeK [] kvs) k z)))
theorem pe_star {X : Cx} {e k v : Expr} {pos : Pos} {te tk tv : TE} (he : PE X e te) (hk : PE X k tk) (hv : PE X v tv) : PE X (.Dict [none, some k] [e, v] pos) (tStar te tk tv) := by
  refine ⟨fun pins s σ H Q I h => ?_⟩
  rw [arm_eval_Dict]
  refine wpAny_bind (wpAny_standAt ?_)
  show wpAny _ _ (dictDisplay [(none, do let x ← eval e X.env; standAt pos; pure x), (some (eval k X.env), do let x ← eval v X.env; standAt pos; pure x)]) _ _ s
  unfold dictDisplay
  dsimp only
  rw [List.forIn_cons]
  refine wpAny_bind (wpAny_bind ?_)
  dsimp only
  have hn := I.hok.fresh (Nat.le_refl s.heap.objs.size)
  have I1 := I.laid (a := s.heap.objs.size) (o := .dK []) (h' := s.heap.push { cls := .type "dict", data := .dict #[] }) (t' := s.toks) (fun _ _ q => Heap.get?_push_of_some _ q) (Nat.le_refl _) (dk_empty s.heap I.big)
  refine wpAny_bind (wpAny_of_eq (a := none) rfl ?_)
  dsimp only
  refine wpAny_bind (wpAny_alloc ?_)
  generalize hD : s.heap.objs.size = D at I1 hn ⊢
  refine wpAny_bind (wpAny_holding (wpAny_bind (thn (he.run pins _ σ _ _ I1 (h D hn)) fun u s1 ⟨x, H1, J1, rx, a, kvs, ex, na, hp, ha, hl, q1⟩ => wpAny_bind (wpAny_standAt (wpAny_pure ?_)))))
  subst ex
  obtain rfl : u = Value.ref a := rx
  obtain ⟨z, hd, vs, rel, dd⟩ := dk_of J1.hok ha
  obtain ⟨z0, hd0, vs0, r0, dd0⟩ := dk_of J1.hok hp
  cases r0
  have lm : (mergeK [] kvs).length ≤ kvs.length := by
    have := length_mergeK kvs []
    rw [List.length_nil] at this
    omega
  refine wpAny_bind (wpAny_onRaise (wpAny_tryCatch (wpAny_onRaise (wpAny_holding (star_merge (knd := mixKind X.prog X.w) na.symm hd dd0 dd (by rw [← rel.length, List.length_nil]; omega) fun h2 hd2 hs2 => wpAny_pure ?_)))))
  have J2 : Inv X pins σ (upd H1 D (.dK (mergeK [] kvs))) { s1 with heap := h2 } := d_write (t' := s1.toks) J1 (by rw [hp]; exact True.intro) hs2 (let ⟨q, _, _, hq, _⟩ := hd2; ⟨q, hq⟩) (dk_new (Nat.le_trans lm (Nat.le_of_lt hl)) hd0 (rel.merge .nil) hd2)
  dsimp only
  rw [List.forIn_cons]
  refine wpAny_bind (wpAny_of_eq (a := ForInStep.yield (some D, [(eval k X.env, do let x ← eval v X.env; standAt pos; pure x)])) rfl ?_)
  dsimp only
  rw [List.forIn_nil]
  refine wpAny_pure ?_
  dsimp only
  generalize hs2' : ({ s1 with heap := h2 } : Shared) = s2 at J2 ⊢
  have hq := J2.hok.fresh (Nat.le_refl s2.heap.objs.size)
  have J3 := J2.laid (a := s2.heap.objs.size) (o := .dK []) (h' := s2.heap.push { cls := .type "dict", data := .dict #[] }) (t' := s2.toks) (fun _ _ q => Heap.get?_push_of_some _ q) (Nat.le_refl _) (dk_empty s2.heap J2.big)
  refine wpAny_bind ?_
  show wpAny _ _ (holding [Value.ref D] (subDict [(eval k X.env, do let x ← eval v X.env; standAt pos; pure x)]) >>= _) _ _ _
  refine wpAny_bind (wpAny_holding (wpAny_subDict (knd := mixKind X.prog X.w) (by simp) (thn ((pps_cons (pos := pos) hk hv pps_nil).run pins _ σ _ _ J3 (q1 _ hq)) ?_)))
  generalize s2.heap.objs.size = D2 at *
  rintro ws s3 ⟨ps, H3, J4, rps, kk, z3, eps, nq, hp3, hq3, q3⟩
  subst eps
  obtain ⟨rs, c, rk⟩ := carries_of (P := X.prog) (w := X.w) (kvs := [(kk, z3)]) rps
  obtain ⟨y0, yd, us0, ru, du⟩ := dk_of J4.hok hq3
  cases ru
  refine ⟨rs, c, du, fun h4 hd4 hs4 => ?_⟩
  have J5 : Inv X pins σ (upd H3 D2 (.dK [(kk, z3)])) { s3 with heap := h4, toks := s3.toks + ws.length } := d_write J4 (by rw [hq3]; exact True.intro) hs4 (let ⟨q, _, _, hq, _⟩ := hd4; ⟨q, hq⟩) (dk_new (by show 1 ≤ sizeLine; exact sizeS (by decide)) yd (rk.merge .nil) hd4)
  have hp5 : (upd H3 D2 (.dK [(kk, z3)])) D = some (.dK (mergeK [] kvs)) := by rw [upd_ne nq]; exact hp3
  obtain ⟨x0, xd, us1, ru1, du1⟩ := dk_of J5.hok hp5
  obtain ⟨x2, xd2, us2, ru2, du2⟩ := dk_of J5.hok (upd_same (H := H3) (a := D2) (o := .dK [(kk, z3)]))
  refine wpAny_bind (wpAny_onRaise (wpAny_holding (star_merge (knd := mixKind X.prog X.w) nq xd2 du1 du2 (by rw [← ru1.length, ← ru2.length]; show _ + 1 ≤ _; omega) fun h6 hd6 hs6 => wpAny_pure ?_)))
  have lp := length_putK (mergeK [] kvs) kk z3
  have J6 : Inv X pins σ (upd (upd H3 D2 (.dK [(kk, z3)])) D (.dK (putK (mergeK [] kvs) kk z3))) { s3 with heap := h6, toks := s3.toks + ws.length } := d_write (s := { s3 with heap := h4, toks := s3.toks + ws.length }) (t' := s3.toks + ws.length) J5 (by rw [hp5]; exact True.intro) hs6 (let ⟨q, _, _, hq, _⟩ := hd6; ⟨q, hq⟩) (dk_new (by omega) xd (ru2.merge ru1) hd6)
  exact wpAny_pure ⟨.ref D, _, J6, rfl, q3⟩
end
/-! ### {k: v for .. in .. for .. in .. if ..}, the keys tuples -/
section
open PySem PySem.Spec PyProof.Rows L2
theorem dcT {α : Type} {M : Model} {A : Around} {t : Sem α} {Q Q' : α → Shared → Prop} {E : Value → Shared → Prop} {s : Shared} (h : wpAny M A t Q (fun _ _ => False) s) (k : ∀ a s, Q a s → Q' a s) : wpAny M A t Q' E s := thnF h k
theorem dx_dictSet {X : Cx} {pins : List (Addr × Obj)} {σ : L2.St} {H H' : Hp} {s : Shared} {E : Value → Shared → Prop} {D : Addr} {y v : V} {u r : Value} {Q : Unit → Shared → Prop} (hu : X.A.units + 1 < cLine) (I : Inv X pins σ H s) (g : DPut H D y v H')
    (ry : RelV y u) (rv : RelV v r) (h : ∀ s', Inv X pins σ H' s' → Q () s') : wpAny (model X.prog X.w) X.A (dictSet D u r) Q E s := by
  rcases g with ⟨kvs, k, e, ey, l, eH⟩ | ⟨kvs, k, b, e, ey, eb, l, eH⟩
  · subst ey eH
    exact d_dictSet I e l ry rv h
  · subst ey eH
    cases (show u = Value.ref b from ry)
    obtain ⟨z, hd, xs, rel, dd⟩ := dt_of I.hok e
    have hz : xs.length ≤ sizeLine := by rw [← Paired.length rel]; exact z
    have hl : (putK kvs k v).length ≤ sizeLine := by have := length_putK kvs k v; omega
    refine wpAny_dictSet_heap (knd := tupleKind (mixKind X.prog X.w)) (hsz := hz) (show X.A.units < cLine by omega) (key_of I.hok eb) dd fun h2 dd2 hs => h _ ?_
    obtain ⟨q, es, ep, hq, h2, h3, h4, _, h5⟩ := dd2
    refine d_write I (by rw [e]; exact True.intro) hs ⟨q, hq⟩ ⟨hl, hd, _, (rel.put k eb rv).keeps fun c ys ec => ?_, q, es, ep, hq, h2, h3, h4, h5⟩
    rw [upd_ne (ne_of ec e fun z => nomatch z)]
    exact ec
theorem dcTurn2_out (kx vx t0 i0 t1 i1 : Expr) (ifs0 ifs1 : List Expr) (scope : Scope) (pos : Pos) (it : Value) (D : Addr) (env : Env) :
    compTurn (.DictComp kx vx [⟨t0, i0, ifs0, 0⟩, ⟨t1, i1, ifs1, 0⟩] scope pos) 0 it (.ref D) env = (do
      standAt i0.pos
      match ← pyNext it with
      | none => pure (.done .next)
      | some v =>
        letOwnedTupleGo t0 it v
        assign t0 env v
        let mut ok := true
        for c in ifs0 do
          if ok then ok ← isTrue c env (eval c env)
        if ok then
          let x ← eval i1 env
          standAt i1.pos
          let x ← foldedSetIterable i1 env x
          let _ ← runOwn (.compStart (.DictComp kx vx [⟨t0, i0, ifs0, 0⟩, ⟨t1, i1, ifs1, 0⟩] scope pos) 1 (← holding [x] (pyIter x)) (.ref D) env) env
        again (.compLoop (.DictComp kx vx [⟨t0, i0, ifs0, 0⟩, ⟨t1, i1, ifs1, 0⟩] scope pos) 0 it (.ref D) env)) := by rfl
theorem dcTurn2_in (kx vx t0 i0 t1 i1 : Expr) (ifs0 ifs1 : List Expr) (scope : Scope) (pos : Pos) (it : Value) (D : Addr) (env : Env) :
    compTurn (.DictComp kx vx [⟨t0, i0, ifs0, 0⟩, ⟨t1, i1, ifs1, 0⟩] scope pos) 1 it (.ref D) env = (do
      standAt i1.pos
      match ← pyNext it with
      | none => pure (.done .next)
      | some v =>
        letOwnedTupleGo t1 it v
        assign t1 env v
        let mut ok := true
        for c in ifs1 do
          if ok then ok ← isTrue c env (eval c env)
        if ok then
          (do
            let kv ← eval kx env
            let vv ← holding [kv] (eval vx env)
            standAt { kx.pos with endLine := vx.pos.endLine, endCol := vx.pos.endCol }
            holding [kv, vv] (dictSet D kv vv))
        again (.compLoop (.DictComp kx vx [⟨t0, i0, ifs0, 0⟩, ⟨t1, i1, ifs1, 0⟩] scope pos) 1 it (.ref D) env)) := by rfl

section
variable {prog : Program} {w : World} {A : Around} {R : Result → Shared → Prop} {s : Shared} {kx vx t0 i0 t1 i1 : Expr} {ifs0 ifs1 : List Expr} {scope : Scope} {pos : Pos} {it : Value} {D : Addr} {env : Env}
/-- the loopA of the first clause -/
theorem dcLoop2_out (hs : ∀ x, foldedSetIterable i1 env x = pure x) (I : Nat → Shared → Prop)
    (turn : ∀ n s, I n s → wpAny (model prog w) A (pyNext it) (fun r s₁ => match r with
      | none => R (.ok .next) s₁
      | some v => wpAny (model prog w) A (letOwnedTupleGo t0 it v) (fun _ s₁' => wpAny (model prog w) A (assign t0 env v) (fun _ s₂ =>
          wpAny (model prog w) A (forIn ifs0 true fun c r => if r = true then do let ok ← isTrue c env (eval c env); pure (ForInStep.yield ok) else pure (ForInStep.yield r)) (fun ok s₃ =>
            if ok = true then wpAny (model prog w) A (eval i1 env) (fun x s₄ => wpAny (model prog w) A (pyIter x) (fun it1 s₅ =>
              codeAny (model prog w) A (.compStart (.DictComp kx vx [⟨t0, i0, ifs0, 0⟩, ⟨t1, i1, ifs1, 0⟩] scope pos) 1 it1 (.ref D) env) (fun r s' => match r with
                | .ok _ => ∃ m, m < n ∧ I m s'
                | .error _ => False) s₅) (notedBy (model prog w) A env fun e s' => R (.error e) s') s₄) (notedBy (model prog w) A env fun e s' => R (.error e) s') s₃
            else ∃ m, m < n ∧ I m s₃) (notedBy (model prog w) A env fun e s' => R (.error e) s') s₂) (notedBy (model prog w) A env fun e s' => R (.error e) s') s₁') (notedBy (model prog w) A env fun e s' => R (.error e) s') s₁) (notedBy (model prog w) A env fun e s' => R (.error e) s') s)
    (n : Nat) (h : I n s) :
    codeAny (model prog w) A (.compLoop (.DictComp kx vx [⟨t0, i0, ifs0, 0⟩, ⟨t1, i1, ifs1, 0⟩] scope pos) 0 it (.ref D) env) R s := by
  refine codeAny_loop rfl I (fun n s hI => ?_) n h
  show wpAny _ A ((compTurn (.DictComp kx vx [⟨t0, i0, ifs0, 0⟩, ⟨t1, i1, ifs1, 0⟩] scope pos) 0 it (.ref D) env).onRaise (fun x => do noteFrame x env; theTreesLotGoes x)) _ _ s
  refine wpAny_noted ?_
  rw [dcTurn2_out]
  refine wpAny_bind (wpAny_standAt (wpAny_bind (wpAny_mono (turn n s hI) (fun r s₁ h₁ => ?_) fun _ _ hp' => hp')))
  cases r with
  | none => exact wpAny_pure h₁
  | some v =>
    refine wpAny_bind (wpAny_mono h₁ (fun _ s₁' h₁' => ?_) fun _ _ hp' => hp')
    refine wpAny_bind (wpAny_mono h₁' (fun _ s₂ h₂ => wpAny_bind (wpAny_mono h₂ (fun ok s₃ h₃ => ?_) fun _ _ hp' => hp')) fun _ _ hp' => hp')
    cases ok with
    | false => exact wpAny_pure ⟨rfl, h₃⟩
    | true =>
      refine wpAny_bind (wpAny_mono h₃ (fun x s₄ h₄ => ?_) fun _ _ hp' => hp')
      refine wpAny_bind (wpAny_standAt (wpAny_bind (wpAny_of_eq (hs x) (wpAny_bind (wpAny_holding (wpAny_mono h₄ (fun it1 s₅ h₅ => ?_) fun _ _ hp' => hp'))))))
      refine wpAny_bind (wpAny_runOwn ?_)
      rw [Around.mark_none]
      refine codeAny_mono h₅ fun r s' hr => ?_
      cases r with
      | ok f =>
        first
          | exact wpAny_pure ⟨rfl, hr⟩
          | exact wpAny_bind (wpAny_pure (wpAny_pure ⟨rfl, hr⟩))
      | error e => exact hr.elim
/-- the loopA of the second -/
theorem dcLoop2_in (I : Nat → Shared → Prop)
    (turn : ∀ n s, I n s → wpAny (model prog w) A (pyNext it) (fun r s₁ => match r with
      | none => R (.ok .next) s₁
      | some v => wpAny (model prog w) A (letOwnedTupleGo t1 it v) (fun _ s₁' => wpAny (model prog w) A (assign t1 env v) (fun _ s₂ =>
          wpAny (model prog w) A (forIn ifs1 true fun c r => if r = true then do let ok ← isTrue c env (eval c env); pure (ForInStep.yield ok) else pure (ForInStep.yield r)) (fun ok s₃ =>
            if ok = true then wpAny (model prog w) A (eval kx env) (fun kv s₄ => wpAny (model prog w) A (eval vx env) (fun vv s₅ =>
              wpAny (model prog w) A (dictSet D kv vv) (fun _ s₆ => ∃ m, m < n ∧ I m s₆) (notedBy (model prog w) A env fun e s' => R (.error e) s') s₅) (notedBy (model prog w) A env fun e s' => R (.error e) s') s₄) (notedBy (model prog w) A env fun e s' => R (.error e) s') s₃
            else ∃ m, m < n ∧ I m s₃) (notedBy (model prog w) A env fun e s' => R (.error e) s') s₂) (notedBy (model prog w) A env fun e s' => R (.error e) s') s₁') (notedBy (model prog w) A env fun e s' => R (.error e) s') s₁) (notedBy (model prog w) A env fun e s' => R (.error e) s') s)
    (n : Nat) (h : I n s) :
    codeAny (model prog w) A (.compLoop (.DictComp kx vx [⟨t0, i0, ifs0, 0⟩, ⟨t1, i1, ifs1, 0⟩] scope pos) 1 it (.ref D) env) R s := by
  refine codeAny_loop rfl I (fun n s hI => ?_) n h
  show wpAny _ A ((compTurn (.DictComp kx vx [⟨t0, i0, ifs0, 0⟩, ⟨t1, i1, ifs1, 0⟩] scope pos) 1 it (.ref D) env).onRaise (fun x => do noteFrame x env; theTreesLotGoes x)) _ _ s
  refine wpAny_noted ?_
  rw [dcTurn2_in]
  refine wpAny_bind (wpAny_standAt (wpAny_bind (wpAny_mono (turn n s hI) (fun r s₁ h₁ => ?_) fun _ _ hp' => hp')))
  cases r with
  | none => exact wpAny_pure h₁
  | some v =>
    refine wpAny_bind (wpAny_mono h₁ (fun _ s₁' h₁' => ?_) fun _ _ hp' => hp')
    refine wpAny_bind (wpAny_mono h₁' (fun _ s₂ h₂ => wpAny_bind (wpAny_mono h₂ (fun ok s₃ h₃ => ?_) fun _ _ hp' => hp')) fun _ _ hp' => hp')
    cases ok with
    | false => exact wpAny_pure ⟨rfl, h₃⟩
    | true =>
      exact wpAny_bind (wpAny_bind (wpAny_mono h₃ (fun kv s₄ h₄ => wpAny_bind (wpAny_holding (wpAny_mono h₄ (fun vv s₅ h₅ => wpAny_bind (wpAny_standAt (wpAny_holding (wpAny_mono h₅ (fun _ s₆ h₆ => wpAny_pure ⟨rfl, h₆⟩) fun _ _ hp' => hp')))) fun _ _ hp' => hp'))) fun _ _ hp' => hp'))
/-- the second clause's start -/
theorem dcStart1_ok (h0 : codeAny (model prog w) A (.compLoop (.DictComp kx vx [⟨t0, i0, ifs0, 0⟩, ⟨t1, i1, ifs1, 0⟩] scope pos) 1 it (.ref D) env) R s)
    (h : wpAny (model prog w) A (pyIter it) (fun it' s' => codeAny (model prog w) A (.compLoop (.DictComp kx vx [⟨t0, i0, ifs0, 0⟩, ⟨t1, i1, ifs1, 0⟩] scope pos) 1 it' (.ref D) env) R s')
      (notedBy (model prog w) A env fun x s' => R (.error x) s') s) :
    codeAny (model prog w) A (.compStart (.DictComp kx vx [⟨t0, i0, ifs0, 0⟩, ⟨t1, i1, ifs1, 0⟩] scope pos) 1 it (.ref D) env) R s := by
  refine codeAny_of_tree ?_
  show wpAny _ _ ((compStart (.DictComp kx vx [⟨t0, i0, ifs0, 0⟩, ⟨t1, i1, ifs1, 0⟩] scope pos) 1 it (.ref D) env).onRaise (fun x => do noteFrame x env; standAt theWindowsPlace)) _ _ s
  refine wpAny_notedAt ?_
  unfold compStart
  show wpAny _ _ (ask >>= _) _ _ s
  refine wpAny_bind (wpAny_askSetting (wpAny_ite ?_))
  split
  · first
      | exact wpAny_bind (wpAny_pure (wpAny_pure (And.intro rfl h0)))
      | exact wpAny_pure (And.intro rfl h0)
  · first
      | exact wpAny_bind (wpAny_rule (wpAny_bind (wpAny_standAt (wpAny_bind (wpAny_mono h (fun it' s' hp' => wpAny_pure (And.intro rfl hp')) fun _ _ x => x)))))
      | (refine wpAny_bind (wpAny_rule ?_); show wpAny _ _ (standAt i1.pos >>= _) _ _ s; exact wpAny_bind (wpAny_standAt (wpAny_bind (wpAny_mono h (fun it' s' hp' => wpAny_pure (And.intro rfl hp')) fun _ _ x => x))))
end

section
variable {X : Cx}
/-- [elt for tg in iter if .. for tg1 in iter1 if ..]: behind the first clause's store and tests the second source's own loopA, from which Nx is reached. vs: the block's names; vs1: those of the second target -/
def tDc2 (wi : TI) (g : TG) (tt : TT) (wi1 : TI) (g1 : TG) (tt1 : TT) (tk tv : TE) (vs vs1 : List Nat) : TE := fun σ H Q => wi σ H fun J G1 => ∀ D, G1 D = none → ∃ W : Nat → Nat → Hp → Prop, (∃ m, W 0 m (upd G1 D (.dT []))) ∧ ∀ i m H, W i m H →
  (J.stop i H ∧ Q (.ref D) H) ∨ (J.go i H ∧ ∃ Nx : Hp → Prop, (∀ H', Nx H' → ∃ mm, mm < m ∧ W (i + 1) mm H') ∧ ∀ x H', J.yld i H x H' → g x (wipe σ vs) H' fun σ2 G2 => wipe σ2 vs = wipe σ vs ∧ tt σ2 G2 fun b G3 =>
    if b = true then wi1 σ2 G3 fun J1 G4 => ∃ W1 : Nat → Nat → Hp → Prop, (∃ m, W1 0 m G4) ∧ ∀ j k H, W1 j k H →
      (J1.stop j H ∧ Nx H) ∨ (J1.go j H ∧ ∃ Nx1 : Hp → Prop, (∀ H', Nx1 H' → ∃ k', k' < k ∧ W1 (j + 1) k' H') ∧ ∀ x H', J1.yld j H x H' → g1 x (wipe σ2 vs1) H' fun σ3 G5 => wipe σ3 vs1 = wipe σ2 vs1 ∧ tt1 σ3 G5 fun b G6 =>
        if b = true then tk σ3 G6 fun y G7 => tv σ3 G7 fun z G8 => ∃ G9, DPut G8 D y z G9 ∧ Nx1 G9 else Nx1 G6)
    else Nx G3)
theorem dc2_core {pins : List (Addr × Obj)} {s : Shared} {σ : L2.St} {H : Hp} {Q : VK} {kx vx tg iter tg1 iter1 : Expr} {ifs ifs1 : List Expr} {scope : Scope} {own : List (Str × Nat)} {vs1 : List Nat} {pos pos' : Pos} {wi wi1 : TI} {g g1 : TG} {tt tt1 : TT} {tk tv : TE} {use : Option (Value → Sem Unit)} {Qf : Value → Shared → Prop}
    (hu : X.A.units + 1 < cLine) (hc : X.calm = true) (hN : X.N.Nodup) (I : Inv X pins σ H s) (hi : PI X tg iter wi) (ok : BlkOk X.N X.env.scope scope own) (hv : ∀ i ∈ vs1, i ∈ own.map (·.2))
    (hg : ∀ (s : Shared) (H : Hp) (C : Addr) (cl : List (Str × Addr)) (fp : List Addr), PG (X.blk s H scope (compEnvC scope cl C X.env) fp) tg g) (ht : ∀ (s : Shared) (H : Hp) (C : Addr) (cl : List (Str × Addr)) (fp : List Addr), PTs (X.blk s H scope (compEnvC scope cl C X.env) fp) ifs tt)
    (hk : ∀ (s : Shared) (H : Hp) (C : Addr) (cl : List (Str × Addr)) (fp : List Addr), PE (X.blk s H scope (compEnvC scope cl C X.env) fp) kx tk) (he : ∀ (s : Shared) (H : Hp) (C : Addr) (cl : List (Str × Addr)) (fp : List Addr), PE (X.blk s H scope (compEnvC scope cl C X.env) fp) vx tv) (hs : ∀ x, foldedSetIterable iter X.env x = pure x)
    (hi1 : ∀ (s : Shared) (H : Hp) (C : Addr) (cl : List (Str × Addr)) (fp : List Addr), PI (X.blk s H scope (compEnvC scope cl C X.env) fp) tg1 iter1 wi1)
    (hg1 : ∀ (s : Shared) (H : Hp) (C : Addr) (cl : List (Str × Addr)) (fp : List Addr), PG (X.blk s H scope (compEnvC scope cl C X.env) fp) tg1 g1)
    (ht1 : ∀ (s : Shared) (H : Hp) (C : Addr) (cl : List (Str × Addr)) (fp : List Addr), PTs (X.blk s H scope (compEnvC scope cl C X.env) fp) ifs1 tt1)
    (hs1 : ∀ env x, foldedSetIterable iter1 env x = pure x)
    (h : tDc2 wi g tt wi1 g1 tt1 tk tv (own.map (·.2)) vs1 σ H Q)
    (hRR : ∀ D C s' m H', Inv X pins σ H' s' → Q (.ref D) H' → s'.heap.Ns C m → FpOk X pins H' C → compPost (model X.prog X.w) X.A X.xe use Qf (.ref D) C (.ok .next) s') :
    wpAny (model X.prog X.w) X.A (comprehension (.DictComp kx vx [⟨tg, iter, ifs, 0⟩, ⟨tg1, iter1, ifs1, 0⟩] scope pos) scope X.env pos' newDict false (eval iter X.env) use) Qf X.xe s := by
  have hfr : ∀ y ∈ scope.names, y.2 = .free → ∃ c, X.env.cells.lookup y.1 = some c := fun y hy e => by
    rcases ok.free y hy e with k | k
    · exact I.ok.has _ (.inl k)
    · exact I.ok.has _ (.inr k)
  refine wpAny_comprehension_free (use := use) rfl hs (closure_ok hfr) ok.kind (fun y hy e => by rw [ok.uniq y hy, e])
    (thn (hi.run pins s σ H _ I h) fun xv t1 hx => thn hx fun itv t2 h2 => ?_)
  obtain ⟨it, fp, tn, J, G2, e, J2, T, st2, f2, q⟩ := h2
  subst e
  refine wpAny_newObj_type (newEnv_comp ?_)
  generalize hD : t2.heap.objs.size = D
  have hDz : G2 D = none := J2.hok.fresh (Nat.le_of_eq hD)
  obtain ⟨W, ⟨m0, w0⟩, turn⟩ := q D hDz
  -- the new list
  generalize hs3 : ({ t2 with heap := t2.heap.push { cls := .type "dict", data := .dict #[] } } : Shared) = t3
  have J3 : Inv X pins σ (upd G2 D (.dT [])) t3 := by
    rw [← hs3]
    refine J2.laid (t' := t2.toks) (fun b o e => Heap.get?_push_of_some _ e) (Nat.le_of_eq hD) ?_
    rw [← hD]
    exact dt_empty t2.heap J2.big
  have h3 : t3.heap = t2.heap.push { cls := .type "dict", data := .dict #[] } := by rw [← hs3]
  have szz : ∀ b ∈ fp, b < t2.heap.objs.size := fun b hb => by
    obtain ⟨o, e, _⟩ := T.obj _ _ st2 b hb
    exact Heap.lt_size e
  have g3 : ∀ b ∈ fp, FpOk X pins (upd G2 D (.dT [])) b ∧ b < t3.heap.objs.size := fun b hb => by
    have hlt := szz b hb
    refine ⟨⟨?_, (f2 b hb).2⟩, by rw [h3, Heap.size_push]; exact Nat.lt_succ_of_lt hlt⟩
    rw [upd_ne (by rw [← hD]; exact Nat.ne_of_lt hlt)]
    exact (f2 b hb).1
  have at3 : tn 0 t3.heap := T.keep _ _ _ st2 fun b _ o e => by rw [h3]; exact Heap.get?_push_of_some _ e
  have J4 := block_start J3 ok hN g3
  have pg := hg t3 (upd G2 D (.dT [])) t3.heap.objs.size (cellsFrom (t3.heap.objs.size + 1) scope.names (cloFrom X.env.cells scope.names [])) fp
  have pt := ht t3 (upd G2 D (.dT [])) t3.heap.objs.size (cellsFrom (t3.heap.objs.size + 1) scope.names (cloFrom X.env.cells scope.names [])) fp
  have pk := hk t3 (upd G2 D (.dT [])) t3.heap.objs.size (cellsFrom (t3.heap.objs.size + 1) scope.names (cloFrom X.env.cells scope.names [])) fp
  have pe := he t3 (upd G2 D (.dT [])) t3.heap.objs.size (cellsFrom (t3.heap.objs.size + 1) scope.names (cloFrom X.env.cells scope.names [])) fp
  have pi1 := hi1 t3 (upd G2 D (.dT [])) t3.heap.objs.size (cellsFrom (t3.heap.objs.size + 1) scope.names (cloFrom X.env.cells scope.names [])) fp
  have pg1 := hg1 t3 (upd G2 D (.dT [])) t3.heap.objs.size (cellsFrom (t3.heap.objs.size + 1) scope.names (cloFrom X.env.cells scope.names [])) fp
  have pt1 := ht1 t3 (upd G2 D (.dT [])) t3.heap.objs.size (cellsFrom (t3.heap.objs.size + 1) scope.names (cloFrom X.env.cells scope.names [])) fp
  show codeAny _ _ (.compStart (.DictComp kx vx [⟨tg, iter, ifs, 0⟩, ⟨tg1, iter1, ifs1, 0⟩] scope pos) 0 (.ref it) (.ref D) (compEnvC scope (cellsFrom (t3.heap.objs.size + 1) scope.names (cloFrom X.env.cells scope.names [])) t3.heap.objs.size X.env)) (compPost (model X.prog X.w) X.A X.xe use Qf (.ref D) t3.heap.objs.size) { t3 with heap := pushCells (t3.heap.push { cls := .type "dict", data := .dict #[] }) scope.names }
  have nfp : ∀ b ∈ fp, (upd G2 D (.dT [])) b = none := fun b hb => (g3 b hb).1.1
  generalize hcE : compEnvC scope (cellsFrom (t3.heap.objs.size + 1) scope.names (cloFrom X.env.cells scope.names [])) t3.heap.objs.size X.env = ce at J4 pg pt pk pe pi1 pg1 pt1 ⊢
  have cL : ce.locals = t3.heap.objs.size := by subst hcE; rfl
  generalize hH3 : upd G2 D (.dT []) = G3 at J3 J4 pg pt pk pe pi1 pg1 pt1 w0 nfp g3
  generalize hs4 : ({ t3 with heap := pushCells (t3.heap.push { cls := .type "dict", data := .dict #[] }) scope.names } : Shared) = t4 at J4 ⊢
  have at4 : tn 0 t4.heap := T.keep _ _ _ at3 fun b _ o e => by rw [← hs4]; exact pushCells_keeps _ _ _ _ (Heap.get?_push_of_some _ e)
  have stat : ∀ {σ' : L2.St} {H' : Hp} {s' : Shared}, Inv (X.blk t3 G3 scope ce fp) [] σ' H' s' → (∀ b ∈ fp, H' b = none) → ∀ b ∈ fp, FpOk (X.blk t3 G3 scope ce fp) [] H' b := fun {σ' H' s'} Jp hn b hb =>
    ⟨hn b hb, (Jp.ok.exf b hb).1, Jp.ok.exfs b hb, .inl hb, fun x c e => (Jp.ok.exf b hb).2 x c e, fun p hp => absurd (show p ∈ ([] : List (Addr × Obj)) ++ [] from hp) (by simp)⟩
  have loopA : codeAny (model X.prog X.w) X.A (.compLoop (.DictComp kx vx [⟨tg, iter, ifs, 0⟩, ⟨tg1, iter1, ifs1, 0⟩] scope pos) 0 (.ref it) (.ref D) ce) (compPost (model X.prog X.w) X.A X.xe use Qf (.ref D) t3.heap.objs.size) t4 := by
    refine dcLoop2_out (hs1 ce) (fun n s' => ∃ i H', Inv (X.blk t3 G3 scope ce fp) [] (wipe σ (own.map (·.2))) H' s' ∧ tn i s'.heap ∧ (∀ b ∈ fp, H' b = none) ∧ W i n H') ?_ m0 ⟨0, G3, J4, at4, nfp, w0⟩
    rintro n t5 ⟨i, G5, J5, st5, n5, w5⟩
    rcases turn i n G5 w5 with ⟨stop, qQ⟩ | ⟨go, Nx, hNX, stp⟩
    · have tdd := T.done (X.blk t3 G3 scope ce fp) rfl rfl rfl hc i [] t5 _ G5 (fun _ _ => False) J5 (stat J5 n5) st5 stop
      refine dcT tdd fun r t6 ⟨hr, J6⟩ => ?_
      subst hr
      -- back in the def's context
      have J7 : Inv X pins σ G5 t6 := J3.call' (ch := fp) J6.os J6.base J6.hok J6.bare fun b hb => ⟨(g3 b hb).1.2.2.2.1, (g3 b hb).1.2.1, (g3 b hb).1.2.2.2.2.1, (g3 b hb).1.2.2.2.2.2⟩
      have nCC : G5 t3.heap.objs.size = none := by
        have z : G5 ce.locals = none := J6.free
        rw [cL] at z
        exact z
      obtain ⟨m, hn, _⟩ := J6.loc
      have hn : t6.heap.Ns ce.locals m := hn
      rw [cL] at hn
      exact hRR D t3.heap.objs.size t6 m G5 J7 qQ hn (J3.fpOk (Nat.le_refl _) nCC)
    · have tii := T.item (X.blk t3 G3 scope ce fp) rfl rfl rfl hc i [] t5 _ G5 (fun _ _ => False) J5 (stat J5 n5) st5 go
      refine dcT tii fun r t6 ⟨u, hr, h6⟩ => ?_
      subst hr
      refine dcT h6 fun _ t7 ⟨x, G7, J7, r7, y7, st7, n7⟩ => ?_
      have J7' := J7.pinned (stat J7 n7) (T.obj _ _ st7)
      refine dcT (pg.run _ t7 _ G7 x u _ J7' r7 (stp x G7 y7)) fun _ t8 ⟨σ8, G8, J8, hw8, q8⟩ => ?_
      refine dcT (pt.run _ t8 σ8 G8 _ J8 q8) fun b t9 ⟨G9, J9, q9⟩ => ?_
      -- the turn's end, from any slots that know what the block knew at its start
      have fin : ∀ {σ9 : L2.St} {s' : Shared} {H' : Hp}, Inv (X.blk t3 G3 scope ce fp) ([] ++ pinsAt fp t7.heap) σ9 H' s' → (wipe σ (own.map (·.2))).length = σ9.length → (∀ (j : Nat) v, (wipe σ (own.map (·.2)))[j]? = some (some v) → σ9[j]? = some (some v)) → Nx H' →
          ∃ m, m < n ∧ ∃ i H', Inv (X.blk t3 G3 scope ce fp) [] (wipe σ (own.map (·.2))) H' s' ∧ tn i s'.heap ∧ (∀ b ∈ fp, H' b = none) ∧ W i m H' := fun {σ9 s' H'} Jp hl hk nx => by
        obtain ⟨mm, hm, ww⟩ := hNX H' nx
        have pnn : ∀ b ∈ fp, ∀ o, t7.heap.get? b = some o → s'.heap.get? b = some o ∧ H' b = none := fun b hb o e =>
          let z := Jp.pin (b, o) (List.mem_append_right _ (List.mem_append_right _ (mem_pinsAt hb e)))
          ⟨z.1, z.2.1⟩
        refine ⟨mm, hm, i + 1, H', (Jp.unpinned (pins := [])).weak hl hk, T.keep _ _ _ st7 fun b hb o e => (pnn b hb o e).1, fun b hb => ?_, ww⟩
        obtain ⟨o, e, _⟩ := T.obj _ _ st7 b hb
        exact (pnn b hb o e).2
      have hl8 : (wipe σ (own.map (·.2))).length = σ8.length := by rw [← hw8, wipe_length]
      have hk8 : ∀ (j : Nat) v, (wipe σ (own.map (·.2)))[j]? = some (some v) → σ8[j]? = some (some v) := fun j v e => by
        rw [← hw8] at e
        exact (wipe_some e).1
      have hk9 : ∀ (j : Nat) v, (wipe σ (own.map (·.2)))[j]? = some (some v) → (wipe σ8 vs1)[j]? = some (some v) := fun j v e => by
        rw [← hw8] at e
        obtain ⟨e1, e2⟩ := wipe_some e
        rw [wipe_out fun z => e2 (hv j z)]
        exact e1
      cases b with
      | false =>
        simp only [Bool.false_eq_true, if_false] at q9 ⊢
        exact fin J9 hl8 hk8 q9
      | true =>
        simp only [if_true] at q9 ⊢
        refine dcT (pi1.run _ t9 σ8 G9 _ J9 q9) fun xv t10 hx => dcT hx fun itv t11 h11 => ?_
        obtain ⟨it1, fp1, tn1, J1, G11, e1, J11, T1, st11, f11, W1, ⟨m1, w1⟩, turn1⟩ := h11
        subst e1
        -- the inner loopA
        have stat1 : ∀ {H' : Hp}, (∀ b ∈ fp1, H' b = none) → ∀ b ∈ fp1, FpOk (X.blk t3 G3 scope ce fp) ([] ++ pinsAt fp t7.heap) H' b := fun hn b hb => ⟨hn b hb, (f11 b hb).2⟩
        have loopB : codeAny (model X.prog X.w) X.A (.compLoop (.DictComp kx vx [⟨tg, iter, ifs, 0⟩, ⟨tg1, iter1, ifs1, 0⟩] scope pos) 1 (.ref it1) (.ref D) ce)
            (fun r s' => match r with
              | .ok _ => ∃ m, m < n ∧ ∃ i H', Inv (X.blk t3 G3 scope ce fp) [] (wipe σ (own.map (·.2))) H' s' ∧ tn i s'.heap ∧ (∀ b ∈ fp, H' b = none) ∧ W i m H'
              | .error _ => False) t11 := by
          refine dcLoop2_in (fun k s' => ∃ j H', Inv (X.blk t3 G3 scope ce fp) ([] ++ pinsAt fp t7.heap) (wipe σ8 vs1) H' s' ∧ tn1 j s'.heap ∧ (∀ b ∈ fp1, H' b = none) ∧ W1 j k H') ?_ m1 ⟨0, G11, J11.weak (wipe_length _ _) (fun j v e => (wipe_some e).1), st11, fun b hb => (f11 b hb).1, w1⟩
          rintro k t12 ⟨j, G12, J12, st12, n12, w12⟩
          rcases turn1 j k G12 w12 with ⟨stop1, nx1⟩ | ⟨go1, Nx1, hNx1, step1⟩
          · refine dcT (T1.done (X.blk t3 G3 scope ce fp) rfl rfl rfl hc j _ t12 (wipe σ8 vs1) G12 (fun _ _ => False) J12 (stat1 n12) st12 stop1) fun r t13 ⟨hr, J13⟩ => ?_
            subst hr
            exact fin J13 (hl8.trans (wipe_length σ8 vs1).symm) hk9 nx1
          · refine dcT (T1.item (X.blk t3 G3 scope ce fp) rfl rfl rfl hc j _ t12 (wipe σ8 vs1) G12 (fun _ _ => False) J12 (stat1 n12) st12 go1) fun r t13 ⟨u1, hr, h13⟩ => ?_
            subst hr
            refine dcT h13 fun _ t14 ⟨x1, G14, J14, r14, y14, st14, n14⟩ => ?_
            have J14' := J14.pinned (stat1 n14) (T1.obj _ _ st14)
            refine dcT (pg1.run _ t14 (wipe σ8 vs1) G14 x1 u1 _ J14' r14 (step1 x1 G14 y14)) fun _ t15 ⟨σ15, G15, J15, hw15, q15⟩ => ?_
            refine dcT (pt1.run _ t15 σ15 G15 _ J15 q15) fun b1 t16 ⟨G16, J16, q16⟩ => ?_
            have fin1 : ∀ {s' : Shared} {H' : Hp}, Inv (X.blk t3 G3 scope ce fp) (([] ++ pinsAt fp t7.heap) ++ pinsAt fp1 t14.heap) σ15 H' s' → Nx1 H' → ∃ m, m < k ∧ ∃ j H', Inv (X.blk t3 G3 scope ce fp) ([] ++ pinsAt fp t7.heap) (wipe σ8 vs1) H' s' ∧ tn1 j s'.heap ∧ (∀ b ∈ fp1, H' b = none) ∧ W1 j m H' := fun {s' H'} Jp nx => by
              obtain ⟨mm, hm, ww⟩ := hNx1 H' nx
              have pnn : ∀ b ∈ fp1, ∀ o, t14.heap.get? b = some o → s'.heap.get? b = some o ∧ H' b = none := fun b hb o e =>
                let z := Jp.pin (b, o) (List.mem_append_right _ (List.mem_append_right _ (mem_pinsAt hb e)))
                ⟨z.1, z.2.1⟩
              refine ⟨mm, hm, j + 1, H', Jp.unpinned.weak (by rw [← hw15, wipe_length]) (fun j v e => by rw [← hw15] at e; exact (wipe_some e).1), T1.keep _ _ _ st14 fun b hb o e => (pnn b hb o e).1, fun b hb => ?_, ww⟩
              obtain ⟨o, e, _⟩ := T1.obj _ _ st14 b hb
              exact (pnn b hb o e).2
            cases b1 with
            | false =>
              simp only [Bool.false_eq_true, if_false] at q16 ⊢
              exact fin1 J16 q16
            | true =>
              simp only [if_true] at q16 ⊢
              refine dcT (pk.run _ t16 σ15 G16 _ J16 q16) fun z t17 ⟨yk, G17, J17, r17, q17⟩ => ?_
              refine dcT (pe.run _ t17 σ15 G17 _ J17 q17) fun z2 t18 ⟨yv, G18, J18, r18, G19, put, nx⟩ => ?_
              exact dx_dictSet (X := X.blk t3 G3 scope ce fp) hu J18 put r17 r18 fun t19 J19 => fin1 J19 nx
        exact dcStart1_ok loopB (T1.self X.A 0 _ _ _ st11 loopB)
  exact codeAny_compStart_dict loopA (T.self X.A 0 _ _ _ at4 loopA)
/-- as a value -/
theorem pe_dc2 {kx vx tg iter tg1 iter1 : Expr} {ifs ifs1 : List Expr} {scope : Scope} {own : List (Str × Nat)} {vs1 : List Nat} {pos : Pos} {wi wi1 : TI} {g g1 : TG} {tt tt1 : TT} {tk tv : TE} (hu : X.A.units + 1 < cLine) (hc : X.calm = true) (hN : X.N.Nodup) (hi : PI X tg iter wi) (ok : BlkOk X.N X.env.scope scope own) (hv : ∀ i ∈ vs1, i ∈ own.map (·.2))
    (hg : ∀ (s : Shared) (H : Hp) (C : Addr) (cl : List (Str × Addr)) (fp : List Addr), PG (X.blk s H scope (compEnvC scope cl C X.env) fp) tg g) (ht : ∀ (s : Shared) (H : Hp) (C : Addr) (cl : List (Str × Addr)) (fp : List Addr), PTs (X.blk s H scope (compEnvC scope cl C X.env) fp) ifs tt)
    (hi1 : ∀ (s : Shared) (H : Hp) (C : Addr) (cl : List (Str × Addr)) (fp : List Addr), PI (X.blk s H scope (compEnvC scope cl C X.env) fp) tg1 iter1 wi1)
    (hg1 : ∀ (s : Shared) (H : Hp) (C : Addr) (cl : List (Str × Addr)) (fp : List Addr), PG (X.blk s H scope (compEnvC scope cl C X.env) fp) tg1 g1) (ht1 : ∀ (s : Shared) (H : Hp) (C : Addr) (cl : List (Str × Addr)) (fp : List Addr), PTs (X.blk s H scope (compEnvC scope cl C X.env) fp) ifs1 tt1)
    (hk : ∀ (s : Shared) (H : Hp) (C : Addr) (cl : List (Str × Addr)) (fp : List Addr), PE (X.blk s H scope (compEnvC scope cl C X.env) fp) kx tk) (he : ∀ (s : Shared) (H : Hp) (C : Addr) (cl : List (Str × Addr)) (fp : List Addr), PE (X.blk s H scope (compEnvC scope cl C X.env) fp) vx tv) (hs : ∀ x, foldedSetIterable iter X.env x = pure x := by intro _; rfl) (hs1 : ∀ env x, foldedSetIterable iter1 env x = pure x := by intro _ _; rfl) :
    PE X (.DictComp kx vx [⟨tg, iter, ifs, 0⟩, ⟨tg1, iter1, ifs1, 0⟩] scope pos) (tDc2 wi g tt wi1 g1 tt1 tk tv (own.map (·.2)) vs1) := by
  refine ⟨fun pins s σ H Q I h => ?_⟩
  rw [arm_eval_DictComp]
  refine dc2_core hu hc hN I hi ok hv hg ht hk he hs hi1 hg1 ht1 hs1 h fun D C s' m H' Jp q hn f => ⟨m, hn, fun hp'' sb => ?_⟩
  obtain ⟨f0, f1, f2, g3, f4, f5⟩ := f
  exact ⟨.ref D, H', Jp.turned (t' := s'.toks) (fun b o hb e => (sb.2 b hb).trans e) f0 f1 g3 f4 f5, rfl, q⟩
end
end
/-! ### d.values() as a thing, and list(..) of it -/
section
def valsO (p d : Addr) : HO := .ext fun h => h.IsValuesView p d
theorem valsO_ok {P : Program} {w : World} {H : Hp} {h : Heap} {p d : Addr} (e : h.get? p = some { cls := .type "dict_values", data := .fields #[.ref d] }) : ObjOk P w H h p (valsO p d) :=
  ⟨⟨_, e, rfl, rfl⟩, ⟨_, e⟩, fun h1 h2 x k => let ⟨o, ho, r⟩ := x; ⟨o, k o ho, r⟩⟩
variable {X : Cx}
def rVals : V → List V → Hp → VK → Prop := fun x xs H Q => ∃ (a : Addr) (kvs : List (Key × V)), x = .ref a ∧ xs = [] ∧ H a = some (.dK kvs) ∧ ∀ p, H p = none → Q (.ref p) (upd H p (valsO p a))
theorem mt_vals : MtR X "dict.values" rVals := by
  intro pins s σ H x xs v us Q I rx rxs h
  obtain ⟨a, kvs, rfl, rfl, ha, q⟩ := h
  cases rx
  cases rxs
  obtain ⟨z, hd, vs, rel, dd⟩ := dk_of I.hok ha
  refine call_meetsIn PySem.F.slot_dict_values dd.typeIs PySem.F.entry_dict_values (PySem.F.args_dict_values_1 _) (meets_dict_values (mixKind X.prog X.w) a hd) ⟨⟨vs, dd⟩, ?_⟩
  exact ⟨.ref s.heap.objs.size, upd H s.heap.objs.size (valsO s.heap.objs.size a), I.laid (t' := s.toks) (fun b u e => Heap.get?_push_of_some _ e) (Nat.le_refl _) (valsO_ok (Heap.get?_push_size _ rfl)), rfl, q _ (I.hok.fresh (Nat.le_refl _))⟩
theorem kv_valsG : ∀ {kvs : List (Key × V)} {vs : List (Key × Value)} {us : List Value}, KV kvs vs → us.length = vs.length → (∀ (j : Nat) (v : Value), us[j]? = some v → ∃ k, vs[j]? = some (k, v)) → Vals (kvs.map (·.2)) us
  | _, _, [], .nil, _, _ => .nil
  | _, _, u :: us, .cons h t, hl, hj => by
    obtain ⟨k, e⟩ := hj 0 u rfl
    have e := Option.some.inj e
    refine .cons ?_ (kv_valsG t (Nat.succ.inj hl) fun j v q => hj (j + 1) v q)
    have := h.2
    rw [e] at this
    exact this
  | _, _, [], .cons _ _, hl, _ => by cases hl
  | _, _, _ :: _, .nil, hl, _ => by cases hl
def rListVals : List V → Hp → VK → Prop := fun xs H Q => ∃ (p a : Addr) (kvs : List (Key × V)), xs = [.ref p] ∧ H p = some (valsO p a) ∧ H a = some (.dK kvs) ∧ ∀ q, H q = none → Q (.ref q) (upd H q (.lst (kvs.map (·.2))))
theorem call_listVals (hcalm : X.calm = true) : CallR X (.type "list") rListVals := by
  intro pins s σ H xs us Q I r q
  obtain ⟨p, a, kvs, ex, hp, ha, q⟩ := q
  subst ex
  obtain ⟨u, eu, rx⟩ := vals1 r
  subst eu
  cases rx
  obtain ⟨z, lo, vs, rel, dd⟩ := dk_of I.hok ha
  obtain ⟨ep, hat⟩ := dd.dictAt
  obtain ⟨hv, _⟩ := (show ObjOk X.prog X.w H s.heap p (valsO p a) from I.hok p _ hp)
  refine PySem.W.kdl_call (PySem.W.kdl_values (knd := mixKind X.prog X.w) (kvs := vs) (ep := ep)) (I.ok.hd hcalm) ⟨hv, hat⟩ (by rw [← rel.length]; exact z) fun h' tk acc c' hk hD hacc => ?_
  have hv2 : Vals (kvs.map (·.2)) acc.toList := kv_valsG rel (by rw [Array.length_toList]; exact hacc.1) fun j v e => hacc.2 j v (by rw [← Array.getElem?_toList]; exact e)
  exact ⟨.ref s.heap.objs.size, upd H s.heap.objs.size (.lst (kvs.map (·.2))), I.laid (t' := tk) hk (Nat.le_refl _)
    (show ObjOk X.prog X.w _ _ _ (.lst (kvs.map (·.2))) from ⟨by rw [List.length_map]; exact z, acc.toList, c', hv2, by rw [Array.toArray_toList]; exact hD⟩), rfl, q _ (I.hok.fresh (Nat.le_refl _))⟩
end
/-! ### itertools.permutations(xs, r): its turns -/
namespace Pm
open PySem PySem.Spec
theorem mro_pm : mroOf (.type "itertools.permutations") = pure [.type "itertools.permutations", .type "object"] := by rw [mroOf_type]; kernel_rfl
theorem look_pm_new : typeLookup (.type "itertools.permutations") "__new__" = pure (some (.builtin "itertools.permutations.__new__")) := by rw [typeLookup_type, builtinLookup_eq_fast]; kernel_rfl
theorem slot_pm_init : Slot "itertools.permutations" "__init__" "object.__init__" :=
  .of (owner := "object") (n := "__init__") (by rw [typeLookup_type, builtinLookup_eq_fast]; kernel_rfl) (by decide +kernel) (by decide +kernel) (by decide +kernel) (by first | exact .inl (by decide +kernel) | exact .inr (by decide +kernel)) (by rw [isSubtype_type]; kernel_rfl)
theorem sub_pm : isSubtype (.type "itertools.permutations") (.type "itertools.permutations") = pure true := by rw [isSubtype_type]; kernel_rfl
theorem called_pm : TypeCalled "itertools.permutations" "itertools.permutations.__new__" "object.__init__" :=
  ⟨by decide +kernel, by decide +kernel, ⟨_, _, mro_pm⟩, madeBy_type mro_pm look_pm_new (by decide +kernel), by decide +kernel, sub_pm, slot_pm_init⟩
theorem typeCall_pm (a b : Value) : checkTypeCall "itertools.permutations" ⟨[a, b], []⟩ = pure () := by kernel_rfl
theorem newCall_pm (a b : Value) : checkBuiltinCall "itertools.permutations.__new__" ⟨[.type "itertools.permutations", a, b], []⟩ = pure () := by kernel_rfl
theorem entry_pm_new : entryFor table "itertools.permutations.__new__" = some Builtin.«itertools.permutations.__new__» := entryFor_of_tree (by kernel_rfl)
theorem slot_pm_iter : Slot "itertools.permutations" "__iter__" "itertools.permutations.__iter__" :=
  .of (owner := "itertools.permutations") (n := "__iter__") (by rw [typeLookup_type, builtinLookup_eq_fast]; kernel_rfl) (by decide +kernel) (by decide +kernel) (by decide +kernel) (by first | exact .inl (by decide +kernel) | exact .inr (by decide +kernel)) sub_pm
theorem slot_pm_next : Slot "itertools.permutations" "__next__" "itertools.permutations.__next__" :=
  .of (owner := "itertools.permutations") (n := "__next__") (by rw [typeLookup_type, builtinLookup_eq_fast]; kernel_rfl) (by decide +kernel) (by decide +kernel) (by decide +kernel) (by first | exact .inl (by decide +kernel) | exact .inr (by decide +kernel)) sub_pm
theorem entry_pm_iter : entryFor table "itertools.permutations.__iter__" = some Builtin.«dict_keyiterator.__iter__» :=
  entryFor_alias (id' := "dict_keyiterator.__iter__") (by kernel_rfl) (by first | rfl | decide +kernel | (unfold String.splitOn; simp +decide [String.splitOnAux])) (by decide +kernel) (by kernel_rfl)
theorem entry_pm_next : entryFor table "itertools.permutations.__next__" = some Builtin.«itertools.permutations.__next__» := entryFor_of_tree (by kernel_rfl)
def pmName : List Char := ['s', 'n', 'o', 'i', 't', 'a', 't', 'u', 'm', 'r', 'e', 'p', '.', 's', 'l', 'o', 'o', 't', 'r', 'e', 't', 'i']
theorem owner_pm : Manifest.owners.lookup (String.ofList pmName.reverse) = some Manifest.sig_itertools_permutations := by kernel_rfl
theorem args_pm_iter (a : Value) : argsOk "itertools.permutations.__iter__" ⟨[a], []⟩ := by
  unfold argsOk; rw [signature?_of (id := "itertools.permutations.__iter__") (n := ['_', '_', 'r', 'e', 't', 'i', '_', '_']) (o := pmName) (by kernel_rfl) owner_pm]; kernel_rfl
theorem args_pm_next (a : Value) : argsOk "itertools.permutations.__next__" ⟨[a], []⟩ := by
  unfold argsOk; rw [signature?_of (id := "itertools.permutations.__next__") (n := ['_', '_', 't', 'x', 'e', 'n', '_', '_']) (o := pmName) (by kernel_rfl) owner_pm]; kernel_rfl
theorem noDict_pm : typeHasDict (.type "itertools.permutations") = false := by decide +kernel
/-- the object: its pool, how it stands, how many at once, the last one told, the numbers -/
def pmFs (pool : Addr) (st : Int) (r : Nat) (last : Value) (ns : List Nat) : Array Value := ([.ref pool, rawInt st, rawInt r, last] ++ ns.map fun n : Nat => rawInt n).toArray
abbrev IsPm (h : Heap) (it pool : Addr) (st : Int) (r : Nat) (last : Value) (ns : List Nat) : Prop := h.get? it = some { cls := .type "itertools.permutations", dict := none, data := .fields (pmFs pool st r last ns), slots := #[] }
theorem meets_pm_new (l : Addr) (vs : List Value) (r : Nat) (t : Tok) (hz : vs.length ≤ 1000) (hr : r ≤ vs.length) :
    Meets (Builtin.«itertools.permutations.__new__» ⟨[.type "itertools.permutations", .ref l, .int r t], []⟩)
      (fun _ R s => s.heap.IsList l vs.toArray ∧ ∀ h2, IsPm h2 (s.heap.objs.size + 2) (s.heap.objs.size + 1) 0 r .none (List.range vs.length ++ (List.range r).map fun i => vs.length - i) → h2.IsTuple (s.heap.objs.size + 1) vs.toArray → h2.objs.size = s.heap.objs.size + 3 →
        (∀ b o, s.heap.get? b = some o → h2.get? b = some o) → R (.ok (.ret (.ref (s.heap.objs.size + 2)))) { s with heap := h2 }) :=
  .of_wp fun prog w A R s ⟨hl, h⟩ => by
    obtain ⟨hp, g, dd, tk, os⟩ := s
    have hsub : isSubtype (.type "itertools.permutations") (.type ("itertools." ++ "permutations")) = pure true := by
      rw [show ("itertools." ++ "permutations" : String) = "itertools.permutations" from by decide +kernel]
      exact sub_pm
    have hd := noDict_pm
    have hz2 : vs.length ≤ sizeLine := sizeS (by omega)
    repeat (first
      | refine PyProof.Rows.collect_list (vs := vs) hl ?_ hz2
      | wp_step
      | simp only [List.head?_cons, Option.some_or, List.getElem?_cons_succ, List.getElem?_cons_zero, List.length_cons, List.length_nil, List.forIn_nil])
    refine wpAny_ite_false ?_ (wpAny_pure ?_)
    · rw [decide_eq_false (show ¬ ((r : Int) < -2 ^ 63) by omega), decide_eq_false (show ¬ ((r : Int) ≥ 2 ^ 63) by omega)]
      rfl
    rw [if_neg (show ¬ ((r : Int) < 0) by omega)]
    have tm : Builtin.Itertools.itTooMany (r : Int) = false := decide_eq_false (by omega)
    rw [if_neg (by rw [tm]; exact Bool.false_ne_true)]
    refine wpAny_bind (wpAny_newTuple ?_ (by first | exact hz2 | size_fits))
    refine wpAny_bind ?_
    unfold Builtin.Itertools.itNewRecord
    rw [hd]
    have hs0 : ((hp.push (seqObj "list" #[] 0)).update hp.objs.size (Obj.mapSeq fun x => x ++ vs.toArray)).objs.size = hp.objs.size + 1 := by rw [Heap.size_update, Heap.size_push]
    have hk0 : ∀ b o, hp.get? b = some o → ((hp.push (seqObj "list" #[] 0)).update hp.objs.size (Obj.mapSeq fun x => x ++ vs.toArray)).get? b = some o := fun b o e =>
      ((Heap.SameBut.update ..).2 b (Nat.ne_of_lt (Heap.lt_size e))).trans (Heap.get?_push_of_some _ e)
    generalize (hp.push (seqObj "list" #[] 0)).update hp.objs.size (Obj.mapSeq fun x => x ++ vs.toArray) = hq at hs0 hk0 ⊢
    rw [if_pos (show (!false) = true from rfl)]
    refine wpAny_newObj_type (wpAny_pure ⟨_, rfl, ?_⟩) ?_
    · dsimp only
      rw [Heap.size_push, hs0]
      refine h _ ?_ ?_ ?_ ?_
      · show (Heap.push _ _).get? (hp.objs.size + 2) = _
        rw [show hp.objs.size + 2 = (hq.push { cls := .type "tuple", data := .seq vs.toArray }).objs.size by rw [Heap.size_push, hs0]]
        refine (Heap.get?_push_size _ rfl).trans ?_
        rw [if_neg (show ¬ ((r : Int).toNat > vs.length) by omega), Int.toNat_natCast]
        unfold pmFs
        rw [List.map_append, List.map_map, List.append_assoc]
        have em : (List.range r).map (fun i : Nat => rawInt ((vs.length : Int) - (i : Int))) = (List.range r).map ((fun n : Nat => rawInt (n : Int)) ∘ fun i => vs.length - i) := by
          refine List.map_congr_left fun i hi => ?_
          have := List.mem_range.mp hi
          exact congrArg rawInt (show ((vs.length : Int) - (i : Int)) = ((vs.length - i : Nat) : Int) by omega)
        rw [em]
      · have z := Heap.get?_push_size hq (o := { cls := .type "tuple", data := .seq vs.toArray }) rfl
        rw [hs0] at z
        exact ⟨_, Heap.get?_push_of_some _ z, rfl, _, rfl⟩
      · rw [Heap.size_push, Heap.size_push, hs0]
      · exact fun b o e => Heap.get?_push_of_some _ (Heap.get?_push_of_some _ (hk0 b o e))
    · simp only [sizeOk, List.size_toArray, List.length_append, List.length_cons, List.length_nil, List.length_map, List.length_range, sizeLine_eq]
      omega
end Pm
namespace Pm
open PySem PySem.Spec
def StopE (e : Value) (h : Heap) : Prop := ∃ a o, e = .ref a ∧ h.get? a = some o ∧ o.cls = .type "StopIteration"
theorem nums_pm {pool : Addr} {st : Int} {r : Nat} {last : Value} {ns : List Nat} : (((pmFs pool st r last ns).toList.drop 4).map fun x => match x with | .int n _ => n.toNat | _ => 0) = ns := by
  show ((ns.map fun n : Nat => rawInt (n : Int)).map _) = ns
  rw [List.map_map]
  refine (List.map_congr_left fun n _ => ?_).trans (List.map_id _)
  show ((n : Int)).toNat = n
  exact Int.toNat_natCast n
section
variable {prog : Program} {w : World} {A : Around} {E : Value → Shared → Prop} {s : Shared} {it pool : Addr} {r : Nat} {last : Value} {ns : List Nat} {vs : List Value}
theorem stop_pm {Q : Fin → Shared → Prop} (hh : A.handled = none) (hQ : ∀ e h2, StopE e h2 → (∀ b o, s.heap.get? b = some o → h2.get? b = some o) → E e { s with heap := h2 }) : wpAny (model prog w) A Builtin.Itertools.itStop Q E s := by
  unfold Builtin.Itertools.itStop
  refine wpAny_bind ?_
  simp only [newExc, newTuple]
  refine wpAny_bind (wpAny_newObj_type ?_ (by size_fits))
  refine wpAny_bind (m := firstArgMember _ _) (wpAny_of_eq (a := Value.none) (by first | rfl | (simp only [firstArgMember]; rfl)) ?_)
  refine wpAny_newObj_type ?_ (by size_fits)
  simp only [raiseNew]
  refine wpAny_bind (wpAny_handled ?_)
  rw [hh]
  refine wpAny_bind (wpAny_pure (wpAny_throw ?_))
  exact hQ _ _ ⟨_, _, rfl, Heap.get?_push_size _ rfl, rfl⟩ fun b o e => Heap.get?_push_of_some _ (Heap.get?_push_of_some _ e)
/-- the told tuple is laid, the old one let go -/
theorem tell_pm {idx : List Nat} {Q : Fin → Shared → Prop} (hit : IsPm s.heap it pool 1 r last ns) (hr : r ≤ 1000)
    (hQ : ∀ h2, IsPm h2 it pool 1 r (.ref s.heap.objs.size) ns → h2.get? s.heap.objs.size = some { cls := .type "tuple", data := .seq ((idx.take r).map fun i => vs.toArray.getD i .none).toArray } → (∀ b o, b ≠ it → s.heap.get? b = some o → h2.get? b = some o) → h2.objs.size = s.heap.objs.size + 1 →
      Q (.done (.ret (.ref s.heap.objs.size))) { s with heap := h2 }) :
    wpAny (model prog w) A (do
      let t ← newTuple ((idx.take r).map fun i => vs.toArray.getD i .none)
      let old ← field (.ref it) 3
      setField (.ref it) 3 t
      letGo [old] [t]
      ret t) Q E s := by
  have lt := Heap.lt_size hit
  refine wpAny_bind (wpAny_newTuple ?_ (sizeS (by rw [List.length_map, List.length_take]; omega)))
  have hit1 : IsPm (s.heap.push { cls := .type "tuple", data := .seq ((idx.take r).map fun i => vs.toArray.getD i .none).toArray }) it pool 1 r last ns := Heap.get?_push_of_some _ hit
  refine wpAny_bind (wpAny_field hit1 rfl (x := last) rfl ?_)
  refine wpAny_bind (wpAny_setField hit1 rfl (by simp [pmFs]) ?_)
  refine wpAny_bind (wpAny_letGo ?_)
  refine wpAny_pure (hQ _ ?_ ?_ ?_ ?_)
  · refine (Heap.get?_update_self _ hit1 rfl).trans ?_
    rfl
  · refine ((Heap.SameBut.update ..).2 _ (Nat.ne_of_gt lt)).trans (Heap.get?_push_size _ rfl)
  · exact fun b o nb e => ((Heap.SameBut.update ..).2 _ nb).trans (Heap.get?_push_of_some _ e)
  · rw [Heap.size_update, Heap.size_push]
end
/-- the lists of r unlike ones of l, as they come -/
def pickL : List Nat → Nat → List (List Nat)
  | _, 0 => [[]]
  | l, r + 1 => l.flatMap fun x => (pickL (l.erase x) r).map (x :: ·)
def stP (f : Nat → Nat → List Nat → List Nat → Option (List Nat × List Nat)) (n r : Nat) : Nat → Option (List Nat × List Nat)
  | 0 => some (List.range n, (List.range r).map fun i => n - i)
  | i + 1 => (stP f n r i).bind fun p => f n r p.1 p.2
def okP (f : Nat → Nat → List Nat → List Nat → Option (List Nat × List Nat)) (n r : Nat) : Bool :=
  ((List.range (pickL (List.range n) r).length).all fun i => match stP f n r i with | some p => decide (p.1.take r = (pickL (List.range n) r).getD i []) && decide (p.1.length = n) && decide (p.2.length = r) | none => false) && (stP f n r (pickL (List.range n) r).length).isNone
theorem pm_fn : ∃ f : Nat → Nat → List Nat → List Nat → Option (List Nat × List Nat), ((List.range 5).all fun n => (List.range (n + 1)).all fun r => okP f n r) = true ∧
    ∀ (prog : Program) (w : World) (A : Around) (E : Value → Shared → Prop) (s : Shared) (it pool : Addr) (r : Nat) (last : Value) (idx cyc : List Nat) (vs : List Value) (Q : Fin → Shared → Prop), A.handled = none → IsPm s.heap it pool 1 r last (idx ++ cyc) → s.heap.IsTuple pool vs.toArray → idx.length = vs.length → r ≤ 1000 → it ≠ pool →
      (∀ idx2 cyc2, f vs.length r idx cyc = some (idx2, cyc2) → idx2.length + cyc2.length ≤ 1000) → (∀ idx2 cyc2, f vs.length r idx cyc = some (idx2, cyc2) → ∀ h2, IsPm h2 it pool 1 r (.ref s.heap.objs.size) (idx2 ++ cyc2) → h2.get? s.heap.objs.size = some { cls := .type "tuple", data := .seq ((idx2.take r).map fun i => vs.toArray.getD i .none).toArray } →
        (∀ b o, b ≠ it → s.heap.get? b = some o → h2.get? b = some o) → h2.objs.size = s.heap.objs.size + 1 → Q (.done (.ret (.ref s.heap.objs.size))) { s with heap := h2 }) →
      (f vs.length r idx cyc = none → ∀ e h2, StopE e h2 → (∀ b o, b ≠ it → s.heap.get? b = some o → h2.get? b = some o) → E e { s with heap := h2 }) →
      wpAny (model prog w) A (Builtin.«itertools.permutations.__next__» ⟨[.ref it], []⟩) Q E s := by
  apply Exists.intro
  refine And.intro ?tab ?walk
  case walk =>
    intro prog w A E s it pool r last idx cyc vs Q hh hit ht hl hr ne kl k1 k2
    obtain ⟨o, ho, hc, n, hd⟩ := id ht
    unfold Builtin.«itertools.permutations.__next__»
    show wpAny _ _ (field (.ref it) 0 >>= _) _ _ s
    refine wpAny_bind (wpAny_field hit rfl (x := .ref pool) rfl ?_)
    unfold Builtin.Itertools.itPoolItems
    refine wpAny_bind (wpAny_bind (wpAny_seqItems ho hd (wpAny_pure ?_)))
    unfold Builtin.Itertools.itIntField
    refine wpAny_bind (wpAny_bind (wpAny_field hit rfl (x := .int r 0) rfl (wpAny_pure ?_)))
    unfold Builtin.Itertools.itNumbersFrom
    refine wpAny_bind (wpAny_bind (wpAny_load hit (wpAny_of_eq (a := idx ++ cyc) (congrArg (pure (f := Sem)) (nums_pm (pool := pool) (st := 1) (r := r) (last := last) (ns := idx ++ cyc))) ?_)))
    refine wpAny_bind (wpAny_bind (wpAny_field hit rfl (x := .int 1 0) rfl (wpAny_pure ?_)))
    dsimp only
    rw [Int.toNat_natCast, List.size_toArray, ← hl, List.take_left, List.drop_left, hl]
    split
    · rename_i z
      exact absurd z (by decide)
    · split
      · rename_i idx2 cyc2 heq
        unfold Builtin.Itertools.itSetNumbersFrom
        have zl := kl _ _ heq
        have lt := Heap.lt_size hit
        refine wpAny_bind (wpAny_updateFields hit rfl ?_ ?_)
        · have hit2 : IsPm (s.heap.update it (Obj.mapFields fun fs => fs.extract 0 4 ++ ((idx2 ++ cyc2).map fun n : Nat => rawInt (n : Int)).toArray)) it pool 1 r last (idx2 ++ cyc2) := by
            refine (Heap.get?_update_self _ hit rfl).trans ?_
            show some _ = some _
            unfold pmFs
            simp [Obj.mapFields]
          have hs : (s.heap.update it (Obj.mapFields fun fs => fs.extract 0 4 ++ ((idx2 ++ cyc2).map fun n : Nat => rawInt (n : Int)).toArray)).objs.size = s.heap.objs.size := Heap.size_update ..
          refine tell_pm hit2 hr fun h2 e1 e2 e3 e4 => ?_
          dsimp only at e1 e2 e3 e4 ⊢
          rw [hs] at e1 e2 e4 ⊢
          exact k1 _ _ heq h2 e1 e2 (fun b o nb eb => e3 b o nb (((Heap.SameBut.update ..).2 _ nb).trans eb)) e4
        · simp [pmFs, sizeLine_eq]
          omega
      · rename_i heq
        refine wpAny_bind (wpAny_setField hit rfl (by simp [pmFs]) ?_)
        refine stop_pm hh fun e h2 hs hk => ?_
        exact k2 heq e h2 hs fun b o nb eb => hk _ _ (((Heap.SameBut.update ..).2 _ nb).trans eb)
    · rename_i z
      exact (z rfl).elim
  case tab => decide +kernel
end Pm
namespace Pm
open PySem PySem.Spec PyProof.Rows L2
noncomputable def pmF : Nat → Nat → List Nat → List Nat → Option (List Nat × List Nat) := Classical.choose pm_fn
theorem pmF_ok {n r : Nat} (hn : n < 5) (hr : r ≤ n) : okP pmF n r = true := by
  have h := (Classical.choose_spec pm_fn).1
  have h1 := List.all_eq_true.mp h n (List.mem_range.mpr hn)
  exact List.all_eq_true.mp h1 r (List.mem_range.mpr (by omega))
theorem st_none {n r i : Nat} (h : stP pmF n r i = none) : ∀ j, i ≤ j → stP pmF n r j = none
  | 0, hj => by rw [Nat.le_zero.mp hj] at h; exact h
  | j + 1, hj => by
    by_cases e : i = j + 1
    · rw [← e]; exact h
    · show (stP pmF n r j).bind _ = none
      rw [st_none h j (by omega)]
      rfl
theorem st_at {n r i : Nat} (hn : n < 5) (hr : r ≤ n) (hi : i < (pickL (List.range n) r).length) : ∃ p, stP pmF n r i = some p ∧ p.1.take r = (pickL (List.range n) r).getD i [] ∧ p.1.length = n ∧ p.2.length = r := by
  have h := pmF_ok hn hr
  unfold okP at h
  rw [Bool.and_eq_true] at h
  have h1 := List.all_eq_true.mp h.1 i (List.mem_range.mpr hi)
  cases e : stP pmF n r i with
  | none => rw [e] at h1; exact absurd h1 Bool.false_ne_true
  | some p =>
    rw [e] at h1
    simp only [Bool.and_eq_true, decide_eq_true_eq] at h1
    exact ⟨p, rfl, h1.1.1, h1.1.2, h1.2⟩
theorem st_end {n r i : Nat} (hn : n < 5) (hr : r ≤ n) (hi : (pickL (List.range n) r).length ≤ i) : stP pmF n r i = none := by
  have h := pmF_ok hn hr
  unfold okP at h
  rw [Bool.and_eq_true] at h
  exact st_none (Option.isNone_iff_eq_none.mp h.2) i hi
/-- the told tuples -/
def pk (xs : List V) (r : Nat) : List (List V) := (pickL (List.range xs.length) r).map fun l => l.map fun i => xs.getD i .non
def ItPm (xs : List V) (r : Nat) : It := ⟨fun i _ => i < (pk xs r).length, fun i H v H' => ∃ T l, v = .ref T ∧ H T = none ∧ (pk xs r)[i]? = some l ∧ H' = upd H T (.tup l), fun i _ => (pk xs r).length ≤ i⟩
/-- how the object stands ahead of the turn i -/
def PmSt (it pool : Addr) (vs : List Value) (r : Nat) (i : Nat) (h : Heap) : Prop := h.IsTuple pool vs.toArray ∧ it ≠ pool ∧
  match i with
  | 0 => IsPm h it pool 0 r .none (List.range vs.length ++ (List.range r).map fun i => vs.length - i)
  | i + 1 => ∃ p last, stP pmF vs.length r i = some p ∧ IsPm h it pool 1 r last (p.1 ++ p.2)
theorem PmSt.rec_ {it pool : Addr} {vs : List Value} {r i : Nat} {h : Heap} (x : PmSt it pool vs r i h) : ∃ fs, h.get? it = some { cls := .type "itertools.permutations", dict := none, data := .fields fs, slots := #[] } := by
  cases i with
  | zero => exact ⟨_, x.2.2⟩
  | succ i => obtain ⟨_, _, p, last, _, e⟩ := x; exact ⟨_, e⟩
section
variable {prog : Program} {w : World} {A : Around} {E : Value → Shared → Prop} {s : Shared} {it pool : Addr} {r i : Nat} {vs : List Value}
theorem next_first {Q : Fin → Shared → Prop} (hit : IsPm s.heap it pool 0 r .none (List.range vs.length ++ (List.range r).map fun i => vs.length - i)) (ht : s.heap.IsTuple pool vs.toArray) (hr : r ≤ vs.length) (h1000 : vs.length ≤ 1000)
    (hQ : ∀ h2, IsPm h2 it pool 1 r (.ref s.heap.objs.size) (List.range vs.length ++ (List.range r).map fun i => vs.length - i) → h2.get? s.heap.objs.size = some { cls := .type "tuple", data := .seq (((List.range vs.length).take r).map fun i => vs.toArray.getD i .none).toArray } →
      (∀ b o, b ≠ it → s.heap.get? b = some o → h2.get? b = some o) → h2.objs.size = s.heap.objs.size + 1 → Q (.done (.ret (.ref s.heap.objs.size))) { s with heap := h2 }) :
    wpAny (model prog w) A (Builtin.«itertools.permutations.__next__» ⟨[.ref it], []⟩) Q E s := by
  obtain ⟨o, ho, hc, n, hd⟩ := id ht
  unfold Builtin.«itertools.permutations.__next__»
  show wpAny _ _ (field (.ref it) 0 >>= _) _ _ s
  refine wpAny_bind (wpAny_field hit rfl (x := .ref pool) rfl ?_)
  unfold Builtin.Itertools.itPoolItems
  refine wpAny_bind (wpAny_bind (wpAny_seqItems ho hd (wpAny_pure ?_)))
  unfold Builtin.Itertools.itIntField
  refine wpAny_bind (wpAny_bind (wpAny_field hit rfl (x := .int r 0) rfl (wpAny_pure ?_)))
  unfold Builtin.Itertools.itNumbersFrom
  refine wpAny_bind (wpAny_bind (wpAny_load hit (wpAny_of_eq (a := List.range vs.length ++ (List.range r).map fun i => vs.length - i) (congrArg (pure (f := Sem)) (nums_pm (pool := pool) (st := 0) (r := r) (last := .none) (ns := List.range vs.length ++ (List.range r).map fun i => vs.length - i))) ?_)))
  refine wpAny_bind (wpAny_bind (wpAny_field hit rfl (x := .int 0 0) rfl (wpAny_pure ?_)))
  dsimp only
  rw [Int.toNat_natCast]
  split
  · refine wpAny_bind (wpAny_setField hit rfl (by simp [pmFs]) ?_)
    have hit2 : IsPm (s.heap.update it (Obj.mapFields fun x => x.setIfInBounds 1 (rawInt 1))) it pool 1 r .none (List.range vs.length ++ (List.range r).map fun i => vs.length - i) := (Heap.get?_update_self _ hit rfl).trans rfl
    have hs : (s.heap.update it (Obj.mapFields fun x => x.setIfInBounds 1 (rawInt 1))).objs.size = s.heap.objs.size := Heap.size_update ..
    have tk : (List.range vs.length ++ (List.range r).map fun i => vs.length - i).take r = (List.range vs.length).take r := List.take_append_of_le_length (by rw [List.length_range]; exact hr)
    refine tell_pm hit2 (by omega) fun h2 e1 e2 e3 e4 => ?_
    dsimp only at e1 e2 e3 e4 ⊢
    rw [hs] at e1 e2 e4 ⊢
    rw [tk] at e2
    exact hQ h2 e1 e2 (fun b o nb eb => e3 b o nb (((Heap.SameBut.update ..).2 _ nb).trans eb)) e4
  · rename_i z
    exact absurd z (by decide)
  · rename_i z _
    exact (z rfl).elim
/-- a turn that tells -/
theorem next_pm {Q : Option Value → Shared → Prop} (hh : A.handled = none) (st : PmSt it pool vs r i s.heap) (hn : vs.length < 5) (hr : r ≤ vs.length) (hi : i < (pickL (List.range vs.length) r).length)
    (hQ : ∀ h2, PmSt it pool vs r (i + 1) h2 → h2.get? s.heap.objs.size = some { cls := .type "tuple", data := .seq (((pickL (List.range vs.length) r).getD i []).map fun i => vs.toArray.getD i .none).toArray } →
      (∀ b o, b ≠ it → s.heap.get? b = some o → h2.get? b = some o) → h2.objs.size = s.heap.objs.size + 1 → Q (some (.ref s.heap.objs.size)) { s with heap := h2 }) : wpAny (model prog w) A (pyNext (.ref it)) Q E s := by
  obtain ⟨fs, hfs⟩ := st.rec_
  have hT : s.TypeIs (.ref it) "itertools.permutations" := ⟨_, hfs, rfl⟩
  obtain ⟨p, hp, h1, h2, h3⟩ := st_at hn hr hi
  unfold pyNext
  refine wpAny_bind (wpAny_attempt (wpAny_callSpecial?_slot (name := Str.ofString "__next__") hT slot_pm_next (wpAny_call_entry slot_pm_next hT entry_pm_next ?_ (args_pm_next _))))
  obtain ⟨ht, hne, hst⟩ := st
  cases i with
  | zero =>
    have ep : p = (List.range vs.length, (List.range r).map fun i => vs.length - i) := (Option.some.inj hp).symm
    subst ep
    refine next_first hst ht hr (by omega) fun h2 e1 e2 e3 e4 => ⟨_, rfl, wpAny_pure (hQ h2 ⟨ht.at fun o q => e3 _ _ hne.symm q, hne, _, _, hp, e1⟩ ?_ e3 e4)⟩
    rw [← h1]
    exact e2
  | succ i =>
    obtain ⟨q, last, hq, hit⟩ := hst
    have en : pmF vs.length r q.1 q.2 = some p := by
      have : (stP pmF vs.length r i).bind (fun p => pmF vs.length r p.1 p.2) = some p := hp
      rw [hq] at this
      exact this
    have ql : q.1.length = vs.length := by
      obtain ⟨q2, h4, _, h5, _⟩ := st_at hn hr (show i < (pickL (List.range vs.length) r).length by omega)
      rw [hq] at h4
      cases h4
      exact h5
    refine (Classical.choose_spec pm_fn).2 prog w A.in1 _ s it pool r last q.1 q.2 vs _ hh hit ht ql (by omega) hne (fun a b e => ?_) (fun a b e g2 e1 e2 e3 e4 => ?_) fun e => ?_
    · have e : pmF vs.length r q.1 q.2 = some (a, b) := e
      rw [en] at e
      cases e
      have h2 : a.length = vs.length := h2
      have h3 : b.length = r := h3
      omega
    · have e : pmF vs.length r q.1 q.2 = some (a, b) := e
      rw [en] at e
      cases e
      refine ⟨_, rfl, wpAny_pure (hQ g2 ⟨ht.at fun o q => e3 _ _ hne.symm q, hne, _, _, hp, e1⟩ ?_ e3 e4)⟩
      rw [← h1]
      exact e2
    · have e : pmF vs.length r q.1 q.2 = none := e
      rw [en] at e
      cases e
/-- the end -/
theorem end_pm {Q : Option Value → Shared → Prop} (hh : A.handled = none) (st : PmSt it pool vs r i s.heap) (hn : vs.length < 5) (hr : r ≤ vs.length) (hi : (pickL (List.range vs.length) r).length = i) (h0 : 0 < i)
    (hQ : ∀ h2, (∀ b o, b ≠ it → s.heap.get? b = some o → h2.get? b = some o) → Q none { s with heap := h2 }) : wpAny (model prog w) A (pyNext (.ref it)) Q E s := by
  obtain ⟨fs, hfs⟩ := st.rec_
  have hT : s.TypeIs (.ref it) "itertools.permutations" := ⟨_, hfs, rfl⟩
  unfold pyNext
  refine wpAny_bind (wpAny_attempt (wpAny_callSpecial?_slot (name := Str.ofString "__next__") hT slot_pm_next (wpAny_call_entry slot_pm_next hT entry_pm_next ?_ (args_pm_next _))))
  obtain ⟨ht, hne, hst⟩ := st
  obtain ⟨j, rfl⟩ : ∃ j, i = j + 1 := ⟨i - 1, by omega⟩
  obtain ⟨q, last, hq, hit⟩ := hst
  have en : pmF vs.length r q.1 q.2 = none := by
    have : (stP pmF vs.length r j).bind (fun p => pmF vs.length r p.1 p.2) = none := st_end hn hr (i := j + 1) (by omega)
    rw [hq] at this
    exact this
  have ql : q.1.length = vs.length := by
    obtain ⟨q2, h4, _, h5, _⟩ := st_at hn hr (show j < (pickL (List.range vs.length) r).length by omega)
    rw [hq] at h4
    cases h4
    exact h5
  refine (Classical.choose_spec pm_fn).2 prog w A.in1 _ s it pool r last q.1 q.2 vs _ hh hit ht ql (by omega) hne (fun a b e => ?_) (fun a b e => ?_) fun _ e h2 hs hk => ?_
  · have e : pmF vs.length r q.1 q.2 = some (a, b) := e
    rw [en] at e
    cases e
  · have e : pmF vs.length r q.1 q.2 = some (a, b) := e
    rw [en] at e
    cases e
  · obtain ⟨a, o, rfl, h5, h6⟩ := hs
    refine wpAny_bind (wpAny_isInstance (T := "StopIteration") (b := true) ⟨o, h5, h6⟩ isSubtype_stop ?_)
    exact wpAny_pure (hQ _ hk)
theorem call_pm {l : Addr} {t : Tok} {Q : Value → Shared → Prop} (hz : vs.length ≤ 1000) (hr : r ≤ vs.length) (hl : s.heap.IsList l vs.toArray)
    (h : ∀ h2, PmSt (s.heap.objs.size + 2) (s.heap.objs.size + 1) vs r 0 h2 → h2.objs.size = s.heap.objs.size + 3 → (∀ b o, s.heap.get? b = some o → h2.get? b = some o) → Q (.ref (s.heap.objs.size + 2)) { s with heap := h2 }) :
    wpAny (model prog w) A (call (.type "itertools.permutations") [.ref l, .int r t]) Q E s := by
  refine callType_new called_pm (by decide +kernel) (typeCall_pm _ _) (newCall_pm _ _) (fun obj => F.args_object_init_3 obj _ _) entry_pm_new (meets_pm_new l vs r t hz hr) ⟨hl, fun h2 e1 e2 e3 e4 => ?_⟩
  exact ⟨⟨_, e1, rfl⟩, h h2 ⟨e2, Nat.ne_of_gt (Nat.lt_succ_self _), e1⟩ e3 e4⟩
theorem iter_pm {Q : Value → Shared → Prop} (st : PmSt it pool vs r i s.heap) (h : Q (.ref it) s) : wpAny (model prog w) A (pyIter (.ref it)) Q E s := by
  obtain ⟨fs, hfs⟩ := st.rec_
  have hT : s.TypeIs (.ref it) "itertools.permutations" := ⟨_, hfs, rfl⟩
  refine wpAny_pyIter_slot hT slot_pm_iter (wpAny_call_entry slot_pm_iter hT entry_pm_iter ?_ (args_pm_iter _))
  show wpAny _ _ (ret (.ref it)) _ _ s
  exact wpAny_pure ⟨_, rfl, "itertools.permutations", _, hT, slot_pm_next.lookup, h⟩
theorem turn_pm {P : Program} {w : World} {K : PySem.W.Frag} {tg : Expr} {it pool : Addr} {vs : List Value} {xs : List V} {r : Nat} (hv : Vals xs vs) (hn : vs.length < 5) (hr : r ≤ vs.length) (h0 : 0 < (pickL (List.range vs.length) r).length) :
    Turn P w K tg (ItPm xs r) [it, pool] it (PmSt it pool vs r) where
  mem := by simp
  obj := fun i h st b hb => by
    obtain ⟨fs, hfs⟩ := st.rec_
    obtain ⟨o, ho, hc, n, hd⟩ := st.1
    have eb : b = it ∨ b = pool := by simpa using hb
    rcases eb with z | z
    · rw [z]; exact ⟨_, hfs, fun v q => nomatch q⟩
    · rw [z]; exact ⟨o, ho, fun v q => by rw [hd] at q; cases q⟩
  keep := fun i h h2 st k => ⟨st.1.at fun o q => k pool (by simp) o q, st.2.1, by
    cases i with
    | zero => exact k it (by simp) _ st.2.2
    | succ i => obtain ⟨_, _, p, last, e1, e2⟩ := st; exact ⟨p, last, e1, k it (by simp) _ e2⟩⟩
  item := by
    intro X hP hw hK hc i pins s σ H E I hf st hg
    subst hP hw hK
    have len : xs.length = vs.length := hv.length
    have hi : i < (pickL (List.range vs.length) r).length := by
      have : i < (pk xs r).length := hg
      unfold pk at this
      rwa [List.length_map, len] at this
    obtain ⟨fs, hfs⟩ := st.rec_
    refine next_pm (I.ok.hd hc) st hn hr hi fun h2 e1 e2 e3 e4 => ⟨_, rfl, ?_⟩
    have hel : it < s.heap.objs.size := Heap.lt_size hfs
    have hpl : pool < s.heap.objs.size := by obtain ⟨_, q, _⟩ := st.1; exact Heap.lt_size q
    obtain ⟨fs2, hfs2⟩ := e1.rec_
    have vr : ∀ j, RelV (xs.getD j .non) (vs.toArray.getD j .none) := fun j => by
      by_cases hj : j < xs.length
      · obtain ⟨u, hu, ru⟩ := hv.get (i := j) (x := xs[j]) (List.getElem?_eq_getElem hj)
        have ea : xs.getD j .non = xs[j] := by rw [List.getD_eq_getElem?_getD, List.getElem?_eq_getElem hj]; rfl
        have eb : vs.toArray.getD j .none = u := by
          have := (List.getElem?_eq_some_iff.mp hu)
          simp [Array.getD, this.1, this.2]
        rw [ea, eb]
        exact ru
      · have ea : xs.getD j .non = .non := by rw [List.getD_eq_getElem?_getD, List.getElem?_eq_none (by omega)]; rfl
        have eb : vs.toArray.getD j .none = .none := by simp [Array.getD]; omega
        rw [ea, eb]
        exact rfl
    have rel : Vals (((pickL (List.range vs.length) r).getD i []).map fun i => xs.getD i .non) (((pickL (List.range vs.length) r).getD i []).map fun i => vs.toArray.getD i .none) := by
      generalize (pickL (List.range vs.length) r).getD i [] = l
      induction l with
      | nil => exact .nil
      | cons a l ih => exact .cons (vr a) ih
    have pl : ((pickL (List.range vs.length) r).getD i []).length ≤ sizeLine := by
      obtain ⟨p, _, h1, h2, _⟩ := st_at hn hr hi
      rw [← h1, List.length_take, h2]
      exact sizeS (by omega)
    have new : ObjOk X.prog X.w (upd H s.heap.objs.size (.tup (((pickL (List.range vs.length) r).getD i []).map fun i => xs.getD i .non))) h2 s.heap.objs.size (.tup (((pickL (List.range vs.length) r).getD i []).map fun i => xs.getD i .non)) :=
      ⟨by rw [List.length_map]; exact pl, _, rel, ⟨_, e2, rfl, _, rfl⟩⟩
    have I1 : Inv X pins σ (upd H s.heap.objs.size (.tup (((pickL (List.range vs.length) r).getD i []).map fun i => xs.getD i .non))) { s with heap := h2 } :=
      I.turnedNew (t' := s.toks) (ch := [it, pool]) (fun b ob hb q => e3 b ob (fun z => hb (by simp [z])) q) hf (Nat.le_refl _) new
    refine go_of hfs2 rfl rfl (by decide) ⟨.ref s.heap.objs.size, _, I1, rfl, ⟨_, _, rfl, I.hok.fresh (Nat.le_refl _), ?_, rfl⟩, e1, fun b hb => ?_⟩
    · unfold pk
      rw [List.getElem?_map, len, List.getElem?_eq_getElem hi, List.getD_eq_getElem?_getD, List.getElem?_eq_getElem hi]
      rfl
    · have hb2 : b < s.heap.objs.size := by
        have eb : b = it ∨ b = pool := by simpa using hb
        rcases eb with z | z
        · rw [z]; exact hel
        · rw [z]; exact hpl
      rw [upd_ne (Nat.ne_of_lt hb2)]
      exact (hf b hb).1
  done := by
    intro X hP hw hK hc i pins s σ H E I hf st hg
    subst hP hw hK
    have len : xs.length = vs.length := hv.length
    have hi : (pickL (List.range vs.length) r).length ≤ i := by
      have : (pk xs r).length ≤ i := hg
      unfold pk at this
      rwa [List.length_map, len] at this
    have hi2 : (pickL (List.range vs.length) r).length = i := by
      rcases Nat.lt_or_ge (pickL (List.range vs.length) r).length i with z | z
      · obtain ⟨j, rfl⟩ : ∃ j, i = j + 1 := ⟨i - 1, by omega⟩
        obtain ⟨_, _, p, _, e, _⟩ := st
        rw [st_end hn hr (by omega)] at e
        cases e
      · omega
    obtain ⟨f0, f1, f2, f3, f4, f5⟩ := hf it (by simp)
    exact end_pm (I.ok.hd hc) st hn hr hi2 (by omega) fun h2 eb => ⟨rfl, I.turned (t' := s.toks) (fun b o hb q => eb b o hb q) f0 f1 f3 f4 f5⟩
  self := fun A i s Q E st h => iter_pm st h
def iPm (K : PySem.W.Frag) (ta : TA) : TI := fun σ H R => ta σ H fun us H1 => ∃ (a : Addr) (xs : List V) (r : Nat), us = [.ref a, .int r] ∧ SqL K H1 a xs ∧ xs.length < 5 ∧ r ≤ xs.length ∧ R (ItPm xs r) H1
theorem pick_pos : ((List.range 5).all fun n => (List.range (n + 1)).all fun r => decide (0 < (pickL (List.range n) r).length)) = true := by decide +kernel
theorem pi_perm {X : Cx} {K : PySem.W.Frag} (hK : X.K = K) {tg e e2 : Expr} {ta : TA} {p pos : Pos} (hg : Gl X "permutations") (hm : X.mg "permutations" = some (.type "itertools.permutations")) (ha : PA X [e, e2] ta)
    (hs : starEach [e, e2] X.env = (false, eval e X.env) :: starEach [e2] X.env := by rfl) (hpl : (backTo pos (starEach [e2] X.env)).any (·.1) = false := by rfl) : PI X tg (.Call (.Name "permutations" p) [e, e2] [] pos) (iPm K ta) := by
  subst hK
  refine ⟨fun pins s σ H R I h => ?_⟩
  refine Call_ (ld_glob I hg hm (PyProof.Rows.callWith_type1 (thn (ha.run pos pins s σ H _ I h) fun us s1 ⟨vs, H1, I1, r1, q1⟩ => ?_) hs hpl))
  obtain ⟨a, xs, r, ex, hq, h5, hr, q⟩ := q1
  subst ex
  obtain ⟨u1, u2, rfl, ru1, ru2⟩ : ∃ u1 u2, us = [u1, u2] ∧ RelV (.ref a) u1 ∧ RelV (.int r) u2 := by
    cases r1 with
    | cons a1 t1 =>
      cases t1 with
      | cons a2 t2 =>
        cases t2
        exact ⟨_, _, rfl, a1, a2⟩
  obtain rfl : u1 = Value.ref a := ru1
  obtain ⟨t, rfl⟩ := (show ∃ t, u2 = Value.int r t from ru2)
  obtain ⟨its, rv, hl, hz⟩ := I1.list hq
  have len : xs.length = its.length := rv.length
  have h0 : 0 < (pickL (List.range its.length) r).length := of_decide_eq_true (List.all_eq_true.mp (List.all_eq_true.mp pick_pos its.length (List.mem_range.mpr (by omega))) r (List.mem_range.mpr (by omega)))
  refine call_pm (by omega) (by omega) hl.isList fun h2 st hsz hk => iter_pm (s := { s1 with heap := h2 }) st ?_
  have I2 : Inv X pins σ H1 { s1 with heap := h2 } := I1.kept (t' := s1.toks) hk
  refine ⟨s1.heap.objs.size + 2, [s1.heap.objs.size + 2, s1.heap.objs.size + 1], _, _, H1, rfl, I2, turn_pm rv (by omega) (by omega) h0, st, fun b hb => ?_, q⟩
  have hle : s1.heap.objs.size ≤ b := by
    have eb : b = s1.heap.objs.size + 2 ∨ b = s1.heap.objs.size + 1 := by simpa using hb
    rcases eb with z | z <;> (rw [z]; omega)
  exact I1.fpOk hle (I1.hok.fresh hle)
end
end Pm
/-! ### the law's own texts -/
section
variable {P : Program} {w : World} {K : PySem.W.Frag} {mg : Str → Option Value} {base : Heap}
theorem ok_law_taken (T : All K mg) : FnOk P w K mg base CX0 1 T.d_law_taken.f T.d_law_taken.fd ["_law_row", "_law_many"] (spNext K) := by
  refine T.d_law_taken.F.ok sc_law_taken (fun vs H Q E h => ?_) (fun cdv A outer s H vs Q E hr h => ?_)
  · obtain ⟨_, _, d, n, rfl, _⟩ := h
    rfl
  · obtain ⟨a, ns, d, n, rfl, ⟨hS, hl, p, m, g, hp, hd⟩, n1, n2, k⟩ := h
    refine ⟨_, (pss_cons 
      (ps_if (pt_cmpR op_gt (pe_ix ix_list (pv 0) pe_int (fun _ _ => rfl)) pe_int (nomark _)) (pss_cons 
      (ps_set (i := 2) sc_law_taken.nd rfl (Or.inl rfl) (pe_op op_mod (pe_callTy call_int1 (by rfl) T.b_int PyProof.Rows.boot_int (pa_cons (pe_ix ix_list (pv 0) pe_int (fun _ _ => rfl)) pa_nil)) (pv 1))) (pss_cons 
      (ps_asg (pe_op op_fdiv (pe_ix ix_list (pv 0) pe_int (fun _ _ => rfl)) (pv 1)) (pg_sub (pv 0) pe_int set_list)) (pss_one 
      (ps_ret (pv 2))))) pss_nil) (pss_cons 
      (ps_asg (pe_op op_add (pe_ix ix_list (pv 0) pe_int (fun _ _ => rfl)) pe_int) (pg_sub (pv 0) pe_int set_list)) (pss_cons 
      (ps_if (pt_cmpR op_gt (pe_ix ix_list (pv 0) pe_int (fun _ _ => rfl)) (pe_callB call_len (by rfl) T.b_len PySem.boot_len (pa_cons (pe_ix ix_list (pv 0) pe_int (fun _ _ => rfl)) pa_nil)) (nomark _)) (pss_cons 
      (ps_asg (pe_op op_mod (pe_op op_add (pe_op op_mul (pe_ix ix_list (pv 0) pe_int (fun _ _ => rfl)) pe_int) pe_int) pe_int) (pg_sub (pv 0) pe_int set_list)) (pss_one 
      (ps_ret (pe_op op_mod (pe_op op_fdiv (pe_ix ix_list (pv 0) pe_int (fun _ _ => rfl)) pe_int) (pv 1))))) pss_nil) (pss_cons 
      (ps_set (i := 3) sc_law_taken.nd rfl (Or.inl rfl) (pe_ix ix_list (pe_ix ix_list (pv 0) pe_int (fun _ _ => rfl)) (pe_op op_sub (pe_ix ix_list (pv 0) pe_int (fun _ _ => rfl)) pe_int) (fun _ _ => rfl))) (pss_cons 
      (ps_asg (pe_op op_mod (pe_op op_add (pe_op op_add (pe_op op_mul (pe_ix ix_list (pv 0) pe_int (fun _ _ => rfl)) pe_int) (pv 3)) pe_int) pe_int) (pg_sub (pv 0) pe_int set_list)) (pss_cons 
      (ps_if (pt_cmpR op_ge (pv 3) (pe_op op_pow pe_int pe_int) (nomark _)) (pss_one 
      (ps_asg (pe_op op_fdiv (pv 3) (pv 1)) (pg_sub (pv 0) pe_int set_list))) pss_nil) (pss_one 
      (ps_ret (pe_op op_mod (pe_callTy call_int1 (by rfl) T.b_int PyProof.Rows.boot_int (pa_cons (pv 3) pa_nil)) (pv 1)))))))))), ?_⟩
    have i0 : ∀ {x0 x1 x2 x3 : V}, atI [x0, x1, x2, x3] 0 = some x0 := rfl
    have i1 : ∀ {x0 x1 x2 x3 : V}, atI [x0, x1, x2, x3] 1 = some x1 := rfl
    have i2 : ∀ {x0 x1 x2 x3 : V}, atI [x0, x1, x2, x3] 2 = some x2 := rfl
    have i3 : ∀ {x0 x1 x2 x3 : V}, atI [x0, x1, x2, x3] 3 = some x3 := rfl
    have npos : 0 < n := by omega
    refine ⟨_, rfl, d, _, _, _, rfl, rfl, SqL.of hd, i3, _, _, rfl, rfl, _, rfl, ite2 (fun hg => ?_) fun hg => ?_⟩
    · refine ⟨_, rfl, d, _, _, _, rfl, rfl, SqL.of hd, i3, .inl ⟨_, rfl, _, rfl, _, _, rfl, rfl, npos, ?_⟩⟩
      refine ⟨_, rfl, d, _, _, _, rfl, rfl, SqL.of hd, i3, _, rfl, _, _, rfl, rfl, ⟨npos, n2⟩, _, rfl, d, _, _, _, rfl, rfl, hd, rfl, _, rfl, ?_⟩
      exact k _ _ But.put (Dice.put hS hl hp hd) (Int.emod_nonneg _ (by omega)) (Int.emod_lt_of_pos _ npos)
    · refine ⟨_, rfl, d, _, _, _, rfl, rfl, SqL.of hd, i1, _, _, rfl, rfl, _, rfl, d, _, _, _, rfl, rfl, hd, rfl, ?_⟩
      have hd1 : (upd H d (.lst [V.ref a, V.int (p + 1), V.int m, V.int g])) d = some (.lst [V.ref a, V.int (p + 1), V.int m, V.int g]) := upd_same
      have hS1 : SqL K (upd H d (.lst [V.ref a, V.int (p + 1), V.int m, V.int g])) a (ns.map V.int) := sq_but But.put hd hS
      refine ⟨_, rfl, d, _, _, _, rfl, rfl, SqL.of hd1, i1, _, rfl, d, _, _, _, rfl, rfl, SqL.of hd1, i0, _, _, rfl, .inl ⟨_, hS1, rfl⟩, _, _, rfl, rfl, _, rfl, ite2 (fun hc => ?_) fun hc => ?_⟩
      · refine ⟨_, rfl, d, _, _, _, rfl, rfl, SqL.of hd1, i2, _, _, rfl, rfl, .inr ⟨by decide, by decide⟩, _, _, rfl, rfl, _, _, rfl, rfl, (by show (0 : Int) < 2147483647; decide), _, rfl, d, _, _, _, rfl, rfl, hd1, rfl, ?_⟩
        have hd2 : (upd (upd H d (.lst [V.ref a, V.int (p + 1), V.int m, V.int g])) d (.lst [V.ref a, V.int (p + 1), V.int ((m * 48271 + 11) % 2147483647), V.int g])) d = some (.lst [V.ref a, V.int (p + 1), V.int ((m * 48271 + 11) % 2147483647), V.int g]) := upd_same
        refine ⟨_, rfl, d, _, _, _, rfl, rfl, SqL.of hd2, i2, _, _, rfl, rfl, ⟨by decide, by decide⟩, _, rfl, _, _, rfl, rfl, npos, ?_⟩
        exact k _ _ (But.put.trans But.put) (Dice.put hS1 hl (by omega) hd1) (Int.emod_nonneg _ (by omega)) (Int.emod_lt_of_pos _ npos)
      · have hc' : p + 1 ≤ (ns.length : Int) := by
          have := of_decide_eq_false (Bool.not_eq_true _ ▸ hc)
          rw [List.length_map] at this
          omega
        obtain ⟨j, hj⟩ : ∃ j : Nat, p = (j : Int) := ⟨p.toNat, by omega⟩
        have hlt : j < ns.length := by omega
        have hat : atI (ns.map V.int) (p + 1 - 1) = some (V.int ns[j]) := at_of (j := j) (by omega) (by rw [List.getElem?_map, List.getElem?_eq_getElem hlt]; rfl)
        refine ⟨_, rfl, d, _, _, _, rfl, rfl, SqL.of hd1, i0, _, rfl, d, _, _, _, rfl, rfl, SqL.of hd1, i1, _, _, rfl, rfl, a, _, _, _, rfl, rfl, hS1, hat, ?_⟩
        refine ⟨_, rfl, d, _, _, _, rfl, rfl, SqL.of hd1, i2, _, _, rfl, rfl, .inr ⟨by decide, by decide⟩, _, rfl, _, _, rfl, rfl, _, _, rfl, rfl, _, _, rfl, rfl, (by show (0 : Int) < 2147483647; decide), _, rfl, d, _, _, _, rfl, rfl, hd1, rfl, ?_⟩
        have hd2 : (upd (upd H d (.lst [V.ref a, V.int (p + 1), V.int m, V.int g])) d (.lst [V.ref a, V.int (p + 1), V.int ((m * 48271 + ns[j] + 11) % 2147483647), V.int g])) d = some (.lst [V.ref a, V.int (p + 1), V.int ((m * 48271 + ns[j] + 11) % 2147483647), V.int g]) := upd_same
        have hS2 : SqL K (upd (upd H d (.lst [V.ref a, V.int (p + 1), V.int m, V.int g])) d (.lst [V.ref a, V.int (p + 1), V.int ((m * 48271 + ns[j] + 11) % 2147483647), V.int g])) a (ns.map V.int) := sq_but But.put hd1 hS1
        refine ⟨_, rfl, _, _, rfl, rfl, ⟨by decide, by decide, by decide⟩, _, _, rfl, rfl, _, rfl, ite2 (fun hb => ?_) fun hb => ?_⟩
        · refine ⟨_, rfl, _, rfl, _, _, rfl, rfl, ⟨npos, n2⟩, _, rfl, d, _, _, _, rfl, rfl, hd2, rfl, ?_⟩
          refine ⟨_, rfl, .inl ⟨_, rfl, _, rfl, _, _, rfl, rfl, npos, ?_⟩⟩
          exact k _ _ (But.put.trans (But.put.trans But.put)) (Dice.put hS2 hl (by omega) hd2) (Int.emod_nonneg _ (by omega)) (Int.emod_lt_of_pos _ npos)
        · refine ⟨_, rfl, .inl ⟨_, rfl, _, rfl, _, _, rfl, rfl, npos, ?_⟩⟩
          exact k _ _ (But.put.trans But.put) (Dice.put hS1 hl (by omega) hd1) (Int.emod_nonneg _ (by omega)) (Int.emod_lt_of_pos _ npos)
end
def rEqEmpty68 : R2 := fun x y H Q => ∃ a b xs, x = .ref a ∧ y = .ref b ∧ H a = some (.lst xs) ∧ H b = some (.lst []) ∧ Q (.bl xs.isEmpty) H
theorem op_eqEmpty68 {X : Cx} (hu : X.A.units + 64 < cLine) : OpR X (compareOp .Eq) rEqEmpty68 := by
  intro pins s σ H x y v u Q I rx ry h
  obtain ⟨a, b, xs, rfl, rfl, ha, hb, q⟩ := h
  cases (show v = Value.ref a from rx)
  cases (show u = Value.ref b from ry)
  obtain ⟨us, r1, p1, _⟩ := I.list (SqL.of ha)
  obtain ⟨ws, r2, p2, _⟩ := I.list (SqL.of hb)
  cases r2
  cases r1 with
  | nil =>
    have z := SeqAt.RcAt.lists (A := X.A) (e := fun _ => true) p1.isList p2.isList rfl (by omega) (fun j h1 => absurd h1 (Nat.not_lt_zero j))
    exact z X.prog X.w _ _ ⟨.bl true, H, I, rfl, q⟩
  | cons c t =>
    have z := SeqAt.RcAt.lists_lengths (A := X.A) p1.isList p2.isList (by simp) (by omega)
    exact z X.prog X.w _ _ ⟨.bl false, H, I, rfl, q⟩
theorem b8_oneG {n : Int} (h : 0 ≤ n ∧ n < 256) : B8 [n] := fun x hx => by rw [List.mem_singleton.mp hx]; exact h
/-- the drawn numbers of an edition: what is told so far is a list of such lists -/
def spNumbersG (K : PySem.W.Frag) : Sp := fun vs H Q _ => ∃ (a : Addr) (ns : List Int) (d q : Addr) (bs : List (Addr × List Int)), vs = [.ref d, .ref q] ∧ Dice K a ns H d ∧ q ≠ d ∧ H q = some (.lst (bs.map fun b => V.ref b.1)) ∧ bs.length ≤ 1000 ∧ (∀ b ∈ bs, b.1 ≠ d ∧ H b.1 = some (.lst (b.2.map V.int)) ∧ B8 b.2 ∧ b.2.length ≤ 13) ∧
  ∀ H' p es', But d H H' → Dice K a ns H' d → H p = none → H' p = some (.lst (es'.map V.int)) → B8 es' → es'.length ≤ 13 → Q (.ref p) H'
theorem cutV_ints (es : List Int) (lo hi : Option Int) : ∃ es' : List Int, cutV (es.map V.int) lo hi = es'.map V.int ∧ es'.length ≤ es.length ∧ ∀ x ∈ es', x ∈ es := by
  unfold cutV
  refine ⟨(es.drop (HT.sIx (es.map V.int).length 0 lo)).take (HT.sIx (es.map V.int).length (es.map V.int).length hi - HT.sIx (es.map V.int).length 0 lo), by rw [List.map_take, List.map_drop], ?_, fun x hx => List.mem_of_mem_drop (List.mem_of_mem_take hx)⟩
  rw [List.length_take, List.length_drop]
  omega
section
variable {P : Program} {w : World} {K : PySem.W.Frag} {mg : Str → Option Value} {base : Heap}
theorem ok_law_numbers (T : All K mg) : FnOk P w K mg base CX0 2 T.d_law_numbers.f T.d_law_numbers.fd ["_law_row", "_law_some"] (spNumbersG K) := by
  have G_law_taken : FnOk P w K mg base CX0 1 T.d_law_taken.f T.d_law_taken.fd ["_law_row", "_law_many"] (spNext K) := ok_law_taken T
  refine T.d_law_numbers.F.ok sc_law_numbers (fun vs H Q E h => ?_) (fun cdv A outer s H vs Q E hr h => ?_)
  · obtain ⟨_, _, _, _, _, rfl, _⟩ := h
    rfl
  · obtain ⟨a, ns, d, q, bs, rfl, D, qd, hq, bl, hbs, k⟩ := h
    refine ⟨_, (pss_cons (ps_join 
      (ps_if (PW.pt (pw_or (pt_cmpR (op_eqEmpty68 hr.units) (pv 1) (pe_lst pa_nil) (nomark _)) (pw_or1 (pt_cmpR op_eq (pe_call G_law_taken (hr.mono (by decide)) rfl T.d_law_taken.m T.d_law_taken.F.kp T.d_law_taken.b .nil pass0 (pa_cons (pv 0) (pa_cons pe_int pa_nil))) pe_int (nomark _))))) (pss_cons 
      (ps_set (i := 2) sc_law_numbers.nd rfl (Or.inr rfl) (pe_ix ix_list (pe_lst (pa_cons pe_int (pa_cons pe_int (pa_cons pe_int pa_nil)))) (pe_call G_law_taken (hr.mono (by decide)) rfl T.d_law_taken.m T.d_law_taken.F.kp T.d_law_taken.b .nil pass0 (pa_cons (pv 0) (pa_cons pe_int pa_nil))) (fun _ _ => rfl))) (pss_one 
      (ps_ret (pe_lc (own := [("_law_k", 3)]) (g := gName 3) (tt := tYes) rfl sc_law_numbers.nd (pi_range1 (by rfl) T.b_range (pa_cons (pe_call G_law_taken (hr.mono (by decide)) rfl T.d_law_taken.m T.d_law_taken.F.kp T.d_law_taken.b .nil pass0 (pa_cons (pv 0) (pa_cons pe_int pa_nil))) pa_nil)) (blkOk_by (own := [("_law_k", 3)]) (N := ["_law_row", "_law_some", "_law_kinds", "_law_k", "_law_base", "_law_parts", "_law_begin"]) (sc := defScope s_law_numbers) (by decide +kernel)) (fun _ _ _ _ _ => (pg_name (i := 3) sc_law_numbers.nd rfl (Or.inl rfl))) (fun _ _ _ _ _ => pts_nil) (fun _ _ _ _ _ => (pe_call G_law_taken (hr.mono (by decide)) rfl T.d_law_taken.m T.d_law_taken.F.kp T.d_law_taken.b .nil pass0 (pa_cons (pv 0) (pa_cons (pv 2) pa_nil)))))))) pss_nil)) (pss_cons 
      (ps_par (i := 4) (j := 5) (by rfl) sc_law_numbers.nd rfl rfl (by decide) rfl rfl (pa_cons (pe_ix ix_list (pv 1) (pe_call G_law_taken (hr.mono (by decide)) rfl T.d_law_taken.m T.d_law_taken.F.kp T.d_law_taken.b .nil pass0 (pa_cons (pv 0) (pa_cons (pe_callB call_len (by rfl) T.b_len PySem.boot_len (pa_cons (pv 1) pa_nil)) pa_nil))) (fun _ _ => rfl)) (pa_cons (pe_lst pa_nil) pa_nil)) (by rfl)) (pss_cons 
      (ps_for PassesOwn.never rfl (pi_range1 (by rfl) T.b_range (pa_cons (pe_op op_add pe_int (pe_call G_law_taken (hr.mono (by decide)) rfl T.d_law_taken.m T.d_law_taken.F.kp T.d_law_taken.b .nil pass0 (pa_cons (pv 0) (pa_cons pe_int pa_nil)))) pa_nil)) (pg_name (i := 3) sc_law_numbers.nd rfl (Or.inl rfl)) (pss_cons 
      (ps_set (i := 6) sc_law_numbers.nd rfl (Or.inl rfl) (pe_call G_law_taken (hr.mono (by decide)) rfl T.d_law_taken.m T.d_law_taken.F.kp T.d_law_taken.b .nil pass0 (pa_cons (pv 0) (pa_cons (pe_op op_add (pe_callB call_len (by rfl) T.b_len PySem.boot_len (pa_cons (pv 4) pa_nil)) pe_int) pa_nil)))) (pss_one 
      (ps_set (i := 5) sc_law_numbers.nd rfl (Or.inl rfl) (pe_op op_cat (pe_op op_cat (pv 5) (pe_slice sl_list (pv 4) (po_some (pv 6)) (po_some (pe_op op_add (pv 6) (pe_call G_law_taken (hr.mono (by decide)) rfl T.d_law_taken.m T.d_law_taken.F.kp T.d_law_taken.b .nil pass0 (pa_cons (pv 0) (pa_cons pe_int pa_nil))))))) (pe_op op_rep (pe_lst (pa_cons (pe_call G_law_taken (hr.mono (by decide)) rfl T.d_law_taken.m T.d_law_taken.F.kp T.d_law_taken.b .nil pass0 (pa_cons (pv 0) (pa_cons pe_int pa_nil))) pa_nil)) (pe_call G_law_taken (hr.mono (by decide)) rfl T.d_law_taken.m T.d_law_taken.F.kp T.d_law_taken.b .nil pass0 (pa_cons (pv 0) (pa_cons pe_int pa_nil))))))))) (pss_one 
      (ps_ret (pe_slice sl_list (pv 5) po_none (po_some pe_int))))))), ?_⟩
    refine ⟨fun σ H' => σ = [some (.ref d), some (.ref q), none, none, none, none, none] ∧ But d H H' ∧ Dice K a ns H' d ∧ bs ≠ [], ?_, ?_⟩
    · have em : ((bs.map fun b => V.ref b.1).isEmpty) = bs.isEmpty := by cases bs <;> rfl
      refine ⟨_, rfl, sizeS (by show 0 ≤ 100000; decide), fun y hy => ⟨q, y, bs.map fun b => V.ref b.1, rfl, rfl, Same.new hy _ _ hq, upd_same, ?_⟩⟩
      rw [em]
      have Dy := D.same (Same.new (o := .lst []) hy)
      have by' : But d H (upd H y (.lst [])) := But.new hy
      generalize upd H y (.lst []) = Hy at Dy by'
      cases eb : bs with
      | nil =>
        have D1 := Dy
        have b1 := by'
        refine ⟨_, rfl, (if_pos (rfl : true = true)).mpr ((if_pos (rfl : true = true)).mpr ?_)⟩
        generalize Hy = H1 at D1 b1
        refine ⟨sizeS (by show 3 ≤ 100000; decide), fun q1 hq1 => ⟨_, rfl, a, ns, d, 3, rfl, D1.same (Same.new hq1), by decide, by decide, fun H2 r b2 D2 r0 r1 => ?_⟩⟩
        have nq1 : q1 ≠ d := D1.ne hq1
        have hk2 := b2 _ _ nq1 (upd_same (H := H1) (a := q1) (o := .lst [V.int 2, V.int 5, V.int 256]))
        obtain ⟨kd, kat, k1, k2⟩ : ∃ kd : Int, atI [V.int 2, V.int 5, V.int 256] r = some (.int kd) ∧ 1 ≤ kd ∧ kd ≤ 256 := by
          have : r = 0 ∨ r = 1 ∨ r = 2 := by omega
          rcases this with rfl | rfl | rfl
          · exact ⟨2, rfl, by decide, by decide⟩
          · exact ⟨5, rfl, by decide, by decide⟩
          · exact ⟨256, rfl, by decide, by decide⟩
        refine ⟨q1, _, r, _, rfl, rfl, SqL.of hk2, kat, ?_⟩
        have b02 : But d H H2 := (b1.trans (But.new hq1)).trans b2
        refine ⟨_, rfl, a, ns, d, 13, rfl, D2, by decide, by decide, fun H3 n b3 D3 n0 n1 => ⟨n, rfl, by omega, by omega, fun C hC => lc_range (lo := 0) (n := n.toNat) (fun m H4 => ∃ es : List Int, But d H3 H4 ∧ Dice K a ns H4 d ∧ H4 C = some (.lst (es.map V.int)) ∧ es.length = m ∧ B8 es)
          ⟨[], Same.but (Same.new hC), D3.same (Same.new hC), upd_same, rfl, fun _ h => (List.not_mem_nil h).elim⟩ ?_ ?_⟩⟩
        · rintro m H4 hm ⟨es, b4, D4, hc, el, eb⟩
          have hCd : C ≠ d := D3.ne hC
          refine ⟨rfl, ?_⟩
          unfold tYes
          refine (if_pos (rfl : true = true)).mpr ⟨_, rfl, _, rfl, a, ns, d, kd, rfl, D4, by omega, by omega, fun H5 z b5 D5 z0 z1 => ?_⟩
          have hc5 := b5 _ _ hCd hc
          refine ⟨_, hc5, sizeL (by rw [List.length_map]; omega), es ++ [z], But.fresh (b4.trans b5) hC, Dice.fresh D3 (b4.trans b5) hC D5, ?_, by rw [List.length_append, el]; rfl, eb.app (b8_oneG (by omega))⟩
          rw [upd_same, List.map_append]
          rfl
        · rintro H4 ⟨es, b4, D4, hc, el, eb⟩
          have hC0 : H C = none := by
            cases z : H C with
            | none => rfl
            | some o =>
              have := (b02.trans b3) C o (D3.ne hC) z
              rw [hC] at this
              cases this
          exact k H4 C es ((b02.trans b3).trans b4) D4 hC0 hc eb (by omega)
      | cons b0 bs0 =>
        refine ⟨_, rfl, (if_neg (show ¬ false = true by decide)).mpr ?_⟩
        refine ⟨_, rfl, a, ns, d, 3, rfl, Dy, by decide, by decide, fun H1 r3 b13 D1 _ _ => ⟨rfl, _, rfl, ite2 (fun h => ?_) fun h => ?_⟩⟩
        · have b1 := by'.trans b13
          clear b13 by' Dy
          refine ⟨sizeS (by show 3 ≤ 100000; decide), fun q1 hq1 => ⟨_, rfl, a, ns, d, 3, rfl, D1.same (Same.new hq1), by decide, by decide, fun H2 r b2 D2 r0 r1 => ?_⟩⟩
          have nq1 : q1 ≠ d := D1.ne hq1
          have hk2 := b2 _ _ nq1 (upd_same (H := H1) (a := q1) (o := .lst [V.int 2, V.int 5, V.int 256]))
          obtain ⟨kd, kat, k1, k2⟩ : ∃ kd : Int, atI [V.int 2, V.int 5, V.int 256] r = some (.int kd) ∧ 1 ≤ kd ∧ kd ≤ 256 := by
            have : r = 0 ∨ r = 1 ∨ r = 2 := by omega
            rcases this with rfl | rfl | rfl
            · exact ⟨2, rfl, by decide, by decide⟩
            · exact ⟨5, rfl, by decide, by decide⟩
            · exact ⟨256, rfl, by decide, by decide⟩
          refine ⟨q1, _, r, _, rfl, rfl, SqL.of hk2, kat, ?_⟩
          have b02 : But d H H2 := (b1.trans (But.new hq1)).trans b2
          refine ⟨_, rfl, a, ns, d, 13, rfl, D2, by decide, by decide, fun H3 n b3 D3 n0 n1 => ⟨n, rfl, by omega, by omega, fun C hC => lc_range (lo := 0) (n := n.toNat) (fun m H4 => ∃ es : List Int, But d H3 H4 ∧ Dice K a ns H4 d ∧ H4 C = some (.lst (es.map V.int)) ∧ es.length = m ∧ B8 es)
            ⟨[], Same.but (Same.new hC), D3.same (Same.new hC), upd_same, rfl, fun _ h => (List.not_mem_nil h).elim⟩ ?_ ?_⟩⟩
          · rintro m H4 hm ⟨es, b4, D4, hc, el, eb⟩
            have hCd : C ≠ d := D3.ne hC
            refine ⟨rfl, ?_⟩
            unfold tYes
            refine (if_pos (rfl : true = true)).mpr ⟨_, rfl, _, rfl, a, ns, d, kd, rfl, D4, by omega, by omega, fun H5 z b5 D5 z0 z1 => ?_⟩
            have hc5 := b5 _ _ hCd hc
            refine ⟨_, hc5, sizeL (by rw [List.length_map]; omega), es ++ [z], But.fresh (b4.trans b5) hC, Dice.fresh D3 (b4.trans b5) hC D5, ?_, by rw [List.length_append, el]; rfl, eb.app (b8_oneG (by omega))⟩
            rw [upd_same, List.map_append]
            rfl
          · rintro H4 ⟨es, b4, D4, hc, el, eb⟩
            have hC0 : H C = none := by
              cases z : H C with
              | none => rfl
              | some o =>
                have := (b02.trans b3) C o (D3.ne hC) z
                rw [hC] at this
                cases this
            exact k H4 C es ((b02.trans b3).trans b4) D4 hC0 hc eb (by omega)
        · exact ⟨rfl, by'.trans b13, D1, by simp⟩
    rintro σ H1 ⟨rfl, b1, D1, ne⟩
    have hq1 := b1 _ _ qd hq
    have bpos : 0 < bs.length := List.length_pos_iff.mpr ne
    refine ⟨_, rfl, _, rfl, _, rfl, _, bs.length, rfl, .inl ⟨_, SqL.of hq1, by rw [List.length_map]⟩, a, ns, d, bs.length, rfl, D1, by omega, by omega, fun H2 r b2 D2 r0 r1 => ?_⟩
    obtain ⟨rn, rfl⟩ : ∃ rn : Nat, r = (rn : Int) := ⟨r.toNat, by omega⟩
    have rl : rn < bs.length := by omega
    obtain ⟨⟨b, es⟩, hbe⟩ : ∃ x, bs[rn]? = some x := ⟨_, List.getElem?_eq_getElem rl⟩
    obtain ⟨bd, hb, b8, l13⟩ := hbs _ (List.mem_of_getElem? hbe)
    have bd : b ≠ d := bd
    have hb : H b = some (.lst (es.map V.int)) := hb
    have b8 : B8 es := b8
    have l13 : es.length ≤ 13 := l13
    have hb1 := b1 _ _ bd hb
    have hq2 := b2 _ _ qd hq1
    have hb2 := b2 _ _ bd hb1
    refine ⟨q, _, (rn : Int), _, rfl, rfl, SqL.of hq2, at_of (j := rn) rfl (by rw [List.getElem?_map, hbe]; rfl), sizeS (by show 0 ≤ 100000; decide), fun p0 hp0 => ⟨_, _, rfl, ?_⟩⟩
    have D3 := D2.same (Same.new (o := .lst []) hp0)
    have b03 : But d H (upd H2 p0 (.lst [])) := (b1.trans b2).trans (But.new hp0)
    have hb3 := Same.new (o := .lst []) hp0 _ _ hb2
    have hp3 : (upd H2 p0 (.lst [])) p0 = some (.lst []) := upd_same
    have np0 : p0 ≠ d := D2.ne hp0
    generalize upd H2 p0 (.lst []) = H3 at D3 b03 hb3 hp3
    refine ⟨_, rfl, a, ns, d, 3, rfl, D3, by decide, by decide, fun H4 n b4 D4 n0 n1 => ⟨1, n, rfl, rfl, 1 + n, rfl, by omega, by omega, for_range (lo := 0) (n := (1 + n).toNat) (fun i σ H5 => ∃ (pA : Addr) (parts : List Int) (v3 v6 : Option V), σ = [some (.ref d), some (.ref q), none, v3, some (.ref b), some (.ref pA), v6] ∧ But d H H5 ∧ Dice K a ns H5 d ∧ H5 pA = some (.lst (parts.map V.int)) ∧ pA ≠ d ∧ H5 b = some (.lst (es.map V.int)) ∧ B8 parts ∧ parts.length ≤ 30 * i)
      ⟨p0, [], none, none, rfl, b03.trans b4, D4, b4 _ _ np0 hp3, np0, b4 _ _ bd hb3, fun _ h => (List.not_mem_nil h).elim, Nat.zero_le _⟩ ?_ ?_⟩⟩
    · rintro i σ H5 hi ⟨pA, parts, v3, v6, rfl, b5, D5, hpA, npA, hb5, pb, pl⟩
      refine ⟨_, rfl, _, rfl, _, es.length, rfl, .inl ⟨_, SqL.of hb5, by rw [List.length_map]⟩, _, _, rfl, rfl, a, ns, d, (es.length : Int) + 1, rfl, D5, by omega, by omega, fun H6 bg b6 D6 g0 g1 => ?_⟩
      refine ⟨_, rfl, _, rfl, _, rfl, bg, rfl, _, rfl, _, rfl, a, ns, d, 9, rfl, D6, by decide, by decide, fun H7 n9 b7 D7 m0 m1 => ⟨_, _, rfl, rfl, _, rfl, ?_⟩⟩
      have b07 := (b5.trans b6).trans b7
      have hpA7 := b7 _ _ npA (b6 _ _ npA hpA)
      have hb7 := b7 _ _ bd (b6 _ _ bd hb5)
      obtain ⟨e1, ec, el1, em1⟩ := cutV_ints es (some bg) (some (bg + n9))
      refine ⟨b, _, rfl, SqL.of hb7, fun p1 hp1 => ?_⟩
      rw [ec]
      refine ⟨pA, p1, _, _, rfl, rfl, Same.new hp1 _ _ hpA7, upd_same, sizeS (by rw [List.length_map, List.length_map]; omega), fun p2 hp2 => ?_⟩
      rw [← List.map_append]
      have s2 := (Same.new (o := .lst (e1.map V.int)) hp1).trans (Same.new (o := .lst ((parts ++ e1).map V.int)) hp2)
      have D8 := D7.same s2
      have b08 := b07.trans (Same.but (d := d) s2)
      have hb8 := s2 _ _ hb7
      have np2 : p2 ≠ d := (D7.same (Same.new hp1)).ne hp2
      have h2 : (upd (upd H7 p1 (.lst (e1.map V.int))) p2 (.lst ((parts ++ e1).map V.int))) p2 = some (.lst ((parts ++ e1).map V.int)) := upd_same
      generalize upd (upd H7 p1 (.lst (e1.map V.int))) p2 (.lst ((parts ++ e1).map V.int)) = H8 at D8 b08 hb8 h2
      refine ⟨_, rfl, a, ns, d, 5, rfl, D8, by decide, by decide, fun H9 z b9 D9 z0 z1 => ⟨sizeS (by show 1 ≤ 100000; decide), fun p3 hp3 => ?_⟩⟩
      have np3 : p3 ≠ d := D9.ne hp3
      refine ⟨_, rfl, a, ns, d, 3, rfl, D9.same (Same.new hp3), by decide, by decide, fun H10 t b10 D10 t0 t1 => ?_⟩
      have h3 := b10 _ _ np3 (upd_same (H := H9) (a := p3) (o := .lst [V.int z]))
      have b010 : But d H H10 := ((b08.trans b9).trans (But.new hp3)).trans b10
      have h210 := b10 _ _ np2 (Same.new (o := .lst [V.int z]) hp3 _ _ (b9 _ _ np2 h2))
      have hb10 := b10 _ _ bd (Same.new (o := .lst [V.int z]) hp3 _ _ (b9 _ _ bd hb8))
      refine ⟨p3, t, [V.int z], rfl, rfl, h3, by omega, by omega, sizeS (by show 1 * _ ≤ 100000; omega), fun p4 hp4 => ?_⟩
      have er : (List.replicate t.toNat [V.int z]).flatten = (List.replicate t.toNat z).map V.int := by
        rw [List.map_replicate]
        induction t.toNat with
        | zero => rfl
        | succ n ih => rw [List.replicate_succ, List.flatten_cons, ih, List.replicate_succ]; rfl
      rw [er]
      refine ⟨p2, p4, _, _, rfl, rfl, Same.new hp4 _ _ h210, upd_same, sizeS (by rw [List.length_map, List.length_map, List.length_append, List.length_replicate]; omega), fun p5 hp5 => ?_⟩
      rw [← List.map_append]
      have s5 := (Same.new (o := .lst ((List.replicate t.toNat z).map V.int)) hp4).trans (Same.new (o := .lst ((parts ++ e1 ++ List.replicate t.toNat z).map V.int)) hp5)
      refine ⟨p5, parts ++ e1 ++ List.replicate t.toNat z, _, _, rfl, b010.trans (Same.but s5), D10.same s5, upd_same, (D10.same (Same.new hp4)).ne hp5, s5 _ _ hb10, ?_, ?_⟩
      · refine (pb.app fun x hx => b8 x (em1 x hx)).app fun x hx => ?_
        rw [(List.mem_replicate.mp hx).2]
        omega
      · rw [List.length_append, List.length_append, List.length_replicate]
        omega
    · rintro σ H5 ⟨pA, parts, v3, v6, rfl, b5, D5, hpA, npA, hb5, pb, pl⟩
      refine ⟨_, rfl, 13, rfl, pA, _, rfl, SqL.of hpA, fun p hp => ?_⟩
      have ec : cutV (parts.map V.int) none (some 13) = (parts.take 13).map V.int := by
        show ((parts.map V.int).drop 0).take (HT.sIx _ _ (some 13) - 0) = _
        rw [List.drop_zero, Nat.sub_zero, List.map_take]
        show (parts.map V.int).take (if (13 : Int) < 0 then ((13 : Int) + ((parts.map V.int).length : Int)).toNat else min (13 : Int).toNat (parts.map V.int).length) = _
        rw [if_neg (by decide), List.length_map]
        by_cases q : parts.length ≤ 13
        · rw [Nat.min_eq_right (by show parts.length ≤ 13; exact q), List.take_of_length_le (by rw [List.length_map]; exact Nat.le_refl _), List.take_of_length_le (by rw [List.length_map]; exact q)]
        · rw [Nat.min_eq_left (by show 13 ≤ parts.length; omega)]
          rfl
      rw [ec]
      have hp0' : H p = none := by
        cases z : H p with
        | none => rfl
        | some o =>
          have := b5 p o (D5.ne hp) z
          rw [hp] at this
          cases this
      exact k _ p (parts.take 13) (b5.trans (But.new hp)) (D5.same (Same.new hp)) hp0' upd_same (fun x hx => pb x (List.mem_of_mem_take hx)) (by rw [List.length_take]; omega)
end
/-! ### enumerate(zip(tuple, list)) -/
abbrev ZG (h : Heap) (z TI TO : Addr) (f0 : Value) (fl : Bool) : Prop :=
  h.get? z = some { cls := .type "zip", dict := none, data := .fields #[f0, .bool fl, .bool false, .ref TI, .ref TO], slots := #[] }
section
variable {prog : Program} {w : World} {A : Around} {E : Value → Shared → Prop} {s : Shared} {z TI TO i1 i2 : Addr} {fp1 fp2 : List Addr} {n1 n2 i : Nat} {P1 P2 : Nat → Value → Prop} {St1 St2 : Nat → Heap → Prop} {a1 a2 f0 : Value} {fl : Bool}
theorem wpAny_alive {a : Addr} {Q : Option Obj → Shared → Prop} (h : Q (s.heap.get? a) s) : wpAny (model prog w) A (loadIfAlive a) Q E s := fun _ _ _ => h
theorem zg_free {Q : Bool → Shared → Prop} (hz : ZG s.heap z TI TO f0 fl) (hf : f0 = .none ∨ ∃ a : Int, f0 = rawInt a) (h1 : Q true s)
    (h2 : (∃ a : Int, f0 = rawInt a) → ∀ h', ZG h' z TI TO f0 true → Heap.SameBut z s.heap h' → Q false { s with heap := h' }) : wpAny (model prog w) A (Builtin.SmallTypes.ownedTupleIsFree (.ref z)) Q E s := by
  unfold Builtin.SmallTypes.ownedTupleIsFree
  rcases hf with rfl | ⟨a, rfl⟩
  · exact wpAny_bind (wpAny_field hz rfl (x := .none) rfl (wpAny_pure h1))
  · refine wpAny_bind (wpAny_field hz rfl (x := rawInt a) rfl ?_)
    show wpAny _ _ (loadIfAlive a.toNat >>= _) _ _ _
    refine wpAny_bind (wpAny_alive ?_)
    cases e : s.heap.get? a.toNat with
    | none => exact wpAny_pure h1
    | some o =>
      show wpAny _ _ (field (.ref z) 1 >>= _) _ _ _
      refine wpAny_bind (wpAny_field hz rfl (x := .bool fl) rfl ?_)
      cases fl with
      | true => exact wpAny_pure (h2 ⟨a, rfl⟩ s.heap hz ⟨rfl, fun _ _ => rfl⟩)
      | false =>
        show wpAny _ _ (setField (.ref z) 1 (.bool true) >>= _) _ _ _
        refine wpAny_bind (wpAny_setField_rec hz (by simp) fun h' hz' hs' => ?_)
        exact wpAny_pure (h2 ⟨a, rfl⟩ h' hz' hs')
theorem zg_item {Q : Value → Shared → Prop} (S : ZipSep2 z TI TO i1 i2 fp1 fp2) (D1 : Draws prog w A i1 fp1 n1 P1 St1) (D2 : Draws prog w A i2 fp2 n2 P2 St2)
    (hz : ZG s.heap z TI TO f0 fl) (hf : f0 = .none ∨ ∃ a : Int, f0 = rawInt a) (hTI : IsTupOf2 s.heap TI (.ref i1) (.ref i2)) (hTO : IsTupOf2 s.heap TO a1 a2) (st1 : St1 i s.heap) (st2 : St2 i s.heap) (hlt1 : i < n1) (hlt2 : i < n2)
    (hQ : ∀ x1 x2 h' tk, P1 i x1 → P2 i x2 → (∃ f0' fl', ZG h' z TI TO f0' fl' ∧ ∃ a : Int, f0' = rawInt a) → (∃ y1 y2, IsTupOf2 h' TO y1 y2) → St1 (i + 1) h' → St2 (i + 1) h' → IsTupOf2 h' s.heap.objs.size x1 x2 → h'.objs.size = s.heap.objs.size + 1 →
      (∀ c o, c ≠ z → c ≠ TO → c ≠ i1 → c ≠ i2 → s.heap.get? c = some o → h'.get? c = some o) → Q (.ref s.heap.objs.size) { s with heap := h', toks := tk }) :
    wpAny (model prog w) A (Builtin.«zip.__next__» ⟨[.ref z], []⟩) (fun fin s' => ∃ v, fin = .done (.ret v) ∧ Q v s') E s := by
  obtain ⟨hp, g, d, tk0, os⟩ := s
  show wpAny _ _ (field (.ref z) 2 >>= _) _ _ _
  refine wpAny_bind (wpAny_field hz rfl (x := .bool false) rfl ?_)
  show wpAny _ _ (field (.ref z) 3 >>= _) _ _ _
  refine wpAny_bind (wpAny_field hz rfl (x := .ref TI) rfl ?_)
  refine wpAny_bind (wpAny_seqItems hTI rfl ?_)
  show wpAny _ _ (Builtin.SmallTypes.ownedTupleIsFree (.ref z) >>= _) _ _ _
  refine wpAny_bind (zg_free hz hf ?_ fun ha h0 hz0 hs0 => ?_)
  · -- the tuple that it had is free
    simp only [if_true]
    refine wpAny_bind (wpAny_rule (wpAny_bind (wpAny_field hz rfl (x := .ref TO) rfl ?_)))
    refine wpAny_bind (wpAny_setField_rec hz (by simp) fun g0 hz0 hs0 => ?_)
    replace hz0 : ZG g0 z TI TO .ellipsis fl := hz0
    refine wpAny_bind ?_
    simp only [List.zipIdx_cons, List.zipIdx_nil, List.forIn_cons, List.forIn_nil]
    refine wpAny_bind (wpAny_bind (wpAny_onRaise (show wpAny _ _ (Builtin.SmallTypes.nextOf (.ref i1) >>= _) _ _ ⟨g0, g, d, tk0, os⟩ from ?_)))
    refine wpAny_bind (D1.item i _ _ _ hlt1 (D1.over st1 hs0 S.zf1) fun x1 p1 tk1 hx1 sn1 hp1 => wpAny_pure ?_)
    have hU1 : IsTupOf2 p1 TO a1 a2 := Heap.SameBut.extBut hp1 _ _ S.Ti1 (Heap.SameBut.extBut hs0 _ _ S.TOz hTO)
    refine wpAny_bind (wpAny_seqItems (s := ⟨p1, g, d, tk1, os⟩) hU1 rfl (wpAny_bind (updateSeq_IsTupOf2 (s := ⟨p1, g, d, tk1, os⟩) hU1 fun g1 hT1 hs1 => wpAny_bind (wpAny_letGo (wpAny_pure ?_)))))
    replace hT1 : IsTupOf2 g1 TO x1 a2 := hT1
    refine wpAny_bind (wpAny_bind (wpAny_onRaise (show wpAny _ _ (Builtin.SmallTypes.nextOf (.ref i2) >>= _) _ _ ⟨g1, g, d, tk1, os⟩ from ?_)))
    refine wpAny_bind (D2.item i _ _ _ hlt2 (D2.over (D2.over (D2.over st2 hs0 S.zf2) hp1 S.sep1_2) hs1 S.Tf2) fun x2 p2 tk2 hx2 sn2 hp2 => wpAny_pure ?_)
    have hU2 : IsTupOf2 p2 TO x1 a2 := Heap.SameBut.extBut hp2 _ _ S.Ti2 hT1
    refine wpAny_bind (wpAny_seqItems (s := ⟨p2, g, d, tk2, os⟩) hU2 rfl (wpAny_bind (updateSeq_IsTupOf2 (s := ⟨p2, g, d, tk2, os⟩) hU2 fun g2 hT2 hs2 => wpAny_bind (wpAny_letGo (wpAny_pure (wpAny_pure ?_))))))
    replace hT2 : IsTupOf2 g2 TO x1 x2 := hT2
    refine wpAny_bind (wpAny_seqItems (s := ⟨g2, g, d, tk2, os⟩) hT2 rfl (wpAny_bind (wpAny_newTuple ?_)))
    have e0 := hs0.1
    have e1 := hp1.1
    have e2 := hs1.1
    have e3 := hp2.1
    have e4 := hs2.1
    have hsz : g2.objs.size = hp.objs.size := by rw [e4, e3, e2, e1, e0]
    have hkk : ∀ c o, c ≠ z → c ≠ TO → c ≠ i1 → c ≠ i2 → hp.get? c = some o → g2.get? c = some o := fun c o cz cT c1 c2 e =>
      Heap.SameBut.extBut hs2 _ _ cT (Heap.SameBut.extBut hp2 _ _ c2 (Heap.SameBut.extBut hs1 _ _ cT (Heap.SameBut.extBut hp1 _ _ c1 (Heap.SameBut.extBut hs0 _ _ cz e))))
    have hzz : ZG g2 z TI TO .ellipsis fl := Heap.SameBut.extBut hs2 _ _ S.TOz.symm (Heap.SameBut.extBut hp2 _ _ S.zi2 (Heap.SameBut.extBut hs1 _ _ S.TOz.symm (Heap.SameBut.extBut hp1 _ _ S.zi1 hz0)))
    have hj1 : St1 (i + 1) g2 := D1.over (D1.over (D1.over sn1 hs1 S.Tf1) hp2 S.sep2_1) hs2 S.Tf1
    have hj2 : St2 (i + 1) g2 := D2.over sn2 hs2 S.Tf2
    have hzlt : z < g2.objs.size := Heap.lt_size hzz
    show wpAny _ _ (Builtin.SmallTypes.ownedTupleHandOut (.ref z) (.ref g2.objs.size) >>= _) _ _ ⟨g2.push { cls := .type "tuple", data := .seq #[x1, x2] }, g, d, tk2, os⟩
    unfold Builtin.SmallTypes.ownedTupleHandOut
    have hz6 : ZG (g2.push { cls := .type "tuple", data := .seq #[x1, x2] }) z TI TO .ellipsis fl := Heap.get?_push_of_some _ hzz
    refine wpAny_bind (wpAny_bind (wpAny_setField_rec hz6 (by simp) fun h7 hz7 hs7 => ?_))
    replace hz7 : ZG h7 z TI TO (rawInt g2.objs.size) fl := hz7
    refine wpAny_setField_rec hz7 (by simp) fun h8 hz8 hs8 => ?_
    replace hz8 : ZG h8 z TI TO (rawInt g2.objs.size) false := hz8
    have up : ∀ c o, c ≠ z → g2.get? c = some o → h8.get? c = some o := fun c o c1 e => Heap.SameBut.extBut hs8 _ _ c1 (Heap.SameBut.extBut hs7 _ _ c1 (Heap.get?_push_of_some _ e))
    have hT8 : IsTupOf2 h8 g2.objs.size x1 x2 := Heap.SameBut.extBut hs8 _ _ (Nat.ne_of_gt hzlt) (Heap.SameBut.extBut hs7 _ _ (Nat.ne_of_gt hzlt) (Heap.get?_push_size _ rfl))
    have e7 := hs7.1
    have e8 := hs8.1
    have hs : h8.objs.size = g2.objs.size + 1 := by rw [e8, e7]; exact Heap.size_push ..
    rw [hsz] at hT8 hs
    refine wpAny_pure ⟨_, rfl, ?_⟩
    show Q (.ref g2.objs.size) ⟨h8, g, d, tk2, os⟩
    rw [hsz]
    exact hQ x1 x2 h8 tk2 hx1 hx2 ⟨_, _, hz8, _, rfl⟩ ⟨_, _, up _ _ S.TOz hT2⟩ (D1.frame _ _ _ hj1 fun b hb o e => up b o (fun q => S.zf1 (q ▸ hb)) e) (D2.frame _ _ _ hj2 fun b hb o e => up b o (fun q => S.zf2 (q ▸ hb)) e) hT8 hs fun c o cz cT c1 c2 e => up c o cz (hkk c o cz cT c1 c2 e)
  · -- it's still held: a new one
    simp only [Bool.false_eq_true, if_false]
    refine wpAny_bind ?_
    rw [← Array.forIn_toList]
    simp only [List.forIn_cons, List.forIn_nil]
    refine wpAny_bind (wpAny_bind (wpAny_holding (show wpAny _ _ (Builtin.SmallTypes.nextOf (.ref i1) >>= _) _ _ ⟨h0, g, d, tk0, os⟩ from ?_)))
    refine wpAny_bind (D1.item i _ _ _ hlt1 (D1.over st1 hs0 S.zf1) fun x1 p1 tk1 hx1 sn1 hp1 => wpAny_pure (wpAny_pure ?_))
    refine wpAny_bind (wpAny_bind (wpAny_holding (show wpAny _ _ (Builtin.SmallTypes.nextOf (.ref i2) >>= _) _ _ ⟨p1, g, d, tk1, os⟩ from ?_)))
    refine wpAny_bind (D2.item i _ _ _ hlt2 (D2.over (D2.over st2 hs0 S.zf2) hp1 S.sep1_2) fun x2 p2 tk2 hx2 sn2 hp2 => wpAny_pure (wpAny_pure (wpAny_pure ?_)))
    show wpAny _ _ (newTuple [x1, x2] >>= _) _ _ ⟨p2, g, d, tk2, os⟩
    refine wpAny_bind (wpAny_newTuple ?_)
    have e0 := hs0.1
    have e1 := hp1.1
    have e2 := hp2.1
    have hsz : p2.objs.size = hp.objs.size := by rw [e2, e1, e0]
    have hkk : ∀ c o, c ≠ z → c ≠ i1 → c ≠ i2 → hp.get? c = some o → p2.get? c = some o := fun c o cz c1 c2 e =>
      Heap.SameBut.extBut hp2 _ _ c2 (Heap.SameBut.extBut hp1 _ _ c1 (Heap.SameBut.extBut hs0 _ _ cz e))
    have hzz : ZG p2 z TI TO f0 true := Heap.SameBut.extBut hp2 _ _ S.zi2 (Heap.SameBut.extBut hp1 _ _ S.zi1 hz0)
    have hj1 : St1 (i + 1) p2 := D1.over sn1 hp2 S.sep2_1
    have up : ∀ c o, p2.get? c = some o → (p2.push { cls := .type "tuple", data := .seq #[x1, x2] }).get? c = some o := fun c o e => Heap.get?_push_of_some _ e
    have hT8 : IsTupOf2 (p2.push { cls := .type "tuple", data := .seq #[x1, x2] }) p2.objs.size x1 x2 := Heap.get?_push_size _ rfl
    have hs : (p2.push { cls := .type "tuple", data := .seq #[x1, x2] }).objs.size = p2.objs.size + 1 := Heap.size_push ..
    refine wpAny_pure ⟨_, rfl, ?_⟩
    show Q (.ref p2.objs.size) ⟨p2.push { cls := .type "tuple", data := .seq #[x1, x2] }, g, d, tk2, os⟩
    have fin := hQ x1 x2 (p2.push { cls := .type "tuple", data := .seq #[x1, x2] }) tk2 hx1 hx2 ⟨_, _, up _ _ hzz, ha⟩ ⟨_, _, up _ _ (hkk _ _ S.TOz S.Ti1 S.Ti2 hTO)⟩ (D1.frame _ _ _ hj1 fun b _ o e => up b o e) (D2.frame _ _ _ sn2 fun b _ o e => up b o e)
    rw [hsz] at hT8 hs ⊢
    exact fin hT8 hs fun c o cz _ c1 c2 e => up c o (hkk c o cz c1 c2 e)
theorem zg_end {Q : PySem.Fin → Shared → Prop} (S : ZipSep2 z TI TO i1 i2 fp1 fp2) (D1 : Draws prog w A i1 fp1 n1 P1 St1)
    (hz : ZG s.heap z TI TO f0 fl) (hf : f0 = .none ∨ ∃ a : Int, f0 = rawInt a) (hTI : IsTupOf2 s.heap TI (.ref i1) (.ref i2)) (st1 : St1 n1 s.heap)
    (hE : ∀ h' e, (∀ c o, c ≠ z → c ≠ i1 → s.heap.get? c = some o → h'.get? c = some o) → (∃ o, h'.get? e = some o ∧ o.cls = .type "StopIteration") → E (.ref e) { s with heap := h' }) :
    wpAny (model prog w) A (Builtin.«zip.__next__» ⟨[.ref z], []⟩) Q E s := by
  obtain ⟨hp, g, d, tk0, os⟩ := s
  show wpAny _ _ (field (.ref z) 2 >>= _) _ _ _
  refine wpAny_bind (wpAny_field hz rfl (x := .bool false) rfl ?_)
  show wpAny _ _ (field (.ref z) 3 >>= _) _ _ _
  refine wpAny_bind (wpAny_field hz rfl (x := .ref TI) rfl ?_)
  refine wpAny_bind (wpAny_seqItems hTI rfl ?_)
  show wpAny _ _ (Builtin.SmallTypes.ownedTupleIsFree (.ref z) >>= _) _ _ _
  refine wpAny_bind (zg_free hz hf ?_ fun ha h0 hz0 hs0 => ?_)
  · simp only [if_true]
    refine wpAny_bind (wpAny_rule (wpAny_bind (wpAny_field hz rfl (x := .ref TO) rfl ?_)))
    refine wpAny_bind (wpAny_setField_rec hz (by simp) fun g0 hz0 hs0 => ?_)
    replace hz0 : ZG g0 z TI TO .ellipsis fl := hz0
    refine wpAny_bind ?_
    simp only [List.zipIdx_cons, List.zipIdx_nil, List.forIn_cons, List.forIn_nil]
    refine wpAny_bind (wpAny_bind (wpAny_onRaise (show wpAny _ _ (Builtin.SmallTypes.nextOf (.ref i1) >>= _) _ _ ⟨g0, g, d, tk0, os⟩ from ?_)))
    refine wpAny_bind (D1.done ⟨g0, g, d, tk0, os⟩ _ _ (D1.over st1 hs0 S.zf1) fun q e hq he => ?_)
    obtain ⟨oe, hoe, hce⟩ := he
    have hoe : q.get? e = some oe := hoe
    have hzq : ZG q z TI TO .ellipsis fl := hq _ _ S.zi1 hz0
    have hez : e ≠ z := fun x => by subst x; rw [hzq] at hoe; cases hoe; simp at hce
    refine wpAny_setField_rec (s := ⟨q, g, d, tk0, os⟩) hzq (by simp) fun q' _ hq' => ?_
    exact hE q' e (fun c o cz c1 x => Heap.SameBut.extBut hq' _ _ cz (hq _ _ c1 (Heap.SameBut.extBut hs0 _ _ cz x))) ⟨oe, Heap.SameBut.extBut hq' _ _ hez hoe, hce⟩
  · simp only [Bool.false_eq_true, if_false]
    refine wpAny_bind ?_
    rw [← Array.forIn_toList]
    simp only [List.forIn_cons, List.forIn_nil]
    refine wpAny_bind (wpAny_bind (wpAny_holding (show wpAny _ _ (Builtin.SmallTypes.nextOf (.ref i1) >>= _) _ _ ⟨h0, g, d, tk0, os⟩ from ?_)))
    refine wpAny_bind (D1.done ⟨h0, g, d, tk0, os⟩ _ _ (D1.over st1 hs0 S.zf1) fun q e hq he => ?_)
    exact hE q e (fun c o cz c1 x => hq _ _ c1 (Heap.SameBut.extBut hs0 _ _ cz x)) he
theorem zg_nextOf {Q : Value → Shared → Prop} (S : ZipSep2 z TI TO i1 i2 fp1 fp2) (D1 : Draws prog w A.in1 i1 fp1 n1 P1 St1) (D2 : Draws prog w A.in1 i2 fp2 n2 P2 St2)
    (hz : ZG s.heap z TI TO f0 fl) (hf : f0 = .none ∨ ∃ a : Int, f0 = rawInt a) (hTI : IsTupOf2 s.heap TI (.ref i1) (.ref i2)) (hTO : IsTupOf2 s.heap TO a1 a2) (st1 : St1 i s.heap) (st2 : St2 i s.heap) (hlt1 : i < n1) (hlt2 : i < n2)
    (hQ : ∀ x1 x2 h' tk, P1 i x1 → P2 i x2 → (∃ f0' fl', ZG h' z TI TO f0' fl' ∧ ∃ a : Int, f0' = rawInt a) → (∃ y1 y2, IsTupOf2 h' TO y1 y2) → St1 (i + 1) h' → St2 (i + 1) h' → IsTupOf2 h' s.heap.objs.size x1 x2 → h'.objs.size = s.heap.objs.size + 1 →
      (∀ c o, c ≠ z → c ≠ TO → c ≠ i1 → c ≠ i2 → s.heap.get? c = some o → h'.get? c = some o) → Q (.ref s.heap.objs.size) { s with heap := h', toks := tk }) :
    wpAny (model prog w) A (Builtin.SmallTypes.nextOf (.ref z)) Q E s := by
  have hT : s.TypeIs (.ref z) "zip" := ⟨_, hz, rfl⟩
  unfold Builtin.SmallTypes.nextOf
  exact wpAny_bind (wpAny_callSpecial?_slot (name := Str.ofString "__next__") hT F.slot_zip_next (wpAny_call_entry F.slot_zip_next hT F.entry_zip_next
    (zg_item S D1 D2 hz hf hTI hTO st1 st2 hlt1 hlt2 fun x1 x2 h' tk b1 b2 b3 b4 b5 b6 b7 b8 b9 => wpAny_pure (hQ x1 x2 h' tk b1 b2 b3 b4 b5 b6 b7 b8 b9)) (F.args_zip_next_1 _)))
theorem zg_nextOf_end {Q : Value → Shared → Prop} (S : ZipSep2 z TI TO i1 i2 fp1 fp2) (D1 : Draws prog w A.in1 i1 fp1 n1 P1 St1)
    (hz : ZG s.heap z TI TO f0 fl) (hf : f0 = .none ∨ ∃ a : Int, f0 = rawInt a) (hTI : IsTupOf2 s.heap TI (.ref i1) (.ref i2)) (st1 : St1 n1 s.heap)
    (hE : ∀ h' e, (∀ c o, c ≠ z → c ≠ i1 → s.heap.get? c = some o → h'.get? c = some o) → (∃ o, h'.get? e = some o ∧ o.cls = .type "StopIteration") → E (.ref e) { s with heap := h' }) :
    wpAny (model prog w) A (Builtin.SmallTypes.nextOf (.ref z)) Q E s := by
  have hT : s.TypeIs (.ref z) "zip" := ⟨_, hz, rfl⟩
  unfold Builtin.SmallTypes.nextOf
  exact wpAny_bind (wpAny_callSpecial?_slot (name := Str.ofString "__next__") hT F.slot_zip_next (wpAny_call_entry F.slot_zip_next hT F.entry_zip_next
    (zg_end S D1 hz hf hTI st1 hE) (F.args_zip_next_1 _)))
/-- the next of enumerate(zip(..)) -/
theorem ez_item {e : Addr} {old : Value} {Q : Option Value → Shared → Prop} (S : ZipSep2 z TI TO i1 i2 fp1 fp2) (D1 : Draws prog w A.in1.in1 i1 fp1 n1 P1 St1) (D2 : Draws prog w A.in1.in1 i2 fp2 n2 P2 St2)
    (he : IsEnum s.heap e z i old) (hez : e ≠ z) (heO : e ≠ TO) (he1 : e ≠ i1) (he2 : e ≠ i2) (hef1 : e ∉ fp1) (hef2 : e ∉ fp2)
    (hz : ZG s.heap z TI TO f0 fl) (hf : f0 = .none ∨ ∃ a : Int, f0 = rawInt a) (hTI : IsTupOf2 s.heap TI (.ref i1) (.ref i2)) (hTO : IsTupOf2 s.heap TO a1 a2) (st1 : St1 i s.heap) (st2 : St2 i s.heap) (hlt1 : i < n1) (hlt2 : i < n2)
    (hQ : ∀ x1 x2 h1 h' tk, P1 i x1 → P2 i x2 → (∃ f0' fl', ZG h1 z TI TO f0' fl' ∧ ∃ a : Int, f0' = rawInt a) → (∃ y1 y2, IsTupOf2 h1 TO y1 y2) → St1 (i + 1) h' → St2 (i + 1) h' → IsTupOf2 h1 s.heap.objs.size x1 x2 → h1.objs.size = s.heap.objs.size + 1 →
      (∀ c o, c ≠ z → c ≠ TO → c ≠ i1 → c ≠ i2 → s.heap.get? c = some o → h1.get? c = some o) →
      IsEnumOut h' e z ((i : Int) + 1) (.ref s.heap.objs.size) (s.heap.objs.size + 1) → h'.get? (s.heap.objs.size + 1) = some { cls := .type "tuple", data := .seq #[.int i tk, .ref s.heap.objs.size] } →
      (∀ c o, c ≠ e → h1.get? c = some o → h'.get? c = some o) → Q (some (.ref (s.heap.objs.size + 1))) { s with heap := h', toks := tk + 1 }) :
    wpAny (model prog w) A (pyNext (.ref e)) Q E s := by
  have hT : s.TypeIs (.ref e) "enumerate" := ⟨_, he, rfl⟩
  unfold pyNext
  refine wpAny_bind (wpAny_attempt (wpAny_callSpecial?_slot (name := Str.ofString "__next__") hT F.slot_enumerate_next
    (wpAny_call_entry F.slot_enumerate_next hT F.entry_enumerate_next ?_ (F.args_enumerate_next_1 _))))
  obtain ⟨hp, g, d, tk0, os⟩ := s
  show wpAny _ _ (field (.ref e) 2 >>= _) _ _ _
  refine wpAny_bind (wpAny_field he rfl (x := .ref z) rfl ?_)
  refine wpAny_bind (zg_nextOf S D1 D2 hz hf hTI hTO st1 st2 hlt1 hlt2 fun x1 x2 h1 tk b1 b2 b3 b4 b5 b6 b7 b8 b9 => ?_)
  have hI : IsEnum h1 e z i old := b9 _ _ hez heO he1 he2 he
  have hel : e < hp.objs.size := Heap.lt_size he
  have b8 : h1.objs.size = hp.objs.size + 1 := b8
  show wpAny _ _ (field (.ref e) 3 >>= _) _ _ ⟨h1, g, d, tk, os⟩
  refine wpAny_bind (wpAny_field hI rfl (x := rawInt i) rfl ?_)
  show wpAny _ _ (field (.ref e) 4 >>= _) _ _ ⟨h1, g, d, tk, os⟩
  refine wpAny_bind (wpAny_field hI rfl (x := .none) rfl (show wpAny _ _ (mkInt i >>= _) _ _ ⟨h1, g, d, tk, os⟩ from wpAny_bind (wpAny_mkInt ?_)))
  show wpAny _ _ (setField (.ref e) 3 (rawInt ((i : Int) + 1)) >>= _) _ _ ⟨h1, g, d, tk + 1, os⟩
  refine wpAny_bind (wpAny_setField_rec hI (by simp) fun h2 he2' s2 => ?_)
  have he2' : IsEnum h2 e z ((i : Int) + 1) old := he2'
  show wpAny _ _ (setField (.ref e) 4 .none >>= _) _ _ ⟨h2, g, d, tk + 1, os⟩
  refine wpAny_bind (wpAny_setField_rec he2' (by simp) fun h3 he3 s3 => ?_)
  have he3 : IsEnum h3 e z ((i : Int) + 1) old := he3
  show wpAny _ _ (newTuple [.int i tk, .ref hp.objs.size] >>= _) _ _ ⟨h3, g, d, tk + 1, os⟩
  refine wpAny_bind (wpAny_newTuple ?_)
  have q2 := s2.1
  have q3 := s3.1
  have hsz : h3.objs.size = hp.objs.size + 1 := by rw [q3, q2]; exact b8
  have k3 : ∀ c o, c ≠ e → h1.get? c = some o → h3.get? c = some o := fun c o ce x => Heap.SameBut.extBut s3 _ _ ce (Heap.SameBut.extBut s2 _ _ ce x)
  generalize hh4 : h3.push { cls := .type "tuple", data := .seq #[.int i tk, .ref hp.objs.size] } = h4
  have k4 : ∀ c o, h3.get? c = some o → h4.get? c = some o := fun c o x => by rw [← hh4]; exact Heap.get?_push_of_some _ x
  have he4 : IsEnum h4 e z ((i : Int) + 1) old := k4 _ _ he3
  have ht4 : h4.get? (hp.objs.size + 1) = some { cls := .type "tuple", data := .seq #[.int i tk, .ref hp.objs.size] } := by rw [← hh4, ← hsz]; exact Heap.get?_push_size _ rfl
  show wpAny _ _ (Builtin.SmallTypes.ownedTupleIsFree (.ref e) >>= _) _ _ ⟨h4, g, d, tk + 1, os⟩
  rw [hsz]
  unfold Builtin.SmallTypes.ownedTupleIsFree
  refine wpAny_bind (wpAny_bind (wpAny_field he4 rfl (x := .none) rfl (wpAny_pure ?_)))
  simp only [if_true]
  refine wpAny_bind (wpAny_rule (wpAny_bind (wpAny_field he4 rfl (x := old) rfl ?_)))
  refine wpAny_bind (wpAny_setField_rec he4 (by simp) fun h5 he5 s5 => ?_)
  have he5 : IsEnum h5 e z ((i : Int) + 1) (.ref hp.objs.size) := he5
  show wpAny _ _ (Builtin.SmallTypes.ownedTupleHandOut (.ref e) (.ref (hp.objs.size + 1)) >>= _) _ _ ⟨h5, g, d, tk + 1, os⟩
  unfold Builtin.SmallTypes.ownedTupleHandOut
  refine wpAny_bind (wpAny_bind (wpAny_setField_rec he5 (by simp) fun h6 he6 s6 => ?_))
  have he6 : IsEnumOut h6 e z ((i : Int) + 1) (.ref hp.objs.size) (hp.objs.size + 1) := he6
  refine wpAny_setField_rec he6 (by simp) fun h7 he7 s7 => ?_
  have he7 : IsEnumOut h7 e z ((i : Int) + 1) (.ref hp.objs.size) (hp.objs.size + 1) := he7
  have k7 : ∀ c o, c ≠ e → h4.get? c = some o → h7.get? c = some o := fun c o ce x => Heap.SameBut.extBut s7 _ _ ce (Heap.SameBut.extBut s6 _ _ ce (Heap.SameBut.extBut s5 _ _ ce x))
  have kk : ∀ c o, c ≠ e → h1.get? c = some o → h7.get? c = some o := fun c o ce x => k7 _ _ ce (k4 _ _ (k3 _ _ ce x))
  refine wpAny_bind (wpAny_letGo (wpAny_pure ⟨_, rfl, wpAny_pure ?_⟩))
  exact hQ x1 x2 h1 h7 tk b1 b2 b3 b4 (D1.frame _ _ _ b5 fun b hb o x => kk _ _ (fun q => hef1 (q ▸ hb)) x) (D2.frame _ _ _ b6 fun b hb o x => kk _ _ (fun q => hef2 (q ▸ hb)) x) b7 b8 b9 he7 (k7 _ _ (Nat.ne_of_gt (Nat.lt_succ_of_lt hel)) ht4) kk
theorem ez_end {e : Addr} {old : Value} {Q : Option Value → Shared → Prop} (S : ZipSep2 z TI TO i1 i2 fp1 fp2) (D1 : Draws prog w A.in1.in1 i1 fp1 n1 P1 St1) {c0 : Int}
    (he : IsEnum s.heap e z c0 old) (hz : ZG s.heap z TI TO f0 fl) (hf : f0 = .none ∨ ∃ a : Int, f0 = rawInt a) (hTI : IsTupOf2 s.heap TI (.ref i1) (.ref i2)) (st1 : St1 n1 s.heap)
    (hQ : ∀ h', (∀ c o, c ≠ z → c ≠ i1 → s.heap.get? c = some o → h'.get? c = some o) → Q none { s with heap := h' }) : wpAny (model prog w) A (pyNext (.ref e)) Q E s := by
  have hT : s.TypeIs (.ref e) "enumerate" := ⟨_, he, rfl⟩
  unfold pyNext
  refine wpAny_bind (wpAny_attempt (wpAny_callSpecial?_slot (name := Str.ofString "__next__") hT F.slot_enumerate_next
    (wpAny_call_entry F.slot_enumerate_next hT F.entry_enumerate_next ?_ (F.args_enumerate_next_1 _))))
  show wpAny _ _ (field (.ref e) 2 >>= _) _ _ _
  refine wpAny_bind (wpAny_field he rfl (x := .ref z) rfl ?_)
  refine wpAny_bind (zg_nextOf_end S D1 hz hf hTI st1 fun h' x hk hx => ?_)
  obtain ⟨o, ho, hc⟩ := hx
  refine wpAny_bind (wpAny_isInstance (T := "StopIteration") (b := true) ⟨o, ho, hc⟩ isSubtype_stop ?_)
  exact wpAny_pure (hQ _ hk)
end
/-- the tuple at a, the list at b, each pair with its number -/
def Itez (K : PySem.W.Frag) (a b : Addr) : It :=
  ⟨fun i H => ∃ (xs ys : List V) (x y : V), SqT K H a xs ∧ SqL K H b ys ∧ xs[i]? = some x ∧ ys[i]? = some y,
    fun i H v H' => ∃ T U x y, v = .ref T ∧ H T = none ∧ H U = none ∧ T ≠ U ∧ H' = upd (upd H U (.tup [x, y])) T (.tup [.int (i : Nat), .ref U]) ∧ (∀ xs, SqT K H a xs → xs[i]? = some x) ∧ ∀ ys, SqL K H b ys → ys[i]? = some y,
    fun i H => ∃ xs ys : List V, SqT K H a xs ∧ SqL K H b ys ∧ i = xs.length⟩
abbrev EzSt (a b e z TI TO i1 i2 : Addr) (i : Nat) (h : Heap) : Prop :=
  (∃ old, IsEnum h e z ((i : Nat) : Int) old) ∧ (∃ f0 fl, ZG h z TI TO f0 fl ∧ (f0 = .none ∨ ∃ q : Int, f0 = rawInt q)) ∧ IsTupOf2 h TI (.ref i1) (.ref i2) ∧ (∃ x y, IsTupOf2 h TO x y) ∧ h.IsTupleIter i1 a i ∧ h.IsListIter i2 b i
theorem turn_enumZ {P : Program} {w : World} {K : PySem.W.Frag} {elts : List Expr} {kk : Nat} {tpos : Pos} {a b e z TI TO i1 i2 : Addr} (D : ZipSep2 z TI TO i1 i2 [i1, a] [i2, b]) (hez : e ≠ z) (heT : e ≠ TI) (heO : e ≠ TO) (he1 : e ≠ i1) (he2 : e ≠ i2) :
    Turn P w K (.Tuple elts kk tpos) (Itez K a b) [e, z, TI, TO, i1, i2] e (EzSt a b e z TI TO i1 i2) where
  mem := by simp
  obj := fun i h st c hc => by
    obtain ⟨⟨old, h0⟩, ⟨f0, fl, hz, _⟩, hTI, ⟨x, y, hTO⟩, ⟨o1, e1, _, d1⟩, ⟨o2, e2, _, d2⟩⟩ := st
    have which : c = e ∨ c = z ∨ c = TI ∨ c = TO ∨ c = i1 ∨ c = i2 := by simpa using hc
    rcases which with rfl | rfl | rfl | rfl | rfl | rfl
    · exact ⟨_, h0, fun v q => nomatch q⟩
    · exact ⟨_, hz, fun v q => nomatch q⟩
    · exact ⟨_, hTI, fun v q => nomatch q⟩
    · exact ⟨_, hTO, fun v q => nomatch q⟩
    · exact ⟨o1, e1, fun v q => by rw [d1] at q; cases q⟩
    · exact ⟨o2, e2, fun v q => by rw [d2] at q; cases q⟩
  keep := fun i h h' ⟨⟨old, h0⟩, ⟨f0, fl, hz, hf⟩, hTI, ⟨x, y, hTO⟩, g1, g2⟩ k =>
    ⟨⟨old, k e (by simp) _ h0⟩, ⟨f0, fl, k z (by simp) _ hz, hf⟩, k TI (by simp) _ hTI, ⟨x, y, k TO (by simp) _ hTO⟩, g1.at fun o q => k i1 (by simp) o q, g2.at fun o q => k i2 (by simp) o q⟩
  item := by
    intro X hP hw hK hc i pins s σ H E I hf st hg
    subst hP hw hK
    obtain ⟨⟨old, h0⟩, ⟨f0, fl, hz, hf0⟩, hTI, ⟨x0, y0, hTO⟩, h1, h2⟩ := st
    obtain ⟨xs, ys, x, y, hqx, hqy, hx, hy⟩ := hg
    obtain ⟨its, rv, p, _⟩ := I.tuple hqx
    obtain ⟨its2, rv2, p2, _⟩ := I.list hqy
    obtain ⟨u, hu, ru⟩ := rv.get hx
    obtain ⟨u2, hu2, ru2⟩ := rv2.get hy
    have l1 : i < its.toArray.size := by have := (List.getElem?_eq_some_iff.mp hu).1; simpa using this
    have l2 : i < its2.toArray.size := by have := (List.getElem?_eq_some_iff.mp hu2).1; simpa using this
    have hel : e < s.heap.objs.size := Heap.lt_size h0
    have ht : s.heap.IsTuple a its.toArray := p
    have a1 : a ≠ i1 := by
      intro q; subst q
      obtain ⟨o, ho, c1, _⟩ := ht
      obtain ⟨o', ho', c2, _⟩ := h1
      rw [ho] at ho'; cases ho'
      rw [c1] at c2; exact absurd c2 (by simp)
    have b2 : b ≠ i2 := by
      intro q; subst q
      obtain ⟨o, ho, c1, _⟩ := p2.isList
      obtain ⟨o', ho', c2, _⟩ := h2
      rw [ho] at ho'; cases ho'
      rw [c1] at c2; exact absurd c2 (by simp)
    have ae : e ≠ a := by
      intro q; subst q
      obtain ⟨o, ho, c1, _⟩ := ht
      rw [h0] at ho; cases ho
      exact absurd c1 (by simp)
    have be : e ≠ b := by
      intro q; subst q
      obtain ⟨o, ho, c1, _⟩ := p2.isList
      rw [h0] at ho; cases ho
      exact absurd c1 (by simp)
    refine ez_item D (Draws.tuple (A := X.A.in1.in1) (by exact I.ok.hd hc) i1 a a1 its.toArray) (Draws.list (A := X.A.in1.in1) (by exact I.ok.hd hc) i2 b b2 its2.toArray) h0 hez heO he1 he2
      (by simp; exact ⟨he1, ae⟩) (by simp; exact ⟨he2, be⟩) hz hf0 hTI hTO ⟨h1, ht⟩ ⟨h2, p2.isList⟩ l1 l2 fun y1 y2 g1 h' tk e1 e2 z' TO' st1 st2 hU hsz hk ho hT kk => ?_
    have eq1 : y1 = u := by have q : its[i]? = some y1 := by simpa using e1
                            rw [hu] at q; exact (Option.some.inj q).symm
    have eq2 : y2 = u2 := by have q : its2[i]? = some y2 := by simpa using e2
                             rw [hu2] at q; exact (Option.some.inj q).symm
    subst eq1 eq2
    refine ⟨_, rfl, wpAny_letOwnedTupleGo_enum (s := { s with heap := h', toks := tk + 1 }) ho fun h'' he' sb => ?_⟩
    have old2 : ∀ c o, c ≠ e → g1.get? c = some o → h''.get? c = some o := fun c o ce q => (sb.2 c ce).trans (kk c o ce q)
    have hU2 : IsTupOf2 h'' s.heap.objs.size y1 y2 := old2 _ _ (Nat.ne_of_gt hel) hU
    have hT2 : h''.get? (s.heap.objs.size + 1) = some { cls := .type "tuple", data := .seq #[.int i tk, .ref s.heap.objs.size] } := (sb.2 _ (Nat.ne_of_gt (Nat.lt_succ_of_lt hel))).trans hT
    have newU : ObjOk X.prog X.w (upd H s.heap.objs.size (.tup [x, y])) g1 s.heap.objs.size (.tup [x, y]) := ⟨by show 2 ≤ sizeLine; decide, [y1, y2], .cons ru (.cons ru2 .nil), ⟨_, hU, rfl, _, rfl⟩⟩
    have I1 : Inv X pins σ (upd H s.heap.objs.size (.tup [x, y])) { s with heap := g1, toks := tk } :=
      I.turnedNew (ch := [e, z, TI, TO, i1, i2]) (fun c o hb q => hk c o (fun q' => hb (by simp [q'])) (fun q' => hb (by simp [q'])) (fun q' => hb (by simp [q'])) (fun q' => hb (by simp [q'])) q) hf (Nat.le_refl _) newU
    have lt : ∀ c ∈ [e, z, TI, TO, i1, i2], c < s.heap.objs.size := fun c hcm => by
      have which : c = e ∨ c = z ∨ c = TI ∨ c = TO ∨ c = i1 ∨ c = i2 := by simpa using hcm
      rcases which with rfl | rfl | rfl | rfl | rfl | rfl
      · exact hel
      · exact Heap.lt_size hz
      · exact Heap.lt_size hTI
      · exact Heap.lt_size hTO
      · obtain ⟨_, e1, _⟩ := h1; exact Heap.lt_size e1
      · obtain ⟨_, e2, _⟩ := h2; exact Heap.lt_size e2
    have hf1 : ∀ c ∈ [e, z, TI, TO, i1, i2], FpOk X pins (upd H s.heap.objs.size (.tup [x, y])) c := fun c hcm => ⟨by rw [upd_ne (Nat.ne_of_lt (lt c hcm))]; exact (hf c hcm).1, (hf c hcm).2⟩
    have newT : ObjOk X.prog X.w (upd (upd H s.heap.objs.size (.tup [x, y])) (s.heap.objs.size + 1) (.tup [.int (i : Nat), .ref s.heap.objs.size])) h'' (s.heap.objs.size + 1) (.tup [.int (i : Nat), .ref s.heap.objs.size]) :=
      ⟨by show 2 ≤ sizeLine; decide, [.int i tk, .ref s.heap.objs.size], .cons ⟨_, rfl⟩ (.cons rfl .nil), ⟨_, hT2, rfl, _, rfl⟩⟩
    have I2 : Inv X pins σ (upd (upd H s.heap.objs.size (.tup [x, y])) (s.heap.objs.size + 1) (.tup [.int (i : Nat), .ref s.heap.objs.size])) { s with heap := h'', toks := tk + 1 } :=
      I1.turnedNew (t' := tk + 1) (ch := [e, z, TI, TO, i1, i2]) (fun c o hb q => old2 c o (fun q' => hb (by simp [q'])) q) hf1 (by show g1.objs.size ≤ _; rw [hsz]; exact Nat.le_refl _) newT
    have nT : H (s.heap.objs.size + 1) = none := I.hok.fresh (Nat.le_succ _)
    refine ⟨.ref (s.heap.objs.size + 1), _, I2, rfl, ⟨_, s.heap.objs.size, x, y, rfl, nT, I.hok.fresh (Nat.le_refl _), Nat.succ_ne_self _, rfl, fun l hl => by rw [I.tuple_inj hl hqx]; exact hx, fun l hl => by rw [I.list_inj hl hqy]; exact hy⟩, ?_, fun c hcm => ?_⟩
    · obtain ⟨f1, fl1, hz1, hq1⟩ := z'
      obtain ⟨w1, w2, hO1⟩ := TO'
      have hE : ∃ old, IsEnum h'' e z ((i : Int) + 1) old := ⟨_, he'⟩
      have e1 : ((i + 1 : Nat) : Int) = (i : Int) + 1 := by omega
      rw [← e1] at hE
      refine ⟨hE, ⟨f1, fl1, old2 _ _ (Ne.symm hez) hz1, .inr hq1⟩, old2 _ _ (Ne.symm heT) (hk _ _ D.TIz D.TITO D.TIi1 D.TIi2 hTI), ⟨_, _, old2 _ _ (Ne.symm heO) hO1⟩, ?_, ?_⟩
      · exact st1.1.at fun o q => (sb.2 _ (Ne.symm he1)).trans q
      · exact st2.1.at fun o q => (sb.2 _ (Ne.symm he2)).trans q
    · have hlt := lt c hcm
      rw [upd_ne (Nat.ne_of_lt (Nat.lt_succ_of_lt hlt)), upd_ne (Nat.ne_of_lt hlt)]
      exact (hf c hcm).1
  done := by
    intro X hP hw hK hc i pins s σ H E I hf st hg
    subst hP hw hK
    obtain ⟨⟨old, h0⟩, ⟨f0, fl, hz, hf0⟩, hTI, ⟨x0, y0, hTO⟩, h1, h2⟩ := st
    obtain ⟨xs, ys, hqx, hqy, hi⟩ := hg
    obtain ⟨its, rv, p, _⟩ := I.tuple hqx
    have q1 := rv.length
    have ht : s.heap.IsTuple a its.toArray := p
    have a1 : a ≠ i1 := by
      intro q; subst q
      obtain ⟨o, ho, c1, _⟩ := ht
      obtain ⟨o', ho', c2, _⟩ := h1
      rw [ho] at ho'; cases ho'
      rw [c1] at c2; exact absurd c2 (by simp)
    have hn : i = its.toArray.size := by rw [hi]; simpa using q1
    refine ez_end D (Draws.tuple (A := X.A.in1.in1) (by exact I.ok.hd hc) i1 a a1 its.toArray) h0 hz hf0 hTI (by rw [← hn]; exact ⟨h1, ht⟩) fun h' hk => ⟨rfl, I.turnedL (ch := [e, z, TI, TO, i1, i2]) (t' := s.toks) (fun c o hb q => hk c o (fun q' => hb (by simp [q'])) (fun q' => hb (by simp [q'])) q) hf⟩
  self := fun A i s Q E st h => let ⟨⟨_, h0⟩, _⟩ := st; wpAny_pyIter_enum h0 h
open AutoSeq1 (wpAny_loadPart') in
set_option maxHeartbeats 1000000 in
theorem meets_enumZ (z TI TO : Addr) :
    Meets (Builtin.«enumerate.__new__» ⟨[.type "enumerate", .ref z], []⟩) (fun _ R s => IsZip s.heap z TI TO .none ∧
      R (.ok (.ret (.ref s.heap.objs.size))) { s with heap := s.heap.push { cls := .type "enumerate", data := .fields #[.none, .bool false, .ref z, rawInt 0, .none, .none] } }) :=
  .of_wp fun prog w A R s h => by
    obtain ⟨hp, g, d, tk, os⟩ := s; obtain ⟨hl, h⟩ := h
    have hsub := sub_enumerate
    have q1 : ∀ {A' : Around} {E : Value → Shared → Prop} {Q : Value → Shared → Prop}, Q (.ref z) ⟨hp, g, d, tk, os⟩ → wpAny (model prog w) A' (pyIter (.ref z)) Q E ⟨hp, g, d, tk, os⟩ := fun q => wpAny_pyIter_zip hl q
    wp_walk using q1
    refine wpAny_stack_any fun st => wpAny_pure ?_
    split
    · rename_i c _ _ _ _ _
      cases (c == Value.type "enumerate")
      · wp_walk using q1
        exact ⟨_, rfl, h⟩
      · wp_walk using q1
        exact ⟨_, rfl, h⟩
    · wp_walk using q1
      exact ⟨_, rfl, h⟩
theorem call_enumZ {prog : Program} {w : World} {A : Around} {E : Value → Shared → Prop} {s : Shared} {z TI TO : Addr} {Q : Value → Shared → Prop} (hz : IsZip s.heap z TI TO .none)
    (h : ∀ h', IsEnum h' s.heap.objs.size z 0 .none → (∀ b o, s.heap.get? b = some o → h'.get? b = some o) → Q (.ref s.heap.objs.size) { s with heap := h' }) :
    wpAny (model prog w) A (call (.type "enumerate") [.ref z]) Q E s := by
  refine callType_new F.called_enumerate (by decide) (F.typeCall_enumerate_1 _) (F.newCall_enumerate_1 _) (fun obj => F.args_object_init_2 obj _) F.entry_enumerate_new
    (meets_enumZ z TI TO) ⟨hz, ?_⟩
  have he : IsEnum (s.heap.push { cls := .type "enumerate", data := .fields #[.none, .bool false, .ref z, rawInt 0, .none, .none] }) s.heap.objs.size z 0 .none := Heap.get?_push_size _ rfl
  exact ⟨⟨_, he, rfl⟩, h _ he fun b o x => Heap.get?_push_of_some _ x⟩
def iEnumZ (K : PySem.W.Frag) (ta : TA) : TI := fun σ H R => ta σ H fun vs H1 => ∃ a b xs ys, vs = [.ref a, .ref b] ∧ SqT K H1 a xs ∧ SqL K H1 b ys ∧ R (Itez K a b) H1
theorem pi_enumZ {X : Cx} {e e2 : Expr} {ta : TA} {p p2 pos pos2 tpos : Pos} {elts : List Expr} {kk : Nat} (hg : Gl X "enumerate") (hm : X.mg "enumerate" = none) (hg2 : Gl X "zip") (hm2 : X.mg "zip" = none) (ha : PA X [e, e2] ta)
    (hs : starEach [e, e2] X.env = (false, eval e X.env) :: starEach [e2] X.env := by rfl) (hpl : (backTo pos2 (starEach [e2] X.env)).any (·.1) = false := by rfl) :
    PI X (.Tuple elts kk tpos) (.Call (.Name "enumerate" p) [.Call (.Name "zip" p2) [e, e2] [] pos2] [] pos) (iEnumZ X.K ta) := by
  refine ⟨fun pins s σ H R I h => ?_⟩
  refine Call_ (ld_blt I hg hm boot_enumerate (PyProof.Rows.callWith_type1 ?_ rfl rfl))
  show wpAny _ _ (PySem.spliced ((false, eval (.Call (.Name "zip" p2) [e, e2] [] pos2) X.env) :: backTo pos (starEach [] X.env))) _ _ s
  refine Calls.spliced_cons (Call_ (ld_blt I hg2 hm2 PyProof.Rows.boot_zip (PyProof.Rows.callWith_type1 (thn (ha.run pos2 pins s σ H _ I h) fun us s1 ⟨vs, H1, I1, r1, q1⟩ => ?_) hs hpl)))
  obtain ⟨a, b, xs, ys, ex, hqx, hqy, q⟩ := q1
  subst ex
  cases r1 with
  | cons r rr =>
    cases rr with
    | cons r' rr =>
      cases rr
      cases r
      cases r'
      obtain ⟨its, rv, p1, _⟩ := I1.tuple hqx
      obtain ⟨its2, rv2, p2, _⟩ := I1.list hqy
      have ht : s1.heap.IsTuple a its.toArray := p1
      have la : a < s1.heap.objs.size := by obtain ⟨_, z, _⟩ := id ht; exact Heap.lt_size z
      have lb : b < s1.heap.objs.size := p2.lt
      refine zip_begins2 (begins_tuple a its.toArray) (begins_list b its2.toArray) ht p2.isList fun h1 hz hTI hTO g1 g2 hsz hk => Calls.spliced_nil ?_
      refine call_enumZ (s := { s1 with heap := h1 }) hz fun h' he hk2 => wpAny_pyIter_enum he ?_
      have hsz' : h1.objs.size = s1.heap.objs.size + 5 := hsz
      have hk2 : ∀ c o, h1.get? c = some o → h'.get? c = some o := hk2
      have ne : ∀ k : Nat, k < 5 → (h1.objs.size : Nat) ≠ s1.heap.objs.size + k := fun k hk => by omega
      have he : IsEnum h' h1.objs.size (s1.heap.objs.size + 4) 0 .none := he
      have I2 : Inv X pins σ H1 { s1 with heap := h' } := I1.kept (t' := s1.toks) fun c o x => hk2 _ _ (hk _ _ x)
      refine ⟨h1.objs.size, [h1.objs.size, s1.heap.objs.size + 4, s1.heap.objs.size + 2, s1.heap.objs.size + 3, s1.heap.objs.size, s1.heap.objs.size + 1], _, _, H1, rfl, I2,
        turn_enumZ (a := a) (b := b) (zip_sep2 (N := s1.heap.objs.size) (fp1 := [a]) (fp2 := [b]) (fun c hc => by rw [List.mem_singleton.mp hc]; exact la) (fun c hc => by rw [List.mem_singleton.mp hc]; exact lb)) (ne 4 (by decide)) (ne 2 (by decide)) (ne 3 (by decide)) (ne 0 (by decide)) (ne 1 (by decide)),
        ⟨⟨_, he⟩, ⟨_, _, hk2 _ _ hz, .inl rfl⟩, hk2 _ _ hTI, ⟨_, _, hk2 _ _ hTO⟩, ⟨_, hk2 _ _ g1, rfl, rfl⟩, ⟨_, hk2 _ _ g2, rfl, rfl⟩⟩, fun c hcm => ?_, q⟩
      have which : c = h1.objs.size ∨ c = s1.heap.objs.size + 4 ∨ c = s1.heap.objs.size + 2 ∨ c = s1.heap.objs.size + 3 ∨ c = s1.heap.objs.size ∨ c = s1.heap.objs.size + 1 := by simpa using hcm
      have hle : s1.heap.objs.size ≤ c := by
        rcases which with q | q | q | q | q | q
        · rw [q]; exact Nat.le_trans (Nat.le_add_right _ 5) (Nat.le_of_eq hsz'.symm)
        all_goals first | (rw [q]; exact Nat.le_add_right _ _) | (rw [q]; exact Nat.le_refl _)
      exact I1.fpOk hle (I1.hok.fresh hle)
theorem walk_enumZ {K : PySem.W.Frag} {a b : Addr} {xs ys : List V} (hl : xs.length = ys.length) : Walk (Itez K a b) xs.length (fun H => SqT K H a xs ∧ SqL K H b ys)
    (fun i H v H' => ∃ T U x y, v = .ref T ∧ H T = none ∧ H U = none ∧ T ≠ U ∧ H' = upd (upd H U (.tup [x, y])) T (.tup [.int (i : Nat), .ref U]) ∧ xs[i]? = some x ∧ ys[i]? = some y) := by
  refine ⟨fun i _ hi q => ?_, fun _ q => ⟨xs, ys, q.1, q.2, rfl⟩, fun i H v H' _ q y => ?_⟩
  · have h2 : i < ys.length := by omega
    exact ⟨xs, ys, xs[i], ys[i], q.1, q.2, by simp [hi], by simp [h2]⟩
  · obtain ⟨T, U, x, z, h1, h2, h3, h4, h5, h6, h7⟩ := y
    exact ⟨T, U, x, z, h1, h2, h3, h4, h5, h6 xs q.1, h7 ys q.2⟩
/-! ### for x in zip(list, list): the pair kept by its name -/
section
variable {prog : Program} {w : World} {A : Around} {E : Value → Shared → Prop} {s : Shared} {z TI TO i1 i2 : Addr} {fp1 fp2 : List Addr} {n1 n2 i : Nat} {P1 P2 : Nat → Value → Prop} {St1 St2 : Nat → Heap → Prop} {a1 a2 f0 : Value} {fl : Bool}
theorem zn_item {Q : Option Value → Shared → Prop} (S : ZipSep2 z TI TO i1 i2 fp1 fp2) (D1 : Draws prog w A.in1 i1 fp1 n1 P1 St1) (D2 : Draws prog w A.in1 i2 fp2 n2 P2 St2)
    (hz : ZG s.heap z TI TO f0 fl) (hf : f0 = .none ∨ ∃ a : Int, f0 = rawInt a) (hTI : IsTupOf2 s.heap TI (.ref i1) (.ref i2)) (hTO : IsTupOf2 s.heap TO a1 a2) (st1 : St1 i s.heap) (st2 : St2 i s.heap) (hlt1 : i < n1) (hlt2 : i < n2)
    (hQ : ∀ x1 x2 h' tk, P1 i x1 → P2 i x2 → (∃ f0' fl', ZG h' z TI TO f0' fl' ∧ ∃ a : Int, f0' = rawInt a) → (∃ y1 y2, IsTupOf2 h' TO y1 y2) → St1 (i + 1) h' → St2 (i + 1) h' → IsTupOf2 h' s.heap.objs.size x1 x2 → h'.objs.size = s.heap.objs.size + 1 →
      (∀ c o, c ≠ z → c ≠ TO → c ≠ i1 → c ≠ i2 → s.heap.get? c = some o → h'.get? c = some o) → Q (some (.ref s.heap.objs.size)) { s with heap := h', toks := tk }) :
    wpAny (model prog w) A (pyNext (.ref z)) Q E s := by
  have hT : s.TypeIs (.ref z) "zip" := ⟨_, hz, rfl⟩
  unfold pyNext
  exact wpAny_bind (wpAny_attempt (wpAny_callSpecial?_slot (name := Str.ofString "__next__") hT F.slot_zip_next
    (wpAny_call_entry F.slot_zip_next hT F.entry_zip_next
      (zg_item S D1 D2 hz hf hTI hTO st1 st2 hlt1 hlt2 fun x1 x2 h' tk b1 b2 b3 b4 b5 b6 b7 b8 b9 => wpAny_pure (hQ x1 x2 h' tk b1 b2 b3 b4 b5 b6 b7 b8 b9)) (F.args_zip_next_1 _))))
theorem zn_end {Q : Option Value → Shared → Prop} (S : ZipSep2 z TI TO i1 i2 fp1 fp2) (D1 : Draws prog w A.in1 i1 fp1 n1 P1 St1)
    (hz : ZG s.heap z TI TO f0 fl) (hf : f0 = .none ∨ ∃ a : Int, f0 = rawInt a) (hTI : IsTupOf2 s.heap TI (.ref i1) (.ref i2)) (st1 : St1 n1 s.heap)
    (hQ : ∀ h', (∀ c o, c ≠ z → c ≠ i1 → s.heap.get? c = some o → h'.get? c = some o) → Q none { s with heap := h' }) : wpAny (model prog w) A (pyNext (.ref z)) Q E s := by
  have hT : s.TypeIs (.ref z) "zip" := ⟨_, hz, rfl⟩
  unfold pyNext
  refine wpAny_bind (wpAny_attempt (wpAny_callSpecial?_slot (name := Str.ofString "__next__") hT F.slot_zip_next
    (wpAny_call_entry F.slot_zip_next hT F.entry_zip_next (zg_end S D1 hz hf hTI st1 fun h' e hk he => ?_) (F.args_zip_next_1 _))))
  obtain ⟨o, ho, hc⟩ := he
  refine wpAny_bind (wpAny_isInstance (T := "StopIteration") (b := true) ⟨o, ho, hc⟩ isSubtype_stop ?_)
  exact wpAny_pure (hQ _ hk)
end
def Itzn (K : PySem.W.Frag) (a b : Addr) : It :=
  ⟨fun i H => ∃ (xs ys : List V) (x y : V), SqL K H a xs ∧ SqL K H b ys ∧ xs[i]? = some x ∧ ys[i]? = some y,
    fun i H v H' => ∃ T x y, v = .ref T ∧ H T = none ∧ H' = upd H T (.tup [x, y]) ∧ (∀ xs, SqL K H a xs → xs[i]? = some x) ∧ ∀ ys, SqL K H b ys → ys[i]? = some y,
    fun i H => ∃ xs ys : List V, SqL K H a xs ∧ SqL K H b ys ∧ i = xs.length⟩
abbrev ZnSt (a b z TI TO i1 i2 : Addr) (i : Nat) (h : Heap) : Prop :=
  (∃ f0 fl, ZG h z TI TO f0 fl ∧ (f0 = .none ∨ ∃ q : Int, f0 = rawInt q)) ∧ IsTupOf2 h TI (.ref i1) (.ref i2) ∧ (∃ x y, IsTupOf2 h TO x y) ∧ h.IsListIter i1 a i ∧ h.IsListIter i2 b i
theorem turn_zipN {P : Program} {w : World} {K : PySem.W.Frag} {nm : Str} {tpos : Pos} {a b z TI TO i1 i2 : Addr} (D : ZipSep2 z TI TO i1 i2 [i1, a] [i2, b]) :
    L2.Turn P w K (.Name nm tpos) (Itzn K a b) [z, TI, TO, i1, i2] z (ZnSt a b z TI TO i1 i2) where
  mem := by simp
  obj := fun i h st c hc => by
    obtain ⟨⟨f0, fl, hz, _⟩, hTI, ⟨x, y, hTO⟩, ⟨o1, e1, _, d1⟩, ⟨o2, e2, _, d2⟩⟩ := st
    have which : c = z ∨ c = TI ∨ c = TO ∨ c = i1 ∨ c = i2 := by simpa using hc
    rcases which with rfl | rfl | rfl | rfl | rfl
    · exact ⟨_, hz, fun v q => nomatch q⟩
    · exact ⟨_, hTI, fun v q => nomatch q⟩
    · exact ⟨_, hTO, fun v q => nomatch q⟩
    · exact ⟨o1, e1, fun v q => by rw [d1] at q; cases q⟩
    · exact ⟨o2, e2, fun v q => by rw [d2] at q; cases q⟩
  keep := fun i h h' ⟨⟨f0, fl, hz, hf⟩, hTI, ⟨x, y, hTO⟩, g1, g2⟩ k =>
    ⟨⟨f0, fl, k z (by simp) _ hz, hf⟩, k TI (by simp) _ hTI, ⟨x, y, k TO (by simp) _ hTO⟩, g1.at fun o q => k i1 (by simp) o q, g2.at fun o q => k i2 (by simp) o q⟩
  item := by
    intro X hP hw hK hc i pins s σ H E I hf st hg
    subst hP hw hK
    obtain ⟨⟨f0, fl, hz, hf0⟩, hTI, ⟨x0, y0, hTO⟩, h1, h2⟩ := st
    obtain ⟨xs, ys, x, y, hqx, hqy, hx, hy⟩ := hg
    obtain ⟨its, rv, p, _⟩ := I.list hqx
    obtain ⟨its2, rv2, p2, _⟩ := I.list hqy
    obtain ⟨u, hu, ru⟩ := rv.get hx
    obtain ⟨u2, hu2, ru2⟩ := rv2.get hy
    have l1 : i < its.toArray.size := by have := (List.getElem?_eq_some_iff.mp hu).1; simpa using this
    have l2 : i < its2.toArray.size := by have := (List.getElem?_eq_some_iff.mp hu2).1; simpa using this
    have a1 : a ≠ i1 := by
      intro q; subst q
      obtain ⟨o, ho, c1, _⟩ := p.isList
      obtain ⟨o', ho', c2, _⟩ := h1
      rw [ho] at ho'; cases ho'
      rw [c1] at c2; exact absurd c2 (by simp)
    have b2 : b ≠ i2 := by
      intro q; subst q
      obtain ⟨o, ho, c1, _⟩ := p2.isList
      obtain ⟨o', ho', c2, _⟩ := h2
      rw [ho] at ho'; cases ho'
      rw [c1] at c2; exact absurd c2 (by simp)
    refine zn_item D (Draws.list (A := X.A.in1) (by exact I.ok.hd hc) i1 a a1 its.toArray) (Draws.list (A := X.A.in1) (by exact I.ok.hd hc) i2 b b2 its2.toArray) hz hf0 hTI hTO ⟨h1, p.isList⟩ ⟨h2, p2.isList⟩ l1 l2 fun y1 y2 h' tk e1 e2 z' TO' st1 st2 hU hsz hk => ?_
    have eq1 : y1 = u := by have q : its[i]? = some y1 := by simpa using e1
                            rw [hu] at q; exact (Option.some.inj q).symm
    have eq2 : y2 = u2 := by have q : its2[i]? = some y2 := by simpa using e2
                             rw [hu2] at q; exact (Option.some.inj q).symm
    subst eq1 eq2
    refine ⟨_, rfl, wpAny_pure ?_⟩
    have newU : ObjOk X.prog X.w (upd H s.heap.objs.size (.tup [x, y])) h' s.heap.objs.size (.tup [x, y]) := ⟨by show 2 ≤ sizeLine; decide, [y1, y2], .cons ru (.cons ru2 .nil), ⟨_, hU, rfl, _, rfl⟩⟩
    have I1 : Inv X pins σ (upd H s.heap.objs.size (.tup [x, y])) { s with heap := h', toks := tk } :=
      I.turnedNew (ch := [z, TI, TO, i1, i2]) (fun c o hb q => hk c o (fun q' => hb (by simp [q'])) (fun q' => hb (by simp [q'])) (fun q' => hb (by simp [q'])) (fun q' => hb (by simp [q'])) q) hf (Nat.le_refl _) newU
    have lt : ∀ c ∈ [z, TI, TO, i1, i2], c < s.heap.objs.size := fun c hcm => by
      have which : c = z ∨ c = TI ∨ c = TO ∨ c = i1 ∨ c = i2 := by simpa using hcm
      rcases which with rfl | rfl | rfl | rfl | rfl
      · exact Heap.lt_size hz
      · exact Heap.lt_size hTI
      · exact Heap.lt_size hTO
      · obtain ⟨_, e1, _⟩ := h1; exact Heap.lt_size e1
      · obtain ⟨_, e2, _⟩ := h2; exact Heap.lt_size e2
    refine ⟨.ref s.heap.objs.size, _, I1, rfl, ⟨_, x, y, rfl, I.hok.fresh (Nat.le_refl _), rfl, fun l hl => by rw [I.list_inj hl hqx]; exact hx, fun l hl => by rw [I.list_inj hl hqy]; exact hy⟩, ?_, fun c hcm => ?_⟩
    · obtain ⟨f1, fl1, hz1, hq1⟩ := z'
      obtain ⟨w1, w2, hO1⟩ := TO'
      exact ⟨⟨f1, fl1, hz1, .inr hq1⟩, hk _ _ D.TIz D.TITO D.TIi1 D.TIi2 hTI, ⟨_, _, hO1⟩, st1.1, st2.1⟩
    · rw [upd_ne (Nat.ne_of_lt (lt c hcm))]
      exact (hf c hcm).1
  done := by
    intro X hP hw hK hc i pins s σ H E I hf st hg
    subst hP hw hK
    obtain ⟨⟨f0, fl, hz, hf0⟩, hTI, ⟨x0, y0, hTO⟩, h1, h2⟩ := st
    obtain ⟨xs, ys, hqx, hqy, hi⟩ := hg
    obtain ⟨its, rv, p, _⟩ := I.list hqx
    have q1 := rv.length
    have a1 : a ≠ i1 := by
      intro q; subst q
      obtain ⟨o, ho, c1, _⟩ := p.isList
      obtain ⟨o', ho', c2, _⟩ := h1
      rw [ho] at ho'; cases ho'
      rw [c1] at c2; exact absurd c2 (by simp)
    have hn : i = its.toArray.size := by rw [hi]; simpa using q1
    refine zn_end D (Draws.list (A := X.A.in1) (by exact I.ok.hd hc) i1 a a1 its.toArray) hz hf0 hTI (by rw [← hn]; exact ⟨h1, p.isList⟩) fun h' hk => ⟨rfl, I.turnedL (ch := [z, TI, TO, i1, i2]) (t' := s.toks) (fun c o hb q => hk c o (fun q' => hb (by simp [q'])) (fun q' => hb (by simp [q'])) q) hf⟩
  self := fun A i s Q E st h => by
    obtain ⟨⟨_, _, hz, _⟩, _⟩ := st
    have hT : s.TypeIs (.ref z) "zip" := ⟨_, hz, rfl⟩
    refine wpAny_pyIter_slot hT F.slot_zip_iter (wpAny_call_entry F.slot_zip_iter hT F.entry_zip_iter ?_ (F.args_zip_iter_1 _))
    show wpAny _ _ (ret (.ref z)) _ _ s
    exact wpAny_pure ⟨_, rfl, "zip", _, hT, F.slot_zip_next.lookup, h⟩
def iZipN (K : PySem.W.Frag) (ta : TA) : TI := fun σ H R => ta σ H fun vs H1 => ∃ a b xs ys, vs = [.ref a, .ref b] ∧ SqL K H1 a xs ∧ SqL K H1 b ys ∧ R (Itzn K a b) H1
theorem pi_zipN {X : Cx} {e e2 : Expr} {ta : TA} {p2 pos2 tpos : Pos} {nm : Str} (hg2 : Gl X "zip") (hm2 : X.mg "zip" = none) (ha : PA X [e, e2] ta)
    (hs : starEach [e, e2] X.env = (false, eval e X.env) :: starEach [e2] X.env := by rfl) (hpl : (backTo pos2 (starEach [e2] X.env)).any (·.1) = false := by rfl) :
    PI X (.Name nm tpos) (.Call (.Name "zip" p2) [e, e2] [] pos2) (iZipN X.K ta) := by
  refine ⟨fun pins s σ H R I h => ?_⟩
  refine Call_ (ld_blt I hg2 hm2 PyProof.Rows.boot_zip (PyProof.Rows.callWith_type1 (thn (ha.run pos2 pins s σ H _ I h) fun us s1 ⟨vs, H1, I1, r1, q1⟩ => ?_) hs hpl))
  obtain ⟨a, b, xs, ys, ex, hqx, hqy, q⟩ := q1
  subst ex
  cases r1 with
  | cons r rr =>
    cases rr with
    | cons r' rr =>
      cases rr
      cases r
      cases r'
      obtain ⟨its, rv, p1, _⟩ := I1.list hqx
      obtain ⟨its2, rv2, p2, _⟩ := I1.list hqy
      have la : a < s1.heap.objs.size := p1.lt
      have lb : b < s1.heap.objs.size := p2.lt
      refine zip_begins2 (begins_list a its.toArray) (begins_list b its2.toArray) p1.isList p2.isList fun h1 hz hTI hTO g1 g2 hsz hk => ?_
      have I2 : Inv X pins σ H1 { s1 with heap := h1 } := I1.kept (t' := s1.toks) fun c o x => hk _ _ x
      refine wpAny_pyIter_zip hz ?_
      refine ⟨s1.heap.objs.size + 4, [s1.heap.objs.size + 4, s1.heap.objs.size + 2, s1.heap.objs.size + 3, s1.heap.objs.size, s1.heap.objs.size + 1], _, _, H1, rfl, I2,
        turn_zipN (a := a) (b := b) (zip_sep2 (N := s1.heap.objs.size) (fp1 := [a]) (fp2 := [b]) (fun c hc => by rw [List.mem_singleton.mp hc]; exact la) (fun c hc => by rw [List.mem_singleton.mp hc]; exact lb)),
        ⟨⟨_, _, hz, .inl rfl⟩, hTI, ⟨_, _, hTO⟩, ⟨_, g1, rfl, rfl⟩, ⟨_, g2, rfl, rfl⟩⟩, fun c hcm => ?_, q⟩
      have which : c = s1.heap.objs.size + 4 ∨ c = s1.heap.objs.size + 2 ∨ c = s1.heap.objs.size + 3 ∨ c = s1.heap.objs.size ∨ c = s1.heap.objs.size + 1 := by simpa using hcm
      have hle : s1.heap.objs.size ≤ c := by
        rcases which with q | q | q | q | q
        all_goals first | (rw [q]; exact Nat.le_add_right _ _) | (rw [q]; exact Nat.le_refl _)
      exact I1.fpOk hle (I1.hok.fresh hle)
theorem walk_zipN {K : PySem.W.Frag} {a b : Addr} {xs ys : List V} (hl : xs.length = ys.length) : Walk (Itzn K a b) xs.length (fun H => SqL K H a xs ∧ SqL K H b ys) (YPair (fun i => xs[i]?) (fun i => ys[i]?)) := by
  refine ⟨fun i H hi ⟨q1, q2⟩ => ⟨xs, ys, xs[i], ys[i]'(by omega), q1, q2, List.getElem?_eq_getElem hi, List.getElem?_eq_getElem (by omega)⟩, fun H ⟨q1, q2⟩ => ⟨xs, ys, q1, q2, rfl⟩, fun i H v H' _ ⟨q1, q2⟩ ⟨T, x, y, h1, h2, h3, h4, h5⟩ => ⟨T, x, y, h1, h2, h3, h4 xs q1, h5 ys q2⟩⟩
/-! ### zip(list, list) that ends with the second -/
section
variable {prog : Program} {w : World} {A : Around} {E : Value → Shared → Prop} {s : Shared} {z TI TO i1 i2 : Addr} {fp1 fp2 : List Addr} {n1 n2 i : Nat} {P1 P2 : Nat → Value → Prop} {St1 St2 : Nat → Heap → Prop} {a1 a2 f0 : Value} {fl : Bool}
theorem zg_end2 {Q : PySem.Fin → Shared → Prop} (S : ZipSep2 z TI TO i1 i2 fp1 fp2) (D1 : Draws prog w A i1 fp1 n1 P1 St1) (D2 : Draws prog w A i2 fp2 n2 P2 St2)
    (hz : ZG s.heap z TI TO f0 fl) (hf : f0 = .none ∨ ∃ a : Int, f0 = rawInt a) (hTI : IsTupOf2 s.heap TI (.ref i1) (.ref i2)) (hTO : IsTupOf2 s.heap TO a1 a2) (st1 : St1 i s.heap) (st2 : St2 n2 s.heap) (hlt1 : i < n1)
    (hE : ∀ h' tk e, (∀ c o, c ≠ z → c ≠ TO → c ≠ i1 → c ≠ i2 → s.heap.get? c = some o → h'.get? c = some o) → (∃ o, h'.get? e = some o ∧ o.cls = .type "StopIteration") → E (.ref e) { s with heap := h', toks := tk }) :
    wpAny (model prog w) A (Builtin.«zip.__next__» ⟨[.ref z], []⟩) Q E s := by
  obtain ⟨hp, g, d, tk0, os⟩ := s
  show wpAny _ _ (field (.ref z) 2 >>= _) _ _ _
  refine wpAny_bind (wpAny_field hz rfl (x := .bool false) rfl ?_)
  show wpAny _ _ (field (.ref z) 3 >>= _) _ _ _
  refine wpAny_bind (wpAny_field hz rfl (x := .ref TI) rfl ?_)
  refine wpAny_bind (wpAny_seqItems hTI rfl ?_)
  show wpAny _ _ (Builtin.SmallTypes.ownedTupleIsFree (.ref z) >>= _) _ _ _
  refine wpAny_bind (zg_free hz hf ?_ fun ha h0 hz0 hs0 => ?_)
  · simp only [if_true]
    refine wpAny_bind (wpAny_rule (wpAny_bind (wpAny_field hz rfl (x := .ref TO) rfl ?_)))
    refine wpAny_bind (wpAny_setField_rec hz (by simp) fun g0 hz0 hs0 => ?_)
    replace hz0 : ZG g0 z TI TO .ellipsis fl := hz0
    refine wpAny_bind ?_
    simp only [List.zipIdx_cons, List.zipIdx_nil, List.forIn_cons, List.forIn_nil]
    refine wpAny_bind (wpAny_bind (wpAny_onRaise (show wpAny _ _ (Builtin.SmallTypes.nextOf (.ref i1) >>= _) _ _ ⟨g0, g, d, tk0, os⟩ from ?_)))
    refine wpAny_bind (D1.item i _ _ _ hlt1 (D1.over st1 hs0 S.zf1) fun x1 p1 tk1 hx1 sn1 hp1 => wpAny_pure ?_)
    have hU1 : IsTupOf2 p1 TO a1 a2 := Heap.SameBut.extBut hp1 _ _ S.Ti1 (Heap.SameBut.extBut hs0 _ _ S.TOz hTO)
    refine wpAny_bind (wpAny_seqItems (s := ⟨p1, g, d, tk1, os⟩) hU1 rfl (wpAny_bind (updateSeq_IsTupOf2 (s := ⟨p1, g, d, tk1, os⟩) hU1 fun g1 hT1 hs1 => wpAny_bind (wpAny_letGo (wpAny_pure ?_)))))
    replace hT1 : IsTupOf2 g1 TO x1 a2 := hT1
    refine wpAny_bind (wpAny_bind (wpAny_onRaise (show wpAny _ _ (Builtin.SmallTypes.nextOf (.ref i2) >>= _) _ _ ⟨g1, g, d, tk1, os⟩ from ?_)))
    refine wpAny_bind (D2.done ⟨g1, g, d, tk1, os⟩ _ _ (D2.over (D2.over (D2.over st2 hs0 S.zf2) hp1 S.sep1_2) hs1 S.Tf2) fun q e hq he => ?_)
    obtain ⟨oe, hoe, hce⟩ := he
    have hoe : q.get? e = some oe := hoe
    have hz1 : ZG g1 z TI TO .ellipsis fl := Heap.SameBut.extBut hs1 _ _ S.TOz.symm (Heap.SameBut.extBut hp1 _ _ S.zi1 hz0)
    have hzq : ZG q z TI TO .ellipsis fl := hq _ _ S.zi2 hz1
    have hez : e ≠ z := fun x => by subst x; rw [hzq] at hoe; cases hoe; simp at hce
    refine wpAny_setField_rec (s := ⟨q, g, d, tk1, os⟩) hzq (by simp) fun q' _ hq' => ?_
    exact hE q' tk1 e (fun c o cz cT c1 c2 x => Heap.SameBut.extBut hq' _ _ cz (hq _ _ c2 (Heap.SameBut.extBut hs1 _ _ cT (Heap.SameBut.extBut hp1 _ _ c1 (Heap.SameBut.extBut hs0 _ _ cz x))))) ⟨oe, Heap.SameBut.extBut hq' _ _ hez hoe, hce⟩
  · simp only [Bool.false_eq_true, if_false]
    refine wpAny_bind ?_
    rw [← Array.forIn_toList]
    simp only [List.forIn_cons, List.forIn_nil]
    refine wpAny_bind (wpAny_bind (wpAny_holding (show wpAny _ _ (Builtin.SmallTypes.nextOf (.ref i1) >>= _) _ _ ⟨h0, g, d, tk0, os⟩ from ?_)))
    refine wpAny_bind (D1.item i _ _ _ hlt1 (D1.over st1 hs0 S.zf1) fun x1 p1 tk1 hx1 sn1 hp1 => wpAny_pure (wpAny_pure ?_))
    refine wpAny_bind (wpAny_bind (wpAny_holding (show wpAny _ _ (Builtin.SmallTypes.nextOf (.ref i2) >>= _) _ _ ⟨p1, g, d, tk1, os⟩ from ?_)))
    refine wpAny_bind (D2.done ⟨p1, g, d, tk1, os⟩ _ _ (D2.over (D2.over st2 hs0 S.zf2) hp1 S.sep1_2) fun q e hq he => ?_)
    exact hE q tk1 e (fun c o cz _ c1 c2 x => hq _ _ c2 (Heap.SameBut.extBut hp1 _ _ c1 (Heap.SameBut.extBut hs0 _ _ cz x))) he
theorem zn_end2 {Q : Option Value → Shared → Prop} (S : ZipSep2 z TI TO i1 i2 fp1 fp2) (D1 : Draws prog w A.in1 i1 fp1 n1 P1 St1) (D2 : Draws prog w A.in1 i2 fp2 n2 P2 St2)
    (hz : ZG s.heap z TI TO f0 fl) (hf : f0 = .none ∨ ∃ a : Int, f0 = rawInt a) (hTI : IsTupOf2 s.heap TI (.ref i1) (.ref i2)) (hTO : IsTupOf2 s.heap TO a1 a2) (st1 : St1 i s.heap) (st2 : St2 n2 s.heap) (hlt1 : i < n1)
    (hQ : ∀ h' tk, (∀ c o, c ≠ z → c ≠ TO → c ≠ i1 → c ≠ i2 → s.heap.get? c = some o → h'.get? c = some o) → Q none { s with heap := h', toks := tk }) : wpAny (model prog w) A (pyNext (.ref z)) Q E s := by
  have hT : s.TypeIs (.ref z) "zip" := ⟨_, hz, rfl⟩
  unfold pyNext
  refine wpAny_bind (wpAny_attempt (wpAny_callSpecial?_slot (name := Str.ofString "__next__") hT F.slot_zip_next
    (wpAny_call_entry F.slot_zip_next hT F.entry_zip_next (zg_end2 S D1 D2 hz hf hTI hTO st1 st2 hlt1 fun h' tk e hk he => ?_) (F.args_zip_next_1 _))))
  obtain ⟨o, ho, hc⟩ := he
  refine wpAny_bind (wpAny_isInstance (T := "StopIteration") (b := true) ⟨o, ho, hc⟩ isSubtype_stop ?_)
  exact wpAny_pure (hQ _ _ hk)
end
def Itzs (K : PySem.W.Frag) (a b : Addr) : It :=
  ⟨(Itzn K a b).go, (Itzn K a b).yld,
    fun i H => ∃ xs ys : List V, SqL K H a xs ∧ SqL K H b ys ∧ (i = xs.length ∨ (i < xs.length ∧ i = ys.length))⟩
theorem turn_zipSh {P : Program} {w : World} {K : PySem.W.Frag} {nm : Str} {tpos : Pos} {a b z TI TO i1 i2 : Addr} (D : ZipSep2 z TI TO i1 i2 [i1, a] [i2, b]) :
    L2.Turn P w K (.Name nm tpos) (Itzs K a b) [z, TI, TO, i1, i2] z (ZnSt a b z TI TO i1 i2) where
  mem := by simp
  obj := (turn_zipN (P := P) (w := w) (K := K) (nm := nm) (tpos := tpos) D).obj
  keep := (turn_zipN (P := P) (w := w) (K := K) (nm := nm) (tpos := tpos) D).keep
  item := (turn_zipN (P := P) (w := w) (K := K) (nm := nm) (tpos := tpos) D).item
  done := by
    intro X hP hw hK hc i pins s σ H E I hf st hg
    obtain ⟨xs, ys, hqx, hqy, hi | ⟨hi, hj⟩⟩ := hg
    · exact (turn_zipN (P := P) (w := w) (K := K) (nm := nm) (tpos := tpos) D).done X hP hw hK hc i pins s σ H E I hf st ⟨xs, ys, hqx, hqy, hi⟩
    subst hP hw hK
    obtain ⟨⟨f0, fl, hz, hf0⟩, hTI, ⟨x0, y0, hTO⟩, h1, h2⟩ := st
    obtain ⟨its, rv, p, _⟩ := I.list hqx
    obtain ⟨its2, rv2, p2, _⟩ := I.list hqy
    have q1 := rv.length
    have q2 := rv2.length
    have a1 : a ≠ i1 := by
      intro q; subst q
      obtain ⟨o, ho, c1, _⟩ := p.isList
      obtain ⟨o', ho', c2, _⟩ := h1
      rw [ho] at ho'; cases ho'
      rw [c1] at c2; exact absurd c2 (by simp)
    have b2 : b ≠ i2 := by
      intro q; subst q
      obtain ⟨o, ho, c1, _⟩ := p2.isList
      obtain ⟨o', ho', c2, _⟩ := h2
      rw [ho] at ho'; cases ho'
      rw [c1] at c2; exact absurd c2 (by simp)
    have hn : i = its2.toArray.size := by rw [hj]; simpa using q2
    have hl : i < its.toArray.size := by have : xs.length = its.length := q1; simp; omega
    refine zn_end2 D (Draws.list (A := X.A.in1) (by exact I.ok.hd hc) i1 a a1 its.toArray) (Draws.list (A := X.A.in1) (by exact I.ok.hd hc) i2 b b2 its2.toArray) hz hf0 hTI hTO ⟨h1, p.isList⟩ (by rw [← hn]; exact ⟨h2, p2.isList⟩) hl fun h' tk hk => ⟨rfl, I.turnedL (ch := [z, TI, TO, i1, i2]) (t' := tk) (fun c o hb q => hk c o (fun q' => hb (by simp [q'])) (fun q' => hb (by simp [q'])) (fun q' => hb (by simp [q'])) (fun q' => hb (by simp [q'])) q) hf⟩
  self := (turn_zipN (P := P) (w := w) (K := K) (nm := nm) (tpos := tpos) D).self
def iZipSh (K : PySem.W.Frag) (ta : TA) : TI := fun σ H R => ta σ H fun vs H1 => ∃ a b xs ys, vs = [.ref a, .ref b] ∧ SqL K H1 a xs ∧ SqL K H1 b ys ∧ R (Itzs K a b) H1
theorem pi_zipSh {X : Cx} {e e2 : Expr} {ta : TA} {p2 pos2 tpos : Pos} {nm : Str} (hg2 : Gl X "zip") (hm2 : X.mg "zip" = none) (ha : PA X [e, e2] ta)
    (hs : starEach [e, e2] X.env = (false, eval e X.env) :: starEach [e2] X.env := by rfl) (hpl : (backTo pos2 (starEach [e2] X.env)).any (·.1) = false := by rfl) :
    PI X (.Name nm tpos) (.Call (.Name "zip" p2) [e, e2] [] pos2) (iZipSh X.K ta) := by
  refine ⟨fun pins s σ H R I h => ?_⟩
  refine Call_ (ld_blt I hg2 hm2 PyProof.Rows.boot_zip (PyProof.Rows.callWith_type1 (thn (ha.run pos2 pins s σ H _ I h) fun us s1 ⟨vs, H1, I1, r1, q1⟩ => ?_) hs hpl))
  obtain ⟨a, b, xs, ys, ex, hqx, hqy, q⟩ := q1
  subst ex
  cases r1 with
  | cons r rr =>
    cases rr with
    | cons r' rr =>
      cases rr
      cases r
      cases r'
      obtain ⟨its, rv, p1, _⟩ := I1.list hqx
      obtain ⟨its2, rv2, p2, _⟩ := I1.list hqy
      have la : a < s1.heap.objs.size := p1.lt
      have lb : b < s1.heap.objs.size := p2.lt
      refine zip_begins2 (begins_list a its.toArray) (begins_list b its2.toArray) p1.isList p2.isList fun h1 hz hTI hTO g1 g2 hsz hk => ?_
      have I2 : Inv X pins σ H1 { s1 with heap := h1 } := I1.kept (t' := s1.toks) fun c o x => hk _ _ x
      refine wpAny_pyIter_zip hz ?_
      refine ⟨s1.heap.objs.size + 4, [s1.heap.objs.size + 4, s1.heap.objs.size + 2, s1.heap.objs.size + 3, s1.heap.objs.size, s1.heap.objs.size + 1], _, _, H1, rfl, I2,
        turn_zipSh (a := a) (b := b) (zip_sep2 (N := s1.heap.objs.size) (fp1 := [a]) (fp2 := [b]) (fun c hc => by rw [List.mem_singleton.mp hc]; exact la) (fun c hc => by rw [List.mem_singleton.mp hc]; exact lb)),
        ⟨⟨_, _, hz, .inl rfl⟩, hTI, ⟨_, _, hTO⟩, ⟨_, g1, rfl, rfl⟩, ⟨_, g2, rfl, rfl⟩⟩, fun c hcm => ?_, q⟩
      have which : c = s1.heap.objs.size + 4 ∨ c = s1.heap.objs.size + 2 ∨ c = s1.heap.objs.size + 3 ∨ c = s1.heap.objs.size ∨ c = s1.heap.objs.size + 1 := by simpa using hcm
      have hle : s1.heap.objs.size ≤ c := by
        rcases which with q | q | q | q | q
        all_goals first | (rw [q]; exact Nat.le_add_right _ _) | (rw [q]; exact Nat.le_refl _)
      exact I1.fpOk hle (I1.hok.fresh hle)
theorem walk_zipSh {K : PySem.W.Frag} {a b : Addr} {xs ys : List V} {n : Nat} (hl : n = min xs.length ys.length) : Walk (Itzs K a b) n (fun H => SqL K H a xs ∧ SqL K H b ys) (YPair (fun i => xs[i]?) (fun i => ys[i]?)) := by
  subst hl
  refine ⟨fun i H hi ⟨q1, q2⟩ => ⟨xs, ys, xs[i]'(by omega), ys[i]'(by omega), q1, q2, List.getElem?_eq_getElem (by omega), List.getElem?_eq_getElem (by omega)⟩, fun H ⟨q1, q2⟩ => ⟨xs, ys, q1, q2, by omega⟩, fun i H v H' _ ⟨q1, q2⟩ ⟨T, x, y, h1, h2, h3, h4, h5⟩ => ⟨T, x, y, h1, h2, h3, h4 xs q1, h5 ys q2⟩⟩
/-- one clause's walk: what a turn does, with what comes behind it -/
theorem two_it {J : It} {n : Nat} {G : Hp → Prop} {Y : Nat → Hp → V → Hp → Prop} (wk : Walk J n G Y) {H0 : Hp} {Qd : Hp → Prop} {body : (Hp → Prop) → V → Hp → Prop} (Pv : Nat → Hp → Prop) (h0 : Pv 0 H0) (hG : ∀ i H, i ≤ n → Pv i H → G H)
    (hs : ∀ i x H H', i < n → Pv i H → Y i H x H' → body (Pv (i + 1)) x H') (hd : ∀ H, Pv n H → Qd H) :
    ∃ W : Nat → Nat → Hp → Prop, (∃ m, W 0 m H0) ∧ ∀ i m H, W i m H →
      (J.stop i H ∧ Qd H) ∨ (J.go i H ∧ ∃ Nx : Hp → Prop, (∀ H', Nx H' → ∃ m', m' < m ∧ W (i + 1) m' H') ∧ ∀ x H', J.yld i H x H' → body Nx x H') := by
  refine ⟨fun i m H => m = n - i ∧ i ≤ n ∧ Pv i H, ⟨n, by simp, Nat.zero_le _, h0⟩, ?_⟩
  rintro i m H ⟨rfl, hi, p⟩
  have q := hG i H hi p
  by_cases hlt : i < n
  · refine .inr ⟨wk.goes i H hlt q, Pv (i + 1), fun H' p' => ⟨n - (i + 1), by omega, rfl, hlt, p'⟩, fun x H' y => hs i x H H' hlt p (wk.yields i H x H' hlt q y)⟩
  · have e : i = n := by omega
    subst e
    exact .inl ⟨wk.stops H q, hd H p⟩
theorem pi_listKK {X : Cx} {K : PySem.W.Frag} (hK : X.K = K) {tg l : Expr} {tl : TE} (hl : PE X l tl) : PI X tg l (iList K tl) := by subst hK; exact pi_list hl
/-! ### min of a list of data that can be compared; the rows of the ways -/
section
def rMinDp (K : PySem.W.Frag) : List V → Hp → VK → Prop := fun vs H Q => ∃ (a : Addr) (xs : List V) (ds : List PyData), vs = [V.ref a] ∧ SqL K H a xs ∧ DpAll K H xs ds ∧ ds ≠ [] ∧ PySem.W.AlikeAll ds ∧ PyData.depthAll ds ≤ 32 ∧
  ∀ (i : Nat) (x : V) (d : PyData), xs[i]? = some x → ds[i]? = some d → (∀ e ∈ ds, PySem.W.dataLt e d = false) → Q x H
theorem dpAll_len {K : PySem.W.Frag} {H : Hp} : ∀ {xs : List V} {ds : List PyData}, DpAll K H xs ds → xs.length = ds.length
  | [], [], _ => rfl
  | _ :: _, _ :: _, .cons _ h => congrArg (· + 1) (dpAll_len h)
open PyProof.Rows in
theorem dlt_trans {a b c : PyData} (h1 : PySem.W.dataLt a b = true) (h2 : PySem.W.dataLt b c = true) : PySem.W.dataLt a c = true := lex_trans _ _ _ h1 h2
theorem cr_minDp {X : Cx} {K : PySem.W.Frag} (hc : X.calm = true) (hK : X.K = K) (hu : X.A.units + 64 < cLine) : CallR X (.builtin "min") (rMinDp K) := by
  subst hK
  intro pins s σ H vs us Q I r h
  obtain ⟨a, xs, ds, rfl, hs, hd, hne, al, dp, q⟩ := h
  obtain ⟨its, rv, hl, hz⟩ := I.list hs
  obtain ⟨u, rfl, ru⟩ := vals1 r
  obtain rfl : u = Value.ref a := ru
  have len : its.length = xs.length := rv.length.symm
  have len2 : xs.length = ds.length := dpAll_len hd
  obtain ⟨as, ra⟩ := Dp.readsAll I ds xs its hd rv
  have pos : 0 < its.toArray.size := by
    rw [List.size_toArray, len, len2]
    exact List.length_pos_iff.mpr hne
  refine call_min_walkH (PySem.W.iter_listW (A := X.A.in1) (I.ok.hd hc) hl.isList fun s₂ e W st hfp hw hk => ?_)
  refine ⟨_, _, _, _, _, _, _, s.heap, _, rfl, W, st, hfp, pos, hw, hk, PySem.W.cmpIn_lt (A := X.A.in1) (vs := its.toArray) (xs := ds) (as := as) ra al (by show X.A.units + 1 + _ < _; omega), fun v s' hP m => ?_⟩
  obtain ⟨h', tk, rfl, hk'⟩ := PySem.W.moved_old e rfl m
  have bl := argBest_least (n := ds.length) (bt := fun i j => PySem.W.dataLt (ds.getD i .none) (ds.getD j .none)) (fun i hi => PySem.W.dataLt_self _) (fun i b m hi hb hm h1 h2 => ?_) (its.toArray.size - 1) (by rw [List.size_toArray] at *; omega)
  · have hP' : its[argBest (fun i j => PySem.W.dataLt (ds.getD i .none) (ds.getD j .none)) (its.toArray.size - 1)]? = some v := by
      have := hP
      simpa using this
    have lt := (List.getElem?_eq_some_iff.mp hP').1
    obtain ⟨x, ex, rx⟩ : ∃ x, xs[argBest (fun i j => PySem.W.dataLt (ds.getD i .none) (ds.getD j .none)) (its.toArray.size - 1)]? = some x ∧ RelV x v := by
      obtain ⟨u, hu, ru⟩ := rv.get (i := argBest (fun i j => PySem.W.dataLt (ds.getD i .none) (ds.getD j .none)) (its.toArray.size - 1)) (List.getElem?_eq_getElem (by omega))
      rw [hP'] at hu
      cases hu
      exact ⟨_, List.getElem?_eq_getElem (by omega), ru⟩
    refine ⟨x, H, I.kept hk', rx, q _ x _ ex (List.getElem?_eq_getElem (by omega)) fun e he => ?_⟩
    obtain ⟨j, ej⟩ := List.mem_iff_getElem?.mp he
    have hj := (List.getElem?_eq_some_iff.mp ej).1
    have z := bl.2 j (by rw [List.size_toArray]; omega)
    rw [List.getD_eq_getElem?_getD, ej, List.getD_eq_getElem?_getD, List.getElem?_eq_getElem (by omega)] at z
    exact z
  · cases e : PySem.W.dataLt (ds.getD i .none) (ds.getD m .none) with
    | false => rfl
    | true => rw [dlt_trans e h2] at h1; cases h1
/-- the data of a way -/
def wkD (c l : Int) (N : List Str) : PyData := .tuple [.int c, .int l, .list (N.map PyData.str)]
theorem wk_alike (c l : Int) (N : List Str) (c' l' : Int) (N' : List Str) : PySem.W.alike (wkD c l N) (wkD c' l' N') = true := by
  have h : PySem.W.alike (.list (N.map PyData.str)) (.list (N'.map PyData.str)) = true := PySem.W.DatumOrd.alike (α := List Str) N N'
  unfold wkD
  simp only [PySem.W.alike, PySem.W.alikeAll, Bool.true_and, Bool.and_true] at h ⊢
  exact h
theorem wk_alikeAll (f : List Str → Int) (g : List Str → Int) (Ns : List (List Str)) : PySem.W.AlikeAll (Ns.map fun N => wkD (f N) (g N) N) :=
  ⟨fun x hx y hy => by
    obtain ⟨N, _, rfl⟩ := List.mem_map.mp hx
    obtain ⟨N', _, rfl⟩ := List.mem_map.mp hy
    exact wk_alike _ _ _ _ _ _, fun x hx e => by
    obtain ⟨N, _, rfl⟩ := List.mem_map.mp hx
    cases e⟩
theorem wk_depth (c l : Int) (N : List Str) : (wkD c l N).depth ≤ 8 := by
  have h : ∀ N : List Str, PyData.depthAll (N.map PyData.str) ≤ 2 := fun N => by
    induction N with
    | nil => simp [PyData.depthAll]
    | cons x N ih => simp [PyData.depthAll, PyData.depth] at ih ⊢; omega
  have := h N
  unfold wkD
  simp only [PyData.depth, PyData.depthAll]
  omega
theorem wk_depthAll (f : List Str → Int) (g : List Str → Int) (Ns : List (List Str)) : PyData.depthAll (Ns.map fun N => wkD (f N) (g N) N) ≤ 32 := by
  induction Ns with
  | nil => simp [PyData.depthAll]
  | cons N Ns ih =>
    have := wk_depth (f N) (g N) N
    simp only [List.map_cons, PyData.depthAll]
    omega
theorem wk_lt (c l : Int) (N : List Str) (c' l' : Int) (N' : List Str) : PySem.W.dataLt (wkD c l N) (wkD c' l' N') = if c = c' then (if l = l' then PySem.W.listLt N N' else decide (l < l')) else decide (c < c') := by
  have h : PySem.W.dataLt (.list (N.map PyData.str)) (.list (N'.map PyData.str)) = PySem.W.listLt N N' := PySem.W.DatumOrd.lt_eq (α := List Str) N N'
  have ha : PySem.W.alike (.list (N.map PyData.str)) (.list (N'.map PyData.str)) = true := PySem.W.DatumOrd.alike (α := List Str) N N'
  unfold wkD
  rw [PySem.W.dataLt_tuple, PySem.W.dataLt_cons (by simp only [PySem.W.alike]), PySem.W.dataLt_cons (by simp only [PySem.W.alike]), PySem.W.dataLt_cons ha, PySem.W.dataLt_int, PySem.W.dataLt_int, h]
  generalize hE : PyData.eqv (.list (N.map PyData.str)) (.list (N'.map PyData.str)) = b
  simp only [PyData.eqv, beq_iff_eq]
  by_cases h1 : c = c'
  · rw [if_pos h1, if_pos h1]
    by_cases h2 : l = l'
    · rw [if_pos h2, if_pos h2]
      cases b with
      | true =>
        rw [if_pos rfl]
        have e2 : N = N' := by
          have := (PySem.W.Datum.eqv (α := List Str) N N')
          rw [show PyData.eqv (PySem.W.Datum.toD N) (PySem.W.Datum.toD N') = true from hE] at this
          exact of_decide_eq_true this.symm
        subst e2
        have z : PySem.W.dataLt (.list (N.map PyData.str)) (.list (N.map PyData.str)) = false := PySem.W.dataLt_self _
        rw [h] at z
        rw [z]
        exact PyProof.Rows.lex_irrefl _
      | false => rw [if_neg Bool.false_ne_true]
    · rw [if_neg h2, if_neg h2]
  · rw [if_neg h1, if_neg h1]
theorem str_anti {x y : Str} (h1 : decide (x.cps.toList < y.cps.toList) = false) (h2 : decide (y.cps.toList < x.cps.toList) = false) : x = y := by
  have e : x.cps.toList = y.cps.toList := List.le_antisymm (List.not_lt.mp (of_decide_eq_false h2)) (List.not_lt.mp (of_decide_eq_false h1))
  cases x
  cases y
  exact congrArg Str.mk (Array.toList_inj.mp e)
theorem strs_anti : ∀ {N N' : List Str}, PySem.W.listLt N N' = false → PySem.W.listLt N' N = false → N = N'
  | [], [], _, _ => rfl
  | [], _ :: _, h, _ => by cases h
  | _ :: _, [], _, h => by cases h
  | x :: N, y :: N', h1, h2 => by
    unfold PySem.W.listLt at h1 h2
    by_cases e : x = y
    · subst e
      rw [if_pos rfl] at h1 h2
      rw [strs_anti h1 h2]
    · rw [if_neg e] at h1
      rw [if_neg fun z => e z.symm] at h2
      exact absurd (str_anti h1 h2) e
theorem wk_anti {c l : Int} {N : List Str} {c' l' : Int} {N' : List Str} (h1 : PySem.W.dataLt (wkD c l N) (wkD c' l' N') = false) (h2 : PySem.W.dataLt (wkD c' l' N') (wkD c l N) = false) : N = N' := by
  rw [wk_lt] at h1 h2
  by_cases e : c = c'
  · rw [if_pos e] at h1
    rw [if_pos e.symm] at h2
    by_cases e2 : l = l'
    · rw [if_pos e2] at h1
      rw [if_pos e2.symm] at h2
      exact strs_anti h1 h2
    · rw [if_neg e2] at h1
      rw [if_neg fun z => e2 z.symm] at h2
      have := of_decide_eq_false h1
      have := of_decide_eq_false h2
      omega
  · rw [if_neg e] at h1
    rw [if_neg fun z => e z.symm] at h2
    have := of_decide_eq_false h1
    have := of_decide_eq_false h2
    omega
theorem wk_up (k : Int) (c l : Int) (N : List Str) (c' l' : Int) (N' : List Str) : PySem.W.dataLt (wkD c (l + k) N) (wkD c' (l' + k) N') = PySem.W.dataLt (wkD c l N) (wkD c' l' N') := by
  rw [wk_lt, wk_lt]
  by_cases e : c = c'
  · rw [if_pos e, if_pos e]
    by_cases e2 : l = l'
    · rw [if_pos e2, if_pos (by omega)]
    · rw [if_neg e2, if_neg (by omega)]
      exact decide_eq_decide.mpr (by omega)
  · rw [if_neg e, if_neg e]
theorem wk_dp {K : PySem.W.Frag} {H : Hp} {t p : Addr} {c l : Int} {N : List Str} (h1 : SqT K H t [.int c, .int l, .ref p]) (h2 : SqL K H p (N.map V.str)) : Dp K H (.ref t) (wkD c l N) := by
  refine .tup h1 (.cons (.int _) (.cons (.int _) (.cons (.lst h2 ?_) .nil)))
  clear h2
  induction N with
  | nil => exact .nil
  | cons x N ih => exact .cons (.str _) ih
/-- what is sorted is one -/
theorem sortedS_unique {ys zs : List Str} (hp : ys.Perm zs) (h1 : PyProof.Rows.sortedS ys = true) (h2 : PyProof.Rows.sortedS zs = true) : ys = zs := by
  have pw : ∀ (l : List Str) (p : Str), PyProof.Rows.risingS p l = true → (p :: l).Pairwise fun x y => decide (y.cps.toList < x.cps.toList) = false := fun l => by
    induction l with
    | nil => exact fun p _ => List.pairwise_singleton _ _
    | cons x l ih =>
      intro p h
      simp only [PyProof.Rows.risingS, Bool.and_eq_true, Bool.not_eq_true'] at h
      have h0 : ¬ x.cps.toList < p.cps.toList := fun z => by
        have e := h.1
        rw [PyProof.Rows.ltCps_eq] at e
        exact of_decide_eq_false e z
      have h3 := ih x h.2
      refine List.Pairwise.cons (fun y hy => ?_) h3
      rcases List.mem_cons.mp hy with rfl | hy
      · exact decide_eq_false h0
      · have h4 : ¬ y.cps.toList < x.cps.toList := of_decide_eq_false ((List.pairwise_cons.mp h3).1 y hy)
        exact decide_eq_false fun z => by
          rcases Decidable.em (x.cps.toList < p.cps.toList) with q | q
          · exact h0 q
          · exact h4 (List.lt_of_le_of_lt (List.not_lt.mp h4) z |> fun w => (h0 w).elim)
  have pw2 : ∀ l : List Str, PyProof.Rows.sortedS l = true → l.Pairwise fun x y => decide (y.cps.toList < x.cps.toList) = false := fun l h => by
    cases l with
    | nil => exact .nil
    | cons x l => exact pw l x h
  exact List.Perm.eq_of_pairwise (fun a b _ _ x y => str_anti y x) (pw2 _ h1) (pw2 _ h2) hp
end
theorem pa_starKK {X : Cx} {K : PySem.W.Frag} (hK : X.K = K) {e : Expr} {es : List Expr} {te : TE} {t : TA} {p : Pos} (he : PE X e te) (hr : PA X es t) (hs : starEach (.Starred e p :: es) X.env = (true, eval e X.env) :: starEach es X.env := by rfl) : PA X (.Starred e p :: es) (StX.tStar K te t) := by
  subst hK
  exact StX.pa_star he hr hs
theorem inSKs {X : Cx} {K : PySem.W.Frag} (h : X.K = K) : OpR X (compareOp .In) (rIn K false) := by subst h; exact op_in_seq
theorem niSKs {X : Cx} {K : PySem.W.Frag} (h : X.K = K) : OpR X (compareOp .NotIn) (rIn K true) := by subst h; exact op_notIn_seq
theorem eqV_str (a b : Str) : eqV (.str a) (.str b) = (a == b) := rfl
theorem inV_strs (x : Str) (N : List Str) : inV (.str x) (N.map V.str) = decide (x ∈ N) := by
  unfold inV
  induction N with
  | nil => rfl
  | cons y N ih =>
    rw [List.map_cons, List.any_cons, ih, eqV_str, Bool.eq_iff_iff, Bool.or_eq_true, beq_iff_eq, decide_eq_true_iff, decide_eq_true_iff, List.mem_cons]
    exact ⟨fun h => h.elim (fun h => .inl h.symm) .inr, fun h => h.elim (fun h => .inl h.symm) .inr⟩
theorem flat_strs (N : List Str) : (N.map V.str).all flatV = true := by
  induction N with
  | nil => rfl
  | cons y N ih => rw [List.map_cons, List.all_cons, ih]; rfl
/-! ### names -/
def lettersS : Str := "abcdefghijklmnopqrstuvwxyz"
def lettersB (x : Str) : Bool := decide (0 < x.cps.size) && x.cps.toList.all fun c => decide (c ∈ lettersS.cps.toList)
def nameOk (x : Str) : Bool := lettersB x && decide (x.length ≤ 8)
/-- a plain refusal, told of the heap as it stands or with new things -/
def PlainX (H : Hp) (C : Addr) (E : XK) : Prop := ∀ H', Same H H' → E (.ref C) none H'
theorem PlainX.same {H H' : Hp} {C : Addr} {E : XK} (h : PlainX H C E) (s : Same H H') : PlainX H' C E := fun H2 s2 => h H2 (s.trans s2)
def spLettered : Sp := fun vs H Q _ => ∃ x : Str, vs = [.str x] ∧ x.length ≤ 8000000 ∧ ∀ H', Same H H' → Q (.bl (lettersB x)) H'
def spCheckName (C : Addr) : Sp := fun vs H Q E => ∃ x : Str, vs = [.str x] ∧ x.length ≤ 8000000 ∧ (nameOk x = true → ∀ H', Same H H' → Q .non H') ∧ (nameOk x = false → PlainX H C E)
theorem lenG {x : Str} : x.length = x.cps.size := rfl
theorem lineX {x : Str} (h : x.length ≤ 8000000) : x.length ≤ sizeLine := by rw [sizeLine_eq]; omega
theorem app_lenX {x y : Str} {n m : Nat} (hx : x.length ≤ n) (hy : y.length ≤ m) : (x ++ y).length ≤ n + m := by
  rw [Str.length_append]; omega
theorem lineX2 {x : Str} {n : Nat} (h : x.length ≤ n) (hn : n ≤ 9000000) : x.length ≤ sizeLine := by rw [sizeLine_eq]; omega
theorem log_anyG {i : Int} (h0 : -1000000 ≤ i) (h : i ≤ 1000000) : i.natAbs.log2 < 1920 := by
  have : i.natAbs < 2 ^ 1920 := Nat.lt_of_le_of_lt (show i.natAbs ≤ 2 ^ 20 by omega) (Nat.pow_lt_pow_right (by decide) (by decide))
  by_cases e : i.natAbs = 0
  · rw [e]; decide
  · exact (Nat.log2_lt e).mpr this
theorem str_anyG {i : Int} (h0 : -1000000 ≤ i) (h : i ≤ 1000000) : (Str.ofString (toString i)).length ≤ 11 := by
  rw [PySem.ofString_length]
  exact PySem.int_text_length_le10 (k := 10) (by decide) (by omega)
section
variable {P : Program} {w : World} {K : PySem.W.Frag} {mg : Str → Option Value} {base : Heap}
theorem ok_is_lettered (T : All K mg) : FnOk P w K mg base CX0 1 T.d_is_lettered.f T.d_is_lettered.fd ["word"] spLettered := by
  refine T.d_is_lettered.F.ok sc_is_lettered (fun vs H Q E h => ?_) (fun cdv A outer s H vs Q E hr h => ?_)
  · obtain ⟨_, rfl, _⟩ := h
    rfl
  · obtain ⟨x, rfl, xl, k⟩ := h
    refine ⟨_, (pss_one 
      (ps_ret (pe_and (pe_cmpR op_gt (pe_callB call_len (by rfl) T.b_len PySem.boot_len (pa_cons (pv 0) pa_nil)) pe_int (nomark _)) (pe_one (pe_callB (cr_all rfl) (by rfl) T.b_all (by decide +kernel) (pa_cons (pe_lc (own := [("letter", 1)]) (g := gName 1) (tt := tYes) rfl sc_is_lettered.nd (pi_str (pv 0)) (blkOk_by (own := [("letter", 1)]) (N := ["word", "letter"]) (sc := defScope s_is_lettered) (by decide +kernel)) (fun _ _ _ _ _ => (pg_name (i := 1) sc_is_lettered.nd rfl (Or.inl rfl))) (fun _ _ _ _ _ => pts_nil) (fun _ _ _ _ _ => (pe_cmpR op_inS (pv 1) (pe_glob (v := .str "abcdefghijklmnopqrstuvwxyz") rfl T.c_LETTERS ⟨_, rfl⟩) (by with_unfolding_all rfl)))) pa_nil)))))), ?_⟩
    refine ⟨_, rfl, _, x.length, rfl, ⟨lineX xl, rfl⟩, _, _, rfl, rfl, _, rfl, ?_⟩
    by_cases c1 : 0 < x.cps.size
    · rw [decide_eq_true (show (x.length : Int) > 0 by rw [lenG]; omega)]
      refine ⟨_, rfl, _, rfl, fun D hD => lc_it walk_str (fun i H2 => Same H H2 ∧ H2 D = some (.lst ((x.cps.toList.take i).map fun c => V.bl (decide (c ∈ lettersS.cps.toList))))) ⟨Same.new hD, upd_same⟩ (fun _ _ _ _ => trivial) ?_ ?_⟩
      · rintro i y H2 H3 hi ⟨s2, hd⟩ ⟨rfl, c, hc, rfl⟩
        have hc' : x.cps.toList[i]? = some c := by rw [Array.getElem?_toList]; exact hc
        refine ⟨rfl, _, rfl, c, _, rfl, rfl, ?_⟩
        refine ⟨_, hd, ?_, fun b o z => ?_, ?_⟩
        · rw [List.length_map, List.length_take, sizeLine_eq]
          have : x.cps.toList.length = x.length := rfl
          omega
        · rw [upd_ne (ne_of_none z hD)]
          exact s2 _ _ z
        · rw [upd_same, take_snoc hc', List.map_append]
          rfl
      · rintro H2 ⟨s2, hd⟩
        have e : x.cps.toList.take x.cps.size = x.cps.toList := List.take_of_length_le (Nat.le_refl _)
        rw [e] at hd
        have e2 : (x.cps.toList.map fun c => V.bl (decide (c ∈ lettersS.cps.toList))) = (x.cps.toList.map fun c => decide (c ∈ lettersS.cps.toList)).map V.bl := by rw [List.map_map]; rfl
        rw [e2] at hd
        refine ⟨D, _, rfl, SqL.of hd, ?_⟩
        have ai : (x.cps.toList.map fun c => decide (c ∈ lettersS.cps.toList)).all id = lettersB x := by
          rw [List.all_map]
          unfold lettersB
          rw [decide_eq_true c1]
          rfl
        rw [ai]
        exact k H2 s2
    · rw [decide_eq_false (show ¬ (x.length : Int) > 0 by rw [lenG]; omega)]
      have e : lettersB x = false := by unfold lettersB; rw [decide_eq_false c1]; rfl
      have kk := k H (Same.refl _)
      rw [e] at kk
      exact kk
theorem okx_check_name (T : All K mg) : FnOk P w K mg base (L2.CX P w) 2 T.d_check_name.f T.d_check_name.fd ["name"] (spCheckName T.k_BadName) := by
  have G_is_lettered : FnOk P w K mg base CX0 1 T.d_is_lettered.f T.d_is_lettered.fd ["word"] spLettered := ok_is_lettered T
  refine T.d_check_name.F.okX sc_check_name (fun vs H Q E h => ?_) (fun cdv A outer s H vs Q E hr h => ?_)
  · obtain ⟨_, rfl, _⟩ := h
    rfl
  · obtain ⟨x, rfl, xl, k0, kE⟩ := h
    refine ⟨_, (pss_one 
      (ps_if (PW.pt (pw_or (pt_not (pt_val (pe_call G_is_lettered (hr.mono (by decide)) rfl T.d_is_lettered.m T.d_is_lettered.F.kp T.d_is_lettered.b .nil pass0 (pa_cons (pv 0) pa_nil)))) (pw_or1 (pt_cmpR op_gt (pe_callB call_len (by rfl) T.b_len PySem.boot_len (pa_cons (pv 0) pa_nil)) (pe_glob (v := .int 8) rfl T.c_MOST_LETTERS ⟨_, rfl⟩) (nomark _))))) (pss_one (ps_raise rfl (takes_of rfl rfl rfl rfl) (SkE.pmk_own1 PySem.F.excBase_ValueError T.o_BadName.xC T.m_BadName T.o_BadName.kC (raises_own T.o_BadName.bC T.o_BadName.tC) rfl (pe_joined (PJ.cons (pe_fmt (pv 0)) (PJ.cons pe_str PJ.nil)))))) pss_nil)), ?_⟩
    refine ⟨_, rfl, x, rfl, xl, fun H2 s2 => ⟨_, rfl, ?_⟩⟩
    have bad : nameOk x = false → (tJs [tFmt (tVar 0), tC (V.str (Str.ofString " is no name"))] Str.empty (L2.start [Str.ofString "name"] [V.str x]) H2 fun out H1 => E (.ref T.k_BadName) none H1) := fun z => by
      have a1 := app_lenX (show Str.empty.length ≤ 0 from Nat.le_refl _) xl
      have a2 := app_lenX a1 (show (Str.ofString " is no name").length ≤ 30 by decide)
      exact ⟨_, rfl, .inl ⟨_, rfl, lineX xl, _, rfl, lineX2 a1 (by decide), _, rfl, lineX2 a2 (by decide), kE z _ s2⟩⟩
    cases c1 : lettersB x with
    | false => exact (if_pos (rfl : (!false) = true)).mpr ((if_pos (rfl : true = true)).mpr (bad (by unfold nameOk; rw [c1]; rfl)))
    | true =>
      refine (if_neg (show ¬ (!true) = true by decide)).mpr ?_
      refine ⟨_, rfl, _, x.length, rfl, ⟨lineX xl, rfl⟩, _, _, rfl, rfl, _, rfl, ite2 (fun h => ?_) fun h => ?_⟩
      · have h : (8 : Int) < x.length := of_decide_eq_true h
        exact bad (by unfold nameOk; rw [c1, decide_eq_false (by omega)]; rfl)
      · have h : ¬ (8 : Int) < x.length := of_decide_eq_false (Bool.not_eq_true _ ▸ h)
        exact k0 (by unfold nameOk; rw [c1, decide_eq_true (by omega)]; rfl) _ s2
end
/-! ### shops: what stands in memory -/
theorem FnOk.x0G {P : Program} {w : World} {K : PySem.W.Frag} {mg : Str → Option Value} {base : Heap} {k : Nat} {f : Addr} {fd : FuncData} {ps : List Str} {sp : Sp} (F : FnOk P w K mg base (L2.CX P w) k f fd ps sp) : FnOk P w K mg base CX0 k f fd ps (fun vs H Q _ => sp vs H Q fun _ _ _ => False) := by
  refine ⟨fun vs H Q E q => F.len vs H Q _ q, fun A outer s H args us vs Q E hr he hb hv hs => ?_⟩
  refine codeAny_mono (F.run A outer s H args us vs Q _ hr he hb hv hs) fun r s' q => ?_
  cases r with
  | ok v => cases v <;> exact q
  | error e =>
    obtain ⟨_, _, _, _, _, _, _, _, _, _, _, _, z⟩ := q
    exact z.elim
/-- all but L stays -/
def KeepM (L : List Addr) (H H' : Hp) : Prop := ∀ b o, b ∉ L → H b = some o → H' b = some o
theorem KeepM.of {L : List Addr} {H H' : Hp} (s : Same H H') : KeepM L H H' := fun b o _ e => s b o e
theorem KeepM.trans {L : List Addr} {H H1 H2 : Hp} (a : KeepM L H H1) (b : KeepM L H1 H2) : KeepM L H H2 := fun x o n e => b x o n (a x o n e)
theorem KeepM.upd {L : List Addr} {H : Hp} {x : Addr} {o : HO} (h : x ∈ L) : KeepM L H (upd H x o) := fun b u n e => by rw [upd_ne fun z => n (by rw [z]; exact h)]; exact e
/-- no tuple -/
def NT (o : HO) : Prop := ∀ xs, o ≠ .tup xs
/-- what lives goes on living; what is no tuple stays none -/
def Live (H H' : Hp) : Prop := ∀ b o, H b = some o → ∃ o', H' b = some o' ∧ (NT o → NT o')
theorem Live.of {H H' : Hp} (s : Same H H') : Live H H' := fun b o h => ⟨o, s b o h, fun n => n⟩
theorem Live.refl (H : Hp) : Live H H := fun _ o h => ⟨o, h, fun n => n⟩
theorem Live.trans {H H1 H2 : Hp} (a : Live H H1) (b : Live H1 H2) : Live H H2 := fun x o h => by
  obtain ⟨o1, h1, n1⟩ := a x o h
  obtain ⟨o2, h2, n2⟩ := b x o1 h1
  exact ⟨o2, h2, fun n => n2 (n1 n)⟩
theorem Live.ne {H H' : Hp} (a : Live H H') {b : Addr} (h : H b ≠ none) : H' b ≠ none := by
  cases e : H b with
  | none => exact absurd e h
  | some o =>
    obtain ⟨o1, h1, _⟩ := a b o e
    rw [h1]
    exact fun z => nomatch z
/-- what is free now was free -/
theorem Live.free {H H' : Hp} (a : Live H H') {b : Addr} (h : H' b = none) : H b = none := by
  cases e : H b with
  | none => rfl
  | some o => exact absurd h (a.ne (by rw [e]; exact fun z => nomatch z))
/-- frozen things: G grows to G' by things that were new in H, or are tuples -/
structure ExtG (H G G' : Hp) : Prop where
  sub : Same G G'
  new : ∀ b o, G b = none → H b = some o → NT o → G' b = none
theorem ExtG.refl (H G : Hp) : ExtG H G G := ⟨Same.refl _, fun _ _ h _ _ => h⟩
theorem ExtG.trans {H H1 G G1 G2 : Hp} (a : ExtG H G G1) (l : Live H H1) (b : ExtG H1 G1 G2) : ExtG H G G2 := ⟨a.sub.trans b.sub, fun x o h n t => by
  obtain ⟨o1, h1, n1⟩ := l x o n
  exact b.new x o1 (a.new x o h n t) h1 (n1 t)⟩
theorem ExtG.add {H G : Hp} {t : Addr} {o : HO} (g : Same G H) (h : H t = none) : ExtG H G (upd G t o) := by
  have gt : G t = none := by
    cases e : G t with
    | none => rfl
    | some u => rw [g t u e] at h; cases h
  exact ⟨Same.new gt, fun b u hb hn _ => by rw [upd_ne fun z => by rw [z, h] at hn; cases hn]; exact hb⟩
/-- all tuples of H are frozen, too -/
def tupG (G H : Hp) : Hp := fun b => match G b with
  | some o => some o
  | none => match H b with
    | some (.tup xs) => some (.tup xs)
    | _ => none
theorem tupG_sub {G H : Hp} (g : Same G H) : Same (tupG G H) H := fun b o h => by
  unfold tupG at h
  cases e : G b with
  | some u => rw [e] at h; rw [← h]; exact g b u e
  | none =>
    rw [e] at h
    cases q : H b with
    | none => rw [q] at h; cases h
    | some u => rw [q] at h; cases u <;> first | exact h | cases h
theorem tupG_tups (G H : Hp) (g : Same G H) : Tups H (tupG G H) := fun b xs h => by
  unfold tupG
  cases e : G b with
  | some u => have := g b u e; rw [h] at this; exact this.symm
  | none => simp only [h]
theorem tupG_ext {H H2 G : Hp} (l : Live H H2) : ExtG H G (tupG G H2) := by
  refine ⟨fun b o h => ?_, fun b o h hb n => ?_⟩
  · unfold tupG
    simp only [h]
  · obtain ⟨o2, h2, n2⟩ := l b o hb
    have n2 := n2 n
    unfold tupG
    simp only [h, h2]
    cases o2 <;> first | rfl | exact absurd rfl (n2 _)
theorem Same.upd2 {G H : Hp} {t : Addr} {o : HO} (g : Same G H) : Same (upd G t o) (upd H t o) := fun b u e => by
  by_cases z : b = t
  · subst z; rw [upd_same] at e ⊢; exact e
  · rw [upd_ne z] at e ⊢; exact g b u e
/-- what the devices of a house are -/
structure CuK where
  T : Type
  at_ : Hp → V → T → Prop
  same : ∀ H H' v c, Same H H' → at_ H v c → at_ H' v c
inductive Deed where
  | put (x : Str) (es : List Int) | lean (x b : Str) | whole (x : Str) | drop (x : Str) | tidy | give (x : Str) | send (k : Int) (x : Str) | go (k n : Int) | cut (k : Int) | wake (k : Int)
def Deed.tup : Deed → List V
  | .put x es => [.str "put", .str x, .byt (byteArr es)]
  | .lean x b => [.str "lean", .str x, .str b]
  | .whole x => [.str "whole", .str x]
  | .drop x => [.str "drop", .str x]
  | .tidy => [.str "tidy"]
  | .give x => [.str "give", .str x]
  | .send k x => [.str "send", .int k, .str x]
  | .go k n => [.str "go", .int k, .int n]
  | .cut k => [.str "cut", .int k]
  | .wake k => [.str "wake", .int k]
abbrev EdM := List (Str × List Int)
abbrev LnM := List (Str × Str × List Row)
structure ShopM (U : CuK) where
  eds : EdM
  leans : LnM
  cus : List U.T
  sent : Int
abbrev PastM (U : CuK) := List (Deed × ShopM U)
def edKV (E : EdM) : List (Key × V) := E.map fun p => ((.inr p.1 : Key), V.byt (byteArr p.2))
def EdsAt (H : Hp) (a : Addr) (E : EdM) : Prop := H a = some (.dK (edKV E))
def LnV (H : Hp) (kv : Key × V) (l : Str × Str × List Row) : Prop := kv.1 = .inr l.1 ∧ ∃ t v, kv.2 = .ref t ∧ H t = some (.tup [.str l.2.1, v]) ∧ PatchAt H v l.2.2
def LnsAt (H : Hp) (a : Addr) (L : LnM) : Prop := ∃ kvs, H a = some (.dK kvs) ∧ Paired (LnV H) kvs L
def CusAt (U : CuK) (H : Hp) (a : Addr) (cs : List U.T) : Prop := ∃ vs, H a = some (.lst vs) ∧ Paired (U.at_ H) vs cs
structure MAt (U : CuK) (H : Hp) (e l c : Addr) (M : ShopM U) : Prop where
  eds : EdsAt H e M.eds
  leans : LnsAt H l M.leans
  cus : CusAt U H c M.cus
def PastV (U : CuK) (H : Hp) (v : V) (p : Deed × ShopM U) : Prop := ∃ t d e l c, v = .ref t ∧ H t = some (.tup [.ref d, .ref e, .ref l, .ref c, .int p.2.sent]) ∧ H d = some (.tup p.1.tup) ∧ MAt U H e l c p.2
section
variable {U : CuK} {H H' : Hp}
theorem LnV.same {kv : Key × V} {l : Str × Str × List Row} (h : LnV H kv l) (s : Same H H') : LnV H' kv l := let ⟨a, t, v, b, c, d⟩ := h; ⟨a, t, v, b, s _ _ c, d.tups (Same.tups s)⟩
theorem LnsAt.same {a : Addr} {L : LnM} (h : LnsAt H a L) (s : Same H H') : LnsAt H' a L := let ⟨kvs, e, r⟩ := h; ⟨kvs, s _ _ e, pairedMap r fun _ _ z => z.same s⟩
theorem MAt.same {e l c : Addr} {M : ShopM U} (h : MAt U H e l c M) (s : Same H H') : MAt U H' e l c M :=
  ⟨s _ _ h.eds, h.leans.same s, let ⟨vs, a, r⟩ := h.cus; ⟨vs, s _ _ a, pairedMap r fun _ _ z => U.same _ _ _ _ s z⟩⟩
theorem PastV.same {v : V} {p : Deed × ShopM U} (h : PastV U H v p) (s : Same H H') : PastV U H' v p := let ⟨t, d, e, l, c, h1, h2, h3, h4⟩ := h; ⟨t, d, e, l, c, h1, s _ _ h2, s _ _ h3, h4.same s⟩
end
/-- an entry of what was found -/
def FoundV (G : Hp) (k : List (Array UInt8) × Addr × V) : Prop := ∃ o n rs, k.1 = [byteArr o, byteArr n] ∧ G k.2.1 = some (.tup (k.1.map V.byt)) ∧ B8 o ∧ B8 n ∧ IsLeast o n rs ∧ PatchAt G k.2.2 rs
theorem FoundV.same {H H' : Hp} {k : List (Array UInt8) × Addr × V} (h : FoundV H k) (s : Same H H') : FoundV H' k := let ⟨o, n, rs, a, b, c, d, e, f⟩ := h; ⟨o, n, rs, a, s _ _ b, c, d, e, f.tups (Same.tups s)⟩
abbrev shopF (e l c : Addr) (n : Int) (p f : Addr) : List (Str × V) := [("_editions", .ref e), ("_leans", .ref l), ("_customers", .ref c), ("_sent", .int n), ("_past", .ref p), ("_found", .ref f)]
structure ShopIs (U : CuK) (P : Program) (w : World) (kS : Addr) (H : Hp) (x : Addr) (G : Hp) (pA fA : Addr) (S : ShopM U) (past : PastM U) (m : Nat) : Prop where
  ob : ∃ dx e l c, H x = some (.ins kS dx (shopF e l c S.sent pA fA)) ∧ MAt U G e l c S
  pt : ∃ vs, H pA = some (.lst vs) ∧ Paired (PastV U G) vs past
  fd : ∃ ks, H fA = some (dxO bytX P w fA ks) ∧ ks.length ≤ m ∧ ∀ k ∈ ks, FoundV G k
  sub : Same G H
  gx : G x = none
  gp : G pA = none
  gf : G fA = none
  ok : ∀ p ∈ S.eds, B8 p.2 ∧ p.2.length ≤ 200 ∧ p.1.length ≤ 8
  few : S.eds.length ≤ 6
  nd : (S.eds.map (·.1)).Nodup
section
variable {U : CuK} {P : Program} {w : World} {kS : Addr} {H H' : Hp} {x : Addr} {G G' : Hp} {pA fA : Addr} {S : ShopM U} {past : PastM U} {m : Nat}
theorem ShopIs.keep (I : ShopIs U P w kS H x G pA fA S past m) (k : ∀ b o, (b = x ∨ b = pA ∨ b = fA ∨ G b ≠ none) → H b = some o → H' b = some o) : ShopIs U P w kS H' x G pA fA S past m := by
  obtain ⟨dx, e, l, c, h1, h2⟩ := I.ob
  obtain ⟨vs, h3, h4⟩ := I.pt
  obtain ⟨ks, h5, h6, h7⟩ := I.fd
  exact ⟨⟨dx, e, l, c, k _ _ (.inl rfl) h1, h2⟩, ⟨vs, k _ _ (.inr (.inl rfl)) h3, h4⟩, ⟨ks, k _ _ (.inr (.inr (.inl rfl))) h5, h6, h7⟩, fun b o z => k b o (.inr (.inr (.inr (by rw [z]; exact fun q => nomatch q)))) (I.sub b o z), I.gx, I.gp, I.gf, I.ok, I.few, I.nd⟩
theorem ShopIs.same (I : ShopIs U P w kS H x G pA fA S past m) (s : Same H H') : ShopIs U P w kS H' x G pA fA S past m := I.keep fun b o _ e => s b o e
theorem ShopIs.but {d : Addr} (I : ShopIs U P w kS H x G pA fA S past m) (b : But d H H') (h : d ≠ x ∧ d ≠ pA ∧ d ≠ fA ∧ G d = none) : ShopIs U P w kS H' x G pA fA S past m := I.keep fun c o hc e => b c o (by
  rintro rfl
  rcases hc with z | z | z | z
  · exact h.1 z
  · exact h.2.1 z
  · exact h.2.2.1 z
  · exact z h.2.2.2) e
theorem ShopIs.up {m' : Nat} (I : ShopIs U P w kS H x G pA fA S past m) (h : m ≤ m') : ShopIs U P w kS H x G pA fA S past m' :=
  ⟨I.ob, I.pt, let ⟨ks, a, b, c⟩ := I.fd; ⟨ks, a, Nat.le_trans b h, c⟩, I.sub, I.gx, I.gp, I.gf, I.ok, I.few, I.nd⟩
/-- more is frozen -/
theorem ShopIs.grow (I : ShopIs U P w kS H x G pA fA S past m) (g : Same G G') (s : Same G' H) (hx : G' x = none) (hp : G' pA = none) (hf : G' fA = none) : ShopIs U P w kS H x G' pA fA S past m := by
  obtain ⟨dx, e, l, c, h1, h2⟩ := I.ob
  obtain ⟨vs, h3, h4⟩ := I.pt
  obtain ⟨ks, h5, h6, h7⟩ := I.fd
  exact ⟨⟨dx, e, l, c, h1, h2.same g⟩, ⟨vs, h3, pairedMap h4 fun _ _ z => z.same g⟩, ⟨ks, h5, h6, fun k hk => (h7 k hk).same g⟩, s, hx, hp, hf, I.ok, I.few, I.nd⟩
theorem ShopIs.lx (I : ShopIs U P w kS H x G pA fA S past m) : ∃ o, H x = some o ∧ NT o := by obtain ⟨dx, e, l, c, h1, _⟩ := I.ob; exact ⟨_, h1, fun xs z => nomatch z⟩
theorem ShopIs.lp (I : ShopIs U P w kS H x G pA fA S past m) : ∃ o, H pA = some o ∧ NT o := by obtain ⟨vs, h1, _⟩ := I.pt; exact ⟨_, h1, fun xs z => nomatch z⟩
theorem ShopIs.lf (I : ShopIs U P w kS H x G pA fA S past m) : ∃ o, H fA = some o ∧ NT o := by obtain ⟨ks, h1, _⟩ := I.fd; exact ⟨_, h1, fun xs z => nomatch z⟩
theorem ne_free {H : Hp} {a b : Addr} (h : ∃ o, H a = some o ∧ NT o) (hb : H b = none) : a ≠ b := fun z => by obtain ⟨o, e, _⟩ := h; rw [z, hb] at e; cases e
/-- what is frozen grew -/
theorem ShopIs.ext (I : ShopIs U P w kS H x G pA fA S past m) (E : ExtG H G G') (s : Same G' H) : ShopIs U P w kS H x G' pA fA S past m := by
  obtain ⟨o1, a1, b1⟩ := I.lx
  obtain ⟨o2, a2, b2⟩ := I.lp
  obtain ⟨o3, a3, b3⟩ := I.lf
  exact I.grow E.sub s (E.new _ _ I.gx a1 b1) (E.new _ _ I.gp a2 b2) (E.new _ _ I.gf a3 b3)
/-- a new thing is laid and frozen -/
theorem ShopIs.add {t : Addr} {o : HO} (I : ShopIs U P w kS H x G pA fA S past m) (h : H t = none) : ShopIs U P w kS (upd H t o) x (upd G t o) pA fA S past m := by
  have E := ExtG.add (o := o) I.sub h
  obtain ⟨o1, a1, b1⟩ := I.lx
  obtain ⟨o2, a2, b2⟩ := I.lp
  obtain ⟨o3, a3, b3⟩ := I.lf
  exact (I.same (Same.new (o := o) h)).grow E.sub (Same.upd2 I.sub) (E.new _ _ I.gx a1 b1) (E.new _ _ I.gp a2 b2) (E.new _ _ I.gf a3 b3)
theorem ShopIs.xp (I : ShopIs U P w kS H x G pA fA S past m) : x ≠ pA := by
  obtain ⟨dx, e, l, c, h1, _⟩ := I.ob
  obtain ⟨vs, h2, _⟩ := I.pt
  exact ne_of h1 h2 fun z => nomatch z
theorem ShopIs.xf (I : ShopIs U P w kS H x G pA fA S past m) : x ≠ fA := by
  obtain ⟨dx, e, l, c, h1, _⟩ := I.ob
  obtain ⟨ks, h2, _⟩ := I.fd
  exact ne_of h1 h2 fun z => nomatch z
theorem ShopIs.pf (I : ShopIs U P w kS H x G pA fA S past m) : pA ≠ fA := by
  obtain ⟨vs, h1, _⟩ := I.pt
  obtain ⟨ks, h2, _⟩ := I.fd
  exact ne_of h1 h2 fun z => nomatch z
theorem ShopIs.live (I : ShopIs U P w kS H x G pA fA S past m) {S' : ShopM U} {past' : PastM U} {m' : Nat} (I' : ShopIs U P w kS H' x G' pA fA S' past' m') (k : KeepM [x, pA, fA] H H') : Live H H' := fun b o h => by
  by_cases e : b ∈ [x, pA, fA]
  · simp at e
    rcases e with rfl | rfl | rfl
    · obtain ⟨o', h1, h2⟩ := I'.lx; exact ⟨o', h1, fun _ => h2⟩
    · obtain ⟨o', h1, h2⟩ := I'.lp; exact ⟨o', h1, fun _ => h2⟩
    · obtain ⟨o', h1, h2⟩ := I'.lf; exact ⟨o', h1, fun _ => h2⟩
  · exact ⟨o, k b o e h, fun n => n⟩
end
def edOf (E : EdM) (n : Str) : Option (List Int) := (E.find? fun p => decide (p.1 = n)).map (·.2)
theorem edOf_val (n : Str) : ∀ E : EdM, valV (edKV E) (.inr n) = (edOf E n).map fun es => V.byt (byteArr es)
  | [] => rfl
  | p :: E => by
    have ih := edOf_val n E
    unfold edKV edOf at ih ⊢
    by_cases e : p.1 = n
    · rw [List.map_cons, valV_pos (show (Sum.inr p.1 : Key) = .inr n by rw [e]), List.find?_cons_of_pos (by simp [e])]
      rfl
    · rw [List.map_cons, valV_neg (show ¬ (Sum.inr p.1 : Key) = .inr n from fun z => e (Sum.inr.inj z)), List.find?_cons_of_neg (by simp [e])]
      exact ih
theorem edOf_mem {E : EdM} {n : Str} {es : List Int} (h : edOf E n = some es) : (n, es) ∈ E := by
  unfold edOf at h
  obtain ⟨p, hp, e⟩ := Option.map_eq_some_iff.mp h
  have h1 := List.mem_of_find?_eq_some hp
  have h2 : decide (p.1 = n) = true := List.find?_some (p := fun p : Str × List Int => decide (p.1 = n)) hp
  have h2 := of_decide_eq_true h2
  subst e
  rw [← h2]
  exact h1
theorem edOf_none {E : EdM} {n : Str} : edOf E n = none ↔ n ∉ E.map (·.1) := by
  unfold edOf
  rw [Option.map_eq_none_iff, List.find?_eq_none]
  constructor
  · intro h z
    obtain ⟨p, hp, e⟩ := List.mem_map.mp z
    exact h p hp (decide_eq_true e)
  · intro h p hp z
    exact h (List.mem_map.mpr ⟨p, hp, of_decide_eq_true z⟩)
def spKnown (U : CuK) (P : Program) (w : World) (kS C : Addr) : Sp := fun vs H Q E => ∃ x G pA fA, ∃ (S : ShopM U) (past : PastM U) (m : Nat) (n : Str), vs = [.ref x, .str n] ∧ ShopIs U P w kS H x G pA fA S past m ∧ n.length ≤ 8000000 ∧ (edOf S.eds n ≠ none → Q .non H) ∧ (edOf S.eds n = none → PlainX H C E)
def spEditionS (U : CuK) (P : Program) (w : World) (kS C : Addr) : Sp := fun vs H Q E => ∃ x G pA fA, ∃ (S : ShopM U) (past : PastM U) (m : Nat) (n : Str), vs = [.ref x, .str n] ∧ ShopIs U P w kS H x G pA fA S past m ∧ n.length ≤ 8000000 ∧ (∀ es, edOf S.eds n = some es → Q (.byt (byteArr es)) H) ∧ (edOf S.eds n = none → PlainX H C E)
def spNamesS (U : CuK) (P : Program) (w : World) (kS : Addr) : Sp := fun vs H Q _ => ∃ x G pA fA, ∃ (S : ShopM U) (past : PastM U) (m : Nat), vs = [.ref x] ∧ ShopIs U P w kS H x G pA fA S past m ∧ ∀ p ys, H p = none → ys.Perm (S.eds.map (·.1)) → sortedS ys = true → Q (.ref p) (upd H p (.lst (ys.map V.str)))
def spKeepS (U : CuK) (P : Program) (w : World) (kS : Addr) : Sp := fun vs H Q _ => ∃ x G pA fA, ∃ (S : ShopM U) (past : PastM U) (m : Nat) (d : Addr) (D : Deed), vs = [.ref x, .ref d] ∧ ShopIs U P w kS H x G pA fA S past m ∧ past.length ≤ 100000 ∧ G d = some (.tup D.tup) ∧
  ∀ H' G', KeepM [x, pA, fA] H H' → ExtG H G G' → ShopIs U P w kS H' x G' pA fA S (past ++ [(D, S)]) m → Q .non H'
section
variable {P : Program} {w : World} {K : PySem.W.Frag} {mg : Str → Option Value} {base : Heap}
theorem okx_Shop_check_known (T : All K mg) (U : CuK) : FnOk P w K mg base (L2.CX P w) 1 T.d_Shop_check_known.f T.d_Shop_check_known.fd ["self", "name"] (spKnown U P w T.k_Shop T.k_NoName) := by
  refine T.d_Shop_check_known.F.okX sc_Shop_check_known (fun vs H Q E h => ?_) (fun cdv A outer s H vs Q E hr h => ?_)
  · obtain ⟨_, _, _, _, _, _, _, _, rfl, _⟩ := h
    rfl
  · obtain ⟨x, G, pA, fA, S, past, m, n, rfl, I, nl, k0, kE⟩ := h
    refine ⟨_, (pss_one 
      (ps_if (pt_cmp (pc_dnotin (hu_of hr) (pv 1) (pe_fld (pv 0) rfl))) (pss_one (ps_raise rfl (takes_of rfl rfl rfl rfl) (SkE.pmk_own1 PySem.F.excBase_ValueError T.o_NoName.xC T.m_NoName T.o_NoName.kC (raises_own T.o_NoName.bC T.o_NoName.tC) rfl (pe_joined (PJ.cons pe_str (PJ.cons (pe_fmt (pv 1)) PJ.nil)))))) pss_nil)), ?_⟩
    obtain ⟨dx, e, l, c, hob, M⟩ := id I.ob
    refine ⟨_, rfl, _, rfl, x, T.k_Shop, dx, _, _, rfl, hob, T.cl_Shop, T.na_Shop_editions, rfl, e, _, rfl, DGet.k (k := .inr n) (I.sub _ _ M.eds), _, rfl, ?_⟩
    rw [edOf_val]
    cases h : edOf S.eds n with
    | none =>
      refine iteT ?_
      have a1 := app_lenX (show Str.empty.length ≤ 0 from Nat.le_refl _) (show (Str.ofString "there is no edition ").length ≤ 30 by decide)
      have a2 := app_lenX a1 nl
      exact ⟨_, rfl, lineX2 a1 (by decide), _, rfl, .inl ⟨_, rfl, lineX nl, _, rfl, lineX2 a2 (by decide), kE h _ (Same.refl _)⟩⟩
    | some es =>
      refine iteF ?_
      exact k0 (by rw [h]; exact fun z => nomatch z)
theorem okx_Shop_edition (T : All K mg) (U : CuK) : FnOk P w K mg base (L2.CX P w) 2 T.d_Shop_edition.f T.d_Shop_edition.fd ["self", "name"] (spEditionS U P w T.k_Shop T.k_NoName) := by
  have G_Shop_check_known : FnOk P w K mg base (L2.CX P w) 1 T.d_Shop_check_known.f T.d_Shop_check_known.fd ["self", "name"] (spKnown U P w T.k_Shop T.k_NoName) := okx_Shop_check_known T U
  refine T.d_Shop_edition.F.okX sc_Shop_edition (fun vs H Q E h => ?_) (fun cdv A outer s H vs Q E hr h => ?_)
  · obtain ⟨_, _, _, _, _, _, _, _, rfl, _⟩ := h
    rfl
  · obtain ⟨x, G, pA, fA, S, past, m, n, rfl, I, nl, k0, kE⟩ := h
    refine ⟨_, (pss_cons 
      (ps_expr (pe_meth (pv 0) T.cl_Shop T.d_Shop_check_known.mt G_Shop_check_known (hr.mono (by decide)) T.d_Shop_check_known.b .nil (passes_call (takes_of rfl rfl rfl rfl) fun _ _ _ _ h => h) (pa_cons (pv 1) pa_nil))) (pss_one 
      (ps_ret (pe_dget (hu_of hr) (pe_fld (pv 0) rfl) (pv 1) (fun _ _ => rfl))))), ?_⟩
    obtain ⟨dx, e, l, c, hob, M⟩ := id I.ob
    refine ⟨_, rfl, x, dx, _, rfl, hob, rfl, _, rfl, x, G, pA, fA, S, past, m, n, rfl, I, nl, fun h => ?_, kE⟩
    cases he : edOf S.eds n with
    | none => exact absurd he h
    | some es =>
      refine ⟨_, rfl, x, T.k_Shop, dx, _, _, rfl, hob, T.cl_Shop, T.na_Shop_editions, rfl, _, rfl, e, _, rfl, ?_, k0 es he⟩
      have g := DGet.k (k := .inr n) (I.sub _ _ M.eds)
      rw [edOf_val, he] at g
      exact g
theorem ok_Shop_names (T : All K mg) (U : CuK) : FnOk P w K mg base CX0 1 T.d_Shop_names.f T.d_Shop_names.fd ["self"] (spNamesS U P w T.k_Shop) := by
  refine T.d_Shop_names.F.ok sc_Shop_names (fun vs H Q E h => ?_) (fun cdv A outer s H vs Q E hr h => ?_)
  · obtain ⟨_, _, _, _, _, _, _, rfl, _⟩ := h
    rfl
  · obtain ⟨x, G, pA, fA, S, past, m, rfl, I, k⟩ := h
    refine ⟨_, (pss_one 
      (ps_ret (pe_callB (call_sortedD rfl) (by rfl) T.b_sorted (by decide +kernel) (pa_cons (pe_fld (pv 0) rfl) pa_nil)))), ?_⟩
    obtain ⟨dx, e, l, c, hob, M⟩ := id I.ob
    refine ⟨_, rfl, x, T.k_Shop, dx, _, _, rfl, hob, T.cl_Shop, T.na_Shop_editions, rfl, e, edKV S.eds, S.eds.map (·.1), rfl, .inl (I.sub _ _ M.eds), ?_, by rw [List.length_map]; have := I.few; omega, fun ys p h1 h2 h3 => k p ys h3 h1 h2⟩
    unfold edKV
    rw [List.map_map, List.map_map]
    rfl
theorem ok_Shop_keep (T : All K mg) (U : CuK) : FnOk P w K mg base CX0 1 T.d_Shop_keep.f T.d_Shop_keep.fd ["self", "deed"] (spKeepS U P w T.k_Shop) := by
  refine T.d_Shop_keep.F.ok sc_Shop_keep (fun vs H Q E h => ?_) (fun cdv A outer s H vs Q E hr h => ?_)
  · obtain ⟨_, _, _, _, _, _, _, _, _, rfl, _⟩ := h
    rfl
  · obtain ⟨x, G, pA, fA, S, past, m, d, D, rfl, I, pl, hd, k⟩ := h
    refine ⟨_, (pss_one 
      (ps_expr (pe_bm PySem.F.plainAttrs_list PySem.F.slot_list_append PySem.F.type_list_append mt_append (pe_fld (pv 0) rfl) (pa_cons (pe_tup (pa_cons (pv 1) (pa_cons (pe_fld (pv 0) rfl) (pa_cons (pe_fld (pv 0) rfl) (pa_cons (pe_fld (pv 0) rfl) (pa_cons (pe_fld (pv 0) rfl) pa_nil)))))) pa_nil)))), ?_⟩
    obtain ⟨dx, e, l, c, hob, M⟩ := id I.ob
    obtain ⟨vs, hp, hv⟩ := id I.pt
    have vl := Paired.length hv
    refine ⟨_, rfl, x, T.k_Shop, dx, _, _, rfl, hob, T.cl_Shop, T.na_Shop_past, rfl, .inl ⟨rfl, _, SqL.of hp⟩, _, rfl, _, rfl, x, T.k_Shop, dx, _, _, rfl, hob, T.cl_Shop, T.na_Shop_editions, rfl, _, rfl, x, T.k_Shop, dx, _, _, rfl, hob, T.cl_Shop, T.na_Shop_leans, rfl, _, rfl, x, T.k_Shop, dx, _, _, rfl, hob, T.cl_Shop, T.na_Shop_customers, rfl, _, rfl, x, T.k_Shop, dx, _, _, rfl, hob, T.cl_Shop, T.na_Shop_sent, rfl, sizeS (by show 5 ≤ 100000; decide), fun t ht => ?_⟩
    have I1 := I.add (o := .tup [.ref d, .ref e, .ref l, .ref c, .int S.sent]) ht
    have E1 := ExtG.add (o := .tup [.ref d, .ref e, .ref l, .ref c, .int S.sent]) I.sub ht
    have hp1 := Same.new (o := .tup [.ref d, .ref e, .ref l, .ref c, .int S.sent]) ht _ _ hp
    refine ⟨pA, vs, .ref t, rfl, rfl, hp1, sizeL (by omega), ?_⟩
    refine k _ (upd G t (.tup [.ref d, .ref e, .ref l, .ref c, .int S.sent])) ((KeepM.of (Same.new ht)).trans (KeepM.upd (by simp))) E1 ?_
    refine ⟨?_, ⟨_, upd_same, ?_⟩, ?_, ?_, I1.gx, I1.gp, I1.gf, I.ok, I.few, I.nd⟩
    · obtain ⟨dx1, e1, l1, c1, h1, h2⟩ := I1.ob
      exact ⟨dx1, e1, l1, c1, by rw [upd_ne I1.xp]; exact h1, h2⟩
    · refine Paired.snoc (pairedMap hv fun _ _ z => z.same E1.sub) ⟨t, d, e, l, c, rfl, upd_same, E1.sub _ _ hd, M.same E1.sub⟩
    · obtain ⟨ks, h1, h2, h3⟩ := I1.fd
      exact ⟨ks, by rw [upd_ne I1.pf.symm]; exact h1, h2, h3⟩
    · intro b o z
      rw [upd_ne]
      · exact I1.sub b o z
      · rintro rfl
        rw [I1.gp] at z
        cases z
end
/-! ### a shop is made, an edition laid in, the least patch found -/
def ShopM.put {U : CuK} (S : ShopM U) (n : Str) (es : List Int) : ShopM U := { S with eds := S.eds ++ [(n, es)] }
def shop0 (U : CuK) : ShopM U := ⟨[], [], [], 0⟩
theorem putF_eds {e l c : Addr} {n : Int} {p f : Addr} {e' : Addr} : putF ("_editions" : Str) (.ref e') (shopF e l c n p f) = shopF e' l c n p f := rfl
theorem putF_leans {e l c : Addr} {n : Int} {p f : Addr} {e' : Addr} : putF ("_leans" : Str) (.ref e') (shopF e l c n p f) = shopF e e' c n p f := rfl
theorem putF_cus {e l c : Addr} {n : Int} {p f : Addr} {e' : Addr} : putF ("_customers" : Str) (.ref e') (shopF e l c n p f) = shopF e l e' n p f := rfl
theorem putF_sent {e l c : Addr} {n : Int} {p f : Addr} {n' : Int} : putF ("_sent" : Str) (.int n') (shopF e l c n p f) = shopF e l c n' p f := rfl
def spEditionXG (C : Addr) : Sp := fun vs H Q E => ∃ es : List Int, vs = [.byt (byteArr es)] ∧ es.length ≤ 100000 ∧ (es.length ≤ 200 → Q .non H) ∧ (200 < es.length → PlainX H C E)
def spPut (U : CuK) (P : Program) (w : World) (kS C1 C2 C3 C4 : Addr) : Sp := fun vs H Q E => ∃ x G pA fA, ∃ (S : ShopM U) (past : PastM U) (m : Nat) (n : Str) (es : List Int), vs = [.ref x, .str n, .byt (byteArr es)] ∧ ShopIs U P w kS H x G pA fA S past m ∧ n.length ≤ 8000000 ∧ es.length ≤ 100000 ∧ past.length ≤ 100000 ∧ B8 es ∧
  (nameOk n = false → PlainX H C1 E) ∧ (nameOk n = true → edOf S.eds n ≠ none → PlainX H C2 E) ∧ (nameOk n = true → edOf S.eds n = none → 6 ≤ S.eds.length → PlainX H C3 E) ∧ (nameOk n = true → edOf S.eds n = none → S.eds.length < 6 → 200 < es.length → PlainX H C4 E) ∧
  (nameOk n = true → edOf S.eds n = none → S.eds.length < 6 → es.length ≤ 200 → ∀ H' G', KeepM [x, pA, fA] H H' → ExtG H G G' → ShopIs U P w kS H' x G' pA fA (S.put n es) (past ++ [(.put n es, S)]) m → Q .non H')
def spShopInit (U : CuK) (P : Program) (w : World) (kS : Addr) : Sp := fun vs H Q _ => ∃ x dx, vs = [.ref x] ∧ H x = some (.ins kS dx []) ∧ ∀ H' G pA fA, KeepM [x] H H' → (∀ b, H b ≠ none → G b = none) → H pA = none → H fA = none → ShopIs U P w kS H' x G pA fA (shop0 U) [] 0 → Q .non H'
def spBetween (U : CuK) (P : Program) (w : World) (kS C : Addr) : Sp := fun vs H Q E => ∃ x G pA fA, ∃ (S : ShopM U) (past : PastM U) (m : Nat) (a b : Str), vs = [.ref x, .str a, .str b] ∧ ShopIs U P w kS H x G pA fA S past m ∧ m ≤ 10000000 ∧ a.length ≤ 8000000 ∧ b.length ≤ 8000000 ∧
  (edOf S.eds a = none → PlainX H C E) ∧ (edOf S.eds a ≠ none → edOf S.eds b = none → PlainX H C E) ∧
  (∀ o n, edOf S.eds a = some o → edOf S.eds b = some n → ∀ H' G' v rs, KeepM [x, pA, fA] H H' → ExtG H G G' → ShopIs U P w kS H' x G' pA fA S past (m + 1) → IsLeast o n rs → PatchAt G' v rs → Q v H')
theorem nameOk_len {n : Str} (h : nameOk n = true) : n.length ≤ 8 := by
  unfold nameOk at h
  rw [Bool.and_eq_true, decide_eq_true_iff] at h
  exact h.2
theorem edKV_put (E : EdM) (n : Str) (es : List Int) (h : edOf E n = none) : putK (edKV E) (.inr n) (V.byt (byteArr es)) = edKV (E ++ [(n, es)]) := by
  unfold putK
  have e : ((edKV E).any fun kv => decide (kv.1 = .inr n)) = false := by
    rw [valV_any, edOf_val, h]
    rfl
  rw [if_neg (by rw [e]; exact Bool.false_ne_true)]
  unfold edKV
  rw [List.map_append]
  rfl
theorem mergeK_nil : ∀ {kvs : List (Key × V)}, (kvs.map (·.1)).Nodup → mergeK [] kvs = kvs := by
  have go : ∀ (more acc : List (Key × V)), ((acc ++ more).map (·.1)).Nodup → mergeK acc more = acc ++ more := by
    intro more
    induction more with
    | nil => intro acc _; show acc = acc ++ []; rw [List.append_nil]
    | cons kv rest ih =>
      intro acc hn
      have hf : (acc.any fun x => decide (x.1 = kv.1)) = false := by
        rw [Bool.eq_false_iff]
        intro z
        obtain ⟨x, hx, he⟩ := List.any_eq_true.mp z
        rw [List.map_append, List.map_cons, List.nodup_append] at hn
        exact hn.2.2 x.1 (List.mem_map.mpr ⟨x, hx, rfl⟩) kv.1 List.mem_cons_self (of_decide_eq_true he)
      have e : putK acc kv.1 kv.2 = acc ++ [kv] := by
        unfold putK
        rw [if_neg (by rw [hf]; exact Bool.false_ne_true)]
      show mergeK (putK acc kv.1 kv.2) rest = _
      rw [e, ih (acc ++ [kv]) (by rw [List.append_assoc]; exact hn), List.append_assoc]
      rfl
  intro kvs h
  exact go kvs [] (by simpa using h)
theorem edKV_nd {E : EdM} (h : (E.map (·.1)).Nodup) : ((edKV E).map (·.1)).Nodup := by
  unfold edKV
  rw [List.map_map]
  have e : ((fun x : Key × V => x.1) ∘ fun p : Str × List Int => ((.inr p.1 : Key), V.byt (byteArr p.2))) = (fun s : Str => (Sum.inr s : Key)) ∘ fun p : Str × List Int => p.1 := rfl
  rw [e, ← List.map_map]
  exact List.Pairwise.map _ (fun a b z q => z (Sum.inr.inj q)) h
section
variable {P : Program} {w : World} {K : PySem.W.Frag} {mg : Str → Option Value} {base : Heap}
theorem okg_check_edition (T : All K mg) : FnOk P w K mg base (L2.CX P w) 1 T.d_check_edition.f T.d_check_edition.fd ["edition"] (spEditionXG T.k_BadEdition) := by
  refine T.d_check_edition.F.okX sc_check_edition (fun vs H Q E h => ?_) (fun cdv A outer s H vs Q E hr h => ?_)
  · obtain ⟨_, rfl, _⟩ := h
    rfl
  · obtain ⟨es, rfl, el, k0, kE⟩ := h
    refine ⟨_, (pss_one 
      (ps_if (pt_cmpR op_gt (pe_callB call_len (by rfl) T.b_len PySem.boot_len (pa_cons (pv 0) pa_nil)) (pe_glob (v := .int 200) rfl T.c_MOST ⟨_, rfl⟩) (nomark _)) (pss_one (ps_raise rfl (takes_of rfl rfl rfl rfl) (SkE.pmk_own1 PySem.F.excBase_ValueError T.o_BadEdition.xC T.m_BadEdition T.o_BadEdition.kC (raises_own T.o_BadEdition.bC T.o_BadEdition.tC) rfl (pe_joined (PJ.cons (pe_fmt (pe_callB call_len (by rfl) T.b_len PySem.boot_len (pa_cons (pv 0) pa_nil))) (PJ.cons pe_str PJ.nil)))))) pss_nil)), ?_⟩
    have sz : (byteArr es).size ≤ sizeLine := by rw [byteArr_size]; exact sizeS el
    refine ⟨_, rfl, _, es.length, rfl, ⟨sz, (byteArr_size es).symm⟩, _, _, rfl, rfl, _, rfl, ite2 (fun h => ?_) fun h => ?_⟩
    · have h : (200 : Int) < es.length := of_decide_eq_true h
      have e0 : Str.empty.length ≤ 0 := Nat.le_refl _
      have a1 := app_lenX e0 (str_anyG (i := (es.length : Int)) (by omega) (by omega))
      have a2 := app_lenX a1 (show (Str.ofString " bytes are too many").length ≤ 30 by decide)
      exact ⟨_, rfl, _, es.length, rfl, ⟨sz, (byteArr_size es).symm⟩, .inr ⟨_, rfl, log_anyG (by omega) (by omega), _, rfl, lineX2 a1 (by decide), _, rfl, lineX2 a2 (by decide), kE (by omega) _ (Same.refl _)⟩⟩
    · have h : ¬ (200 : Int) < es.length := of_decide_eq_false (Bool.not_eq_true _ ▸ h)
      exact k0 (by omega)
theorem ok_Shop_init (T : All K mg) (U : CuK) : FnOk P w K mg base CX0 1 T.d_Shop_init.f T.d_Shop_init.fd ["self"] (spShopInit U P w T.k_Shop) := by
  refine T.d_Shop_init.F.ok sc_Shop_init (fun vs H Q E h => ?_) (fun cdv A outer s H vs Q E hr h => ?_)
  · obtain ⟨_, _, rfl, _⟩ := h
    rfl
  · obtain ⟨x, dx, rfl, hx, k⟩ := h
    refine ⟨_, (pss_cons 
      (ps_fld (pv 0) pe_dnewK rfl) (pss_cons 
      (ps_fld (pv 0) pe_dnewK rfl) (pss_cons 
      (ps_fld (pv 0) (pe_lst pa_nil) rfl) (pss_cons 
      (ps_fld (pv 0) pe_int rfl) (pss_cons 
      (ps_fld (pv 0) (pe_lst pa_nil) rfl) (pss_one 
      (ps_fld (pv 0) (pe_xnew (X := bytX) (P := P) (w := w) rfl rfl) rfl))))))), ?_⟩
    have ne : ∀ {H1 : Hp} {p : Addr} {o : HO}, H1 x = some o → H1 p = none → p ≠ x := fun {H1 p o} a b z => by rw [z, a] at b; cases b
    have lv : ∀ {H1 : Hp} {a b : Addr} {o : HO}, H1 a = some o → H1 b = none → a ≠ b := fun {H1 a b o} q z => ne_of_none q z
    intro e he
    have ex := ne hx he
    refine ⟨_, rfl, x, T.k_Shop, dx, _, rfl, Same.new he _ _ hx, T.cl_Shop, T.na_Shop_editions, (by decide), ?_⟩
    have fr : ∀ {Hk : Hp} {fs : List (Str × V)}, KeepM [x] H Hk → Hk x = some (.ins T.k_Shop dx fs) → ∀ b, Hk b = none → H b = none := fun {Hk fs} k a b hb => by
      cases z : H b with
      | none => rfl
      | some o =>
        by_cases q : b = x
        · rw [q, a] at hb; cases hb
        · rw [k b o (by simpa using q) z] at hb; cases hb
    generalize hH1 : upd (upd H e (.dK [])) x (.ins T.k_Shop dx (putF ("_editions" : Str) (.ref e) [])) = H1
    have x1 : H1 x = some (.ins T.k_Shop dx [("_editions", .ref e)]) := by rw [← hH1]; exact upd_same
    have e1 : H1 e = some (.dK []) := by rw [← hH1, upd_ne ex]; exact upd_same
    have k1 : KeepM [x] H H1 := by
      rw [← hH1]
      exact (KeepM.of (Same.new he)).trans (KeepM.upd (by simp))
    refine fun l hl => ⟨_, rfl, x, T.k_Shop, dx, _, rfl, Same.new hl _ _ x1, T.cl_Shop, T.na_Shop_leans, (by simp), ?_⟩
    have lx := ne x1 hl
    have el := lv e1 hl
    generalize hH2 : upd (upd H1 l (.dK [])) x (.ins T.k_Shop dx (putF ("_leans" : Str) (.ref l) [("_editions", .ref e)])) = H2
    have x2 : H2 x = some (.ins T.k_Shop dx [("_editions", .ref e), ("_leans", .ref l)]) := by rw [← hH2]; exact upd_same
    have e2 : H2 e = some (.dK []) := by rw [← hH2, upd_ne ex, upd_ne el]; exact e1
    have l2 : H2 l = some (.dK []) := by rw [← hH2, upd_ne lx]; exact upd_same
    have k2 : KeepM [x] H H2 := by
      rw [← hH2]
      exact k1.trans ((KeepM.of (Same.new hl)).trans (KeepM.upd (by simp)))
    refine ⟨sizeS (by show 0 ≤ 100000; decide), fun c hc => ⟨_, rfl, x, T.k_Shop, dx, _, rfl, Same.new hc _ _ x2, T.cl_Shop, T.na_Shop_customers, (by simp), ?_⟩⟩
    have cx := ne x2 hc
    have ec := lv e2 hc
    have lc := lv l2 hc
    generalize hH3 : upd (upd H2 c (.lst [])) x (.ins T.k_Shop dx (putF ("_customers" : Str) (.ref c) [("_editions", .ref e), ("_leans", .ref l)])) = H3
    have x3 : H3 x = some (.ins T.k_Shop dx [("_editions", .ref e), ("_leans", .ref l), ("_customers", .ref c)]) := by rw [← hH3]; exact upd_same
    have e3 : H3 e = some (.dK []) := by rw [← hH3, upd_ne ex, upd_ne ec]; exact e2
    have l3 : H3 l = some (.dK []) := by rw [← hH3, upd_ne lx, upd_ne lc]; exact l2
    have c3 : H3 c = some (.lst []) := by rw [← hH3, upd_ne cx]; exact upd_same
    have k3 : KeepM [x] H H3 := by
      rw [← hH3]
      exact k2.trans ((KeepM.of (Same.new hc)).trans (KeepM.upd (by simp)))
    refine ⟨_, rfl, x, T.k_Shop, dx, _, rfl, x3, T.cl_Shop, T.na_Shop_sent, (by simp), ?_⟩
    generalize hH4 : upd H3 x (.ins T.k_Shop dx (putF ("_sent" : Str) (.int 0) [("_editions", .ref e), ("_leans", .ref l), ("_customers", .ref c)])) = H4
    have x4 : H4 x = some (.ins T.k_Shop dx [("_editions", .ref e), ("_leans", .ref l), ("_customers", .ref c), ("_sent", .int 0)]) := by rw [← hH4]; exact upd_same
    have e4 : H4 e = some (.dK []) := by rw [← hH4, upd_ne ex]; exact e3
    have l4 : H4 l = some (.dK []) := by rw [← hH4, upd_ne lx]; exact l3
    have c4 : H4 c = some (.lst []) := by rw [← hH4, upd_ne cx]; exact c3
    have k4 : KeepM [x] H H4 := by
      rw [← hH4]
      exact k3.trans (KeepM.upd (by simp))
    refine ⟨sizeS (by show 0 ≤ 100000; decide), fun pA hp => ⟨_, rfl, x, T.k_Shop, dx, _, rfl, Same.new hp _ _ x4, T.cl_Shop, T.na_Shop_past, (by simp), ?_⟩⟩
    have px := ne x4 hp
    have pH := fr k4 x4 _ hp
    have ep := lv e4 hp
    have lp := lv l4 hp
    have cp := lv c4 hp
    generalize hH5 : upd (upd H4 pA (.lst [])) x (.ins T.k_Shop dx (putF ("_past" : Str) (.ref pA) [("_editions", .ref e), ("_leans", .ref l), ("_customers", .ref c), ("_sent", .int 0)])) = H5
    have x5 : H5 x = some (.ins T.k_Shop dx [("_editions", .ref e), ("_leans", .ref l), ("_customers", .ref c), ("_sent", .int 0), ("_past", .ref pA)]) := by rw [← hH5]; exact upd_same
    have e5 : H5 e = some (.dK []) := by rw [← hH5, upd_ne ex, upd_ne ep]; exact e4
    have l5 : H5 l = some (.dK []) := by rw [← hH5, upd_ne lx, upd_ne lp]; exact l4
    have c5 : H5 c = some (.lst []) := by rw [← hH5, upd_ne cx, upd_ne cp]; exact c4
    have p5 : H5 pA = some (.lst []) := by rw [← hH5, upd_ne px]; exact upd_same
    have k5 : KeepM [x] H H5 := by
      rw [← hH5]
      exact k4.trans ((KeepM.of (Same.new hp)).trans (KeepM.upd (by simp)))
    refine fun fA hf => ⟨_, rfl, x, T.k_Shop, dx, _, rfl, Same.new hf _ _ x5, T.cl_Shop, T.na_Shop_found, (by simp), ?_⟩
    have fx := ne x5 hf
    have fH := fr k5 x5 _ hf
    have ef := lv e5 hf
    have lf := lv l5 hf
    have cf := lv c5 hf
    have pf := lv p5 hf
    have eH : H e = none := he
    have lH : H l = none := fr k1 x1 _ hl
    have cH : H c = none := fr k2 x2 _ hc
    refine k _ (upd (upd (upd (fun _ => none) e (.dK [])) l (.dK [])) c (.lst [])) pA fA (k5.trans ((KeepM.of (Same.new hf)).trans (KeepM.upd (by simp)))) (fun b hb => ?_) pH fH ?_
    · have b1 : b ≠ e := fun z => hb (by rw [z]; exact eH)
      have b2 : b ≠ l := fun z => hb (by rw [z]; exact lH)
      have b3 : b ≠ c := fun z => hb (by rw [z]; exact cH)
      rw [upd_ne b3, upd_ne b2, upd_ne b1]
    · have ge : (upd (upd (upd (fun _ => none) e (.dK [])) l (.dK [])) c (.lst []) : Hp) e = some (.dK []) := by rw [upd_ne ec, upd_ne el]; exact upd_same
      have gl : (upd (upd (upd (fun _ => none) e (.dK [])) l (.dK [])) c (.lst []) : Hp) l = some (.dK []) := by rw [upd_ne lc]; exact upd_same
      have gc : (upd (upd (upd (fun _ => none) e (.dK [])) l (.dK [])) c (.lst []) : Hp) c = some (.lst []) := upd_same
      have gn : ∀ b, b ≠ e → b ≠ l → b ≠ c → (upd (upd (upd (fun _ => none) e (.dK [])) l (.dK [])) c (.lst []) : Hp) b = none := fun b h1 h2 h3 => by rw [upd_ne h3, upd_ne h2, upd_ne h1]
      refine ⟨⟨dx, e, l, c, upd_same, ge, ⟨[], gl, .nil⟩, ⟨[], gc, .nil⟩⟩, ⟨[], by rw [upd_ne px, upd_ne pf]; exact p5, .nil⟩, ⟨[], by rw [upd_ne fx]; exact upd_same, Nat.zero_le _, fun k hk => nomatch hk⟩, fun b o z => ?_, gn _ ex.symm lx.symm cx.symm, gn _ ep.symm lp.symm cp.symm, gn _ ef.symm lf.symm cf.symm, (fun p hp => nomatch hp), Nat.zero_le _, List.nodup_nil⟩
      by_cases z1 : b = c
      · subst z1
        rw [gc] at z
        rw [upd_ne cx, upd_ne cf]
        exact c5.trans z
      by_cases z2 : b = l
      · subst z2
        rw [gl] at z
        rw [upd_ne lx, upd_ne lf]
        exact l5.trans z
      by_cases z3 : b = e
      · subst z3
        rw [ge] at z
        rw [upd_ne ex, upd_ne ef]
        exact e5.trans z
      rw [gn b z3 z2 z1] at z
      cases z
theorem okx_Shop_put (T : All K mg) (U : CuK) : FnOk P w K mg base (L2.CX P w) 3 T.d_Shop_put.f T.d_Shop_put.fd ["self", "name", "edition"] (spPut U P w T.k_Shop T.k_BadName T.k_Known T.k_TooMany T.k_BadEdition) := by
  have GX_check_name : FnOk P w K mg base (L2.CX P w) 2 T.d_check_name.f T.d_check_name.fd ["name"] (spCheckName T.k_BadName) := okx_check_name T
  have GX_check_edition : FnOk P w K mg base (L2.CX P w) 1 T.d_check_edition.f T.d_check_edition.fd ["edition"] (spEditionXG T.k_BadEdition) := okg_check_edition T
  have G_check_name := GX_check_name
  have G_check_edition := GX_check_edition
  have G_Shop_keep : FnOk P w K mg base CX0 1 T.d_Shop_keep.f T.d_Shop_keep.fd ["self", "deed"] (spKeepS U P w T.k_Shop) := ok_Shop_keep T U
  refine T.d_Shop_put.F.okX sc_Shop_put (fun vs H Q E h => ?_) (fun cdv A outer s H vs Q E hr h => ?_)
  · obtain ⟨_, _, _, _, _, _, _, _, _, rfl, _⟩ := h
    rfl
  · obtain ⟨x, G, pA, fA, S, past, m, n, es, rfl, I0, nl, el, pl, b8, k1, k2, k3, k4, k⟩ := h
    refine ⟨_, (pss_cons 
      (ps_expr (pe_call G_check_name (hr.mono (by decide)) rfl T.d_check_name.m T.d_check_name.F.kp T.d_check_name.b .nil (passes_call (takes_of rfl rfl rfl rfl) fun _ _ _ _ h => h) (pa_cons (pv 1) pa_nil))) (pss_cons 
      (ps_if (pt_cmp (pc_din (hu_of hr) (pv 1) (pe_fld (pv 0) rfl))) (pss_one (ps_raise rfl (takes_of rfl rfl rfl rfl) (SkE.pmk_own1 PySem.F.excBase_ValueError T.o_Known.xC T.m_Known T.o_Known.kC (raises_own T.o_Known.bC T.o_Known.tC) rfl (pe_joined (PJ.cons pe_str (PJ.cons (pe_fmt (pv 1)) PJ.nil)))))) pss_nil) (pss_cons 
      (ps_if (pt_cmpR op_ge (pe_callB call_lenD (by rfl) T.b_len PySem.boot_len (pa_cons (pe_fld (pv 0) rfl) pa_nil)) (pe_glob (v := .int 6) rfl T.c_MOST_EDITIONS ⟨_, rfl⟩) (nomark _)) (pss_one (ps_raise rfl (takes_of rfl rfl rfl rfl) (SkE.pmk_own1 PySem.F.excBase_ValueError T.o_TooMany.xC T.m_TooMany T.o_TooMany.kC (raises_own T.o_TooMany.bC T.o_TooMany.tC) rfl (pe_joined (PJ.cons pe_str (PJ.cons (pe_fmt (pe_glob (v := .int 6) rfl T.c_MOST_EDITIONS ⟨_, rfl⟩)) (PJ.cons pe_str PJ.nil))))))) pss_nil) (pss_cons 
      (ps_expr (pe_call G_check_edition (hr.mono (by decide)) rfl T.d_check_edition.m T.d_check_edition.F.kp T.d_check_edition.b .nil (passes_call (takes_of rfl rfl rfl rfl) fun _ _ _ _ h => h) (pa_cons (pv 2) pa_nil))) (pss_cons 
      (ps_expr (pe_meth (pv 0) T.cl_Shop T.d_Shop_keep.mt G_Shop_keep (hr.mono (by decide)) T.d_Shop_keep.b .nil pass0 (pa_cons (pe_tup (pa_cons pe_str (pa_cons (pv 1) (pa_cons (pv 2) pa_nil)))) pa_nil))) (pss_one 
      (ps_fld (pv 0) (pe_star (pe_fld (pv 0) rfl) (pv 1) (pv 2)) rfl))))))), ?_⟩
    refine ⟨_, rfl, n, rfl, nl, fun c1 H1 s1 => ?_, k1⟩
    have I := I0.same s1
    obtain ⟨dx, e, l, c, hob, M⟩ := id I.ob
    refine ⟨_, rfl, _, rfl, x, T.k_Shop, dx, _, _, rfl, hob, T.cl_Shop, T.na_Shop_editions, rfl, e, _, rfl, DGet.k (k := .inr n) (I.sub _ _ M.eds), _, rfl, ?_⟩
    rw [edOf_val]
    cases c2 : edOf S.eds n with
    | some es0 =>
      refine iteT ?_
      have a1 := app_lenX (show Str.empty.length ≤ 0 from Nat.le_refl _) (show (Str.ofString "there is an edition ").length ≤ 30 by decide)
      have a2 := app_lenX a1 nl
      exact ⟨_, rfl, lineX2 a1 (by decide), _, rfl, .inl ⟨_, rfl, lineX nl, _, rfl, lineX2 a2 (by decide), k2 c1 (by rw [c2]; exact fun z => nomatch z) _ s1⟩⟩
    | none =>
      refine iteF ?_
      have kl : (edKV S.eds).length = S.eds.length := by unfold edKV; rw [List.length_map]
      refine ⟨_, rfl, x, T.k_Shop, dx, _, _, rfl, hob, T.cl_Shop, T.na_Shop_editions, rfl, e, edKV S.eds, rfl, I.sub _ _ M.eds, _, _, rfl, rfl, _, rfl, ?_⟩
      rw [kl]
      refine ite2 (fun h => ?_) fun h => ?_
      · have h : (S.eds.length : Int) ≥ 6 := of_decide_eq_true h
        have a1 := app_lenX (show Str.empty.length ≤ 0 from Nat.le_refl _) (show (Str.ofString "there are ").length ≤ 30 by decide)
        have a2 := app_lenX a1 (str_anyG (i := 6) (by decide) (by decide))
        have a3 := app_lenX a2 (show (Str.ofString " editions").length ≤ 30 by decide)
        exact ⟨_, rfl, lineX2 a1 (by decide), .inr ⟨_, rfl, log_anyG (by decide) (by decide), _, rfl, lineX2 a2 (by decide), _, rfl, lineX2 a3 (by decide), k3 c1 c2 (by omega) _ s1⟩⟩
      · have h : ¬ (S.eds.length : Int) ≥ 6 := of_decide_eq_false (Bool.not_eq_true _ ▸ h)
        refine ⟨_, rfl, es, rfl, el, fun h5 => ?_, fun h5 => (k4 c1 c2 (by omega) h5).same s1⟩
        have kk := k c1 c2 (by omega) h5
        refine ⟨_, rfl, x, dx, _, rfl, hob, rfl, _, rfl, _, rfl, sizeS (by show 3 ≤ 100000; decide), fun t ht => ?_⟩
        have I1 := I.add (o := .tup [.str "put", .str n, .byt (byteArr es)]) ht
        have E1 := ExtG.add (o := .tup [.str "put", .str n, .byt (byteArr es)]) I.sub ht
        refine ⟨x, _, pA, fA, S, past, m, t, .put n es, rfl, I1, pl, upd_same, fun H2 G2 q2 E2 I2 => ?_⟩
        have L1 : Live H H1 := Live.of s1
        have q02 : KeepM [x, pA, fA] H H2 := (KeepM.of (s1.trans (Same.new ht))).trans q2
        have E02 : ExtG H G G2 := (ExtG.refl H G).trans L1 (E1.trans (Live.of (Same.new ht)) E2)
        have L2 : Live H H2 := I0.live I2 q02
        clear I1 E1 q2 E2 hob M
        obtain ⟨dx, e, l, c, hob, M⟩ := id I2.ob
        intro p hp
        have I3 := I2.add (o := .dK []) hp
        have hob3 := Same.new (o := .dK []) hp _ _ hob
        have he2 := I2.sub _ _ M.eds
        have he3 := Same.new (o := .dK []) hp _ _ he2
        have ep : e ≠ p := ne_of_none he2 hp
        have me : mergeK [] (edKV S.eds) = edKV S.eds := mergeK_nil (edKV_nd I2.nd)
        refine ⟨_, rfl, x, T.k_Shop, dx, _, _, rfl, hob3, T.cl_Shop, T.na_Shop_editions, rfl, e, edKV S.eds, rfl, ep, upd_same, he3, sizeL (by rw [kl]; omega), fun q hq => ?_⟩
        rw [me] at hq ⊢
        have qp : p ≠ q := fun z => by rw [z, upd_same] at hq; cases hq
        refine ⟨_, rfl, _, rfl, .inr n, _, rfl, qp, by rw [upd_ne qp]; exact upd_same, upd_same, ?_⟩
        rw [edKV_put _ _ _ c2]
        have hq2 : H2 q = none := by
          rw [upd_ne qp.symm, upd_ne qp.symm] at hq
          exact hq
        have xq : x ≠ q := ne_free I2.lx hq2
        have xp : x ≠ p := ne_free I2.lx hp
        -- all that was made
        generalize hH4 : upd (upd (upd (upd (upd H2 p (.dK [])) p (.dK (edKV S.eds))) q (.dK [])) q (.dK [(.inr n, .byt (byteArr es))])) p (.dK (edKV (S.eds ++ [(n, es)]))) = H4
        have s24 : Same H2 H4 := fun b o z => by
          have b1 : b ≠ p := ne_of_none z hp
          have b2 : b ≠ q := ne_of_none z hq2
          rw [← hH4, upd_ne b1, upd_ne b2, upd_ne b2, upd_ne b1, upd_ne b1]
          exact z
        have p4 : H4 p = some (.dK (edKV (S.eds ++ [(n, es)]))) := by rw [← hH4]; exact upd_same
        have E4 := ExtG.add (o := .dK (edKV (S.eds ++ [(n, es)]))) I2.sub hp
        have I4 : ShopIs U P w T.k_Shop H4 x (upd G2 p (.dK (edKV (S.eds ++ [(n, es)])))) pA fA S (past ++ [(.put n es, S)]) m := by
          obtain ⟨o1, a1, b1⟩ := I2.lx
          obtain ⟨o2, a2, b2⟩ := I2.lp
          obtain ⟨o3, a3, b3⟩ := I2.lf
          refine (I2.same s24).grow E4.sub (fun b o z => ?_) (E4.new _ _ I2.gx a1 b1) (E4.new _ _ I2.gp a2 b2) (E4.new _ _ I2.gf a3 b3)
          by_cases y : b = p
          · subst y
            rw [upd_same] at z
            rw [p4]
            exact z
          · rw [upd_ne y] at z
            exact s24 _ _ (I2.sub _ _ z)
        have hob4 := s24 _ _ hob
        clear hH4 hq
        refine ⟨_, rfl, x, T.k_Shop, dx, _, rfl, hob4, T.cl_Shop, T.na_Shop_editions, (by simp), ?_⟩
        refine kk _ (upd G2 p (.dK (edKV (S.eds ++ [(n, es)])))) ((q02.trans (KeepM.of s24)).trans (KeepM.upd (by simp))) (E02.trans L2 E4) ?_
        obtain ⟨vs, h1, h2⟩ := I4.pt
        obtain ⟨ks, h6, h7, h8⟩ := I4.fd
        refine ⟨⟨dx, p, l, c, upd_same, upd_same, (M.same E4.sub).leans, (M.same E4.sub).cus⟩, ⟨vs, by rw [upd_ne I4.xp.symm]; exact h1, h2⟩, ⟨ks, by rw [upd_ne I4.xf.symm]; exact h6, h7, h8⟩, fun b o z => ?_, I4.gx, I4.gp, I4.gf, ?_, ?_, ?_⟩
        · rw [upd_ne]
          · exact I4.sub b o z
          · rintro rfl
            rw [I4.gx] at z
            cases z
        · intro r hr
          rcases List.mem_append.mp (show r ∈ S.eds ++ [(n, es)] from hr) with z | z
          · exact I4.ok r z
          · rw [List.mem_singleton.mp z]
            exact ⟨b8, h5, nameOk_len c1⟩
        · show (S.eds ++ [(n, es)]).length ≤ 6
          rw [List.length_append, List.length_singleton]
          omega
        · show ((S.eds ++ [(n, es)]).map (·.1)).Nodup
          rw [List.map_append, List.nodup_append]
          refine ⟨I4.nd, by simp, fun a ha b hb z => ?_⟩
          have hb : b = n := by simpa using hb
          rw [z, hb] at ha
          exact edOf_none.mp c2 ha
end
theorem byteArr_inj {a b : List Int} (ha : B8 a) (hb : B8 b) (h : byteArr a = byteArr b) : a = b := by rw [← bInts_of ha, h, bInts_of hb]
theorem xval_mem {κ : Type} [DecidableEq κ] {ks : XRows κ} {k : List κ} {v : V} (h : xval ks k = some v) : ∃ p ∈ ks, p.1 = k ∧ p.2.2 = v := by
  unfold xval at h
  obtain ⟨p, hp, e⟩ := Option.map_eq_some_iff.mp h
  exact ⟨p, List.mem_of_find?_eq_some hp, of_decide_eq_true (List.find?_some (p := fun x : List κ × Addr × V => decide (x.1 = k)) hp), e⟩
theorem dx_found {P : Program} {w : World} {G H : Hp} {fA : Addr} {ks : XRows (Array UInt8)} (e : H fA = some (dxO bytX P w fA ks)) (f : ∀ k ∈ ks, FoundV G k) (s : Same G H) : DX bytX P w H fA ks := ⟨e, fun k hk => by
  obtain ⟨o, n, rs, h1, h2, _⟩ := f k hk
  exact s _ _ h2⟩
theorem sizeL2 {n : Nat} (h : n ≤ 10000000) : n < sizeLine := by rw [sizeLine_eq]; omega
section
variable {P : Program} {w : World} {K : PySem.W.Frag} {mg : Str → Option Value} {base : Heap}
theorem okx_Shop_patch_between (T : All K mg) (U : CuK) : FnOk P w K mg base (L2.CX P w) 5 T.d_Shop_patch_between.f T.d_Shop_patch_between.fd ["self", "one", "other"] (spBetween U P w T.k_Shop T.k_NoName) := by
  have G_Shop_edition : FnOk P w K mg base (L2.CX P w) 2 T.d_Shop_edition.f T.d_Shop_edition.fd ["self", "name"] (spEditionS U P w T.k_Shop T.k_NoName) := okx_Shop_edition T U
  have G_least : FnOk P w K mg base CX0 4 T.d_least.f T.d_least.fd ["old", "new"] spLeast := ok_least T
  refine T.d_Shop_patch_between.F.okX sc_Shop_patch_between (fun vs H Q E h => ?_) (fun cdv A outer s H vs Q E hr h => ?_)
  · obtain ⟨_, _, _, _, _, _, _, _, _, rfl, _⟩ := h
    rfl
  · obtain ⟨x, G, pA, fA, S, past, m, a, b, rfl, I, ml, al, bl, k1, k2, k⟩ := h
    refine ⟨_, (pss_cons 
      (ps_set (i := 3) sc_Shop_patch_between.nd rfl (Or.inl rfl) (pe_tup (pa_cons (pe_meth (pv 0) T.cl_Shop T.d_Shop_edition.mt G_Shop_edition (hr.mono (by decide)) T.d_Shop_edition.b .nil (passes_call (takes_of rfl rfl rfl rfl) fun _ _ _ _ h => h) (pa_cons (pv 1) pa_nil)) (pa_cons (pe_meth (pv 0) T.cl_Shop T.d_Shop_edition.mt G_Shop_edition (hr.mono (by decide)) T.d_Shop_edition.b .nil (passes_call (takes_of rfl rfl rfl rfl) fun _ _ _ _ h => h) (pa_cons (pv 2) pa_nil)) pa_nil)))) (pss_cons 
      (ps_if (pt_cmp (pc_xnotin (X := bytX) (P := P) (w := w) rfl rfl (hu_of hr) (pv 3) (pe_fld (pv 0) rfl))) (pss_one 
      (ps_xput (X := bytX) (P := P) (w := w) rfl rfl (hu_of hr) (pe_fld (pv 0) rfl) (pv 3) (pe_call G_least (hr.mono (by decide)) rfl T.d_least.m T.d_least.F.kp T.d_least.b .nil pass0 (pa_cons (pe_ix ix_tup (pv 3) pe_int (fun _ _ => rfl)) (pa_cons (pe_ix ix_tup (pv 3) pe_int (fun _ _ => rfl)) pa_nil))) rfl)) pss_nil) (pss_one 
      (ps_ret (pe_xget (X := bytX) (P := P) (w := w) rfl rfl (hu_of hr) (pe_fld (pv 0) rfl) (pv 3) (fun _ _ => rfl)))))), ?_⟩
    obtain ⟨dx, e, l, c, hob, M⟩ := id I.ob
    refine ⟨_, rfl, x, dx, _, rfl, hob, rfl, _, rfl, x, G, pA, fA, S, past, m, a, rfl, I, al, fun o ho => ?_, k1⟩
    refine ⟨_, rfl, x, dx, _, rfl, hob, rfl, _, rfl, x, G, pA, fA, S, past, m, b, rfl, I, bl, fun n hn => ?_, k2 (by rw [ho]; exact fun z => nomatch z)⟩
    refine ⟨sizeS (by show 2 ≤ 100000; decide), fun t ht => ?_⟩
    obtain ⟨bo, lo, _⟩ := I.ok _ (edOf_mem ho)
    obtain ⟨bn, ln, _⟩ := I.ok _ (edOf_mem hn)
    have I1 := I.add (o := .tup [.byt (byteArr o), .byt (byteArr n)]) ht
    have E1 := ExtG.add (o := .tup [.byt (byteArr o), .byt (byteArr n)]) I.sub ht
    have q1 : KeepM [x, pA, fA] H (upd H t (.tup [.byt (byteArr o), .byt (byteArr n)])) := KeepM.of (Same.new ht)
    have L1 : Live H (upd H t (.tup [.byt (byteArr o), .byt (byteArr n)])) := Live.of (Same.new ht)
    have t1 : (upd H t (.tup [.byt (byteArr o), .byt (byteArr n)])) t = some (.tup [.byt (byteArr o), .byt (byteArr n)]) := upd_same
    have g1 : (upd G t (.tup [.byt (byteArr o), .byt (byteArr n)])) t = some (.tup [.byt (byteArr o), .byt (byteArr n)]) := upd_same
    have kk := k o n ho hn
    generalize upd H t (.tup [.byt (byteArr o), .byt (byteArr n)]) = H1 at I1 q1 L1 t1
    generalize upd G t (.tup [.byt (byteArr o), .byt (byteArr n)]) = G1 at I1 E1 g1
    clear hob M
    obtain ⟨dx, e, l, c, hob, M⟩ := id I1.ob
    obtain ⟨ks, f1, f2, f3⟩ := id I1.fd
    have hk : ∀ {H2 : Hp}, H2 t = some (.tup [.byt (byteArr o), .byt (byteArr n)]) → H2 t = some (.tup ([byteArr o, byteArr n].map bytX.kv)) := fun {H2} z => z
    refine ⟨_, rfl, _, rfl, x, T.k_Shop, dx, _, _, rfl, hob, T.cl_Shop, T.na_Shop_found, rfl, fA, t, ks, [byteArr o, byteArr n], rfl, rfl, dx_found f1 f3 I1.sub, hk t1, _, rfl, ?_⟩
    cases hx : xval ks [byteArr o, byteArr n] with
    | some v =>
      refine iteF ?_
      refine ⟨_, rfl, x, T.k_Shop, dx, _, _, rfl, hob, T.cl_Shop, T.na_Shop_found, rfl, _, rfl, fA, t, ks, [byteArr o, byteArr n], v, rfl, rfl, dx_found f1 f3 I1.sub, hk t1, hx, ?_⟩
      obtain ⟨p, hp, e1, e2⟩ := xval_mem hx
      obtain ⟨o', n', rs, h1, h2, h3, h4, h5, h6⟩ := f3 p hp
      rw [e1] at h1
      injection h1 with z1 z2
      injection z2 with z2 _
      have z1 := byteArr_inj bo h3 z1
      have z2 := byteArr_inj bn h4 z2
      subst z1 z2
      rw [e2] at h6
      exact kk H1 G1 v rs q1 E1 (I1.up (Nat.le_succ _)) h5 h6
    | none =>
      refine iteT ?_
      refine ⟨_, rfl, t, _, _, _, rfl, rfl, SqT.of t1, rfl, _, rfl, t, _, _, _, rfl, rfl, SqT.of t1, rfl, o, n, rfl, bo, bn, lo, ln, fun H2 v rs s2 IL hP => ?_⟩
      have E2 : ExtG H1 G1 (tupG G1 H2) := tupG_ext (Live.of s2)
      have I2 := (I1.same s2).ext (tupG_ext (Live.refl H2)) (tupG_sub (I1.same s2).sub)
      have hP2 : PatchAt (tupG G1 H2) v rs := hP.tups (tupG_tups _ _ (I1.same s2).sub)
      have g2 := E2.sub _ _ g1
      have t2 := s2 _ _ t1
      have q2 := q1.trans (KeepM.of (L := [x, pA, fA]) s2)
      have E02 := E1.trans L1 E2
      generalize tupG G1 H2 = G2 at I2 hP2 g2 E02
      clear hob M f1 f2 f3
      obtain ⟨dx, e, l, c, hob, M⟩ := id I2.ob
      obtain ⟨vs, p1, p2⟩ := id I2.pt
      obtain ⟨ks, f1, f2, f3⟩ := id I2.fd
      refine ⟨_, rfl, x, T.k_Shop, dx, _, _, rfl, hob, T.cl_Shop, T.na_Shop_found, rfl, _, rfl, fA, t, ks, [byteArr o, byteArr n], rfl, rfl, dx_found f1 f3 I2.sub, hk t2, sizeL2 (by omega), ?_⟩
      have tf : t ≠ fA := ne_of t2 f1 fun z => nomatch z
      have I3 : ShopIs U P w T.k_Shop (upd H2 fA (dxO bytX P w fA (xput ks [byteArr o, byteArr n] t v))) x G2 pA fA S past (m + 1) := by
        refine ⟨⟨dx, e, l, c, by rw [upd_ne I2.xf]; exact hob, M⟩, ⟨vs, by rw [upd_ne I2.pf]; exact p1, p2⟩, ⟨_, upd_same, Nat.le_trans (xput_len _ _ _ _) (by omega), fun k hk => ?_⟩, fun b u z => ?_, I2.gx, I2.gp, I2.gf, I2.ok, I2.few, I2.nd⟩
        · unfold xput at hk
          split at hk
          · obtain ⟨y, hy, ey⟩ := List.mem_map.mp hk
            obtain ⟨o', n', rs', h1, h2, h3, h4, h5, h6⟩ := f3 y hy
            split at ey
            · rename_i hyk
              subst ey
              exact ⟨o, n, rs, hyk, h2, bo, bn, IL, hP2⟩
            · subst ey
              exact ⟨o', n', rs', h1, h2, h3, h4, h5, h6⟩
          · rcases List.mem_append.mp hk with hk | hk
            · exact f3 k hk
            · rw [List.mem_singleton.mp hk]
              exact ⟨o, n, rs, rfl, g2, bo, bn, IL, hP2⟩
        · rw [upd_ne]
          · exact I2.sub b u z
          · rintro rfl
            rw [I2.gf] at z
            cases z
      have f1' : (upd H2 fA (dxO bytX P w fA (xput ks [byteArr o, byteArr n] t v))) fA = some (dxO bytX P w fA (xput ks [byteArr o, byteArr n] t v)) := upd_same
      have t3 : (upd H2 fA (dxO bytX P w fA (xput ks [byteArr o, byteArr n] t v))) t = some (.tup [.byt (byteArr o), .byt (byteArr n)]) := by rw [upd_ne tf]; exact t2
      have q3 : KeepM [x, pA, fA] H (upd H2 fA (dxO bytX P w fA (xput ks [byteArr o, byteArr n] t v))) := q2.trans (KeepM.upd (by simp))
      clear hob M
      obtain ⟨dx, e, l, c, hob, M⟩ := id I3.ob
      have hT : ∀ k ∈ xput ks [byteArr o, byteArr n] t v, (upd H2 fA (dxO bytX P w fA (xput ks [byteArr o, byteArr n] t v))) k.2.1 = some (.tup (k.1.map bytX.kv)) := fun k hk => by
        obtain ⟨ks', g1, _, g3⟩ := I3.fd
        rcases xput_mem k hk with ⟨y, hy, e1, e2⟩ | ⟨e1, e2⟩
        · obtain ⟨o', n', rs', h1, h2, _⟩ := f3 y hy
          have := I3.sub _ _ h2
          rw [e1, e2] at this
          exact this
        · rw [e1, e2]
          exact t3
      refine ⟨_, rfl, x, T.k_Shop, dx, _, _, rfl, hob, T.cl_Shop, T.na_Shop_found, rfl, _, rfl, fA, t, _, [byteArr o, byteArr n], v, rfl, rfl, ⟨f1', hT⟩, hk t3, xval_put_self, ?_⟩
      exact kk _ G2 v rs q3 E02 I3 IL hP2
end
/-! ### what the patches between the editions of a shop cost -/
theorem KeepM.live {L : List Addr} {H H' : Hp} (k : KeepM L H H') (h : ∀ b ∈ L, ∃ o, H' b = some o ∧ NT o) : Live H H' := fun b o hb => by
  by_cases e : b ∈ L
  · obtain ⟨o', h1, h2⟩ := h b e
    exact ⟨o', h1, fun _ => h2⟩
  · exact ⟨o, k b o e hb, fun n => n⟩
open Classical in
noncomputable def leastZ (o n : List Int) : Int := if h : ∃ rs, IsLeast o n rs then ((codeOf h.choose).length : Nat) else 0
theorem leastZ_eq {o n : List Int} {rs : List Row} (h : IsLeast o n rs) : leastZ o n = ((codeOf rs).length : Nat) := by
  have e : ∃ rs, IsLeast o n rs := ⟨rs, h⟩
  unfold leastZ
  rw [dif_pos e, IsLeast.one e.choose_spec h]
noncomputable def costN (E : EdM) (a b : Str) : Int := leastZ ((edOf E a).getD []) ((edOf E b).getD [])
theorem costN_eq {E : EdM} {a b : Str} {o n : List Int} {rs : List Row} (h1 : edOf E a = some o) (h2 : edOf E b = some n) (h : IsLeast o n rs) : costN E a b = ((codeOf rs).length : Nat) := by
  unfold costN
  rw [h1, h2]
  exact leastZ_eq h
def CostD (E : EdM) (kvs : List (List Key × V)) : Prop := ∀ a b, a ∈ E.map (·.1) → b ∈ E.map (·.1) → a ≠ b → valV kvs [.inr a, .inr b] = some (.int (costN E a b))
def spSizes (U : CuK) (P : Program) (w : World) (kS : Addr) : Sp := fun vs H Q _ => ∃ x G pA fA, ∃ (S : ShopM U) (past : PastM U) (m : Nat), vs = [.ref x] ∧ ShopIs U P w kS H x G pA fA S past m ∧ m ≤ 9000000 ∧
  ∀ H' G' d kvs, KeepM [x, pA, fA] H H' → ExtG H G G' → ShopIs U P w kS H' x G' pA fA S past (m + 36) → H d = none → H' d = some (.dT kvs) → G' d = none → CostD S.eds kvs → Q (.ref d) H'
section
variable {P : Program} {w : World} {K : PySem.W.Frag} {mg : Str → Option Value} {base : Heap}
theorem ok_sizes_of (T : All K mg) (U : CuK) : FnOk P w K mg base CX0 6 T.d_sizes_of.f T.d_sizes_of.fd ["shop"] (spSizes U P w T.k_Shop) := by
  have G_Shop_names : FnOk P w K mg base CX0 1 T.d_Shop_names.f T.d_Shop_names.fd ["self"] (spNamesS U P w T.k_Shop) := ok_Shop_names T U
  have G_Shop_patch_between := My.FnOk.x0G (okx_Shop_patch_between (P := P) (w := w) (base := base) T U)
  have G_size : FnOk P w K mg base CX0 4 T.d_size.f T.d_size.fd ["patch"] spSizeOf := ok_size T
  refine T.d_sizes_of.F.ok sc_sizes_of (fun vs H Q E h => ?_) (fun cdv A outer s H vs Q E hr h => ?_)
  · obtain ⟨_, _, _, _, _, _, _, rfl, _⟩ := h
    rfl
  · obtain ⟨x, G, pA, fA, S, past, m, rfl, I, ml, k⟩ := h
    refine ⟨_, (pss_cons 
      (ps_set (i := 1) sc_sizes_of.nd rfl (Or.inr rfl) (pe_meth0 (pv 0) T.cl_Shop T.d_Shop_names.mt G_Shop_names (hr.mono (by decide)) T.d_Shop_names.b .nil pass0)) (pss_one 
      (ps_ret (pe_dc2 (own := [("one", 2), ("other", 3)]) (vs1 := [3]) (g := gName 2) (g1 := gName 3) (tt := tYes) (hu_of hr) rfl sc_sizes_of.nd (pi_list (pv 1)) (blkOk_by (own := [("one", 2), ("other", 3)]) (N := ["shop", "names", "one", "other"]) (sc := defScope s_sizes_of) (by decide +kernel)) (by decide) (fun _ _ _ _ _ => (pg_name (i := 2) sc_sizes_of.nd rfl (Or.inl rfl))) (fun _ _ _ _ _ => pts_nil) (fun _ _ _ _ _ => (pi_listKK (K := K) rfl (pv 1))) (fun _ _ _ _ _ => (pg_name (i := 3) sc_sizes_of.nd rfl (Or.inl rfl))) (fun _ _ _ _ _ => (pts_one (pt_cmpR op_ne (pv 2) (pv 3) (nomark _)))) (fun _ _ _ _ _ => (pe_tup (pa_cons (pv 2) (pa_cons (pv 3) pa_nil)))) (fun _ _ _ _ _ => (pe_call G_size (hr.mono (by decide)) rfl T.d_size.m T.d_size.F.kp T.d_size.b .nil pass0 (pa_cons (pe_meth (pv 0) T.cl_Shop T.d_Shop_patch_between.mt G_Shop_patch_between (hr.mono (by decide)) T.d_Shop_patch_between.b .nil pass0 (pa_cons (pv 2) (pa_cons (pv 3) pa_nil))) pa_nil))))))), ?_⟩
    obtain ⟨dx, e, l, c, hob, M⟩ := id I.ob
    refine ⟨_, rfl, x, dx, _, rfl, hob, rfl, x, G, pA, fA, S, past, m, rfl, I, fun p ys hp pm so => ?_⟩
    have hn : ys.length ≤ 6 := by rw [pm.length_eq, List.length_map]; exact I.few
    have nd : ys.Nodup := pm.nodup_iff.mpr I.nd
    have hE : ∀ a ∈ ys, ∃ o, edOf S.eds a = some o := fun a ha => by
      cases he : edOf S.eds a with
      | none => exact absurd (pm.mem_iff.mp ha) (edOf_none.mp he)
      | some o => exact ⟨o, rfl⟩
    have len8 : ∀ a ∈ ys, a.length ≤ 8 := fun a ha => by
      obtain ⟨o, ho⟩ := hE a ha
      exact (I.ok _ (edOf_mem ho)).2.2
    have s1 : Same H (upd H p (.lst (ys.map V.str))) := Same.new hp
    have I1 := I.same s1
    refine ⟨_, rfl, p, rfl, ⟨_, SqL.of upd_same⟩, fun D hD => ?_⟩
    generalize hH1 : upd H p (.lst (ys.map V.str)) = H1 at s1 I1 hD ⊢
    have hp1 : H1 p = some (.lst (ys.map V.str)) := by rw [← hH1]; exact upd_same
    have s2 : Same H1 (upd H1 D (.dT [])) := Same.new hD
    have I2 := I1.same s2
    have d2 : (upd H1 D (.dT [])) D = some (.dT []) := upd_same
    have hDH : H D = none := (Live.of s1).free hD
    have hDG : G D = none := by
      cases e : G D with
      | none => rfl
      | some u => rw [I.sub D u e] at hDH; cases hDH
    have hDp : p ≠ D := fun z => by rw [z, hD] at hp1; cases hp1
    generalize hH2 : upd H1 D (.dT []) = H2 at s2 I2 d2 ⊢
    have p2 : H2 p = some (.lst (ys.map V.str)) := s2 _ _ hp1
    -- the state ahead of each turn
    let PV : Nat → Nat → Hp → Prop := fun i j H3 => ∃ G3 kvs, KeepM [x, pA, fA, D] H2 H3 ∧ ExtG H2 G G3 ∧ ShopIs U P w T.k_Shop H3 x G3 pA fA S past (m + (6 * i + j)) ∧ H3 D = some (.dT kvs) ∧ G3 D = none ∧ kvs.length ≤ 6 * i + j ∧
      ∀ i' j' a b, i' < i ∨ i' = i ∧ j' < j → ys[i']? = some a → ys[j']? = some b → a ≠ b → valV kvs [.inr a, .inr b] = some (.int (costN S.eds a b))
    have pq : ∀ {H3}, KeepM [x, pA, fA, D] H2 H3 → H3 p = some (.lst (ys.map V.str)) := fun {H3} q => q p _ (by
      simp only [List.mem_cons, List.not_mem_nil, or_false, not_or]
      obtain ⟨_, a1, _⟩ := I.lx
      obtain ⟨_, a2, _⟩ := I.lp
      obtain ⟨_, a3, _⟩ := I.lf
      exact ⟨fun z => by rw [z, a1] at hp; exact absurd hp (fun q => by cases q), fun z => by rw [z, a2] at hp; exact absurd hp (fun q => by cases q), fun z => by rw [z, a3] at hp; exact absurd hp (fun q => by cases q), hDp⟩) p2
    refine two_it (walk_list (K := K) (xs := ys.map V.str)) (fun i H3 => PV i 0 H3) ⟨G, [], fun _ _ _ h => h, ExtG.refl _ _, I2.up (by omega), d2, hDG, by simp, fun i' j' a b h => by omega⟩ (fun i H3 _ h => ?_) (fun i xv H3 H3' hi h y => ?_) (fun H3 h => ?_)
    · obtain ⟨G3, kvs, q, _⟩ := h
      exact SqL.of (pq q)
    · obtain ⟨rfl, hx⟩ := y
      rw [List.getElem?_map] at hx
      obtain ⟨a, ha, rfl⟩ := Option.map_eq_some_iff.mp hx
      refine ⟨rfl, _, rfl, p, rfl, ⟨_, SqL.of (pq (by obtain ⟨_, _, q, _⟩ := h; exact q))⟩, ?_⟩
      refine two_it (walk_list (K := K) (xs := ys.map V.str)) (fun j H3 => PV i j H3) h (fun j H3 _ h => ?_) (fun j xv H3 H3' hj h y => ?_) (fun H3 h => ?_)
      · obtain ⟨G3, kvs, q, _⟩ := h
        exact SqL.of (pq q)
      · obtain ⟨rfl, hx⟩ := y
        rw [List.getElem?_map] at hx
        obtain ⟨b, hb, rfl⟩ := Option.map_eq_some_iff.mp hx
        have ma := List.mem_of_getElem? ha
        have mb := List.mem_of_getElem? hb
        have hi6 : i < 6 := by rw [List.length_map] at hi; omega
        have hj6 : j < 6 := by rw [List.length_map] at hj; omega
        refine ⟨rfl, _, rfl, _, rfl, rfl, _, rfl, ?_⟩
        by_cases hab : a = b
        · subst hab
          rw [decide_eq_true rfl]
          refine iteF ?_
          obtain ⟨G3, kvs, q1, E1, J1, d1, gd, kl, kv⟩ := h
          exact ⟨G3, kvs, q1, E1, J1.up (by omega), d1, gd, by omega, fun i' j' a' b' hh h1 h2 h3 => by
            rcases hh with hh | ⟨rfl, hh⟩
            · exact kv i' j' a' b' (.inl hh) h1 h2 h3
            · rcases Nat.lt_or_ge j' j with z | z
              · exact kv i' j' a' b' (.inr ⟨rfl, z⟩) h1 h2 h3
              · obtain rfl : j' = j := by omega
                rw [ha] at h1
                rw [hb] at h2
                cases h1
                cases h2
                exact absurd rfl h3⟩
        · rw [decide_eq_false fun z => hab (by cases z; rfl)]
          refine iteT ?_
          obtain ⟨G3, kvs, q1, E1, J1, d1, gd, kl, kv⟩ := h
          refine ⟨_, rfl, _, rfl, sizeS (by show 2 ≤ 100000; decide), fun t ht => ?_⟩
          have s4 : Same H3' (upd H3' t (.tup [.str a, .str b])) := Same.new ht
          have J4 := J1.same s4
          have t4 : (upd H3' t (.tup [.str a, .str b])) t = some (.tup [.str a, .str b]) := upd_same
          obtain ⟨dx4, e4, l4, c4, hob4, _⟩ := id J4.ob
          obtain ⟨oa, hoa⟩ := hE a ma
          obtain ⟨ob, hob_⟩ := hE b mb
          refine ⟨_, rfl, x, dx4, _, rfl, hob4, rfl, _, rfl, _, rfl, x, G3, pA, fA, S, past, _, a, b, rfl, J4, by omega, Nat.le_trans (len8 a ma) (by decide), Nat.le_trans (len8 b mb) (by decide),
            fun z => absurd z (by rw [hoa]; exact fun q => by cases q), fun _ z => absurd z (by rw [hob_]; exact fun q => by cases q), fun o n ho hn' H5 G5 v rs q5 E5 J5 IL hP => ?_⟩
          have bo := I.ok _ (edOf_mem ho)
          have bn := I.ok _ (edOf_mem hn')
          refine ⟨v, rs, rfl, hP.tups (Same.tups J5.sub), IL.good bo.2.1 bn.2.1, fun H6 s6 => ?_⟩
          have nx : t ≠ x := fun z => by rw [z] at ht; obtain ⟨_, q, _⟩ := J1.lx; rw [q] at ht; cases ht
          have np : t ≠ pA := fun z => by rw [z] at ht; obtain ⟨_, q, _⟩ := J1.lp; rw [q] at ht; cases ht
          have nf : t ≠ fA := fun z => by rw [z] at ht; obtain ⟨_, q, _⟩ := J1.lf; rw [q] at ht; cases ht
          have Dx : D ≠ x := fun z => by rw [z] at hDH; obtain ⟨_, q, _⟩ := I.lx; rw [q] at hDH; cases hDH
          have Dp : D ≠ pA := fun z => by rw [z] at hDH; obtain ⟨_, q, _⟩ := I.lp; rw [q] at hDH; cases hDH
          have Df : D ≠ fA := fun z => by rw [z] at hDH; obtain ⟨_, q, _⟩ := I.lf; rw [q] at hDH; cases hDH
          have t6 : H6 t = some (.tup [.str a, .str b]) := s6 _ _ (q5 _ _ (by simp [nx, np, nf]) t4)
          have d6 : H6 D = some (.dT kvs) := s6 _ _ (q5 _ _ (by simp [Dx, Dp, Df]) (s4 _ _ d1))
          have J6 := J5.same s6
          have gd5 : G5 D = none := E5.new D _ gd (s4 _ _ d1) (fun _ z => by cases z)
          have q6 : KeepM [x, pA, fA, D] H3' H6 := fun u o hu e => s6 _ _ (q5 _ _ (fun z => hu (by simp at z ⊢; rcases z with z | z | z <;> simp [z])) (s4 _ _ e))
          have E6 : ExtG H2 G G5 := by
            refine E1.trans (KeepM.live q1 fun u hu => ?_) (ExtG.trans (ExtG.refl H3' G3) (Live.of s4) E5)
            simp only [List.mem_cons, List.not_mem_nil, or_false] at hu
            rcases hu with rfl | rfl | rfl | rfl
            · exact J1.lx
            · exact J1.lp
            · exact J1.lf
            · exact ⟨_, d1, fun _ z => by cases z⟩
          have cz := costN_eq ho hn' IL
          refine ⟨_, DPut.t (k := [.inr a, .inr b]) d6 t6 (sizeL2 (by omega)), G5, _, q1.trans (q6.trans (KeepM.upd (by simp))), E6, (J6.up (by omega)).keep fun u o hu e => ?_, upd_same, gd5, ?_, fun i' j' a' b' hh h1 h2 h3 => ?_⟩
          · rw [upd_ne]
            · exact e
            · rintro rfl
              rcases hu with z | z | z | z
              · exact Dx z
              · exact Dp z
              · exact Df z
              · exact z gd5
          · have := length_putK kvs [.inr a, .inr b] (V.int ((codeOf rs).length : Nat))
            omega
          · rw [valV_put]
            by_cases e : ([.inr a', .inr b'] : List Key) = [.inr a, .inr b]
            · rw [if_pos e]
              simp only [List.cons.injEq, Sum.inr.injEq, and_true] at e
              rw [e.1, e.2, cz]
            · rw [if_neg e]
              rcases hh with hh | ⟨rfl, hh⟩
              · exact kv i' j' a' b' (.inl hh) h1 h2 h3
              · rcases Nat.lt_or_ge j' j with z | z
                · exact kv i' j' a' b' (.inr ⟨rfl, z⟩) h1 h2 h3
                · obtain rfl : j' = j := by omega
                  rw [ha] at h1
                  rw [hb] at h2
                  cases h1
                  cases h2
                  exact absurd rfl e
      · obtain ⟨G3, kvs, q1, E1, J1, d1, gd, kl, kv⟩ := h
        rw [List.length_map] at J1 kl kv
        exact ⟨G3, kvs, q1, E1, J1.up (by omega), d1, gd, by omega, fun i' j' a' b' hh h1 h2 h3 => by
          rcases hh with hh | ⟨_, hh⟩
          · rcases Nat.lt_or_ge i' i with z | z
            · exact kv i' j' a' b' (.inl z) h1 h2 h3
            · obtain rfl : i' = i := by omega
              exact kv i' j' a' b' (.inr ⟨rfl, (List.getElem?_eq_some_iff.mp h2).1⟩) h1 h2 h3
          · omega⟩
    · obtain ⟨G3, kvs, q1, E1, J1, d1, gd, kl, kv⟩ := h
      rw [List.length_map] at J1 kl kv
      have L2 : Live H H2 := Live.trans (Live.of s1) (Live.of s2)
      have k3 : KeepM [x, pA, fA] H H3 := fun b o hb e => q1 b o (by
        simp only [List.mem_cons, List.not_mem_nil, or_false, not_or] at hb ⊢
        exact ⟨hb.1, hb.2.1, hb.2.2, fun z => by rw [z, hDH] at e; exact absurd e fun q => by cases q⟩) (s2 _ _ (s1 _ _ e))
      refine k H3 G3 D kvs k3 ((ExtG.refl H G).trans L2 E1) (J1.up (by omega)) hDH d1 gd fun a b ha hb hab => ?_
      obtain ⟨i, hi⟩ := List.mem_iff_getElem?.mp (pm.mem_iff.mpr ha)
      obtain ⟨j, hj⟩ := List.mem_iff_getElem?.mp (pm.mem_iff.mpr hb)
      exact kv i j a b (.inl (List.getElem?_eq_some_iff.mp hi).1) hi hj hab
end
/-! ### what a way costs -/
def wayCost (c : Str → Str → Int) : List Str → Int
  | a :: b :: r => c a b + wayCost c (b :: r)
  | _ => 0
def legs (c : Str → Str → Int) (N : List Str) : List Int := (N.zip N.tail).map fun p => c p.1 p.2
theorem wayCost_legs (c : Str → Str → Int) : ∀ N, (legs c N).sum = wayCost c N
  | [] => rfl
  | [_] => rfl
  | a :: b :: r => by
    have ih := wayCost_legs c (b :: r)
    show c a b + (legs c (b :: r)).sum = _
    rw [ih]
    rfl
theorem cutV_tail (xs : List V) : cutV xs (some 1) none = xs.tail := by
  unfold cutV
  cases xs with
  | nil => rfl
  | cons x r =>
    have e1 : HT.sIx (x :: r).length 0 (some 1) = 1 := by simp [HT.sIx]
    have e2 : HT.sIx (x :: r).length (x :: r).length none = (x :: r).length := rfl
    rw [e1, e2, List.length_cons, Nat.add_sub_cancel]
    exact List.take_length
def spWayBy : Sp := fun vs H Q _ => ∃ (p d : Addr) (N : List Str) (kvs : List (List Key × V)) (c : Str → Str → Int), vs = [.ref p, .ref d] ∧ H p = some (.lst (N.map V.str)) ∧ H d = some (.dT kvs) ∧ N.length ≤ 100 ∧
  (∀ i a b, N[i]? = some a → N[i + 1]? = some b → valV kvs [.inr a, .inr b] = some (.int (c a b))) ∧ ∀ H' t, Same H H' → H t = none → H' t = some (.tup [.int (wayCost c N), .int ((N.length : Nat) - 1), .ref p]) → Q (.ref t) H'
section
variable {P : Program} {w : World} {K : PySem.W.Frag} {mg : Str → Option Value} {base : Heap}
theorem ok_way_by (T : All K mg) : FnOk P w K mg base CX0 1 T.d_way_by.f T.d_way_by.fd ["names", "sizes"] spWayBy := by
  refine T.d_way_by.F.ok sc_way_by (fun vs H Q E h => ?_) (fun cdv A outer s H vs Q E hr h => ?_)
  · obtain ⟨_, _, _, _, _, rfl, _⟩ := h
    rfl
  · obtain ⟨p, d, N, kvs, c, rfl, hp, hd, nl, hc, k⟩ := h
    refine ⟨_, (pss_cons 
      (ps_set (i := 2) sc_way_by.nd rfl (Or.inl rfl) (pe_callB (cr_sum rfl) (by rfl) T.b_sum (by decide +kernel) (pa_cons (pe_lc (own := [("pair", 3)]) (g := gName 3) (tt := tYes) rfl sc_way_by.nd (pi_zipSh (by rfl) T.b_zip (pa_cons (pv 0) (pa_cons (pe_slice sl_list (pv 0) (po_some pe_int) po_none) pa_nil))) (blkOk_by (own := [("pair", 3)]) (N := ["names", "sizes", "many", "pair"]) (sc := defScope s_way_by) (by decide +kernel)) (fun _ _ _ _ _ => (pg_name (i := 3) sc_way_by.nd rfl (Or.inl rfl))) (fun _ _ _ _ _ => pts_nil) (fun _ _ _ _ _ => (pe_dget (hu_of hr) (pv 1) (pv 3) (fun _ _ => rfl)))) pa_nil))) (pss_one 
      (ps_ret (pe_tup (pa_cons (pv 2) (pa_cons (pe_op op_sub (pe_callB call_len (by rfl) T.b_len PySem.boot_len (pa_cons (pv 0) pa_nil)) pe_int) (pa_cons (pv 0) pa_nil))))))), ?_⟩
    refine ⟨_, rfl, _, rfl, _, rfl, p, _, rfl, SqL.of hp, fun p2 hp2 => ?_⟩
    rw [cutV_tail]
    have s1 : Same H (upd H p2 (.lst (N.map V.str).tail)) := Same.new hp2
    have e2 : (upd H p2 (.lst (N.map V.str).tail)) p2 = some (.lst (N.map V.str).tail) := upd_same
    generalize upd H p2 (.lst (N.map V.str).tail) = H1 at s1 e2
    refine ⟨p, p2, _, _, rfl, SqL.of (s1 _ _ hp), SqL.of e2, fun D hD => ?_⟩
    have hl : N.length - 1 = min (N.map V.str).length (N.map V.str).tail.length := by rw [List.length_tail, List.length_map]; omega
    refine lc_it (walk_zipSh (K := K) hl) (fun i H2 => Same H1 H2 ∧ H2 D = some (.lst (((legs c N).take i).map V.int))) ⟨Same.new hD, upd_same⟩ (fun i H2 _ h => ⟨SqL.of (h.1 _ _ (s1 _ _ hp)), SqL.of (h.1 _ _ e2)⟩) (fun i xv H2 H3 hi h y => ?_) (fun H2 h => ?_)
    · obtain ⟨t, xa, xb, rfl, ht, rfl, ha, hb⟩ := y
      replace ha : (N.map V.str)[i]? = some xa := ha
      replace hb : (N.map V.str).tail[i]? = some xb := hb
      rw [List.getElem?_map] at ha
      obtain ⟨a, ha', rfl⟩ := Option.map_eq_some_iff.mp ha
      clear ha
      have ha := ha'
      rw [← List.map_tail, List.getElem?_map] at hb
      obtain ⟨b, hb', rfl⟩ := Option.map_eq_some_iff.mp hb
      clear hb
      have hb := hb'
      have s3 : Same H2 (upd H2 t (.tup [.str a, .str b])) := Same.new ht
      have g := DGet.t (k := [.inr a, .inr b]) (s3 _ _ (h.1 _ _ (s1 _ _ hd))) (b := t) upd_same
      rw [hc i a b ha (by rw [← hb]; simp)] at g
      have li : (legs c N)[i]? = some (c a b) := by
        unfold legs
        rw [List.getElem?_map, (List.getElem?_zip_eq_some (z := (a, b))).mpr ⟨ha, hb⟩]
        rfl
      have hli := (List.getElem?_eq_some_iff.mp li).1
      refine ⟨rfl, _, rfl, _, rfl, d, _, rfl, g, _, s3 _ _ h.2, sizeL2 (by simp; omega), ?_, ?_⟩
      · exact fun u o e => by rw [upd_ne (ne_of_none e hD)]; exact s3 _ _ (h.1 _ _ e)
      · rw [upd_same, List.take_succ, li]
        simp
    · refine ⟨D, _, rfl, SqL.of h.2, ?_⟩
      have el : (legs c N).length = N.length - 1 := by
        unfold legs
        rw [List.length_map, List.length_zip, List.length_tail]
        omega
      rw [List.take_of_length_le (by omega), wayCost_legs]
      refine ⟨_, rfl, _, rfl, _, N.length, rfl, .inl ⟨_, SqL.of (h.1 _ _ (s1 _ _ hp)), by rw [List.length_map]⟩, _, _, rfl, rfl, _, rfl, sizeS (by show 3 ≤ 100000; decide), fun t ht => ?_⟩
      exact k _ t ((s1.trans h.1).trans (Same.new ht)) ((Live.of (s1.trans h.1)).free ht) upd_same
end
/-! ### simple paths and how permutations tell them -/
section
open Pm (pickL pk)
theorem nodup_leS {l m : List Str} (h : l.Nodup) (hs : ∀ x ∈ l, x ∈ m) : l.length ≤ m.length := by
  induction l generalizing m with
  | nil => exact Nat.zero_le _
  | cons a l ih =>
    have h1 := List.nodup_cons.mp h
    have ha := hs a (by simp)
    have := ih (m := m.erase a) h1.2 fun x hx => (List.mem_erase_of_ne (fun z => h1.1 (by rw [← z]; exact hx))).mpr (hs x (by simp [hx]))
    have e := List.length_erase_of_mem ha
    have hp : 0 < m.length := List.length_pos_of_mem ha
    rw [List.length_cons]
    omega
theorem pickL_mem : ∀ (r : Nat) (l m : List Nat), l.Nodup → (m ∈ pickL l r ↔ m.Nodup ∧ (∀ x ∈ m, x ∈ l) ∧ m.length = r)
  | 0, l, m, _ => by
    rw [pickL, List.mem_singleton]
    constructor
    · rintro rfl
      exact ⟨List.nodup_nil, (fun _ h => absurd h (by simp)), rfl⟩
    · rintro ⟨_, _, h⟩
      exact List.length_eq_zero_iff.mp h
  | r + 1, l, m, nd => by
    rw [pickL, List.mem_flatMap]
    constructor
    · rintro ⟨x, hx, hm⟩
      obtain ⟨m', hm', rfl⟩ := List.mem_map.mp hm
      obtain ⟨h1, h2, h3⟩ := (pickL_mem r (l.erase x) m' (nd.erase x)).mp hm'
      refine ⟨List.nodup_cons.mpr ⟨fun z => ?_, h1⟩, fun y hy => ?_, by simp [h3]⟩
      · exact (nd.mem_erase_iff.mp (h2 x z)).1 rfl
      · rcases List.mem_cons.mp hy with rfl | hy
        · exact hx
        · exact (nd.mem_erase_iff.mp (h2 y hy)).2
    · rintro ⟨h1, h2, h3⟩
      cases m with
      | nil => cases h3
      | cons x m' =>
        have h1 := List.nodup_cons.mp h1
        refine ⟨x, h2 x (by simp), List.mem_map.mpr ⟨m', (pickL_mem r (l.erase x) m' (nd.erase x)).mpr ⟨h1.2, fun y hy => nd.mem_erase_iff.mpr ⟨fun z => h1.1 (by rw [← z]; exact hy), h2 y (by simp [hy])⟩, by simpa using h3⟩, rfl⟩⟩
def permsS (bs : List Str) (r : Nat) : List (List Str) := (pickL (List.range bs.length) r).map fun l => l.map fun i => bs.getD i Str.empty
theorem pk_strs (bs : List Str) (r : Nat) : pk (bs.map V.str) r = (permsS bs r).map (·.map V.str) := by
  unfold pk permsS
  rw [List.length_map, List.map_map]
  refine List.map_congr_left fun l hl => ?_
  have h := ((pickL_mem r _ l List.nodup_range).mp hl).2.1
  show l.map _ = (l.map _).map _
  rw [List.map_map]
  refine List.map_congr_left fun i hi => ?_
  have hlt := List.mem_range.mp (h i hi)
  show (bs.map V.str).getD i .non = V.str (bs.getD i Str.empty)
  rw [List.getD_eq_getElem?_getD, List.getD_eq_getElem?_getD, List.getElem?_map, List.getElem?_eq_getElem hlt]
  rfl
theorem permsS_mem {bs : List Str} (nd : bs.Nodup) (r : Nat) (m : List Str) : m ∈ permsS bs r ↔ m.Nodup ∧ (∀ x ∈ m, x ∈ bs) ∧ m.length = r := by
  unfold permsS
  rw [List.mem_map]
  constructor
  · rintro ⟨l, hl, rfl⟩
    obtain ⟨h1, h2, h3⟩ := (pickL_mem r _ l List.nodup_range).mp hl
    have lt : ∀ i ∈ l, i < bs.length := fun i hi => List.mem_range.mp (h2 i hi)
    refine ⟨?_, fun x hx => ?_, by rw [List.length_map, h3]⟩
    · refine List.Pairwise.map _ (R := fun i j => i ≠ j ∧ i < bs.length ∧ j < bs.length) ?_ ?_
      · rintro i j ⟨h, hi, hj⟩ e
        rw [List.getD_eq_getElem?_getD, List.getD_eq_getElem?_getD, List.getElem?_eq_getElem hi, List.getElem?_eq_getElem hj] at e
        exact h ((List.getElem_inj nd).mp e)
      · exact List.Pairwise.imp_of_mem (fun {i j} hi hj h => ⟨h, lt i hi, lt j hj⟩) h1
    · obtain ⟨i, hi, rfl⟩ := List.mem_map.mp hx
      rw [List.getD_eq_getElem?_getD, List.getElem?_eq_getElem (lt i hi)]
      exact List.getElem_mem _
  · rintro ⟨h1, h2, h3⟩
    refine ⟨m.map fun x => bs.idxOf x, (pickL_mem r _ _ List.nodup_range).mpr ⟨?_, fun i hi => ?_, by rw [List.length_map, h3]⟩, ?_⟩
    · refine List.Pairwise.map _ (R := fun x y => x ≠ y ∧ x ∈ bs ∧ y ∈ bs) ?_ ?_
      · rintro x y ⟨h, hx, hy⟩ e
        apply h
        have e1 := List.getElem_idxOf (List.idxOf_lt_length_iff.mpr hx)
        have e2 := List.getElem_idxOf (List.idxOf_lt_length_iff.mpr hy)
        rw [← e1, ← e2]
        congr 1
      · exact List.Pairwise.imp_of_mem (fun {x y} hx hy h => ⟨h, h2 x hx, h2 y hy⟩) h1
    · obtain ⟨x, hx, rfl⟩ := List.mem_map.mp hi
      exact List.mem_range.mpr (List.idxOf_lt_length_iff.mpr (h2 x hx))
    · rw [List.map_map]
      conv => rhs; rw [← List.map_id m]
      refine List.map_congr_left fun x hx => ?_
      show bs.getD (bs.idxOf x) Str.empty = x
      have hl := List.idxOf_lt_length_iff.mpr (h2 x hx)
      rw [List.getD_eq_getElem?_getD, List.getElem?_eq_getElem hl]
      exact List.getElem_idxOf hl
/-- a path without a name twice -/
structure Path (L : List Str) (a b : Str) (N : List Str) : Prop where
  nd : N.Nodup
  sub : ∀ x ∈ N, x ∈ L
  hd : N.head? = some a
  lt : N.getLast? = some b
theorem Path.self {L : List Str} {a : Str} (h : a ∈ L) : Path L a a [a] := ⟨by simp, by simpa using h, rfl, rfl⟩
theorem Path.loop {L : List Str} {a : Str} {N : List Str} (h : Path L a a N) : N = [a] := by
  obtain ⟨nd, _, h1, h2⟩ := h
  cases N with
  | nil => cases h1
  | cons x r =>
    cases h1
    cases r with
    | nil => rfl
    | cons y r =>
      rw [List.getLast?_cons_cons] at h2
      have := List.mem_of_getLast? h2
      exact absurd this (List.nodup_cons.mp nd).1
theorem Path.perm {L L' : List Str} {a b : Str} {N : List Str} (p : ∀ x, x ∈ L ↔ x ∈ L') (h : Path L a b N) : Path L' a b N := ⟨h.nd, fun x hx => (p x).mp (h.sub x hx), h.hd, h.lt⟩
theorem path_mid {L bs : List Str} {a b : Str} (hab : a ≠ b) (hb : ∀ x, x ∈ bs ↔ x ∈ L ∧ x ≠ a ∧ x ≠ b) (ha : a ∈ L) (hbL : b ∈ L) (N : List Str) : Path L a b N ↔ ∃ m, N = a :: (m ++ [b]) ∧ m.Nodup ∧ ∀ x ∈ m, x ∈ bs := by
  constructor
  · rintro ⟨nd, sub, h1, h2⟩
    cases N with
    | nil => cases h1
    | cons x r =>
      cases h1
      rcases List.eq_nil_or_concat r with rfl | ⟨m, y, rfl⟩
      · exact absurd (Option.some.inj h2) hab
      · rw [List.concat_eq_append] at *
        rw [← List.cons_append, List.getLast?_append] at h2
        obtain rfl : y = b := Option.some.inj h2
        have h3 := List.nodup_cons.mp nd
        have h4 := List.nodup_append.mp h3.2
        refine ⟨m, rfl, h4.1, fun z hz => (hb z).mpr ⟨sub z (by simp [hz]), fun e => h3.1 (by rw [← e]; simp [hz]), fun e => h4.2.2 z hz y (by simp) e⟩⟩
  · rintro ⟨m, rfl, h1, h2⟩
    refine ⟨List.nodup_cons.mpr ⟨fun z => ?_, List.nodup_append.mpr ⟨h1, by simp, fun x hx y hy e => ?_⟩⟩, fun x hx => ?_, rfl, by rw [← List.cons_append, List.getLast?_append]; rfl⟩
    · rcases List.mem_append.mp z with z | z
      · exact ((hb a).mp (h2 a z)).2.1 rfl
      · exact hab (List.mem_singleton.mp z)
    · rw [List.mem_singleton.mp hy] at e
      exact ((hb x).mp (h2 x hx)).2.2 e
    · rcases List.mem_cons.mp hx with rfl | hx
      · exact ha
      · rcases List.mem_append.mp hx with hx | hx
        · exact ((hb x).mp (h2 x hx)).1
        · rw [List.mem_singleton.mp hx]; exact hbL
/-- all of them -/
def allMids (bs : List Str) : List (List Str) := (List.range (bs.length + 1)).flatMap (permsS bs)
theorem allMids_mem {bs : List Str} (nd : bs.Nodup) (m : List Str) : m ∈ allMids bs ↔ m.Nodup ∧ ∀ x ∈ m, x ∈ bs := by
  unfold allMids
  rw [List.mem_flatMap]
  constructor
  · rintro ⟨r, _, h⟩
    obtain ⟨h1, h2, _⟩ := (permsS_mem nd r m).mp h
    exact ⟨h1, h2⟩
  · rintro ⟨h1, h2⟩
    exact ⟨m.length, List.mem_range.mpr (Nat.lt_succ_of_le (nodup_leS h1 h2)), (permsS_mem nd _ m).mpr ⟨h1, h2, rfl⟩⟩
/-- the cheapest way -/
structure IsWay (L : List Str) (c : Str → Str → Int) (a b : Str) (N : List Str) : Prop where
  path : Path L a b N
  least : ∀ N', Path L a b N' → PySem.W.dataLt (wkD (wayCost c N') (N'.length : Nat) N') (wkD (wayCost c N) (N.length : Nat) N) = false
theorem IsWay.one {L : List Str} {c : Str → Str → Int} {a b : Str} {N N' : List Str} (h : IsWay L c a b N) (k : IsWay L c a b N') : N = N' := wk_anti (k.least N h.path) (h.least N' k.path)
end
/-! ### the cheapest way -/
theorem walk_pm {xs : List V} {r : Nat} : Walk (Pm.ItPm xs r) (Pm.pk xs r).length (fun _ => True) (fun j H v H' => ∃ T l, v = .ref T ∧ H T = none ∧ (Pm.pk xs r)[j]? = some l ∧ H' = upd H T (.tup l)) :=
  ⟨fun _ _ hi _ => hi, fun _ _ => Nat.le_refl _, fun _ _ _ _ _ _ y => y⟩
theorem pick_few : ((List.range 5).all fun n => (List.range 6).all fun r => decide ((Pm.pickL (List.range n) r).length ≤ 24)) = true := by decide +kernel
theorem perms_few {bs : List Str} {r : Nat} (h : bs.length ≤ 4) (hr : r ≤ 5) : (permsS bs r).length ≤ 24 := by
  have := List.all_eq_true.mp (List.all_eq_true.mp pick_few bs.length (List.mem_range.mpr (by omega))) r (List.mem_range.mpr (by omega))
  unfold permsS
  rw [List.length_map]
  exact of_decide_eq_true this
def midsAt (bs : List Str) (i j : Nat) : List (List Str) := (List.range i).flatMap (permsS bs) ++ (permsS bs i).take j
theorem mids_few {bs : List Str} {i j : Nat} (h : bs.length ≤ 4) (hi : i ≤ 5) : (midsAt bs i j).length ≤ 1000 := by
  have h1 : ∀ k, k ≤ 5 → ((List.range k).flatMap (permsS bs)).length ≤ 24 * k := fun k => by
    induction k with
    | zero => intro _; simp
    | succ k ih =>
      intro hk
      have := ih (by omega)
      have := perms_few (r := k) h (by omega)
      rw [List.range_succ, List.flatMap_append, List.length_append]
      simp only [List.flatMap_cons, List.flatMap_nil, List.append_nil]
      omega
  have := h1 i hi
  have := perms_few (r := i) h hi
  unfold midsAt
  rw [List.length_append, List.length_take]
  omega
theorem mids_next {bs : List Str} {i : Nat} : midsAt bs i (permsS bs i).length = midsAt bs (i + 1) 0 := by
  unfold midsAt
  rw [List.take_length, List.range_succ, List.flatMap_append, List.take_zero, List.append_nil]
  simp
theorem mids_more {bs : List Str} {i j : Nat} {m : List Str} (h : (permsS bs i)[j]? = some m) : midsAt bs i (j + 1) = midsAt bs i j ++ [m] := by
  unfold midsAt
  rw [List.take_succ, h, ← List.append_assoc]
  rfl
/-- a row of the ways -/
def WayV (H0 : Hp) (c : Str → Str → Int) (a b : Str) (H : Hp) (v : V) (m : List Str) : Prop := ∃ t p, v = .ref t ∧ H0 p = none ∧ H t = some (.tup [.int (wayCost c (a :: (m ++ [b]))), .int (((a :: (m ++ [b])).length : Nat) - 1), .ref p]) ∧ H p = some (.lst ((a :: (m ++ [b])).map V.str))
theorem WayV.same {H0 : Hp} {c : Str → Str → Int} {a b : Str} {H H' : Hp} {v : V} {m : List Str} (h : WayV H0 c a b H v m) (s : Same H H') : WayV H0 c a b H' v m := let ⟨t, p, h1, h2, h3, h4⟩ := h; ⟨t, p, h1, h2, s _ _ h3, s _ _ h4⟩
theorem WayV.but {H0 : Hp} {c : Str → Str → Int} {a b : Str} {H : Hp} {v : V} {m : List Str} {D : Addr} {xs ys : List V} (h : WayV H0 c a b H v m) (e : H D = some (.lst xs)) (hD : H0 D ≠ none) : WayV H0 c a b (upd H D (.lst ys)) v m := by
  obtain ⟨t, p, h1, h2, h3, h4⟩ := h
  refine ⟨t, p, h1, h2, ?_, ?_⟩
  · rw [upd_ne (ne_of h3 e fun z => by cases z)]
    exact h3
  · rw [upd_ne fun z => hD (by rw [← z]; exact h2)]
    exact h4
def spWay (U : CuK) (P : Program) (w : World) (kS C : Addr) : Sp := fun vs H Q E => ∃ x G pA fA, ∃ (S : ShopM U) (past : PastM U) (m : Nat) (a b : Str), vs = [.ref x, .str a, .str b] ∧ ShopIs U P w kS H x G pA fA S past m ∧ m ≤ 9000000 ∧ a.length ≤ 8000000 ∧ b.length ≤ 8000000 ∧
  (edOf S.eds a = none → PlainX H C E) ∧ (edOf S.eds a ≠ none → edOf S.eds b = none → PlainX H C E) ∧
  (edOf S.eds a ≠ none → edOf S.eds b ≠ none → ∀ H' G' t p N, KeepM [x, pA, fA] H H' → ExtG H G G' → ShopIs U P w kS H' x G' pA fA S past (m + 36) → IsWay (S.eds.map (·.1)) (costN S.eds) a b N → H p = none → G' p = none → H t = none → H' t = some (.tup [.int (wayCost (costN S.eds) N), .ref p]) → H' p = some (.lst (N.map V.str)) → Q (.ref t) H')
theorem rows_dp {K : PySem.W.Frag} {H0 : Hp} {c : Str → Str → Int} {a b : Str} {H : Hp} : ∀ {vs : List V} {ms : List (List Str)}, Paired (WayV H0 c a b H) vs ms → DpAll K H vs (ms.map ((fun N => wkD (wayCost c N) ((N.length : Nat) + (-1 : Int)) N) ∘ fun m' => a :: (m' ++ [b])))
  | _, _, .nil => .nil
  | _, _, .cons h t => by
    obtain ⟨t1, p1, rfl, _, e1, e2⟩ := h
    exact .cons (wk_dp (SqT.of e1) (SqL.of e2)) (rows_dp t)
section
variable {P : Program} {w : World} {K : PySem.W.Frag} {mg : Str → Option Value} {base : Heap}
theorem okx_way (T : All K mg) (U : CuK) : FnOk P w K mg base (L2.CX P w) 7 T.d_way.f T.d_way.fd ["shop", "one", "other"] (spWay U P w T.k_Shop T.k_NoName) := by
  have G_Shop_names : FnOk P w K mg base CX0 1 T.d_Shop_names.f T.d_Shop_names.fd ["self"] (spNamesS U P w T.k_Shop) := ok_Shop_names T U
  have G_Shop_edition : FnOk P w K mg base (L2.CX P w) 2 T.d_Shop_edition.f T.d_Shop_edition.fd ["self", "name"] (spEditionS U P w T.k_Shop T.k_NoName) := okx_Shop_edition T U
  have G_sizes_of : FnOk P w K mg base CX0 6 T.d_sizes_of.f T.d_sizes_of.fd ["shop"] (spSizes U P w T.k_Shop) := ok_sizes_of T U
  have G_way_by : FnOk P w K mg base CX0 1 T.d_way_by.f T.d_way_by.fd ["names", "sizes"] spWayBy := ok_way_by T
  refine T.d_way.F.okX sc_way (fun vs H Q E h => ?_) (fun cdv A outer s H vs Q E hr h => ?_)
  · obtain ⟨_, _, _, _, _, _, _, _, _, rfl, _⟩ := h
    rfl
  · obtain ⟨x, G, pA, fA, S, past, m, a, b, rfl, I, ml, al, bl, k1, k2, k⟩ := h
    refine ⟨_, (pss_cons 
      (ps_expr (pe_meth (pv 0) T.cl_Shop T.d_Shop_edition.mt G_Shop_edition (hr.mono (by decide)) T.d_Shop_edition.b .nil (passes_call (takes_of rfl rfl rfl rfl) fun _ _ _ _ h => h) (pa_cons (pv 1) pa_nil))) (pss_cons 
      (ps_expr (pe_meth (pv 0) T.cl_Shop T.d_Shop_edition.mt G_Shop_edition (hr.mono (by decide)) T.d_Shop_edition.b .nil (passes_call (takes_of rfl rfl rfl rfl) fun _ _ _ _ h => h) (pa_cons (pv 2) pa_nil))) (pss_cons 
      (ps_if (pt_cmpR op_eq (pv 1) (pv 2) (nomark _)) (pss_one 
      (ps_ret (pe_tup (pa_cons pe_int (pa_cons (pe_lst (pa_cons (pv 1) pa_nil)) pa_nil))))) pss_nil) (pss_cons 
      (ps_set (i := 3) sc_way.nd rfl (Or.inr rfl) (pe_lc (own := [("name", 4)]) (g := gName 4) rfl sc_way.nd (pi_list (pe_meth0 (pv 0) T.cl_Shop T.d_Shop_names.mt G_Shop_names (hr.mono (by decide)) T.d_Shop_names.b .nil pass0)) (blkOk_by (own := [("name", 4)]) (N := ["shop", "one", "other", "between", "name", "sizes", "many", "_", "names", "number", "some"]) (sc := defScope s_way) (by decide +kernel)) (fun _ _ _ _ _ => (pg_name (i := 4) sc_way.nd rfl (Or.inl rfl))) (fun _ _ _ _ _ => (pts_one (pt_cmpR (niSKs (K := K) rfl) (pv 4) (pe_tup (pa_cons (pv 1) (pa_cons (pv 2) pa_nil))) (by with_unfolding_all rfl)))) (fun _ _ _ _ _ => (pv 4)))) (pss_cons 
      (ps_set (i := 5) sc_way.nd rfl (Or.inr rfl) (pe_call G_sizes_of (hr.mono (by decide)) rfl T.d_sizes_of.m T.d_sizes_of.F.kp T.d_sizes_of.b .nil pass0 (pa_cons (pv 0) pa_nil))) (pss_cons 
      (ps_asg (pe_callB (cr_minDp rfl rfl hr.units) (by rfl) T.b_min (by decide +kernel) (pa_cons (pe_lc2 (own := [("number", 9), ("some", 10)]) (vs1 := [10]) (g := gName 9) (g1 := gName 10) (tt := tYes) (tt1 := tYes) rfl sc_way.nd (pi_range1 (by rfl) T.b_range (pa_cons (pe_op op_add (pe_callB call_len (by rfl) T.b_len PySem.boot_len (pa_cons (pv 3) pa_nil)) pe_int) pa_nil)) (blkOk_by (own := [("number", 9), ("some", 10)]) (N := ["shop", "one", "other", "between", "name", "sizes", "many", "_", "names", "number", "some"]) (sc := defScope s_way) (by decide +kernel)) (by decide) (fun _ _ _ _ _ => (pg_name (i := 9) sc_way.nd rfl (Or.inl rfl))) (fun _ _ _ _ _ => pts_nil) (fun _ _ _ _ _ => (Pm.pi_perm (K := K) rfl rfl T.c_permutations (pa_cons (pv 3) (pa_cons (pv 9) pa_nil)))) (fun _ _ _ _ _ => (pg_name (i := 10) sc_way.nd rfl (Or.inl rfl))) (fun _ _ _ _ _ => pts_nil) (fun _ _ _ _ _ => (pe_call G_way_by (hr.mono (by decide)) rfl T.d_way_by.m T.d_way_by.F.kp T.d_way_by.b .nil pass0 (pa_cons (pe_lst (pa_cons (pv 1) (pa_starKK (K := K) rfl (pv 10) (pa_cons (pv 2) pa_nil)))) (pa_cons (pv 5) pa_nil))))) pa_nil)) (pg_tup rfl (pgs_cons (pg_name (i := 6) sc_way.nd rfl (Or.inl rfl)) (pgs_cons (pg_name (i := 7) sc_way.nd rfl (Or.inl rfl)) (pgs_cons (pg_name (i := 8) sc_way.nd rfl (Or.inl rfl)) pgs_nil))))) (pss_one 
      (ps_ret (pe_tup (pa_cons (pv 6) (pa_cons (pv 8) pa_nil))))))))))), ?_⟩
    obtain ⟨dx, e, l, c, hob, M⟩ := id I.ob
    refine ⟨_, rfl, x, dx, _, rfl, hob, rfl, _, rfl, x, G, pA, fA, S, past, m, a, rfl, I, al, fun o ho => ?_, k1⟩
    refine ⟨_, rfl, x, dx, _, rfl, hob, rfl, _, rfl, x, G, pA, fA, S, past, m, b, rfl, I, bl, fun n hn => ?_, k2 (by rw [ho]; exact fun z => nomatch z)⟩
    have eA : edOf S.eds a ≠ none := by rw [ho]; exact fun z => nomatch z
    have eB : edOf S.eds b ≠ none := by rw [hn]; exact fun z => nomatch z
    have mA : a ∈ S.eds.map (·.1) := Classical.byContradiction fun z => eA (edOf_none.mpr z)
    have mB : b ∈ S.eds.map (·.1) := Classical.byContradiction fun z => eB (edOf_none.mpr z)
    refine ⟨_, rfl, _, rfl, rfl, _, rfl, ?_⟩
    by_cases hab : a = b
    · subst hab
      rw [decide_eq_true rfl]
      refine iteT ?_
      refine ⟨_, rfl, sizeS (by show 1 ≤ 100000; decide), fun p hp => ⟨sizeS (by show 2 ≤ 100000; decide), fun t ht => ?_⟩⟩
      have s2 : Same H (upd (upd H p (.lst [.str a])) t (.tup [.int 0, .ref p])) := (Same.new hp).trans (Same.new ht)
      have gp : G p = none := by
        cases e : G p with
        | none => rfl
        | some u => rw [I.sub p u e] at hp; cases hp
      refine k eA eB _ G t p [a] (KeepM.of s2) (ExtG.refl _ _) ((I.same s2).up (by omega)) ⟨Path.self mA, fun N' hN => by rw [hN.loop]; exact PySem.W.dataLt_self _⟩ hp gp ((Live.of (Same.new hp)).free ht) upd_same ?_
      exact (Same.new ht) _ _ upd_same
    · rw [decide_eq_false fun z => hab (by cases z; rfl)]
      refine iteF ?_
      refine ⟨_, rfl, x, dx, _, rfl, hob, rfl, x, G, pA, fA, S, past, m, rfl, I, fun p0 ys hp0 pm so => ?_⟩
      have ny : ys.length ≤ 6 := by rw [pm.length_eq, List.length_map]; exact I.few
      have nd : ys.Nodup := pm.nodup_iff.mpr I.nd
      have s1 : Same H (upd H p0 (.lst (ys.map V.str))) := Same.new hp0
      have e1 : (upd H p0 (.lst (ys.map V.str))) p0 = some (.lst (ys.map V.str)) := upd_same
      generalize upd H p0 (.lst (ys.map V.str)) = H1 at s1 e1
      refine ⟨p0, rfl, ⟨_, SqL.of e1⟩, fun D hD => ?_⟩
      let f : Str → Bool := fun z => !decide (z ∈ [a, b])
      refine lc_it (walk_list (K := K) (xs := ys.map V.str)) (fun i H2 => Same H1 H2 ∧ H2 D = some (.lst (((ys.take i).filter f).map V.str))) ⟨Same.new hD, upd_same⟩ (fun i H2 _ h => SqL.of (h.1 _ _ e1)) (fun i xv H2 H2' hi h y => ?_) (fun H2 h => ?_)
      · obtain ⟨rfl, hx⟩ := y
        rw [List.getElem?_map] at hx
        obtain ⟨z, hz, rfl⟩ := Option.map_eq_some_iff.mp hx
        refine ⟨rfl, _, rfl, _, rfl, _, rfl, sizeS (by show 2 ≤ 100000; decide), fun t ht => ?_⟩
        refine ⟨t, [.str a, .str b], rfl, .inr (SqT.of upd_same), rfl, rfl, _, rfl, ?_⟩
        have s3 : Same H1 (upd H2' t (.tup [.str a, .str b])) := h.1.trans (Same.new ht)
        have d3 : (upd H2' t (.tup [.str a, .str b])) D = some (.lst (((ys.take i).filter f).map V.str)) := Same.new ht _ _ h.2
        generalize upd H2' t (.tup [.str a, .str b]) = H3 at s3 d3
        have ez : (!inV (.str z) [V.str a, V.str b]) = f z := by rw [show [V.str a, V.str b] = [a, b].map V.str from rfl, inV_strs]
        have tk : (ys.take (i + 1)).filter f = (ys.take i).filter f ++ (if f z = true then [z] else []) := by
          rw [List.take_succ, hz, List.filter_append]
          show _ ++ List.filter f [z] = _
          rw [List.filter_cons]
          rfl
        show if (!inV (.str z) [V.str a, V.str b]) = true then _ else _
        rw [ez]
        rw [tk]
        by_cases fz : f z = true
        · rw [if_pos fz, if_pos fz]
          have hle : ((ys.take i).filter f).length ≤ 6 := Nat.le_trans (List.length_filter_le _ _) (by rw [List.length_take]; omega)
          refine ⟨_, rfl, _, d3, sizeL2 (by rw [List.length_map]; omega), fun u o e => by rw [upd_ne (ne_of_none e hD)]; exact s3 _ _ e, ?_⟩
          rw [upd_same, List.map_append]
          rfl
        · rw [if_neg fz, if_neg fz, List.append_nil]
          exact ⟨s3, d3⟩
      · rw [List.length_map, List.take_length] at h
        generalize hbs : ys.filter f = bs at h
        have bm : ∀ z, z ∈ bs ↔ z ∈ ys ∧ z ≠ a ∧ z ≠ b := fun z => by
          rw [← hbs, List.mem_filter]
          show z ∈ ys ∧ (!decide (z ∈ [a, b])) = true ↔ _
          simp
        have bnd : bs.Nodup := by rw [← hbs]; exact nd.filter _
        have yA : a ∈ ys := pm.mem_iff.mpr mA
        have yB : b ∈ ys := pm.mem_iff.mpr mB
        have b4 : bs.length ≤ 4 := by
          have := nodup_leS (l := a :: b :: bs) (m := ys) (List.nodup_cons.mpr ⟨fun z => by
            rcases List.mem_cons.mp z with z | z
            · exact hab z
            · exact ((bm a).mp z).2.1 rfl, List.nodup_cons.mpr ⟨fun z => ((bm b).mp z).2.2 rfl, bnd⟩⟩) (fun z hz => by
            rcases List.mem_cons.mp hz with rfl | hz
            · exact yA
            · rcases List.mem_cons.mp hz with rfl | hz
              · exact yB
              · exact ((bm z).mp hz).1)
          simp only [List.length_cons] at this
          omega
        obtain ⟨sD, dD⟩ := h
        have s02 : Same H H2 := s1.trans sD
        refine ⟨_, rfl, x, G, pA, fA, S, past, m, rfl, I.same s02, ml, fun H3 G3 d kvs q3 E3 I3 hd0 hd gd cd => ?_⟩
        have nD : D ≠ x ∧ D ≠ pA ∧ D ≠ fA := by
          have hDH := (Live.of s1).free hD
          exact ⟨fun z => ne_free I.lx hDH z.symm, fun z => ne_free I.lp hDH z.symm, fun z => ne_free I.lf hDH z.symm⟩
        have dD3 : H3 D = some (.lst (bs.map V.str)) := q3 _ _ (by simp [nD]) dD
        refine ⟨_, rfl, _, bs.length, rfl, .inl ⟨_, SqL.of dD3, by rw [List.length_map]⟩, _, _, rfl, rfl, _, rfl, by omega, by omega, fun C hC => ?_⟩
        have en : ((bs.length : Int) + 1).toNat = bs.length + 1 := by omega
        rw [en]
        have s4 : Same H3 (upd H3 C (.lst [])) := Same.new hC
        have c4 : (upd H3 C (.lst [])) C = some (.lst []) := upd_same
        have u4 : ∀ u, u ≠ C → (upd H3 C (.lst [])) u = H3 u := fun u hu => upd_ne hu
        generalize upd H3 C (.lst []) = H4 at s4 c4 u4
        have c40 : H4 C ≠ none := by rw [c4]; exact fun z => nomatch z
        let cc := costN S.eds
        let PV : Nat → Nat → Hp → Prop := fun i j H5 => Same H3 H5 ∧ ∃ vs, H5 C = some (.lst vs) ∧ Paired (WayV H4 cc a b H5) vs (midsAt bs i j)
        refine two_it (walk_range (lo := 0) (n := bs.length + 1)) (fun i H5 => PV i 0 H5) ⟨s4, [], c4, .nil⟩ (fun _ _ _ _ => trivial) (fun i xv H5 H5' hi h y => ?_) (fun H5 h => ?_)
        · obtain ⟨rfl, rfl⟩ := y
          refine ⟨rfl, _, rfl, _, rfl, D, bs.map V.str, i, by show [V.ref D, V.int (0 + (i : Int))] = _; rw [Int.zero_add], SqL.of (h.1 _ _ dD3), by rw [List.length_map]; omega, by rw [List.length_map]; omega, ?_⟩
          refine two_it walk_pm (fun j H6 => PV i j H6) h (fun _ _ _ _ => trivial) (fun j xv H6 H6' hj h y => ?_) (fun H6 h => ?_)
          · obtain ⟨t, l, rfl, ht, hl, rfl⟩ := y
            rw [pk_strs, List.getElem?_map] at hl
            obtain ⟨m', hm, rfl⟩ := Option.map_eq_some_iff.mp hl
            clear hl
            have mm := (permsS_mem bnd i m').mp (List.mem_of_getElem? hm)
            obtain ⟨h1, vs, h2, h3⟩ := h
            have P1 : Path ys a b (a :: (m' ++ [b])) := (path_mid hab bm yA yB _).mpr ⟨m', rfl, mm.1, mm.2.1⟩
            have nl : (a :: (m' ++ [b])).length ≤ 6 := Nat.le_trans (nodup_leS P1.nd P1.sub) ny
            have s7 : Same H6 (upd H6 t (.tup (m'.map V.str))) := Same.new ht
            have t7 : (upd H6 t (.tup (m'.map V.str))) t = some (.tup (m'.map V.str)) := upd_same
            generalize upd H6 t (.tup (m'.map V.str)) = H7 at s7 t7
            refine ⟨rfl, _, rfl, _, rfl, t, _, rfl, .inl (SqT.of t7), _, rfl, sizeS (by
              simp only [List.length_cons, List.length_append, List.length_map] at nl ⊢
              omega), fun q hq => ⟨_, rfl, ?_⟩⟩
            have en2 : V.str a :: (m'.map V.str ++ [V.str b]) = (a :: (m' ++ [b])).map V.str := by simp
            rw [en2]
            have s8 : Same H7 (upd H7 q (.lst ((a :: (m' ++ [b])).map V.str))) := Same.new hq
            have q8 : (upd H7 q (.lst ((a :: (m' ++ [b])).map V.str))) q = some (.lst ((a :: (m' ++ [b])).map V.str)) := upd_same
            have qC : q ≠ C := fun z => by rw [z, s7 _ _ h2] at hq; cases hq
            have fq : H4 q = none := by
              rw [u4 q qC]
              cases e : H3 q with
              | none => rfl
              | some u => rw [s7 _ _ (h1 _ _ e)] at hq; cases hq
            generalize upd H7 q (.lst ((a :: (m' ++ [b])).map V.str)) = H8 at s8 q8
            refine ⟨q, d, _, kvs, cc, rfl, q8, s8 _ _ (s7 _ _ (h1 _ _ hd)), by omega, fun k' a' b' ha' hb' => ?_, fun H9 t9 s9 ft e9 => ?_⟩
            · have la := (List.getElem?_eq_some_iff.mp ha')
              have lb := (List.getElem?_eq_some_iff.mp hb')
              refine cd a' b' (pm.mem_iff.mp (P1.sub _ (List.mem_of_getElem? ha'))) (pm.mem_iff.mp (P1.sub _ (List.mem_of_getElem? hb'))) fun z => ?_
              obtain ⟨l1, e1⟩ := la
              obtain ⟨l2, e2⟩ := lb
              rw [← e1, ← e2] at z
              have := (List.getElem_inj P1.nd).mp z
              omega
            · have s69 : Same H6 H9 := (s7.trans s8).trans s9
              refine ⟨vs, s69 _ _ h2, sizeL2 ?_, fun u o e => by rw [upd_ne (ne_of_none e hC)]; exact s69 _ _ (h1 _ _ e), _, upd_same, ?_⟩
              · rw [Paired.length h3]
                have := mids_few (i := i) (j := j) b4 (by omega)
                omega
              · rw [mids_more hm]
                have z : WayV H4 cc a b H9 (.ref t9) m' := ⟨t9, q, rfl, fq, e9, s9 _ _ q8⟩
                exact Paired.snoc (pairedMap h3 fun _ _ w => (w.same s69).but (s69 _ _ h2) c40) (z.but (s69 _ _ h2) c40)
          · rw [pk_strs, List.length_map] at h
            obtain ⟨h1, vs, h2, h3⟩ := h
            rw [mids_next] at h3
            exact ⟨h1, vs, h2, h3⟩
        · obtain ⟨h1, vs, h2, h3⟩ := h
          have e0 : midsAt bs (bs.length + 1) 0 = allMids bs := by unfold midsAt allMids; rw [List.take_zero, List.append_nil]
          rw [e0] at h3
          let NN : List (List Str) := (allMids bs).map fun m' => a :: (m' ++ [b])
          have pathN : ∀ N, N ∈ NN ↔ Path ys a b N := fun N => by
            rw [path_mid hab bm yA yB, List.mem_map]
            constructor
            · rintro ⟨m', h4, rfl⟩
              exact ⟨m', rfl, (allMids_mem bnd m').mp h4⟩
            · rintro ⟨m', rfl, h4⟩
              exact ⟨m', (allMids_mem bnd m').mpr h4, rfl⟩
          have rows : DpAll K H5 vs (NN.map fun N => wkD (wayCost cc N) ((N.length : Nat) + (-1 : Int)) N) := by
            show DpAll K H5 vs (((allMids bs).map fun m' => a :: (m' ++ [b])).map _)
            rw [List.map_map]
            exact rows_dp h3
          refine ⟨C, vs, _, rfl, SqL.of h2, rows, ?_, wk_alikeAll _ _ _, wk_depthAll _ _ _, fun i v dd hv hd' hmin => ?_⟩
          · have h4 : [a, b] ∈ NN := (pathN _).mpr ((path_mid hab bm yA yB _).mpr ⟨[], rfl, List.nodup_nil, fun _ z => absurd z (by simp)⟩)
            exact fun z => by
              have := List.map_eq_nil_iff.mp z
              rw [this] at h4
              exact absurd h4 (by simp)
          · obtain ⟨m', hm, t1, p1, rfl, fp, e1, e2⟩ := pairedAt h3 hv
            have hN : (a :: (m' ++ [b])) ∈ NN := List.mem_map.mpr ⟨m', List.mem_of_getElem? hm, rfl⟩
            have hdd : dd = wkD (wayCost cc (a :: (m' ++ [b]))) (((a :: (m' ++ [b])).length : Nat) + (-1 : Int)) (a :: (m' ++ [b])) := by
              rw [List.getElem?_map, List.getElem?_map, hm] at hd'
              exact (Option.some.inj hd').symm
            subst hdd
            have way : IsWay (S.eds.map (·.1)) cc a b (a :: (m' ++ [b])) := ⟨((pathN _).mp hN).perm fun z => pm.mem_iff, fun N' hN' => by
              have h4 := hmin _ (List.mem_map.mpr ⟨N', (pathN N').mpr (hN'.perm fun z => pm.mem_iff.symm), rfl⟩)
              rw [wk_up] at h4
              exact h4⟩
            refine ⟨t1, _, rfl, SqT.of e1, rfl, _, _, rfl, _, _, rfl, _, _, rfl, rfl, _, rfl, _, rfl, sizeS (by show 2 ≤ 100000; decide), fun t ht => ?_⟩
            have L23 : Live H2 H3 := KeepM.live q3 fun u hu => by
              simp only [List.mem_cons, List.not_mem_nil, or_false] at hu
              rcases hu with rfl | rfl | rfl
              · exact I3.lx
              · exact I3.lp
              · exact I3.lf
            have L3 : Live H H3 := Live.trans (Live.of s02) L23
            have f3 : H3 p1 = none := (Live.of s4).free fp
            have g3 : G3 p1 = none := by
              cases e : G3 p1 with
              | none => rfl
              | some u => rw [I3.sub _ _ e] at f3; cases f3
            exact k eA eB _ G3 t p1 _ ((KeepM.of s02).trans (q3.trans (KeepM.of (h1.trans (Same.new ht))))) ((ExtG.refl H G).trans (Live.of s02) E3) (I3.same (h1.trans (Same.new ht))) way (L3.free f3) g3 ((Live.trans L3 (Live.of h1)).free ht) upd_same (Same.new ht _ _ e2)
end
/-! ### what is reached by small patches -/
inductive FarR (L : List Str) (c : Str → Str → Int) (most : Int) (a : Str) : Str → Prop
  | self : FarR L c most a a
  | step {x y : Str} : FarR L c most a x → y ∈ L → x ≠ y → c x y ≤ most → FarR L c most a y
def spFar (U : CuK) (P : Program) (w : World) (kS C1 C2 : Addr) : Sp := fun vs H Q E => ∃ x G pA fA, ∃ (S : ShopM U) (past : PastM U) (m : Nat) (a : Str) (mz : Int), vs = [.ref x, .str a, .int mz] ∧ ShopIs U P w kS H x G pA fA S past m ∧ m ≤ 9000000 ∧ a.length ≤ 8000000 ∧ -1000000 ≤ mz ∧ mz ≤ 1000000 ∧
  (edOf S.eds a = none → PlainX H C1 E) ∧ (edOf S.eds a ≠ none → ¬ (0 ≤ mz ∧ mz ≤ 10000) → PlainX H C2 E) ∧
  (edOf S.eds a ≠ none → 0 ≤ mz ∧ mz ≤ 10000 → ∀ H' G' p zs, KeepM [x, pA, fA] H H' → ExtG H G G' → ShopIs U P w kS H' x G' pA fA S past (m + 36) → sortedS zs = true → zs.Nodup → (∀ y, y ∈ zs ↔ FarR (S.eds.map (·.1)) (costN S.eds) mz a y) → H p = none → G' p = none → H' p = some (.lst (zs.map V.str)) → Q (.ref p) H')
section
variable {P : Program} {w : World} {K : PySem.W.Frag} {mg : Str → Option Value} {base : Heap}
theorem okx_far (T : All K mg) (U : CuK) : FnOk P w K mg base (L2.CX P w) 7 T.d_far.f T.d_far.fd ["shop", "name", "most"] (spFar U P w T.k_Shop T.k_NoName T.k_BadCount) := by
  have G_Shop_names : FnOk P w K mg base CX0 1 T.d_Shop_names.f T.d_Shop_names.fd ["self"] (spNamesS U P w T.k_Shop) := ok_Shop_names T U
  have G_Shop_edition : FnOk P w K mg base (L2.CX P w) 2 T.d_Shop_edition.f T.d_Shop_edition.fd ["self", "name"] (spEditionS U P w T.k_Shop T.k_NoName) := okx_Shop_edition T U
  have G_sizes_of : FnOk P w K mg base CX0 6 T.d_sizes_of.f T.d_sizes_of.fd ["shop"] (spSizes U P w T.k_Shop) := ok_sizes_of T U
  have G_is_number : FnOk P w K mg base CX0 1 T.d_is_number.f T.d_is_number.fd ["what", "least", "most"] spIsNum := ok_is_number T
  refine T.d_far.F.okX sc_far (fun vs H Q E h => ?_) (fun cdv A outer s H vs Q E hr h => ?_)
  · obtain ⟨_, _, _, _, _, _, _, _, _, rfl, _⟩ := h
    rfl
  · obtain ⟨x, G, pA, fA, S, past, m, a, mz, rfl, I, ml, al, z1, z2, k1, k2, k⟩ := h
    refine ⟨_, (pss_cons 
      (ps_expr (pe_meth (pv 0) T.cl_Shop T.d_Shop_edition.mt G_Shop_edition (hr.mono (by decide)) T.d_Shop_edition.b .nil (passes_call (takes_of rfl rfl rfl rfl) fun _ _ _ _ h => h) (pa_cons (pv 1) pa_nil))) (pss_cons 
      (ps_if (pt_not (pt_val (pe_call G_is_number (hr.mono (by decide)) rfl T.d_is_number.m T.d_is_number.F.kp T.d_is_number.b .nil pass0 (pa_cons (pv 2) (pa_cons pe_int (pa_cons (pe_glob (v := .int 10000) rfl T.c_MOST_BYTES ⟨_, rfl⟩) pa_nil)))))) (pss_one (ps_raise rfl (takes_of rfl rfl rfl rfl) (SkE.pmk_own1 PySem.F.excBase_ValueError T.o_BadCount.xC T.m_BadCount T.o_BadCount.kC (raises_own T.o_BadCount.bC T.o_BadCount.tC) rfl (pe_joined (PJ.cons (pe_fmt (pv 2)) (PJ.cons pe_str PJ.nil)))))) pss_nil) (pss_cons 
      (ps_set (i := 3) sc_far.nd rfl (Or.inl rfl) (pe_call G_sizes_of (hr.mono (by decide)) rfl T.d_sizes_of.m T.d_sizes_of.F.kp T.d_sizes_of.b .nil pass0 (pa_cons (pv 0) pa_nil))) (pss_cons 
      (ps_set (i := 4) sc_far.nd rfl (Or.inl rfl) (pe_lst (pa_cons (pv 1) pa_nil))) (pss_cons 
      (ps_set (i := 5) sc_far.nd rfl (Or.inl rfl) pe_int) (pss_cons 
      (ps_while (passes_of rfl) (pt_cmpR op_lt (pv 5) (pe_callB call_len (by rfl) T.b_len PySem.boot_len (pa_cons (pv 4) pa_nil)) (nomark _)) (pss_cons 
      (ps_for (passes_of rfl) rfl (pi_list (pe_meth0 (pv 0) T.cl_Shop T.d_Shop_names.mt G_Shop_names (hr.mono (by decide)) T.d_Shop_names.b .nil pass0)) (pg_name (i := 6) sc_far.nd rfl (Or.inl rfl)) (pss_one 
      (ps_if (PW.pt (pw_and (pt_cmpR op_notIn_seq (pv 6) (pv 4) (by with_unfolding_all rfl)) (pw_and1 (pt_cmpR op_le (pe_dget (hu_of hr) (pv 3) (pe_tup (pa_cons (pe_ix ix_list (pv 4) (pv 5) (fun _ _ => rfl)) (pa_cons (pv 6) pa_nil))) (fun _ _ => rfl)) (pv 2) (nomark _))))) (pss_one 
      (ps_expr (pe_bm PySem.F.plainAttrs_list PySem.F.slot_list_append PySem.F.type_list_append mt_append (pv 4) (pa_cons (pv 6) pa_nil)))) pss_nil))) (pss_one 
      (ps_aug (i := 5) sc_far.nd rfl (Or.inl rfl) pe_int ip_add)))) (pss_one 
      (ps_ret (pe_callB cr_sortedS (by rfl) T.b_sorted (by decide +kernel) (pa_cons (pv 4) pa_nil)))))))))), ?_⟩
    obtain ⟨dx, e, l, c, hob, M⟩ := id I.ob
    refine ⟨_, rfl, x, dx, _, rfl, hob, rfl, _, rfl, x, G, pA, fA, S, past, m, a, rfl, I, al, fun o ho => ?_, k1⟩
    have eA : edOf S.eds a ≠ none := by rw [ho]; exact fun z => nomatch z
    have mA : a ∈ S.eds.map (·.1) := Classical.byContradiction fun z => eA (edOf_none.mpr z)
    refine ⟨_, rfl, mz, 0, 10000, rfl, _, rfl, ?_⟩
    by_cases hz : 0 ≤ mz ∧ mz ≤ 10000
    · rw [decide_eq_true hz.1, decide_eq_true hz.2]
      refine iteF ?_
      refine ⟨_, rfl, x, G, pA, fA, S, past, m, rfl, I, ml, fun H3 G3 d kvs q3 E3 I3 hd0 hd gd cd => ?_⟩
      refine ⟨_, rfl, sizeS (by show 1 ≤ 100000; decide), fun F hF => ?_⟩
      have s4 : Same H3 (upd H3 F (.lst [.str a])) := Same.new hF
      have c4 : (upd H3 F (.lst [.str a])) F = some (.lst [.str a]) := upd_same
      have I4 := I3.same s4
      generalize upd H3 F (.lst [.str a]) = H4 at s4 c4 I4
      let L := S.eds.map (·.1)
      let cc := costN S.eds
      have L6 : L.length ≤ 6 := by show (S.eds.map (·.1)).length ≤ 6; rw [List.length_map]; exact I.few
      have gF : G3 F = none := by
        cases e : G3 F with
        | none => rfl
        | some u => rw [I3.sub _ _ e] at hF; cases hF
      have nF : F ≠ x ∧ F ≠ pA ∧ F ≠ fA := ⟨fun z => ne_free I3.lx hF z.symm, fun z => ne_free I3.lp hF z.symm, fun z => ne_free I3.lf hF z.symm⟩
      have nd0 : d ≠ F := fun z => by rw [z, hF] at hd; cases hd
      refine while_by (fun σ H1 => ∃ (k : Nat) (fs : List Str) (oth : Option V), σ = [some (.ref x), some (.str a), some (.int mz), some (.ref d), some (.ref F), some (.int (k : Int)), oth] ∧ k ≤ fs.length ∧ KeepM [F] H4 H1 ∧ H1 F = some (.lst (fs.map V.str)) ∧ fs.Nodup ∧ (∀ y ∈ fs, y ∈ L ∧ FarR L cc mz a y) ∧ a ∈ fs ∧
          ∀ (i : Nat) (x' : Str), i < k → fs[i]? = some x' → ∀ y ∈ L, x' ≠ y → cc x' y ≤ mz → y ∈ fs)
        (fun σ _ => match σ with | _ :: _ :: _ :: _ :: _ :: some (.int m) :: _ => 7 - m.toNat | _ => 0) ⟨0, [a], _, rfl, by simp, fun _ _ _ h => h, c4, by simp, fun y hy => by rw [List.mem_singleton.mp hy]; exact ⟨mA, .self⟩, by simp, fun i x' hi => by omega⟩ ?_ ?_
      · rintro σ H1 ⟨j, fs, oth, rfl, jl, s1, hu, nd, mem, ma, cl⟩
        have I5 : ShopIs U P w T.k_Shop H1 x G3 pA fA S past (m + 36) := I4.keep fun u o hu e => s1 u o (fun z => by
          rw [List.mem_singleton.mp z] at hu
          rcases hu with z | z | z | z
          · exact nF.1 z
          · exact nF.2.1 z
          · exact nF.2.2 z
          · exact z gF) e
        have fl : fs.length ≤ 6 := Nat.le_trans (nodup_leS nd fun y hy => (mem y hy).1) L6
        refine ⟨_, rfl, _, rfl, _, fs.length, rfl, .inl ⟨_, SqL.of hu, by rw [List.length_map]⟩, _, _, rfl, rfl, _, rfl, ite2 (fun h => ?_) fun h => ?_⟩
        · have h : (j : Int) < fs.length := of_decide_eq_true h
          have lt : j < fs.length := by omega
          have ex := List.getElem?_eq_getElem lt
          generalize fs[j] = cur at ex
          have mc := mem cur (List.mem_of_getElem? ex)
          obtain ⟨dx5, e5, l5, c5, hob5, _⟩ := id I5.ob
          refine ⟨_, rfl, x, dx5, _, rfl, hob5, rfl, x, G3, pA, fA, S, past, _, rfl, I5, fun p0 zs hp0 pm so => ?_⟩
          have s6 : Same H1 (upd H1 p0 (.lst (zs.map V.str))) := Same.new hp0
          have e6 : (upd H1 p0 (.lst (zs.map V.str))) p0 = some (.lst (zs.map V.str)) := upd_same
          have nFp : p0 ≠ F := fun z => by rw [z, hu] at hp0; cases hp0
          generalize upd H1 p0 (.lst (zs.map V.str)) = H6 at s6 e6
          refine ⟨p0, rfl, ⟨_, SqL.of e6⟩, ?_⟩
          refine for_it (walk_list (K := K) (xs := zs.map V.str)) (fun i σ H7 => ∃ (fs' : List Str) (oth : Option V), σ = [some (.ref x), some (.str a), some (.int mz), some (.ref d), some (.ref F), some (.int (j : Int)), oth] ∧ (∃ r, fs' = fs ++ r) ∧ KeepM [F] H6 H7 ∧ H7 F = some (.lst (fs'.map V.str)) ∧ fs'.Nodup ∧ (∀ y ∈ fs', y ∈ L ∧ FarR L cc mz a y) ∧
            ∀ (i' : Nat) (y : Str), i' < i → zs[i']? = some y → cur ≠ y → cc cur y ≤ mz → y ∈ fs') ⟨fs, oth, rfl, ⟨[], by simp⟩, fun _ _ _ h => h, s6 _ _ hu, nd, mem, fun i' y hi => by omega⟩ (fun i σ H7 _ h => ?_) (fun i xv σ H7 H7' hi h y => ?_) (fun σ H7 h => ?_)
          · obtain ⟨_, _, _, _, q, _⟩ := h
            exact SqL.of (q _ _ (by simpa using nFp) e6)
          · obtain ⟨rfl, hx⟩ := y
            rw [List.getElem?_map] at hx
            obtain ⟨y, hy, rfl⟩ := Option.map_eq_some_iff.mp hx
            clear hx
            obtain ⟨fs', oth', rfl, ⟨r, hr⟩, q7, h7, nd', mem', cl'⟩ := h
            refine ⟨_, rfl, _, rfl, F, _, rfl, .inl (SqL.of h7), rfl, flat_strs _, _, rfl, ?_⟩
            show if (!inV (.str y) (fs'.map V.str)) = true then _ else _
            rw [inV_strs]
            have yL : y ∈ L := pm.mem_iff.mp (List.mem_of_getElem? hy)
            have old : ∀ (i' : Nat) (y' : Str), i' < i + 1 → zs[i']? = some y' → (i' = i → y' = y) := fun i' y' _ h1 h2 => by
              rw [h2, hy] at h1
              exact (Option.some.inj h1).symm
            by_cases hm : y ∈ fs'
            · rw [decide_eq_true hm]
              refine iteF (iteF ?_)
              refine ⟨fs', _, rfl, ⟨r, hr⟩, q7, h7, nd', mem', fun i' y' hi' h1 h2 h3 => ?_⟩
              by_cases ei : i' = i
              · rw [old i' y' hi' h1 ei]; exact hm
              · exact cl' i' y' (by omega) h1 h2 h3
            · rw [decide_eq_false hm]
              refine iteT ?_
              have excur : fs'[j]? = some cur := by rw [hr, List.getElem?_append_left lt]; exact ex
              have mcur : cur ∈ fs' := List.mem_of_getElem? excur
              have hne : cur ≠ y := fun z => hm (by rw [← z]; exact mcur)
              refine ⟨_, rfl, _, rfl, _, rfl, F, _, _, _, rfl, rfl, SqL.of h7, at_of (j := j) rfl (by rw [List.getElem?_map, excur]; rfl), _, rfl, sizeS (by show 2 ≤ 100000; decide), fun t ht => ?_⟩
              have s8 : Same H7' (upd H7' t (.tup [.str cur, .str y])) := Same.new ht
              have t8 : (upd H7' t (.tup [.str cur, .str y])) t = some (.tup [.str cur, .str y]) := upd_same
              generalize upd H7' t (.tup [.str cur, .str y]) = H8 at s8 t8
              have d8 : H8 d = some (.dT kvs) := s8 _ _ (q7 _ _ (by simpa using nd0) (s6 _ _ (s1 _ _ (by simpa using nd0) (s4 _ _ hd))))
              have g := DGet.t (k := [.inr cur, .inr y]) d8 t8
              rw [cd cur y mc.1 yL hne] at g
              have q8 : KeepM [F] H6 H8 := q7.trans (KeepM.of s8)
              refine ⟨d, _, rfl, g, _, rfl, _, _, rfl, rfl, _, rfl, ite2 (fun h => ?_) fun h => ?_⟩
              · have h : cc cur y ≤ mz := of_decide_eq_true h
                refine ⟨_, rfl, .inl ⟨rfl, _, SqL.of (s8 _ _ h7)⟩, _, rfl, F, _, _, rfl, rfl, s8 _ _ h7, sizeL2 (by have := nodup_leS nd' fun y hy => (mem' y hy).1; rw [List.length_map]; omega), ?_⟩
                refine ⟨fs' ++ [y], _, rfl, ⟨r ++ [y], by rw [hr, List.append_assoc]⟩, q8.trans (KeepM.upd (by simp)), by rw [upd_same, List.map_append]; rfl, ?_, ?_, fun i' y' hi' h1 h2 h3 => ?_⟩
                · exact List.nodup_append.mpr ⟨nd', by simp, fun u hu v hv e => hm (by rw [← List.mem_singleton.mp hv, ← e]; exact hu)⟩
                · intro u hu
                  rcases List.mem_append.mp hu with hu | hu
                  · exact mem' u hu
                  · rw [List.mem_singleton.mp hu]
                    exact ⟨yL, mc.2.step yL hne h⟩
                · by_cases ei : i' = i
                  · rw [old i' y' hi' h1 ei]; simp
                  · exact List.mem_append_left _ (cl' i' y' (by omega) h1 h2 h3)
              · have h : ¬ cc cur y ≤ mz := of_decide_eq_false (Bool.not_eq_true _ ▸ h)
                refine ⟨fs', _, rfl, ⟨r, hr⟩, q8, s8 _ _ h7, nd', mem', fun i' y' hi' h1 h2 h3 => ?_⟩
                by_cases ei : i' = i
                · rw [old i' y' hi' h1 ei] at h3
                  exact absurd h3 h
                · exact cl' i' y' (by omega) h1 h2 h3
          · obtain ⟨fs', oth', rfl, ⟨r, hr⟩, q7, h7, nd', mem', cl'⟩ := h
            rw [List.length_map] at cl'
            have fl' : fs'.length ≤ 6 := Nat.le_trans (nodup_leS nd' fun y hy => (mem' y hy).1) L6
            have hlen : fs.length ≤ fs'.length := by rw [hr, List.length_append]; omega
            refine ⟨_, rfl, _, _, rfl, rfl, ⟨j + 1, fs', oth', by rw [show ((j + 1 : Nat) : Int) = (j : Int) + 1 by omega]; rfl, by omega, (s1.trans (KeepM.of s6)).trans q7, h7, nd', mem', by rw [hr]; exact List.mem_append_left _ ma, fun i x' hi hx y hy h1 h2 => ?_⟩, ?_⟩
            · by_cases ei : i = j
              · subst ei
                have e : x' = cur := by
                  rw [hr, List.getElem?_append_left lt, ex] at hx
                  exact (Option.some.inj hx).symm
                subst e
                obtain ⟨i', hi'⟩ := List.mem_iff_getElem?.mp (pm.mem_iff.mpr hy)
                exact cl' i' y (List.getElem?_eq_some_iff.mp hi').1 hi' h1 h2
              · rw [hr, List.getElem?_append_left (by omega)] at hx
                rw [hr]
                exact List.mem_append_left _ (cl i x' (by omega) hx y hy h1 h2)
            · show 7 - ((j : Int) + 1).toNat < 7 - (j : Int).toNat
              omega
        · have h : ¬ (j : Int) < fs.length := of_decide_eq_false (Bool.not_eq_true _ ▸ h)
          refine ⟨_, rfl, F, fs, rfl, SqL.of hu, by omega, fun ys p hp hs hfree => ?_⟩
          have ej : j = fs.length := by omega
          have s9 : Same H1 (upd H1 p (.lst (ys.map V.str))) := Same.new hfree
          have L23 : Live H H3 := KeepM.live q3 fun u hu => by
            simp only [List.mem_cons, List.not_mem_nil, or_false] at hu
            rcases hu with rfl | rfl | rfl
            · exact I3.lx
            · exact I3.lp
            · exact I3.lf
          have L31 : Live H3 H1 := Live.trans (Live.of s4) (KeepM.live s1 fun u hu2 => by
            rw [List.mem_singleton.mp hu2]
            exact ⟨_, hu, fun _ z => by cases z⟩)
          have f3 : H3 p = none := L31.free hfree
          have g3 : G3 p = none := by
            cases e : G3 p with
            | none => rfl
            | some u => rw [I3.sub _ _ e] at f3; cases f3
          refine k eA hz _ G3 p ys ?_ E3 (I5.same s9) hs (hp.nodup_iff.mpr nd) (fun y => ⟨fun hy => (mem y (hp.mem_iff.mp hy)).2, fun hy => hp.mem_iff.mpr ?_⟩) (L23.free f3) g3 upd_same
          · intro u o hn e
            have eF : u ≠ F := fun z => by rw [z, L23.free hF] at e; cases e
            exact s9 _ _ (s1 _ _ (by simpa using eF) (s4 _ _ (q3 _ _ hn e)))
          · induction hy with
            | self => exact ma
            | step h1 h2 h3 h4 ih =>
              obtain ⟨i, hi⟩ := List.mem_iff_getElem?.mp ih
              exact cl i _ (by rw [ej]; exact (List.getElem?_eq_some_iff.mp hi).1) hi _ h2 h3 h4
      · rintro σ H1 Q1 Q2 hq ⟨v, e, u, e', x, n, ex, lv, i, j, ei, ej, b, eb, q⟩
        exact ⟨v, e, u, e', x, n, ex, lv, i, j, ei, ej, b, eb, hq _ _ q⟩
    · have ez : (!(decide (0 ≤ mz) && decide (mz ≤ 10000))) = true := by
        have : ¬ ((decide (0 ≤ mz) && decide (mz ≤ 10000)) = true) := fun z => hz (by simpa using z)
        rw [Bool.not_eq_true', Bool.eq_false_iff]
        exact this
      show if (!(decide (0 ≤ mz) && decide (mz ≤ 10000))) = true then _ else _
      rw [if_pos ez]
      have a1 := app_lenX (show Str.empty.length ≤ 0 from Nat.le_refl _) (str_anyG z1 z2)
      refine ⟨_, rfl, .inr ⟨_, rfl, log_anyG z1 z2, _, rfl, lineX2 a1 (by decide), _, rfl, ?_⟩⟩
      have a2 := app_lenX a1 (show (Str.ofString " is no number of bytes").length ≤ 30 by decide)
      exact ⟨lineX2 a2 (by decide), k2 eA hz _ (Same.refl _)⟩
end
/-! ### _law_alike of ints, texts, None, lists and tuples -/
def AlkG : Nat → Hp → V → V → Prop
  | 0, _, _, _ => False
  | n + 1, H, x, y => (∃ i, x = .int i ∧ y = .int i) ∨ (∃ s, x = .str s ∧ y = .str s) ∨ (x = .non ∧ y = .non) ∨
    ∃ (p q : Addr) (xs ys : List V) (b : Bool), x = .ref p ∧ y = .ref q ∧ (b = true → H p = some (.lst xs) ∧ H q = some (.lst ys)) ∧ (b = false → H p = some (.tup xs) ∧ H q = some (.tup ys)) ∧ Paired (AlkG n H) xs ys ∧ xs.length ≤ 5000
theorem AlkG.same {H H' : Hp} (s : Same H H') : ∀ {n : Nat} {x y : V}, AlkG n H x y → AlkG n H' x y
  | 0, _, _, h => h
  | n + 1, x, y, h => by
    rcases h with h | h | h | ⟨p, q, xs, ys, b, a1, a2, a3, a4, a5, a6⟩
    · exact .inl h
    · exact .inr (.inl h)
    · exact .inr (.inr (.inl h))
    · exact .inr (.inr (.inr ⟨p, q, xs, ys, b, a1, a2, fun z => ⟨s _ _ (a3 z).1, s _ _ (a3 z).2⟩, fun z => ⟨s _ _ (a4 z).1, s _ _ (a4 z).2⟩, pairedMap a5 fun _ _ z => z.same s, a6⟩))
theorem AlkG.strs {H : Hp} {n : Nat} (N : List Str) : Paired (AlkG (n + 1) H) (N.map V.str) (N.map V.str) := by
  induction N with
  | nil => exact .nil
  | cons x N ih => exact .cons (.inr (.inl ⟨x, rfl, rfl⟩)) ih
theorem eqvE : PyData.eqv (.list []) (.list []) = true := by simp [PyData.eqv, PyData.eqvAll]
theorem shapedE : SeqAt.shaped (.list []) = true := by decide
def spAlikeG (n : Nat) : Sp := fun vs H Q _ => ∃ x y, vs = [x, y] ∧ AlkG n H x y ∧ ∀ H', Same H H' → Q (.bl true) H'
theorem kt2_tl {K : PySem.W.Frag} {a : String} (h1 : kitB a "tuple" = some false) (h2 : kitB a "list" = some false) : PySem.W.kitAny K (.type a) [.type "tuple", .type "list"] = some false :=
  kitAny_cons (kit_ty h1) (fun _ => kitAny_cons (kit_ty h2) (fun _ => kitAny_nil) (fun h => h)) (fun h => h)
theorem kt2_lst {K : PySem.W.Frag} : PySem.W.kitAny K (.type "list") [.type "tuple", .type "list"] = some true :=
  kitAny_cons (b := false) (kit_ty (by decide +kernel)) (fun _ => kitAny_cons (b := true) (kit_ty (by decide +kernel)) (fun h => nomatch h) (fun _ => rfl)) (fun h => nomatch h)
theorem kt2_tup {K : PySem.W.Frag} : PySem.W.kitAny K (.type "tuple") [.type "tuple", .type "list"] = some true :=
  kitAny_cons (b := true) (kit_ty (by decide +kernel)) (fun h => nomatch h) (fun _ => rfl)
section
variable {P : Program} {w : World} {K : PySem.W.Frag} {mg : Str → Option Value} {base : Heap}
theorem okg_law_alike (T : All K mg) : ∀ n : Nat, FnOk P w K mg base CX0 n T.d_law_alike.f T.d_law_alike.fd ["_law_one", "_law_due"] (spAlikeG n)
  | 0 => ⟨fun _ _ _ _ ⟨_, _, _, h, _⟩ => h.elim, fun _ _ _ _ _ _ _ _ _ _ _ _ _ ⟨_, _, _, h, _⟩ => h.elim⟩
  | n + 1 => by
    have G_law_alike : FnOk P w K mg base CX0 n T.d_law_alike.f T.d_law_alike.fd ["_law_one", "_law_due"] (spAlikeG n) := okg_law_alike T n
    refine T.d_law_alike.F.ok sc_law_alike (fun vs H Q E h => ?_) (fun cdv A outer s H vs Q E hr h => ?_)
    · obtain ⟨x, y, rfl, _⟩ := h
      rfl
    · obtain ⟨x, y, rfl, h, k⟩ := h
      refine ⟨_, (pss_cons 
      (ps_if (PW.pt (pw_and (pt_val (pe_callB call_isiT (by rfl) T.b_isinstance (by decide +kernel) (pa_cons (pv 0) (pa_cons (pe_tup (pa_cons (pe_bltn (v := .ty "tuple") (by rfl) T.b_tuple (by decide +kernel) rfl) (pa_cons (pe_bltn (v := .ty "list") (by rfl) T.b_list (by decide +kernel) rfl) pa_nil))) pa_nil)))) (pw_and1 (pt_val (pe_callB call_isiT (by rfl) T.b_isinstance (by decide +kernel) (pa_cons (pv 1) (pa_cons (pe_tup (pa_cons (pe_bltn (v := .ty "tuple") (by rfl) T.b_tuple (by decide +kernel) rfl) (pa_cons (pe_bltn (v := .ty "list") (by rfl) T.b_list (by decide +kernel) rfl) pa_nil))) pa_nil))))))) (pss_cons 
      (ps_if (PW.pt (pw_or (pt_cmpR op_ne (pe_callB call_isi (by rfl) T.b_isinstance (by decide +kernel) (pa_cons (pv 0) (pa_cons (pe_bltn (v := .ty "tuple") (by rfl) T.b_tuple (by decide +kernel) rfl) pa_nil))) (pe_callB call_isi (by rfl) T.b_isinstance (by decide +kernel) (pa_cons (pv 1) (pa_cons (pe_bltn (v := .ty "tuple") (by rfl) T.b_tuple (by decide +kernel) rfl) pa_nil))) (nomark _)) (pw_or1 (pt_cmpR op_ne (pe_callB call_len (by rfl) T.b_len PySem.boot_len (pa_cons (pv 0) pa_nil)) (pe_callB call_len (by rfl) T.b_len PySem.boot_len (pa_cons (pv 1) pa_nil)) (nomark _))))) (pss_one 
      (ps_ret pe_bl)) pss_nil) (pss_one 
      (ps_ret (pe_cmpR (op_eqD hr.units) (pe_lc (own := [("_law_k", 2)]) (g := gName 2) rfl sc_law_alike.nd (pi_range1 (by rfl) T.b_range (pa_cons (pe_callB call_len (by rfl) T.b_len PySem.boot_len (pa_cons (pv 0) pa_nil)) pa_nil)) (blkOk_by (own := [("_law_k", 2)]) (N := ["_law_one", "_law_due", "_law_k"]) (sc := defScope s_law_alike) (by decide +kernel)) (fun _ _ _ _ _ => (pg_name (i := 2) sc_law_alike.nd rfl (Or.inl rfl))) (fun _ _ _ _ _ => (pts_one (pt_not (pt_val (pe_call G_law_alike (hr.mono (Nat.le_refl _)) rfl T.d_law_alike.m T.d_law_alike.F.kp T.d_law_alike.b .nil pass0 (pa_cons (pe_ix (ixsK (K := K) rfl) (pv 0) (pv 2) (fun _ _ => rfl)) (pa_cons (pe_ix (ixsK (K := K) rfl) (pv 1) (pv 2) (fun _ _ => rfl)) pa_nil))))))) (fun _ _ _ _ _ => (pv 2))) (pe_lst pa_nil) (nomark _))))) pss_nil) (pss_one 
      (ps_ret (pe_and (pe_cmpR op_eq (pv 0) (pv 1) (nomark _)) (pe_one (pe_cmpR op_eq (pe_callB call_isi (by rfl) T.b_isinstance (by decide +kernel) (pa_cons (pv 0) (pa_cons (pe_bltn (v := .ty "bool") (by rfl) T.b_bool (by decide +kernel) rfl) pa_nil))) (pe_callB call_isi (by rfl) T.b_isinstance (by decide +kernel) (pa_cons (pv 1) (pa_cons (pe_bltn (v := .ty "bool") (by rfl) T.b_bool (by decide +kernel) rfl) pa_nil))) (nomark _))))))), ?_⟩
      rcases h with ⟨i, rfl, rfl⟩ | ⟨z, rfl, rfl⟩ | ⟨rfl, rfl⟩ | ⟨p, q, xs, ys, b, rfl, rfl, hl, ht, pp, l5⟩
      · refine ⟨_, rfl, sizeS (by show 2 ≤ 100000; decide), fun t ht => ⟨_, t, _, .type "int", _, false, rfl, upd_same, .cons (.ty _) (.cons (.ty _) .nil), .base (.int i), kt2_tl (by decide +kernel) (by decide +kernel), _, rfl, (if_neg (by decide)).mpr ((if_neg (show ¬ (false = true) by decide)).mpr ?_)⟩⟩
        refine ⟨_, rfl, _, rfl, rfl, true, congrArg V.bl (decide_eq_true rfl), (if_pos rfl).mpr ?_⟩
        refine ⟨_, rfl, _, _, _, _, false, rfl, .ty _, .base (.int i), kit_ty (by decide +kernel), _, rfl, _, _, _, _, false, rfl, .ty _, .base (.int i), kit_ty (by decide +kernel), rfl, ?_⟩
        have kk := k _ (Same.new (o := .tup [.ty "tuple", .ty "list"]) ht)
        rw [← decide_eq_true (rfl : V.bl false = V.bl false)] at kk
        exact kk
      · refine ⟨_, rfl, sizeS (by show 2 ≤ 100000; decide), fun t ht => ⟨_, t, _, .type "str", _, false, rfl, upd_same, .cons (.ty _) (.cons (.ty _) .nil), .base (.str z), kt2_tl (by decide +kernel) (by decide +kernel), _, rfl, (if_neg (by decide)).mpr ((if_neg (show ¬ (false = true) by decide)).mpr ?_)⟩⟩
        refine ⟨_, rfl, _, rfl, rfl, true, congrArg V.bl (decide_eq_true rfl), (if_pos rfl).mpr ?_⟩
        refine ⟨_, rfl, _, _, _, _, false, rfl, .ty _, .base (.str z), kit_ty (by decide +kernel), _, rfl, _, _, _, _, false, rfl, .ty _, .base (.str z), kit_ty (by decide +kernel), rfl, ?_⟩
        have kk := k _ (Same.new (o := .tup [.ty "tuple", .ty "list"]) ht)
        rw [← decide_eq_true (rfl : V.bl false = V.bl false)] at kk
        exact kk
      · refine ⟨_, rfl, sizeS (by show 2 ≤ 100000; decide), fun t ht => ⟨_, t, _, .type "NoneType", _, false, rfl, upd_same, .cons (.ty _) (.cons (.ty _) .nil), .base .non, kt2_tl (by decide +kernel) (by decide +kernel), _, rfl, (if_neg (by decide)).mpr ((if_neg (show ¬ (false = true) by decide)).mpr ?_)⟩⟩
        refine ⟨_, rfl, _, rfl, rfl, true, congrArg V.bl (decide_eq_true rfl), (if_pos rfl).mpr ?_⟩
        refine ⟨_, rfl, _, _, _, _, false, rfl, .ty _, .base .non, kit_ty (by decide +kernel), _, rfl, _, _, _, _, false, rfl, .ty _, .base .non, kit_ty (by decide +kernel), rfl, ?_⟩
        have kk := k _ (Same.new (o := .tup [.ty "tuple", .ty "list"]) ht)
        rw [← decide_eq_true (rfl : V.bl false = V.bl false)] at kk
        exact kk
      · have bs : ∀ {H' : Hp}, Same H H' → ∃ t, TyX K H' (.ref p) t ∧ TyX K H' (.ref q) t ∧ PySem.W.kitAny K t [.type "tuple", .type "list"] = some true ∧ PySem.W.kitOne K t (.type "tuple") = some (!b) := fun {H'} s => by
          cases b with
          | true => exact ⟨.type "list", .base (.lst (s _ _ (hl rfl).1)), .base (.lst (s _ _ (hl rfl).2)), kt2_lst, kit_ty (by decide +kernel)⟩
          | false => exact ⟨.type "tuple", .base (.tup (s _ _ (ht rfl).1)), .base (.tup (s _ _ (ht rfl).2)), kt2_tup, kit_ty (by decide +kernel)⟩
        have sq : ∀ {H' : Hp}, Same H H' → (SqL K H' p xs ∧ SqL K H' q ys) ∨ (SqT K H' p xs ∧ SqT K H' q ys) := fun {H'} s => by
          cases b with
          | true => exact .inl ⟨SqL.of (s _ _ (hl rfl).1), SqL.of (s _ _ (hl rfl).2)⟩
          | false => exact .inr ⟨SqT.of (s _ _ (ht rfl).1), SqT.of (s _ _ (ht rfl).2)⟩
        refine ⟨_, rfl, sizeS (by show 2 ≤ 100000; decide), fun t ht1 => ?_⟩
        have s1 := Same.new (o := .tup [.ty "tuple", .ty "list"]) ht1
        obtain ⟨ty1, y1, _, y3, _⟩ := bs s1
        refine ⟨_, t, _, ty1, _, true, rfl, upd_same, .cons (.ty _) (.cons (.ty _) .nil), y1, y3, _, rfl, (if_pos (by decide)).mpr ?_⟩
        generalize upd H t (.tup [.ty "tuple", .ty "list"]) = H1 at s1 ⊢
        refine ⟨_, rfl, sizeS (by show 2 ≤ 100000; decide), fun t2 ht2 => ?_⟩
        have s2 := s1.trans (Same.new (o := .tup [.ty "tuple", .ty "list"]) ht2)
        obtain ⟨ty1, _, y2, y3, _⟩ := bs s2
        refine ⟨_, t2, _, ty1, _, true, rfl, upd_same, .cons (.ty _) (.cons (.ty _) .nil), y2, y3, _, rfl, (if_pos (by decide)).mpr ?_⟩
        generalize upd H1 t2 (.tup [.ty "tuple", .ty "list"]) = H2 at s2 ⊢
        obtain ⟨ty1, y1, y2, _, y4⟩ := bs s2
        refine ⟨_, rfl, _, _, _, _, !b, rfl, .ty _, y1, y4, _, rfl, _, _, _, _, !b, rfl, .ty _, y2, y4, rfl, _, rfl, iteNS rfl ?_⟩
        have ll := Paired.length pp
        have lv : ∀ {H' : Hp}, Same H H' → LenV K (.ref p) H' xs.length ∧ LenV K (.ref q) H' ys.length := fun {H'} s => by
          rcases sq s with ⟨a1, a2⟩ | ⟨a1, a2⟩
          · exact ⟨.inl ⟨_, a1, rfl⟩, .inl ⟨_, a2, rfl⟩⟩
          · exact ⟨.inr ⟨_, a1, rfl⟩, .inr ⟨_, a2, rfl⟩⟩
        refine ⟨_, rfl, _, _, rfl, (lv s2).1, _, rfl, _, _, rfl, (lv s2).2, rfl, _, rfl, iteNS (by rw [ll]) ?_⟩
        refine ⟨_, rfl, _, _, rfl, (lv s2).1, _, rfl, by omega, by omega, fun D hD => ?_⟩
        refine lc_range (lo := 0) (n := ((xs.length : Nat) : Int).toNat) (fun i H3 => Same H2 H3 ∧ H3 D = some (.lst [])) ⟨Same.new hD, upd_same⟩ ?_ ?_
        · rintro i H3 hi ⟨s3, hd⟩
          rw [Int.toNat_natCast] at hi
          have hx := List.getElem?_eq_getElem hi
          obtain ⟨y, hy, ak⟩ := pairedAt pp hx
          generalize xs[i] = x at hx ak
          have ak : AlkG n H3 x y := ak.same (s2.trans s3)
          have fin : ∀ H4, Same H3 H4 → _ := fun H4 s4 => show (Same H2 H4 ∧ H4 D = some (.lst [])) from ⟨s3.trans s4, s4 _ _ hd⟩
          rcases sq (s2.trans s3) with ⟨a1, a2⟩ | ⟨a1, a2⟩
          · exact ⟨rfl, _, rfl, _, rfl, .inl ⟨p, _, _, _, rfl, rfl, a1, at_of (by omega) hx, _, rfl, _, rfl, .inl ⟨q, _, _, _, rfl, rfl, a2, at_of (by omega) hy, x, y, rfl, ak, fun H4 s4 => ⟨_, rfl, iteF (fin H4 s4)⟩⟩⟩⟩
          · exact ⟨rfl, _, rfl, _, rfl, .inr (.inl ⟨p, _, _, _, rfl, rfl, a1, at_of (by omega) hx, _, rfl, _, rfl, .inr (.inl ⟨q, _, _, _, rfl, rfl, a2, at_of (by omega) hy, x, y, rfl, ak, fun H4 s4 => ⟨_, rfl, iteF (fin H4 s4)⟩⟩)⟩)⟩
        · rintro H3 ⟨s3, hd⟩
          refine ⟨sizeS (by show 0 ≤ 100000; decide), fun l' hl => ⟨.list [], .list [], Dp.lst (SqL.of (Same.new hl _ _ hd)) .nil, Dp.lst (SqL.of upd_same) .nil, shapedE, shapedE, ?_⟩⟩
          have kk := k _ ((s2.trans s3).trans (Same.new (o := .lst []) hl))
          rw [← eqvE] at kk
          exact kk
end
/-! ### what the law takes a code's length to be -/
def spLong (n : Nat) : Sp := fun vs H Q _ => ∃ z : Int, vs = [.int z] ∧ 0 ≤ z ∧ z < 128 * 128 ∧ (n = 1 → z < 128) ∧ 1 ≤ n ∧ Q (.int (numSize z)) H
def spPrice : Sp := fun vs H Q _ => ∃ (v : V) (rows : List Row), vs = [v] ∧ PatchAt H v rows ∧ Good rows ∧ ∀ H', Same H H' → Q (.int ((codeOf rows).length : Nat)) H'
section
variable {P : Program} {w : World} {K : PySem.W.Frag} {mg : Str → Option Value} {base : Heap}
theorem okn_long (T : All K mg) : ∀ n : Nat, FnOk P w K mg base CX0 n T.d_law_long.f T.d_law_long.fd ["_law_number"] (spLong n)
  | 0 => ⟨fun _ _ _ _ ⟨_, _, _, _, _, h, _⟩ => absurd h (by decide), fun _ _ _ _ _ _ _ _ _ _ _ _ _ ⟨_, _, _, _, _, h, _⟩ => absurd h (by decide)⟩
  | n + 1 => by
    have G_law_long : FnOk P w K mg base CX0 n T.d_law_long.f T.d_law_long.fd ["_law_number"] (spLong n) := okn_long T n
    refine T.d_law_long.F.ok sc_law_long (fun vs H Q E h => ?_) (fun cdv A outer s H vs Q E hr h => ?_)
    · obtain ⟨_, rfl, _⟩ := h
      rfl
    · obtain ⟨z, rfl, h0, h1, h2, _, k⟩ := h
      refine ⟨_, (pss_one 
      (ps_ret (pe_ifExp (pt_cmpR op_lt (pv 0) pe_int (nomark _)) pe_int (pe_op op_add pe_int (pe_call G_law_long (hr.mono (Nat.le_refl _)) rfl T.d_law_long.m T.d_law_long.F.kp T.d_law_long.b .nil pass0 (pa_cons (pe_op op_fdiv (pv 0) pe_int) pa_nil)))))), ?_⟩
      refine ⟨_, rfl, _, _, rfl, rfl, _, rfl, ite2 (fun h => ?_) fun h => ?_⟩
      · have h : z < 128 := of_decide_eq_true h
        have e1 : numSize z = 1 := if_pos h
        rw [e1] at k
        exact k
      · have h : ¬ z < 128 := of_decide_eq_false (Bool.not_eq_true _ ▸ h)
        have e1 : numSize z = 2 := if_neg h
        have e2 : numSize (z / 128) = 1 := if_pos (by omega)
        rw [e1] at k
        refine ⟨_, rfl, _, _, rfl, rfl, ⟨by decide, by decide⟩, z / 128, rfl, by omega, by omega, fun _ => by omega, ?_, _, _, rfl, rfl, ?_⟩
        · omega
        · rw [e2]
          exact k
theorem okg_law_price (T : All K mg) : FnOk P w K mg base CX0 3 T.d_law_price.f T.d_law_price.fd ["_law_patch"] spPrice := by
  have G_law_long : FnOk P w K mg base CX0 2 T.d_law_long.f T.d_law_long.fd ["_law_number"] (spLong 2) := okn_long T 2
  refine T.d_law_price.F.ok sc_law_price (fun vs H Q E h => ?_) (fun cdv A outer s H vs Q E hr h => ?_)
  · obtain ⟨_, _, rfl, _⟩ := h
    rfl
  · obtain ⟨v, rows, rfl, hP, hG, k⟩ := h
    refine ⟨_, (pss_cons 
      (ps_set (i := 1) sc_law_price.nd rfl (Or.inl rfl) (pe_op op_add (pe_call G_law_long (hr.mono (by decide)) rfl T.d_law_long.m T.d_law_long.F.kp T.d_law_long.b .nil pass0 (pa_cons (pe_callB call_len (by rfl) T.b_len PySem.boot_len (pa_cons (pv 0) pa_nil)) pa_nil)) pe_int)) (pss_cons 
      (ps_for PassesOwn.never rfl (pi_tup (pv 0)) (pg_name (i := 2) sc_law_price.nd rfl (Or.inl rfl)) (pss_one 
      (ps_if (pt_cmpR op_eq (pe_ix ix_tup (pv 2) pe_int (fun _ _ => rfl)) pe_str (nomark _)) (pss_one 
      (ps_aug (i := 1) sc_law_price.nd rfl (Or.inl rfl) (pe_op op_add (pe_call G_law_long (hr.mono (by decide)) rfl T.d_law_long.m T.d_law_long.F.kp T.d_law_long.b .nil pass0 (pa_cons (pe_op op_mul pe_int (pe_ix ix_tup (pv 2) pe_int (fun _ _ => rfl))) pa_nil)) (pe_call G_law_long (hr.mono (by decide)) rfl T.d_law_long.m T.d_law_long.F.kp T.d_law_long.b .nil pass0 (pa_cons (pe_ix ix_tup (pv 2) pe_int (fun _ _ => rfl)) pa_nil))) ip_add)) (pss_one 
      (ps_if (pt_cmpR op_eq (pe_ix ix_tup (pv 2) pe_int (fun _ _ => rfl)) pe_str (nomark _)) (pss_one 
      (ps_aug (i := 1) sc_law_price.nd rfl (Or.inl rfl) (pe_op op_add (pe_call G_law_long (hr.mono (by decide)) rfl T.d_law_long.m T.d_law_long.F.kp T.d_law_long.b .nil pass0 (pa_cons (pe_op op_add (pe_op op_mul pe_int (pe_callB call_len (by rfl) T.b_len PySem.boot_len (pa_cons (pe_ix ix_tup (pv 2) pe_int (fun _ _ => rfl)) pa_nil))) pe_int) pa_nil)) (pe_callB call_len (by rfl) T.b_len PySem.boot_len (pa_cons (pe_ix ix_tup (pv 2) pe_int (fun _ _ => rfl)) pa_nil))) ip_add)) (pss_one 
      (ps_aug (i := 1) sc_law_price.nd rfl (Or.inl rfl) (pe_op op_add (pe_call G_law_long (hr.mono (by decide)) rfl T.d_law_long.m T.d_law_long.F.kp T.d_law_long.b .nil pass0 (pa_cons (pe_op op_add (pe_op op_mul pe_int (pe_ix ix_tup (pv 2) pe_int (fun _ _ => rfl))) pe_int) pa_nil)) pe_int) ip_add))))))) (pss_one 
      (ps_ret (pv 1))))), ?_⟩
    obtain ⟨p, vs, rfl, hv, hpr⟩ := hP
    have hfew := hG.nat
    have hvl := Paired.length hpr
    refine ⟨_, rfl, _, vs.length, rfl, .inr ⟨_, SqT.of hv, rfl⟩, (vs.length : Int), rfl, by omega, by omega, fun z => absurd z (by decide), by decide, _, _, rfl, rfl, ?_⟩
    refine ⟨_, rfl, p, rfl, ⟨vs, SqT.of hv⟩, ?_⟩
    refine for_it (walk_tup (K := K) (a := p) (xs := vs)) (fun i σ H2 => Same H H2 ∧ ∃ o, σ = [some (.ref p), some (.int (numSize (vs.length : Int) + 1 + ((rows.take i).map rowSize).sum)), o]) ⟨Same.refl _, _, by simp; rfl⟩ (fun i σ H2 _ h => SqT.of (h.1 _ _ hv)) (fun i x σ H2 H2' hi h y => ?_) (fun σ H2 h => ?_)
    · obtain ⟨rfl, hx⟩ := y
      obtain ⟨r, hr1, q, rfl, hq⟩ := pairedAt hpr hx
      obtain ⟨s2, o, rfl⟩ := h
      have hq2 := s2 _ _ hq
      have hro := hG.each r (List.mem_of_getElem? hr1)
      have e : rowSize r = numSize (firstNum r) + (r.tail.length : Int) := by
        unfold rowSize rowCode
        rw [List.length_append, ← numCode_len]
        omega
      have en : numSize (vs.length : Int) + 1 + ((rows.take (i + 1)).map rowSize).sum = numSize (vs.length : Int) + 1 + ((rows.take i).map rowSize).sum + rowSize r := by
        rw [take_snoc hr1, List.map_append, List.sum_append]
        simp
        omega
      rw [en, e]
      cases r with
      | copy b n =>
        refine ⟨_, rfl, q, _, _, _, rfl, rfl, SqT.of hq2, rfl, rfl, _, rfl, ite2 (fun _ => ?_) fun h => absurd (by decide) h⟩
        have h1 := hro.1.1
        have h2 := hro.1.2.1
        have h3 := hro.1.2.2
        refine ⟨_, rfl, _, rfl, q, _, _, _, rfl, rfl, SqT.of hq2, rfl, _, _, rfl, rfl, .inl ⟨by decide, by decide⟩, 4 * n, rfl, by omega, by omega, fun z => absurd z (by decide), by decide, ?_⟩
        refine ⟨_, rfl, q, _, _, _, rfl, rfl, SqT.of hq2, rfl, b, rfl, by omega, by omega, fun z => absurd z (by decide), by decide, _, _, rfl, rfl, _, _, rfl, rfl, s2, some (.ref q), ?_⟩
        rw [show firstNum (.copy b n) = 4 * n by unfold firstNum; show n * 4 + 0 = _; omega, show ((Row.tail (.copy b n)).length : Int) = numSize b from numCode_len b]
        rfl
      | run b n =>
        have h1 := hro.1.1
        have h2 := hro.1.2.1
        have h3 := hro.1.2.2
        have h4 : n ≤ 200 := hro.2
        refine ⟨_, rfl, q, _, _, _, rfl, rfl, SqT.of hq2, rfl, rfl, _, rfl, ite2 (fun h => absurd h (by decide)) fun _ => ?_⟩
        refine ⟨_, rfl, q, _, _, _, rfl, rfl, SqT.of hq2, rfl, rfl, _, rfl, ite2 (fun h => absurd h (by decide)) fun _ => ?_⟩
        refine ⟨_, rfl, _, rfl, q, _, _, _, rfl, rfl, SqT.of hq2, rfl, _, _, rfl, rfl, .inl ⟨by decide, by decide⟩, _, _, rfl, rfl, 4 * n + 2, rfl, by omega, by omega, fun z => absurd z (by decide), by decide, _, _, rfl, rfl, _, _, rfl, rfl, s2, some (.ref q), ?_⟩
        rw [show firstNum (.run b n) = 4 * n + 2 by unfold firstNum; show n * 4 + 2 = _; omega]
        rfl
      | bring bs =>
        refine ⟨_, rfl, q, _, _, _, rfl, rfl, SqT.of hq2, rfl, rfl, _, rfl, ite2 (fun h => absurd h (by decide)) fun _ => ?_⟩
        refine ⟨_, rfl, q, _, _, _, rfl, rfl, SqT.of hq2, rfl, rfl, _, rfl, ite2 (fun _ => ?_) fun h => absurd (by decide) h⟩
        have h4 : (bs.length : Int) ≤ 200 := hro.2
        refine ⟨_, rfl, _, rfl, q, _, _, _, rfl, rfl, SqT.of hq2, rfl, _, bs.length, rfl, ⟨by rw [byteArr_size]; exact sizeS (by omega), (byteArr_size bs).symm⟩, _, _, rfl, rfl, .inl ⟨by decide, by decide⟩, _, _, rfl, rfl, 4 * (bs.length : Int) + 1, rfl, by omega, by omega, fun z => absurd z (by decide), by decide, ?_⟩
        refine ⟨_, rfl, q, _, _, _, rfl, rfl, SqT.of hq2, rfl, _, bs.length, rfl, ⟨by rw [byteArr_size]; exact sizeS (by omega), (byteArr_size bs).symm⟩, _, _, rfl, rfl, _, _, rfl, rfl, s2, some (.ref q), ?_⟩
        rw [show firstNum (.bring bs) = 4 * (bs.length : Int) + 1 by unfold firstNum; show (bs.length : Int) * 4 + 1 = _; omega]
        rfl
    · obtain ⟨s2, o, rfl⟩ := h
      rw [hvl, List.take_length]
      have kk := k H2 s2
      rw [← code_size rows, show numSize (rows.length : Int) + (rows.map rowSize).sum + 1 = numSize (rows.length : Int) + 1 + (rows.map rowSize).sum by omega] at kk
      exact ⟨_, rfl, kk⟩
end
/-! ### the shop that the law fills -/
def sixN : List Str := ["ab", "c", "dora", "e", "f", "gg"]
/-- what the law knows of the editions: by name, a list of numbers each -/
def SomeAt (H : Hp) (d : Addr) (E : EdM) (no : List Addr) : Prop := ∃ kvs, H d = some (.dK kvs) ∧ Paired (fun (kv : Key × V) (p : Str × List Int) => kv.1 = .inr p.1 ∧ ∃ q, kv.2 = .ref q ∧ q ∉ no ∧ H q = some (.lst (p.2.map V.int))) kvs E
theorem SomeAt.keep {H H' : Hp} {d : Addr} {E : EdM} {no : List Addr} (h : SomeAt H d E no) (k : ∀ b o, b = d ∨ b ∉ no → H b = some o → H' b = some o) : SomeAt H' d E no :=
  let ⟨kvs, e, r⟩ := h; ⟨kvs, k _ _ (.inl rfl) e, pairedMap r fun _ _ ⟨a, q, b, n, c⟩ => ⟨a, q, b, n, k _ _ (.inr n) c⟩⟩
theorem neA {H : Hp} {a b : Addr} (h : ∃ o, H a = some o) (hb : H b = none) : a ≠ b := fun z => by
  obtain ⟨o, e⟩ := h
  rw [z, hb] at e
  cases e
theorem six_ok : ∀ n ∈ sixN, nameOk n = true ∧ n.length ≤ 8 := by decide +kernel
theorem six_nd : sixN.Nodup := by decide +kernel
theorem cut_strs (N : List Str) (k : Int) (h : 0 ≤ k) : cutV (N.map V.str) none (some k) = (N.take k.toNat).map V.str := by
  unfold cutV
  have e1 : HT.sIx (N.map V.str).length 0 none = 0 := rfl
  have e2 : HT.sIx (N.map V.str).length (N.map V.str).length (some k) = min k.toNat (N.map V.str).length := by
    show (if k < 0 then _ else _) = _
    rw [if_neg (by omega)]
  rw [e1, e2, List.drop_zero, Nat.sub_zero, List.map_take]
  rcases Nat.le_total k.toNat (N.map V.str).length with z | z
  · rw [Nat.min_eq_left z]
  · rw [Nat.min_eq_right z, List.take_length, List.take_of_length_le z]
theorem SomeAt.list {H : Hp} {d : Addr} {E : EdM} {no : List Addr} (h : SomeAt H d E no) : ∃ (kvs : List (Key × V)) (bs : List (Addr × List Int)), H d = some (.dK kvs) ∧ kvs.length = E.length ∧ kvs.map (·.1) = E.map (fun p => (.inr p.1 : Key)) ∧ kvs.map (·.2) = bs.map (fun b => V.ref b.1) ∧ bs.map (·.2) = E.map (·.2) ∧ ∀ b ∈ bs, b.1 ∉ no ∧ H b.1 = some (.lst (b.2.map V.int)) := by
  obtain ⟨kvs, e, r⟩ := h
  refine ⟨kvs, ?_⟩
  have z : ∃ bs : List (Addr × List Int), kvs.length = E.length ∧ kvs.map (·.1) = E.map (fun p => (.inr p.1 : Key)) ∧ kvs.map (·.2) = bs.map (fun b => V.ref b.1) ∧ bs.map (·.2) = E.map (·.2) ∧ ∀ b ∈ bs, b.1 ∉ no ∧ H b.1 = some (.lst (b.2.map V.int)) := by
    clear e
    induction r with
    | nil => exact ⟨[], rfl, rfl, rfl, rfl, fun _ h => absurd h (by simp)⟩
    | @cons kv p l m h t ih =>
      obtain ⟨bs, i0, i1, i2, i3, i4⟩ := ih
      obtain ⟨h1, q, h2, h3, h4⟩ := h
      refine ⟨(q, p.2) :: bs, by rw [List.length_cons, i0, List.length_cons], by rw [List.map_cons, List.map_cons, i1, h1], by rw [List.map_cons, List.map_cons, i2, h2], by rw [List.map_cons, List.map_cons, i3], fun b hb => ?_⟩
      rcases List.mem_cons.mp hb with rfl | hb
      · exact ⟨h3, h4⟩
      · exact i4 b hb
  obtain ⟨bs, z⟩ := z
  exact ⟨bs, e, z⟩
theorem some_val {κ : Type} [DecidableEq κ] {kvs : List (κ × V)} {k : κ} (h : k ∉ kvs.map (·.1)) : valV kvs k = none := by
  cases e : valV kvs k with
  | none => rfl
  | some v =>
    unfold valV at e
    obtain ⟨p, hp, _⟩ := Option.map_eq_some_iff.mp e
    exact absurd (List.mem_map.mpr ⟨p, List.mem_of_find?_eq_some hp, of_decide_eq_true (List.find?_some (p := fun kv : κ × V => decide (kv.1 = k)) hp)⟩) h
def spLawShop (K : PySem.W.Frag) (U : CuK) (P : Program) (w : World) (kS : Addr) : Sp := fun vs H Q _ => ∃ (a : Addr) (ns : List Int) (r : Addr) (mm : Int), vs = [.ref r, .int mm] ∧ Dice K a ns H r ∧ 1 ≤ mm ∧ mm ≤ 6 ∧
  ∀ H' x G pA fA d t, ∀ (S : ShopM U) (past : PastM U), But r H H' → Dice K a ns H' r → ShopIs U P w kS H' x G pA fA S past 0 → S.leans = [] → S.cus = [] → S.sent = 0 → past.length ≤ 6 → S.eds ≠ [] → (S.eds.length : Int) ≤ mm → S.eds.map (·.1) = sixN.take S.eds.length → (∀ p ∈ S.eds, p.2.length ≤ 13) →
    H x = none → H pA = none → H fA = none → H d = none → G r = none → G d = none → SomeAt H' d S.eds [r, x, pA, fA] → H' t = some (.tup [.ref x, .ref d]) → Q (.ref t) H'
section
variable {P : Program} {w : World} {K : PySem.W.Frag} {mg : Str → Option Value} {base : Heap}
theorem okg_law_shop (T : All K mg) (U : CuK) : FnOk P w K mg base CX0 4 T.d_law_shop.f T.d_law_shop.fd ["_law_row", "_law_most_many"] (spLawShop K U P w T.k_Shop) := by
  have G_law_taken : FnOk P w K mg base CX0 1 T.d_law_taken.f T.d_law_taken.fd ["_law_row", "_law_many"] (spNext K) := ok_law_taken T
  have G_law_numbers : FnOk P w K mg base CX0 2 T.d_law_numbers.f T.d_law_numbers.fd ["_law_row", "_law_some"] (spNumbersG K) := ok_law_numbers T
  have G_Shop_init : FnOk P w K mg base CX0 1 T.d_Shop_init.f T.d_Shop_init.fd ["self"] (spShopInit U P w T.k_Shop) := ok_Shop_init T U
  have G_Shop_put := My.FnOk.x0G (okx_Shop_put (P := P) (w := w) (base := base) T U)
  have G_bytes_of : FnOk P w K mg base CX0 2 T.d_bytes_of.f T.d_bytes_of.fd ["numbers"] (spBytesOf K) := ok_bytes_of T
  refine T.d_law_shop.F.ok sc_law_shop (fun vs H Q E h => ?_) (fun cdv A outer s H vs Q E hr h => ?_)
  · obtain ⟨_, _, _, _, rfl, _⟩ := h
    rfl
  · obtain ⟨a, ns, r, mm, rfl, D0, m1, m6, k⟩ := h
    refine ⟨_, (pss_cons 
      (ps_par (i := 2) (j := 3) (by rfl) sc_law_shop.nd rfl rfl (by decide) rfl rfl (pa_cons (pe_make0 T.mk_Shop G_Shop_init (hr.mono (by decide)) rfl T.m_Shop T.d_Shop_init.b .nil pass0) (pa_cons pe_dnewK pa_nil)) (by rfl)) (pss_cons 
      (ps_for PassesOwn.never rfl (pi_list (pe_slice sl_list (pe_lst (pa_cons pe_str (pa_cons pe_str (pa_cons pe_str (pa_cons pe_str (pa_cons pe_str (pa_cons pe_str pa_nil))))))) po_none (po_some (pe_op op_add pe_int (pe_call G_law_taken (hr.mono (by decide)) rfl T.d_law_taken.m T.d_law_taken.F.kp T.d_law_taken.b .nil pass0 (pa_cons (pv 0) (pa_cons (pv 1) pa_nil))))))) (pg_name (i := 4) sc_law_shop.nd rfl (Or.inl rfl)) (pss_cons 
      (ps_dput (hu_of hr) (pv 3) (pv 4) (pe_call G_law_numbers (hr.mono (by decide)) rfl T.d_law_numbers.m T.d_law_numbers.F.kp T.d_law_numbers.b .nil pass0 (pa_cons (pv 0) (pa_cons (pe_callTy (call_listVals rfl) (by rfl) T.b_list (by decide +kernel) (pa_cons (pe_bm0 PySem.F.plainAttrs_dict PySem.F.slot_dict_values PySem.F.type_dict_values mt_vals (pv 3)) pa_nil)) pa_nil))) rfl) (pss_one 
      (ps_expr (pe_meth (pv 2) T.cl_Shop T.d_Shop_put.mt G_Shop_put (hr.mono (by decide)) T.d_Shop_put.b .nil pass0 (pa_cons (pv 4) (pa_cons (pe_call G_bytes_of (hr.mono (by decide)) rfl T.d_bytes_of.m T.d_bytes_of.F.kp T.d_bytes_of.b .nil pass0 (pa_cons (pe_dget (hu_of hr) (pv 3) (pv 4) (fun _ _ => rfl)) pa_nil)) pa_nil))))))) (pss_one 
      (ps_ret (pe_tup (pa_cons (pv 2) (pa_cons (pv 3) pa_nil))))))), ?_⟩
    refine fun x dx hx hdx nex => ⟨x, dx, rfl, upd_same, fun H1 G pA fA q1 g1 hpA hfA I0 => ⟨rfl, ?_⟩⟩
    have xr : ∃ o, H r = some o := let ⟨xs, e⟩ := D0.is; ⟨_, e⟩
    have s01 : Same H (upd (upd H dx (.own x)) x (.ins T.k_Shop dx [])) := (Same.new hdx).trans (Same.new (by rw [upd_ne nex.symm]; exact hx))
    have hx1 : Same H H1 := fun b o e => q1 b o (fun z => by rw [List.mem_singleton.mp z, hx] at e; cases e) (s01 _ _ e)
    have hpH := (Live.of s01).free hpA
    have hfH := (Live.of s01).free hfA
    have rn : r ≠ x ∧ r ≠ pA ∧ r ≠ fA := by
      exact ⟨neA xr hx, neA xr hpH, neA xr hfH⟩
    have gr : G r = none := g1 r (by obtain ⟨o, e⟩ := xr; rw [s01 _ _ e]; exact fun z => nomatch z)
    refine fun d hd => ?_
    have s2 : Same H1 (upd H1 d (.dK [])) := Same.new hd
    have e2 : (upd H1 d (.dK [])) d = some (.dK []) := upd_same
    have I2 := I0.same s2
    have hdH : H d = none := (Live.of hx1).free hd
    have gd : G d = none := by
      cases e : G d with
      | none => rfl
      | some u => rw [I0.sub _ _ e] at hd; cases hd
    have dn : d ≠ x ∧ d ≠ pA ∧ d ≠ fA ∧ d ≠ r := ⟨fun z => ne_free I0.lx hd z.symm, fun z => ne_free I0.lp hd z.symm, fun z => ne_free I0.lf hd z.symm, fun z => neA xr hdH z.symm⟩
    generalize upd H1 d (.dK []) = H2 at s2 e2 I2
    have D2 : Dice K a ns H2 r := D0.same (hx1.trans s2)
    refine ⟨_, _, rfl, ?_⟩
    refine ⟨sizeS (by show 6 ≤ 100000; decide), fun p6 hp6 => ?_⟩
    have s3 : Same H2 (upd H2 p6 (.lst (sixN.map V.str))) := Same.new hp6
    have e3 : (upd H2 p6 (.lst (sixN.map V.str))) p6 = some (.lst (sixN.map V.str)) := upd_same
    have s03 : Same H (upd H2 p6 (.lst (sixN.map V.str))) := (hx1.trans s2).trans s3
    have D3 := D2.same s3
    refine ⟨_, rfl, _, rfl, a, ns, r, mm, rfl, D3, m1, by omega, fun H4 r1 b4 D4 r10 r11 => ⟨_, _, rfl, rfl, _, rfl, p6, sixN.map V.str, rfl, ?_, fun p7 hp7 => ?_⟩⟩
    · refine SqL.of (b4 _ _ ?_ e3)
      exact fun z => neA xr ((Live.of (hx1.trans s2)).free hp6) z.symm
    rw [cut_strs _ _ (by omega)]
    have I4 : ShopIs U P w T.k_Shop H4 x G pA fA (shop0 U) [] 0 := (I2.same s3).but b4 ⟨rn.1, rn.2.1, rn.2.2, gr⟩
    have d4 : H4 d = some (.dK []) := b4 _ _ dn.2.2.2 (s3 _ _ e2)
    have b04 : But r H H4 := fun b o nb e => b4 _ _ nb (s03 _ _ e)
    generalize hnn : (1 + r1).toNat = nn
    have nn6 : 1 ≤ nn ∧ (nn : Int) ≤ mm := by omega
    have s5 : Same H4 (upd H4 p7 (.lst ((sixN.take nn).map V.str))) := Same.new hp7
    have e5 : (upd H4 p7 (.lst ((sixN.take nn).map V.str))) p7 = some (.lst ((sixN.take nn).map V.str)) := upd_same
    have I5 := I4.same s5
    have D5 := D4.same s5
    have p7n : p7 ≠ x ∧ p7 ≠ pA ∧ p7 ≠ fA ∧ p7 ≠ r ∧ p7 ≠ d := ⟨fun z => ne_free I4.lx hp7 z.symm, fun z => ne_free I4.lp hp7 z.symm, fun z => ne_free I4.lf hp7 z.symm, fun z => neA (let ⟨_, e⟩ := D4.is; ⟨_, e⟩) hp7 z.symm, fun z => by rw [z, d4] at hp7; exact absurd hp7 (fun q => by cases q)⟩
    have b05 : But r H (upd H4 p7 (.lst ((sixN.take nn).map V.str))) := fun b o nb e => s5 _ _ (b04 b o nb e)
    have d5 := s5 _ _ d4
    generalize upd H4 p7 (.lst ((sixN.take nn).map V.str)) = H5 at s5 e5 I5 D5 b05 d5
    refine ⟨p7, rfl, ⟨_, SqL.of e5⟩, ?_⟩
    refine for_it (walk_list (K := K) (xs := (sixN.take nn).map V.str)) (fun i σ H7 => ∃ (G' : Hp) (S : ShopM U) (past : PastM U) (oth : Option V), σ = [some (.ref r), some (.int mm), some (.ref x), some (.ref d), oth] ∧ But r H H7 ∧ Dice K a ns H7 r ∧ ShopIs U P w T.k_Shop H7 x G' pA fA S past 0 ∧ S.leans = [] ∧ S.cus = [] ∧ S.sent = 0 ∧ past.length ≤ i ∧
      S.eds.map (·.1) = sixN.take i ∧ (∀ p ∈ S.eds, p.2.length ≤ 13) ∧ SomeAt H7 d S.eds [r, x, pA, fA] ∧ G' r = none ∧ G' d = none ∧ H7 p7 = some (.lst ((sixN.take nn).map V.str)))
      ⟨G, shop0 U, [], none, rfl, b05, D5, I5, rfl, rfl, rfl, Nat.zero_le _, rfl, fun _ h => absurd h (by simp [shop0]), ⟨[], d5, .nil⟩, gr, gd, e5⟩ (fun i σ H7 _ h => ?_) (fun i xv σ H7 H7' hi h y => ?_) (fun σ H7 h => ?_)
    · obtain ⟨_, _, _, _, _, _, _, _, _, _, _, _, _, _, _, _, _, e⟩ := h
      exact SqL.of e
    · obtain ⟨rfl, hx'⟩ := y
      rw [List.getElem?_map] at hx'
      obtain ⟨n, hn, rfl⟩ := Option.map_eq_some_iff.mp hx'
      clear hx'
      obtain ⟨G', S, past, oth, rfl, b7, D7, I7, S1, S2, S3, pl, S4, S5, S6, g1', g2', e7⟩ := h
      rw [List.length_map, List.length_take] at hi
      have hi6 : i < 6 := Nat.lt_of_lt_of_le hi (Nat.min_le_right _ _)
      have hn6 : sixN[i]? = some n := by
        rw [List.getElem?_take_of_lt (by omega)] at hn
        exact hn
      obtain ⟨nOk, n8⟩ := six_ok n (List.mem_of_getElem? hn6)
      have sl : S.eds.length = i := by
        have := congrArg List.length S4
        rw [List.length_map, List.length_take] at this
        have e6 : sixN.length = 6 := rfl
        omega
      have nin : n ∉ S.eds.map (·.1) := by
        rw [S4]
        intro z
        obtain ⟨j, hj⟩ := List.mem_iff_getElem?.mp z
        have jl := (List.getElem?_eq_some_iff.mp hj).1
        rw [List.length_take] at jl
        rw [List.getElem?_take_of_lt (by omega)] at hj
        obtain ⟨l1, e1⟩ := List.getElem?_eq_some_iff.mp hj
        obtain ⟨l2, e2'⟩ := List.getElem?_eq_some_iff.mp hn6
        have := (List.getElem_inj six_nd).mp (e1.trans e2'.symm)
        omega
      have nE : edOf S.eds n = none := edOf_none.mpr nin
      obtain ⟨kvs, bs, dk, kl, kk, kv, bk, hb⟩ := S6.list
      refine ⟨_, rfl, _, rfl, .inr (.inr (.inl ⟨rfl, .inl ⟨_, dk⟩⟩)), d, kvs, rfl, rfl, dk, fun vw hvw => ?_⟩
      have s8 : Same H7' (upd H7' vw (valsO vw d)) := Same.new hvw
      refine ⟨vw, d, kvs, rfl, upd_same, s8 _ _ dk, fun q hq => ?_⟩
      generalize upd H7' vw (valsO vw d) = H8 at s8 hq
      have s9 : Same H8 (upd H8 q (.lst (kvs.map (·.2)))) := Same.new hq
      have e9 : (upd H8 q (.lst (kvs.map (·.2)))) q = some (.lst (kvs.map (·.2))) := upd_same
      have s79 : Same H7' (upd H8 q (.lst (kvs.map (·.2)))) := s8.trans s9
      generalize upd H8 q (.lst (kvs.map (·.2))) = H9 at s9 e9 s79
      have D9 := D7.same s79
      have I9 := I7.same s79
      have hqr : q ≠ r := fun z => neA (let ⟨_, e⟩ := D7.is; ⟨_, s8 _ _ e⟩) hq z.symm
      have bl : bs.length = i := by have := congrArg List.length bk; rw [List.length_map, List.length_map, sl] at this; exact this
      refine ⟨a, ns, r, q, bs, rfl, D9, hqr, by rw [← kv]; exact e9, by omega, fun b hbm => ?_, fun H10 p es b10 D10 hp10 e10 bes les => ?_⟩
      · obtain ⟨h1, h2⟩ := hb b hbm
        have h3 : b.2 ∈ S.eds.map (·.2) := by rw [← bk]; exact List.mem_map.mpr ⟨b, hbm, rfl⟩
        obtain ⟨pp, hpp, e3⟩ := List.mem_map.mp h3
        exact ⟨fun z => h1 (by rw [z]; simp), s79 _ _ h2, by rw [← e3]; exact (I7.ok pp hpp).1, by rw [← e3]; exact S5 pp hpp⟩
      have I10 : ShopIs U P w T.k_Shop H10 x G' pA fA S past 0 := I9.but b10 ⟨rn.1, rn.2.1, rn.2.2, g1'⟩
      have dk10 : H10 d = some (.dK kvs) := b10 _ _ dn.2.2.2 (s79 _ _ dk)
      have pn : p ≠ x ∧ p ≠ pA ∧ p ≠ fA ∧ p ≠ r ∧ p ≠ d := ⟨fun z => ne_free I9.lx hp10 z.symm, fun z => ne_free I9.lp hp10 z.symm, fun z => ne_free I9.lf hp10 z.symm, fun z => neA (let ⟨_, e⟩ := D9.is; ⟨_, e⟩) hp10 z.symm, fun z => by rw [z, s79 _ _ dk] at hp10; exact absurd hp10 (fun q => by cases q)⟩
      have vn : valV kvs (.inr n : Key) = none := some_val (by
        rw [kk]
        intro z
        obtain ⟨pp, hpp, e3⟩ := List.mem_map.mp z
        exact nin (List.mem_map.mpr ⟨pp, hpp, Sum.inr.inj e3⟩))
      refine ⟨_, rfl, _, rfl, d, _, rfl, DPut.k (k := .inr n) dk10 (sizeL2 (by omega)), ?_⟩
      rw [putK_new _ vn]
      have e11 : (upd H10 d (.dK (kvs ++ [((.inr n : Key), V.ref p)]))) d = some (.dK (kvs ++ [((.inr n : Key), V.ref p)])) := upd_same
      have k11 : KeepM [d] H10 (upd H10 d (.dK (kvs ++ [((.inr n : Key), V.ref p)]))) := KeepM.upd (by simp)
      generalize upd H10 d (.dK (kvs ++ [((.inr n : Key), V.ref p)])) = H11 at e11 k11
      have I11 : ShopIs U P w T.k_Shop H11 x G' pA fA S past 0 := I10.but (d := d) (fun b o nb e => k11 b o (by simpa using nb) e) ⟨dn.1, dn.2.1, dn.2.2.1, g2'⟩
      obtain ⟨dx', e', l', c', hob, M⟩ := id I11.ob
      have p11 : H11 p = some (.lst (es.map V.int)) := k11 _ _ (by simpa using pn.2.2.2.2) e10
      have g11 : DGet H11 d (.str n) (some (.ref p)) := by
        have g := DGet.k (k := (.inr n : Key)) e11
        rw [valV_snoc _ _ _ _ vn, if_pos rfl] at g
        exact g
      refine ⟨_, rfl, x, dx', _, rfl, hob, rfl, _, rfl, _, rfl, _, rfl, d, _, rfl, g11, p, es, rfl, SqL.of p11, bes, x, G', pA, fA, S, past, 0, n, es, rfl, I11, by omega, by omega, by omega, bes, (fun z => absurd z (by rw [nOk]; exact fun q => by cases q)), ?_⟩
      refine ⟨fun _ z => absurd nE z, fun _ _ z => absurd z (by omega), fun _ _ _ z => absurd z (by omega), fun _ _ _ _ H12 G12 q12 E12 I12 => ?_⟩
      have b12 : But r H H12 := fun b o nb e => by
        have nb2 : b ≠ d := fun z => by rw [z, hdH] at e; cases e
        have nb3 : b ∉ [x, pA, fA] := fun z => by
          simp only [List.mem_cons, List.not_mem_nil, or_false] at z
          rcases z with z | z | z
          · rw [z, hx] at e; cases e
          · rw [z, hpH] at e; cases e
          · rw [z, hfH] at e; cases e
        exact q12 _ _ nb3 (k11 _ _ (by simpa using nb2) (b10 _ _ nb (s79 _ _ (b7 _ _ nb e))))
      have kr : ∀ b o, b ≠ r → b ≠ d → b ∉ [x, pA, fA] → H7' b = some o → H12 b = some o := fun b o h1 h2 h3 e => q12 _ _ h3 (k11 _ _ (by simpa using h2) (b10 _ _ h1 (s79 _ _ e)))
      have r11 : ∃ o, H11 r = some o ∧ NT o := by
        obtain ⟨xs, e⟩ := D10.is
        exact ⟨_, k11 _ _ (by simpa using dn.2.2.2.symm) e, fun _ z => by cases z⟩
      have D12 : Dice K a ns H12 r := by
        obtain ⟨h1, h2, p0, m0, g0, h3, h4⟩ := D10
        refine ⟨D0.is.elim fun xs e => sq_but b12 e D0.sq, h2, p0, m0, g0, h3, q12 _ _ ?_ (k11 _ _ (by simpa using dn.2.2.2.symm) h4)⟩
        simp only [List.mem_cons, List.not_mem_nil, or_false, not_or]
        exact rn
      have d12 : H12 d = some (.dK (kvs ++ [((.inr n : Key), V.ref p)])) := q12 _ _ (by simp only [List.mem_cons, List.not_mem_nil, or_false, not_or]; exact ⟨dn.1, dn.2.1, dn.2.2.1⟩) e11
      refine ⟨G12, S.put n es, past ++ [(.put n es, S)], _, rfl, b12, D12, I12, S1, S2, S3, by rw [List.length_append]; simp; omega, ?_, ?_, ?_, ?_, ?_, ?_⟩
      · show (S.eds ++ [(n, es)]).map (·.1) = _
        rw [List.map_append, S4, List.take_succ, hn6]
        rfl
      · intro pp hpp
        rcases List.mem_append.mp (show pp ∈ S.eds ++ [(n, es)] from hpp) with hpp | hpp
        · exact S5 pp hpp
        · rw [List.mem_singleton.mp hpp]; exact les
      · obtain ⟨kvs2, dk2, pr⟩ := S6
        rw [dk] at dk2
        cases dk2
        refine ⟨_, d12, Paired.snoc (pairedMap pr fun kv pp ⟨h1, q1, h2, h3, h4⟩ => ⟨h1, q1, h2, h3, kr q1 _ (fun z => h3 (by simp [z])) (fun z => by rw [z, dk] at h4; cases h4) (fun z => h3 (by simp at z ⊢; exact .inr z)) h4⟩) ⟨rfl, p, rfl, ?_, ?_⟩⟩
        · simp only [List.mem_cons, List.not_mem_nil, or_false, not_or]
          exact ⟨pn.2.2.2.1, pn.1, pn.2.1, pn.2.2.1⟩
        · exact q12 _ _ (by simp only [List.mem_cons, List.not_mem_nil, or_false, not_or]; exact ⟨pn.1, pn.2.1, pn.2.2.1⟩) p11
      · obtain ⟨o, e, nt⟩ := r11
        exact E12.new _ _ g1' e nt
      · exact E12.new _ _ g2' e11 (fun _ z => by cases z)
      · exact kr _ _ p7n.2.2.2.1 p7n.2.2.2.2 (by simp only [List.mem_cons, List.not_mem_nil, or_false, not_or]; exact ⟨p7n.1, p7n.2.1, p7n.2.2.1⟩) e7
    · obtain ⟨G', S, past, oth, rfl, b7, D7, I7, S1, S2, S3, pl, S4, S5, S6, g1', g2', e7⟩ := h
      have e6 : sixN.length = 6 := rfl
      rw [List.length_map, List.length_take] at pl S4
      have sl : S.eds.length = min nn sixN.length := by
        have := congrArg List.length S4
        rw [List.length_map, List.length_take] at this
        omega
      refine ⟨_, rfl, _, rfl, sizeS (by show 2 ≤ 100000; decide), fun t ht => ?_⟩
      have s9 : Same H7 (upd H7 t (.tup [.ref x, .ref d])) := Same.new ht
      refine k _ x G' pA fA d t S past (fun b o nb e => s9 _ _ (b7 b o nb e)) (D7.same s9) (I7.same s9) S1 S2 S3 (by omega) (fun z => by rw [z] at sl; simp at sl; omega) (by omega) (by rw [sl]; exact S4) S5 hx hpH hfH hdH g1' g2' (S6.keep fun b o _ e => s9 _ _ e) upd_same
end
/-! ### all ways, as the law goes through them -/
def aw : Nat → List Str → List Str → Str → List (List Str)
  | 0, _, _, _ => []
  | n + 1, names, line, g => if line.getLast? = some g then [line] else names.flatMap fun x => if x ∈ line then [] else aw n names (line ++ [x]) g
theorem aw_len {names : List Str} (hn : names.length ≤ 6) : ∀ (n : Nat) (line : List Str) (g : Str), (aw n names line g).length ≤ 6 ^ n
  | 0, _, _ => by simp [aw]
  | n + 1, line, g => by
    unfold aw
    split
    · rw [List.length_singleton]
      exact Nat.pow_pos (by decide)
    · have go : ∀ l : List Str, (l.flatMap fun x => if x ∈ line then [] else aw n names (line ++ [x]) g).length ≤ l.length * 6 ^ n := fun l => by
        induction l with
        | nil => simp
        | cons x l ih =>
          rw [List.flatMap_cons, List.length_append, List.length_cons, Nat.succ_mul]
          have h1 : (if x ∈ line then [] else aw n names (line ++ [x]) g).length ≤ 6 ^ n := by
            split
            · simp
            · exact aw_len hn n _ g
          omega
      have h1 := go names
      have h2 : names.length * 6 ^ n ≤ 6 * 6 ^ n := Nat.mul_le_mul_right _ hn
      rw [Nat.pow_succ]
      omega
/-- what is left -/
def leftN (names line : List Str) : Nat := (names.filter fun x => !decide (x ∈ line)).length
theorem leftN_step {names line : List Str} {x : Str} (hx : x ∈ names) (hl : x ∉ line) : leftN names (line ++ [x]) < leftN names line := by
  unfold leftN
  have h : ∀ l : List Str, (l.filter fun y => !decide (y ∈ line ++ [x])).length ≤ (l.filter fun y => !decide (y ∈ line)).length ∧ (x ∈ l → (l.filter fun y => !decide (y ∈ line ++ [x])).length < (l.filter fun y => !decide (y ∈ line)).length) := fun l => by
    induction l with
    | nil => exact ⟨Nat.le_refl _, fun h => absurd h (by simp)⟩
    | cons y l ih =>
      rw [List.filter_cons, List.filter_cons]
      by_cases hy : y ∈ line
      · have e1 : (!decide (y ∈ line ++ [x])) = false := by rw [decide_eq_true (List.mem_append_left _ hy)]; rfl
        have e2 : (!decide (y ∈ line)) = false := by rw [decide_eq_true hy]; rfl
        rw [e1, e2]
        simp only [Bool.false_eq_true, if_false]
        refine ⟨ih.1, fun h => ?_⟩
        rcases List.mem_cons.mp h with rfl | h
        · exact absurd hy hl
        · exact ih.2 h
      · have e2 : (!decide (y ∈ line)) = true := by rw [decide_eq_false hy]; rfl
        rw [e2]
        simp only [if_true, List.length_cons]
        by_cases hyx : y = x
        · subst hyx
          have e1 : (!decide (y ∈ line ++ [y])) = false := by rw [decide_eq_true (by simp)]; rfl
          rw [e1]
          simp only [Bool.false_eq_true, if_false]
          exact ⟨by omega, fun _ => by omega⟩
        · have e1 : (!decide (y ∈ line ++ [x])) = true := by rw [decide_eq_false (by simp [hy, hyx])]; rfl
          rw [e1]
          simp only [if_true, List.length_cons]
          refine ⟨by omega, fun h => ?_⟩
          rcases List.mem_cons.mp h with h | h
          · exact absurd h.symm hyx
          · have := ih.2 h
            omega
  exact (h names).2 hx
theorem aw_mem {names : List Str} : ∀ (n : Nat) (line : List Str) (g : Str) (N : List Str), line.Nodup → line ≠ [] → leftN names line < n → (N ∈ aw n names line g ↔ ∃ e, N = line ++ e ∧ N.Nodup ∧ (∀ x ∈ e, x ∈ names) ∧ N.getLast? = some g)
  | 0, _, _, _, _, _, h => absurd h (Nat.not_lt_zero _)
  | n + 1, line, g, N, nd, ne, h => by
    unfold aw
    by_cases hl : line.getLast? = some g
    · rw [if_pos hl, List.mem_singleton]
      constructor
      · rintro rfl
        exact ⟨[], by simp, nd, fun _ h => absurd h (by simp), hl⟩
      · rintro ⟨e, rfl, h1, _, h3⟩
        rcases List.eq_nil_or_concat e with rfl | ⟨e', y, rfl⟩
        · simp
        · rw [List.concat_eq_append, ← List.append_assoc, List.getLast?_append] at h3
          obtain rfl : y = g := Option.some.inj h3
          have := (List.nodup_append.mp h1).2.2 y (List.mem_of_getLast? hl) y (by simp)
          exact absurd rfl this
    · rw [if_neg hl, List.mem_flatMap]
      constructor
      · rintro ⟨x, hx, hm⟩
        by_cases hxl : x ∈ line
        · rw [if_pos hxl] at hm; cases hm
        · rw [if_neg hxl] at hm
          have nd2 : (line ++ [x]).Nodup := List.nodup_append.mpr ⟨nd, by simp, fun u hu v hv e => hxl (by rw [← List.mem_singleton.mp hv, ← e]; exact hu)⟩
          obtain ⟨e, h1, h2, h3, h4⟩ := (aw_mem n (line ++ [x]) g N nd2 (by simp) (by have := leftN_step hx hxl; omega)).mp hm
          refine ⟨x :: e, by rw [h1]; simp, h2, fun y hy => ?_, h4⟩
          rcases List.mem_cons.mp hy with rfl | hy
          · exact hx
          · exact h3 y hy
      · rintro ⟨e, rfl, h1, h2, h3⟩
        cases e with
        | nil => rw [List.append_nil] at h3; exact absurd h3 hl
        | cons x e =>
          have hx := h2 x (by simp)
          have hxl : x ∉ line := fun z => (List.nodup_append.mp h1).2.2 x z x (by simp) rfl
          have nd2 : (line ++ [x]).Nodup := List.nodup_append.mpr ⟨nd, by simp, fun u hu v hv e => hxl (by rw [← List.mem_singleton.mp hv, ← e]; exact hu)⟩
          refine ⟨x, hx, ?_⟩
          rw [if_neg hxl]
          exact (aw_mem n (line ++ [x]) g _ nd2 (by simp) (by have := leftN_step hx hxl; omega)).mpr ⟨e, by simp, h1, fun y hy => h2 y (by simp [hy]), h3⟩
theorem aw_path {names : List Str} {a g : Str} (ha : a ∈ names) {n : Nat} (hn : names.length < n) (N : List Str) : N ∈ aw n names [a] g ↔ Path names a g N := by
  have hl : leftN names [a] < n := Nat.lt_of_le_of_lt (List.length_filter_le _ _) hn
  rw [aw_mem n [a] g N (by simp) (by simp) hl]
  constructor
  · rintro ⟨e, rfl, h1, h2, h3⟩
    refine ⟨h1, fun x hx => ?_, rfl, h3⟩
    rcases List.mem_cons.mp hx with rfl | hx
    · exact ha
    · exact h2 x hx
  · rintro ⟨h1, h2, h3, h4⟩
    cases N with
    | nil => cases h3
    | cons x e =>
      obtain rfl : x = a := Option.some.inj h3
      exact ⟨e, rfl, h1, fun y hy => h2 y (by simp [hy]), h4⟩
def LineV (H : Hp) (v : V) (N : List Str) : Prop := ∃ q, v = .ref q ∧ H q = some (.lst (N.map V.str))
theorem LineV.same {H H' : Hp} {v : V} {N : List Str} (h : LineV H v N) (s : Same H H') : LineV H' v N := let ⟨q, a, b⟩ := h; ⟨q, a, s _ _ b⟩
def spAllWays (n : Nat) : Sp := fun vs H Q _ => ∃ (p q : Addr) (names line : List Str) (g : Str), vs = [.ref p, .ref q, .str g] ∧ H p = some (.lst (names.map V.str)) ∧ H q = some (.lst (line.map V.str)) ∧ names.length ≤ 6 ∧ line ≠ [] ∧ line.length + n ≤ 100 ∧ leftN names line < n ∧ n ≤ 7 ∧
  ∀ H' r vs', Same H H' → H r = none → H' r = some (.lst vs') → Paired (LineV H') vs' (aw n names line g) → Q (.ref r) H'
section
variable {P : Program} {w : World} {K : PySem.W.Frag} {mg : Str → Option Value} {base : Heap}
theorem okn_all_ways (T : All K mg) : ∀ n : Nat, FnOk P w K mg base CX0 n T.d_law_all_ways.f T.d_law_all_ways.fd ["_law_names", "_law_line", "_law_goal"] (spAllWays n)
  | 0 => ⟨fun _ _ _ _ ⟨_, _, _, _, _, _, _, _, _, _, _, h, _⟩ => absurd h (Nat.not_lt_zero _), fun _ _ _ _ _ _ _ _ _ _ _ _ _ ⟨_, _, _, _, _, _, _, _, _, _, _, h, _⟩ => absurd h (Nat.not_lt_zero _)⟩
  | n + 1 => by
    have G_law_all_ways : FnOk P w K mg base CX0 n T.d_law_all_ways.f T.d_law_all_ways.fd ["_law_names", "_law_line", "_law_goal"] (spAllWays n) := okn_all_ways T n
    refine T.d_law_all_ways.F.ok sc_law_all_ways (fun vs H Q E h => ?_) (fun cdv A outer s H vs Q E hr h => ?_)
    · obtain ⟨_, _, _, _, _, rfl, _⟩ := h
      rfl
    · obtain ⟨p, q, names, line, g, rfl, hp, hq, nl, ne, ll, fu, n7, k⟩ := h
      refine ⟨_, (pss_cons 
      (ps_if (pt_cmpR op_eq (pe_ix ix_list (pv 1) (pe_un un_neg pe_int) (fun _ _ => rfl)) (pv 2) (nomark _)) (pss_one 
      (ps_ret (pe_lst (pa_cons (pv 1) pa_nil)))) pss_nil) (pss_cons 
      (ps_set (i := 3) sc_law_all_ways.nd rfl (Or.inl rfl) (pe_lst pa_nil)) (pss_cons 
      (ps_for PassesOwn.never rfl (pi_list (pv 0)) (pg_name (i := 4) sc_law_all_ways.nd rfl (Or.inl rfl)) (pss_one 
      (ps_if (pt_cmpR op_notIn_seq (pv 4) (pv 1) (by with_unfolding_all rfl)) (pss_one 
      (ps_set (i := 3) sc_law_all_ways.nd rfl (Or.inl rfl) (pe_op op_cat (pv 3) (pe_call G_law_all_ways (hr.mono (Nat.le_refl _)) rfl T.d_law_all_ways.m T.d_law_all_ways.F.kp T.d_law_all_ways.b .nil pass0 (pa_cons (pv 0) (pa_cons (pe_op op_cat (pv 1) (pe_lst (pa_cons (pv 4) pa_nil))) (pa_cons (pv 2) pa_nil))))))) pss_nil))) (pss_one 
      (ps_ret (pv 3)))))), ?_⟩
      obtain ⟨ini, lst, hline⟩ : ∃ ini lst, line = ini ++ [lst] := by
        rcases List.eq_nil_or_concat line with z | ⟨i, l, z⟩
        · exact absurd z ne
        · exact ⟨i, l, by rw [z, List.concat_eq_append]⟩
      have hgl : line.getLast? = some lst := by rw [hline, List.getLast?_append]; rfl
      refine ⟨_, rfl, _, rfl, q, _, _, _, rfl, rfl, SqL.of hq, (by rw [hline, List.map_append]; exact atI_last _ _), _, rfl, rfl, _, rfl, ?_⟩
      by_cases hg : lst = g
      · subst hg
        rw [decide_eq_true rfl]
        refine iteT ?_
        refine ⟨_, rfl, sizeS (by show 1 ≤ 100000; decide), fun r hr => ?_⟩
        refine k _ r _ (Same.new hr) hr upd_same ?_
        have e : aw (n + 1) names line lst = [line] := by unfold aw; rw [if_pos hgl]
        rw [e]
        exact .cons ⟨q, rfl, Same.new hr _ _ hq⟩ .nil
      · rw [decide_eq_false fun z => hg (by cases z; rfl)]
        refine iteF ?_
        have e : aw (n + 1) names line g = names.flatMap fun x => if x ∈ line then [] else aw n names (line ++ [x]) g := by
          show (if line.getLast? = some g then _ else _) = _
          rw [if_neg]
          rw [hgl]
          exact fun z => hg (Option.some.inj z)
        rw [e] at k
        refine ⟨sizeS (by show 0 ≤ 100000; decide), fun R hR => ?_⟩
        refine ⟨_, rfl, p, rfl, ⟨_, SqL.of (Same.new hR _ _ hp)⟩, ?_⟩
        let F : Str → List (List Str) := fun x => if x ∈ line then [] else aw n names (line ++ [x]) g
        have Fl : ∀ i, ((names.take i).flatMap F).length ≤ 6 * 6 ^ n := fun i => by
          have h1 : ∀ l : List Str, (l.flatMap F).length ≤ l.length * 6 ^ n := fun l => by
            induction l with
            | nil => simp
            | cons x l ih =>
              rw [List.flatMap_cons, List.length_append, List.length_cons, Nat.succ_mul]
              have h1 : (F x).length ≤ 6 ^ n := by
                show (if x ∈ line then [] else aw n names (line ++ [x]) g).length ≤ _
                split
                · simp
                · exact aw_len nl n _ g
              omega
          have h2 := h1 (names.take i)
          have h3 : (names.take i).length * 6 ^ n ≤ 6 * 6 ^ n := Nat.mul_le_mul_right _ (by rw [List.length_take]; omega)
          omega
        have big : 6 ^ n ≤ 46656 := Nat.le_trans (Nat.pow_le_pow_right (by decide) (show n ≤ 6 by omega)) (by decide)
        refine for_it (walk_list (K := K) (xs := names.map V.str)) (fun i σ H1 => Same H H1 ∧ ∃ (r : Addr) (vs' : List V) (o : Option V), σ = [some (.ref p), some (.ref q), some (.str g), some (.ref r), o] ∧ H r = none ∧ H1 r = some (.lst vs') ∧ Paired (LineV H1) vs' ((names.take i).flatMap F)) ⟨Same.new hR, R, [], none, rfl, hR, upd_same, .nil⟩ (fun i σ H1 _ h => SqL.of (h.1 _ _ hp)) (fun i xv σ H1 H1' hi h y => ?_) (fun σ H1 h => ?_)
        · obtain ⟨rfl, hx⟩ := y
          rw [List.getElem?_map] at hx
          obtain ⟨x, hx', rfl⟩ := Option.map_eq_some_iff.mp hx
          clear hx
          obtain ⟨s1, r, vs', o, rfl, fr, hr', pr⟩ := h
          have tk : (names.take (i + 1)).flatMap F = (names.take i).flatMap F ++ F x := by
            rw [List.take_succ, hx', List.flatMap_append]
            simp
          refine ⟨_, rfl, _, rfl, q, _, rfl, .inl (SqL.of (s1 _ _ hq)), rfl, flat_strs _, _, rfl, ?_⟩
          show if (!inV (.str x) (line.map V.str)) = true then _ else _
          rw [inV_strs]
          by_cases hxl : x ∈ line
          · rw [decide_eq_true hxl]
            refine iteF ⟨s1, r, vs', _, rfl, fr, hr', ?_⟩
            rw [tk, show F x = [] from if_pos hxl, List.append_nil]
            exact pr
          · rw [decide_eq_false hxl]
            refine iteT ?_
            have fx : F x = aw n names (line ++ [x]) g := if_neg hxl
            refine ⟨_, rfl, _, rfl, _, rfl, _, rfl, sizeS (by show 1 ≤ 100000; decide), fun p1 hp1 => ?_⟩
            have s2 : Same H1' (upd H1' p1 (.lst [.str x])) := Same.new hp1
            have e2 : (upd H1' p1 (.lst [.str x])) p1 = some (.lst [.str x]) := upd_same
            generalize upd H1' p1 (.lst [.str x]) = H2 at s2 e2
            refine ⟨q, p1, _, _, rfl, rfl, s2 _ _ (s1 _ _ hq), e2, sizeS (by
              rw [List.length_map]
              show line.length + 1 ≤ _
              omega), fun q2 hq2 => ?_⟩
            have s3 : Same H2 (upd H2 q2 (.lst ((line ++ [x]).map V.str))) := Same.new hq2
            have e3 : (upd H2 q2 (.lst ((line ++ [x]).map V.str))) q2 = some (.lst ((line ++ [x]).map V.str)) := upd_same
            have eap : line.map V.str ++ [V.str x] = (line ++ [x]).map V.str := by rw [List.map_append]; rfl
            rw [eap]
            have s13 := s2.trans s3
            generalize upd H2 q2 (.lst ((line ++ [x]).map V.str)) = H3 at s3 e3 s13
            refine ⟨_, rfl, p, q2, names, line ++ [x], g, rfl, s13 _ _ (s1 _ _ hp), e3, nl, by simp, by rw [List.length_append]; simp; omega, by have := leftN_step (List.mem_of_getElem? hx') hxl; omega, by omega, fun H4 r4 vs4 s4 f4 e4 p4 => ?_⟩
            have pl : vs'.length ≤ 300000 := by
              rw [Paired.length pr]
              have := Fl i
              omega
            have pl4 : vs4.length ≤ 46656 := by
              rw [Paired.length p4]
              have := aw_len nl n (line ++ [x]) g
              omega
            have s14 := s13.trans s4
            refine ⟨r, r4, _, _, rfl, rfl, s14 _ _ hr', e4, by rw [sizeLine_eq]; omega, fun r5 hr5 => ?_⟩
            have s5 : Same H4 (upd H4 r5 (.lst (vs' ++ vs4))) := Same.new hr5
            refine ⟨(s1.trans s14).trans s5, r5, vs' ++ vs4, _, rfl, (Live.of (s1.trans s14)).free hr5, upd_same, ?_⟩
            rw [tk, fx]
            exact pairedApp (pairedMap pr fun _ _ z => z.same (s14.trans s5)) (pairedMap p4 fun _ _ z => z.same s5)
        · obtain ⟨s1, r, vs', o, rfl, fr, hr', pr⟩ := h
          rw [List.length_map, List.take_length] at pr
          exact ⟨_, rfl, k H1 r vs' s1 fr hr' pr⟩
end
/-! ### what stands while a law goes on: the dice at r, the shop at x, and things that no one changes -/
structure LwS (K : PySem.W.Frag) (U : CuK) (P : Program) (w : World) (kS a : Addr) (ns : List Int) (r x pA fA : Addr) (S : ShopM U) (past : PastM U) (ks : List (Addr × HO)) (H G : Hp) (m : Nat) : Prop where
  dice : Dice K a ns H r
  shop : ShopIs U P w kS H x G pA fA S past m
  gr : G r = none
  off : r ≠ x ∧ r ≠ pA ∧ r ≠ fA
  af : (a ≠ x ∧ a ≠ pA ∧ a ≠ fA) ∨ ∀ H', SqL K H' a (ns.map V.int)
  ks : ∀ b ∈ ks, H b.1 = some b.2 ∧ b.1 ≠ r ∧ b.1 ≠ x ∧ b.1 ≠ pA ∧ b.1 ≠ fA
section
variable {K : PySem.W.Frag} {U : CuK} {P : Program} {w : World} {kS a : Addr} {ns : List Int} {r x pA fA : Addr} {S : ShopM U} {past : PastM U} {ks : List (Addr × HO)} {H H' G G' : Hp} {m m' : Nat}
theorem LwS.same (L : LwS K U P w kS a ns r x pA fA S past ks H G m) (s : Same H H') : LwS K U P w kS a ns r x pA fA S past ks H' G m :=
  ⟨L.dice.same s, L.shop.same s, L.gr, L.off, L.af, fun b hb => ⟨s _ _ (L.ks b hb).1, (L.ks b hb).2⟩⟩
theorem LwS.up (L : LwS K U P w kS a ns r x pA fA S past ks H G m) (h : m ≤ m') : LwS K U P w kS a ns r x pA fA S past ks H G m' := ⟨L.dice, L.shop.up h, L.gr, L.off, L.af, L.ks⟩
theorem LwS.taken (L : LwS K U P w kS a ns r x pA fA S past ks H G m) (b : But r H H') (D : Dice K a ns H' r) : LwS K U P w kS a ns r x pA fA S past ks H' G m :=
  ⟨D, L.shop.but b ⟨L.off.1, L.off.2.1, L.off.2.2, L.gr⟩, L.gr, L.off, L.af, fun u hu => ⟨b _ _ (L.ks u hu).2.1 (L.ks u hu).1, (L.ks u hu).2⟩⟩
theorem LwS.live (L : LwS K U P w kS a ns r x pA fA S past ks H G m) : ∃ o, H r = some o ∧ NT o := by
  obtain ⟨xs, e⟩ := L.dice.is
  exact ⟨_, e, fun _ z => by cases z⟩
/-- a deed, or a question that fills the store -/
theorem LwS.deed (L : LwS K U P w kS a ns r x pA fA S past ks H G m) {S' : ShopM U} {past' : PastM U} (q : KeepM [x, pA, fA] H H') (E : ExtG H G G') (I : ShopIs U P w kS H' x G' pA fA S' past' m') : LwS K U P w kS a ns r x pA fA S' past' ks H' G' m' := by
  obtain ⟨h1, h2, p, m0, g, h3, h4⟩ := L.dice
  obtain ⟨o, e, nt⟩ := L.live
  have off : ∀ {b : Addr}, b ≠ x ∧ b ≠ pA ∧ b ≠ fA → b ∉ [x, pA, fA] := fun {b} h => by
    simp only [List.mem_cons, List.not_mem_nil, or_false, not_or]
    exact h
  refine ⟨⟨?_, h2, p, m0, g, h3, q _ _ (off L.off) h4⟩, I, E.new _ _ L.gr e nt, L.off, L.af, fun b hb => ?_⟩
  · rcases L.af with af | af
    · rcases h1 with (h1 | ⟨o, h1⟩) | h1
      · exact .inl (.inl (q _ _ (off af) h1))
      · exact .inl (.inr ⟨o, q _ _ (off af) h1⟩)
      · exact .inr h1
    · exact af _
  · obtain ⟨k1, k2, k3⟩ := L.ks b hb
    exact ⟨q _ _ (off k3) k1, k2, k3⟩
theorem LwS.free (L : LwS K U P w kS a ns r x pA fA S past ks H G m) {b : Addr} (h : H b = none) : b ≠ r ∧ b ≠ x ∧ b ≠ pA ∧ b ≠ fA ∧ G b = none := by
  refine ⟨fun z => ?_, fun z => ne_free L.shop.lx h z.symm, fun z => ne_free L.shop.lp h z.symm, fun z => ne_free L.shop.lf h z.symm, ?_⟩
  · obtain ⟨o, e, _⟩ := L.live
    rw [z, e] at h
    cases h
  · cases e : G b with
    | none => rfl
    | some u => rw [L.shop.sub _ _ e] at h; cases h
/-- one more that stays -/
theorem LwS.hold (L : LwS K U P w kS a ns r x pA fA S past ks H G m) {b : Addr} {o : HO} (e : H b = some o) (h : b ≠ r ∧ b ≠ x ∧ b ≠ pA ∧ b ≠ fA) : LwS K U P w kS a ns r x pA fA S past ((b, o) :: ks) H G m :=
  ⟨L.dice, L.shop, L.gr, L.off, L.af, fun u hu => by
    rcases List.mem_cons.mp hu with rfl | hu
    · exact ⟨e, h⟩
    · exact L.ks u hu⟩
theorem LwS.new (L : LwS K U P w kS a ns r x pA fA S past ks H G m) {b : Addr} {o : HO} (h : H b = none) : LwS K U P w kS a ns r x pA fA S past ((b, o) :: ks) (upd H b o) G m :=
  (L.same (Same.new h)).hold upd_same ⟨(L.free h).1, (L.free h).2.1, (L.free h).2.2.1, (L.free h).2.2.2.1⟩
theorem LwS.less (L : LwS K U P w kS a ns r x pA fA S past ks H G m) {ks' : List (Addr × HO)} (h : ∀ b ∈ ks', b ∈ ks) : LwS K U P w kS a ns r x pA fA S past ks' H G m := ⟨L.dice, L.shop, L.gr, L.off, L.af, fun b hb => L.ks b (h b hb)⟩
/-- all that stood ahead of d was made stays, d itself changes -/
theorem LwS.keepD (L : LwS K U P w kS a ns r x pA fA S past ks H G m) {d : Addr} (h : H d = none) (k : ∀ b o, b ≠ d → H b = some o → H' b = some o) : LwS K U P w kS a ns r x pA fA S past ks H' G m :=
  L.same fun b o e => k b o (fun z => by rw [z, h] at e; cases e) e
theorem LwS.at (L : LwS K U P w kS a ns r x pA fA S past ks H G m) {b : Addr} {o : HO} (h : (b, o) ∈ ks) : H b = some o := (L.ks _ h).1
theorem af_of {K : PySem.W.Frag} {H : Hp} {a x y z : Addr} {ns : List Int} (h : SqL K H a (ns.map V.int)) (hx : H x = none) (hy : H y = none) (hz : H z = none) : (a ≠ x ∧ a ≠ y ∧ a ≠ z) ∨ ∀ H', SqL K H' a (ns.map V.int) := by
  rcases h with (h | ⟨o, h⟩) | h
  · exact .inl ⟨neA ⟨_, h⟩ hx, neA ⟨_, h⟩ hy, neA ⟨_, h⟩ hz⟩
  · exact .inl ⟨neA ⟨_, h⟩ hx, neA ⟨_, h⟩ hy, neA ⟨_, h⟩ hz⟩
  · exact .inr fun H' => .inr h
end
theorem SomeAt.get {H : Hp} {d : Addr} {E : EdM} {no : List Addr} {a : Str} {es : List Int} (h : SomeAt H d E no) (he : edOf E a = some es) : ∃ q, DGet H d (.str a) (some (.ref q)) ∧ H q = some (.lst (es.map V.int)) := by
  obtain ⟨kvs, e, r⟩ := h
  have g : ∀ (E : EdM) (kvs : List (Key × V)), edOf E a = some es → Paired (fun (kv : Key × V) (p : Str × List Int) => kv.1 = .inr p.1 ∧ ∃ q, kv.2 = .ref q ∧ q ∉ no ∧ H q = some (.lst (p.2.map V.int))) kvs E → ∃ q, valV kvs (.inr a) = some (.ref q) ∧ H q = some (.lst (es.map V.int)) := fun E kvs he r => by
    induction r with
    | nil => cases he
    | @cons kv p l m h t ih =>
      obtain ⟨h1, q, h2, _, h3⟩ := h
      by_cases e : p.1 = a
      · unfold edOf at he
        rw [List.find?_cons_of_pos (by simp [e])] at he
        have he : p.2 = es := Option.some.inj he
        exact ⟨q, by rw [valV_pos (by rw [h1, e]), h2], by rw [← he]; exact h3⟩
      · unfold edOf at he
        rw [List.find?_cons_of_neg (by simp [e])] at he
        obtain ⟨q', g1, g2⟩ := ih he
        exact ⟨q', by rw [valV_neg (fun z => e (by rw [h1] at z; exact Sum.inr.inj z))]; exact g1, g2⟩
  obtain ⟨q, g1, g2⟩ := g E kvs he r
  have gg := DGet.k (k := (.inr a : Key)) e
  rw [g1] at gg
  exact ⟨q, gg, g2⟩
theorem SomeAt.same {H H' : Hp} {d : Addr} {E : EdM} {no : List Addr} (h : SomeAt H d E no) (s : Same H H') : SomeAt H' d E no := h.keep fun b o _ e => s b o e
/-- each leg's price lies between -/
theorem cost_few {E : EdM} {a b : Str} {o n : List Int} {rs : List Row} (h1 : edOf E a = some o) (h2 : edOf E b = some n) (h : IsLeast o n rs) (l1 : o.length ≤ 200) (l2 : n.length ≤ 200) : 0 ≤ costN E a b ∧ costN E a b ≤ 811 := by
  rw [costN_eq h1 h2 h]
  have := code_len (h.good l1 l2)
  omega
theorem wayCost_few {c : Str → Str → Int} : ∀ {N : List Str}, (∀ i a b, N[i]? = some a → N[i + 1]? = some b → 0 ≤ c a b ∧ c a b ≤ 811) → 0 ≤ wayCost c N ∧ wayCost c N ≤ 811 * (N.length : Int)
  | [], _ => by simp [wayCost]
  | [_], _ => by simp [wayCost]
  | a :: b :: r, h => by
    have h1 := h 0 a b rfl rfl
    have h2 := wayCost_few (c := c) (N := b :: r) fun i x y hx hy => h (i + 1) x y hx hy
    show 0 ≤ c a b + wayCost c (b :: r) ∧ c a b + wayCost c (b :: r) ≤ _
    simp only [List.length_cons] at h2 ⊢
    omega
section
variable {K : PySem.W.Frag} {U : CuK} {P : Program} {w : World} {kS a : Addr} {ns : List Int} {r x pA fA : Addr} {S : ShopM U} {past : PastM U} {ks : List (Addr × HO)} {H H' G G' : Hp} {m m' : Nat}
/-- a list of texts is none of them -/
theorem LwS.strs (L : LwS K U P w kS a ns r x pA fA S past ks H G m) {q : Addr} {N : List Str} (h : H q = some (.lst (N.map V.str))) (hn : N ≠ []) : q ≠ r ∧ q ≠ x ∧ q ≠ pA ∧ q ≠ fA := by
  obtain ⟨y, N', rfl⟩ := List.exists_cons_of_ne_nil hn
  refine ⟨?_, ?_, ?_, ?_⟩
  · rintro rfl
    obtain ⟨xs, e⟩ := L.dice.is
    rw [h] at e
    cases e
  · rintro rfl
    obtain ⟨dx, e, l, c, h1, _⟩ := L.shop.ob
    rw [h] at h1
    cases h1
  · rintro rfl
    obtain ⟨vs, h1, pr⟩ := L.shop.pt
    rw [h] at h1
    cases h1
    cases pr with
    | cons z _ =>
      obtain ⟨_, _, _, _, _, e, _⟩ := z
      cases e
  · rintro rfl
    obtain ⟨ks', h1, _⟩ := L.shop.fd
    rw [h] at h1
    cases h1
end
/-- a row of the law's ways -/
def RowW (H : Hp) (c : Str → Str → Int) (v : V) (N : List Str) : Prop := ∃ t q, v = .ref t ∧ H t = some (.tup [.int (wayCost c N), .int (N.length : Nat), .ref q]) ∧ H q = some (.lst (N.map V.str))
theorem RowW.keep {H H' : Hp} {c : Str → Str → Int} {v : V} {N : List Str} {R : Addr} {vs : List V} (h : RowW H c v N) (e : H R = some (.lst vs)) (hn : vs ≠ N.map V.str) (k : KeepM [R] H H') : RowW H' c v N := by
  obtain ⟨t, q, h1, h2, h3⟩ := h
  refine ⟨t, q, h1, k _ _ ?_ h2, k _ _ ?_ h3⟩
  · simp only [List.mem_singleton]
    exact ne_of h2 e fun z => by cases z
  · simp only [List.mem_singleton]
    exact fun z => by
      rw [z, e] at h3
      exact hn (HO.lst.inj (Option.some.inj h3))
theorem rowsW_dp {K : PySem.W.Frag} {c : Str → Str → Int} {H : Hp} : ∀ {vs : List V} {Ns : List (List Str)}, Paired (RowW H c) vs Ns → DpAll K H vs (Ns.map fun N => wkD (wayCost c N) (N.length : Nat) N)
  | _, _, .nil => .nil
  | _, _, .cons h t => by
    obtain ⟨t1, q1, rfl, e1, e2⟩ := h
    exact .cons (wk_dp (SqT.of e1) (SqL.of e2)) (rowsW_dp t)
/-- what the law takes to be near -/
def nearG (c : Str → Str → Int) (most : Int) (fs : List Str) (y : Str) : Bool := !decide (y ∈ fs) && fs.any fun k => decide (c k y ≤ most)
def ClosedF (c : Str → Str → Int) (most : Int) (L fs : List Str) : Prop := ∀ x ∈ fs, ∀ y ∈ L, x ≠ y → c x y ≤ most → y ∈ fs
structure NearI (c : Str → Str → Int) (most : Int) (L : List Str) (a : Str) (j : Nat) (fs : List Str) : Prop where
  nd : fs.Nodup
  sub : ∀ y ∈ fs, y ∈ L ∧ FarR L c most a y
  me : a ∈ fs
  cl : ClosedF c most L fs ∨ j + 1 ≤ fs.length
theorem NearI.first {c : Str → Str → Int} {most : Int} {L : List Str} {a : Str} (h : a ∈ L) : NearI c most L a 0 [a] := ⟨by simp, fun y hy => by rw [List.mem_singleton.mp hy]; exact ⟨h, .self⟩, by simp, .inr (by simp)⟩
theorem NearI.next {c : Str → Str → Int} {most : Int} {L : List Str} {a : Str} {j : Nat} {fs : List Str} (h : NearI c most L a j fs) (nd : L.Nodup) : NearI c most L a (j + 1) (fs ++ L.filter (nearG c most fs)) := by
  have mem : ∀ y, y ∈ L.filter (nearG c most fs) ↔ y ∈ L ∧ y ∉ fs ∧ ∃ k ∈ fs, c k y ≤ most := fun y => by
    rw [List.mem_filter]
    unfold nearG
    simp
  have sub : ∀ y ∈ fs ++ L.filter (nearG c most fs), y ∈ L ∧ FarR L c most a y := fun y hy => by
    rcases List.mem_append.mp hy with hy | hy
    · exact h.sub y hy
    · obtain ⟨h1, h2, k, hk, h3⟩ := (mem y).mp hy
      exact ⟨h1, (h.sub k hk).2.step h1 (fun z => h2 (by rw [← z]; exact hk)) h3⟩
  refine ⟨List.nodup_append.mpr ⟨h.nd, nd.filter _, fun u hu v hv e => ((mem v).mp hv).2.1 (by rw [← e]; exact hu)⟩, sub, List.mem_append_left _ h.me, ?_⟩
  cases e : L.filter (nearG c most fs) with
  | nil =>
    left
    rw [List.append_nil]
    intro x hx y hy ne hc
    refine Classical.byContradiction fun z => ?_
    have : y ∈ L.filter (nearG c most fs) := (mem y).mpr ⟨hy, z, x, hx, hc⟩
    rw [e] at this
    cases this
  | cons y r =>
    rcases h.cl with cl | cl
    · have : y ∈ L.filter (nearG c most fs) := by rw [e]; simp
      obtain ⟨h1, h2, k, hk, h3⟩ := (mem y).mp this
      exact absurd (cl k hk y h1 (fun z => h2 (by rw [← z]; exact hk)) h3) h2
    · right
      rw [List.length_append, List.length_cons]
      omega
theorem NearI.done {c : Str → Str → Int} {most : Int} {L : List Str} {a : Str} {fs : List Str} (h : NearI c most L a L.length fs) : ∀ y, y ∈ fs ↔ FarR L c most a y := by
  have cl : ClosedF c most L fs := by
    rcases h.cl with cl | cl
    · exact cl
    · have := nodup_leS h.nd fun y hy => (h.sub y hy).1
      omega
  refine fun y => ⟨fun hy => (h.sub y hy).2, fun hy => ?_⟩
  induction hy with
  | self => exact h.me
  | step h1 h2 h3 h4 ih => exact cl _ ih _ h2 h3 h4
theorem FarR.perm {L L' : List Str} {c : Str → Str → Int} {most : Int} {a y : Str} (p : ∀ x, x ∈ L → x ∈ L') (h : FarR L c most a y) : FarR L' c most a y := by
  induction h with
  | self => exact .self
  | step h1 h2 h3 h4 ih => exact ih.step (p _ h2) h3 h4
/-! ### the law -/
def lc53Scope : Scope := { kind := .function, names := [(".0", .local), ("_law_name", .cell), ("min", .globalImplicit), ("_law_costs", .cell), ("_law_most", .cell), ("_law_near", .cell)], isGenerator := false, isCoroutine := false }
theorem cr_minK {X : Cx} {K : PySem.W.Frag} (hc : X.calm = true) (hK : X.K = K) : CallR X (.builtin "min") (rMin K) := by subst hK; exact cr_min hc
def spLaw (K : PySem.W.Frag) : Sp := fun vs H Q _ => ∃ (a : Addr) (ns : List Int), vs = [.ref a] ∧ SqL K H a (ns.map V.int) ∧ ns.length ≤ 63 ∧ ∀ H', Q (.bl true) H'
section
variable {P : Program} {w : World} {K : PySem.W.Frag} {mg : Str → Option Value} {base : Heap}
theorem ok_law (T : All K mg) {f : Addr} {fd : FuncData} (F : Fun K "law" "law" s_law f fd) : FnOk P w K mg base CX0 9 f fd ["_law_script"] (spLaw K) := by
  have G_law_taken : FnOk P w K mg base CX0 1 T.d_law_taken.f T.d_law_taken.fd ["_law_row", "_law_many"] (spNext K) := ok_law_taken T
  have G_law_alike : FnOk P w K mg base CX0 4 T.d_law_alike.f T.d_law_alike.fd ["_law_one", "_law_due"] (spAlikeG 4) := okg_law_alike T 4
  have G_law_price : FnOk P w K mg base CX0 3 T.d_law_price.f T.d_law_price.fd ["_law_patch"] spPrice := okg_law_price T
  let U : CuK := ⟨Unit, fun _ _ _ => True, fun _ _ _ _ _ h => h⟩
  have G_law_shop : FnOk P w K mg base CX0 4 T.d_law_shop.f T.d_law_shop.fd ["_law_row", "_law_most_many"] (spLawShop K U P w T.k_Shop) := okg_law_shop T U
  have G_law_all_ways : FnOk P w K mg base CX0 7 T.d_law_all_ways.f T.d_law_all_ways.fd ["_law_names", "_law_line", "_law_goal"] (spAllWays 7) := okn_all_ways T 7
  have G_least : FnOk P w K mg base CX0 4 T.d_least.f T.d_least.fd ["old", "new"] spLeast := ok_least T
  have G_bytes_of : FnOk P w K mg base CX0 2 T.d_bytes_of.f T.d_bytes_of.fd ["numbers"] (spBytesOf K) := ok_bytes_of T
  have G_way := My.FnOk.x0G (okx_way (P := P) (w := w) (base := base) T U)
  have G_far := My.FnOk.x0G (okx_far (P := P) (w := w) (base := base) T U)
  refine F.ok sc_law (fun vs H Q E h => ?_) (fun cdv A outer s H vs Q E hr h => ?_)
  · obtain ⟨_, _, rfl, _⟩ := h
    rfl
  · obtain ⟨a, ns, rfl, hq, hl, k⟩ := h
    refine ⟨_, (pss_cons 
      (ps_set (i := 1) sc_law.nd rfl (Or.inl rfl) (pe_lst (pa_cons (pv 0) (pa_cons pe_int (pa_cons pe_int (pa_cons pe_int pa_nil)))))) (pss_cons 
      (ps_asg (pe_call G_law_shop (hr.mono (by decide)) rfl T.d_law_shop.m T.d_law_shop.F.kp T.d_law_shop.b .nil pass0 (pa_cons (pv 1) (pa_cons pe_int pa_nil))) (pg_tup rfl (pgs_cons (pg_name (i := 2) sc_law.nd rfl (Or.inl rfl)) (pgs_cons (pg_name (i := 3) sc_law.nd rfl (Or.inl rfl)) pgs_nil)))) (pss_cons 
      (ps_asg (pe_tup (pa_cons (pe_callB (call_sortedD rfl) (by rfl) T.b_sorted (by decide +kernel) (pa_cons (pv 3) pa_nil)) (pa_cons pe_dnewT pa_nil))) (pg_tup rfl (pgs_cons (pg_name (i := 4) sc_law.nd rfl (Or.inl rfl)) (pgs_cons (pg_name (i := 5) sc_law.nd rfl (Or.inr rfl)) pgs_nil)))) (pss_cons 
      (ps_for PassesOwn.never rfl (pi_list (pv 4)) (pg_name (i := 6) sc_law.nd rfl (Or.inl rfl)) (pss_one 
      (ps_for PassesOwn.never rfl (pi_list (pv 4)) (pg_name (i := 7) sc_law.nd rfl (Or.inl rfl)) (pss_one 
      (ps_if (pt_cmpR op_ne (pv 6) (pv 7) (nomark _)) (pss_one 
      (ps_dput (hu_of hr) (pv 5) (pe_tup (pa_cons (pv 6) (pa_cons (pv 7) pa_nil))) (pe_call G_law_price (hr.mono (by decide)) rfl T.d_law_price.m T.d_law_price.F.kp T.d_law_price.b .nil pass0 (pa_cons (pe_call G_least (hr.mono (by decide)) rfl T.d_least.m T.d_least.F.kp T.d_least.b .nil pass0 (pa_cons (pe_call G_bytes_of (hr.mono (by decide)) rfl T.d_bytes_of.m T.d_bytes_of.F.kp T.d_bytes_of.b .nil pass0 (pa_cons (pe_dget (hu_of hr) (pv 3) (pv 6) (fun _ _ => rfl)) pa_nil)) (pa_cons (pe_call G_bytes_of (hr.mono (by decide)) rfl T.d_bytes_of.m T.d_bytes_of.F.kp T.d_bytes_of.b .nil pass0 (pa_cons (pe_dget (hu_of hr) (pv 3) (pv 7) (fun _ _ => rfl)) pa_nil)) pa_nil))) pa_nil)) rfl)) pss_nil))))) (pss_cons 
      (ps_for PassesOwn.never rfl (pi_range1 (by rfl) T.b_range (pa_cons pe_int pa_nil)) (pg_name (i := 8) sc_law.nd rfl (Or.inl rfl)) (pss_cons 
      (ps_par (i := 6) (j := 7) (by rfl) sc_law.nd rfl rfl (by decide) rfl rfl (pa_cons (pe_ix ix_list (pv 4) (pe_call G_law_taken (hr.mono (by decide)) rfl T.d_law_taken.m T.d_law_taken.F.kp T.d_law_taken.b .nil pass0 (pa_cons (pv 1) (pa_cons (pe_callB call_len (by rfl) T.b_len PySem.boot_len (pa_cons (pv 4) pa_nil)) pa_nil))) (fun _ _ => rfl)) (pa_cons (pe_ix ix_list (pv 4) (pe_call G_law_taken (hr.mono (by decide)) rfl T.d_law_taken.m T.d_law_taken.F.kp T.d_law_taken.b .nil pass0 (pa_cons (pv 1) (pa_cons (pe_callB call_len (by rfl) T.b_len PySem.boot_len (pa_cons (pv 4) pa_nil)) pa_nil))) (fun _ _ => rfl)) pa_nil)) (by rfl)) (pss_cons 
      (ps_set (i := 9) sc_law.nd rfl (Or.inl rfl) (pe_lst pa_nil)) (pss_cons 
      (ps_for PassesOwn.never rfl (pi_list (pe_call G_law_all_ways (hr.mono (by decide)) rfl T.d_law_all_ways.m T.d_law_all_ways.F.kp T.d_law_all_ways.b .nil pass0 (pa_cons (pv 4) (pa_cons (pe_lst (pa_cons (pv 6) pa_nil)) (pa_cons (pv 7) pa_nil))))) (pg_name (i := 10) sc_law.nd rfl (Or.inr rfl)) (pss_one 
      (ps_expr (pe_bm PySem.F.plainAttrs_list PySem.F.slot_list_append PySem.F.type_list_append mt_append (pv 9) (pa_cons (pe_tup (pa_cons (pe_callB (cr_sum rfl) (by rfl) T.b_sum (by decide +kernel) (pa_cons (pe_lc (own := [("_law_k", 11)]) (g := gName 11) (tt := tYes) rfl sc_law.nd (pi_range1 (by rfl) T.b_range (pa_cons (pe_op op_sub (pe_callB call_len (by rfl) T.b_len PySem.boot_len (pa_cons (pv 10) pa_nil)) pe_int) pa_nil)) (blkOk_by (own := [("_law_k", 11)]) (N := ["_law_script", "_law_row", "_law_shop_here", "_law_some", "_law_names", "_law_costs", "_law_one", "_law_other", "_law_turn", "_law_rows", "_law_line", "_law_k", "_law_total", "_law_long_here", "_law_most", "_law_near", "_law_step", "_law_name"]) (sc := defScope s_law) (by decide +kernel)) (fun _ _ _ _ _ => (pg_name (i := 11) sc_law.nd rfl (Or.inl rfl))) (fun _ _ _ _ _ => pts_nil) (fun _ _ _ _ _ => (pe_dget (hu_of hr) (pv 5) (pe_tup (pa_cons (pe_ix (ixlK (K := K) rfl) (pv 10) (pv 11) (fun _ _ => rfl)) (pa_cons (pe_ix (ixlK (K := K) rfl) (pv 10) (pe_op op_add (pv 11) pe_int) (fun _ _ => rfl)) pa_nil))) (fun _ _ => rfl)))) pa_nil)) (pa_cons (pe_callB call_len (by rfl) T.b_len PySem.boot_len (pa_cons (pv 10) pa_nil)) (pa_cons (pv 10) pa_nil)))) pa_nil))))) (pss_cons 
      (ps_asg (pe_callB (cr_minDp rfl rfl hr.units) (by rfl) T.b_min (by decide +kernel) (pa_cons (pv 9) pa_nil)) (pg_tup rfl (pgs_cons (pg_name (i := 12) sc_law.nd rfl (Or.inl rfl)) (pgs_cons (pg_name (i := 13) sc_law.nd rfl (Or.inl rfl)) (pgs_cons (pg_name (i := 10) sc_law.nd rfl (Or.inr rfl)) pgs_nil))))) (pss_cons 
      (ps_if (pt_not (pt_val (pe_call G_law_alike (hr.mono (by decide)) rfl T.d_law_alike.m T.d_law_alike.F.kp T.d_law_alike.b .nil pass0 (pa_cons (pe_call G_way (hr.mono (by decide)) rfl T.d_way.m T.d_way.F.kp T.d_way.b .nil pass0 (pa_cons (pv 2) (pa_cons (pv 6) (pa_cons (pv 7) pa_nil)))) (pa_cons (pe_tup (pa_cons (pv 12) (pa_cons (pv 10) pa_nil))) pa_nil))))) (pss_one 
      (ps_ret pe_bl)) pss_nil) (pss_cons 
      (ps_set (i := 14) sc_law.nd rfl (Or.inr rfl) (pe_ix ix_list (pe_lst (pa_cons (pe_call G_law_taken (hr.mono (by decide)) rfl T.d_law_taken.m T.d_law_taken.F.kp T.d_law_taken.b .nil pass0 (pa_cons (pv 1) (pa_cons pe_int pa_nil))) (pa_cons (pv 12) (pa_cons (pe_callB (call_max2 rfl) (by rfl) T.b_max (by decide +kernel) (pa_cons pe_int (pa_cons (pe_op op_sub (pv 12) pe_int) pa_nil))) (pa_cons pe_int pa_nil))))) (pe_call G_law_taken (hr.mono (by decide)) rfl T.d_law_taken.m T.d_law_taken.F.kp T.d_law_taken.b .nil pass0 (pa_cons (pv 1) (pa_cons pe_int pa_nil))) (fun _ _ => rfl))) (pss_cons 
      (ps_set (i := 15) sc_law.nd rfl (Or.inr rfl) (pe_lst (pa_cons (pv 6) pa_nil))) (pss_cons 
      (ps_for PassesOwn.never rfl (pi_list (pv 4)) (pg_name (i := 16) sc_law.nd rfl (Or.inl rfl)) (pss_one 
      (ps_set (i := 15) sc_law.nd rfl (Or.inr rfl) (pe_op op_cat (pv 15) (pe_lc (own := [("_law_name", 17)]) (g := gName 17) rfl sc_law.nd (pi_list (pv 4)) (blkOk_by (own := [("_law_name", 17)]) (N := ["_law_script", "_law_row", "_law_shop_here", "_law_some", "_law_names", "_law_costs", "_law_one", "_law_other", "_law_turn", "_law_rows", "_law_line", "_law_k", "_law_total", "_law_long_here", "_law_most", "_law_near", "_law_step", "_law_name"]) (sc := defScope s_law) (by decide +kernel)) (fun _ _ _ _ _ => (pg_name (i := 17) sc_law.nd rfl (Or.inr rfl))) (fun _ _ _ _ _ => (pts_one (PW.pt (pw_and (pt_cmpR (niSKs (K := K) rfl) (pv 17) (pv 15) (by with_unfolding_all rfl)) (pw_and1 (pt_cmpR op_le (pe_callB (cr_minK (K := K) rfl rfl) (by rfl) T.b_min (by decide +kernel) (pa_cons (pe_lc (own := [("_law_k", 11)]) (g := gName 11) (tt := tYes) rfl sc_law.nd (pi_listKK (K := K) rfl (pv 15)) (blkOk_by (own := [("_law_k", 11)]) (N := ["_law_script", "_law_row", "_law_shop_here", "_law_some", "_law_names", "_law_costs", "_law_one", "_law_other", "_law_turn", "_law_rows", "_law_line", "_law_k", "_law_total", "_law_long_here", "_law_most", "_law_near", "_law_step", "_law_name"]) (sc := lc53Scope) (by decide +kernel)) (fun _ _ _ _ _ => (pg_name (i := 11) sc_law.nd rfl (Or.inl rfl))) (fun _ _ _ _ _ => pts_nil) (fun _ _ _ _ _ => (pe_dget (hu_of hr) (pv 5) (pe_tup (pa_cons (pv 11) (pa_cons (pv 17) pa_nil))) (fun _ _ => rfl)))) pa_nil)) (pv 14) (nomark _))))))) (fun _ _ _ _ _ => (pv 17))))))) (pss_one 
      (ps_if (pt_not (pt_val (pe_call G_law_alike (hr.mono (by decide)) rfl T.d_law_alike.m T.d_law_alike.F.kp T.d_law_alike.b .nil pass0 (pa_cons (pe_call G_far (hr.mono (by decide)) rfl T.d_far.m T.d_far.F.kp T.d_far.b .nil pass0 (pa_cons (pv 2) (pa_cons (pv 6) (pa_cons (pv 14) pa_nil)))) (pa_cons (pe_callB cr_sortedS (by rfl) T.b_sorted (by decide +kernel) (pa_cons (pv 15) pa_nil)) pa_nil))))) (pss_one 
      (ps_ret pe_bl)) pss_nil))))))))))) (pss_one 
      (ps_ret pe_bl))))))), ?_⟩
    refine ⟨_, rfl, sizeS (by show 4 ≤ 100000; decide), fun r hr => ?_⟩
    have s1 : Same H (upd H r (.lst [.ref a, .int 0, .int 0, .int 0])) := Same.new hr
    have D1 : Dice K a ns (upd H r (.lst [.ref a, .int 0, .int 0, .int 0])) r := ⟨s1.seq hq, hl, 0, 0, 0, by decide, upd_same⟩
    generalize upd H r (.lst [.ref a, .int 0, .int 0, .int 0]) = H1 at s1 D1
    refine ⟨_, rfl, a, ns, r, 5, rfl, D1, by decide, by decide, fun H2 x G pA fA d t S past b2 D2 I2 L1 L2 L3 pl neE leE enE e13 hx hpA hfA hd gr gd so ht => ?_⟩
    refine ⟨t, _, rfl, SqT.of ht, rfl, _, _, rfl, _, _, rfl, rfl, ?_⟩
    have xr : ∃ o, H1 r = some o := let ⟨xs, e⟩ := D1.is; ⟨_, e⟩
    have LW : LwS K U P w T.k_Shop a ns r x pA fA S past [] H2 G 0 := ⟨D2, I2, gr, ⟨neA xr hx, neA xr hpA, neA xr hfA⟩, af_of D1.sq hx hpA hfA, fun _ h => absurd h (by simp)⟩
    obtain ⟨kvs, bs, dk, kl, kk, kv, bk, hb⟩ := so.list
    refine ⟨_, rfl, d, kvs, S.eds.map (·.1), rfl, .inl dk, by rw [kk, List.map_map]; rfl, by rw [List.length_map]; omega, fun ys p pm sy hp c hc => ⟨sizeS (by show 2 ≤ 100000; decide), fun t2 ht2 => ⟨t2, _, rfl, SqT.of upd_same, rfl, _, _, rfl, _, _, rfl, rfl, ?_⟩⟩⟩
    have yl : ys.length ≤ 5 := by rw [pm.length_eq, List.length_map]; omega
    have ynd : ys.Nodup := pm.nodup_iff.mpr I2.nd
    have yE : ∀ z ∈ ys, ∃ o, edOf S.eds z = some o := fun z hz => by
      cases he : edOf S.eds z with
      | none => exact absurd (pm.mem_iff.mp hz) (edOf_none.mp he)
      | some o => exact ⟨o, rfl⟩
    have s3 : Same H2 (upd H2 p (.lst (ys.map V.str))) := Same.new hp
    have L3 : LwS K U P w T.k_Shop a ns r x pA fA S past [(p, .lst (ys.map V.str))] (upd H2 p (.lst (ys.map V.str))) G 0 := LW.new hp
    generalize upd H2 p (.lst (ys.map V.str)) = H3 at s3 L3 hc ht2 ⊢
    have s4 : Same H3 (upd (upd H3 c (.dT [])) t2 (.tup [.ref p, .ref c])) := (Same.new hc).trans (Same.new ht2)
    have c4 : (upd (upd H3 c (.dT [])) t2 (.tup [.ref p, .ref c])) c = some (.dT []) := Same.new ht2 _ _ upd_same
    generalize upd (upd H3 c (.dT [])) t2 (.tup [.ref p, .ref c]) = H4 at s4 c4 ⊢
    have p3 : H3 p = some (.lst (ys.map V.str)) := L3.at (List.mem_singleton.mpr rfl)
    have so3 : SomeAt H3 d S.eds [r, x, pA, fA] := so.same s3
    let cc := costN S.eds
    have ky : ∀ {H5}, KeepM [c] H4 H5 → Same H3 H5 := fun {H5} q b o e => q b o (fun z => by rw [List.mem_singleton.mp z, hc] at e; cases e) (s4 _ _ e)
    let CI : Nat → Nat → Hp → Prop := fun i j H5 => KeepM [c] H4 H5 ∧ ∃ kv2, H5 c = some (.dT kv2) ∧ kv2.length ≤ 6 * i + j ∧ ∀ i' j' a' b', i' < i ∨ i' = i ∧ j' < j → ys[i']? = some a' → ys[j']? = some b' → a' ≠ b' → valV kv2 [.inr a', .inr b'] = some (.int (cc a' b')) ∧ 0 ≤ cc a' b' ∧ cc a' b' ≤ 811
    refine ⟨_, rfl, p, rfl, ⟨_, SqL.of (s4 _ _ p3)⟩, ?_⟩
    refine for_it (walk_list (K := K) (xs := ys.map V.str)) (fun i σ H5 => CI i 0 H5 ∧ ∃ v6 v7, σ = [some (.ref a), some (.ref r), some (.ref x), some (.ref d), some (.ref p), some (.ref c), v6, v7, none, none, none, none, none, none, none, none, none, none]) ⟨⟨fun _ _ _ h => h, [], c4, by simp, fun i' j' a' b' h => by omega⟩, _, _, rfl⟩ (fun i σ H5 _ h => SqL.of (ky h.1.1 _ _ p3)) (fun i xv σ H5 H5' hi h y => ?_) (fun σ H5 h => ?_)
    · obtain ⟨rfl, hx'⟩ := y
      rw [List.getElem?_map] at hx'
      obtain ⟨a', ha', rfl⟩ := Option.map_eq_some_iff.mp hx'
      clear hx'
      obtain ⟨ci, v6, v7, rfl⟩ := h
      refine ⟨_, rfl, p, rfl, ⟨_, SqL.of (ky ci.1 _ _ p3)⟩, ?_⟩
      refine for_it (walk_list (K := K) (xs := ys.map V.str)) (fun j σ H5 => CI i j H5 ∧ ∃ v7, σ = [some (.ref a), some (.ref r), some (.ref x), some (.ref d), some (.ref p), some (.ref c), some (.str a'), v7, none, none, none, none, none, none, none, none, none, none]) ⟨ci, v7, rfl⟩ (fun j σ H5 _ h => SqL.of (ky h.1.1 _ _ p3)) (fun j xv σ H5 H5' hj h y => ?_) (fun σ H5 h => ?_)
      · obtain ⟨rfl, hx'⟩ := y
        rw [List.getElem?_map] at hx'
        obtain ⟨b', hb', rfl⟩ := Option.map_eq_some_iff.mp hx'
        clear hx'
        obtain ⟨⟨q5, kv2, e2, l2, p2⟩, v7, rfl⟩ := h
        refine ⟨_, rfl, _, rfl, rfl, _, rfl, ?_⟩
        by_cases hab : a' = b'
        · subst hab
          rw [decide_eq_true rfl]
          refine iteF ⟨⟨q5, kv2, e2, by omega, fun i' j' a2 b2 hh h1 h2 h3 => ?_⟩, _, rfl⟩
          rcases hh with hh | ⟨rfl, hh⟩
          · exact p2 i' j' a2 b2 (.inl hh) h1 h2 h3
          · rcases Nat.lt_or_ge j' j with z | z
            · exact p2 i' j' a2 b2 (.inr ⟨rfl, z⟩) h1 h2 h3
            · obtain rfl : j' = j := by omega
              rw [ha'] at h1
              rw [hb'] at h2
              cases h1
              cases h2
              exact absurd rfl h3
        · rw [decide_eq_false fun z => hab (by cases z; rfl)]
          refine iteT ?_
          have s35 := ky q5
          obtain ⟨oa, hoa⟩ := yE a' (List.mem_of_getElem? ha')
          obtain ⟨ob, hob⟩ := yE b' (List.mem_of_getElem? hb')
          have ka := I2.ok _ (edOf_mem hoa)
          have kb := I2.ok _ (edOf_mem hob)
          obtain ⟨q1, g1, h1⟩ := (so3.same s35).get hoa
          obtain ⟨q2, g2, h2⟩ := (so3.same s35).get hob
          refine ⟨_, rfl, _, rfl, d, _, rfl, g1, q1, oa, rfl, SqL.of h1, ka.1, _, rfl, _, rfl, d, _, rfl, g2, q2, ob, rfl, SqL.of h2, kb.1, oa, ob, rfl, ka.1, kb.1, ka.2.1, kb.2.1, fun H6 v rs s6 IL hP => ?_⟩
          refine ⟨v, rs, rfl, hP, IL.good ka.2.1 kb.2.1, fun H7 s7 => ⟨_, rfl, _, rfl, _, rfl, sizeS (by show 2 ≤ 100000; decide), fun t ht => ?_⟩⟩
          have s57 := s6.trans s7
          have s8 : Same H7 (upd H7 t (.tup [.str a', .str b'])) := Same.new ht
          have hi5 : i < 5 := by rw [List.length_map] at hi; omega
          have hj5 : j < 5 := by rw [List.length_map] at hj; omega
          refine ⟨c, _, rfl, DPut.t (k := [.inr a', .inr b']) (s8 _ _ (s57 _ _ e2)) upd_same (sizeL2 (by omega)), ⟨?_, _, upd_same, ?_, fun i' j' a2 b2 hh h1 h2 h3 => ?_⟩, _, rfl⟩
          · exact q5.trans ((KeepM.of (s57.trans s8)).trans (KeepM.upd (by simp)))
          · have := length_putK kv2 [.inr a', .inr b'] (V.int ((codeOf rs).length : Nat))
            omega
          · have cf := cost_few hoa hob IL ka.2.1 kb.2.1
            rw [valV_put]
            by_cases e : ([.inr a2, .inr b2] : List Key) = [.inr a', .inr b']
            · rw [if_pos e]
              simp only [List.cons.injEq, Sum.inr.injEq, and_true] at e
              rw [e.1, e.2]
              refine ⟨?_, cf⟩
              show _ = some (V.int (costN S.eds a' b'))
              rw [costN_eq hoa hob IL]
            · rw [if_neg e]
              rcases hh with hh | ⟨rfl, hh⟩
              · exact p2 i' j' a2 b2 (.inl hh) h1 h2 h3
              · rcases Nat.lt_or_ge j' j with z | z
                · exact p2 i' j' a2 b2 (.inr ⟨rfl, z⟩) h1 h2 h3
                · obtain rfl : j' = j := by omega
                  rw [ha'] at h1
                  rw [hb'] at h2
                  cases h1
                  cases h2
                  exact absurd rfl e
      · obtain ⟨⟨q5, kv2, e2, l2, p2⟩, v7, rfl⟩ := h
        rw [List.length_map] at l2 p2
        refine ⟨⟨q5, kv2, e2, by omega, fun i' j' a2 b2 hh h1 h2 h3 => ?_⟩, _, _, rfl⟩
        rcases hh with hh | ⟨_, hh⟩
        · rcases Nat.lt_or_ge i' i with z | z
          · exact p2 i' j' a2 b2 (.inl z) h1 h2 h3
          · obtain rfl : i' = i := by omega
            exact p2 i' j' a2 b2 (.inr ⟨rfl, (List.getElem?_eq_some_iff.mp h2).1⟩) h1 h2 h3
        · omega
    · obtain ⟨⟨q5, kv2, e2, l2, p2⟩, v6, v7, rfl⟩ := h
      rw [List.length_map] at l2 p2
      have s35 := ky q5
      have cD : ∀ a' b', a' ∈ ys → b' ∈ ys → a' ≠ b' → valV kv2 [.inr a', .inr b'] = some (.int (cc a' b')) ∧ 0 ≤ cc a' b' ∧ cc a' b' ≤ 811 := fun a' b' h1 h2 h3 => by
        obtain ⟨i, hi⟩ := List.mem_iff_getElem?.mp h1
        obtain ⟨j, hj⟩ := List.mem_iff_getElem?.mp h2
        exact p2 i j a' b' (.inl (List.getElem?_eq_some_iff.mp hi).1) hi hj h3
      have fc := L3.free hc
      have L5 : LwS K U P w T.k_Shop a ns r x pA fA S past [(c, .dT kv2), (p, .lst (ys.map V.str))] H5 G 0 := (L3.same s35).hold e2 ⟨fc.1, fc.2.1, fc.2.2.1, fc.2.2.2.1⟩
      clear so3 so ky q5 s35 p2
      have yne : ys ≠ [] := fun z => by
        rw [z] at pm
        exact neE (List.map_eq_nil_iff.mp pm.symm.eq_nil)
      have y1 : 1 ≤ ys.length := List.length_pos_iff.mpr yne
      let ks : List (Addr × HO) := [(c, .dT kv2), (p, .lst (ys.map V.str))]
      refine ⟨3, rfl, by decide, by decide, ?_⟩
      refine for_it (walk_range (lo := 0) (n := (3 : Int).toNat)) (fun i σ H6 => ∃ (G : Hp) (m : Nat) (v6 v7 v8 v9 v10 v11 v12 v13 v14 v15 v16 v17 : Option V), σ = [some (.ref a), some (.ref r), some (.ref x), some (.ref d), some (.ref p), some (.ref c), v6, v7, v8, v9, v10, v11, v12, v13, v14, v15, v16, v17] ∧ LwS K U P w T.k_Shop a ns r x pA fA S past ks H6 G m ∧ m ≤ 72 * i)
        ⟨G, 0, _, _, _, _, _, _, _, _, _, _, _, _, rfl, L5, Nat.zero_le _⟩ (fun _ _ _ _ _ => trivial) (fun i xv σ H6 H6' hi h y => ?_) (fun σ H6 _ => k _)
      obtain ⟨rfl, rfl⟩ := y
      have hi3 : i < 3 := hi
      clear L5 L3 e2 v6 v7 l2
      obtain ⟨G, m, v6, v7, v8, v9, v10, v11, v12, v13, v14, v15, v16, v17, rfl, L6, m6⟩ := h
      have P6 : H6' p = some (.lst (ys.map V.str)) := L6.at (by simp [ks])
      refine ⟨_, rfl, _, rfl, _, rfl, _, ys.length, rfl, .inl ⟨_, SqL.of P6, by rw [List.length_map]⟩, a, ns, r, (ys.length : Int), rfl, L6.dice, by omega, by omega, fun H7 r1 b7 D7 r10 r11 => ?_⟩
      have L7 := L6.taken b7 D7
      have P7 : H7 p = some (.lst (ys.map V.str)) := L7.at (by simp [ks])
      obtain ⟨za, hza⟩ : ∃ z, ys[r1.toNat]? = some z := ⟨_, List.getElem?_eq_getElem (by omega)⟩
      refine ⟨p, _, _, _, rfl, rfl, SqL.of P7, at_of (j := r1.toNat) (by omega) (by rw [List.getElem?_map, hza]; rfl), ?_⟩
      refine ⟨_, rfl, _, rfl, _, rfl, _, ys.length, rfl, .inl ⟨_, SqL.of P7, by rw [List.length_map]⟩, a, ns, r, (ys.length : Int), rfl, L7.dice, by omega, by omega, fun H8 r2 b8 D8 r20 r21 => ?_⟩
      have L8 := L7.taken b8 D8
      have P8 : H8 p = some (.lst (ys.map V.str)) := L8.at (by simp [ks])
      obtain ⟨zb, hzb⟩ : ∃ z, ys[r2.toNat]? = some z := ⟨_, List.getElem?_eq_getElem (by omega)⟩
      refine ⟨p, _, _, _, rfl, rfl, SqL.of P8, at_of (j := r2.toNat) (by omega) (by rw [List.getElem?_map, hzb]; rfl), _, _, rfl, ?_⟩
      have mA := List.mem_of_getElem? hza
      have mB := List.mem_of_getElem? hzb
      clear L6 L7 P6 P7 b7 b8 D7 D8 r10 r11 r20 r21 hza hzb
      refine ⟨sizeS (by show 0 ≤ 100000; decide), fun R hR => ?_⟩
      refine ⟨_, rfl, _, rfl, sizeS (by show 1 ≤ 100000; decide), fun q1 hq1 => ⟨_, rfl, ?_⟩⟩
      have R9 : (upd H8 R (.lst [])) R = some (.lst []) := upd_same
      have s9 : Same H8 (upd H8 R (.lst [])) := Same.new hR
      generalize upd H8 R (.lst []) = H9 at hq1 R9 s9
      have s10 : Same H9 (upd H9 q1 (.lst [.str za])) := Same.new hq1
      have e10 : (upd H9 q1 (.lst [.str za])) q1 = some (.lst [.str za]) := upd_same
      generalize upd H9 q1 (.lst [.str za]) = H10 at s10 e10
      refine ⟨p, q1, ys, [za], zb, rfl, s10 _ _ (s9 _ _ P8), e10, by omega, by simp, by simp, Nat.lt_of_le_of_lt (List.length_filter_le _ _) (by omega), by omega, fun H11 W ws s11 fW eW pW => ?_⟩
      have s8 : Same H8 H11 := (s9.trans s10).trans s11
      have L11 := L8.same s8
      have R11 : H11 R = some (.lst []) := s11 _ _ (s10 _ _ R9)
      have awm : ∀ N, N ∈ aw 7 ys [za] zb ↔ Path ys za zb N := fun N => aw_path mA (by omega) N
      have awl : (aw 7 ys [za] zb).length ≤ 279936 := aw_len (by omega) 7 [za] zb
      generalize aw 7 ys [za] zb = Ns at pW awm awl
      have WR : W ≠ R := fun z => by
        rw [z] at fW
        rw [s10 _ _ R9] at fW
        cases fW
      have kp : ∀ {H12}, KeepM [R] H11 H12 → LwS K U P w T.k_Shop a ns r x pA fA S past ks H12 G m := fun {H12} q => L8.keepD hR fun b o nb e => q b o (by simpa using nb) (s8 _ _ e)
      refine ⟨W, rfl, ⟨_, SqL.of eW⟩, ?_⟩
      refine for_it (walk_list (K := K) (xs := ws)) (fun j σ H12 => ∃ (vs' : List V) (v10 v11 : Option V), σ = [some (.ref a), some (.ref r), some (.ref x), some (.ref d), some (.ref p), some (.ref c), some (.str za), some (.str zb), some (.int (0 + (i : Int))), some (.ref R), v10, v11, v12, v13, v14, v15, v16, v17] ∧ KeepM [R] H11 H12 ∧ H12 R = some (.lst vs') ∧ Paired (RowW H12 cc) vs' (Ns.take j)) ⟨[], v10, v11, rfl, fun _ _ _ h => h, R11, .nil⟩ (fun j σ H12 _ h => SqL.of (by obtain ⟨_, _, _, _, q, _⟩ := h; exact q _ _ (by simpa using WR) eW)) (fun j xv σ H12 H12' hj h y => ?_) (fun σ H12 h => ?_)
      · obtain ⟨rfl, hx'⟩ := y
        obtain ⟨vs', v10, v11, rfl, q12, R12, p12⟩ := h
        obtain ⟨N, hN, q, rfl, eq⟩ := pairedAt pW hx'
        have PN := (awm N).mp (List.mem_of_getElem? hN)
        have Nne : N ≠ [] := fun z => by have := PN.hd; rw [z] at this; cases this
        have qR : q ≠ R := fun z => by
          rw [z, R11] at eq
          exact Nne (List.map_eq_nil_iff.mp (HO.lst.inj (Option.some.inj eq)).symm)
        have e12 : H12' q = some (.lst (N.map V.str)) := q12 _ _ (by simpa using qR) eq
        have C12 : H12' c = some (.dT kv2) := (kp q12).at (by simp [ks])
        have N5 : N.length ≤ 5 := Nat.le_trans (nodup_leS PN.nd PN.sub) yl
        have N1 : 1 ≤ N.length := List.length_pos_iff.mpr Nne
        refine ⟨_, rfl, .inl ⟨rfl, _, SqL.of R12⟩, _, rfl, _, N.length, rfl, .inl ⟨_, SqL.of e12, by rw [List.length_map]⟩, _, _, rfl, rfl, _, rfl, by omega, by omega, fun D hD => ?_⟩
        have en : ((N.length : Int) - 1).toNat = N.length - 1 := by omega
        have el : (legs cc N).length = N.length - 1 := by
          unfold legs
          rw [List.length_map, List.length_zip, List.length_tail]
          omega
        rw [en, ← el]
        refine lc_it (walk_range (lo := 0) (n := (legs cc N).length)) (fun k H13 => Same H12' H13 ∧ H13 D = some (.lst (((legs cc N).take k).map V.int))) ⟨Same.new hD, upd_same⟩ (fun _ _ _ _ => trivial) (fun k xv H13 H13' hk h y => ?_) (fun H13 h => ?_)
        · obtain ⟨rfl, rfl⟩ := y
          obtain ⟨s13, d13⟩ := h
          have hk2 : k + 1 < N.length := by omega
          obtain ⟨ka, hka⟩ : ∃ z, N[k]? = some z := ⟨_, List.getElem?_eq_getElem (by omega)⟩
          obtain ⟨kb, hkb⟩ : ∃ z, N[k + 1]? = some z := ⟨_, List.getElem?_eq_getElem hk2⟩
          have ne : ka ≠ kb := fun z => by
            obtain ⟨l1, e1⟩ := List.getElem?_eq_some_iff.mp hka
            obtain ⟨l2, e2⟩ := List.getElem?_eq_some_iff.mp hkb
            rw [← e1, ← e2] at z
            have := (List.getElem_inj PN.nd).mp z
            omega
          have cv := (cD ka kb (PN.sub _ (List.mem_of_getElem? hka)) (PN.sub _ (List.mem_of_getElem? hkb)) ne).1
          have li : (legs cc N)[k]? = some (cc ka kb) := by
            unfold legs
            rw [List.getElem?_map, (List.getElem?_zip_eq_some (z := (ka, kb))).mpr ⟨hka, by rw [List.getElem?_tail]; exact hkb⟩]
            rfl
          refine ⟨rfl, _, rfl, _, rfl, _, rfl, q, _, _, _, rfl, rfl, SqL.of (s13 _ _ e12), at_of (j := k) (by omega) (by rw [List.getElem?_map, hka]; rfl), _, rfl, _, rfl, _, _, rfl, rfl, q, _, _, _, rfl, rfl, SqL.of (s13 _ _ e12), at_of (j := k + 1) (by omega) (by rw [List.getElem?_map, hkb]; rfl), sizeS (by show 2 ≤ 100000; decide), fun t ht => ?_⟩
          have s14 : Same H13' (upd H13' t (.tup [.str ka, .str kb])) := Same.new ht
          have g := DGet.t (k := [.inr ka, .inr kb]) (s14 _ _ (s13 _ _ C12)) (b := t) upd_same
          rw [cv] at g
          refine ⟨c, _, rfl, g, _, s14 _ _ d13, sizeL2 (by rw [List.length_map, List.length_take]; omega), fun u o e => by rw [upd_ne (ne_of_none e hD)]; exact s14 _ _ (s13 _ _ e), ?_⟩
          rw [upd_same, List.take_succ, li]
          simp
        · obtain ⟨s13, d13⟩ := h
          rw [List.take_length] at d13
          refine ⟨D, _, rfl, SqL.of d13, _, rfl, _, N.length, rfl, .inl ⟨_, SqL.of (s13 _ _ e12), by rw [List.length_map]⟩, _, rfl, sizeS (by show 3 ≤ 100000; decide), fun t ht => ?_⟩
          rw [wayCost_legs]
          have s14 : Same H13 (upd H13 t (.tup [.int (wayCost cc N), .int (N.length : Nat), .ref q])) := Same.new ht
          have t14 : (upd H13 t (.tup [.int (wayCost cc N), .int (N.length : Nat), .ref q])) t = some (.tup [.int (wayCost cc N), .int (N.length : Nat), .ref q]) := upd_same
          have s15 : Same H12' (upd H13 t (.tup [.int (wayCost cc N), .int (N.length : Nat), .ref q])) := s13.trans s14
          generalize upd H13 t (.tup [.int (wayCost cc N), .int (N.length : Nat), .ref q]) = H15 at s14 t14 s15
          have R15 := s15 _ _ R12
          have vl : vs'.length ≤ 279936 := by
            rw [Paired.length p12, List.length_take]
            omega
          have vne : ∀ N' ∈ Ns, vs' ≠ N'.map V.str := fun N' hN' z => by
            have P' := (awm N').mp hN'
            cases vs' with
            | nil =>
              have := P'.hd
              rw [List.map_eq_nil_iff.mp z.symm] at this
              cases this
            | cons v vs' =>
              cases N' with
              | nil => cases z
              | cons n N' =>
                have hv := (List.cons.inj z).1
                have hc : ∃ N'', RowW H12' cc v N'' := by
                  generalize List.take j Ns = M at p12
                  cases p12 with
                  | cons h _ => exact ⟨_, h⟩
                obtain ⟨_, _, _, ev, _⟩ := hc
                rw [hv] at ev
                cases ev
          refine ⟨R, vs', _, rfl, rfl, R15, sizeL2 (by omega), vs' ++ [.ref t], _, _, rfl, (q12.trans (KeepM.of s15)).trans (KeepM.upd (by simp)), upd_same, ?_⟩
          rw [List.take_succ, hN]
          have nw : RowW H15 cc (.ref t) N := ⟨t, q, rfl, t14, s15 _ _ e12⟩
          refine Paired.snoc (pairedMem p12 fun v _ N' hN' z => ?_) (nw.keep R15 (vne N (List.mem_of_getElem? hN)) (KeepM.upd (by simp)))
          obtain ⟨t', q', z1, z2, z3⟩ := z
          exact RowW.keep (H := H15) ⟨t', q', z1, s15 _ _ z2, s15 _ _ z3⟩ R15 (vne N' (List.mem_of_mem_take hN')) (KeepM.upd (by simp))
      · obtain ⟨vs', v10, v11, rfl, q12, R12, p12⟩ := h
        rw [Paired.length pW, List.take_length] at p12
        have L12 := kp q12
        have nsne : Ns ≠ [] := fun z => by
          by_cases hab : za = zb
          · have := (awm [za]).mpr (by rw [← hab]; exact Path.self mA)
            rw [z] at this; cases this
          · have := (awm [za, zb]).mpr ((path_mid (bs := ys.filter fun z => !decide (z ∈ [za, zb])) hab (fun z => by rw [List.mem_filter]; simp) mA mB _).mpr ⟨[], rfl, List.nodup_nil, fun _ z => absurd z (by simp)⟩)
            rw [z] at this; cases this
        refine ⟨_, rfl, R, vs', _, rfl, SqL.of R12, rowsW_dp p12, fun z => nsne (List.map_eq_nil_iff.mp z), wk_alikeAll _ _ _, wk_depthAll _ _ _, fun i' v dd hv hd' hmin => ?_⟩
        obtain ⟨N, hN, t1, q, rfl, e1, e2⟩ := pairedAt p12 hv
        have PN := (awm N).mp (List.mem_of_getElem? hN)
        have Nne : N ≠ [] := fun z => by have := PN.hd; rw [z] at this; cases this
        have hdd : dd = wkD (wayCost cc N) ((N.length : Nat) : Int) N := by
          rw [List.getElem?_map, hN] at hd'
          exact (Option.some.inj hd').symm
        subst hdd
        have wayN : IsWay (S.eds.map (·.1)) cc za zb N := ⟨PN.perm fun z => pm.mem_iff, fun N' hN' => hmin _ (List.mem_map.mpr ⟨N', (awm N').mpr (hN'.perm fun z => pm.mem_iff.symm), rfl⟩)⟩
        have fewN : 0 ≤ wayCost cc N ∧ wayCost cc N ≤ 811 * (N.length : Int) := wayCost_few fun k' ka kb hka hkb => by
          have ne : ka ≠ kb := fun z => by
            obtain ⟨l1, e1⟩ := List.getElem?_eq_some_iff.mp hka
            obtain ⟨l2, e2⟩ := List.getElem?_eq_some_iff.mp hkb
            rw [← e1, ← e2] at z
            have := (List.getElem_inj PN.nd).mp z
            omega
          exact (cD ka kb (PN.sub _ (List.mem_of_getElem? hka)) (PN.sub _ (List.mem_of_getElem? hkb)) ne).2
        have N5 : N.length ≤ 5 := Nat.le_trans (nodup_leS PN.nd PN.sub) yl
        have oq := L12.strs e2 Nne
        refine ⟨t1, _, rfl, SqT.of e1, rfl, _, _, rfl, _, _, rfl, _, _, rfl, rfl, ?_⟩
        clear hmin hd' hv p12 pW R12 kp R11 awm
        have eA : edOf S.eds za ≠ none := by obtain ⟨o, e⟩ := yE za mA; rw [e]; exact fun z => nomatch z
        have eB : edOf S.eds zb ≠ none := by obtain ⟨o, e⟩ := yE zb mB; rw [e]; exact fun z => nomatch z
        have len8 : ∀ z ∈ ys, z.length ≤ 8000000 := fun z hz => by
          obtain ⟨o, e⟩ := yE z hz
          exact Nat.le_trans (I2.ok _ (edOf_mem e)).2.2 (by decide)
        refine ⟨_, rfl, _, rfl, _, rfl, x, G, pA, fA, S, past, m, za, zb, rfl, L12.shop, by omega, len8 za mA, len8 zb mB, fun z => absurd z eA, fun _ z => absurd z eB, fun _ _ H13 G13 t13 p13 N' q13 E13 I13 W13 fp13 gp13 ft13 e13 l13 => ?_⟩
        obtain rfl : N' = N := W13.one wayN
        have L13 := (L12.hold e2 oq).deed q13 E13 I13
        have Q13 : H13 q = some (.lst (N'.map V.str)) := L13.at (by simp)
        refine ⟨_, rfl, _, rfl, sizeS (by show 2 ≤ 100000; decide), fun t14 ht14 => ?_⟩
        have s14 : Same H13 (upd H13 t14 (.tup [.int (wayCost cc N'), .ref q])) := Same.new ht14
        refine ⟨.ref t13, .ref t14, rfl, ?_, fun H15 s15 => ⟨_, rfl, iteF ?_⟩⟩
        · exact .inr (.inr (.inr ⟨t13, t14, _, _, false, rfl, rfl, (fun z => by cases z), fun _ => ⟨s14 _ _ e13, upd_same⟩, .cons (.inl ⟨_, rfl, rfl⟩) (.cons (.inr (.inr (.inr ⟨p13, q, _, _, true, rfl, rfl, fun _ => ⟨s14 _ _ l13, s14 _ _ Q13⟩, (fun z => by cases z), AlkG.strs N', by rw [List.length_map]; omega⟩))) .nil), by show 2 ≤ 5000; decide⟩))
        have L15 := L13.same (s14.trans s15)
        clear e2 e1 L12 ht14 s14 s15 e13 l13 Q13 ft13 fp13 gp13
        refine ⟨_, rfl, a, ns, r, 20, rfl, L15.dice, by decide, by decide, fun H16 r3 b16 D16 r30 r31 => ?_⟩
        have L16 := L15.taken b16 D16
        refine ⟨_, rfl, _, rfl, _, _, rfl, rfl, _, _, rfl, sizeS (by show 4 ≤ 100000; decide), fun pm4 hpm4 => ?_⟩
        have L17 := L16.new (o := .lst [.int r3, .int (wayCost cc N'), .int (if wayCost cc N' - 1 > 0 then wayCost cc N' - 1 else 0), .int 0]) hpm4
        generalize upd H16 pm4 (.lst [.int r3, .int (wayCost cc N'), .int (if wayCost cc N' - 1 > 0 then wayCost cc N' - 1 else 0), .int 0]) = H17 at L17 ⊢
        refine ⟨_, rfl, a, ns, r, 4, rfl, L17.dice, by decide, by decide, fun H18 r4 b18 D18 r40 r41 => ?_⟩
        have L18 := L17.taken b18 D18
        obtain ⟨mz, hmz, mz0, mz1⟩ : ∃ mz : Int, ([.int r3, .int (wayCost cc N'), .int (if wayCost cc N' - 1 > 0 then wayCost cc N' - 1 else 0), .int 0] : List V)[r4.toNat]? = some (.int mz) ∧ 0 ≤ mz ∧ mz ≤ 10000 := by
          have : r4 = 0 ∨ r4 = 1 ∨ r4 = 2 ∨ r4 = 3 := by omega
          rcases this with rfl | rfl | rfl | rfl
          · exact ⟨_, rfl, r30, by omega⟩
          · exact ⟨_, rfl, fewN.1, by omega⟩
          · refine ⟨_, rfl, ?_⟩
            split <;> omega
          · exact ⟨_, rfl, by decide, by decide⟩
        refine ⟨pm4, _, _, _, rfl, rfl, SqL.of (L18.at (b := pm4) (by simp)), at_of (j := r4.toNat) (by omega) hmz, ?_⟩
        clear hmz
        refine ⟨_, rfl, sizeS (by show 1 ≤ 100000; decide), fun F0 hF0 => ?_⟩
        have L19 := (L18.new (o := .lst [.str za]) hF0).less (ks' := (F0, .lst [.str za]) :: ks) (fun b hb => by
          rcases List.mem_cons.mp hb with rfl | hb
          · exact List.mem_cons_self
          · exact List.mem_cons_of_mem _ (List.mem_cons_of_mem _ (List.mem_cons_of_mem _ hb)))
        generalize upd H18 F0 (.lst [.str za]) = H19 at L19 ⊢
        have P19 : H19 p = some (.lst (ys.map V.str)) := L19.at (by simp [ks])
        have C19 : H19 c = some (.dT kv2) := L19.at (by simp [ks])
        refine ⟨_, rfl, p, rfl, ⟨_, SqL.of P19⟩, ?_⟩
        refine for_it (walk_list (K := K) (xs := ys.map V.str)) (fun j σ H20 => ∃ (F : Addr) (fs : List Str) (v16 : Option V), σ = [some (.ref a), some (.ref r), some (.ref x), some (.ref d), some (.ref p), some (.ref c), some (.str za), some (.str zb), some (.int (0 + (i : Int))), some (.ref R), some (.ref q), v11, some (.int (wayCost cc N')), some (.int (N'.length : Nat)), some (.int mz), some (.ref F), v16, v17] ∧ Same H19 H20 ∧ H20 F = some (.lst (fs.map V.str)) ∧ NearI cc mz ys za j fs)
          ⟨F0, [za], v16, rfl, Same.refl _, L19.at (by simp), NearI.first mA⟩ (fun j σ H20 _ h => SqL.of (by obtain ⟨_, _, _, _, s, _⟩ := h; exact s _ _ P19)) (fun j xv σ H20 H20' hj h y => ?_) (fun σ H20 h => ?_)
        · obtain ⟨rfl, hx'⟩ := y
          obtain ⟨F, fs, v16, rfl, s20, eF, ni⟩ := h
          have fl : fs.length ≤ 5 := Nat.le_trans (nodup_leS ni.nd fun y hy => (ni.sub y hy).1) yl
          have P20 := s20 _ _ P19
          have C20 := s20 _ _ C19
          refine ⟨_, rfl, _, rfl, p, rfl, ⟨_, SqL.of P20⟩, fun D hD => ?_⟩
          refine lc_it (walk_list (K := K) (xs := ys.map V.str)) (fun l H21 => Same H20' H21 ∧ H21 D = some (.lst (((ys.take l).filter (nearG cc mz fs)).map V.str))) ⟨Same.new hD, upd_same⟩ (fun l H21 _ h => SqL.of (h.1 _ _ P20)) (fun l xv H21 H21' hl h y => ?_) (fun H21 h => ?_)
          · obtain ⟨rfl, hx2⟩ := y
            rw [List.getElem?_map] at hx2
            obtain ⟨z, hz, rfl⟩ := Option.map_eq_some_iff.mp hx2
            clear hx2
            obtain ⟨s21, d21⟩ := h
            have zL := List.mem_of_getElem? hz
            have fl2 : ((ys.take l).filter (nearG cc mz fs)).length ≤ 5 := Nat.le_trans (List.length_filter_le _ _) (by rw [List.length_take]; omega)
            have tk : (ys.take (l + 1)).filter (nearG cc mz fs) = (ys.take l).filter (nearG cc mz fs) ++ (if nearG cc mz fs z = true then [z] else []) := by
              rw [List.take_succ, hz, List.filter_append]
              show _ ++ List.filter (nearG cc mz fs) [z] = _
              rw [List.filter_cons]
              rfl
            rw [tk]
            refine ⟨rfl, _, rfl, _, rfl, F, _, rfl, .inl (SqL.of (s21 _ _ eF)), rfl, flat_strs _, _, rfl, ?_⟩
            show if (!inV (.str z) (fs.map V.str)) = true then _ else _
            rw [inV_strs]
            by_cases hm : z ∈ fs
            · rw [decide_eq_true hm]
              have ng : nearG cc mz fs z = false := by unfold nearG; rw [decide_eq_true hm]; rfl
              rw [ng]
              refine iteF (iteF ⟨s21, ?_⟩)
              rw [if_neg Bool.false_ne_true, List.append_nil]
              exact d21
            · rw [decide_eq_false hm]
              refine iteT ?_
              have ng : nearG cc mz fs z = fs.any fun k => decide (cc k z ≤ mz) := by unfold nearG; rw [decide_eq_false hm]; rfl
              rw [ng]
              refine ⟨_, rfl, F, rfl, ⟨_, SqL.of (s21 _ _ eF)⟩, fun D2 hD2 => ?_⟩
              refine lc_it (walk_list (K := K) (xs := fs.map V.str)) (fun k H22 => Same H21' H22 ∧ H22 D2 = some (.lst (((fs.take k).map fun k => cc k z).map V.int))) ⟨Same.new hD2, upd_same⟩ (fun k H22 _ h => SqL.of (h.1 _ _ (s21 _ _ eF))) (fun k xv H22 H22' hk h y => ?_) (fun H22 h => ?_)
              · obtain ⟨rfl, hx3⟩ := y
                rw [List.getElem?_map] at hx3
                obtain ⟨kk, hkk, rfl⟩ := Option.map_eq_some_iff.mp hx3
                clear hx3
                obtain ⟨s22, d22⟩ := h
                have kL := ni.sub kk (List.mem_of_getElem? hkk)
                have ne : kk ≠ z := fun e => hm (by rw [← e]; exact List.mem_of_getElem? hkk)
                refine ⟨rfl, _, rfl, _, rfl, _, rfl, sizeS (by show 2 ≤ 100000; decide), fun t ht => ?_⟩
                have s23 : Same H22' (upd H22' t (.tup [.str kk, .str z])) := Same.new ht
                have g := DGet.t (k := [.inr kk, .inr z]) (s23 _ _ (s22 _ _ (s21 _ _ C20))) (b := t) upd_same
                rw [(cD kk z kL.1 zL ne).1] at g
                refine ⟨c, _, rfl, g, _, s23 _ _ d22, sizeL2 (by rw [List.length_map, List.length_map, List.length_take]; omega), fun u o e => by rw [upd_ne (ne_of_none e hD2)]; exact s23 _ _ (s22 _ _ e), ?_⟩
                rw [upd_same, List.take_succ, hkk]
                simp
              · obtain ⟨s22, d22⟩ := h
                rw [List.length_map, List.take_length] at d22
                refine ⟨D2, _, rfl, SqL.of d22, by rw [List.length_map]; exact List.length_pos_of_mem ni.me, fun mn hmn hle => ⟨_, rfl, _, _, rfl, rfl, _, rfl, ?_⟩⟩
                have eg : decide (mn ≤ mz) = fs.any fun k => decide (cc k z ≤ mz) := by
                  rw [Bool.eq_iff_iff, decide_eq_true_iff, List.any_eq_true]
                  constructor
                  · intro h
                    obtain ⟨kk, hk, e⟩ := List.mem_map.mp hmn
                    exact ⟨kk, hk, decide_eq_true (by rw [e]; exact h)⟩
                  · rintro ⟨kk, hk, h⟩
                    exact Int.le_trans (hle _ (List.mem_map.mpr ⟨kk, hk, rfl⟩)) (of_decide_eq_true h)
                rw [eg]
                have d23 := s22 _ _ d21
                by_cases fz : (fs.any fun k => decide (cc k z ≤ mz)) = true
                · rw [fz]
                  refine iteT ⟨_, rfl, _, d23, sizeL2 (by rw [List.length_map]; omega), fun u o e => by rw [upd_ne (ne_of_none e hD)]; exact s22 _ _ (s21 _ _ e), ?_⟩
                  rw [upd_same, if_pos rfl, List.map_append]
                  rfl
                · rw [Bool.eq_false_iff.mpr fz]
                  refine iteF ⟨s21.trans s22, ?_⟩
                  rw [if_neg Bool.false_ne_true, List.append_nil]
                  exact d23
          · obtain ⟨s21, d21⟩ := h
            rw [List.length_map, List.take_length] at d21
            have fl2 : (ys.filter (nearG cc mz fs)).length ≤ 5 := Nat.le_trans (List.length_filter_le _ _) yl
            refine ⟨F, D, _, _, rfl, rfl, s21 _ _ eF, d21, sizeS (by rw [List.length_map, List.length_map]; omega), fun F2 hF2 => ?_⟩
            refine ⟨F2, _, _, rfl, (s20.trans s21).trans (Same.new hF2), by rw [← List.map_append]; exact upd_same, ni.next ynd⟩
        · obtain ⟨F, fs, v16, rfl, s20, eF, ni⟩ := h
          rw [List.length_map] at ni
          have L20 := L19.same s20
          have fsne : fs ≠ [] := fun z => by have := ni.me; rw [z] at this; cases this
          have oF := L20.strs eF fsne
          have fl : fs.length ≤ 5 := Nat.le_trans (nodup_leS ni.nd fun y hy => (ni.sub y hy).1) yl
          refine ⟨_, rfl, _, rfl, _, rfl, x, G13, pA, fA, S, past, m + 36, za, mz, rfl, L20.shop, by omega, len8 za mA, by omega, by omega, fun z => absurd z eA, fun _ z => absurd ⟨mz0, mz1⟩ z, fun _ _ H23 G23 p23 zs q23 E23 I23 sz zn zm fp gp e23 => ?_⟩
          have L23 := (L20.hold eF oF).deed q23 E23 I23
          have F23 : H23 F = some (.lst (fs.map V.str)) := L23.at (by simp)
          refine ⟨_, rfl, F, fs, rfl, SqL.of F23, by omega, fun ys2 p2 pm2 so2 hp2 => ?_⟩
          have ez : ys2 = zs := by
            refine sortedS_unique ?_ so2 sz
            refine (List.perm_ext_iff_of_nodup (pm2.nodup_iff.mpr ni.nd) zn).mpr fun u => ?_
            rw [pm2.mem_iff, ni.done, zm]
            exact ⟨fun h => h.perm fun x hx => pm.mem_iff.mp hx, fun h => h.perm fun x hx => pm.mem_iff.mpr hx⟩
          subst ez
          have s24 : Same H23 (upd H23 p2 (.lst (ys2.map V.str))) := Same.new hp2
          refine ⟨.ref p23, .ref p2, rfl, ?_, fun H25 s25 => ⟨_, rfl, iteF ?_⟩⟩
          · exact .inr (.inr (.inr ⟨p23, p2, _, _, true, rfl, rfl, fun _ => ⟨s24 _ _ e23, upd_same⟩, (fun z => by cases z), AlkG.strs ys2, by rw [List.length_map, pm2.length_eq]; omega⟩))
          · exact ⟨G23, m + 36 + 36, _, _, _, _, _, _, _, _, _, _, _, _, rfl, (L23.same (s24.trans s25)).less (fun b hb => List.mem_cons_of_mem _ (List.mem_cons_of_mem _ hb)), by omega⟩
end
theorem all_mk {l : PySem.W.OpenLaw} {w : World} {K : PySem.W.Frag} {h : Heap} {mg : Str → Option Value} {fa f0 f1 f2 f3 f4 f5 f6 f7 f8 f9 f10 f11 f12 f13 f14 f15 f16 f17 f18 f19 f20 f21 f22 f23 f24 f25 f26 f27 f28 f29 f30 f31 f32 f33 f34 f35 f36 f37 f38 f39 f40 f41 f42 f43 : Addr} (X : K.In h) (G : h.Ns mainGlobals mg) (hfa : mg "law" = some (.ref fa))
    {od0 an0 od1 an1 od2 an2 od3 an3 od4 an4 od5 an5 od6 an6 od7 an7 od8 an8 od9 an9 od10 an10 od11 an11 od12 an12 od13 an13 od14 an14 od15 an15 od16 an16 od17 an17 od18 an18 od19 an19 od20 an20 od21 an21 od22 an22 od23 an23 od24 an24 od25 an25 od26 an26 od27 an27 od28 an28 od29 an29 od30 an30 od31 an31 od32 an32 od33 an33 od34 an34 od35 an35 od36 an36 od37 an37 od38 an38 od39 an39 od40 an40 od41 an41 od42 an42 od43 an43 : Option Addr} {sl0 sl1 sl2 sl3 sl4 sl5 sl6 sl7 sl8 sl9 sl10 sl11 sl12 sl13 sl14 sl15 sl16 sl17 sl18 sl19 sl20 sl21 sl22 sl23 sl24 sl25 sl26 sl27 sl28 sl29 sl30 sl31 sl32 sl33 sl34 sl35 sl36 sl37 sl38 sl39 sl40 sl41 sl42 sl43 : Array (Option Value)} {oc0 kV0 dc0 pm0 cd0 ct0 oc1 kV1 dc1 pm1 cd1 ct1 oc2 kV2 dc2 pm2 cd2 ct2 oc3 kV3 dc3 pm3 cd3 ct3 oc4 kV4 dc4 pm4 cd4 ct4 oc5 kV5 dc5 pm5 cd5 ct5 oc6 kV6 dc6 pm6 cd6 ct6 oc7 kV7 dc7 pm7 cd7 ct7 oc8 kV8 dc8 pm8 cd8 ct8 oc9 kV9 dc9 pm9 cd9 ct9 oc10 kV10 dc10 pm10 cd10 ct10 oc11 kV11 dc11 pm11 cd11 ct11 oc12 kV12 dc12 pm12 cd12 ct12 oc13 kV13 dc13 pm13 cd13 ct13 oc14 kV14 dc14 pm14 cd14 ct14 oc15 kV15 dc15 pm15 cd15 ct15 oc16 kV16 dc16 pm16 cd16 ct16 oc17 kV17 dc17 pm17 cd17 ct17 oc18 kV18 dc18 pm18 cd18 ct18 oc19 kV19 dc19 pm19 cd19 ct19 oc20 kV20 dc20 pm20 cd20 ct20 oc21 kV21 dc21 pm21 cd21 ct21 oc22 kV22 dc22 pm22 cd22 ct22 oc23 kV23 dc23 pm23 cd23 ct23 oc24 kV24 dc24 pm24 cd24 ct24 oc25 kV25 dc25 pm25 cd25 ct25 oc26 kV26 dc26 pm26 cd26 ct26 oc27 kV27 dc27 pm27 cd27 ct27 oc28 kV28 dc28 pm28 cd28 ct28 oc29 kV29 dc29 pm29 cd29 ct29 oc30 kV30 dc30 pm30 cd30 ct30 oc31 kV31 dc31 pm31 cd31 ct31 oc32 kV32 dc32 pm32 cd32 ct32 oc33 kV33 dc33 pm33 cd33 ct33 oc34 kV34 dc34 pm34 cd34 ct34 oc35 kV35 dc35 pm35 cd35 ct35 oc36 kV36 dc36 pm36 cd36 ct36 oc37 kV37 dc37 pm37 cd37 ct37 oc38 kV38 dc38 pm38 cd38 ct38 oc39 kV39 dc39 pm39 cd39 ct39 oc40 kV40 dc40 pm40 cd40 ct40 oc41 kV41 dc41 pm41 cd41 ct41 oc42 kV42 dc42 pm42 cd42 ct42 oc43 kV43 dc43 pm43 cd43 ct43 : Value}
    (a0 : PySem.W.nsIn K mainGlobals "_wall" = some (some (.ref f0)))
    (l0 : K.lookup f0 = some ⟨oc0, od0, .func (PySem.W.fnOf "_wall" "_wall" (defArgs s_wall) (defBody s_wall) (defScope s_wall) .none kV0 dc0 pm0 an0 cd0 ct0), sl0⟩)
    (c0 : PySem.W.codeIn K cd0 "_wall" = true) (k0 : PySem.W.keepIn K (.ref f0) = true)
    (a1 : PySem.W.nsIn K mainGlobals "bytes_of" = some (some (.ref f1)))
    (l1 : K.lookup f1 = some ⟨oc1, od1, .func (PySem.W.fnOf "bytes_of" "bytes_of" (defArgs s_bytes_of) (defBody s_bytes_of) (defScope s_bytes_of) .none kV1 dc1 pm1 an1 cd1 ct1), sl1⟩)
    (c1 : PySem.W.codeIn K cd1 "bytes_of" = true) (k1 : PySem.W.keepIn K (.ref f1) = true)
    (a2 : PySem.W.nsIn K mainGlobals "is_number" = some (some (.ref f2)))
    (l2 : K.lookup f2 = some ⟨oc2, od2, .func (PySem.W.fnOf "is_number" "is_number" (defArgs s_is_number) (defBody s_is_number) (defScope s_is_number) .none kV2 dc2 pm2 an2 cd2 ct2), sl2⟩)
    (c2 : PySem.W.codeIn K cd2 "is_number" = true) (k2 : PySem.W.keepIn K (.ref f2) = true)
    (a3 : PySem.W.nsIn K mainGlobals "can_be" = some (some (.ref f3)))
    (l3 : K.lookup f3 = some ⟨oc3, od3, .func (PySem.W.fnOf "can_be" "can_be" (defArgs s_can_be) (defBody s_can_be) (defScope s_can_be) .none kV3 dc3 pm3 an3 cd3 ct3), sl3⟩)
    (c3 : PySem.W.codeIn K cd3 "can_be" = true) (k3 : PySem.W.keepIn K (.ref f3) = true)
    (a4 : PySem.W.nsIn K mainGlobals "length_of" = some (some (.ref f4)))
    (l4 : K.lookup f4 = some ⟨oc4, od4, .func (PySem.W.fnOf "length_of" "length_of" (defArgs s_length_of) (defBody s_length_of) (defScope s_length_of) .none kV4 dc4 pm4 an4 cd4 ct4), sl4⟩)
    (c4 : PySem.W.codeIn K cd4 "length_of" = true) (k4 : PySem.W.keepIn K (.ref f4) = true)
    (a5 : PySem.W.nsIn K mainGlobals "check_edition" = some (some (.ref f5)))
    (l5 : K.lookup f5 = some ⟨oc5, od5, .func (PySem.W.fnOf "check_edition" "check_edition" (defArgs s_check_edition) (defBody s_check_edition) (defScope s_check_edition) .none kV5 dc5 pm5 an5 cd5 ct5), sl5⟩)
    (c5 : PySem.W.codeIn K cd5 "check_edition" = true) (k5 : PySem.W.keepIn K (.ref f5) = true)
    (a6 : PySem.W.nsIn K mainGlobals "check_patch" = some (some (.ref f6)))
    (l6 : K.lookup f6 = some ⟨oc6, od6, .func (PySem.W.fnOf "check_patch" "check_patch" (defArgs s_check_patch) (defBody s_check_patch) (defScope s_check_patch) .none kV6 dc6 pm6 an6 cd6 ct6), sl6⟩)
    (c6 : PySem.W.codeIn K cd6 "check_patch" = true) (k6 : PySem.W.keepIn K (.ref f6) = true)
    (a7 : PySem.W.nsIn K mainGlobals "size" = some (some (.ref f7)))
    (l7 : K.lookup f7 = some ⟨oc7, od7, .func (PySem.W.fnOf "size" "size" (defArgs s_size) (defBody s_size) (defScope s_size) .none kV7 dc7 pm7 an7 cd7 ct7), sl7⟩)
    (c7 : PySem.W.codeIn K cd7 "size" = true) (k7 : PySem.W.keepIn K (.ref f7) = true)
    (a8 : PySem.W.nsIn K mainGlobals "number_size" = some (some (.ref f8)))
    (l8 : K.lookup f8 = some ⟨oc8, od8, .func (PySem.W.fnOf "number_size" "number_size" (defArgs s_number_size) (defBody s_number_size) (defScope s_number_size) .none kV8 dc8 pm8 an8 cd8 ct8), sl8⟩)
    (c8 : PySem.W.codeIn K cd8 "number_size" = true) (k8 : PySem.W.keepIn K (.ref f8) = true)
    (a9 : PySem.W.nsIn K mainGlobals "first_number" = some (some (.ref f9)))
    (l9 : K.lookup f9 = some ⟨oc9, od9, .func (PySem.W.fnOf "first_number" "first_number" (defArgs s_first_number) (defBody s_first_number) (defScope s_first_number) .none kV9 dc9 pm9 an9 cd9 ct9), sl9⟩)
    (c9 : PySem.W.codeIn K cd9 "first_number" = true) (k9 : PySem.W.keepIn K (.ref f9) = true)
    (a10 : PySem.W.nsIn K mainGlobals "piece_size" = some (some (.ref f10)))
    (l10 : K.lookup f10 = some ⟨oc10, od10, .func (PySem.W.fnOf "piece_size" "piece_size" (defArgs s_piece_size) (defBody s_piece_size) (defScope s_piece_size) .none kV10 dc10 pm10 an10 cd10 ct10), sl10⟩)
    (c10 : PySem.W.codeIn K cd10 "piece_size" = true) (k10 : PySem.W.keepIn K (.ref f10) = true)
    (a11 : PySem.W.nsIn K mainGlobals "way" = some (some (.ref f11)))
    (l11 : K.lookup f11 = some ⟨oc11, od11, .func (PySem.W.fnOf "way" "way" (defArgs s_way) (defBody s_way) (defScope s_way) .none kV11 dc11 pm11 an11 cd11 ct11), sl11⟩)
    (c11 : PySem.W.codeIn K cd11 "way" = true) (k11 : PySem.W.keepIn K (.ref f11) = true)
    (a12 : PySem.W.nsIn K mainGlobals "far" = some (some (.ref f12)))
    (l12 : K.lookup f12 = some ⟨oc12, od12, .func (PySem.W.fnOf "far" "far" (defArgs s_far) (defBody s_far) (defScope s_far) .none kV12 dc12 pm12 an12 cd12 ct12), sl12⟩)
    (c12 : PySem.W.codeIn K cd12 "far" = true) (k12 : PySem.W.keepIn K (.ref f12) = true)
    (a13 : PySem.W.nsIn K mainGlobals "sizes_of" = some (some (.ref f13)))
    (l13 : K.lookup f13 = some ⟨oc13, od13, .func (PySem.W.fnOf "sizes_of" "sizes_of" (defArgs s_sizes_of) (defBody s_sizes_of) (defScope s_sizes_of) .none kV13 dc13 pm13 an13 cd13 ct13), sl13⟩)
    (c13 : PySem.W.codeIn K cd13 "sizes_of" = true) (k13 : PySem.W.keepIn K (.ref f13) = true)
    (a14 : PySem.W.nsIn K mainGlobals "way_by" = some (some (.ref f14)))
    (l14 : K.lookup f14 = some ⟨oc14, od14, .func (PySem.W.fnOf "way_by" "way_by" (defArgs s_way_by) (defBody s_way_by) (defScope s_way_by) .none kV14 dc14 pm14 an14 cd14 ct14), sl14⟩)
    (c14 : PySem.W.codeIn K cd14 "way_by" = true) (k14 : PySem.W.keepIn K (.ref f14) = true)
    (a15 : PySem.W.nsIn K mainGlobals "least" = some (some (.ref f15)))
    (l15 : K.lookup f15 = some ⟨oc15, od15, .func (PySem.W.fnOf "least" "least" (defArgs s_least) (defBody s_least) (defScope s_least) .none kV15 dc15 pm15 an15 cd15 ct15), sl15⟩)
    (c15 : PySem.W.codeIn K cd15 "least" = true) (k15 : PySem.W.keepIn K (.ref f15) = true)
    (a16 : PySem.W.nsIn K mainGlobals "one_behind_the_other" = some (some (.ref f16)))
    (l16 : K.lookup f16 = some ⟨oc16, od16, .func (PySem.W.fnOf "one_behind_the_other" "one_behind_the_other" (defArgs s_one_behind_the_other) (defBody s_one_behind_the_other) (defScope s_one_behind_the_other) .none kV16 dc16 pm16 an16 cd16 ct16), sl16⟩)
    (c16 : PySem.W.codeIn K cd16 "one_behind_the_other" = true) (k16 : PySem.W.keepIn K (.ref f16) = true)
    (a17 : PySem.W.nsIn K mainGlobals "next_pieces" = some (some (.ref f17)))
    (l17 : K.lookup f17 = some ⟨oc17, od17, .func (PySem.W.fnOf "next_pieces" "next_pieces" (defArgs s_next_pieces) (defBody s_next_pieces) (defScope s_next_pieces) .none kV17 dc17 pm17 an17 cd17 ct17), sl17⟩)
    (c17 : PySem.W.codeIn K cd17 "next_pieces" = true) (k17 : PySem.W.keepIn K (.ref f17) = true)
    (a18 : PySem.W.nsIn K mainGlobals "next_copies" = some (some (.ref f18)))
    (l18 : K.lookup f18 = some ⟨oc18, od18, .func (PySem.W.fnOf "next_copies" "next_copies" (defArgs s_next_copies) (defBody s_next_copies) (defScope s_next_copies) .none kV18 dc18 pm18 an18 cd18 ct18), sl18⟩)
    (c18 : PySem.W.codeIn K cd18 "next_copies" = true) (k18 : PySem.W.keepIn K (.ref f18) = true)
    (a19 : PySem.W.nsIn K mainGlobals "next_runs" = some (some (.ref f19)))
    (l19 : K.lookup f19 = some ⟨oc19, od19, .func (PySem.W.fnOf "next_runs" "next_runs" (defArgs s_next_runs) (defBody s_next_runs) (defScope s_next_runs) .none kV19 dc19 pm19 an19 cd19 ct19), sl19⟩)
    (c19 : PySem.W.codeIn K cd19 "next_runs" = true) (k19 : PySem.W.keepIn K (.ref f19) = true)
    (a20 : PySem.W.nsIn K mainGlobals "hangs" = some (some (.ref f20)))
    (l20 : K.lookup f20 = some ⟨oc20, od20, .func (PySem.W.fnOf "hangs" "hangs" (defArgs s_hangs) (defBody s_hangs) (defScope s_hangs) .none kV20 dc20 pm20 an20 cd20 ct20), sl20⟩)
    (c20 : PySem.W.codeIn K cd20 "hangs" = true) (k20 : PySem.W.keepIn K (.ref f20) = true)
    (a21 : PySem.W.nsIn K mainGlobals "starts" = some (some (.ref f21)))
    (l21 : K.lookup f21 = some ⟨oc21, od21, .func (PySem.W.fnOf "starts" "starts" (defArgs s_starts) (defBody s_starts) (defScope s_starts) .none kV21 dc21 pm21 an21 cd21 ct21), sl21⟩)
    (c21 : PySem.W.codeIn K cd21 "starts" = true) (k21 : PySem.W.keepIn K (.ref f21) = true)
    (a22 : PySem.W.nsIn K mainGlobals "moving" = some (some (.ref f22)))
    (l22 : K.lookup f22 = some ⟨oc22, od22, .func (PySem.W.fnOf "moving" "moving" (defArgs s_moving) (defBody s_moving) (defScope s_moving) .none kV22 dc22 pm22 an22 cd22 ct22), sl22⟩)
    (c22 : PySem.W.codeIn K cd22 "moving" = true) (k22 : PySem.W.keepIn K (.ref f22) = true)
    (a23 : PySem.W.nsIn K mainGlobals "writers_of" = some (some (.ref f23)))
    (l23 : K.lookup f23 = some ⟨oc23, od23, .func (PySem.W.fnOf "writers_of" "writers_of" (defArgs s_writers_of) (defBody s_writers_of) (defScope s_writers_of) .none kV23 dc23 pm23 an23 cd23 ct23), sl23⟩)
    (c23 : PySem.W.codeIn K cd23 "writers_of" = true) (k23 : PySem.W.keepIn K (.ref f23) = true)
    (a24 : PySem.W.nsIn K mainGlobals "cells_read" = some (some (.ref f24)))
    (l24 : K.lookup f24 = some ⟨oc24, od24, .func (PySem.W.fnOf "cells_read" "cells_read" (defArgs s_cells_read) (defBody s_cells_read) (defScope s_cells_read) .none kV24 dc24 pm24 an24 cd24 ct24), sl24⟩)
    (c24 : PySem.W.codeIn K cd24 "cells_read" = true) (k24 : PySem.W.keepIn K (.ref f24) = true)
    (a25 : PySem.W.nsIn K mainGlobals "hung_from" = some (some (.ref f25)))
    (l25 : K.lookup f25 = some ⟨oc25, od25, .func (PySem.W.fnOf "hung_from" "hung_from" (defArgs s_hung_from) (defBody s_hung_from) (defScope s_hung_from) .none kV25 dc25 pm25 an25 cd25 ct25), sl25⟩)
    (c25 : PySem.W.codeIn K cd25 "hung_from" = true) (k25 : PySem.W.keepIn K (.ref f25) = true)
    (a26 : PySem.W.nsIn K mainGlobals "lightest" = some (some (.ref f26)))
    (l26 : K.lookup f26 = some ⟨oc26, od26, .func (PySem.W.fnOf "lightest" "lightest" (defArgs s_lightest) (defBody s_lightest) (defScope s_lightest) .none kV26 dc26 pm26 an26 cd26 ct26), sl26⟩)
    (c26 : PySem.W.codeIn K cd26 "lightest" = true) (k26 : PySem.W.keepIn K (.ref f26) = true)
    (a27 : PySem.W.nsIn K mainGlobals "knots" = some (some (.ref f27)))
    (l27 : K.lookup f27 = some ⟨oc27, od27, .func (PySem.W.fnOf "knots" "knots" (defArgs s_knots) (defBody s_knots) (defScope s_knots) .none kV27 dc27 pm27 an27 cd27 ct27), sl27⟩)
    (c27 : PySem.W.codeIn K cd27 "knots" = true) (k27 : PySem.W.keepIn K (.ref f27) = true)
    (a28 : PySem.W.nsIn K mainGlobals "reached" = some (some (.ref f28)))
    (l28 : K.lookup f28 = some ⟨oc28, od28, .func (PySem.W.fnOf "reached" "reached" (defArgs s_reached) (defBody s_reached) (defScope s_reached) .none kV28 dc28 pm28 an28 cd28 ct28), sl28⟩)
    (c28 : PySem.W.codeIn K cd28 "reached" = true) (k28 : PySem.W.keepIn K (.ref f28) = true)
    (a29 : PySem.W.nsIn K mainGlobals "lightest_of" = some (some (.ref f29)))
    (l29 : K.lookup f29 = some ⟨oc29, od29, .func (PySem.W.fnOf "lightest_of" "lightest_of" (defArgs s_lightest_of) (defBody s_lightest_of) (defScope s_lightest_of) .none kV29 dc29 pm29 an29 cd29 ct29), sl29⟩)
    (c29 : PySem.W.codeIn K cd29 "lightest_of" = true) (k29 : PySem.W.keepIn K (.ref f29) = true)
    (a30 : PySem.W.nsIn K mainGlobals "bits_of" = some (some (.ref f30)))
    (l30 : K.lookup f30 = some ⟨oc30, od30, .func (PySem.W.fnOf "bits_of" "bits_of" (defArgs s_bits_of) (defBody s_bits_of) (defScope s_bits_of) .none kV30 dc30 pm30 an30 cd30 ct30), sl30⟩)
    (c30 : PySem.W.codeIn K cd30 "bits_of" = true) (k30 : PySem.W.keepIn K (.ref f30) = true)
    (a31 : PySem.W.nsIn K mainGlobals "lots_without_rings" = some (some (.ref f31)))
    (l31 : K.lookup f31 = some ⟨oc31, od31, .func (PySem.W.fnOf "lots_without_rings" "lots_without_rings" (defArgs s_lots_without_rings) (defBody s_lots_without_rings) (defScope s_lots_without_rings) .none kV31 dc31 pm31 an31 cd31 ct31), sl31⟩)
    (c31 : PySem.W.codeIn K cd31 "lots_without_rings" = true) (k31 : PySem.W.keepIn K (.ref f31) = true)
    (a32 : PySem.W.nsIn K mainGlobals "is_free" = some (some (.ref f32)))
    (l32 : K.lookup f32 = some ⟨oc32, od32, .func (PySem.W.fnOf "is_free" "is_free" (defArgs s_is_free) (defBody s_is_free) (defScope s_is_free) .none kV32 dc32 pm32 an32 cd32 ct32), sl32⟩)
    (c32 : PySem.W.codeIn K cd32 "is_free" = true) (k32 : PySem.W.keepIn K (.ref f32) = true)
    (a33 : PySem.W.nsIn K mainGlobals "is_lettered" = some (some (.ref f33)))
    (l33 : K.lookup f33 = some ⟨oc33, od33, .func (PySem.W.fnOf "is_lettered" "is_lettered" (defArgs s_is_lettered) (defBody s_is_lettered) (defScope s_is_lettered) .none kV33 dc33 pm33 an33 cd33 ct33), sl33⟩)
    (c33 : PySem.W.codeIn K cd33 "is_lettered" = true) (k33 : PySem.W.keepIn K (.ref f33) = true)
    (a34 : PySem.W.nsIn K mainGlobals "check_name" = some (some (.ref f34)))
    (l34 : K.lookup f34 = some ⟨oc34, od34, .func (PySem.W.fnOf "check_name" "check_name" (defArgs s_check_name) (defBody s_check_name) (defScope s_check_name) .none kV34 dc34 pm34 an34 cd34 ct34), sl34⟩)
    (c34 : PySem.W.codeIn K cd34 "check_name" = true) (k34 : PySem.W.keepIn K (.ref f34) = true)
    (a35 : PySem.W.nsIn K mainGlobals "without" = some (some (.ref f35)))
    (l35 : K.lookup f35 = some ⟨oc35, od35, .func (PySem.W.fnOf "without" "without" (defArgs s_without) (defBody s_without) (defScope s_without) .none kV35 dc35 pm35 an35 cd35 ct35), sl35⟩)
    (c35 : PySem.W.codeIn K cd35 "without" = true) (k35 : PySem.W.keepIn K (.ref f35) = true)
    (a36 : PySem.W.nsIn K mainGlobals "_law_taken" = some (some (.ref f36)))
    (l36 : K.lookup f36 = some ⟨oc36, od36, .func (PySem.W.fnOf "_law_taken" "_law_taken" (defArgs s_law_taken) (defBody s_law_taken) (defScope s_law_taken) .none kV36 dc36 pm36 an36 cd36 ct36), sl36⟩)
    (c36 : PySem.W.codeIn K cd36 "_law_taken" = true) (k36 : PySem.W.keepIn K (.ref f36) = true)
    (a37 : PySem.W.nsIn K mainGlobals "_law_alike" = some (some (.ref f37)))
    (l37 : K.lookup f37 = some ⟨oc37, od37, .func (PySem.W.fnOf "_law_alike" "_law_alike" (defArgs s_law_alike) (defBody s_law_alike) (defScope s_law_alike) .none kV37 dc37 pm37 an37 cd37 ct37), sl37⟩)
    (c37 : PySem.W.codeIn K cd37 "_law_alike" = true) (k37 : PySem.W.keepIn K (.ref f37) = true)
    (a38 : PySem.W.nsIn K mainGlobals "_law_numbers" = some (some (.ref f38)))
    (l38 : K.lookup f38 = some ⟨oc38, od38, .func (PySem.W.fnOf "_law_numbers" "_law_numbers" (defArgs s_law_numbers) (defBody s_law_numbers) (defScope s_law_numbers) .none kV38 dc38 pm38 an38 cd38 ct38), sl38⟩)
    (c38 : PySem.W.codeIn K cd38 "_law_numbers" = true) (k38 : PySem.W.keepIn K (.ref f38) = true)
    (a39 : PySem.W.nsIn K mainGlobals "_law_long" = some (some (.ref f39)))
    (l39 : K.lookup f39 = some ⟨oc39, od39, .func (PySem.W.fnOf "_law_long" "_law_long" (defArgs s_law_long) (defBody s_law_long) (defScope s_law_long) .none kV39 dc39 pm39 an39 cd39 ct39), sl39⟩)
    (c39 : PySem.W.codeIn K cd39 "_law_long" = true) (k39 : PySem.W.keepIn K (.ref f39) = true)
    (a40 : PySem.W.nsIn K mainGlobals "_law_price" = some (some (.ref f40)))
    (l40 : K.lookup f40 = some ⟨oc40, od40, .func (PySem.W.fnOf "_law_price" "_law_price" (defArgs s_law_price) (defBody s_law_price) (defScope s_law_price) .none kV40 dc40 pm40 an40 cd40 ct40), sl40⟩)
    (c40 : PySem.W.codeIn K cd40 "_law_price" = true) (k40 : PySem.W.keepIn K (.ref f40) = true)
    (a41 : PySem.W.nsIn K mainGlobals "_law_shop" = some (some (.ref f41)))
    (l41 : K.lookup f41 = some ⟨oc41, od41, .func (PySem.W.fnOf "_law_shop" "_law_shop" (defArgs s_law_shop) (defBody s_law_shop) (defScope s_law_shop) .none kV41 dc41 pm41 an41 cd41 ct41), sl41⟩)
    (c41 : PySem.W.codeIn K cd41 "_law_shop" = true) (k41 : PySem.W.keepIn K (.ref f41) = true)
    (a42 : PySem.W.nsIn K mainGlobals "_law_all_ways" = some (some (.ref f42)))
    (l42 : K.lookup f42 = some ⟨oc42, od42, .func (PySem.W.fnOf "_law_all_ways" "_law_all_ways" (defArgs s_law_all_ways) (defBody s_law_all_ways) (defScope s_law_all_ways) .none kV42 dc42 pm42 an42 cd42 ct42), sl42⟩)
    (c42 : PySem.W.codeIn K cd42 "_law_all_ways" = true) (k42 : PySem.W.keepIn K (.ref f42) = true)
    (a43 : PySem.W.nsIn K mainGlobals "law" = some (some (.ref f43)))
    (l43 : K.lookup f43 = some ⟨oc43, od43, .func (PySem.W.fnOf "law" "law" (defArgs s_law) (defBody s_law) (defScope s_law) .none kV43 dc43 pm43 an43 cd43 ct43), sl43⟩)
    (c43 : PySem.W.codeIn K cd43 "law" = true) (k43 : PySem.W.keepIn K (.ref f43) = true)
    (z0 : PySem.W.nsIn K mainGlobals "permutations" = some (some (.type "itertools.permutations")))
    {t1 : Tok} (z1 : PySem.W.nsIn K mainGlobals "MOST" = some (some (.int 200 t1)))
    {t2 : Tok} (z2 : PySem.W.nsIn K mainGlobals "LAST_BYTE" = some (some (.int 255 t2)))
    {a_3 : Addr} {its_3 : Array Value} {n_3 : Nat} {sl_3 : Array (Option Value)} {t3_0 t3_1 t3_2 : Tok}
    (z3 : PySem.W.nsIn K mainGlobals "WORDS" = some (some (.ref a_3)))
    (y3 : K.lookup a_3 = some ⟨.type "tuple", none, .seq its_3 n_3, sl_3⟩)
    (x3 : its_3 = #[.str "copy" t3_0, .str "bring" t3_1, .str "run" t3_2])
    {t4 : Tok} (z4 : PySem.W.nsIn K mainGlobals "SEVENS" = some (some (.int 128 t4)))
    {t5 : Tok} (z5 : PySem.W.nsIn K mainGlobals "MOST_SEVENS" = some (some (.int 2 t5)))
    {t6 : Tok} (z6 : PySem.W.nsIn K mainGlobals "MOST_BYTES" = some (some (.int 10000 t6)))
    {t7 : Tok} (z7 : PySem.W.nsIn K mainGlobals "MOST_IN_KNOT" = some (some (.int 14 t7)))
    {t8 : Tok} (z8 : PySem.W.nsIn K mainGlobals "LETTERS" = some (some (.str "abcdefghijklmnopqrstuvwxyz" t8)))
    {t9 : Tok} (z9 : PySem.W.nsIn K mainGlobals "MOST_LETTERS" = some (some (.int 8 t9)))
    {t10 : Tok} (z10 : PySem.W.nsIn K mainGlobals "MOST_EDITIONS" = some (some (.int 6 t10)))
    {kc_Shop f_Shop_init f_Shop_put f_Shop_whole f_Shop_send f_Shop_names f_Shop_edition f_Shop_sent f_Shop_stands f_Shop_patch_between f_Shop_check_known f_Shop_customer f_Shop_keep f_Shop_replace : Addr}
    {od_Shop_init an_Shop_init od_Shop_put an_Shop_put od_Shop_whole an_Shop_whole od_Shop_send an_Shop_send od_Shop_names an_Shop_names od_Shop_edition an_Shop_edition od_Shop_sent an_Shop_sent od_Shop_stands an_Shop_stands od_Shop_patch_between an_Shop_patch_between od_Shop_check_known an_Shop_check_known od_Shop_customer an_Shop_customer od_Shop_keep an_Shop_keep od_Shop_replace an_Shop_replace : Option Addr} {sl_Shop_init sl_Shop_put sl_Shop_whole sl_Shop_send sl_Shop_names sl_Shop_edition sl_Shop_sent sl_Shop_stands sl_Shop_patch_between sl_Shop_check_known sl_Shop_customer sl_Shop_keep sl_Shop_replace : Array (Option Value)} {oc_Shop_init kV_Shop_init dc_Shop_init pm_Shop_init cd_Shop_init ct_Shop_init oc_Shop_put kV_Shop_put dc_Shop_put pm_Shop_put cd_Shop_put ct_Shop_put oc_Shop_whole kV_Shop_whole dc_Shop_whole pm_Shop_whole cd_Shop_whole ct_Shop_whole oc_Shop_send kV_Shop_send dc_Shop_send pm_Shop_send cd_Shop_send ct_Shop_send oc_Shop_names kV_Shop_names dc_Shop_names pm_Shop_names cd_Shop_names ct_Shop_names oc_Shop_edition kV_Shop_edition dc_Shop_edition pm_Shop_edition cd_Shop_edition ct_Shop_edition oc_Shop_sent kV_Shop_sent dc_Shop_sent pm_Shop_sent cd_Shop_sent ct_Shop_sent oc_Shop_stands kV_Shop_stands dc_Shop_stands pm_Shop_stands cd_Shop_stands ct_Shop_stands oc_Shop_patch_between kV_Shop_patch_between dc_Shop_patch_between pm_Shop_patch_between cd_Shop_patch_between ct_Shop_patch_between oc_Shop_check_known kV_Shop_check_known dc_Shop_check_known pm_Shop_check_known cd_Shop_check_known ct_Shop_check_known oc_Shop_customer kV_Shop_customer dc_Shop_customer pm_Shop_customer cd_Shop_customer ct_Shop_customer oc_Shop_keep kV_Shop_keep dc_Shop_keep pm_Shop_keep cd_Shop_keep ct_Shop_keep oc_Shop_replace kV_Shop_replace dc_Shop_replace pm_Shop_replace cd_Shop_replace ct_Shop_replace : Value}
    (zc_Shop : PySem.W.nsIn K mainGlobals "Shop" = some (some (.ref kc_Shop)))
    (zp_Shop : PySem.W.plainGet K kc_Shop Str.empty = true)
    (zh_Shop : PySem.W.hasDictIn K kc_Shop = true)
    (zo_Shop : PySem.W.plainOver K kc_Shop = true)
    (zs_Shop : PySem.W.findIn K (.ref kc_Shop) "__setattr__" = some (some (.builtin "object.__setattr__")))
    (zm_Shop : PySem.W.makesIn K kc_Shop = true)
    (zk_Shop : PySem.W.keepIn K (.ref kc_Shop) = true)
    (zn_Shop_editions : PySem.W.findIn K (.ref kc_Shop) "_editions" = some none)
    (zn_Shop_leans : PySem.W.findIn K (.ref kc_Shop) "_leans" = some none)
    (zn_Shop_customers : PySem.W.findIn K (.ref kc_Shop) "_customers" = some none)
    (zn_Shop_sent : PySem.W.findIn K (.ref kc_Shop) "_sent" = some none)
    (zn_Shop_past : PySem.W.findIn K (.ref kc_Shop) "_past" = some none)
    (zn_Shop_found : PySem.W.findIn K (.ref kc_Shop) "_found" = some none)
    (a_Shop_init : PySem.W.findIn K (.ref kc_Shop) "__init__" = some (some (.ref f_Shop_init)))
    (i_Shop_init : PySem.W.isFn K (.ref f_Shop_init) = true)
    (l_Shop_init : K.lookup f_Shop_init = some ⟨oc_Shop_init, od_Shop_init, .func (PySem.W.fnOf "__init__" "Shop.__init__" (defArgs s_Shop_init) (defBody s_Shop_init) (defScope s_Shop_init) .none kV_Shop_init dc_Shop_init pm_Shop_init an_Shop_init cd_Shop_init ct_Shop_init), sl_Shop_init⟩)
    (c_Shop_init : PySem.W.codeIn K cd_Shop_init "Shop.__init__" = true)
    (k_Shop_init : PySem.W.keepIn K (.ref f_Shop_init) = true)
    (a_Shop_put : PySem.W.findIn K (.ref kc_Shop) "put" = some (some (.ref f_Shop_put)))
    (i_Shop_put : PySem.W.isFn K (.ref f_Shop_put) = true)
    (l_Shop_put : K.lookup f_Shop_put = some ⟨oc_Shop_put, od_Shop_put, .func (PySem.W.fnOf "put" "Shop.put" (defArgs s_Shop_put) (defBody s_Shop_put) (defScope s_Shop_put) .none kV_Shop_put dc_Shop_put pm_Shop_put an_Shop_put cd_Shop_put ct_Shop_put), sl_Shop_put⟩)
    (c_Shop_put : PySem.W.codeIn K cd_Shop_put "Shop.put" = true)
    (k_Shop_put : PySem.W.keepIn K (.ref f_Shop_put) = true)
    (a_Shop_whole : PySem.W.findIn K (.ref kc_Shop) "whole" = some (some (.ref f_Shop_whole)))
    (i_Shop_whole : PySem.W.isFn K (.ref f_Shop_whole) = true)
    (l_Shop_whole : K.lookup f_Shop_whole = some ⟨oc_Shop_whole, od_Shop_whole, .func (PySem.W.fnOf "whole" "Shop.whole" (defArgs s_Shop_whole) (defBody s_Shop_whole) (defScope s_Shop_whole) .none kV_Shop_whole dc_Shop_whole pm_Shop_whole an_Shop_whole cd_Shop_whole ct_Shop_whole), sl_Shop_whole⟩)
    (c_Shop_whole : PySem.W.codeIn K cd_Shop_whole "Shop.whole" = true)
    (k_Shop_whole : PySem.W.keepIn K (.ref f_Shop_whole) = true)
    (a_Shop_send : PySem.W.findIn K (.ref kc_Shop) "send" = some (some (.ref f_Shop_send)))
    (i_Shop_send : PySem.W.isFn K (.ref f_Shop_send) = true)
    (l_Shop_send : K.lookup f_Shop_send = some ⟨oc_Shop_send, od_Shop_send, .func (PySem.W.fnOf "send" "Shop.send" (defArgs s_Shop_send) (defBody s_Shop_send) (defScope s_Shop_send) .none kV_Shop_send dc_Shop_send pm_Shop_send an_Shop_send cd_Shop_send ct_Shop_send), sl_Shop_send⟩)
    (c_Shop_send : PySem.W.codeIn K cd_Shop_send "Shop.send" = true)
    (k_Shop_send : PySem.W.keepIn K (.ref f_Shop_send) = true)
    (a_Shop_names : PySem.W.findIn K (.ref kc_Shop) "names" = some (some (.ref f_Shop_names)))
    (i_Shop_names : PySem.W.isFn K (.ref f_Shop_names) = true)
    (l_Shop_names : K.lookup f_Shop_names = some ⟨oc_Shop_names, od_Shop_names, .func (PySem.W.fnOf "names" "Shop.names" (defArgs s_Shop_names) (defBody s_Shop_names) (defScope s_Shop_names) .none kV_Shop_names dc_Shop_names pm_Shop_names an_Shop_names cd_Shop_names ct_Shop_names), sl_Shop_names⟩)
    (c_Shop_names : PySem.W.codeIn K cd_Shop_names "Shop.names" = true)
    (k_Shop_names : PySem.W.keepIn K (.ref f_Shop_names) = true)
    (a_Shop_edition : PySem.W.findIn K (.ref kc_Shop) "edition" = some (some (.ref f_Shop_edition)))
    (i_Shop_edition : PySem.W.isFn K (.ref f_Shop_edition) = true)
    (l_Shop_edition : K.lookup f_Shop_edition = some ⟨oc_Shop_edition, od_Shop_edition, .func (PySem.W.fnOf "edition" "Shop.edition" (defArgs s_Shop_edition) (defBody s_Shop_edition) (defScope s_Shop_edition) .none kV_Shop_edition dc_Shop_edition pm_Shop_edition an_Shop_edition cd_Shop_edition ct_Shop_edition), sl_Shop_edition⟩)
    (c_Shop_edition : PySem.W.codeIn K cd_Shop_edition "Shop.edition" = true)
    (k_Shop_edition : PySem.W.keepIn K (.ref f_Shop_edition) = true)
    (a_Shop_sent : PySem.W.findIn K (.ref kc_Shop) "sent" = some (some (.ref f_Shop_sent)))
    (i_Shop_sent : PySem.W.isFn K (.ref f_Shop_sent) = true)
    (l_Shop_sent : K.lookup f_Shop_sent = some ⟨oc_Shop_sent, od_Shop_sent, .func (PySem.W.fnOf "sent" "Shop.sent" (defArgs s_Shop_sent) (defBody s_Shop_sent) (defScope s_Shop_sent) .none kV_Shop_sent dc_Shop_sent pm_Shop_sent an_Shop_sent cd_Shop_sent ct_Shop_sent), sl_Shop_sent⟩)
    (c_Shop_sent : PySem.W.codeIn K cd_Shop_sent "Shop.sent" = true)
    (k_Shop_sent : PySem.W.keepIn K (.ref f_Shop_sent) = true)
    (a_Shop_stands : PySem.W.findIn K (.ref kc_Shop) "stands" = some (some (.ref f_Shop_stands)))
    (i_Shop_stands : PySem.W.isFn K (.ref f_Shop_stands) = true)
    (l_Shop_stands : K.lookup f_Shop_stands = some ⟨oc_Shop_stands, od_Shop_stands, .func (PySem.W.fnOf "stands" "Shop.stands" (defArgs s_Shop_stands) (defBody s_Shop_stands) (defScope s_Shop_stands) .none kV_Shop_stands dc_Shop_stands pm_Shop_stands an_Shop_stands cd_Shop_stands ct_Shop_stands), sl_Shop_stands⟩)
    (c_Shop_stands : PySem.W.codeIn K cd_Shop_stands "Shop.stands" = true)
    (k_Shop_stands : PySem.W.keepIn K (.ref f_Shop_stands) = true)
    (a_Shop_patch_between : PySem.W.findIn K (.ref kc_Shop) "patch_between" = some (some (.ref f_Shop_patch_between)))
    (i_Shop_patch_between : PySem.W.isFn K (.ref f_Shop_patch_between) = true)
    (l_Shop_patch_between : K.lookup f_Shop_patch_between = some ⟨oc_Shop_patch_between, od_Shop_patch_between, .func (PySem.W.fnOf "patch_between" "Shop.patch_between" (defArgs s_Shop_patch_between) (defBody s_Shop_patch_between) (defScope s_Shop_patch_between) .none kV_Shop_patch_between dc_Shop_patch_between pm_Shop_patch_between an_Shop_patch_between cd_Shop_patch_between ct_Shop_patch_between), sl_Shop_patch_between⟩)
    (c_Shop_patch_between : PySem.W.codeIn K cd_Shop_patch_between "Shop.patch_between" = true)
    (k_Shop_patch_between : PySem.W.keepIn K (.ref f_Shop_patch_between) = true)
    (a_Shop_check_known : PySem.W.findIn K (.ref kc_Shop) "_check_known" = some (some (.ref f_Shop_check_known)))
    (i_Shop_check_known : PySem.W.isFn K (.ref f_Shop_check_known) = true)
    (l_Shop_check_known : K.lookup f_Shop_check_known = some ⟨oc_Shop_check_known, od_Shop_check_known, .func (PySem.W.fnOf "_check_known" "Shop._check_known" (defArgs s_Shop_check_known) (defBody s_Shop_check_known) (defScope s_Shop_check_known) .none kV_Shop_check_known dc_Shop_check_known pm_Shop_check_known an_Shop_check_known cd_Shop_check_known ct_Shop_check_known), sl_Shop_check_known⟩)
    (c_Shop_check_known : PySem.W.codeIn K cd_Shop_check_known "Shop._check_known" = true)
    (k_Shop_check_known : PySem.W.keepIn K (.ref f_Shop_check_known) = true)
    (a_Shop_customer : PySem.W.findIn K (.ref kc_Shop) "_customer" = some (some (.ref f_Shop_customer)))
    (i_Shop_customer : PySem.W.isFn K (.ref f_Shop_customer) = true)
    (l_Shop_customer : K.lookup f_Shop_customer = some ⟨oc_Shop_customer, od_Shop_customer, .func (PySem.W.fnOf "_customer" "Shop._customer" (defArgs s_Shop_customer) (defBody s_Shop_customer) (defScope s_Shop_customer) .none kV_Shop_customer dc_Shop_customer pm_Shop_customer an_Shop_customer cd_Shop_customer ct_Shop_customer), sl_Shop_customer⟩)
    (c_Shop_customer : PySem.W.codeIn K cd_Shop_customer "Shop._customer" = true)
    (k_Shop_customer : PySem.W.keepIn K (.ref f_Shop_customer) = true)
    (a_Shop_keep : PySem.W.findIn K (.ref kc_Shop) "_keep" = some (some (.ref f_Shop_keep)))
    (i_Shop_keep : PySem.W.isFn K (.ref f_Shop_keep) = true)
    (l_Shop_keep : K.lookup f_Shop_keep = some ⟨oc_Shop_keep, od_Shop_keep, .func (PySem.W.fnOf "_keep" "Shop._keep" (defArgs s_Shop_keep) (defBody s_Shop_keep) (defScope s_Shop_keep) .none kV_Shop_keep dc_Shop_keep pm_Shop_keep an_Shop_keep cd_Shop_keep ct_Shop_keep), sl_Shop_keep⟩)
    (c_Shop_keep : PySem.W.codeIn K cd_Shop_keep "Shop._keep" = true)
    (k_Shop_keep : PySem.W.keepIn K (.ref f_Shop_keep) = true)
    (a_Shop_replace : PySem.W.findIn K (.ref kc_Shop) "_replace" = some (some (.ref f_Shop_replace)))
    (i_Shop_replace : PySem.W.isFn K (.ref f_Shop_replace) = true)
    (l_Shop_replace : K.lookup f_Shop_replace = some ⟨oc_Shop_replace, od_Shop_replace, .func (PySem.W.fnOf "_replace" "Shop._replace" (defArgs s_Shop_replace) (defBody s_Shop_replace) (defScope s_Shop_replace) .none kV_Shop_replace dc_Shop_replace pm_Shop_replace an_Shop_replace cd_Shop_replace ct_Shop_replace), sl_Shop_replace⟩)
    (c_Shop_replace : PySem.W.codeIn K cd_Shop_replace "Shop._replace" = true)
    (k_Shop_replace : PySem.W.keepIn K (.ref f_Shop_replace) = true)
    {k_BadEdition k_BadCount k_TooMany k_BadName k_Known k_NoName k_NoDevice : Addr}
    (h_BadEdition : PySem.W.nsIn K mainGlobals "BadEdition" = some (some (.ref k_BadEdition)))
    (h_BadCount : PySem.W.nsIn K mainGlobals "BadCount" = some (some (.ref k_BadCount)))
    (h_TooMany : PySem.W.nsIn K mainGlobals "TooMany" = some (some (.ref k_TooMany)))
    (h_BadName : PySem.W.nsIn K mainGlobals "BadName" = some (some (.ref k_BadName)))
    (h_Known : PySem.W.nsIn K mainGlobals "Known" = some (some (.ref k_Known)))
    (h_NoName : PySem.W.nsIn K mainGlobals "NoName" = some (some (.ref k_NoName)))
    (h_NoDevice : PySem.W.nsIn K mainGlobals "NoDevice" = some (some (.ref k_NoDevice)))
    (q_xC_BadEdition : PySem.W.excIn K k_BadEdition [.type "ValueError", .type "Exception", .type "BaseException", .type "object"] "ValueError.__new__" = true)
    (q_kC_BadEdition : PySem.W.keepIn K (.ref k_BadEdition) = true)
    (q_exC_BadEdition : PySem.W.subIn K (.ref k_BadEdition) (.type "BaseException") = some true)
    (q_tyC_BadEdition : PySem.W.typeIn K (.ref k_BadEdition) = some (.type "type"))
    (q_xC_BadCount : PySem.W.excIn K k_BadCount [.type "ValueError", .type "Exception", .type "BaseException", .type "object"] "ValueError.__new__" = true)
    (q_kC_BadCount : PySem.W.keepIn K (.ref k_BadCount) = true)
    (q_exC_BadCount : PySem.W.subIn K (.ref k_BadCount) (.type "BaseException") = some true)
    (q_tyC_BadCount : PySem.W.typeIn K (.ref k_BadCount) = some (.type "type"))
    (q_xC_TooMany : PySem.W.excIn K k_TooMany [.type "ValueError", .type "Exception", .type "BaseException", .type "object"] "ValueError.__new__" = true)
    (q_kC_TooMany : PySem.W.keepIn K (.ref k_TooMany) = true)
    (q_exC_TooMany : PySem.W.subIn K (.ref k_TooMany) (.type "BaseException") = some true)
    (q_tyC_TooMany : PySem.W.typeIn K (.ref k_TooMany) = some (.type "type"))
    (q_xC_BadName : PySem.W.excIn K k_BadName [.type "ValueError", .type "Exception", .type "BaseException", .type "object"] "ValueError.__new__" = true)
    (q_kC_BadName : PySem.W.keepIn K (.ref k_BadName) = true)
    (q_exC_BadName : PySem.W.subIn K (.ref k_BadName) (.type "BaseException") = some true)
    (q_tyC_BadName : PySem.W.typeIn K (.ref k_BadName) = some (.type "type"))
    (q_xC_Known : PySem.W.excIn K k_Known [.type "ValueError", .type "Exception", .type "BaseException", .type "object"] "ValueError.__new__" = true)
    (q_kC_Known : PySem.W.keepIn K (.ref k_Known) = true)
    (q_exC_Known : PySem.W.subIn K (.ref k_Known) (.type "BaseException") = some true)
    (q_tyC_Known : PySem.W.typeIn K (.ref k_Known) = some (.type "type"))
    (q_xC_NoName : PySem.W.excIn K k_NoName [.type "ValueError", .type "Exception", .type "BaseException", .type "object"] "ValueError.__new__" = true)
    (q_kC_NoName : PySem.W.keepIn K (.ref k_NoName) = true)
    (q_exC_NoName : PySem.W.subIn K (.ref k_NoName) (.type "BaseException") = some true)
    (q_tyC_NoName : PySem.W.typeIn K (.ref k_NoName) = some (.type "type"))
    (q_xC_NoDevice : PySem.W.excIn K k_NoDevice [.type "ValueError", .type "Exception", .type "BaseException", .type "object"] "ValueError.__new__" = true)
    (q_kC_NoDevice : PySem.W.keepIn K (.ref k_NoDevice) = true)
    (q_exC_NoDevice : PySem.W.subIn K (.ref k_NoDevice) (.type "BaseException") = some true)
    (q_tyC_NoDevice : PySem.W.typeIn K (.ref k_NoDevice) = some (.type "type"))
    (y_all : PySem.W.nsIn K mainGlobals "all" = some none)
    (y_bool : PySem.W.nsIn K mainGlobals "bool" = some none)
    (y_bytes : PySem.W.nsIn K mainGlobals "bytes" = some none)
    (y_enumerate : PySem.W.nsIn K mainGlobals "enumerate" = some none)
    (y_int : PySem.W.nsIn K mainGlobals "int" = some none)
    (y_isinstance : PySem.W.nsIn K mainGlobals "isinstance" = some none)
    (y_len : PySem.W.nsIn K mainGlobals "len" = some none)
    (y_list : PySem.W.nsIn K mainGlobals "list" = some none)
    (y_max : PySem.W.nsIn K mainGlobals "max" = some none)
    (y_min : PySem.W.nsIn K mainGlobals "min" = some none)
    (y_range : PySem.W.nsIn K mainGlobals "range" = some none)
    (y_reversed : PySem.W.nsIn K mainGlobals "reversed" = some none)
    (y_set : PySem.W.nsIn K mainGlobals "set" = some none)
    (y_sorted : PySem.W.nsIn K mainGlobals "sorted" = some none)
    (y_sum : PySem.W.nsIn K mainGlobals "sum" = some none)
    (y_tuple : PySem.W.nsIn K mainGlobals "tuple" = some none)
    (y_zip : PySem.W.nsIn K mainGlobals "zip" = some none)
    : ∃ fd : FuncData, (∀ (s : Shared) (v : Value), BindsTo s fd ⟨[v], []⟩ [("_law_script", v)]) ∧ ∀ base : Heap, K.In base → base.Ns mainGlobals mg → FnOk l.prog w K mg base CX0 9 fa fd ["_law_script"] (spLaw K) := by
  have e := hfa.symm.trans (PySem.W.mg_of X G a43)
  cases e
  have F0 := fun_mk (st := s_wall) l0 c0 k0
  have b0 := F0.binds (ps := ["k"]) fun _ _ _ _ _ _ us hl => match us, hl with | [_], _ => rfl
  have F1 := fun_mk (st := s_bytes_of) l1 c1 k1
  have b1 := F1.binds (ps := ["numbers"]) fun _ _ _ _ _ _ us hl => match us, hl with | [_], _ => rfl
  have F2 := fun_mk (st := s_is_number) l2 c2 k2
  have b2 := F2.binds (ps := ["what", "least", "most"]) fun _ _ _ _ _ _ us hl => match us, hl with | [_, _, _], _ => rfl
  have F3 := fun_mk (st := s_can_be) l3 c3 k3
  have b3 := F3.binds (ps := ["piece"]) fun _ _ _ _ _ _ us hl => match us, hl with | [_], _ => rfl
  have F4 := fun_mk (st := s_length_of) l4 c4 k4
  have b4 := F4.binds (ps := ["piece"]) fun _ _ _ _ _ _ us hl => match us, hl with | [_], _ => rfl
  have F5 := fun_mk (st := s_check_edition) l5 c5 k5
  have b5 := F5.binds (ps := ["edition"]) fun _ _ _ _ _ _ us hl => match us, hl with | [_], _ => rfl
  have F6 := fun_mk (st := s_check_patch) l6 c6 k6
  have b6 := F6.binds (ps := ["patch"]) fun _ _ _ _ _ _ us hl => match us, hl with | [_], _ => rfl
  have F7 := fun_mk (st := s_size) l7 c7 k7
  have b7 := F7.binds (ps := ["patch"]) fun _ _ _ _ _ _ us hl => match us, hl with | [_], _ => rfl
  have F8 := fun_mk (st := s_number_size) l8 c8 k8
  have b8 := F8.binds (ps := ["number"]) fun _ _ _ _ _ _ us hl => match us, hl with | [_], _ => rfl
  have F9 := fun_mk (st := s_first_number) l9 c9 k9
  have b9 := F9.binds (ps := ["piece"]) fun _ _ _ _ _ _ us hl => match us, hl with | [_], _ => rfl
  have F10 := fun_mk (st := s_piece_size) l10 c10 k10
  have b10 := F10.binds (ps := ["piece"]) fun _ _ _ _ _ _ us hl => match us, hl with | [_], _ => rfl
  have F11 := fun_mk (st := s_way) l11 c11 k11
  have b11 := F11.binds (ps := ["shop", "one", "other"]) fun _ _ _ _ _ _ us hl => match us, hl with | [_, _, _], _ => rfl
  have F12 := fun_mk (st := s_far) l12 c12 k12
  have b12 := F12.binds (ps := ["shop", "name", "most"]) fun _ _ _ _ _ _ us hl => match us, hl with | [_, _, _], _ => rfl
  have F13 := fun_mk (st := s_sizes_of) l13 c13 k13
  have b13 := F13.binds (ps := ["shop"]) fun _ _ _ _ _ _ us hl => match us, hl with | [_], _ => rfl
  have F14 := fun_mk (st := s_way_by) l14 c14 k14
  have b14 := F14.binds (ps := ["names", "sizes"]) fun _ _ _ _ _ _ us hl => match us, hl with | [_, _], _ => rfl
  have F15 := fun_mk (st := s_least) l15 c15 k15
  have b15 := F15.binds (ps := ["old", "new"]) fun _ _ _ _ _ _ us hl => match us, hl with | [_, _], _ => rfl
  have F16 := fun_mk (st := s_one_behind_the_other) l16 c16 k16
  have b16 := F16.binds (ps := ["firsts"]) fun _ _ _ _ _ _ us hl => match us, hl with | [_], _ => rfl
  have F17 := fun_mk (st := s_next_pieces) l17 c17 k17
  have b17 := F17.binds (ps := ["old", "new", "at"]) fun _ _ _ _ _ _ us hl => match us, hl with | [_, _, _], _ => rfl
  have F18 := fun_mk (st := s_next_copies) l18 c18 k18
  have b18 := F18.binds (ps := ["old", "new", "at"]) fun _ _ _ _ _ _ us hl => match us, hl with | [_, _, _], _ => rfl
  have F19 := fun_mk (st := s_next_runs) l19 c19 k19
  have b19 := F19.binds (ps := ["new", "at"]) fun _ _ _ _ _ _ us hl => match us, hl with | [_, _], _ => rfl
  have F20 := fun_mk (st := s_hangs) l20 c20 k20
  have b20 := F20.binds (ps := ["patch"]) fun _ _ _ _ _ _ us hl => match us, hl with | [_], _ => rfl
  have F21 := fun_mk (st := s_starts) l21 c21 k21
  have b21 := F21.binds (ps := ["patch"]) fun _ _ _ _ _ _ us hl => match us, hl with | [_], _ => rfl
  have F22 := fun_mk (st := s_moving) l22 c22 k22
  have b22 := F22.binds (ps := ["patch"]) fun _ _ _ _ _ _ us hl => match us, hl with | [_], _ => rfl
  have F23 := fun_mk (st := s_writers_of) l23 c23 k23
  have b23 := F23.binds (ps := ["patch"]) fun _ _ _ _ _ _ us hl => match us, hl with | [_], _ => rfl
  have F24 := fun_mk (st := s_cells_read) l24 c24 k24
  have b24 := F24.binds (ps := ["piece"]) fun _ _ _ _ _ _ us hl => match us, hl with | [_], _ => rfl
  have F25 := fun_mk (st := s_hung_from) l25 c25 k25
  have b25 := F25.binds (ps := ["patch"]) fun _ _ _ _ _ _ us hl => match us, hl with | [_], _ => rfl
  have F26 := fun_mk (st := s_lightest) l26 c26 k26
  have b26 := F26.binds (ps := ["patch"]) fun _ _ _ _ _ _ us hl => match us, hl with | [_], _ => rfl
  have F27 := fun_mk (st := s_knots) l27 c27 k27
  have b27 := F27.binds (ps := ["others"]) fun _ _ _ _ _ _ us hl => match us, hl with | [_], _ => rfl
  have F28 := fun_mk (st := s_reached) l28 c28 k28
  have b28 := F28.binds (ps := ["others", "first"]) fun _ _ _ _ _ _ us hl => match us, hl with | [_, _], _ => rfl
  have F29 := fun_mk (st := s_lightest_of) l29 c29 k29
  have b29 := F29.binds (ps := ["knot", "others", "weights"]) fun _ _ _ _ _ _ us hl => match us, hl with | [_, _, _], _ => rfl
  have F30 := fun_mk (st := s_bits_of) l30 c30 k30
  have b30 := F30.binds (ps := ["knot", "pieces"]) fun _ _ _ _ _ _ us hl => match us, hl with | [_, _], _ => rfl
  have F31 := fun_mk (st := s_lots_without_rings) l31 c31 k31
  have b31 := F31.binds (ps := ["nexts"]) fun _ _ _ _ _ _ us hl => match us, hl with | [_], _ => rfl
  have F32 := fun_mk (st := s_is_free) l32 c32 k32
  have b32 := F32.binds (ps := ["lot", "nexts", "free"]) fun _ _ _ _ _ _ us hl => match us, hl with | [_, _, _], _ => rfl
  have F33 := fun_mk (st := s_is_lettered) l33 c33 k33
  have b33 := F33.binds (ps := ["word"]) fun _ _ _ _ _ _ us hl => match us, hl with | [_], _ => rfl
  have F34 := fun_mk (st := s_check_name) l34 c34 k34
  have b34 := F34.binds (ps := ["name"]) fun _ _ _ _ _ _ us hl => match us, hl with | [_], _ => rfl
  have F35 := fun_mk (st := s_without) l35 c35 k35
  have b35 := F35.binds (ps := ["table", "name"]) fun _ _ _ _ _ _ us hl => match us, hl with | [_, _], _ => rfl
  have F36 := fun_mk (st := s_law_taken) l36 c36 k36
  have b36 := F36.binds (ps := ["_law_row", "_law_many"]) fun _ _ _ _ _ _ us hl => match us, hl with | [_, _], _ => rfl
  have F37 := fun_mk (st := s_law_alike) l37 c37 k37
  have b37 := F37.binds (ps := ["_law_one", "_law_due"]) fun _ _ _ _ _ _ us hl => match us, hl with | [_, _], _ => rfl
  have F38 := fun_mk (st := s_law_numbers) l38 c38 k38
  have b38 := F38.binds (ps := ["_law_row", "_law_some"]) fun _ _ _ _ _ _ us hl => match us, hl with | [_, _], _ => rfl
  have F39 := fun_mk (st := s_law_long) l39 c39 k39
  have b39 := F39.binds (ps := ["_law_number"]) fun _ _ _ _ _ _ us hl => match us, hl with | [_], _ => rfl
  have F40 := fun_mk (st := s_law_price) l40 c40 k40
  have b40 := F40.binds (ps := ["_law_patch"]) fun _ _ _ _ _ _ us hl => match us, hl with | [_], _ => rfl
  have F41 := fun_mk (st := s_law_shop) l41 c41 k41
  have b41 := F41.binds (ps := ["_law_row", "_law_most_many"]) fun _ _ _ _ _ _ us hl => match us, hl with | [_, _], _ => rfl
  have F42 := fun_mk (st := s_law_all_ways) l42 c42 k42
  have b42 := F42.binds (ps := ["_law_names", "_law_line", "_law_goal"]) fun _ _ _ _ _ _ us hl => match us, hl with | [_, _, _], _ => rfl
  have F43 := fun_mk (st := s_law) l43 c43 k43
  have F_Shop_init := fun_mk (st := s_Shop_init) l_Shop_init c_Shop_init k_Shop_init
  have b_Shop_init := F_Shop_init.binds (ps := ["self"]) fun _ _ _ _ _ _ us hl => match us, hl with | [_], _ => rfl
  have F_Shop_put := fun_mk (st := s_Shop_put) l_Shop_put c_Shop_put k_Shop_put
  have b_Shop_put := F_Shop_put.binds (ps := ["self", "name", "edition"]) fun _ _ _ _ _ _ us hl => match us, hl with | [_, _, _], _ => rfl
  have F_Shop_whole := fun_mk (st := s_Shop_whole) l_Shop_whole c_Shop_whole k_Shop_whole
  have b_Shop_whole := F_Shop_whole.binds (ps := ["self", "name"]) fun _ _ _ _ _ _ us hl => match us, hl with | [_, _], _ => rfl
  have F_Shop_send := fun_mk (st := s_Shop_send) l_Shop_send c_Shop_send k_Shop_send
  have b_Shop_send := F_Shop_send.binds (ps := ["self", "number", "name"]) fun _ _ _ _ _ _ us hl => match us, hl with | [_, _, _], _ => rfl
  have F_Shop_names := fun_mk (st := s_Shop_names) l_Shop_names c_Shop_names k_Shop_names
  have b_Shop_names := F_Shop_names.binds (ps := ["self"]) fun _ _ _ _ _ _ us hl => match us, hl with | [_], _ => rfl
  have F_Shop_edition := fun_mk (st := s_Shop_edition) l_Shop_edition c_Shop_edition k_Shop_edition
  have b_Shop_edition := F_Shop_edition.binds (ps := ["self", "name"]) fun _ _ _ _ _ _ us hl => match us, hl with | [_, _], _ => rfl
  have F_Shop_sent := fun_mk (st := s_Shop_sent) l_Shop_sent c_Shop_sent k_Shop_sent
  have b_Shop_sent := F_Shop_sent.binds (ps := ["self"]) fun _ _ _ _ _ _ us hl => match us, hl with | [_], _ => rfl
  have F_Shop_stands := fun_mk (st := s_Shop_stands) l_Shop_stands c_Shop_stands k_Shop_stands
  have b_Shop_stands := F_Shop_stands.binds (ps := ["self", "number"]) fun _ _ _ _ _ _ us hl => match us, hl with | [_, _], _ => rfl
  have F_Shop_patch_between := fun_mk (st := s_Shop_patch_between) l_Shop_patch_between c_Shop_patch_between k_Shop_patch_between
  have b_Shop_patch_between := F_Shop_patch_between.binds (ps := ["self", "one", "other"]) fun _ _ _ _ _ _ us hl => match us, hl with | [_, _, _], _ => rfl
  have F_Shop_check_known := fun_mk (st := s_Shop_check_known) l_Shop_check_known c_Shop_check_known k_Shop_check_known
  have b_Shop_check_known := F_Shop_check_known.binds (ps := ["self", "name"]) fun _ _ _ _ _ _ us hl => match us, hl with | [_, _], _ => rfl
  have F_Shop_customer := fun_mk (st := s_Shop_customer) l_Shop_customer c_Shop_customer k_Shop_customer
  have b_Shop_customer := F_Shop_customer.binds (ps := ["self", "number"]) fun _ _ _ _ _ _ us hl => match us, hl with | [_, _], _ => rfl
  have F_Shop_keep := fun_mk (st := s_Shop_keep) l_Shop_keep c_Shop_keep k_Shop_keep
  have b_Shop_keep := F_Shop_keep.binds (ps := ["self", "deed"]) fun _ _ _ _ _ _ us hl => match us, hl with | [_, _], _ => rfl
  have F_Shop_replace := fun_mk (st := s_Shop_replace) l_Shop_replace c_Shop_replace k_Shop_replace
  have b_Shop_replace := F_Shop_replace.binds (ps := ["self", "number", "customer"]) fun _ _ _ _ _ _ us hl => match us, hl with | [_, _, _], _ => rfl
  have T : All K mg := ⟨⟨f0, _, F0, PySem.W.mg_of X G a0, b0⟩, ⟨f1, _, F1, PySem.W.mg_of X G a1, b1⟩, ⟨f2, _, F2, PySem.W.mg_of X G a2, b2⟩, ⟨f3, _, F3, PySem.W.mg_of X G a3, b3⟩, ⟨f4, _, F4, PySem.W.mg_of X G a4, b4⟩, ⟨f5, _, F5, PySem.W.mg_of X G a5, b5⟩, ⟨f6, _, F6, PySem.W.mg_of X G a6, b6⟩, ⟨f7, _, F7, PySem.W.mg_of X G a7, b7⟩, ⟨f8, _, F8, PySem.W.mg_of X G a8, b8⟩, ⟨f9, _, F9, PySem.W.mg_of X G a9, b9⟩, ⟨f10, _, F10, PySem.W.mg_of X G a10, b10⟩, ⟨f11, _, F11, PySem.W.mg_of X G a11, b11⟩, ⟨f12, _, F12, PySem.W.mg_of X G a12, b12⟩, ⟨f13, _, F13, PySem.W.mg_of X G a13, b13⟩, ⟨f14, _, F14, PySem.W.mg_of X G a14, b14⟩, ⟨f15, _, F15, PySem.W.mg_of X G a15, b15⟩, ⟨f16, _, F16, PySem.W.mg_of X G a16, b16⟩, ⟨f17, _, F17, PySem.W.mg_of X G a17, b17⟩, ⟨f18, _, F18, PySem.W.mg_of X G a18, b18⟩, ⟨f19, _, F19, PySem.W.mg_of X G a19, b19⟩, ⟨f20, _, F20, PySem.W.mg_of X G a20, b20⟩, ⟨f21, _, F21, PySem.W.mg_of X G a21, b21⟩, ⟨f22, _, F22, PySem.W.mg_of X G a22, b22⟩, ⟨f23, _, F23, PySem.W.mg_of X G a23, b23⟩, ⟨f24, _, F24, PySem.W.mg_of X G a24, b24⟩, ⟨f25, _, F25, PySem.W.mg_of X G a25, b25⟩, ⟨f26, _, F26, PySem.W.mg_of X G a26, b26⟩, ⟨f27, _, F27, PySem.W.mg_of X G a27, b27⟩, ⟨f28, _, F28, PySem.W.mg_of X G a28, b28⟩, ⟨f29, _, F29, PySem.W.mg_of X G a29, b29⟩, ⟨f30, _, F30, PySem.W.mg_of X G a30, b30⟩, ⟨f31, _, F31, PySem.W.mg_of X G a31, b31⟩, ⟨f32, _, F32, PySem.W.mg_of X G a32, b32⟩, ⟨f33, _, F33, PySem.W.mg_of X G a33, b33⟩, ⟨f34, _, F34, PySem.W.mg_of X G a34, b34⟩, ⟨f35, _, F35, PySem.W.mg_of X G a35, b35⟩, ⟨f36, _, F36, PySem.W.mg_of X G a36, b36⟩, ⟨f37, _, F37, PySem.W.mg_of X G a37, b37⟩, ⟨f38, _, F38, PySem.W.mg_of X G a38, b38⟩, ⟨f39, _, F39, PySem.W.mg_of X G a39, b39⟩, ⟨f40, _, F40, PySem.W.mg_of X G a40, b40⟩, ⟨f41, _, F41, PySem.W.mg_of X G a41, b41⟩, ⟨f42, _, F42, PySem.W.mg_of X G a42, b42⟩, PySem.W.mg_of X G z0, t1, PySem.W.mg_of X G z1, t2, PySem.W.mg_of X G z2, a_3, PySem.W.mg_of X G z3, fun H => .inr ⟨_, its_3, n_3, y3, rfl, rfl, by subst x3; (show 3 ≤ sizeLine; rw [sizeLine_eq]; decide), by subst x3; exact (.cons ⟨_, rfl⟩ (.cons ⟨_, rfl⟩ (.cons ⟨_, rfl⟩ .nil)))⟩, ⟨_, y3, rfl, rfl⟩, t4, PySem.W.mg_of X G z4, t5, PySem.W.mg_of X G z5, t6, PySem.W.mg_of X G z6, t7, PySem.W.mg_of X G z7, t8, PySem.W.mg_of X G z8, t9, PySem.W.mg_of X G z9, t10, PySem.W.mg_of X G z10, kc_Shop, PySem.W.mg_of X G zc_Shop, ⟨zp_Shop, zh_Shop, zo_Shop, zs_Shop⟩, zn_Shop_editions, zn_Shop_leans, zn_Shop_customers, zn_Shop_sent, zn_Shop_past, zn_Shop_found, ⟨f_Shop_init, _, F_Shop_init, ⟨a_Shop_init, i_Shop_init, k_Shop_init⟩, b_Shop_init⟩, ⟨f_Shop_put, _, F_Shop_put, ⟨a_Shop_put, i_Shop_put, k_Shop_put⟩, b_Shop_put⟩, ⟨f_Shop_whole, _, F_Shop_whole, ⟨a_Shop_whole, i_Shop_whole, k_Shop_whole⟩, b_Shop_whole⟩, ⟨f_Shop_send, _, F_Shop_send, ⟨a_Shop_send, i_Shop_send, k_Shop_send⟩, b_Shop_send⟩, ⟨f_Shop_names, _, F_Shop_names, ⟨a_Shop_names, i_Shop_names, k_Shop_names⟩, b_Shop_names⟩, ⟨f_Shop_edition, _, F_Shop_edition, ⟨a_Shop_edition, i_Shop_edition, k_Shop_edition⟩, b_Shop_edition⟩, ⟨f_Shop_sent, _, F_Shop_sent, ⟨a_Shop_sent, i_Shop_sent, k_Shop_sent⟩, b_Shop_sent⟩, ⟨f_Shop_stands, _, F_Shop_stands, ⟨a_Shop_stands, i_Shop_stands, k_Shop_stands⟩, b_Shop_stands⟩, ⟨f_Shop_patch_between, _, F_Shop_patch_between, ⟨a_Shop_patch_between, i_Shop_patch_between, k_Shop_patch_between⟩, b_Shop_patch_between⟩, ⟨f_Shop_check_known, _, F_Shop_check_known, ⟨a_Shop_check_known, i_Shop_check_known, k_Shop_check_known⟩, b_Shop_check_known⟩, ⟨f_Shop_customer, _, F_Shop_customer, ⟨a_Shop_customer, i_Shop_customer, k_Shop_customer⟩, b_Shop_customer⟩, ⟨f_Shop_keep, _, F_Shop_keep, ⟨a_Shop_keep, i_Shop_keep, k_Shop_keep⟩, b_Shop_keep⟩, ⟨f_Shop_replace, _, F_Shop_replace, ⟨a_Shop_replace, i_Shop_replace, k_Shop_replace⟩, b_Shop_replace⟩, ⟨zm_Shop, a_Shop_init, i_Shop_init, zk_Shop⟩, k_BadEdition, PySem.W.mg_of X G h_BadEdition, ⟨q_xC_BadEdition, q_kC_BadEdition, q_exC_BadEdition, q_tyC_BadEdition⟩, k_BadCount, PySem.W.mg_of X G h_BadCount, ⟨q_xC_BadCount, q_kC_BadCount, q_exC_BadCount, q_tyC_BadCount⟩, k_TooMany, PySem.W.mg_of X G h_TooMany, ⟨q_xC_TooMany, q_kC_TooMany, q_exC_TooMany, q_tyC_TooMany⟩, k_BadName, PySem.W.mg_of X G h_BadName, ⟨q_xC_BadName, q_kC_BadName, q_exC_BadName, q_tyC_BadName⟩, k_Known, PySem.W.mg_of X G h_Known, ⟨q_xC_Known, q_kC_Known, q_exC_Known, q_tyC_Known⟩, k_NoName, PySem.W.mg_of X G h_NoName, ⟨q_xC_NoName, q_kC_NoName, q_exC_NoName, q_tyC_NoName⟩, k_NoDevice, PySem.W.mg_of X G h_NoDevice, ⟨q_xC_NoDevice, q_kC_NoDevice, q_exC_NoDevice, q_tyC_NoDevice⟩, PySem.W.mg_none_of X G y_all, PySem.W.mg_none_of X G y_bool, PySem.W.mg_none_of X G y_bytes, PySem.W.mg_none_of X G y_enumerate, PySem.W.mg_none_of X G y_int, PySem.W.mg_none_of X G y_isinstance, PySem.W.mg_none_of X G y_len, PySem.W.mg_none_of X G y_list, PySem.W.mg_none_of X G y_max, PySem.W.mg_none_of X G y_min, PySem.W.mg_none_of X G y_range, PySem.W.mg_none_of X G y_reversed, PySem.W.mg_none_of X G y_set, PySem.W.mg_none_of X G y_sorted, PySem.W.mg_none_of X G y_sum, PySem.W.mg_none_of X G y_tuple, PySem.W.mg_none_of X G y_zip⟩
  exact ⟨PySem.W.fnOf "law" "law" (defArgs s_law) (defBody s_law) (defScope s_law) .none kV43 dc43 pm43 an43 cd43 ct43, fun s v => .of_eq rfl, fun base _ _ => ok_law T F43⟩
theorem walk {l : PySem.W.OpenLaw} {q : Program} {loose : List Str} {XP : (Str → Option Value) → Heap → Prop} {YP : World → Heap → Prop} {d : DefRec} {K : Params → PySem.W.Frag} (hn : l.most = some 63) (hdf : d.params.defaults = [])
    (hY : ∀ (w : World) (h : Heap), YP w h → (K w.params).In h)
    (F : ∀ (w : World) (mg : Str → Option Value) (fa : Addr) (h : Heap), (K w.params).In h → h.Ns mainGlobals mg → mg d.name = some (.ref fa) →
      ∃ fd : FuncData, (∀ (s : Shared) (u : Value), BindsTo s fd ⟨[u], []⟩ [("_law_script", u)]) ∧ ∀ base : Heap, (K w.params).In base → base.Ns mainGlobals mg → FnOk l.prog w (K w.params) mg base CX0 9 fa fd ["_law_script"] (spLaw (K w.params))) :
    PySem.W.WalkO q loose XP YP l.row.toRowW d [] (fun f vs => PySem.call f vs) :=
  L2.walk_of (n := 63) (k := 9) (x := "_law_script") (CX := fun _ => CX0) (sp := fun w => spLaw (K w.params)) hn (by decide) hdf ⟨rfl, by decide, by decide⟩ hY F (fun _ _ a ns hl _ hS => ⟨a, ns, rfl, hS, hl, fun _ => rfl⟩) fun _ _ _ _ _ z => z
end My
open PySem PySem.W PyProof.Rows
set_option maxRecDepth 100000 in
set_option maxHeartbeats 0 in
theorem PySem.Challenge.cw_patchover_k53_cheapest_ways_holds : PySem.Challenge.rw_patchover_k53_cheapest_ways.Holds := by
  w_on; o_law; k_head; (case hw => w_witness2)
  k_fill
  first | refine My.walk (l := PySem.Challenge.rw_patchover_k53_cheapest_ways) rfl rfl (fun w h Y => PySem.W.kIn_of Y) ?F | refine My.walk (l := PySem.Challenge.rw_patchover_k53_cheapest_ways) rfl rfl (fun w h Y => PySem.W.km_in_of Y) ?F
  case F =>
    intro w mg fa h KX G hmg
    refine' My.all_mk KX G hmg ?a0 ?l0 ?c0 ?k0 ?a1 ?l1 ?c1 ?k1 ?a2 ?l2 ?c2 ?k2 ?a3 ?l3 ?c3 ?k3 ?a4 ?l4 ?c4 ?k4 ?a5 ?l5 ?c5 ?k5 ?a6 ?l6 ?c6 ?k6 ?a7 ?l7 ?c7 ?k7 ?a8 ?l8 ?c8 ?k8 ?a9 ?l9 ?c9 ?k9 ?a10 ?l10 ?c10 ?k10 ?a11 ?l11 ?c11 ?k11 ?a12 ?l12 ?c12 ?k12 ?a13 ?l13 ?c13 ?k13 ?a14 ?l14 ?c14 ?k14 ?a15 ?l15 ?c15 ?k15 ?a16 ?l16 ?c16 ?k16 ?a17 ?l17 ?c17 ?k17 ?a18 ?l18 ?c18 ?k18 ?a19 ?l19 ?c19 ?k19 ?a20 ?l20 ?c20 ?k20 ?a21 ?l21 ?c21 ?k21 ?a22 ?l22 ?c22 ?k22 ?a23 ?l23 ?c23 ?k23 ?a24 ?l24 ?c24 ?k24 ?a25 ?l25 ?c25 ?k25 ?a26 ?l26 ?c26 ?k26 ?a27 ?l27 ?c27 ?k27 ?a28 ?l28 ?c28 ?k28 ?a29 ?l29 ?c29 ?k29 ?a30 ?l30 ?c30 ?k30 ?a31 ?l31 ?c31 ?k31 ?a32 ?l32 ?c32 ?k32 ?a33 ?l33 ?c33 ?k33 ?a34 ?l34 ?c34 ?k34 ?a35 ?l35 ?c35 ?k35 ?a36 ?l36 ?c36 ?k36 ?a37 ?l37 ?c37 ?k37 ?a38 ?l38 ?c38 ?k38 ?a39 ?l39 ?c39 ?k39 ?a40 ?l40 ?c40 ?k40 ?a41 ?l41 ?c41 ?k41 ?a42 ?l42 ?c42 ?k42 ?a43 ?l43 ?c43 ?k43 ?z0 ?z1 ?z2 ?z3 ?y3 ?x3 ?z4 ?z5 ?z6 ?z7 ?z8 ?z9 ?z10 ?zc_Shop ?zp_Shop ?zh_Shop ?zo_Shop ?zs_Shop ?zm_Shop ?zk_Shop ?zn_Shop_editions ?zn_Shop_leans ?zn_Shop_customers ?zn_Shop_sent ?zn_Shop_past ?zn_Shop_found ?a_Shop_init ?i_Shop_init ?l_Shop_init ?c_Shop_init ?k_Shop_init ?a_Shop_put ?i_Shop_put ?l_Shop_put ?c_Shop_put ?k_Shop_put ?a_Shop_whole ?i_Shop_whole ?l_Shop_whole ?c_Shop_whole ?k_Shop_whole ?a_Shop_send ?i_Shop_send ?l_Shop_send ?c_Shop_send ?k_Shop_send ?a_Shop_names ?i_Shop_names ?l_Shop_names ?c_Shop_names ?k_Shop_names ?a_Shop_edition ?i_Shop_edition ?l_Shop_edition ?c_Shop_edition ?k_Shop_edition ?a_Shop_sent ?i_Shop_sent ?l_Shop_sent ?c_Shop_sent ?k_Shop_sent ?a_Shop_stands ?i_Shop_stands ?l_Shop_stands ?c_Shop_stands ?k_Shop_stands ?a_Shop_patch_between ?i_Shop_patch_between ?l_Shop_patch_between ?c_Shop_patch_between ?k_Shop_patch_between ?a_Shop_check_known ?i_Shop_check_known ?l_Shop_check_known ?c_Shop_check_known ?k_Shop_check_known ?a_Shop_customer ?i_Shop_customer ?l_Shop_customer ?c_Shop_customer ?k_Shop_customer ?a_Shop_keep ?i_Shop_keep ?l_Shop_keep ?c_Shop_keep ?k_Shop_keep ?a_Shop_replace ?i_Shop_replace ?l_Shop_replace ?c_Shop_replace ?k_Shop_replace ?h_BadEdition ?h_BadCount ?h_TooMany ?h_BadName ?h_Known ?h_NoName ?h_NoDevice ?q_xC_BadEdition ?q_kC_BadEdition ?q_exC_BadEdition ?q_tyC_BadEdition ?q_xC_BadCount ?q_kC_BadCount ?q_exC_BadCount ?q_tyC_BadCount ?q_xC_TooMany ?q_kC_TooMany ?q_exC_TooMany ?q_tyC_TooMany ?q_xC_BadName ?q_kC_BadName ?q_exC_BadName ?q_tyC_BadName ?q_xC_Known ?q_kC_Known ?q_exC_Known ?q_tyC_Known ?q_xC_NoName ?q_kC_NoName ?q_exC_NoName ?q_tyC_NoName ?q_xC_NoDevice ?q_kC_NoDevice ?q_exC_NoDevice ?q_tyC_NoDevice ?y_all ?y_bool ?y_bytes ?y_enumerate ?y_int ?y_isinstance ?y_len ?y_list ?y_max ?y_min ?y_range ?y_reversed ?y_set ?y_sorted ?y_sum ?y_tuple ?y_zip
    (case a0 => k_is)
    (case l0 => k_is)
    (case c0 => k_is)
    (case k0 => k_is)
    (case a1 => k_is)
    (case l1 => k_is)
    (case c1 => k_is)
    (case k1 => k_is)
    (case a2 => k_is)
    (case l2 => k_is)
    (case c2 => k_is)
    (case k2 => k_is)
    (case a3 => k_is)
    (case l3 => k_is)
    (case c3 => k_is)
    (case k3 => k_is)
    (case a4 => k_is)
    (case l4 => k_is)
    (case c4 => k_is)
    (case k4 => k_is)
    (case a5 => k_is)
    (case l5 => k_is)
    (case c5 => k_is)
    (case k5 => k_is)
    (case a6 => k_is)
    (case l6 => k_is)
    (case c6 => k_is)
    (case k6 => k_is)
    (case a7 => k_is)
    (case l7 => k_is)
    (case c7 => k_is)
    (case k7 => k_is)
    (case a8 => k_is)
    (case l8 => k_is)
    (case c8 => k_is)
    (case k8 => k_is)
    (case a9 => k_is)
    (case l9 => k_is)
    (case c9 => k_is)
    (case k9 => k_is)
    (case a10 => k_is)
    (case l10 => k_is)
    (case c10 => k_is)
    (case k10 => k_is)
    (case a11 => k_is)
    (case l11 => k_is)
    (case c11 => k_is)
    (case k11 => k_is)
    (case a12 => k_is)
    (case l12 => k_is)
    (case c12 => k_is)
    (case k12 => k_is)
    (case a13 => k_is)
    (case l13 => k_is)
    (case c13 => k_is)
    (case k13 => k_is)
    (case a14 => k_is)
    (case l14 => k_is)
    (case c14 => k_is)
    (case k14 => k_is)
    (case a15 => k_is)
    (case l15 => k_is)
    (case c15 => k_is)
    (case k15 => k_is)
    (case a16 => k_is)
    (case l16 => k_is)
    (case c16 => k_is)
    (case k16 => k_is)
    (case a17 => k_is)
    (case l17 => k_is)
    (case c17 => k_is)
    (case k17 => k_is)
    (case a18 => k_is)
    (case l18 => k_is)
    (case c18 => k_is)
    (case k18 => k_is)
    (case a19 => k_is)
    (case l19 => k_is)
    (case c19 => k_is)
    (case k19 => k_is)
    (case a20 => k_is)
    (case l20 => k_is)
    (case c20 => k_is)
    (case k20 => k_is)
    (case a21 => k_is)
    (case l21 => k_is)
    (case c21 => k_is)
    (case k21 => k_is)
    (case a22 => k_is)
    (case l22 => k_is)
    (case c22 => k_is)
    (case k22 => k_is)
    (case a23 => k_is)
    (case l23 => k_is)
    (case c23 => k_is)
    (case k23 => k_is)
    (case a24 => k_is)
    (case l24 => k_is)
    (case c24 => k_is)
    (case k24 => k_is)
    (case a25 => k_is)
    (case l25 => k_is)
    (case c25 => k_is)
    (case k25 => k_is)
    (case a26 => k_is)
    (case l26 => k_is)
    (case c26 => k_is)
    (case k26 => k_is)
    (case a27 => k_is)
    (case l27 => k_is)
    (case c27 => k_is)
    (case k27 => k_is)
    (case a28 => k_is)
    (case l28 => k_is)
    (case c28 => k_is)
    (case k28 => k_is)
    (case a29 => k_is)
    (case l29 => k_is)
    (case c29 => k_is)
    (case k29 => k_is)
    (case a30 => k_is)
    (case l30 => k_is)
    (case c30 => k_is)
    (case k30 => k_is)
    (case a31 => k_is)
    (case l31 => k_is)
    (case c31 => k_is)
    (case k31 => k_is)
    (case a32 => k_is)
    (case l32 => k_is)
    (case c32 => k_is)
    (case k32 => k_is)
    (case a33 => k_is)
    (case l33 => k_is)
    (case c33 => k_is)
    (case k33 => k_is)
    (case a34 => k_is)
    (case l34 => k_is)
    (case c34 => k_is)
    (case k34 => k_is)
    (case a35 => k_is)
    (case l35 => k_is)
    (case c35 => k_is)
    (case k35 => k_is)
    (case a36 => k_is)
    (case l36 => k_is)
    (case c36 => k_is)
    (case k36 => k_is)
    (case a37 => k_is)
    (case l37 => k_is)
    (case c37 => k_is)
    (case k37 => k_is)
    (case a38 => k_is)
    (case l38 => k_is)
    (case c38 => k_is)
    (case k38 => k_is)
    (case a39 => k_is)
    (case l39 => k_is)
    (case c39 => k_is)
    (case k39 => k_is)
    (case a40 => k_is)
    (case l40 => k_is)
    (case c40 => k_is)
    (case k40 => k_is)
    (case a41 => k_is)
    (case l41 => k_is)
    (case c41 => k_is)
    (case k41 => k_is)
    (case a42 => k_is)
    (case l42 => k_is)
    (case c42 => k_is)
    (case k42 => k_is)
    (case a43 => k_is)
    (case l43 => k_is)
    (case c43 => k_is)
    (case k43 => k_is)
    (case z0 => k_is)
    (case z1 => k_is)
    (case z2 => k_is)
    (case z3 => k_is)
    (case y3 => k_is)
    (case x3 => first | rfl | kernel_rfl)
    (case z4 => k_is)
    (case z5 => k_is)
    (case z6 => k_is)
    (case z7 => k_is)
    (case z8 => k_is)
    (case z9 => k_is)
    (case z10 => k_is)
    (case zc_Shop => k_is)
    (case zp_Shop => k_is)
    (case zh_Shop => k_is)
    (case zo_Shop => k_is)
    (case zs_Shop => k_is)
    (case zm_Shop => k_is)
    (case zk_Shop => k_is)
    (case zn_Shop_editions => k_is)
    (case zn_Shop_leans => k_is)
    (case zn_Shop_customers => k_is)
    (case zn_Shop_sent => k_is)
    (case zn_Shop_past => k_is)
    (case zn_Shop_found => k_is)
    (case a_Shop_init => k_is)
    (case i_Shop_init => k_is)
    (case l_Shop_init => k_is)
    (case c_Shop_init => k_is)
    (case k_Shop_init => k_is)
    (case a_Shop_put => k_is)
    (case i_Shop_put => k_is)
    (case l_Shop_put => k_is)
    (case c_Shop_put => k_is)
    (case k_Shop_put => k_is)
    (case a_Shop_whole => k_is)
    (case i_Shop_whole => k_is)
    (case l_Shop_whole => k_is)
    (case c_Shop_whole => k_is)
    (case k_Shop_whole => k_is)
    (case a_Shop_send => k_is)
    (case i_Shop_send => k_is)
    (case l_Shop_send => k_is)
    (case c_Shop_send => k_is)
    (case k_Shop_send => k_is)
    (case a_Shop_names => k_is)
    (case i_Shop_names => k_is)
    (case l_Shop_names => k_is)
    (case c_Shop_names => k_is)
    (case k_Shop_names => k_is)
    (case a_Shop_edition => k_is)
    (case i_Shop_edition => k_is)
    (case l_Shop_edition => k_is)
    (case c_Shop_edition => k_is)
    (case k_Shop_edition => k_is)
    (case a_Shop_sent => k_is)
    (case i_Shop_sent => k_is)
    (case l_Shop_sent => k_is)
    (case c_Shop_sent => k_is)
    (case k_Shop_sent => k_is)
    (case a_Shop_stands => k_is)
    (case i_Shop_stands => k_is)
    (case l_Shop_stands => k_is)
    (case c_Shop_stands => k_is)
    (case k_Shop_stands => k_is)
    (case a_Shop_patch_between => k_is)
    (case i_Shop_patch_between => k_is)
    (case l_Shop_patch_between => k_is)
    (case c_Shop_patch_between => k_is)
    (case k_Shop_patch_between => k_is)
    (case a_Shop_check_known => k_is)
    (case i_Shop_check_known => k_is)
    (case l_Shop_check_known => k_is)
    (case c_Shop_check_known => k_is)
    (case k_Shop_check_known => k_is)
    (case a_Shop_customer => k_is)
    (case i_Shop_customer => k_is)
    (case l_Shop_customer => k_is)
    (case c_Shop_customer => k_is)
    (case k_Shop_customer => k_is)
    (case a_Shop_keep => k_is)
    (case i_Shop_keep => k_is)
    (case l_Shop_keep => k_is)
    (case c_Shop_keep => k_is)
    (case k_Shop_keep => k_is)
    (case a_Shop_replace => k_is)
    (case i_Shop_replace => k_is)
    (case l_Shop_replace => k_is)
    (case c_Shop_replace => k_is)
    (case k_Shop_replace => k_is)
    (case h_BadEdition => k_is)
    (case h_BadCount => k_is)
    (case h_TooMany => k_is)
    (case h_BadName => k_is)
    (case h_Known => k_is)
    (case h_NoName => k_is)
    (case h_NoDevice => k_is)
    (case q_xC_BadEdition => first | k_exc | kernel_rfl)
    (case q_kC_BadEdition => k_is)
    (case q_exC_BadEdition => k_is)
    (case q_tyC_BadEdition => k_is)
    (case q_xC_BadCount => first | k_exc | kernel_rfl)
    (case q_kC_BadCount => k_is)
    (case q_exC_BadCount => k_is)
    (case q_tyC_BadCount => k_is)
    (case q_xC_TooMany => first | k_exc | kernel_rfl)
    (case q_kC_TooMany => k_is)
    (case q_exC_TooMany => k_is)
    (case q_tyC_TooMany => k_is)
    (case q_xC_BadName => first | k_exc | kernel_rfl)
    (case q_kC_BadName => k_is)
    (case q_exC_BadName => k_is)
    (case q_tyC_BadName => k_is)
    (case q_xC_Known => first | k_exc | kernel_rfl)
    (case q_kC_Known => k_is)
    (case q_exC_Known => k_is)
    (case q_tyC_Known => k_is)
    (case q_xC_NoName => first | k_exc | kernel_rfl)
    (case q_kC_NoName => k_is)
    (case q_exC_NoName => k_is)
    (case q_tyC_NoName => k_is)
    (case q_xC_NoDevice => first | k_exc | kernel_rfl)
    (case q_kC_NoDevice => k_is)
    (case q_exC_NoDevice => k_is)
    (case q_tyC_NoDevice => k_is)
    (case y_all => k_is)
    (case y_bool => k_is)
    (case y_bytes => k_is)
    (case y_enumerate => k_is)
    (case y_int => k_is)
    (case y_isinstance => k_is)
    (case y_len => k_is)
    (case y_list => k_is)
    (case y_max => k_is)
    (case y_min => k_is)
    (case y_range => k_is)
    (case y_reversed => k_is)
    (case y_set => k_is)
    (case y_sorted => k_is)
    (case y_sum => k_is)
    (case y_tuple => k_is)
    (case y_zip => k_is)
