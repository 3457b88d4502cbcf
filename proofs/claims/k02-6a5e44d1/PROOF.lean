import PyProof.Rows.All
import Wide.All
import OpenK.AllK
import Wide.FinOn
import HandS.ForMost
import HandS.More
import HandS.IsInst
import HandS.Bytes
import HandS.Walk
import HandS.TupAny
import HandS.Style
import HandS.SortKw
import KE.GoesEnum
import KE.KMinKey
import HandS.WideBits
import HandS.Strs
import HandS.ToBytes
import PyProof.SumWalkG
import KE.KBytesWalk
import HandS.Star
import HandS.Star
import HandS.RaiseMore
import HandS.FStr
import HandS.Conv
import HandS.Dict
import HandS.DictComp
import HandS.SetFor
import HandS.TupSets
import HandS.Walk
import HandS.WordsDict
import HandS.NoneIn
import HandS.Exc
import HandS.ExcIs
import HandS.ExcField
import HandS.TryOnly
import HandS.Lambda
import HandS.EndTab
import HandS.FStr
import HandS.WordsExc
import KE.KExcSuper
import KE.KExcIs
import PySem.Challenge.RW_patchover_k02_editions_refused
set_option Elab.async false
set_option linter.all false
set_option maxRecDepth 100000
set_option maxHeartbeats 4000000
def PySem.W.Fast.tw3512216277238672665 : Unit := ()
def PySem.W.Fast.tw12931041352170850485 : Unit := ()
def PySem.W.Fast.tw2534971854728821125 : Unit := ()
def PySem.W.Fast.tw209646024837956769 : Unit := ()
def PySem.W.Fast.tw15310768480226499320 : Unit := ()
def PySem.W.Fast.tw6135404815563006501 : Unit := ()
def PySem.W.Fast.tw14016540407155026132 : Unit := ()
def PySem.W.Fast.tw6940717665433520095 : Unit := ()
def PySem.W.Fast.tw1095469559317630008 : Unit := ()
def PySem.W.Fast.tw16888402948564462638 : Unit := ()
def PySem.W.Fast.tw8352824131588900365 : Unit := ()
def PySem.W.Fast.tw2700208820886103277 : Unit := ()
def PySem.W.Fast.tw10621021708533863130 : Unit := ()
def PySem.W.Fast.tw2147901820131987475 : Unit := ()
def PySem.W.Fast.tw10299276921971400694 : Unit := ()
def PySem.W.Fast.tw11917150564083139390 : Unit := ()
def PySem.W.Fast.tw17733095727739329772 : Unit := ()
def PySem.W.Fast.tw15475763081023082230 : Unit := ()
def PySem.W.Fast.tw3341129727426211529 : Unit := ()
def PySem.W.Fast.tw17808506392852506577 : Unit := ()
def PySem.W.Fast.tw11301388775839612990 : Unit := ()
def PySem.W.Fast.tw530417285152129135 : Unit := ()
def PySem.W.Fast.tw3695572820463895631 : Unit := ()
def PySem.W.Fast.tw2725117639026056000 : Unit := ()
def PySem.W.Fast.tw14264648242604670285 : Unit := ()
def PySem.W.Fast.tw16712977132786017898 : Unit := ()
def PySem.W.Fast.tw286960217136492702 : Unit := ()
def PySem.W.Fast.tw16819359827369689464 : Unit := ()
def PySem.W.Fast.tw919288032888151180 : Unit := ()
def PySem.W.Fast.tw10654149840773879345 : Unit := ()
def PySem.W.Fast.tw13522019492478572741 : Unit := ()
def PySem.W.Fast.tw1904569514486778155 : Unit := ()
def PySem.W.Fast.tw1484668136312139105 : Unit := ()
def PySem.W.Fast.tw11637328288430867188 : Unit := ()
def PySem.W.Fast.tw10642743906876321747 : Unit := ()
def PySem.W.Fast.tw9562732954695657384 : Unit := ()
def PySem.W.Fast.tw3433500480883302031 : Unit := ()
def PySem.W.Fast.tw18276738483592947638 : Unit := ()
def PySem.W.Fast.tw18175068535539099124 : Unit := ()
def PySem.W.Fast.tw7201005967944613994 : Unit := ()
def PySem.W.Fast.tw9531569798303499750 : Unit := ()
def PySem.W.Fast.tw13471332265508930111 : Unit := ()
def PySem.W.Fast.tw2118024892759623773 : Unit := ()
def PySem.W.Fast.tw2814545864134337637 : Unit := ()
def PySem.W.Fast.tw11214703145730412392 : Unit := ()
def PySem.W.Fast.tw3287671358901032142 : Unit := ()
def PySem.W.Fast.tw1063062276828478880 : Unit := ()
def PySem.W.Fast.tw16415169207996010985 : Unit := ()
def PySem.W.Fast.tw14403903096050611939 : Unit := ()
def PySem.W.Fast.tw10736276060567688400 : Unit := ()
def PySem.W.Fast.tw4080358792683295204 : Unit := ()
def PySem.W.Fast.tw1766322906171025447 : Unit := ()
def PySem.W.Fast.tw3425728970559280703 : Unit := ()
def PySem.W.Fast.tw3362374234098073828 : Unit := ()
def PySem.W.Fast.tw10453829735229442530 : Unit := ()
def PySem.W.Fast.tw16799412663035211262 : Unit := ()
def PySem.W.Fast.tw15807596657720058353 : Unit := ()
def PySem.W.Fast.tw8846205141422281882 : Unit := ()
def PySem.W.Fast.tw14382270060287385241 : Unit := ()
def PySem.W.Fast.tw4533795888409440095 : Unit := ()
def PySem.W.Fast.tw6336564268961204961 : Unit := ()
def PySem.W.Fast.tw17214650846933608437 : Unit := ()
def PySem.W.Fast.tw2066365141150859480 : Unit := ()
def PySem.W.Fast.tw1973797035853667588 : Unit := ()
def PySem.W.Fast.tw15995802530547533029 : Unit := ()
def PySem.W.Fast.tw5905788138662771093 : Unit := ()
def PySem.W.Fast.tw1554793060220374256 : Unit := ()
def PySem.W.Fast.tw11117827216168870636 : Unit := ()
def PySem.W.Fast.tw14532994030280481694 : Unit := ()
def PySem.W.Fast.tw16298970296862204228 : Unit := ()
def PySem.W.Fast.tw149160544222048681 : Unit := ()
def PySem.W.Fast.tw1500128340688575126 : Unit := ()
def PySem.W.Fast.tw1039844568366718196 : Unit := ()
def PySem.W.Fast.tw3551349627517846292 : Unit := ()
def PySem.W.Fast.tw8565847409244141528 : Unit := ()
def PySem.W.Fast.tw9428231666655126671 : Unit := ()
def PySem.W.Fast.tw14449152340428058217 : Unit := ()
def PySem.W.Fast.tw13408720369301954924 : Unit := ()
def PySem.W.Fast.tw42238461200124908 : Unit := ()
def PySem.W.Fast.tw14709061574963826614 : Unit := ()
def PySem.W.Fast.tw10869226331127090533 : Unit := ()
def PySem.W.Fast.tw7866074370062939669 : Unit := ()
def PySem.W.Fast.tw13841724320452069032 : Unit := ()
def PySem.W.Fast.tw5808655746536616383 : Unit := ()
def PySem.W.Fast.tw9787691573568627722 : Unit := ()
def PySem.W.Fast.tw17433397990722270265 : Unit := ()
def PySem.W.Fast.tw15412416753917982687 : Unit := ()
def PySem.W.Fast.tw10755297052902683051 : Unit := ()
def PySem.W.Fast.tw9955527782752901438 : Unit := ()
def PySem.W.Fast.tw11777722335144553428 : Unit := ()
def PySem.W.Fast.tw12051086900954716070 : Unit := ()
def PySem.W.Fast.tw181522825350821556 : Unit := ()
def PySem.W.Fast.tw2431512044557795510 : Unit := ()
def PySem.W.Fast.tw8357326844738409599 : Unit := ()
def PySem.W.Fast.tw229646927089023004 : Unit := ()
def PySem.W.Fast.tw14396110134343834164 : Unit := ()
def PySem.W.Fast.tw458709907276985728 : Unit := ()
def PySem.W.Fast.tw18356367355722005266 : Unit := ()
def PySem.W.Fast.tw12448266773733663349 : Unit := ()
def PySem.W.Fast.tw17613151040706449441 : Unit := ()
def PySem.W.Fast.tw1154479801482075824 : Unit := ()
def PySem.W.Fast.tw15114407679039305387 : Unit := ()
def PySem.W.Fast.tw1360940736637159814 : Unit := ()
def PySem.W.Fast.tw12976149971701361289 : Unit := ()
def PySem.W.Fast.tw1380458193200538671 : Unit := ()
def PySem.W.Fast.tw9316632664247694455 : Unit := ()
def PySem.W.Fast.tw14256895174529033513 : Unit := ()
def PySem.W.Fast.tw13818908062855542987 : Unit := ()
def PySem.W.Fast.tw13709931869395594375 : Unit := ()
def PySem.W.Fast.tw2105244927091228251 : Unit := ()
def PySem.W.Fast.tw3345206455620132953 : Unit := ()
def PySem.W.Fast.tw13189965265710413534 : Unit := ()
def PySem.W.Fast.tw15517890096475355934 : Unit := ()
def PySem.W.Fast.tw13915877659466205242 : Unit := ()
def PySem.W.Fast.tw1256554471318531966 : Unit := ()
def PySem.W.Fast.tw17012391683300709165 : Unit := ()
def PySem.W.Fast.tw14052601157034396781 : Unit := ()
def PySem.W.Fast.tw5566911007013266871 : Unit := ()
def PySem.W.Fast.tw9806026781631163880 : Unit := ()
def PySem.W.Fast.tw8843059415983198443 : Unit := ()
def PySem.W.Fast.tw13813273489603859734 : Unit := ()
def PySem.W.Fast.tw6402276277852811211 : Unit := ()
def PySem.W.Fast.tw2122496408317959696 : Unit := ()
def PySem.W.Fast.tw13771741665021832428 : Unit := ()
def PySem.W.Fast.tw3599316832578779371 : Unit := ()
def PySem.W.Fast.tw12584030320020357031 : Unit := ()
def PySem.W.Fast.tw1798923568638910102 : Unit := ()
def PySem.W.Fast.tw2718578259360245801 : Unit := ()
def PySem.W.Fast.tw16416643214885922327 : Unit := ()
def PySem.W.Fast.tw8058539127930619111 : Unit := ()
def PySem.W.Fast.tw2281992907207472411 : Unit := ()
def PySem.W.Fast.tw6730699603321507701 : Unit := ()
def PySem.W.Fast.tw4145469005371166836 : Unit := ()
def PySem.W.Fast.tw15751828269611902566 : Unit := ()
def PySem.W.Fast.tw13065433923087901746 : Unit := ()
def PySem.W.Fast.tw7773736083776759404 : Unit := ()
def PySem.W.Fast.tw7571241125988408188 : Unit := ()
def PySem.W.Fast.tw12651522330602891965 : Unit := ()
def PySem.W.Fast.tw15113256298681481592 : Unit := ()
def PySem.W.Fast.tw10914575873537274037 : Unit := ()
def PySem.W.Fast.tw2787248180503753574 : Unit := ()
def PySem.W.Fast.tw14876549660354068567 : Unit := ()
def PySem.W.Fast.tw17672211696058352811 : Unit := ()
def PySem.W.Fast.tw15398027134358572183 : Unit := ()
def PySem.W.Fast.tw11285522286299046123 : Unit := ()
def PySem.W.Fast.tw14090941960345357725 : Unit := ()
def PySem.W.Fast.tw8693155789754799730 : Unit := ()
def PySem.W.Fast.tw9464952407461420456 : Unit := ()
def PySem.W.Fast.tw16910276125635780195 : Unit := ()
def PySem.W.Fast.tw10365173470871061444 : Unit := ()
def PySem.W.Fast.tw5660692725182243610 : Unit := ()
def PySem.W.Fast.tw516339693890148680 : Unit := ()
def PySem.W.Fast.tw2624358485680634706 : Unit := ()
def PySem.W.Fast.tw1924948445995265397 : Unit := ()
def PySem.W.Fast.tw2601588634177376237 : Unit := ()
def PySem.W.Fast.tw11565680795660124047 : Unit := ()
def PySem.W.Fast.tw12033423691122805624 : Unit := ()
def PySem.W.Fast.tw1095752850834025835 : Unit := ()
def PySem.W.Fast.tw1675987440402373501 : Unit := ()
def PySem.W.Fast.tw3871060339645313773 : Unit := ()
def PySem.W.Fast.tw9371940237259758897 : Unit := ()
def PySem.W.Fast.tw3974034794851926259 : Unit := ()
def PySem.W.Fast.tw723850183714671259 : Unit := ()
def PySem.W.Fast.tw12541197253439218892 : Unit := ()
def PySem.W.Fast.tw1352236179458366900 : Unit := ()
def PySem.W.Fast.tw16205223192766277634 : Unit := ()
def PySem.W.Fast.tw17598637795688073502 : Unit := ()
def PySem.W.Fast.tw3790457584884629121 : Unit := ()
def PySem.W.Fast.tw17385219254966002925 : Unit := ()
def PySem.W.Fast.tw12768661473455982874 : Unit := ()
def PySem.W.Fast.tw6268677237614256948 : Unit := ()
def PySem.W.Fast.tw8761592515849970852 : Unit := ()
def PySem.W.Fast.tw16845900691345507509 : Unit := ()
def PySem.W.Fast.tw4648816582470004023 : Unit := ()
def PySem.W.Fast.tw13236863819951472416 : Unit := ()
def PySem.W.Fast.tw2169928929380843213 : Unit := ()
def PySem.W.Fast.tw12253359155796412167 : Unit := ()
def PySem.W.Fast.tw1245096090607538221 : Unit := ()
def PySem.W.Fast.tw4451887895808954576 : Unit := ()
def PySem.W.Fast.tw10494748437326982824 : Unit := ()
def PySem.W.Fast.tw629147035134082308 : Unit := ()
def PySem.W.Fast.tw16029916461841500933 : Unit := ()
def PySem.W.Fast.tw1029002823324864910 : Unit := ()
def PySem.W.Fast.tw13000716697477569138 : Unit := ()
def PySem.W.Fast.tw15082728717444033895 : Unit := ()
def PySem.W.Fast.tw8474677298794968377 : Unit := ()
def PySem.W.Fast.tw2425301483067672277 : Unit := ()
def PySem.W.Fast.tw16113399322809303852 : Unit := ()
def PySem.W.Fast.tw7446232081588803436 : Unit := ()
def PySem.W.Fast.tw11455297163194355742 : Unit := ()
def PySem.W.Fast.tw4117101364474845744 : Unit := ()
def PySem.W.Fast.tw1818215263648402254 : Unit := ()
def PySem.W.Fast.tw14770249237096005915 : Unit := ()
def PySem.W.Fast.tw9413369267165606077 : Unit := ()
def PySem.W.Fast.tw11666547672665124846 : Unit := ()
def PySem.W.Fast.tw13162450409127740679 : Unit := ()
def PySem.W.Fast.tw10330430696398266080 : Unit := ()
def PySem.W.Fast.tw14589222249977832817 : Unit := ()
def PySem.W.Fast.tw5907943279596461702 : Unit := ()
def PySem.W.Fast.tw11163755811899240423 : Unit := ()
def PySem.W.Fast.tw12296062258831306657 : Unit := ()
def PySem.W.Fast.tw1107271841725452547 : Unit := ()
def PySem.W.Fast.tw5019287079645621971 : Unit := ()
def PySem.W.Fast.tw8995233739294501765 : Unit := ()
def PySem.W.Fast.tw6319778868702892984 : Unit := ()
def PySem.W.Fast.tw11564153122929973967 : Unit := ()
def PySem.W.Fast.tw1913971729951166622 : Unit := ()
def PySem.W.Fast.tw13066750219492791451 : Unit := ()
def PySem.W.Fast.tw14354741259070649224 : Unit := ()
def PySem.W.Fast.tw54398820531555559 : Unit := ()
def PySem.W.Fast.tw11455006641339049598 : Unit := ()
def PySem.W.Fast.tw4489342387891488302 : Unit := ()
def PySem.W.Fast.tw5617671326061749779 : Unit := ()
def PySem.W.Fast.tw15839944435465210906 : Unit := ()
def PySem.W.Fast.tw6395223166997302004 : Unit := ()
def PySem.W.Fast.tw14685518670426441942 : Unit := ()
def PySem.W.Fast.tw13950488908279742333 : Unit := ()
def PySem.W.Fast.tw2844449398170838182 : Unit := ()
def PySem.W.Fast.tw7754282016956974490 : Unit := ()
def PySem.W.Fast.tw14151566970922721143 : Unit := ()
def PySem.W.Fast.tw1467484717725230058 : Unit := ()
def PySem.W.Fast.tw7403304840763376610 : Unit := ()
def PySem.W.Fast.tw17842746918589954066 : Unit := ()
def PySem.W.Fast.tw3352416777950539574 : Unit := ()
def PySem.W.Fast.tw5827197550830928235 : Unit := ()
def PySem.W.Fast.tw16512510572777961782 : Unit := ()
def PySem.W.Fast.tw3158596549975698797 : Unit := ()
def PySem.W.Fast.tw10918375080394150569 : Unit := ()
def PySem.W.Fast.tw14491402523951182709 : Unit := ()
def PySem.W.Fast.tw326763847951841695 : Unit := ()
def PySem.W.Fast.tw14780166332971953734 : Unit := ()
def PySem.W.Fast.tw617290328303127838 : Unit := ()
def PySem.W.Fast.tw14446780602857525754 : Unit := ()
def PySem.W.Fast.tw2687136157128152014 : Unit := ()
def PySem.W.Fast.tw18050466052551384752 : Unit := ()
def PySem.W.Fast.tw2708754685951515036 : Unit := ()
def PySem.W.Fast.tw2240440777321277986 : Unit := ()
def PySem.W.Fast.tw5722857327449866778 : Unit := ()
def PySem.W.Fast.tw6454031078659337116 : Unit := ()
def PySem.W.Fast.tw12776564709722433941 : Unit := ()
def PySem.W.Fast.tw15850192676084508277 : Unit := ()
def PySem.W.Fast.tw16334268088035209949 : Unit := ()
def PySem.W.Fast.tw3526489258429709689 : Unit := ()
def PySem.W.Fast.tw16619355517478397062 : Unit := ()
def PySem.W.Fast.tw3236603677994614528 : Unit := ()
def PySem.W.Fast.tw5352613070463817889 : Unit := ()
def PySem.W.Fast.tw2329535017193384363 : Unit := ()
def PySem.W.Fast.tw12602573495913573271 : Unit := ()
def PySem.W.Fast.tw16766708914270817834 : Unit := ()
def PySem.W.Fast.tw12555507542606464779 : Unit := ()
def PySem.W.Fast.tw6571398931780729390 : Unit := ()
def PySem.W.Fast.tw1800723569389600723 : Unit := ()
def PySem.W.Fast.tw6153511414075365931 : Unit := ()
def PySem.W.Fast.tw10520553483037162757 : Unit := ()
def PySem.W.Fast.tw15024892550112476198 : Unit := ()
def PySem.W.Fast.tw4963454439162215685 : Unit := ()
def PySem.W.Fast.tw3518488813528655735 : Unit := ()
def PySem.W.Fast.tw9409189326833413498 : Unit := ()
def PySem.W.Fast.tw15641281735486278748 : Unit := ()
def PySem.W.Fast.tw17401051004265193872 : Unit := ()
def PySem.W.Fast.tw2627015046068231021 : Unit := ()
def PySem.W.Fast.tw15506692903511710580 : Unit := ()
def PySem.W.Fast.tw15934244359681899284 : Unit := ()
def PySem.W.Fast.tw2996609477191659569 : Unit := ()
def PySem.W.Fast.tw18112336142175185093 : Unit := ()
def PySem.W.Fast.tw13098661116960187392 : Unit := ()
def PySem.W.Fast.tw15006683329323812721 : Unit := ()
def PySem.W.Fast.tw16352986632159416317 : Unit := ()
def PySem.W.Fast.tw11600099675784733653 : Unit := ()
def PySem.W.Fast.tw10805059610476630810 : Unit := ()
def PySem.W.Fast.tw13175968213345233317 : Unit := ()
def PySem.W.Fast.tw8813435171709610381 : Unit := ()
def PySem.W.Fast.tw7527881999013548876 : Unit := ()
def PySem.W.Fast.tw9580027684369565929 : Unit := ()
def PySem.W.Fast.tw14713448334687140498 : Unit := ()
def PySem.W.Fast.tw15259817296601715814 : Unit := ()
def PySem.W.Fast.tw2003748902063440839 : Unit := ()
def PySem.W.Fast.tw2442497360023741264 : Unit := ()
def PySem.W.Fast.tw4511115244851768656 : Unit := ()
def PySem.W.Fast.tw8233691940120838031 : Unit := ()
def PySem.W.Fast.tw14375411057823061872 : Unit := ()
def PySem.W.Fast.tw3614538329415433779 : Unit := ()
def PySem.W.Fast.tw5764276993065341326 : Unit := ()
def PySem.W.Fast.tw11821540827948562687 : Unit := ()
def PySem.W.Fast.tw2588364513813916390 : Unit := ()
def PySem.W.Fast.tw5823736463711343245 : Unit := ()
def PySem.W.Fast.tw15743490872636317311 : Unit := ()
def PySem.W.Fast.tw4371523805719860413 : Unit := ()
def PySem.W.Fast.tw8993443288937546305 : Unit := ()
def PySem.W.Fast.tw6463528640902926725 : Unit := ()
def PySem.W.Fast.tw16331525956394198488 : Unit := ()
def PySem.W.Fast.tw991294043313001973 : Unit := ()
def PySem.W.Fast.tw11665505474569942631 : Unit := ()
def PySem.W.Fast.tw6720476993661533536 : Unit := ()
def PySem.W.Fast.tw913878345575114795 : Unit := ()
def PySem.W.Fast.tw3134250656688305869 : Unit := ()
def PySem.W.Fast.tw727272861367258562 : Unit := ()
def PySem.W.Fast.tw12479059889925491050 : Unit := ()
def PySem.W.Fast.tw7149299021900348780 : Unit := ()
def PySem.W.Fast.tw5638448883784103199 : Unit := ()
def PySem.W.Fast.tw18202492369686196627 : Unit := ()
def PySem.W.Fast.tw12549751176935501694 : Unit := ()
def PySem.W.Fast.tw2025335641779915065 : Unit := ()
def PySem.W.Fast.tw7016202879561516256 : Unit := ()
def PySem.W.Fast.tw1285494769882183394 : Unit := ()
def PySem.W.Fast.tw9586169022723563779 : Unit := ()
def PySem.W.Fast.tw6175141318029891215 : Unit := ()
def PySem.W.Fast.tw1840266423016618024 : Unit := ()
def PySem.W.Fast.tw8098346573025890044 : Unit := ()
def PySem.W.Fast.tw17572252214129238345 : Unit := ()
def PySem.W.Fast.tw1688430431549754569 : Unit := ()
def PySem.W.Fast.tw5971353766087150287 : Unit := ()
def PySem.W.Fast.tw4026895122549998586 : Unit := ()
def PySem.W.Fast.tw1569557424738124452 : Unit := ()
def PySem.W.Fast.tw10227451698208702224 : Unit := ()
def PySem.W.Fast.tw9282832307277133286 : Unit := ()
def PySem.W.Fast.tw8444860722404968388 : Unit := ()
def PySem.W.Fast.tw12489400137400134714 : Unit := ()
def PySem.W.Fast.tw10752756001489322845 : Unit := ()
def PySem.W.Fast.tw4825953665604535169 : Unit := ()
def PySem.W.Fast.tw10520419031411342325 : Unit := ()
def PySem.W.Fast.tw9467886354884756582 : Unit := ()
def PySem.W.Fast.tw17000464651787593517 : Unit := ()
def PySem.W.Fast.tw258041405185997299 : Unit := ()
def PySem.W.Fast.tw13538488822125544387 : Unit := ()
def PySem.W.Fast.tw12212033356741657246 : Unit := ()
def PySem.W.Fast.tw13866265841574431999 : Unit := ()
def PySem.W.Fast.tw15316051888656263793 : Unit := ()
def PySem.W.Fast.tw7575121965966733898 : Unit := ()
def PySem.W.Fast.tw14100934831527420944 : Unit := ()
def PySem.W.Fast.tw13454117858940113572 : Unit := ()
def PySem.W.Fast.tw13216873242781290628 : Unit := ()
def PySem.W.Fast.tw4059285134500670542 : Unit := ()
def PySem.W.Fast.tw1255355665531546764 : Unit := ()
def PySem.W.Fast.tw16958464261320683798 : Unit := ()
def PySem.W.Fast.tw3983429347312779259 : Unit := ()
def PySem.W.Fast.tw18332142993860237283 : Unit := ()
def PySem.W.Fast.tw4148482930298843978 : Unit := ()
def PySem.W.Fast.tw11845277922660659844 : Unit := ()
def PySem.W.Fast.tw1324899647267968128 : Unit := ()
def PySem.W.Fast.tw8198538271733423003 : Unit := ()
def PySem.W.Fast.tw9580757433517779515 : Unit := ()
def PySem.W.Fast.tw7728603262007891659 : Unit := ()
def PySem.W.Fast.tw7204592144226317259 : Unit := ()
def PySem.W.Fast.tw4213513157948986349 : Unit := ()
def PySem.W.Fast.tw16457241130195370247 : Unit := ()
def PySem.W.Fast.tw1805981972138627698 : Unit := ()
def PySem.W.Fast.tw10754853375622962515 : Unit := ()
def PySem.W.Fast.tw2460397564165701562 : Unit := ()
def PySem.W.Fast.tw8862898698337893913 : Unit := ()
def PySem.W.Fast.tw2138072052282785811 : Unit := ()
def PySem.W.Fast.tw10224192866553171502 : Unit := ()
def PySem.W.Fast.tw640538215442955360 : Unit := ()
def PySem.W.Fast.tw3900701235702744018 : Unit := ()
def PySem.W.Fast.tw279229099426323847 : Unit := ()
def PySem.W.Fast.tw17538132168547938171 : Unit := ()
def PySem.W.Fast.tw7725436273267200953 : Unit := ()
def PySem.W.Fast.tw16544935534836721598 : Unit := ()
def PySem.W.Fast.tw2771528562438700506 : Unit := ()
def PySem.W.Fast.tw1233668199526581783 : Unit := ()
def PySem.W.Fast.tw17234930711744728022 : Unit := ()
def PySem.W.Fast.tw3432748728386909392 : Unit := ()
def PySem.W.Fast.tw14749803744445003009 : Unit := ()
def PySem.W.Fast.tw15699321004290847863 : Unit := ()
def PySem.W.Fast.tw7331934112390583055 : Unit := ()
def PySem.W.Fast.tw13474915450108166551 : Unit := ()
def PySem.W.Fast.tw16671224774892566779 : Unit := ()
def PySem.W.Fast.tw8952475807115700153 : Unit := ()
def PySem.W.Fast.tw12919579033120045728 : Unit := ()
def PySem.W.Fast.tw3085306954046812866 : Unit := ()
def PySem.W.Fast.tw9150374591764192211 : Unit := ()
def PySem.W.Fast.tw13065432458343674474 : Unit := ()
def PySem.W.Fast.tw13968284853465051184 : Unit := ()
def PySem.W.Fast.tw6110100514616512615 : Unit := ()
def PySem.W.Fast.tw2127597163809209414 : Unit := ()
def PySem.W.Fast.tw10276300603324741377 : Unit := ()
def PySem.W.Fast.tw3455342731012895791 : Unit := ()
def PySem.W.Fast.tw15237353122832657724 : Unit := ()
def PySem.W.Fast.tw1415401326057654304 : Unit := ()
def PySem.W.Fast.tw9581699449300642018 : Unit := ()
def PySem.W.Fast.tw17445725405030737873 : Unit := ()
def PySem.W.Fast.tw10253603659597615264 : Unit := ()
def PySem.W.Fast.tw9938020585478427002 : Unit := ()
def PySem.W.Fast.tw2516025621062137887 : Unit := ()
def PySem.W.Fast.tw4972785914070470418 : Unit := ()
def PySem.W.Fast.tw9790824303806894510 : Unit := ()
def PySem.W.Fast.tw16360677487986595566 : Unit := ()
def PySem.W.Fast.tw7556757337500549530 : Unit := ()
def PySem.W.Fast.tw12420190856076223955 : Unit := ()
def PySem.W.Fast.tw4182815732752417297 : Unit := ()
def PySem.W.Fast.tw17758216956073116060 : Unit := ()
def PySem.W.Fast.tw3954850458272077072 : Unit := ()
def PySem.W.Fast.tw14126744365007366296 : Unit := ()
def PySem.W.Fast.tw3572095123324070361 : Unit := ()
def PySem.W.Fast.tw9044855546775449158 : Unit := ()
def PySem.W.Fast.tw15439276202138397697 : Unit := ()
def PySem.W.Fast.tw14019364115066617314 : Unit := ()
def PySem.W.Fast.tw8884506310560813057 : Unit := ()
def PySem.W.Fast.tw7211888996685062110 : Unit := ()
def PySem.W.Fast.tw10008642677358138812 : Unit := ()
def PySem.W.Fast.tw7229894856091263982 : Unit := ()
def PySem.W.Fast.tw6856803606438663540 : Unit := ()
def PySem.W.Fast.tw14752212951233447338 : Unit := ()
def PySem.W.Fast.tw10182325245151729784 : Unit := ()
def PySem.W.Fast.tw2876194439009599805 : Unit := ()
def PySem.W.Fast.tw16525958034034875575 : Unit := ()
def PySem.W.Fast.tw5201239792144530153 : Unit := ()
def PySem.W.Fast.tw9908426660494882152 : Unit := ()
def PySem.W.Fast.tw16558499629288280328 : Unit := ()
def PySem.W.Fast.tw645362939572082828 : Unit := ()
def PySem.W.Fast.tw13267914299543305883 : Unit := ()
def PySem.W.Fast.tw2132648800599384034 : Unit := ()
def PySem.W.Fast.tw1329637565675144010 : Unit := ()
def PySem.W.Fast.tw17358051688530217547 : Unit := ()
def PySem.W.Fast.tw419062564138238294 : Unit := ()
def PySem.W.Fast.tw374919177360337701 : Unit := ()
def PySem.W.Fast.tw8348422668856039535 : Unit := ()
def PySem.W.Fast.tw10466031789456407988 : Unit := ()
def PySem.W.Fast.tw2850473970299830536 : Unit := ()
def PySem.W.Fast.tw14316847735015084387 : Unit := ()
def PySem.W.Fast.tw3355922662979626291 : Unit := ()
def PySem.W.Fast.tw7335067694466315713 : Unit := ()
def PySem.W.Fast.tw10701413246480771298 : Unit := ()
def PySem.W.Fast.tw12397986541830761869 : Unit := ()
def PySem.W.Fast.tw16331057802463171036 : Unit := ()
def PySem.W.Fast.tw10218852357895104119 : Unit := ()
def PySem.W.Fast.tw10904869814774321799 : Unit := ()
def PySem.W.Fast.tw18015208613512823982 : Unit := ()
def PySem.W.Fast.tw3501253591410999174 : Unit := ()
def PySem.W.Fast.tw10855279294630443510 : Unit := ()
def PySem.W.Fast.tw9426675375428723210 : Unit := ()
def PySem.W.Fast.tw3065389081411852062 : Unit := ()
def PySem.W.Fast.tw16106426686961637051 : Unit := ()
def PySem.W.Fast.tw1278797912093921424 : Unit := ()
def PySem.W.Fast.tw15190710526408157249 : Unit := ()
def PySem.W.Fast.tw5474568221978678628 : Unit := ()
def PySem.W.Fast.tw14790660488155022734 : Unit := ()
def PySem.W.Fast.tw1093606563549538612 : Unit := ()
def PySem.W.Fast.tw29813441954307628 : Unit := ()
def PySem.W.Fast.tw4745830680220907725 : Unit := ()
def PySem.W.Fast.tw188898784510664660 : Unit := ()
def PySem.W.Fast.tw13067153973480880729 : Unit := ()
def PySem.W.Fast.tw3467083649555969420 : Unit := ()
def PySem.W.Fast.tw1236169538085949567 : Unit := ()
def PySem.W.Fast.tw715140064811686444 : Unit := ()
def PySem.W.Fast.tw9097980769622136691 : Unit := ()
def PySem.W.Fast.tw7464281830219740319 : Unit := ()
def PySem.W.Fast.tw17052471563476512442 : Unit := ()
def PySem.W.Fast.tw9694253029510145773 : Unit := ()
def PySem.W.Fast.tw4099108700232715927 : Unit := ()
def PySem.W.Fast.tw16216080921189428163 : Unit := ()
def PySem.W.Fast.tw4092543126914679065 : Unit := ()
def PySem.W.Fast.tw9622804278066936516 : Unit := ()
def PySem.W.Fast.tw8838891316894042545 : Unit := ()
def PySem.W.Fast.tw4919155292998341550 : Unit := ()
def PySem.W.Fast.tw9590722471860856803 : Unit := ()
def PySem.W.Fast.tw8692429581896539349 : Unit := ()
def PySem.W.Fast.tw5982111151351894143 : Unit := ()
def PySem.W.Fast.tw3789622920403508551 : Unit := ()
def PySem.W.Fast.tw14781726112524992495 : Unit := ()
def PySem.W.Fast.tw1022734510133656271 : Unit := ()
def PySem.W.Fast.tw15937924839651517042 : Unit := ()
def PySem.W.Fast.tw17377387076714230766 : Unit := ()
def PySem.W.Fast.tw9240177041985258611 : Unit := ()
def PySem.W.Fast.tw16515178600727393349 : Unit := ()
def PySem.W.Fast.tw11653597963025058572 : Unit := ()
def PySem.W.Fast.tw11689668937159981517 : Unit := ()
def PySem.W.Fast.tw18091812137413068686 : Unit := ()
def PySem.W.Fast.tw11222654526786049149 : Unit := ()
def PySem.W.Fast.tw3423153367960831347 : Unit := ()
def PySem.W.Fast.tw8306917764033391226 : Unit := ()
def PySem.W.Fast.tw6119398033073026129 : Unit := ()
def PySem.W.Fast.tw12578990873672268359 : Unit := ()
def PySem.W.Fast.tw9197811464008153136 : Unit := ()
def PySem.W.Fast.tw4267188881006956239 : Unit := ()
def PySem.W.Fast.tw12504359406919658082 : Unit := ()
def PySem.W.Fast.tw10177289934536421997 : Unit := ()
def PySem.W.Fast.tw6648579578172628913 : Unit := ()
def PySem.W.Fast.tw11338684646769613185 : Unit := ()
def PySem.W.Fast.tw3884262065022201947 : Unit := ()
def PySem.W.Fast.tw13529973478684129371 : Unit := ()
def PySem.W.Fast.tw1751441663817135664 : Unit := ()
def PySem.W.Fast.tw813646037692714220 : Unit := ()
def PySem.W.Fast.tw5519326125438114528 : Unit := ()
def PySem.W.Fast.tw9673691578949942859 : Unit := ()
def PySem.W.Fast.tw9249693911301940142 : Unit := ()
def PySem.W.Fast.tw2873926641891054992 : Unit := ()
def PySem.W.Fast.tw10794926668334569738 : Unit := ()
def PySem.W.Fast.tw3691333001175875344 : Unit := ()
def PySem.W.Fast.tw9864229700723216348 : Unit := ()
def PySem.W.Fast.tw13593874787161971212 : Unit := ()
def PySem.W.Fast.tw18017685893837379538 : Unit := ()
def PySem.W.Fast.tw18053002303555957579 : Unit := ()
def PySem.W.Fast.tw15600171376262519490 : Unit := ()
def PySem.W.Fast.tw10668442652194247397 : Unit := ()
def PySem.W.Fast.tw4266665544740247346 : Unit := ()
def PySem.W.Fast.tw14750752258623265361 : Unit := ()
def PySem.W.Fast.tw1277691170964610598 : Unit := ()
def PySem.W.Fast.tw5845796482342153791 : Unit := ()
def PySem.W.Fast.tw4143981143569127690 : Unit := ()
def PySem.W.Fast.tw8304905839362042643 : Unit := ()
def PySem.W.Fast.tw13643843549153920308 : Unit := ()
def PySem.W.Fast.tw13391559466483862612 : Unit := ()
def PySem.W.Fast.tw10328733924104200141 : Unit := ()
def PySem.W.Fast.tw11689695843732576798 : Unit := ()
def PySem.W.Fast.tw5067772035227270602 : Unit := ()
def PySem.W.Fast.tw15443980948306331646 : Unit := ()
def PySem.W.Fast.tw1016200341669680068 : Unit := ()
def PySem.W.Fast.tw13007227357772486264 : Unit := ()
def PySem.W.Fast.tw4683941837756663971 : Unit := ()
def PySem.W.Fast.tw12019251072416315670 : Unit := ()
def PySem.W.Fast.tw16031239902925226672 : Unit := ()
def PySem.W.Fast.tw6181485634645546770 : Unit := ()
def PySem.W.Fast.tw1341222318916464408 : Unit := ()
def PySem.W.Fast.tw5989966030502155769 : Unit := ()
def PySem.W.Fast.tw11038278208032757224 : Unit := ()
def PySem.W.Fast.tw6270575298491502006 : Unit := ()
def PySem.W.Fast.tw3796708546543558932 : Unit := ()
def PySem.W.Fast.tw3425431607018377119 : Unit := ()
def PySem.W.Fast.tw12424779544068715251 : Unit := ()
def PySem.W.Fast.tw5702612583180103271 : Unit := ()
def PySem.W.Fast.tw15159789287832557073 : Unit := ()
def PySem.W.Fast.tw4163868774744260435 : Unit := ()
def PySem.W.Fast.tw1454651904823622899 : Unit := ()
def PySem.W.Fast.tw4988498094090032438 : Unit := ()
def PySem.W.Fast.tw5931187799629776959 : Unit := ()
def PySem.W.Fast.tw6080972535012350335 : Unit := ()
def PySem.W.Fast.tw3811874755193937065 : Unit := ()
def PySem.W.Fast.tw15986098536609859903 : Unit := ()
def PySem.W.Fast.tw1832468980409112504 : Unit := ()
def PySem.W.Fast.tw10972484461791277379 : Unit := ()
def PySem.W.Fast.tw3938622331461639918 : Unit := ()
def PySem.W.Fast.tw1192332360127989783 : Unit := ()
def PySem.W.Fast.tw930985966363732418 : Unit := ()
def PySem.W.Fast.tw5993921601504810657 : Unit := ()
def PySem.W.Fast.tw9895583637724589369 : Unit := ()
def PySem.W.Fast.tw13968545132839107503 : Unit := ()
def PySem.W.Fast.tw6182627294065889814 : Unit := ()
def PySem.W.Fast.tw15793174272389857917 : Unit := ()
def PySem.W.Fast.tw2870812184885607216 : Unit := ()
def PySem.W.Fast.tw12860243358106681634 : Unit := ()
def PySem.W.Fast.tw14755366961557974671 : Unit := ()
def PySem.W.Fast.tw765838197650633584 : Unit := ()
def PySem.W.Fast.tw7255527637477446311 : Unit := ()
def PySem.W.Fast.tw2675179996075172356 : Unit := ()
def PySem.W.Fast.tw13020461335648375887 : Unit := ()
def PySem.W.Fast.tw4355714554981118943 : Unit := ()
def PySem.W.Fast.tw14628510574842476384 : Unit := ()
def PySem.W.Fast.tw9647630099545072971 : Unit := ()
def PySem.W.Fast.tw11872360826463481614 : Unit := ()
def PySem.W.Fast.tw13147815523939172531 : Unit := ()
def PySem.W.Fast.tw17927685815003524625 : Unit := ()
def PySem.W.Fast.tw3796530622835346738 : Unit := ()
def PySem.W.Fast.tw15398357376846637094 : Unit := ()
def PySem.W.Fast.tw13270617529749010593 : Unit := ()
def PySem.W.Fast.tw13377688795215773672 : Unit := ()
def PySem.W.Fast.tw18400028294902559 : Unit := ()
def PySem.W.Fast.tw5882041901366726273 : Unit := ()
def PySem.W.Fast.tw13994388665835313927 : Unit := ()
def PySem.W.Fast.tw4500684785454460126 : Unit := ()
def PySem.W.Fast.tw8512812836006039614 : Unit := ()
def PySem.W.Fast.tw2305912525621516864 : Unit := ()
def PySem.W.Fast.tw2994478447377444853 : Unit := ()
def PySem.W.Fast.tw14042477686188134827 : Unit := ()
def PySem.W.Fast.tw7829487754249003493 : Unit := ()
def PySem.W.Fast.tw13940711240737916667 : Unit := ()
def PySem.W.Fast.tw15546445289188130510 : Unit := ()
def PySem.W.Fast.tw6823227694248368893 : Unit := ()
def PySem.W.Fast.tw17376111470810051639 : Unit := ()
def PySem.W.Fast.tw11439611967275759162 : Unit := ()
def PySem.W.Fast.tw9209534628314210597 : Unit := ()
def PySem.W.Fast.tw11988303745145263144 : Unit := ()
def PySem.W.Fast.tw16624667509551703950 : Unit := ()
def PySem.W.Fast.tw1529402515535030187 : Unit := ()
def PySem.W.Fast.tw12793519881081362073 : Unit := ()
def PySem.W.Fast.tw8959600697884324072 : Unit := ()
def PySem.W.Fast.tw17675086048051754109 : Unit := ()
def PySem.W.Fast.tw12830406633005349317 : Unit := ()
def PySem.W.Fast.tw3377693356814304170 : Unit := ()
def PySem.W.Fast.tw11144696116680355751 : Unit := ()
def PySem.W.Fast.tw15673421923122466340 : Unit := ()
def PySem.W.Fast.tw16294049304794724611 : Unit := ()
def PySem.W.Fast.tw7469961733177943078 : Unit := ()
def PySem.W.Fast.tw1199159379003224155 : Unit := ()
def PySem.W.Fast.tw11929517065162868350 : Unit := ()
def PySem.W.Fast.tw17659649272248599665 : Unit := ()
def PySem.W.Fast.tw6899017167637794235 : Unit := ()
def PySem.W.Fast.tw10295887423497278972 : Unit := ()
def PySem.W.Fast.tw11117486474314082473 : Unit := ()
def PySem.W.Fast.tw3157863410285120962 : Unit := ()
def PySem.W.Fast.tw10493329879063155915 : Unit := ()
def PySem.W.Fast.tw2341604226250019514 : Unit := ()
def PySem.W.Fast.tw5041105981495475696 : Unit := ()
def PySem.W.Fast.tw6315056249935968626 : Unit := ()
def PySem.W.Fast.tw17671142212276557472 : Unit := ()
def PySem.W.Fast.tw17752407428875941829 : Unit := ()
def PySem.W.Fast.tw4898984227335789510 : Unit := ()
def PySem.W.Fast.tw10524994865477256800 : Unit := ()
def PySem.W.Fast.tw16684940449891081568 : Unit := ()
def PySem.W.Fast.tw1516018952074472577 : Unit := ()
def PySem.W.Fast.tw8470284044405471689 : Unit := ()
def PySem.W.Fast.tw1070331486097126064 : Unit := ()
def PySem.W.Fast.tw6231538989366240005 : Unit := ()
def PySem.W.Fast.tw17534228312241493771 : Unit := ()
def PySem.W.Fast.tw3117669556363477491 : Unit := ()
def PySem.W.Fast.tw10312896783415149162 : Unit := ()
def PySem.W.Fast.tw17209714760172619256 : Unit := ()
def PySem.W.Fast.tw2146365090343284715 : Unit := ()
def PySem.W.Fast.tw7482626251665296064 : Unit := ()
def PySem.W.Fast.tw6486356916513046625 : Unit := ()
def PySem.W.Fast.tw907035944609665105 : Unit := ()
def PySem.W.Fast.tw4335558873184372353 : Unit := ()
def PySem.W.Fast.tw3156073710014252558 : Unit := ()
def PySem.W.Fast.tw7312762310232623948 : Unit := ()
def PySem.W.Fast.tw17847360017156029154 : Unit := ()
def PySem.W.Fast.tw2765714988664201810 : Unit := ()
def PySem.W.Fast.tw6193795503907494980 : Unit := ()
def PySem.W.Fast.tw16176071445168939726 : Unit := ()
def PySem.W.Fast.tw14741759805118828720 : Unit := ()
def PySem.W.Fast.tw14706882640257761024 : Unit := ()
def PySem.W.Fast.tw3208014279526111631 : Unit := ()
def PySem.W.Fast.tw12061757774505639877 : Unit := ()
def PySem.W.Fast.tw14230031670411063895 : Unit := ()
def PySem.W.Fast.tw1986886249305256952 : Unit := ()
def PySem.W.Fast.tw3136004699077482370 : Unit := ()
def PySem.W.Fast.tw4675247284042113882 : Unit := ()
def PySem.W.Fast.tw255454412509190503 : Unit := ()
def PySem.W.Fast.tw4752230692302017193 : Unit := ()
def PySem.W.Fast.tw7578593844399379413 : Unit := ()
def PySem.W.Fast.tw12879670016599853735 : Unit := ()
def PySem.W.Fast.tw12054109357460262528 : Unit := ()
def PySem.W.Fast.tw10401450467449689150 : Unit := ()
def PySem.W.Fast.tw13612170022377665900 : Unit := ()
def PySem.W.Fast.tw13850295993506006012 : Unit := ()
def PySem.W.Fast.tw7322205588415653133 : Unit := ()
def PySem.W.Fast.tw12318204472609676156 : Unit := ()
def PySem.W.Fast.tw12775140001576113621 : Unit := ()
def PySem.W.Fast.tw9272929782229872457 : Unit := ()
def PySem.W.Fast.tw11030929539467822968 : Unit := ()
def PySem.W.Fast.tw958964415675992394 : Unit := ()
def PySem.W.Fast.tw9883858645736342905 : Unit := ()
def PySem.W.Fast.tw6569008116621976020 : Unit := ()
def PySem.W.Fast.tw7912832608041173438 : Unit := ()
def PySem.W.Fast.tw3548025531796628076 : Unit := ()
def PySem.W.Fast.tw4936560591490063476 : Unit := ()
def PySem.W.Fast.tw13424542061232961722 : Unit := ()
def PySem.W.Fast.tw13282353171934890509 : Unit := ()
def PySem.W.Fast.tw12970282025025107177 : Unit := ()
def PySem.W.Fast.tw10888210862432900027 : Unit := ()
def PySem.W.Fast.tw8381652111421249666 : Unit := ()
def PySem.W.Fast.tw6008269003113404240 : Unit := ()
def PySem.W.Fast.tw17657364020185895920 : Unit := ()
def PySem.W.Fast.tw1412348235520448004 : Unit := ()
def PySem.W.Fast.tw2426147865832737458 : Unit := ()
def PySem.W.Fast.tw276053175660851875 : Unit := ()
def PySem.W.Fast.tw1691537292193412015 : Unit := ()
def PySem.W.Fast.tw8413966862477958389 : Unit := ()
def PySem.W.Fast.tw6236498880782502728 : Unit := ()
def PySem.W.Fast.tw8386239114792680294 : Unit := ()
def PySem.W.Fast.tw8280390000625790038 : Unit := ()
def PySem.W.Fast.tw6928139189940294534 : Unit := ()
def PySem.W.Fast.tw18246545245678511194 : Unit := ()
def PySem.W.Fast.tw1615362537321848768 : Unit := ()
def PySem.W.Fast.tw9179237653067330386 : Unit := ()
def PySem.W.Fast.tw568799912146534219 : Unit := ()
def PySem.W.Fast.tw1222219033804647606 : Unit := ()
def PySem.W.Fast.tw6114334324746393998 : Unit := ()
def PySem.W.Fast.tw1337306039697880123 : Unit := ()
def PySem.W.Fast.tw10081783073362242666 : Unit := ()
def PySem.W.Fast.tw577212841447408031 : Unit := ()
def PySem.W.Fast.tw2652614142298058032 : Unit := ()
def PySem.W.Fast.tw6371078478577933181 : Unit := ()
def PySem.W.Fast.tw17234537258875724238 : Unit := ()
def PySem.W.Fast.tw18031467230473537371 : Unit := ()
def PySem.W.Fast.tw17774010607887141925 : Unit := ()
def PySem.W.Fast.tw14799126628364194717 : Unit := ()
def PySem.W.Fast.tw9432348180494486647 : Unit := ()
def PySem.W.Fast.tw10635945327998023237 : Unit := ()
def PySem.W.Fast.tw17903535338895747735 : Unit := ()
def PySem.W.Fast.tw12594205868145296655 : Unit := ()
def PySem.W.Fast.tw95422778439383176 : Unit := ()
def PySem.W.Fast.tw1314141069212028115 : Unit := ()
def PySem.W.Fast.tw13061511172884316357 : Unit := ()
def PySem.W.Fast.tw6215249748512767844 : Unit := ()
def PySem.W.Fast.tw8158897512273697537 : Unit := ()
def PySem.W.Fast.tw13239869016046354501 : Unit := ()
def PySem.W.Fast.tw17184961397779472112 : Unit := ()
def PySem.W.Fast.tw8893580548179857135 : Unit := ()
def PySem.W.Fast.tw15595113565993966422 : Unit := ()
def PySem.W.Fast.tw6438839380910997898 : Unit := ()
def PySem.W.Fast.tw5846920132235819574 : Unit := ()
def PySem.W.Fast.tw2833407442979739734 : Unit := ()
def PySem.W.Fast.tw17233626437235174484 : Unit := ()
def PySem.W.Fast.tw6750784764130835168 : Unit := ()
def PySem.W.Fast.tw14280156144996564006 : Unit := ()
def PySem.W.Fast.tw7188716954518212178 : Unit := ()
def PySem.W.Fast.tw9868264753444647411 : Unit := ()
def PySem.W.Fast.tw13672821634508493187 : Unit := ()
def PySem.W.Fast.tw4800370165555477508 : Unit := ()
def PySem.W.Fast.tw9117615470666823342 : Unit := ()
def PySem.W.Fast.tw3954648270137129401 : Unit := ()
def PySem.W.Fast.tw16373763858550007035 : Unit := ()
def PySem.W.Fast.tw1564661986175795621 : Unit := ()
def PySem.W.Fast.tw5071027690675532579 : Unit := ()
def PySem.W.Fast.tw3825199540837032401 : Unit := ()
def PySem.W.Fast.tw13768992666622935582 : Unit := ()
def PySem.W.Fast.tw7904287582248505995 : Unit := ()
def PySem.W.Fast.tw7375839542850828644 : Unit := ()
def PySem.W.Fast.tw6550371856480827344 : Unit := ()
def PySem.W.Fast.tw6461986969572915965 : Unit := ()
def PySem.W.Fast.tw11978209689550769567 : Unit := ()
def PySem.W.Fast.tw14101457636944029498 : Unit := ()
def PySem.W.Fast.tw14029586684762806711 : Unit := ()
def PySem.W.Fast.tw10631114054310892711 : Unit := ()
def PySem.W.Fast.tw14028775933439868746 : Unit := ()
def PySem.W.Fast.tw18372764102264575083 : Unit := ()
def PySem.W.Fast.tw13950234974434421796 : Unit := ()
def PySem.W.Fast.tw10530009686206726349 : Unit := ()
def PySem.W.Fast.tw9901650070408019356 : Unit := ()
def PySem.W.Fast.tw8173481469205098028 : Unit := ()
def PySem.W.Fast.tw14339570745707738587 : Unit := ()
def PySem.W.Fast.tw4888373716789362133 : Unit := ()
def PySem.W.Fast.tw14726728420452207817 : Unit := ()
def PySem.W.Fast.tw12316079317390935279 : Unit := ()
def PySem.W.Fast.tw14889771328917855144 : Unit := ()
def PySem.W.Fast.tw4917592568313199757 : Unit := ()
def PySem.W.Fast.tw417851124197804547 : Unit := ()
def PySem.W.Fast.tw11199813853785639624 : Unit := ()
def PySem.W.Fast.tw9166038777452058243 : Unit := ()
def PySem.W.Fast.tw270167202900505025 : Unit := ()
def PySem.W.Fast.tw10849840209976693940 : Unit := ()
def PySem.W.Fast.tw2800267997535446558 : Unit := ()
def PySem.W.Fast.tw4922842305036131539 : Unit := ()
def PySem.W.Fast.tw15565665348052331322 : Unit := ()
def PySem.W.Fast.tw10430141024980550809 : Unit := ()
def PySem.W.Fast.tw9084454634216491270 : Unit := ()
def PySem.W.Fast.tw10637351559094029152 : Unit := ()
def PySem.W.Fast.tw341108121396038530 : Unit := ()
def PySem.W.Fast.tw3658876864253175087 : Unit := ()
def PySem.W.Fast.tw13238659461763588989 : Unit := ()
def PySem.W.Fast.tw16645671079777399876 : Unit := ()
def PySem.W.Fast.tw13521108706207874636 : Unit := ()
def PySem.W.Fast.tw6400556889929562684 : Unit := ()
def PySem.W.Fast.tw9944829703395733672 : Unit := ()
def PySem.W.Fast.tw10981246406803642524 : Unit := ()
def PySem.W.Fast.tw7608004267250294234 : Unit := ()
def PySem.W.Fast.tw3064498980450520616 : Unit := ()
def PySem.W.Fast.tw8002690180075655872 : Unit := ()
def PySem.W.Fast.tw5523338240157110359 : Unit := ()
def PySem.W.Fast.tw14748725150450676571 : Unit := ()
def PySem.W.Fast.tw10038408101153778785 : Unit := ()
def PySem.W.Fast.tw15342303981424469536 : Unit := ()
def PySem.W.Fast.tw7625665935212054573 : Unit := ()
def PySem.W.Fast.tw12462362343386108766 : Unit := ()
def PySem.W.Fast.tw3142764425374958944 : Unit := ()
def PySem.W.Fast.tw8940656786539950847 : Unit := ()
def PySem.W.Fast.tw13037772037464481468 : Unit := ()
def PySem.W.Fast.tw9931013431941069605 : Unit := ()
def PySem.W.Fast.tw13055923081646372808 : Unit := ()
def PySem.W.Fast.tw12148598686325532053 : Unit := ()
def PySem.W.Fast.tw3702809494545978216 : Unit := ()
def PySem.W.Fast.tw8117721162276391773 : Unit := ()
def PySem.W.Fast.tw12734954729031937585 : Unit := ()
def PySem.W.Fast.tw12233297519063857514 : Unit := ()
def PySem.W.Fast.tw14915506641625430541 : Unit := ()
def PySem.W.Fast.tw3013016509267821429 : Unit := ()
def PySem.W.Fast.tw14301453399243123137 : Unit := ()
def PySem.W.Fast.tw1303518018415904708 : Unit := ()
def PySem.W.Fast.tw15283602493448678083 : Unit := ()
def PySem.W.Fast.tw643005335153554066 : Unit := ()
def PySem.W.Fast.tw9371337850636967781 : Unit := ()
def PySem.W.Fast.tw9983235217241221144 : Unit := ()
def PySem.W.Fast.tw1079228930434438840 : Unit := ()
def PySem.W.Fast.tw4028746164573854948 : Unit := ()
def PySem.W.Fast.tw16812328970796954511 : Unit := ()
def PySem.W.Fast.tw16177135548060350876 : Unit := ()
def PySem.W.Fast.tw3380964504058872154 : Unit := ()
def PySem.W.Fast.tw9835290404551799476 : Unit := ()
def PySem.W.Fast.tw7819915057633545743 : Unit := ()
def PySem.W.Fast.tw13119688375125745269 : Unit := ()
def PySem.W.Fast.tw3693710096636534182 : Unit := ()
def PySem.W.Fast.tw14845544432060204298 : Unit := ()
def PySem.W.Fast.tw12260987852136853409 : Unit := ()
def PySem.W.Fast.tw8456757988237517187 : Unit := ()
def PySem.W.Fast.tw15831132812873647285 : Unit := ()
def PySem.W.Fast.tw17140259746077315872 : Unit := ()
def PySem.W.Fast.tw16739021268071811099 : Unit := ()
def PySem.W.Fast.tw14793747616629045771 : Unit := ()
def PySem.W.Fast.tw15634697604112847696 : Unit := ()
def PySem.W.Fast.tw2826142745354719764 : Unit := ()
def PySem.W.Fast.tw2504565463371599365 : Unit := ()
def PySem.W.Fast.tw7159890482964679407 : Unit := ()
def PySem.W.Fast.tw1138641433463441752 : Unit := ()
def PySem.W.Fast.tw7028839228267395439 : Unit := ()
def PySem.W.Fast.tw8361760391122609795 : Unit := ()
def PySem.W.Fast.tw4983786162816003185 : Unit := ()
def PySem.W.Fast.tw11562410564263449544 : Unit := ()
def PySem.W.Fast.tw18268615106839185115 : Unit := ()
def PySem.W.Fast.tw2335677662783954585 : Unit := ()
def PySem.W.Fast.tw11617442606652244274 : Unit := ()
def PySem.W.Fast.tw9946845149076354792 : Unit := ()
def PySem.W.Fast.tw3930115058063351250 : Unit := ()
def PySem.W.Fast.tw12760103043109153267 : Unit := ()
def PySem.W.Fast.tw12738495175247665576 : Unit := ()
def PySem.W.Fast.tw11547241073674003250 : Unit := ()
def PySem.W.Fast.tw2062875182805321338 : Unit := ()
def PySem.W.Fast.tw6746041512438970701 : Unit := ()
def PySem.W.Fast.tw3886118273835085908 : Unit := ()
def PySem.W.Fast.tw6696052802717453632 : Unit := ()
def PySem.W.Fast.tw4493654691155285432 : Unit := ()
def PySem.W.Fast.tw16576196458160881415 : Unit := ()
def PySem.W.Fast.tw16575468660688943256 : Unit := ()
def PySem.W.Fast.tw12912749507052428977 : Unit := ()
def PySem.W.Fast.tw12801347622124173704 : Unit := ()
def PySem.W.Fast.tw2915321129476113357 : Unit := ()
def PySem.W.Fast.tw9272648134468919114 : Unit := ()
def PySem.W.Fast.tw3362274608173084225 : Unit := ()
def PySem.W.Fast.tw4877402099736892091 : Unit := ()
def PySem.W.Fast.tw5208637388693498657 : Unit := ()
def PySem.W.Fast.tw8063570864311530138 : Unit := ()
def PySem.W.Fast.tw14882848641669295448 : Unit := ()
def PySem.W.Fast.tw13625401589226991652 : Unit := ()
def PySem.W.Fast.tw3971406108753533546 : Unit := ()
def PySem.W.Fast.tw2783709327098363757 : Unit := ()
def PySem.W.Fast.tw6907323752517741703 : Unit := ()
def PySem.W.Fast.tw1452750391371361813 : Unit := ()
def PySem.W.Fast.tw8805223240283677112 : Unit := ()
def PySem.W.Fast.tw2088612315719585844 : Unit := ()
def PySem.W.Fast.tw13611958129662392435 : Unit := ()
def PySem.W.Fast.tw11489335452019597964 : Unit := ()
def PySem.W.Fast.tw14659742578670830690 : Unit := ()
def PySem.W.Fast.tw14983242737646613551 : Unit := ()
def PySem.W.Fast.tw13772791307046092783 : Unit := ()
def PySem.W.Fast.tw7735441977767748008 : Unit := ()
def PySem.W.Fast.tw10391599426476510065 : Unit := ()
def PySem.W.Fast.tw3143790003977087119 : Unit := ()
def PySem.W.Fast.tw6969394839433523705 : Unit := ()
def PySem.W.Fast.tw6537259144691329946 : Unit := ()
def PySem.W.Fast.tw14109627542420557423 : Unit := ()
def PySem.W.Fast.tw11214954751925781600 : Unit := ()
def PySem.W.Fast.tw2647864915567711649 : Unit := ()
def PySem.W.Fast.tw1961977979509793780 : Unit := ()
def PySem.W.Fast.tw15340920308711274448 : Unit := ()
def PySem.W.Fast.tw18098879396594477492 : Unit := ()
def PySem.W.Fast.tw3111056885562849600 : Unit := ()
def PySem.W.Fast.tw5173121564515352251 : Unit := ()
def PySem.W.Fast.tw8625372835830983261 : Unit := ()
def PySem.W.Fast.tw9922321120202561698 : Unit := ()
def PySem.W.Fast.tw14239602107078819554 : Unit := ()
def PySem.W.Fast.tw12885528566783171535 : Unit := ()
def PySem.W.Fast.tw13602336051872605803 : Unit := ()
def PySem.W.Fast.tw1065677967712137900 : Unit := ()
def PySem.W.Fast.tw9121371645074579816 : Unit := ()
def PySem.W.Fast.tw7231535228670970333 : Unit := ()
def PySem.W.Fast.tw7449135190320002949 : Unit := ()
def PySem.W.Fast.tw2613473078498457522 : Unit := ()
def PySem.W.Fast.tw15087138531918537383 : Unit := ()
def PySem.W.Fast.tw4657068358358059455 : Unit := ()
def PySem.W.Fast.tw8141528502563989040 : Unit := ()
def PySem.W.Fast.tw14841910842804000643 : Unit := ()
def PySem.W.Fast.tw13075119002364646370 : Unit := ()
def PySem.W.Fast.tw5142734805544507266 : Unit := ()
def PySem.W.Fast.tw11823812280434490758 : Unit := ()
def PySem.W.Fast.tw1405257333320001047 : Unit := ()
def PySem.W.Fast.tw17115839595314773278 : Unit := ()
def PySem.W.Fast.tw5244123638838543838 : Unit := ()
def PySem.W.Fast.tw6741048693895902155 : Unit := ()
def PySem.W.Fast.tw16308219699731328459 : Unit := ()
def PySem.W.Fast.tw17714732744016166683 : Unit := ()
def PySem.W.Fast.tw9800797398336353244 : Unit := ()
def PySem.W.Fast.tw8457159633818136724 : Unit := ()
def PySem.W.Fast.tw15345983796759820951 : Unit := ()
def PySem.W.Fast.tw3341956959216902018 : Unit := ()
def PySem.W.Fast.tw12557386765062290712 : Unit := ()
def PySem.W.Fast.tw5524850406144903584 : Unit := ()
def PySem.W.Fast.tw12722181262558877525 : Unit := ()
def PySem.W.Fast.tw11511609229956122586 : Unit := ()
def PySem.W.Fast.tw3914428564856240955 : Unit := ()
def PySem.W.Fast.tw700154569311454890 : Unit := ()
def PySem.W.Fast.tw14323972874443445058 : Unit := ()
def PySem.W.Fast.tw16009022084643847779 : Unit := ()
def PySem.W.Fast.tw5923468425058903034 : Unit := ()
def PySem.W.Fast.tw16226008174530448374 : Unit := ()
def PySem.W.Fast.tw8604127067962677828 : Unit := ()
def PySem.W.Fast.tw6910697777798113849 : Unit := ()
def PySem.W.Fast.tw4530700663510535873 : Unit := ()
def PySem.W.Fast.tw7093401259586912295 : Unit := ()
def PySem.W.Fast.tw8144239384991375192 : Unit := ()
def PySem.W.Fast.tw4891987025047663390 : Unit := ()
def PySem.W.Fast.tw14264157309662214710 : Unit := ()
def PySem.W.Fast.tw9046910469701281324 : Unit := ()
def PySem.W.Fast.tw15978551261183149127 : Unit := ()
def PySem.W.Fast.tw2245735559678199213 : Unit := ()
def PySem.W.Fast.tw10878250345970847835 : Unit := ()
def PySem.W.Fast.tw4138039068668169303 : Unit := ()
def PySem.W.Fast.tw14868393228413669633 : Unit := ()
def PySem.W.Fast.tw14310013941462732736 : Unit := ()
def PySem.W.Fast.tw9121762448154527060 : Unit := ()
def PySem.W.Fast.tw6389830249539588518 : Unit := ()
def PySem.W.Fast.tw6281963404126191916 : Unit := ()
def PySem.W.Fast.tw11231880596290434477 : Unit := ()
def PySem.W.Fast.tw10761081743638369959 : Unit := ()
def PySem.W.Fast.tw3831018655327277354 : Unit := ()
def PySem.W.Fast.tw7601371580773170560 : Unit := ()
def PySem.W.Fast.tw2374683151335770369 : Unit := ()
def PySem.W.Fast.tw9917690530079941907 : Unit := ()
def PySem.W.Fast.tw17049031958193362549 : Unit := ()
def PySem.W.Fast.tw9435300161769992172 : Unit := ()
def PySem.W.Fast.tw13781371233476283115 : Unit := ()
def PySem.W.Fast.tw10770382607848921539 : Unit := ()
def PySem.W.Fast.tw7458304629410096934 : Unit := ()
def PySem.W.Fast.tw8760794456444106021 : Unit := ()
def PySem.W.Fast.tw2462915853899685361 : Unit := ()
def PySem.W.Fast.tw13303191350424007658 : Unit := ()
def PySem.W.Fast.tw5392658833701870136 : Unit := ()
def PySem.W.Fast.tw8133044585522490398 : Unit := ()
def PySem.W.Fast.tw1507854839482331400 : Unit := ()
def PySem.W.Fast.tw3967535469213533547 : Unit := ()
def PySem.W.Fast.tw1377128280998860674 : Unit := ()
def PySem.W.Fast.tw2791676385877786058 : Unit := ()
def PySem.W.Fast.tw13085537174183488344 : Unit := ()
def PySem.W.Fast.tw15818117277257885953 : Unit := ()
def PySem.W.Fast.tw3277340125048661266 : Unit := ()
def PySem.W.Fast.tw7886281340941062163 : Unit := ()
def PySem.W.Fast.tw3299530789505873282 : Unit := ()
def PySem.W.Fast.tw8204109160379399137 : Unit := ()
def PySem.W.Fast.tw9181341474086894061 : Unit := ()
def PySem.W.Fast.tw6187605251899883741 : Unit := ()
def PySem.W.Fast.tw7498141744371722144 : Unit := ()
def PySem.W.Fast.tw1777139979991415051 : Unit := ()
def PySem.W.Fast.tw7304060106002481320 : Unit := ()
def PySem.W.Fast.tw3968265524521349601 : Unit := ()
def PySem.W.Fast.tw11313085160597953230 : Unit := ()
def PySem.W.Fast.tw6936752338176621483 : Unit := ()
def PySem.W.Fast.tw13054219988234588935 : Unit := ()
def PySem.W.Fast.tw11589106623262131145 : Unit := ()
def PySem.W.Fast.tw18096857121016742491 : Unit := ()
def PySem.W.Fast.tw17887916117649889384 : Unit := ()
def PySem.W.Fast.tw11026189321920935674 : Unit := ()
def PySem.W.Fast.tw14677255717265963867 : Unit := ()
def PySem.W.Fast.tw16882634812068364795 : Unit := ()
def PySem.W.Fast.tw2624192567627866184 : Unit := ()
def PySem.W.Fast.tw586281847953413595 : Unit := ()
def PySem.W.Fast.tw1940236059644247028 : Unit := ()
def PySem.W.Fast.tw6807373062438673281 : Unit := ()
def PySem.W.Fast.tw12794984143859063133 : Unit := ()
def PySem.W.Fast.tw9471281007998845979 : Unit := ()
def PySem.W.Fast.tw14008600326363953987 : Unit := ()
def PySem.W.Fast.tw6727766903577613461 : Unit := ()
def PySem.W.Fast.tw6895290290302376885 : Unit := ()
def PySem.W.Fast.tw6146979240446884485 : Unit := ()
def PySem.W.Fast.tw14218654087816393550 : Unit := ()
def PySem.W.Fast.tw13575130677197549108 : Unit := ()
def PySem.W.Fast.tw16040101100769958710 : Unit := ()
def PySem.W.Fast.tw11721140614549710342 : Unit := ()
def PySem.W.Fast.tw11396410254579199056 : Unit := ()
def PySem.W.Fast.tw309260087909065689 : Unit := ()
def PySem.W.Fast.tw10452305212264969967 : Unit := ()
def PySem.W.Fast.tw8424152603715448471 : Unit := ()
def PySem.W.Fast.tw5054996216357456841 : Unit := ()
def PySem.W.Fast.tw16690076391149191858 : Unit := ()
def PySem.W.Fast.tw12522220576383208640 : Unit := ()
def PySem.W.Fast.tw15877594848911062424 : Unit := ()
def PySem.W.Fast.tw12798183433284670441 : Unit := ()
def PySem.W.Fast.tw8306322344524235918 : Unit := ()
def PySem.W.Fast.tw10639058112464175751 : Unit := ()
def PySem.W.Fast.tw7416919659482755625 : Unit := ()
def PySem.W.Fast.tw11420106142979709965 : Unit := ()
def PySem.W.Fast.tw2201832530414294330 : Unit := ()
def PySem.W.Fast.tw14293663582603030291 : Unit := ()
def PySem.W.Fast.tw10991283566845078540 : Unit := ()
def PySem.W.Fast.tw468221860236371835 : Unit := ()
def PySem.W.Fast.tw16333708622318581229 : Unit := ()
def PySem.W.Fast.tw17222691116444854078 : Unit := ()
def PySem.W.Fast.tw13449726458019114973 : Unit := ()
def PySem.W.Fast.tw10361816278342499842 : Unit := ()
def PySem.W.Fast.tw11263401985592347361 : Unit := ()
def PySem.W.Fast.tw15408168237318453197 : Unit := ()
def PySem.W.Fast.tw12606780815356797376 : Unit := ()
def PySem.W.Fast.tw4073240541240336234 : Unit := ()
def PySem.W.Fast.tw10119126027970501929 : Unit := ()
def PySem.W.Fast.tw6270875635423972212 : Unit := ()
def PySem.W.Fast.tw14041111056030967220 : Unit := ()
def PySem.W.Fast.tw3154084399042389454 : Unit := ()
def PySem.W.Fast.tw17942514182569500404 : Unit := ()
def PySem.W.Fast.tw15780087048579714544 : Unit := ()
def PySem.W.Fast.tw11309802806241290006 : Unit := ()
def PySem.W.Fast.tw11308322565408099082 : Unit := ()
def PySem.W.Fast.tw7663020421729676597 : Unit := ()
def PySem.W.Fast.tw723966713304754928 : Unit := ()
def PySem.W.Fast.tw11954812413367957579 : Unit := ()
def PySem.W.Fast.tw11072681946916930895 : Unit := ()
def PySem.W.Fast.tw6662899706994230459 : Unit := ()
def PySem.W.Fast.tw17549101045821433427 : Unit := ()
def PySem.W.Fast.tw1167675657288387756 : Unit := ()
def PySem.W.Fast.tw7518591690441652149 : Unit := ()
def PySem.W.Fast.tw10653393618707751154 : Unit := ()
def PySem.W.Fast.tw8326982726165596432 : Unit := ()
def PySem.W.Fast.tw1573490577591457604 : Unit := ()
def PySem.W.Fast.tw6228617266766212591 : Unit := ()
def PySem.W.Fast.tw6643411995289461227 : Unit := ()
def PySem.W.Fast.tw10927972526327281549 : Unit := ()
def PySem.W.Fast.tw7848183491244883318 : Unit := ()
def PySem.W.Fast.tw3278670028389789515 : Unit := ()
def PySem.W.Fast.tw7428411176832377143 : Unit := ()
def PySem.W.Fast.tw5681141920459575015 : Unit := ()
def PySem.W.Fast.tw16345130633584145060 : Unit := ()
def PySem.W.Fast.tw8393453202858648748 : Unit := ()
def PySem.W.Fast.tw13201289072235708976 : Unit := ()
def PySem.W.Fast.tw9671146376314620722 : Unit := ()
def PySem.W.Fast.tw7215367461757426450 : Unit := ()
def PySem.W.Fast.tw5109388103108677554 : Unit := ()
def PySem.W.Fast.tw10306961255919456349 : Unit := ()
def PySem.W.Fast.tw13006666089088431198 : Unit := ()
def PySem.W.Fast.tw15248821084965688380 : Unit := ()
def PySem.W.Fast.tw11453862833034290460 : Unit := ()
def PySem.W.Fast.tw4884401527035058978 : Unit := ()
def PySem.W.Fast.tw7758923988818584498 : Unit := ()
def PySem.W.Fast.tw14386643302625854945 : Unit := ()
def PySem.W.Fast.tw3099850204425456949 : Unit := ()
def PySem.W.Fast.tw15462602730053040840 : Unit := ()
def PySem.W.Fast.tw1793511354693192731 : Unit := ()
def PySem.W.Fast.tw16348831672661343492 : Unit := ()
def PySem.W.Fast.tw1517865973103412600 : Unit := ()
def PySem.W.Fast.tw7312732203749570448 : Unit := ()
def PySem.W.Fast.tw14221530216042907739 : Unit := ()
def PySem.W.Fast.tw6180086540691588169 : Unit := ()
def PySem.W.Fast.tw2775551498364540117 : Unit := ()
def PySem.W.Fast.tw18302167706959811105 : Unit := ()
def PySem.W.Fast.tw15418582757150340468 : Unit := ()
def PySem.W.Fast.tw13442833528238167602 : Unit := ()
def PySem.W.Fast.tw4857100871696049480 : Unit := ()
def PySem.W.Fast.tw13706391009603922711 : Unit := ()
def PySem.W.Fast.tw2717634386072823462 : Unit := ()
def PySem.W.Fast.tw9994082771702344281 : Unit := ()
def PySem.W.Fast.tw12880589520188337111 : Unit := ()
def PySem.W.Fast.tw7852784523018811848 : Unit := ()
def PySem.W.Fast.tw7672672727437309182 : Unit := ()
def PySem.W.Fast.tw14948913116874328662 : Unit := ()
def PySem.W.Fast.tw4203946974863865407 : Unit := ()
def PySem.W.Fast.tw4297346025200648352 : Unit := ()
def PySem.W.Fast.tw16280979794779889952 : Unit := ()
def PySem.W.Fast.tw3069413489475341676 : Unit := ()
def PySem.W.Fast.tw8358425572883022660 : Unit := ()
def PySem.W.Fast.tw15782313310161934573 : Unit := ()
def PySem.W.Fast.tw2303208724347625230 : Unit := ()
def PySem.W.Fast.tw12005466579108834292 : Unit := ()
def PySem.W.Fast.tw11642733422916357627 : Unit := ()
def PySem.W.Fast.tw4816270428670335157 : Unit := ()
def PySem.W.Fast.tw3514006358343725809 : Unit := ()
def PySem.W.Fast.tw1734173793084871435 : Unit := ()
def PySem.W.Fast.tw4443180622072553084 : Unit := ()
def PySem.W.Fast.tw12360507130357589514 : Unit := ()
def PySem.W.Fast.tw1879631230799450638 : Unit := ()
def PySem.W.Fast.tw17270125691229306321 : Unit := ()
def PySem.W.Fast.tw1431545539219573381 : Unit := ()
def PySem.W.Fast.tw6087483703829688440 : Unit := ()
def PySem.W.Fast.tw9036487004003744941 : Unit := ()
def PySem.W.Fast.tw12000621056415123995 : Unit := ()
def PySem.W.Fast.tw237272286056467333 : Unit := ()
def PySem.W.Fast.tw8445064954343477042 : Unit := ()
def PySem.W.Fast.tw3772384881615534360 : Unit := ()
def PySem.W.Fast.tw2084671267113253349 : Unit := ()
def PySem.W.Fast.tw2438781145771120649 : Unit := ()
def PySem.W.Fast.tw1434982576406991234 : Unit := ()
def PySem.W.Fast.tw7948415842950722233 : Unit := ()
def PySem.W.Fast.tw7155226391023073165 : Unit := ()
def PySem.W.Fast.tw16496902021252247057 : Unit := ()
def PySem.W.Fast.tw3037336360073985237 : Unit := ()
def PySem.W.Fast.tw1642391167426945895 : Unit := ()
def PySem.W.Fast.tw4621266393732483093 : Unit := ()
def PySem.W.Fast.tw15873376971008289679 : Unit := ()
def PySem.W.Fast.tw6160110804507402231 : Unit := ()
def PySem.W.Fast.tw3026454664967357150 : Unit := ()
def PySem.W.Fast.tw9103442564163425561 : Unit := ()
def PySem.W.Fast.tw1833962250981407379 : Unit := ()
def PySem.W.Fast.tw12625013052471127842 : Unit := ()
def PySem.W.Fast.tw466717698224979566 : Unit := ()
def PySem.W.Fast.tw417978842509667553 : Unit := ()
def PySem.W.Fast.tw7033471440755347601 : Unit := ()
def PySem.W.Fast.tw7756164024816151778 : Unit := ()
def PySem.W.Fast.tw13530352868442675352 : Unit := ()
def PySem.W.Fast.tw7126300757797159785 : Unit := ()
def PySem.W.Fast.tw2412910177379972118 : Unit := ()
def PySem.W.Fast.tw2528091213548211167 : Unit := ()
def PySem.W.Fast.tw12874270999266155416 : Unit := ()
def PySem.W.Fast.tw15803356772053626162 : Unit := ()
def PySem.W.Fast.tw9732808464550801639 : Unit := ()
def PySem.W.Fast.tw11215333758788422912 : Unit := ()
def PySem.W.Fast.tw15871690818420207639 : Unit := ()
def PySem.W.Fast.tw16633624676946698858 : Unit := ()
def PySem.W.Fast.tw14210497592599383468 : Unit := ()
def PySem.W.Fast.tw3503560134434940728 : Unit := ()
def PySem.W.Fast.tw311517420608710361 : Unit := ()
def PySem.W.Fast.tw6239953066740728827 : Unit := ()
def PySem.W.Fast.tw17845258368104288564 : Unit := ()
def PySem.W.Fast.tw9000058263575234416 : Unit := ()
def PySem.W.Fast.tw12616163579874243702 : Unit := ()
def PySem.W.Fast.tw2364442990189797638 : Unit := ()
def PySem.W.Fast.tw8706168822872401707 : Unit := ()
def PySem.W.Fast.tw3247181785249377713 : Unit := ()
def PySem.W.Fast.tw13712751699988158331 : Unit := ()
def PySem.W.Fast.tw16479549240721704543 : Unit := ()
def PySem.W.Fast.tw2855874844628117947 : Unit := ()
def PySem.W.Fast.tw15836861605588453888 : Unit := ()
def PySem.W.Fast.tw10062229286644340471 : Unit := ()
def PySem.W.Fast.tw11397526407649667999 : Unit := ()
def PySem.W.Fast.tw8474154411212978005 : Unit := ()
def PySem.W.Fast.tw10651161539985117642 : Unit := ()
def PySem.W.Fast.tw7805719347978661895 : Unit := ()
def PySem.W.Fast.tw3695418264754774521 : Unit := ()
def PySem.W.Fast.tw7156044281957523816 : Unit := ()
def PySem.W.Fast.tw9939779107989944995 : Unit := ()
def PySem.W.Fast.tw6793854222329681086 : Unit := ()
def PySem.W.Fast.tw2545606318496401858 : Unit := ()
def PySem.W.Fast.tw1959483390354405894 : Unit := ()
def PySem.W.Fast.tw2445355659448623621 : Unit := ()
def PySem.W.Fast.tw7945150072727465630 : Unit := ()
def PySem.W.Fast.tw13167448872639922723 : Unit := ()
def PySem.W.Fast.tw12319699723015962119 : Unit := ()
def PySem.W.Fast.tw7625865343214576320 : Unit := ()
def PySem.W.Fast.tw15508841630321750620 : Unit := ()
def PySem.W.Fast.tw14353013341101259584 : Unit := ()
def PySem.W.Fast.tw7822967080199454397 : Unit := ()
def PySem.W.Fast.tw5197012163217435806 : Unit := ()
def PySem.W.Fast.tw2626102946146888179 : Unit := ()
def PySem.W.Fast.tw1110458146019757221 : Unit := ()
def PySem.W.Fast.tw2505198103710907728 : Unit := ()
def PySem.W.Fast.tw10410140738923709673 : Unit := ()
def PySem.W.Fast.tw8213578356197925673 : Unit := ()
def PySem.W.Fast.tw10693826551798894217 : Unit := ()
def PySem.W.Fast.tw1660216196082548843 : Unit := ()
def PySem.W.Fast.tw1741075196464354520 : Unit := ()
def PySem.W.Fast.tw17657108812901329822 : Unit := ()
def PySem.W.Fast.tw9611937313688417217 : Unit := ()
def PySem.W.Fast.tw6760297188817410785 : Unit := ()
def PySem.W.Fast.tw13017220566795594233 : Unit := ()
def PySem.W.Fast.tw12229471488253809910 : Unit := ()
def PySem.W.Fast.tw18154276703903887848 : Unit := ()
def PySem.W.Fast.tw11201844215041848717 : Unit := ()
def PySem.W.Fast.tw12074518970802850940 : Unit := ()
def PySem.W.Fast.tw14851589782900220575 : Unit := ()
def PySem.W.Fast.tw9501065820833592239 : Unit := ()
def PySem.W.Fast.tw1643969147805872240 : Unit := ()
def PySem.W.Fast.tw11731084074503457931 : Unit := ()
def PySem.W.Fast.tw4026728709306114130 : Unit := ()
def PySem.W.Fast.tw16854666828958171482 : Unit := ()
def PySem.W.Fast.tw4246962611759712734 : Unit := ()
def PySem.W.Fast.tw4388423198137550864 : Unit := ()
def PySem.W.Fast.tw4593226781481108079 : Unit := ()
def PySem.W.Fast.tw1699907752281570187 : Unit := ()
def PySem.W.Fast.tw4363903710578649393 : Unit := ()
def PySem.W.Fast.tw10224113184306435724 : Unit := ()
def PySem.W.Fast.tw3423326372295376888 : Unit := ()
def PySem.W.Fast.tw12660714789214436687 : Unit := ()
def PySem.W.Fast.tw11164071949802943340 : Unit := ()
def PySem.W.Fast.tw14180431946363155383 : Unit := ()
def PySem.W.Fast.tw5245144042777259384 : Unit := ()
def PySem.W.Fast.tw7451900108191265425 : Unit := ()
def PySem.W.Fast.tw850059124032845771 : Unit := ()
def PySem.W.Fast.tw2343477283141274574 : Unit := ()
def PySem.W.Fast.tw11053651896707869545 : Unit := ()
def PySem.W.Fast.tw9846259326547685752 : Unit := ()
def PySem.W.Fast.tw11790680040543808830 : Unit := ()
def PySem.W.Fast.tw18102067505182675463 : Unit := ()
def PySem.W.Fast.tw5468744135029005400 : Unit := ()
def PySem.W.Fast.tw13728953297234711787 : Unit := ()
def PySem.W.Fast.tw6479052697699766808 : Unit := ()
def PySem.W.Fast.tw10817575689777868050 : Unit := ()
def PySem.W.Fast.tw18362098923588746854 : Unit := ()
def PySem.W.Fast.tw15892020291342617988 : Unit := ()
def PySem.W.Fast.tw2348075066207270027 : Unit := ()
def PySem.W.Fast.tw12526974665944029681 : Unit := ()
def PySem.W.Fast.tw12202598941848319442 : Unit := ()
def PySem.W.Fast.tw11242035820547189415 : Unit := ()
def PySem.W.Fast.tw17892781091751562485 : Unit := ()
def PySem.W.Fast.tw2640005792475212403 : Unit := ()
def PySem.W.Fast.tw7879727289236489436 : Unit := ()
def PySem.W.Fast.tw5971083862874179618 : Unit := ()
def PySem.W.Fast.tw2184823136275387781 : Unit := ()
def PySem.W.Fast.tw3418844910329768810 : Unit := ()
def PySem.W.Fast.tw6448826670067645081 : Unit := ()
def PySem.W.Fast.tw13496212672518119875 : Unit := ()
def PySem.W.Fast.tw14067932394290188594 : Unit := ()
def PySem.W.Fast.tw10877478464383201405 : Unit := ()
def PySem.W.Fast.tw1715478184766430187 : Unit := ()
def PySem.W.Fast.tw12889639566956159946 : Unit := ()
def PySem.W.Fast.tw6756269007446502475 : Unit := ()
def PySem.W.Fast.tw13876509668212566388 : Unit := ()
def PySem.W.Fast.tw13526719690161786590 : Unit := ()
def PySem.W.Fast.tw4209461952484531311 : Unit := ()
def PySem.W.Fast.tw16376225120669871255 : Unit := ()
def PySem.W.Fast.tw8891436443866965662 : Unit := ()
def PySem.W.Fast.tw17446192377347149475 : Unit := ()
def PySem.W.Fast.tw16778026961645595983 : Unit := ()
def PySem.W.Fast.tw3999366014001669943 : Unit := ()
def PySem.W.Fast.tw10853106450051388178 : Unit := ()
def PySem.W.Fast.tw9785106481597601199 : Unit := ()
def PySem.W.Fast.tw11051308600823448483 : Unit := ()
def PySem.W.Fast.tw7743611397528651058 : Unit := ()
def PySem.W.Fast.tw3516345656733837835 : Unit := ()
def PySem.W.Fast.tw5241672182086158271 : Unit := ()
def PySem.W.Fast.tw8934211771272307534 : Unit := ()
def PySem.W.Fast.tw17969329747859279271 : Unit := ()
def PySem.W.Fast.tw3453207299839952503 : Unit := ()
def PySem.W.Fast.tw9281331044089789777 : Unit := ()
def PySem.W.Fast.tw12671419408672210128 : Unit := ()
def PySem.W.Fast.tw10845563547442978493 : Unit := ()
def PySem.W.Fast.tw10054240437282419859 : Unit := ()
def PySem.W.Fast.tw8271580792908248785 : Unit := ()
def PySem.W.Fast.tw4188184671575390759 : Unit := ()
def PySem.W.Fast.tw1218399692283229264 : Unit := ()
def PySem.W.Fast.tw2610761811487067950 : Unit := ()
def PySem.W.Fast.tw15342819130980017196 : Unit := ()
def PySem.W.Fast.tw11708383061678159576 : Unit := ()
def PySem.W.Fast.tw18342948868526064421 : Unit := ()
def PySem.W.Fast.tw4004587799384192392 : Unit := ()
def PySem.W.Fast.tw3858705688611794146 : Unit := ()
def PySem.W.Fast.tw15784533994558982598 : Unit := ()
def PySem.W.Fast.tw13426101070130886010 : Unit := ()
def PySem.W.Fast.tw3519497930728445827 : Unit := ()
def PySem.W.Fast.tw15835270556938006427 : Unit := ()
def PySem.W.Fast.tw3444343551951093271 : Unit := ()
def PySem.W.Fast.tw8062034110528348965 : Unit := ()
def PySem.W.Fast.tw16936990879579587324 : Unit := ()
def PySem.W.Fast.tw1168967762479372675 : Unit := ()
def PySem.W.Fast.tw12411667236113325928 : Unit := ()
def PySem.W.Fast.tw1968143341570915733 : Unit := ()
def PySem.W.Fast.tw8423463612806210378 : Unit := ()
def PySem.W.Fast.tw6433955461159861396 : Unit := ()
def PySem.W.Fast.tw2929309801410659313 : Unit := ()
def PySem.W.Fast.tw3650745234312018065 : Unit := ()
def PySem.W.Fast.tw3179799948761492333 : Unit := ()
def PySem.W.Fast.tw13040170914618257689 : Unit := ()
def PySem.W.Fast.tw2307523927359362629 : Unit := ()
def PySem.W.Fast.tw809228571384931842 : Unit := ()
def PySem.W.Fast.tw16608926791873617391 : Unit := ()
def PySem.W.Fast.tw4038354501092165087 : Unit := ()
def PySem.W.Fast.tw8650718666859913870 : Unit := ()
def PySem.W.Fast.tw15701818529152273718 : Unit := ()
def PySem.W.Fast.tw321109585581924566 : Unit := ()
def PySem.W.Fast.tw2151832072212522270 : Unit := ()
def PySem.W.Fast.tw4757416572049253816 : Unit := ()
def PySem.W.Fast.tw3856382494897009725 : Unit := ()
def PySem.W.Fast.tw1117592624183591318 : Unit := ()
def PySem.W.Fast.tw1865639364283577716 : Unit := ()
def PySem.W.Fast.tw10513731777517037746 : Unit := ()
def PySem.W.Fast.tw954953827241046704 : Unit := ()
def PySem.W.Fast.tw14768627568380413612 : Unit := ()
def PySem.W.Fast.tw17712096437969031697 : Unit := ()
def PySem.W.Fast.tw3173228326497245341 : Unit := ()
def PySem.W.Fast.tw16145040128941792197 : Unit := ()
def PySem.W.Fast.tw11693260890565555034 : Unit := ()
def PySem.W.Fast.tw3438557291217114034 : Unit := ()
def PySem.W.Fast.tw4217823787277090512 : Unit := ()
def PySem.W.Fast.tw14716176958970527975 : Unit := ()
def PySem.W.Fast.tw12656225487002266811 : Unit := ()
def PySem.W.Fast.tw15377952544704970217 : Unit := ()
def PySem.W.Fast.tw15347903462181870216 : Unit := ()
def PySem.W.Fast.tw939595338521852233 : Unit := ()
def PySem.W.Fast.tw16675455000205523965 : Unit := ()
def PySem.W.Fast.tw4472467543210929319 : Unit := ()
def PySem.W.Fast.tw1039661585882263023 : Unit := ()
def PySem.W.Fast.tw1174192877617673382 : Unit := ()
def PySem.W.Fast.tw12644408062489321001 : Unit := ()
def PySem.W.Fast.tw1284835316664428250 : Unit := ()
def PySem.W.Fast.tw7709855009989885669 : Unit := ()
def PySem.W.Fast.tw9493519782885284656 : Unit := ()
def PySem.W.Fast.tw1091589436307926052 : Unit := ()
def PySem.W.Fast.tw2354776147371957240 : Unit := ()
def PySem.W.Fast.tw3677216798497011661 : Unit := ()
def PySem.W.Fast.tw8000593550362482157 : Unit := ()
def PySem.W.Fast.tw3286481208725029843 : Unit := ()
def PySem.W.Fast.tw7424626393886706056 : Unit := ()
def PySem.W.Fast.tw14723681676479344062 : Unit := ()
def PySem.W.Fast.tw7450926856197627225 : Unit := ()
def PySem.W.Fast.tw8626637698035771039 : Unit := ()
def PySem.W.Fast.tw7795833641900115827 : Unit := ()
def PySem.W.Fast.tw16745032198275314867 : Unit := ()
def PySem.W.Fast.tw4726099957118666288 : Unit := ()
def PySem.W.Fast.tw16022482660507463180 : Unit := ()
def PySem.W.Fast.tw5279632134335377872 : Unit := ()
def PySem.W.Fast.tw9213594570150406786 : Unit := ()
def PySem.W.Fast.tw2606599741141076714 : Unit := ()
def PySem.W.Fast.tw9925446528774714849 : Unit := ()
def PySem.W.Fast.tw10915849256461734882 : Unit := ()
def PySem.W.Fast.tw5828621926254296801 : Unit := ()
def PySem.W.Fast.tw15434851166665020305 : Unit := ()
def PySem.W.Fast.tw7246603959740234991 : Unit := ()
def PySem.W.Fast.tw13134878517891075733 : Unit := ()
def PySem.W.Fast.tw13633128204779469654 : Unit := ()
def PySem.W.Fast.tw15167462781840343828 : Unit := ()
def PySem.W.Fast.tw3719571851816772735 : Unit := ()
def PySem.W.Fast.tw16706056961454020452 : Unit := ()
def PySem.W.Fast.tw4378466541148743187 : Unit := ()
def PySem.W.Fast.tw13288754200791583719 : Unit := ()
def PySem.W.Fast.tw7627362191410255162 : Unit := ()
def PySem.W.Fast.tw7427302894290887976 : Unit := ()
def PySem.W.Fast.tw2036339723722066288 : Unit := ()
def PySem.W.Fast.tw16207009286287827078 : Unit := ()
def PySem.W.Fast.tw16997646296184486967 : Unit := ()
def PySem.W.Fast.tw16632026619610263128 : Unit := ()
def PySem.W.Fast.tw15848567257756229119 : Unit := ()
def PySem.W.Fast.tw4465693887613634162 : Unit := ()
def PySem.W.Fast.tw12240172301338727741 : Unit := ()
def PySem.W.Fast.tw11738483814238326157 : Unit := ()
def PySem.W.Fast.tw13305637524481268541 : Unit := ()
def PySem.W.Fast.tw15238340769491426903 : Unit := ()
def PySem.W.Fast.tw16146081763824857711 : Unit := ()
def PySem.W.Fast.tw2973952520110265087 : Unit := ()
def PySem.W.Fast.tw1383550776092247725 : Unit := ()
def PySem.W.Fast.tw8653701800477885555 : Unit := ()
def PySem.W.Fast.tw17876514704774127932 : Unit := ()
def PySem.W.Fast.tw15036058494146382934 : Unit := ()
def PySem.W.Fast.tw3379628291702616587 : Unit := ()
def PySem.W.Fast.tw10615951029070977779 : Unit := ()
def PySem.W.Fast.tw15463407328046025528 : Unit := ()
def PySem.W.Fast.tw10502536181815576984 : Unit := ()
def PySem.W.Fast.tw12996669880215929396 : Unit := ()
def PySem.W.Fast.tw9333217911728752374 : Unit := ()
def PySem.W.Fast.tw2990904554825407576 : Unit := ()
def PySem.W.Fast.tw248389389457705376 : Unit := ()
def PySem.W.Fast.tw3064241879688146203 : Unit := ()
def PySem.W.Fast.tw2093291067324476139 : Unit := ()
def PySem.W.Fast.tw10162449548093951620 : Unit := ()
def PySem.W.Fast.tw14155906521898405609 : Unit := ()
def PySem.W.Fast.tw15749136654491344215 : Unit := ()
def PySem.W.Fast.tw7124484209184783102 : Unit := ()
def PySem.W.Fast.tw2069678192227150892 : Unit := ()
def PySem.W.Fast.tw10626889875420157681 : Unit := ()
def PySem.W.Fast.tw2870315728770926242 : Unit := ()
def PySem.W.Fast.tw5761844436845983036 : Unit := ()
def PySem.W.Fast.tw1042625969846775211 : Unit := ()
def PySem.W.Fast.tw12137400176585497717 : Unit := ()
def PySem.W.Fast.tw864057019612516257 : Unit := ()
def PySem.W.Fast.tw3763487527236304616 : Unit := ()
def PySem.W.Fast.tw15512282363468303218 : Unit := ()
def PySem.W.Fast.tw3462528972539039461 : Unit := ()
def PySem.W.Fast.tw3230268131713412479 : Unit := ()
def PySem.W.Fast.tw6551418702360706768 : Unit := ()
def PySem.W.Fast.tw7966049115419073723 : Unit := ()
def PySem.W.Fast.tw12518220610814953080 : Unit := ()
def PySem.W.Fast.tw4377341195473972431 : Unit := ()
def PySem.W.Fast.tw17854981117228489693 : Unit := ()
def PySem.W.Fast.tw6178746789953226740 : Unit := ()
def PySem.W.Fast.tw5629483629357145160 : Unit := ()
def PySem.W.Fast.tw11269449009387584878 : Unit := ()
def PySem.W.Fast.tw2045490722633683191 : Unit := ()
def PySem.W.Fast.tw16471899815689977083 : Unit := ()
def PySem.W.Fast.tw9988131646588027965 : Unit := ()
def PySem.W.Fast.tw13719386352027728586 : Unit := ()
def PySem.W.Fast.tw12298774568978436233 : Unit := ()
def PySem.W.Fast.tw2861835209884120832 : Unit := ()
def PySem.W.Fast.tw8840073762997088525 : Unit := ()
def PySem.W.Fast.tw2892374663930820358 : Unit := ()
def PySem.W.Fast.tw10753033863484909058 : Unit := ()
def PySem.W.Fast.tw3698272506021450127 : Unit := ()
def PySem.W.Fast.tw9760812348859147198 : Unit := ()
def PySem.W.Fast.tw2295820455454739239 : Unit := ()
def PySem.W.Fast.tw7089494333107012487 : Unit := ()
def PySem.W.Fast.tw14626735218024702057 : Unit := ()
def PySem.W.Fast.tw4287314376134409142 : Unit := ()
def PySem.W.Fast.tw13942080037560388626 : Unit := ()
def PySem.W.Fast.tw6539698732896398963 : Unit := ()
def PySem.W.Fast.tw16710555650700949451 : Unit := ()
def PySem.W.Fast.tw16729372141599607825 : Unit := ()
def PySem.W.Fast.tw18231222268309393852 : Unit := ()
def PySem.W.Fast.tw3176162318749363408 : Unit := ()
def PySem.W.Fast.tw14564793622597881199 : Unit := ()
def PySem.W.Fast.tw6560239779052989945 : Unit := ()
def PySem.W.Fast.tw16570322499102213980 : Unit := ()
def PySem.W.Fast.tw1653306233199861287 : Unit := ()
def PySem.W.Fast.tw8200577072549192579 : Unit := ()
def PySem.W.Fast.tw11304285083145765072 : Unit := ()
def PySem.W.Fast.tw14687564532357254330 : Unit := ()
def PySem.W.Fast.tw3597211554625191814 : Unit := ()
def PySem.W.Fast.tw2426373666597473804 : Unit := ()
def PySem.W.Fast.tw10191669809079297737 : Unit := ()
def PySem.W.Fast.tw11553671390688627185 : Unit := ()
def PySem.W.Fast.tw4414331554357730496 : Unit := ()
def PySem.W.Fast.tw15738241322186103796 : Unit := ()
def PySem.W.Fast.tw14674122172972470184 : Unit := ()
def PySem.W.Fast.tw8214519099522757249 : Unit := ()
def PySem.W.Fast.tw17835966818816871727 : Unit := ()
def PySem.W.Fast.tw12775284835252253013 : Unit := ()
def PySem.W.Fast.tw5979052692893765310 : Unit := ()
def PySem.W.Fast.tw7885428357511775433 : Unit := ()
def PySem.W.Fast.tw11398836904418539744 : Unit := ()
def PySem.W.Fast.tw14163046099933563584 : Unit := ()
def PySem.W.Fast.tw11489366709557260578 : Unit := ()
def PySem.W.Fast.tw16879335466765648247 : Unit := ()
def PySem.W.Fast.tw9088886613500787997 : Unit := ()
def PySem.W.Fast.tw17886705496928875573 : Unit := ()
def PySem.W.Fast.tw11607864680548336241 : Unit := ()
def PySem.W.Fast.tw2558822048449249836 : Unit := ()
def PySem.W.Fast.tw14084036442314044518 : Unit := ()
def PySem.W.Fast.tw4928396878483130841 : Unit := ()
def PySem.W.Fast.tw7915856051202538964 : Unit := ()
def PySem.W.Fast.tw5484534331548845095 : Unit := ()
def PySem.W.Fast.tw2403523421779186049 : Unit := ()
def PySem.W.Fast.tw13059778406374354460 : Unit := ()
def PySem.W.Fast.tw12279207151909175863 : Unit := ()
def PySem.W.Fast.tw17861387818065028470 : Unit := ()
def PySem.W.Fast.tw10609094495441455450 : Unit := ()
def PySem.W.Fast.tw9759269489079446049 : Unit := ()
def PySem.W.Fast.tw2676268718981913499 : Unit := ()
def PySem.W.Fast.tw5428539065983726340 : Unit := ()
def PySem.W.Fast.tw6647825250897075081 : Unit := ()
def PySem.W.Fast.tw13265048282991955578 : Unit := ()
def PySem.W.Fast.tw9652396735957200441 : Unit := ()
def PySem.W.Fast.tw5277770197323388163 : Unit := ()
def PySem.W.Fast.tw2588190416186201495 : Unit := ()
def PySem.W.Fast.tw9653359500167232407 : Unit := ()
def PySem.W.Fast.tw5905374136997621729 : Unit := ()
def PySem.W.Fast.tw12981944491686914238 : Unit := ()
def PySem.W.Fast.tw16240047445821539633 : Unit := ()
def PySem.W.Fast.tw7860029276785178567 : Unit := ()
def PySem.W.Fast.tw13175490356982378041 : Unit := ()
def PySem.W.Fast.tw18089482431547351669 : Unit := ()
def PySem.W.Fast.tw18107129886924035361 : Unit := ()
def PySem.W.Fast.tw5913601333305454344 : Unit := ()
def PySem.W.Fast.tw3671587901538751397 : Unit := ()
def PySem.W.Fast.tw9692036608156248211 : Unit := ()
def PySem.W.Fast.tw2130756518599925209 : Unit := ()
def PySem.W.Fast.tw13615937682510477358 : Unit := ()
def PySem.W.Fast.tw18389149253722090020 : Unit := ()
def PySem.W.Fast.tw6060912437520520488 : Unit := ()
def PySem.W.Fast.tw2330070755198476867 : Unit := ()
def PySem.W.Fast.tw16828706823237455059 : Unit := ()
def PySem.W.Fast.tw4211194089355466398 : Unit := ()
def PySem.W.Fast.tw17560769318481486009 : Unit := ()
def PySem.W.Fast.tw16544280149735300127 : Unit := ()
def PySem.W.Fast.tw15085490817035918729 : Unit := ()
def PySem.W.Fast.tw5680759795418321552 : Unit := ()
def PySem.W.Fast.tw6425410934482000223 : Unit := ()
def PySem.W.Fast.tw5707595154453677210 : Unit := ()
def PySem.W.Fast.tw18325424709926954140 : Unit := ()
def PySem.W.Fast.tw15549921810592533831 : Unit := ()
def PySem.W.Fast.tw4987470887255178816 : Unit := ()
def PySem.W.Fast.tw14099008460847878387 : Unit := ()
def PySem.W.Fast.tw316667516556639645 : Unit := ()
def PySem.W.Fast.tw5027967476737987474 : Unit := ()
def PySem.W.Fast.tw9012500175293573516 : Unit := ()
def PySem.W.Fast.tw14369172955695535148 : Unit := ()
def PySem.W.Fast.tw11988464701174883820 : Unit := ()
def PySem.W.Fast.tw1033834617354048788 : Unit := ()
def PySem.W.Fast.tw60963999927191416 : Unit := ()
def PySem.W.Fast.tw3724525439811570387 : Unit := ()
def PySem.W.Fast.tw14613778182953308434 : Unit := ()
def PySem.W.Fast.tw7755602705705229579 : Unit := ()
def PySem.W.Fast.tw5909800250189193720 : Unit := ()
def PySem.W.Fast.tw5124679361693908587 : Unit := ()
def PySem.W.Fast.tw11759802210601567698 : Unit := ()
def PySem.W.Fast.tw4990102068830014855 : Unit := ()
def PySem.W.Fast.tw16087121098963765736 : Unit := ()
def PySem.W.Fast.tw3477046983084406423 : Unit := ()
def PySem.W.Fast.tw14043594841060276909 : Unit := ()
def PySem.W.Fast.tw16792670003294493040 : Unit := ()
def PySem.W.Fast.tw17866812093452272264 : Unit := ()
def PySem.W.Fast.tw11683134441499567403 : Unit := ()
def PySem.W.Fast.tw10238187691226752235 : Unit := ()
def PySem.W.Fast.tw17981035704102123401 : Unit := ()
def PySem.W.Fast.tw14436027565492379664 : Unit := ()
def PySem.W.Fast.tw14539443969452180165 : Unit := ()
def PySem.W.Fast.tw14690936669441107273 : Unit := ()
def PySem.W.Fast.tw14903867956575431725 : Unit := ()
def PySem.W.Fast.tw16563781245008426558 : Unit := ()
def PySem.W.Fast.tw5204455901009397141 : Unit := ()
def PySem.W.Fast.tw6582318318144687543 : Unit := ()
def PySem.W.Fast.tw1680260544926390235 : Unit := ()
def PySem.W.Fast.tw535949317555391952 : Unit := ()
def PySem.W.Fast.tw7492622938781485802 : Unit := ()
def PySem.W.Fast.tw11963087940511910888 : Unit := ()
def PySem.W.Fast.tw4944370646153163525 : Unit := ()
def PySem.W.Fast.tw15075064858062994997 : Unit := ()
def PySem.W.Fast.tw13599854852378141882 : Unit := ()
def PySem.W.Fast.tw13428534765879464470 : Unit := ()
def PySem.W.Fast.tw6313749781136187323 : Unit := ()
def PySem.W.Fast.tw6712994562381565327 : Unit := ()
def PySem.W.Fast.tw14063072207847553057 : Unit := ()
def PySem.W.Fast.tw2046776230570249287 : Unit := ()
def PySem.W.Fast.tw13585811692156614610 : Unit := ()
def PySem.W.Fast.tw8776728675689877784 : Unit := ()
def PySem.W.Fast.tw10488821801829508881 : Unit := ()
def PySem.W.Fast.tw17746984705625123361 : Unit := ()
def PySem.W.Fast.tw11806871047416066416 : Unit := ()
def PySem.W.Fast.tw7730434833478662231 : Unit := ()
def PySem.W.Fast.tw3756238263606511946 : Unit := ()
def PySem.W.Fast.tw15548544451309195566 : Unit := ()
def PySem.W.Fast.tw4551707172529287078 : Unit := ()
def PySem.W.Fast.tw15681024790848037948 : Unit := ()
def PySem.W.Fast.tw8839047053958278786 : Unit := ()
def PySem.W.Fast.tw16365165925593034504 : Unit := ()
def PySem.W.Fast.tw6028781255156724789 : Unit := ()
def PySem.W.Fast.tw3308034118134816674 : Unit := ()
def PySem.W.Fast.tw9733712859008199892 : Unit := ()
def PySem.W.Fast.tw3662920144127088385 : Unit := ()
def PySem.W.Fast.tw11262365761453634625 : Unit := ()
def PySem.W.Fast.tw11947543305012853062 : Unit := ()
def PySem.W.Fast.tw6883758214693668579 : Unit := ()
def PySem.W.Fast.tw8413245609521119964 : Unit := ()
def PySem.W.Fast.tw12351271040629514040 : Unit := ()
def PySem.W.Fast.tw445847768988747603 : Unit := ()
def PySem.W.Fast.tw3246485210168029740 : Unit := ()
def PySem.W.Fast.tw453711722458105566 : Unit := ()
def PySem.W.Fast.tw11941058234175565886 : Unit := ()
def PySem.W.Fast.tw9608288879655073868 : Unit := ()
def PySem.W.Fast.tw6432791396819240474 : Unit := ()
def PySem.W.Fast.tw12201137483147848569 : Unit := ()
def PySem.W.Fast.tw4064639877816253962 : Unit := ()
def PySem.W.Fast.tw9808278038675337015 : Unit := ()
def PySem.W.Fast.tw18182546839644095642 : Unit := ()
def PySem.W.Fast.tw2092628011697743313 : Unit := ()
def PySem.W.Fast.tw11411283391584470851 : Unit := ()
def PySem.W.Fast.tw11433072710672569756 : Unit := ()
def PySem.W.Fast.tw7697313148358258924 : Unit := ()
def PySem.W.Fast.tw8881186234732938623 : Unit := ()
def PySem.W.Fast.tw14412828337799193459 : Unit := ()
def PySem.W.Fast.tw12760510876968277131 : Unit := ()
def PySem.W.Fast.tw9812365765360045689 : Unit := ()
def PySem.W.Fast.tw8636770585825367667 : Unit := ()
def PySem.W.Fast.tw9719329448935222222 : Unit := ()
def PySem.W.Fast.tw5784019973176089695 : Unit := ()
def PySem.W.Fast.tw5119411118033881997 : Unit := ()
def PySem.W.Fast.tw17113523217121541842 : Unit := ()
def PySem.W.Fast.tw14281385548752753410 : Unit := ()
def PySem.W.Fast.tw11344511489895872310 : Unit := ()
def PySem.W.Fast.tw5499241064377670898 : Unit := ()
def PySem.W.Fast.tw7048204421935707362 : Unit := ()
def PySem.W.Fast.tw8440967702003885165 : Unit := ()
def PySem.W.Fast.tw1802899250407033538 : Unit := ()
def PySem.W.Fast.tw15566383205145995068 : Unit := ()
def PySem.W.Fast.tw7452993238710344189 : Unit := ()
def PySem.W.Fast.tw16103991840328410456 : Unit := ()
def PySem.W.Fast.tw4050432627381368908 : Unit := ()
def PySem.W.Fast.tw1407892480404395913 : Unit := ()
def PySem.W.Fast.tw9032151757043753947 : Unit := ()
def PySem.W.Fast.tw2132309512319753215 : Unit := ()
def PySem.W.Fast.tw6064634708240388423 : Unit := ()
def PySem.W.Fast.tw15589220654299104294 : Unit := ()
def PySem.W.Fast.tw1329227692768959899 : Unit := ()
def PySem.W.Fast.tw7604742350783625045 : Unit := ()
def PySem.W.Fast.tw16623731402809908193 : Unit := ()
def PySem.W.Fast.tw9737784605250774099 : Unit := ()
def PySem.W.Fast.tw45502466421294563 : Unit := ()
def PySem.W.Fast.tw3188031234868773957 : Unit := ()
def PySem.W.Fast.tw12431343167573254786 : Unit := ()
def PySem.W.Fast.tw185020275092914320 : Unit := ()
def PySem.W.Fast.tw15138131478786136314 : Unit := ()
def PySem.W.Fast.tw6727173789281859631 : Unit := ()
def PySem.W.Fast.tw14435124944368252413 : Unit := ()
def PySem.W.Fast.tw6059351616409930632 : Unit := ()
def PySem.W.Fast.tw3254792880193856536 : Unit := ()
def PySem.W.Fast.tw4037077425321002545 : Unit := ()
def PySem.W.Fast.tw14556558235764037054 : Unit := ()
def PySem.W.Fast.tw14077133262415973421 : Unit := ()
def PySem.W.Fast.tw16075098839315767595 : Unit := ()
def PySem.W.Fast.tw16371039118827385610 : Unit := ()
def PySem.W.Fast.tw4288689568473091010 : Unit := ()
def PySem.W.Fast.tw13291352840480761293 : Unit := ()
def PySem.W.Fast.tw14009837090665215381 : Unit := ()
def PySem.W.Fast.tw2527656168139779300 : Unit := ()
def PySem.W.Fast.tw12780532160597108664 : Unit := ()
def PySem.W.Fast.tw9419531811136873859 : Unit := ()
def PySem.W.Fast.tw1390048741140084212 : Unit := ()
def PySem.W.Fast.tw9001877700795001309 : Unit := ()
def PySem.W.Fast.tw1527965180509661334 : Unit := ()
def PySem.W.Fast.tw7862792446486449555 : Unit := ()
def PySem.W.Fast.tw9060898392645477646 : Unit := ()
def PySem.W.Fast.tw10217557927671356972 : Unit := ()
def PySem.W.Fast.tw9695578784354761106 : Unit := ()
def PySem.W.Fast.tw16965074433771502815 : Unit := ()
def PySem.W.Fast.tw6898281661577134476 : Unit := ()
def PySem.W.Fast.tw14312095236003333679 : Unit := ()
def PySem.W.Fast.tw4410200502607063360 : Unit := ()
def PySem.W.Fast.tw17751178000210563813 : Unit := ()
def PySem.W.Fast.tw13127563397858286386 : Unit := ()
def PySem.W.Fast.tw6754535788225649692 : Unit := ()
def PySem.W.Fast.tw7666029737340262233 : Unit := ()
def PySem.W.Fast.tw17413661802589798272 : Unit := ()
def PySem.W.Fast.tw13617600924788278313 : Unit := ()
def PySem.W.Fast.tw15262663799462102965 : Unit := ()
def PySem.W.Fast.tw3549676545149987731 : Unit := ()
def PySem.W.Fast.tw15968659139464617434 : Unit := ()
def PySem.W.Fast.tw1952633047063158717 : Unit := ()
def PySem.W.Fast.tw10052039329798547265 : Unit := ()
def PySem.W.Fast.tw6322400123971614244 : Unit := ()
def PySem.W.Fast.tw3813498378678826406 : Unit := ()
def PySem.W.Fast.tw9002853851133394719 : Unit := ()
def PySem.W.Fast.tw5694628789520552010 : Unit := ()
def PySem.W.Fast.tw1429459326990858046 : Unit := ()
def PySem.W.Fast.tw14743171788913971931 : Unit := ()
def PySem.W.Fast.tw11628609436481560411 : Unit := ()
def PySem.W.Fast.tw4555267685516934359 : Unit := ()
def PySem.W.Fast.tw4094925773064682284 : Unit := ()
def PySem.W.Fast.tw4182494315081428483 : Unit := ()
def PySem.W.Fast.tw10561885744627927468 : Unit := ()
def PySem.W.Fast.tw18412327423890889578 : Unit := ()
def PySem.W.Fast.tw12479626805207321664 : Unit := ()
def PySem.W.Fast.tw7977223111618501177 : Unit := ()
def PySem.W.Fast.tw16021661416545792513 : Unit := ()
def PySem.W.Fast.tw3819682411851487299 : Unit := ()
def PySem.W.Fast.tw8304867380229514128 : Unit := ()
def PySem.W.Fast.tw14559711646221207766 : Unit := ()
def PySem.W.Fast.tw17153786698810306011 : Unit := ()
def PySem.W.Fast.tw14393351691108060638 : Unit := ()
def PySem.W.Fast.tw16290360371507391615 : Unit := ()
def PySem.W.Fast.tw5193497749236275889 : Unit := ()
def PySem.W.Fast.tw15349989413746492029 : Unit := ()
def PySem.W.Fast.tw12903975498182246919 : Unit := ()
def PySem.W.Fast.tw14022017946207585492 : Unit := ()
def PySem.W.Fast.tw7399666394441937027 : Unit := ()
def PySem.W.Fast.tw15321061766339231636 : Unit := ()
def PySem.W.Fast.tw6170058399413399678 : Unit := ()
def PySem.W.Fast.tw15800973102169342398 : Unit := ()
def PySem.W.Fast.tw11896831963809154960 : Unit := ()
def PySem.W.Fast.tw6479755521672349213 : Unit := ()
def PySem.W.Fast.tw5039701385916137440 : Unit := ()
def PySem.W.Fast.tw5596259338457390295 : Unit := ()
def PySem.W.Fast.tw9922431964206312454 : Unit := ()
def PySem.W.Fast.tw6934788082661771051 : Unit := ()
def PySem.W.Fast.tw5810681770665440631 : Unit := ()
def PySem.W.Fast.tw3715231495473875289 : Unit := ()
def PySem.W.Fast.tw4202083538349395607 : Unit := ()
def PySem.W.Fast.tw1888556792541504132 : Unit := ()
def PySem.W.Fast.tw14368172813270295004 : Unit := ()
def PySem.W.Fast.tw15297987052055263204 : Unit := ()
def PySem.W.Fast.tw3039320138736607402 : Unit := ()
def PySem.W.Fast.tw2171957598148832478 : Unit := ()
def PySem.W.Fast.tw278212604973488355 : Unit := ()
def PySem.W.Fast.tw7611943873754371525 : Unit := ()
def PySem.W.Fast.tw10402652901252272467 : Unit := ()
def PySem.W.Fast.tw15937563969557198660 : Unit := ()
def PySem.W.Fast.tw6745788654549111513 : Unit := ()
def PySem.W.Fast.tw14262002759041253010 : Unit := ()
def PySem.W.Fast.tw10427506352360678681 : Unit := ()
def PySem.W.Fast.tw9610224497741172816 : Unit := ()
def PySem.W.Fast.tw5672960801734832736 : Unit := ()
def PySem.W.Fast.tw15476890358521977513 : Unit := ()
def PySem.W.Fast.tw18173396515994026641 : Unit := ()
def PySem.W.Fast.tw2150042325364984294 : Unit := ()
def PySem.W.Fast.tw7069259507564352112 : Unit := ()
def PySem.W.Fast.tw8636079402882565928 : Unit := ()
def PySem.W.Fast.tw4600593503094894061 : Unit := ()
def PySem.W.Fast.tw10238848543617832382 : Unit := ()
def PySem.W.Fast.tw16717564239150419180 : Unit := ()
def PySem.W.Fast.tw17119943869863046848 : Unit := ()
def PySem.W.Fast.tw7699711986807426037 : Unit := ()
def PySem.W.Fast.tw9188079193085968999 : Unit := ()
def PySem.W.Fast.tw5349072889942650091 : Unit := ()
def PySem.W.Fast.tw12197424461892172325 : Unit := ()
def PySem.W.Fast.tw6883704380332714060 : Unit := ()
def PySem.W.Fast.tw14585360612725033255 : Unit := ()
def PySem.W.Fast.tw8451688111613566965 : Unit := ()
def PySem.W.Fast.tw6544848696442318116 : Unit := ()
def PySem.W.Fast.tw10872954780124603453 : Unit := ()
def PySem.W.Fast.tw10400385761130367642 : Unit := ()
def PySem.W.Fast.tw9683193212472165842 : Unit := ()
def PySem.W.Fast.tw7349687748711673559 : Unit := ()
def PySem.W.Fast.tw11571090993576310534 : Unit := ()
def PySem.W.Fast.tw988794476266381989 : Unit := ()
def PySem.W.Fast.tw18401591540906767510 : Unit := ()
def PySem.W.Fast.tw12105388154484447440 : Unit := ()
def PySem.W.Fast.tw8163496680080673278 : Unit := ()
def PySem.W.Fast.tw375513500512195832 : Unit := ()
def PySem.W.Fast.tw15932469907979386707 : Unit := ()
def PySem.W.Fast.tw16156841900117168369 : Unit := ()
def PySem.W.Fast.tw3921293524170810056 : Unit := ()
def PySem.W.Fast.tw8436563807404686359 : Unit := ()
def PySem.W.Fast.tw3658945383618861014 : Unit := ()
def PySem.W.Fast.tw17683441442732099744 : Unit := ()
def PySem.W.Fast.tw8791220011745532402 : Unit := ()
def PySem.W.Fast.tw3295223328818852176 : Unit := ()
def PySem.W.Fast.tw17238734221280778186 : Unit := ()
def PySem.W.Fast.tw2322252519664449071 : Unit := ()
def PySem.W.Fast.tw12056293294240461291 : Unit := ()
def PySem.W.Fast.tw6601409219953809565 : Unit := ()
def PySem.W.Fast.tw15771820374786466312 : Unit := ()
def PySem.W.Fast.tw11224701999807208959 : Unit := ()
def PySem.W.Fast.tw1375880091842480377 : Unit := ()
def PySem.W.Fast.tw15614258971623281975 : Unit := ()
def PySem.W.Fast.tw7989076248937770572 : Unit := ()
def PySem.W.Fast.tw11377850833129250373 : Unit := ()
def PySem.W.Fast.tw5667246989493060531 : Unit := ()
def PySem.W.Fast.tw5333519794138890460 : Unit := ()
def PySem.W.Fast.tw4133445116701466015 : Unit := ()
def PySem.W.Fast.tw17559045100814265504 : Unit := ()
def PySem.W.Fast.tw10374661578548161708 : Unit := ()
def PySem.W.Fast.tw3183873086528957719 : Unit := ()
def PySem.W.Fast.tw6706326784944095214 : Unit := ()
def PySem.W.Fast.tw1620225968911379212 : Unit := ()
def PySem.W.Fast.tw3480700084615830819 : Unit := ()
def PySem.W.Fast.tw3780960482209395748 : Unit := ()
def PySem.W.Fast.tw9638052093078634437 : Unit := ()
def PySem.W.Fast.tw397808186427452803 : Unit := ()
def PySem.W.Fast.tw11359952221192986408 : Unit := ()
def PySem.W.Fast.tw9622355760951864301 : Unit := ()
def PySem.W.Fast.tw7228938382443641872 : Unit := ()
def PySem.W.Fast.tw17329027830498111133 : Unit := ()
def PySem.W.Fast.tw10471332489244093598 : Unit := ()
def PySem.W.Fast.tw12078276317507566765 : Unit := ()
def PySem.W.Fast.tw542483180114154932 : Unit := ()
def PySem.W.Fast.tw9693450642430049727 : Unit := ()
def PySem.W.Fast.tw6108600010564982057 : Unit := ()
def PySem.W.Fast.tw14966828067484702200 : Unit := ()
def PySem.W.Fast.tw11975655909164209734 : Unit := ()
def PySem.W.Fast.tw179464168944474317 : Unit := ()
def PySem.W.Fast.tw16449100609174951706 : Unit := ()
def PySem.W.Fast.tw11139074288272816659 : Unit := ()
def PySem.W.Fast.tw17505964433795793629 : Unit := ()
def PySem.W.Fast.tw2634734024300619039 : Unit := ()
def PySem.W.Fast.tw14338282692645120327 : Unit := ()
def PySem.W.Fast.tw9786040449985934276 : Unit := ()
def PySem.W.Fast.tw5351123784479611250 : Unit := ()
def PySem.W.Fast.tw1133479531673329437 : Unit := ()
def PySem.W.Fast.tw622071921267257955 : Unit := ()
def PySem.W.Fast.tw7510289175489635291 : Unit := ()
def PySem.W.Fast.tw16348059617809747936 : Unit := ()
def PySem.W.Fast.tw18325222924935413014 : Unit := ()
def PySem.W.Fast.tw8469434026050135006 : Unit := ()
def PySem.W.Fast.tw6280214116987275940 : Unit := ()
def PySem.W.Fast.tw13449348419566116419 : Unit := ()
def PySem.W.Fast.tw16319837719323847429 : Unit := ()
def PySem.W.Fast.tw15038330608218050271 : Unit := ()
def PySem.W.Fast.tw10755901205797276588 : Unit := ()
def PySem.W.Fast.tw18138550722537788071 : Unit := ()
def PySem.W.Fast.tw15138191030878398735 : Unit := ()
def PySem.W.Fast.tw1328318884368790413 : Unit := ()
def PySem.W.Fast.tw973863332210656220 : Unit := ()
def PySem.W.Fast.tw12022530635044894910 : Unit := ()
def PySem.W.Fast.tw12834389801986041823 : Unit := ()
def PySem.W.Fast.tw17812677067573675401 : Unit := ()
def PySem.W.Fast.tw3324417482924803752 : Unit := ()
def PySem.W.Fast.tw16208264830722086728 : Unit := ()
def PySem.W.Fast.tw8721068026981705317 : Unit := ()
def PySem.W.Fast.tw189617156987491691 : Unit := ()
def PySem.W.Fast.tw10568321035716438518 : Unit := ()
def PySem.W.Fast.tw11531166533987106324 : Unit := ()
def PySem.W.Fast.tw14215617533976668084 : Unit := ()
def PySem.W.Fast.tw6023988393369500240 : Unit := ()
def PySem.W.Fast.tw6388398413317623756 : Unit := ()
def PySem.W.Fast.tw11869308359695876811 : Unit := ()
def PySem.W.Fast.tw958788559898260161 : Unit := ()
def PySem.W.Fast.tw4895046286187990690 : Unit := ()
def PySem.W.Fast.tw4440055190364376317 : Unit := ()
def PySem.W.Fast.tw13209964676383537535 : Unit := ()
def PySem.W.Fast.tw9426074815418004115 : Unit := ()
def PySem.W.Fast.tw3480202048969547874 : Unit := ()
def PySem.W.Fast.tw17198497257014611127 : Unit := ()
def PySem.W.Fast.tw2433956143220187431 : Unit := ()
def PySem.W.Fast.tw13688162667391596103 : Unit := ()
def PySem.W.Fast.tw8896232595117332231 : Unit := ()
def PySem.W.Fast.tw16360319781351635590 : Unit := ()
def PySem.W.Fast.tw3522700847514583787 : Unit := ()
def PySem.W.Fast.tw15804406692494504536 : Unit := ()
def PySem.W.Fast.tw13127066488385929364 : Unit := ()
def PySem.W.Fast.tw5905132641867805893 : Unit := ()
def PySem.W.Fast.tw4735811940586069161 : Unit := ()
def PySem.W.Fast.tw10600060056354163839 : Unit := ()
def PySem.W.Fast.tw17755023188435741866 : Unit := ()
def PySem.W.Fast.tw14229605683802616079 : Unit := ()
def PySem.W.Fast.tw10579591927643567398 : Unit := ()
def PySem.W.Fast.tw15397112088663909472 : Unit := ()
def PySem.W.Fast.tw6336482641148180026 : Unit := ()
def PySem.W.Fast.tw5319754251306859725 : Unit := ()
def PySem.W.Fast.tw12283263893895325066 : Unit := ()
def PySem.W.Fast.tw12402511802839864055 : Unit := ()
def PySem.W.Fast.tw14575163296817378815 : Unit := ()
def PySem.W.Fast.tw4340569950685167683 : Unit := ()
def PySem.W.Fast.tw3598590827219346449 : Unit := ()
def PySem.W.Fast.tw5170470815380057527 : Unit := ()
def PySem.W.Fast.tw17575644967985946249 : Unit := ()
def PySem.W.Fast.tw4672476818027972409 : Unit := ()
def PySem.W.Fast.tw16506332387222410054 : Unit := ()
def PySem.W.Fast.tw9992216824702039038 : Unit := ()
def PySem.W.Fast.tw10608355409088719761 : Unit := ()
def PySem.W.Fast.tw6774549184150277009 : Unit := ()
def PySem.W.Fast.tw5724823924285933869 : Unit := ()
def PySem.W.Fast.tw3203389378274134171 : Unit := ()
def PySem.W.Fast.tw10716434066714919107 : Unit := ()
def PySem.W.Fast.tw10043546638394585058 : Unit := ()
def PySem.W.Fast.tw16066772075503197955 : Unit := ()
def PySem.W.Fast.tw8805553731531710569 : Unit := ()
def PySem.W.Fast.tw16814658256186613955 : Unit := ()
def PySem.W.Fast.tw18364383249525348863 : Unit := ()
def PySem.W.Fast.tw8978619600806978840 : Unit := ()
def PySem.W.Fast.tw411528228428003189 : Unit := ()
def PySem.W.Fast.tw15879091187888605399 : Unit := ()
def PySem.W.Fast.tw9974477942976457583 : Unit := ()
def PySem.W.Fast.tw11801913492789962781 : Unit := ()
def PySem.W.Fast.tw17598079471081684601 : Unit := ()
def PySem.W.Fast.tw1922067240350740818 : Unit := ()
def PySem.W.Fast.tw10552928482600746614 : Unit := ()
def PySem.W.Fast.tw5147078220365761739 : Unit := ()
def PySem.W.Fast.tw12360677944275368793 : Unit := ()
def PySem.W.Fast.tw5051873278913011213 : Unit := ()
def PySem.W.Fast.tw8875965944044701398 : Unit := ()
def PySem.W.Fast.tw18186736224736457696 : Unit := ()
def PySem.W.Fast.tw7050734433503128043 : Unit := ()
def PySem.W.Fast.tw1353398154849838909 : Unit := ()
def PySem.W.Fast.tw3648069400033801446 : Unit := ()
def PySem.W.Fast.tw15456162139068013813 : Unit := ()
def PySem.W.Fast.tw11726341342532503913 : Unit := ()
def PySem.W.Fast.tw8985396504437035449 : Unit := ()
def PySem.W.Fast.tw10968296414292981458 : Unit := ()
def PySem.W.Fast.tw11881587408300517062 : Unit := ()
def PySem.W.Fast.tw2553694196310043928 : Unit := ()
def PySem.W.Fast.tw995525132108698933 : Unit := ()
def PySem.W.Fast.tw14598161232645195766 : Unit := ()
def PySem.W.Fast.tw10802865235616241067 : Unit := ()
def PySem.W.Fast.tw4580073463001157022 : Unit := ()
def PySem.W.Fast.tw147102725164141597 : Unit := ()
def PySem.W.Fast.tw1277502798107735158 : Unit := ()
def PySem.W.Fast.tw13547267774013560921 : Unit := ()
def PySem.W.Fast.tw14580654291275306317 : Unit := ()
def PySem.W.Fast.tw762545583992367302 : Unit := ()
def PySem.W.Fast.tw469280487698004911 : Unit := ()
def PySem.W.Fast.tw276632561437823350 : Unit := ()
def PySem.W.Fast.tw17993923560105067397 : Unit := ()
def PySem.W.Fast.tw15174643273053495859 : Unit := ()
def PySem.W.Fast.tw1674872000821040972 : Unit := ()
def PySem.W.Fast.tw11395210437570173991 : Unit := ()
def PySem.W.Fast.tw11998695420636472631 : Unit := ()
def PySem.W.Fast.tw18169203255942218484 : Unit := ()
def PySem.W.Fast.tw14177024438888968130 : Unit := ()
def PySem.W.Fast.tw1954502121919528569 : Unit := ()
def PySem.W.Fast.tw4453905544479728090 : Unit := ()
def PySem.W.Fast.tw10583054210094351629 : Unit := ()
def PySem.W.Fast.tw2749198192252492172 : Unit := ()
def PySem.W.Fast.tw2036192159636399489 : Unit := ()
def PySem.W.Fast.tw15883772858342999347 : Unit := ()
def PySem.W.Fast.tw5486102298811347846 : Unit := ()
def PySem.W.Fast.tw3901978585991998336 : Unit := ()
def PySem.W.Fast.tw17524131512359015444 : Unit := ()
def PySem.W.Fast.tw2809779600962349803 : Unit := ()
def PySem.W.Fast.tw11262036767638430054 : Unit := ()
def PySem.W.Fast.tw17940139572161547992 : Unit := ()
def PySem.W.Fast.tw13336333316881595726 : Unit := ()
def PySem.W.Fast.tw8362439147782912058 : Unit := ()
def PySem.W.Fast.tw3470893867093727457 : Unit := ()
def PySem.W.Fast.tw15401656067486632591 : Unit := ()
def PySem.W.Fast.tw494818344935919646 : Unit := ()
def PySem.W.Fast.tw9883077353326616767 : Unit := ()
def PySem.W.Fast.tw3651336389993145593 : Unit := ()
def PySem.W.Fast.tw3497396767263062932 : Unit := ()
def PySem.W.Fast.tw17753728028740742970 : Unit := ()
def PySem.W.Fast.tw17309253930492963521 : Unit := ()
def PySem.W.Fast.tw134330880311323928 : Unit := ()
def PySem.W.Fast.tw6770694563835498759 : Unit := ()
def PySem.W.Fast.tw12722666177068048234 : Unit := ()
def PySem.W.Fast.tw7371647653931030707 : Unit := ()
def PySem.W.Fast.tw14253381237557706123 : Unit := ()
def PySem.W.Fast.tw4231526679755938960 : Unit := ()
def PySem.W.Fast.tw2209495136455066012 : Unit := ()
def PySem.W.Fast.tw5816835523677492923 : Unit := ()
def PySem.W.Fast.tw18343259293217615901 : Unit := ()
def PySem.W.Fast.tw13272762194290529138 : Unit := ()
def PySem.W.Fast.tw10472139162318640559 : Unit := ()
def PySem.W.Fast.tw11672498793384902325 : Unit := ()
def PySem.W.Fast.tw7089189422547570499 : Unit := ()
def PySem.W.Fast.tw17330806120816107326 : Unit := ()
def PySem.W.Fast.tw9535938576318114623 : Unit := ()
def PySem.W.Fast.tw9935935035450315305 : Unit := ()
def PySem.W.Fast.tw17242249873802044157 : Unit := ()
def PySem.W.Fast.tw17694842409996130206 : Unit := ()
def PySem.W.Fast.tw250360571635178523 : Unit := ()
def PySem.W.Fast.tw14111673243551434150 : Unit := ()
def PySem.W.Fast.tw15120385574111570173 : Unit := ()
def PySem.W.Fast.tw12056013996118720438 : Unit := ()
def PySem.W.Fast.tw6709261033974346873 : Unit := ()
def PySem.W.Fast.tw16742830976422678677 : Unit := ()
def PySem.W.Fast.tw6449709299851130716 : Unit := ()
def PySem.W.Fast.tw7018160250674784303 : Unit := ()
def PySem.W.Fast.tw10503925194721247305 : Unit := ()
def PySem.W.Fast.tw16598862321580517369 : Unit := ()
def PySem.W.Fast.tw2321672286800240760 : Unit := ()
def PySem.W.Fast.tw14924856703581934906 : Unit := ()
def PySem.W.Fast.tw1816049033692511954 : Unit := ()
def PySem.W.Fast.tw10122802963511553644 : Unit := ()
def PySem.W.Fast.tw4830498100563590731 : Unit := ()
def PySem.W.Fast.tw9763909356752395337 : Unit := ()
def PySem.W.Fast.tw16850028730401484145 : Unit := ()
def PySem.W.Fast.tw14006294566126348740 : Unit := ()
def PySem.W.Fast.tw5784640661055044108 : Unit := ()
def PySem.W.Fast.tw14802889340197015037 : Unit := ()
def PySem.W.Fast.tw16281834271029313393 : Unit := ()
def PySem.W.Fast.tw15783170710000644174 : Unit := ()
def PySem.W.Fast.tw3858265135123132816 : Unit := ()
def PySem.W.Fast.tw17809778408382987698 : Unit := ()
def PySem.W.Fast.tw10174748536283293956 : Unit := ()
def PySem.W.Fast.tw2252805067624714287 : Unit := ()
def PySem.W.Fast.tw4793503413811016542 : Unit := ()
def PySem.W.Fast.tw829294620435268363 : Unit := ()
def PySem.W.Fast.tw7708642895229097020 : Unit := ()
def PySem.W.Fast.tw2490978187774049268 : Unit := ()
def PySem.W.Fast.tw4776110580970824899 : Unit := ()
def PySem.W.Fast.tw2234302817157654657 : Unit := ()
def PySem.W.Fast.tw5662823147454659209 : Unit := ()
def PySem.W.Fast.tw11230374783585840371 : Unit := ()
def PySem.W.Fast.tw5949681854099492601 : Unit := ()
def PySem.W.Fast.tw2595063039072183114 : Unit := ()
def PySem.W.Fast.tw16492584332615605227 : Unit := ()
def PySem.W.Fast.tw5431900011036704412 : Unit := ()
def PySem.W.Fast.tw38572444735648571 : Unit := ()
def PySem.W.Fast.tw8754479965475327297 : Unit := ()
def PySem.W.Fast.tw12203436698721198155 : Unit := ()
def PySem.W.Fast.tw16910421044311594236 : Unit := ()
def PySem.W.Fast.tw8072622538947691739 : Unit := ()
def PySem.W.Fast.tw17672777845566081729 : Unit := ()
def PySem.W.Fast.tw5016774540663797470 : Unit := ()
def PySem.W.Fast.tw4249163145680387762 : Unit := ()
def PySem.W.Fast.tw4776375715960269232 : Unit := ()
def PySem.W.Fast.tw328310664756378065 : Unit := ()
def PySem.W.Fast.tw3716324499907354028 : Unit := ()
def PySem.W.Fast.tw3855473133380749162 : Unit := ()
def PySem.W.Fast.tw3442933129820330655 : Unit := ()
def PySem.W.Fast.tw6792736737985667945 : Unit := ()
def PySem.W.Fast.tw12823113504222589282 : Unit := ()
def PySem.W.Fast.tw15377603242069917479 : Unit := ()
def PySem.W.Fast.tw1716019684563927996 : Unit := ()
def PySem.W.Fast.tw14799187718399350150 : Unit := ()
def PySem.W.Fast.tw14189334239202482179 : Unit := ()
def PySem.W.Fast.tw16288255588020515095 : Unit := ()
def PySem.W.Fast.tw16221157715617447413 : Unit := ()
def PySem.W.Fast.tw219310175540334636 : Unit := ()
def PySem.W.Fast.tw18112837970943284959 : Unit := ()
def PySem.W.Fast.tw10884262821883152187 : Unit := ()
def PySem.W.Fast.tw3024304078423848283 : Unit := ()
def PySem.W.Fast.tw3945010103871348008 : Unit := ()
def PySem.W.Fast.tw7977942348090678209 : Unit := ()
def PySem.W.Fast.tw2769894461816757269 : Unit := ()
def PySem.W.Fast.tw10205369182713133982 : Unit := ()
def PySem.W.Fast.tw8327967547898481892 : Unit := ()
def PySem.W.Fast.tw16885744668487107911 : Unit := ()
def PySem.W.Fast.tw11553393915771850886 : Unit := ()
def PySem.W.Fast.tw7879925865405669952 : Unit := ()
def PySem.W.Fast.tw15070496737482998681 : Unit := ()
def PySem.W.Fast.tw869844359867896164 : Unit := ()
def PySem.W.Fast.tw17933043537917834093 : Unit := ()
def PySem.W.Fast.tw1297585887057470295 : Unit := ()
def PySem.W.Fast.tw17328491207935026390 : Unit := ()
def PySem.W.Fast.tw10039423825358887719 : Unit := ()
def PySem.W.Fast.tw7550161790501913953 : Unit := ()
def PySem.W.Fast.tw10956014087932846000 : Unit := ()
def PySem.W.Fast.tw17990384483155718595 : Unit := ()
def PySem.W.Fast.tw16218250223127181694 : Unit := ()
def PySem.W.Fast.tw16280297130215513385 : Unit := ()
def PySem.W.Fast.tw17099410602281086830 : Unit := ()
def PySem.W.Fast.tw663056347084566350 : Unit := ()
def PySem.W.Fast.tw14702328968314965570 : Unit := ()
def PySem.W.Fast.tw14194980914243887378 : Unit := ()
def PySem.W.Fast.tw6141847156115478770 : Unit := ()
def PySem.W.Fast.tw13438726667475443465 : Unit := ()
def PySem.W.Fast.tw9260166559386388607 : Unit := ()
def PySem.W.Fast.tw8573079373547554234 : Unit := ()
def PySem.W.Fast.tw12017673401120079842 : Unit := ()
def PySem.W.Fast.tw2286748944371538124 : Unit := ()
def PySem.W.Fast.tw3331233306048476863 : Unit := ()
def PySem.W.Fast.tw1182480091658628334 : Unit := ()
def PySem.W.Fast.tw5867134985124573955 : Unit := ()
def PySem.W.Fast.tw7826736579392221477 : Unit := ()
def PySem.W.Fast.tw11425690070771080464 : Unit := ()
def PySem.W.Fast.tw1069822608537176275 : Unit := ()
def PySem.W.Fast.tw15925094110660393601 : Unit := ()
def PySem.W.Fast.tw3561901084451158419 : Unit := ()
def PySem.W.Fast.tw1916637368323594633 : Unit := ()
def PySem.W.Fast.tw5976260380533938949 : Unit := ()
def PySem.W.Fast.tw17894031513046079048 : Unit := ()
def PySem.W.Fast.tw16155641731363907698 : Unit := ()
def PySem.W.Fast.tw11885732643331375761 : Unit := ()
def PySem.W.Fast.tw7668126137878164259 : Unit := ()
def PySem.W.Fast.tw118506145749206542 : Unit := ()
def PySem.W.Fast.tw5314243649549404391 : Unit := ()
def PySem.W.Fast.tw7024312571245738159 : Unit := ()
def PySem.W.Fast.tw4018525476954117816 : Unit := ()
def PySem.W.Fast.tw8286571964645783515 : Unit := ()
def PySem.W.Fast.tw7177982371603431370 : Unit := ()
def PySem.W.Fast.tw10593970104979496173 : Unit := ()
def PySem.W.Fast.tw7180524515164111880 : Unit := ()
def PySem.W.Fast.tw12531685972280941189 : Unit := ()
def PySem.W.Fast.tw4197285546348743722 : Unit := ()
def PySem.W.Fast.tw6108491238634936318 : Unit := ()
def PySem.W.Fast.tw3803554618158854585 : Unit := ()
def PySem.W.Fast.tw18339542125548684578 : Unit := ()
def PySem.W.Fast.tw784668691820049154 : Unit := ()
def PySem.W.Fast.tw3562581465051535608 : Unit := ()
def PySem.W.Fast.tw9204027327018663325 : Unit := ()
def PySem.W.Fast.tw16171809061595704761 : Unit := ()
def PySem.W.Fast.tw17099783565032143658 : Unit := ()
def PySem.W.Fast.tw11256170500351500205 : Unit := ()
def PySem.W.Fast.tw12088482331107630886 : Unit := ()
def PySem.W.Fast.tw18265889028127626003 : Unit := ()
def PySem.W.Fast.tw6655213262196060879 : Unit := ()
def PySem.W.Fast.tw6787619017355958753 : Unit := ()
def PySem.W.Fast.tw9417463391508370990 : Unit := ()
def PySem.W.Fast.tw10995940466058005606 : Unit := ()
def PySem.W.Fast.tw14487697296222817077 : Unit := ()
def PySem.W.Fast.tw17948576009920072602 : Unit := ()
def PySem.W.Fast.tw9987960275108291253 : Unit := ()
def PySem.W.Fast.tw10903652838596343441 : Unit := ()
def PySem.W.Fast.tw1676348265849715878 : Unit := ()
def PySem.W.Fast.tw7532474741278019743 : Unit := ()
def PySem.W.Fast.tw14445372649326409089 : Unit := ()
def PySem.W.Fast.tw12474629742456444028 : Unit := ()
def PySem.W.Fast.tw7132721183034507220 : Unit := ()
def PySem.W.Fast.tw18160409085168567238 : Unit := ()
def PySem.W.Fast.tw10667182323484208494 : Unit := ()
def PySem.W.Fast.tw15855227286883973853 : Unit := ()
def PySem.W.Fast.tw12359068020498905806 : Unit := ()
def PySem.W.Fast.tw7253942320798114624 : Unit := ()
def PySem.W.Fast.tw11509262005581161405 : Unit := ()
def PySem.W.Fast.tw2419488683654623028 : Unit := ()
def PySem.W.Fast.tw12405924422024869039 : Unit := ()
def PySem.W.Fast.tw11058965974795111077 : Unit := ()
def PySem.W.Fast.tw14050181380214578422 : Unit := ()
def PySem.W.Fast.tw17765849329193400737 : Unit := ()
def PySem.W.Fast.tw17804304456633773250 : Unit := ()
def PySem.W.Fast.tw4142961690402600813 : Unit := ()
def PySem.W.Fast.tw7622155470046149107 : Unit := ()
def PySem.W.Fast.tw7453552464960286400 : Unit := ()
def PySem.W.Fast.tw13743367715154697675 : Unit := ()
def PySem.W.Fast.tw2276254879929725815 : Unit := ()
def PySem.W.Fast.tw18446148991606426532 : Unit := ()
def PySem.W.Fast.tw8424627269741343273 : Unit := ()
def PySem.W.Fast.tw2010870003492141020 : Unit := ()
def PySem.W.Fast.tw9608703895845829662 : Unit := ()
def PySem.W.Fast.tw8363537693675860475 : Unit := ()
def PySem.W.Fast.tw14542057684414159636 : Unit := ()
def PySem.W.Fast.tw4295534373070182718 : Unit := ()
def PySem.W.Fast.tw17839487856740501033 : Unit := ()
def PySem.W.Fast.tw3867261724526182637 : Unit := ()
def PySem.W.Fast.tw14890534514203506114 : Unit := ()
def PySem.W.Fast.tw16689792272465043248 : Unit := ()
def PySem.W.Fast.tw1232416248670078507 : Unit := ()
def PySem.W.Fast.tw10568029374581942951 : Unit := ()
def PySem.W.Fast.tw12022538576917713331 : Unit := ()
def PySem.W.Fast.tw15657294667306468075 : Unit := ()
def PySem.W.Fast.tw14838511741371920919 : Unit := ()
def PySem.W.Fast.tw4181914417948237659 : Unit := ()
def PySem.W.Fast.tw12512975869728745964 : Unit := ()
def PySem.W.Fast.tw14141461140080645941 : Unit := ()
def PySem.W.Fast.tw17593716237956437214 : Unit := ()
def PySem.W.Fast.tw12959325761710421925 : Unit := ()
def PySem.W.Fast.tw15040929440365775715 : Unit := ()
def PySem.W.Fast.tw13558849796526008334 : Unit := ()
def PySem.W.Fast.tw7081628926152728575 : Unit := ()
def PySem.W.Fast.tw4394488237286716105 : Unit := ()
def PySem.W.Fast.tw9110976494224262621 : Unit := ()
def PySem.W.Fast.tw10272323867742494089 : Unit := ()
def PySem.W.Fast.tw17105704650732296513 : Unit := ()
def PySem.W.Fast.tw8958879060236758389 : Unit := ()
def PySem.W.Fast.tw7298843236217397273 : Unit := ()
def PySem.W.Fast.tw18400892231297155428 : Unit := ()
def PySem.W.Fast.tw8549803248002865443 : Unit := ()
def PySem.W.Fast.tw6629404819632838168 : Unit := ()
def PySem.W.Fast.tw4672191228395891771 : Unit := ()
def PySem.W.Fast.tw18396034312752575778 : Unit := ()
def PySem.W.Fast.tw3824897269344264767 : Unit := ()
def PySem.W.Fast.tw9138420314150165295 : Unit := ()
def PySem.W.Fast.tw9654560543495634341 : Unit := ()
def PySem.W.Fast.tw16675358754177606365 : Unit := ()
def PySem.W.Fast.tw2588665690796227429 : Unit := ()
def PySem.W.Fast.tw9111249749936767343 : Unit := ()
def PySem.W.Fast.tw4983686434116868438 : Unit := ()
def PySem.W.Fast.tw17694369778077818035 : Unit := ()
def PySem.W.Fast.tw17626114826050223840 : Unit := ()
def PySem.W.Fast.tw3218161059329586306 : Unit := ()
def PySem.W.Fast.tw14129222487753986650 : Unit := ()
def PySem.W.Fast.tw17424315826624286285 : Unit := ()
def PySem.W.Fast.tw10276300794230948123 : Unit := ()
def PySem.W.Fast.tw17707927210049366484 : Unit := ()
def PySem.W.Fast.tw711793528888900086 : Unit := ()
def PySem.W.Fast.tw11756868942138720120 : Unit := ()
def PySem.W.Fast.tw12142900408098083121 : Unit := ()
def PySem.W.Fast.tw17445308307415094417 : Unit := ()
def PySem.W.Fast.tw2063192430678808379 : Unit := ()
def PySem.W.Fast.tw6850353678622356705 : Unit := ()
def PySem.W.Fast.tw12137324628896854513 : Unit := ()
def PySem.W.Fast.tw629090645693092979 : Unit := ()
def PySem.W.Fast.tw524051419876010391 : Unit := ()
def PySem.W.Fast.tw15636300574696720184 : Unit := ()
def PySem.W.Fast.tw3421647150944345367 : Unit := ()
def PySem.W.Fast.tw16474137225406133060 : Unit := ()
def PySem.W.Fast.tw14026452134563443095 : Unit := ()
def PySem.W.Fast.tw14665494891986055275 : Unit := ()
def PySem.W.Fast.tw15054839905019078634 : Unit := ()
def PySem.W.Fast.tw10965572622602406760 : Unit := ()
def PySem.W.Fast.tw17559642907006619355 : Unit := ()
def PySem.W.Fast.tw15614266394295787925 : Unit := ()
def PySem.W.Fast.tw2939059284083517702 : Unit := ()
def PySem.W.Fast.tw565339541484882994 : Unit := ()
def PySem.W.Fast.tw13570263782000161860 : Unit := ()
def PySem.W.Fast.tw3535934481053204724 : Unit := ()
def PySem.W.Fast.tw17238133259877348678 : Unit := ()
def PySem.W.Fast.tw16130758621663096314 : Unit := ()
def PySem.W.Fast.tw10861045472990899692 : Unit := ()
def PySem.W.Fast.tw6585017185098846361 : Unit := ()
def PySem.W.Fast.tw11209685566629877724 : Unit := ()
def PySem.W.Fast.tw17155917432198482833 : Unit := ()
def PySem.W.Fast.tw4173067671028124848 : Unit := ()
def PySem.W.Fast.tw9003031712283114324 : Unit := ()
def PySem.W.Fast.tw14357208718058408661 : Unit := ()
def PySem.W.Fast.tw5638433418035465655 : Unit := ()
def PySem.W.Fast.tw2135757053330984000 : Unit := ()
def PySem.W.Fast.tw8434083859806083720 : Unit := ()
def PySem.W.Fast.tw14007065818236264253 : Unit := ()
def PySem.W.Fast.tw15875342682252514755 : Unit := ()
def PySem.W.Fast.tw9750382044593996860 : Unit := ()
def PySem.W.Fast.tw5652329470654096798 : Unit := ()
def PySem.W.Fast.tw4223463249593049688 : Unit := ()
def PySem.W.Fast.tw8868695717520442770 : Unit := ()
def PySem.W.Fast.tw8100038821381801409 : Unit := ()
def PySem.W.Fast.tw14234527325240048547 : Unit := ()
def PySem.W.Fast.tw16920551616719963599 : Unit := ()
def PySem.W.Fast.tw17771130891034363376 : Unit := ()
def PySem.W.Fast.tw1628968692872326564 : Unit := ()
def PySem.W.Fast.tw8324733579549449833 : Unit := ()
def PySem.W.Fast.tw16672674123230860064 : Unit := ()
def PySem.W.Fast.tw5657556046075660888 : Unit := ()
def PySem.W.Fast.tw1504845786353308846 : Unit := ()
def PySem.W.Fast.tw6379658003794507651 : Unit := ()
def PySem.W.Fast.tw12604937290222948791 : Unit := ()
def PySem.W.Fast.tw16951847448052610979 : Unit := ()
def PySem.W.Fast.tw8663326223171175102 : Unit := ()
def PySem.W.Fast.tw18343444132832010617 : Unit := ()
def PySem.W.Fast.tw8617045409106032831 : Unit := ()
def PySem.W.Fast.tw2087519838427076135 : Unit := ()
def PySem.W.Fast.tw11022461169078882394 : Unit := ()
def PySem.W.Fast.tw9144753095952731297 : Unit := ()
def PySem.W.Fast.tw17154982816987807402 : Unit := ()
def PySem.W.Fast.tw16170995778652805624 : Unit := ()
def PySem.W.Fast.tw7510640649963117896 : Unit := ()
def PySem.W.Fast.tw14139476680520110958 : Unit := ()
def PySem.W.Fast.tw14998661010724609664 : Unit := ()
def PySem.W.Fast.tw18158634405824282867 : Unit := ()
def PySem.W.Fast.tw10062143180046691469 : Unit := ()
def PySem.W.Fast.tw15195859879859480191 : Unit := ()
def PySem.W.Fast.tw16952630457792987634 : Unit := ()
def PySem.W.Fast.tw15295888969142015347 : Unit := ()
def PySem.W.Fast.tw5255909567695567623 : Unit := ()
def PySem.W.Fast.tw5749291453190243821 : Unit := ()
def PySem.W.Fast.tw14419490441912162035 : Unit := ()
def PySem.W.Fast.tw12808758871688362187 : Unit := ()
def PySem.W.Fast.tw4666151645345094971 : Unit := ()
def PySem.W.Fast.tw14297861135721504659 : Unit := ()
def PySem.W.Fast.tw2375949658096371552 : Unit := ()
def PySem.W.Fast.tw2291884698370009623 : Unit := ()
def PySem.W.Fast.tw11479731825419150241 : Unit := ()
def PySem.W.Fast.tw2711584292858365621 : Unit := ()
def PySem.W.Fast.tw5630182454048636994 : Unit := ()
def PySem.W.Fast.tw1728722739219088453 : Unit := ()
def PySem.W.Fast.tw17866460083359505029 : Unit := ()
def PySem.W.Fast.tw2123071337693987055 : Unit := ()
def PySem.W.Fast.tw2772286217446304544 : Unit := ()
def PySem.W.Fast.tw10959132776079708567 : Unit := ()
def PySem.W.Fast.tw12407503139958823731 : Unit := ()
def PySem.W.Fast.tw16740310208703200273 : Unit := ()
def PySem.W.Fast.tw1622083195162196806 : Unit := ()
def PySem.W.Fast.tw5125589637288666452 : Unit := ()
def PySem.W.Fast.tw14884855282241615629 : Unit := ()
def PySem.W.Fast.tw14449962102002053537 : Unit := ()
def PySem.W.Fast.tw15861779603394415842 : Unit := ()
def PySem.W.Fast.tw7714994539937598 : Unit := ()
def PySem.W.Fast.tw16728407339156970941 : Unit := ()
def PySem.W.Fast.tw15525500767353240920 : Unit := ()
def PySem.W.Fast.tw9260823813575758444 : Unit := ()
def PySem.W.Fast.tw16904853337029307833 : Unit := ()
def PySem.W.Fast.tw4424409739177521081 : Unit := ()
def PySem.W.Fast.tw5908024998963570544 : Unit := ()
def PySem.W.Fast.tw11442067789469364545 : Unit := ()
def PySem.W.Fast.tw225061219335615820 : Unit := ()
def PySem.W.Fast.tw7623256707645051651 : Unit := ()
def PySem.W.Fast.tw5087743702416430890 : Unit := ()
def PySem.W.Fast.tw15610696951727287995 : Unit := ()
def PySem.W.Fast.tw11300038734918192638 : Unit := ()
def PySem.W.Fast.tw140880061947220215 : Unit := ()
def PySem.W.Fast.tw9946374037830248510 : Unit := ()
def PySem.W.Fast.tw28979404362486367 : Unit := ()
def PySem.W.Fast.tw18022896970934053641 : Unit := ()
def PySem.W.Fast.tw12893623782515283412 : Unit := ()
def PySem.W.Fast.tw9652095800459726257 : Unit := ()
def PySem.W.Fast.tw3279082332442408967 : Unit := ()
def PySem.W.Fast.tw9616468831078996033 : Unit := ()
def PySem.W.Fast.tw6806783124344380846 : Unit := ()
def PySem.W.Fast.tw17673607151387029806 : Unit := ()
def PySem.W.Fast.tw4811902990026828479 : Unit := ()
def PySem.W.Fast.tw6170706243429378943 : Unit := ()
def PySem.W.Fast.tw16302386195562104228 : Unit := ()
def PySem.W.Fast.tw2167851819430891272 : Unit := ()
def PySem.W.Fast.tw11985361834746946162 : Unit := ()
def PySem.W.Fast.tw16808375575772406686 : Unit := ()
def PySem.W.Fast.tw835931160893724143 : Unit := ()
def PySem.W.Fast.tw9672064746894346350 : Unit := ()
def PySem.W.Fast.tw14720779259043536818 : Unit := ()
def PySem.W.Fast.tw3555641683326137471 : Unit := ()
def PySem.W.Fast.tw11229996155064874273 : Unit := ()
def PySem.W.Fast.tw6692336582745044927 : Unit := ()
def PySem.W.Fast.tw9196865586901923540 : Unit := ()
def PySem.W.Fast.tw10404790255423704466 : Unit := ()
def PySem.W.Fast.tw12385702375882693357 : Unit := ()
def PySem.W.Fast.tw6741428211458763240 : Unit := ()
def PySem.W.Fast.tw12851990138816151685 : Unit := ()
def PySem.W.Fast.tw11401634622725083742 : Unit := ()
def PySem.W.Fast.tw11062436112610867904 : Unit := ()
def PySem.W.Fast.tw8865108877764749162 : Unit := ()
def PySem.W.Fast.tw3964393686354543752 : Unit := ()
def PySem.W.Fast.tw11797733047545091147 : Unit := ()
def PySem.W.Fast.tw5349317453029589371 : Unit := ()
def PySem.W.Fast.tw17762891342474238463 : Unit := ()
def PySem.W.Fast.tw15052403891316405659 : Unit := ()
def PySem.W.Fast.tw17629884479037147731 : Unit := ()
def PySem.W.Fast.tw898195793043092048 : Unit := ()
def PySem.W.Fast.tw4364710939059634312 : Unit := ()
def PySem.W.Fast.tw12718303132512430457 : Unit := ()
def PySem.W.Fast.tw10073344600133618286 : Unit := ()
def PySem.W.Fast.tw203614288641833831 : Unit := ()
def PySem.W.Fast.tw10002211028287096736 : Unit := ()
def PySem.W.Fast.tw6155147788419718891 : Unit := ()
def PySem.W.Fast.tw13522112951608390077 : Unit := ()
def PySem.W.Fast.tw14873576776218538385 : Unit := ()
def PySem.W.Fast.tw7517424167177042554 : Unit := ()
def PySem.W.Fast.tw9940273039990150193 : Unit := ()
def PySem.W.Fast.tw7897645714882430034 : Unit := ()
def PySem.W.Fast.tw1524656854333545513 : Unit := ()
def PySem.W.Fast.tw6579368324312780950 : Unit := ()
def PySem.W.Fast.tw16752679725040453061 : Unit := ()
def PySem.W.Fast.tw2789657264755421345 : Unit := ()
def PySem.W.Fast.tw3265444766549574628 : Unit := ()
def PySem.W.Fast.tw3844776919768435174 : Unit := ()
def PySem.W.Fast.tw17140607644431768667 : Unit := ()
def PySem.W.Fast.tw10881759673389332393 : Unit := ()
def PySem.W.Fast.tw8557613514888584131 : Unit := ()
def PySem.W.Fast.tw16373049946481379532 : Unit := ()
def PySem.W.Fast.tw93508422217137538 : Unit := ()
def PySem.W.Fast.tw7639749972275826060 : Unit := ()
def PySem.W.Fast.tw8793655067755266977 : Unit := ()
def PySem.W.Fast.tw12784140421802713835 : Unit := ()
def PySem.W.Fast.tw11380355946429718402 : Unit := ()
def PySem.W.Fast.tw6273778424767224524 : Unit := ()
def PySem.W.Fast.tw6409072412703364080 : Unit := ()
def PySem.W.Fast.tw9766544081340266056 : Unit := ()
def PySem.W.Fast.tw7904415588155237569 : Unit := ()
def PySem.W.Fast.tw7286721416536153854 : Unit := ()
def PySem.W.Fast.tw10654176503206640880 : Unit := ()
def PySem.W.Fast.tw7891797650430429502 : Unit := ()
def PySem.W.Fast.tw15037404891142522966 : Unit := ()
def PySem.W.Fast.tw13525487197949878729 : Unit := ()
def PySem.W.Fast.tw11578099031829796554 : Unit := ()
def PySem.W.Fast.tw9874607602808000313 : Unit := ()
def PySem.W.Fast.tw1751279016440056565 : Unit := ()
def PySem.W.Fast.tw2690009833139029473 : Unit := ()
def PySem.W.Fast.tw11777138267445406165 : Unit := ()
def PySem.W.Fast.tw5133126373630161633 : Unit := ()
def PySem.W.Fast.tw11431080431611718427 : Unit := ()
def PySem.W.Fast.tw7422263733887285774 : Unit := ()
def PySem.W.Fast.tw1082310554357765103 : Unit := ()
def PySem.W.Fast.tw15963792765520457580 : Unit := ()
def PySem.W.Fast.tw3103950665846551722 : Unit := ()
def PySem.W.Fast.tw10773297010456219542 : Unit := ()
def PySem.W.Fast.tw11306066546756814794 : Unit := ()
def PySem.W.Fast.tw153092519757295188 : Unit := ()
def PySem.W.Fast.tw18216929961923639436 : Unit := ()
def PySem.W.Fast.tw13628879229347016993 : Unit := ()
def PySem.W.Fast.tw5550494898076882810 : Unit := ()
def PySem.W.Fast.tw3233095193083341033 : Unit := ()
def PySem.W.Fast.tw13318813013489408938 : Unit := ()
def PySem.W.Fast.tw6397571764613082606 : Unit := ()
def PySem.W.Fast.tw18268056218202105333 : Unit := ()
def PySem.W.Fast.tw9207140012378236814 : Unit := ()
def PySem.W.Fast.tw10896231378940469963 : Unit := ()
def PySem.W.Fast.tw13656431495281411124 : Unit := ()
def PySem.W.Fast.tw11235220870755219058 : Unit := ()
def PySem.W.Fast.tw6721368092468750281 : Unit := ()
def PySem.W.Fast.tw11029855811277383892 : Unit := ()
def PySem.W.Fast.tw370902343035289835 : Unit := ()
def PySem.W.Fast.tw16708043942203512656 : Unit := ()
def PySem.W.Fast.tw979175737740782591 : Unit := ()
def PySem.W.Fast.tw14574912068987666031 : Unit := ()
def PySem.W.Fast.tw5065521433114693941 : Unit := ()
def PySem.W.Fast.tw16478447434344452214 : Unit := ()
def PySem.W.Fast.tw4914514448835291195 : Unit := ()
def PySem.W.Fast.tw2664106335890074164 : Unit := ()
def PySem.W.Fast.tw7643992853773975082 : Unit := ()
def PySem.W.Fast.tw9684598303356310110 : Unit := ()
def PySem.W.Fast.tw16993660823437956646 : Unit := ()
def PySem.W.Fast.tw15696894152453298805 : Unit := ()
def PySem.W.Fast.tw15438967102426256516 : Unit := ()
def PySem.W.Fast.tw10264486792533585546 : Unit := ()
def PySem.W.Fast.tw8102108895743687687 : Unit := ()
def PySem.W.Fast.tw13443575084116649815 : Unit := ()
def PySem.W.Fast.tw8306188485532164986 : Unit := ()
def PySem.W.Fast.tw15661987804443595126 : Unit := ()
def PySem.W.Fast.tw9211735244929770083 : Unit := ()
def PySem.W.Fast.tw12251055907565215808 : Unit := ()
def PySem.W.Fast.tw108026224390310093 : Unit := ()
def PySem.W.Fast.tw11378420835687683384 : Unit := ()
def PySem.W.Fast.tw5336118439955037705 : Unit := ()
def PySem.W.Fast.tw16941595604219769407 : Unit := ()
def PySem.W.Fast.tw13390043091530984568 : Unit := ()
def PySem.W.Fast.tw16013189737372617434 : Unit := ()
def PySem.W.Fast.tw12823362900517274513 : Unit := ()
def PySem.W.Fast.tw7331342684829738549 : Unit := ()
def PySem.W.Fast.tw13241556368534842321 : Unit := ()
def PySem.W.Fast.tw13016477976690257681 : Unit := ()
def PySem.W.Fast.tw4296943304531383538 : Unit := ()
def PySem.W.Fast.tw10221633447625012538 : Unit := ()
def PySem.W.Fast.tw3441820661712621417 : Unit := ()
def PySem.W.Fast.tw4171705394983836881 : Unit := ()
def PySem.W.Fast.tw4222650975681050392 : Unit := ()
def PySem.W.Fast.tw1112799311213922228 : Unit := ()
def PySem.W.Fast.tw17000760635751755347 : Unit := ()
def PySem.W.Fast.tw13505611006767192573 : Unit := ()
def PySem.W.Fast.tw17910650963566972352 : Unit := ()
def PySem.W.Fast.tw17224515858831590035 : Unit := ()
def PySem.W.Fast.tw854331395105012963 : Unit := ()
def PySem.W.Fast.tw4078494470598655146 : Unit := ()
def PySem.W.Fast.tw8060982331455891352 : Unit := ()
def PySem.W.Fast.tw10865485193779438827 : Unit := ()
def PySem.W.Fast.tw1112511232456568551 : Unit := ()
def PySem.W.Fast.tw6960238804566310876 : Unit := ()
def PySem.W.Fast.tw7289809549552428688 : Unit := ()
def PySem.W.Fast.tw726140951438495609 : Unit := ()
def PySem.W.Fast.tw818783275667382530 : Unit := ()
def PySem.W.Fast.tw12539245553837551675 : Unit := ()
def PySem.W.Fast.tw7279719009097612559 : Unit := ()
def PySem.W.Fast.tw16722891039108031172 : Unit := ()
def PySem.W.Fast.tw5613633395477125964 : Unit := ()
def PySem.W.Fast.tw17778280018561335636 : Unit := ()
def PySem.W.Fast.tw7776214969939051715 : Unit := ()
def PySem.W.Fast.tw16185224573907361211 : Unit := ()
def PySem.W.Fast.tw7024691167912525370 : Unit := ()
def PySem.W.Fast.tw13215262546977006309 : Unit := ()
def PySem.W.Fast.tw2847712368624402069 : Unit := ()
def PySem.W.Fast.tw5227862373143604867 : Unit := ()
def PySem.W.Fast.tw5563876508245446085 : Unit := ()
def PySem.W.Fast.tw5976781694658923272 : Unit := ()
def PySem.W.Fast.tw13721803215645368610 : Unit := ()
def PySem.W.Fast.tw14109988813092466960 : Unit := ()
def PySem.W.Fast.tw10448654106139808337 : Unit := ()
def PySem.W.Fast.tw16474701069429875807 : Unit := ()
def PySem.W.Fast.tw2078273188087084575 : Unit := ()
def PySem.W.Fast.tw5384076923549968333 : Unit := ()
def PySem.W.Fast.tw10402364353230932901 : Unit := ()
def PySem.W.Fast.tw9914523373051124519 : Unit := ()
def PySem.W.Fast.tw7403738423230775945 : Unit := ()
def PySem.W.Fast.tw12485600494324909457 : Unit := ()
def PySem.W.Fast.tw1419688567323264721 : Unit := ()
def PySem.W.Fast.tw2539201206612580045 : Unit := ()
def PySem.W.Fast.tw6735856695684561177 : Unit := ()
def PySem.W.Fast.tw13961938175764963151 : Unit := ()
def PySem.W.Fast.tw4689296631163194987 : Unit := ()
def PySem.W.Fast.tw16816360377899405094 : Unit := ()
def PySem.W.Fast.tw17528182840144903586 : Unit := ()
def PySem.W.Fast.tw16714076435955926099 : Unit := ()
def PySem.W.Fast.tw17541175037050520381 : Unit := ()
def PySem.W.Fast.tw699060202814938600 : Unit := ()
def PySem.W.Fast.tw5334576391281767333 : Unit := ()
def PySem.W.Fast.tw15579381786254269049 : Unit := ()
def PySem.W.Fast.tw9166516835894552456 : Unit := ()
def PySem.W.Fast.tw9435087807628467727 : Unit := ()
def PySem.W.Fast.tw1539939412789918462 : Unit := ()
def PySem.W.Fast.tw11243036323845423697 : Unit := ()
def PySem.W.Fast.tw14721852870060915217 : Unit := ()
def PySem.W.Fast.tw15441316942125286502 : Unit := ()
def PySem.W.Fast.tw9296569362204264313 : Unit := ()
def PySem.W.Fast.tw12637333534655713090 : Unit := ()
def PySem.W.Fast.tw4343897775755193252 : Unit := ()
def PySem.W.Fast.tw14600126501208447986 : Unit := ()
def PySem.W.Fast.tw766881036788545276 : Unit := ()
def PySem.W.Fast.tw7429765628996754789 : Unit := ()
def PySem.W.Fast.tw16300210300935341982 : Unit := ()
def PySem.W.Fast.tw10291468506871437473 : Unit := ()
def PySem.W.Fast.tw5145408082705052777 : Unit := ()
def PySem.W.Fast.tw3846442112351538584 : Unit := ()
def PySem.W.Fast.tw3952311120880772463 : Unit := ()
def PySem.W.Fast.tw13683208862044400470 : Unit := ()
def PySem.W.Fast.tw15638795682327668258 : Unit := ()
def PySem.W.Fast.tw11601496899176025347 : Unit := ()
def PySem.W.Fast.tw2530725941829750737 : Unit := ()
def PySem.W.Fast.tw16155231271882741060 : Unit := ()
def PySem.W.Fast.tw7586799120662821125 : Unit := ()
def PySem.W.Fast.tw7851225753762646168 : Unit := ()
def PySem.W.Fast.tw15824634159254764656 : Unit := ()
def PySem.W.Fast.tw1240352666513985009 : Unit := ()
def PySem.W.Fast.tw10345679563169944224 : Unit := ()
def PySem.W.Fast.tw6665170159287189269 : Unit := ()
def PySem.W.Fast.tw9309065670849620540 : Unit := ()
def PySem.W.Fast.tw1074948228813438721 : Unit := ()
def PySem.W.Fast.tw5989662645791445146 : Unit := ()
def PySem.W.Fast.tw6031118531588919011 : Unit := ()
def PySem.W.Fast.tw760063627485654916 : Unit := ()
def PySem.W.Fast.tw16123663872089097046 : Unit := ()
def PySem.W.Fast.tw3229970388832441937 : Unit := ()
def PySem.W.Fast.tw55555458145915226 : Unit := ()
def PySem.W.Fast.tw52678292971491158 : Unit := ()
def PySem.W.Fast.tw17503088980680021999 : Unit := ()
def PySem.W.Fast.tw7692027259603248729 : Unit := ()
def PySem.W.Fast.tw1797170322697513860 : Unit := ()
def PySem.W.Fast.tw10852992363769355432 : Unit := ()
def PySem.W.Fast.tw9392139076502157886 : Unit := ()
def PySem.W.Fast.tw11305073661687177292 : Unit := ()
def PySem.W.Fast.tw13328279580854204486 : Unit := ()
def PySem.W.Fast.tw17555325185926867821 : Unit := ()
def PySem.W.Fast.tw10483748296913376030 : Unit := ()
def PySem.W.Fast.tw1599035089460486036 : Unit := ()
def PySem.W.Fast.tw7881746832273065264 : Unit := ()
def PySem.W.Fast.tw17271678790320750153 : Unit := ()
def PySem.W.Fast.tw3227984372384748551 : Unit := ()
def PySem.W.Fast.tw5279485831528139883 : Unit := ()
def PySem.W.Fast.tw8309437427344742259 : Unit := ()
def PySem.W.Fast.tw4259319530383519275 : Unit := ()
def PySem.W.Fast.tw14661170558233727378 : Unit := ()
def PySem.W.Fast.tw849303217231349576 : Unit := ()
def PySem.W.Fast.tw4782746390085460730 : Unit := ()
def PySem.W.Fast.tw14054620011832886501 : Unit := ()
def PySem.W.Fast.tw7663681686755965505 : Unit := ()
def PySem.W.Fast.tw13758585780555146978 : Unit := ()
def PySem.W.Fast.tw6384945860946441256 : Unit := ()
def PySem.W.Fast.tw6519006719789276458 : Unit := ()
def PySem.W.Fast.tw4366859160352348068 : Unit := ()
def PySem.W.Fast.tw16461083469033824798 : Unit := ()
def PySem.W.Fast.tw3974359875455633112 : Unit := ()
def PySem.W.Fast.tw14971013701722696004 : Unit := ()
def PySem.W.Fast.tw11458969214893730419 : Unit := ()
def PySem.W.Fast.tw1409837734039163666 : Unit := ()
def PySem.W.Fast.tw5282574737697554343 : Unit := ()
def PySem.W.Fast.tw2049064588925808257 : Unit := ()
def PySem.W.Fast.tw16030042728744296238 : Unit := ()
def PySem.W.Fast.tw13277619519091757472 : Unit := ()
def PySem.W.Fast.tw11413243744385046493 : Unit := ()
def PySem.W.Fast.tw8754862499556720927 : Unit := ()
def PySem.W.Fast.tw15330689576372305372 : Unit := ()
def PySem.W.Fast.tw931042909765594930 : Unit := ()
def PySem.W.Fast.tw1041198619767749827 : Unit := ()
def PySem.W.Fast.tw10319449438230448911 : Unit := ()
def PySem.W.Fast.tw14146154184220677716 : Unit := ()
def PySem.W.Fast.tw4189099073833397941 : Unit := ()
def PySem.W.Fast.tw5537403032068391633 : Unit := ()
def PySem.W.Fast.tw14656953364303652111 : Unit := ()
def PySem.W.Fast.tw6657646277835851201 : Unit := ()
def PySem.W.Fast.tw10940367159772388686 : Unit := ()
def PySem.W.Fast.tw14963600543030634161 : Unit := ()
def PySem.W.Fast.tw878265763645338558 : Unit := ()
def PySem.W.Fast.tw14042738368313191878 : Unit := ()
def PySem.W.Fast.tw3819289916909535321 : Unit := ()
def PySem.W.Fast.tw11195104769886666903 : Unit := ()
def PySem.W.Fast.tw9715874433343918614 : Unit := ()
def PySem.W.Fast.tw8223931326281394020 : Unit := ()
def PySem.W.Fast.tw11238849848627032312 : Unit := ()
def PySem.W.Fast.tw6074254041898980918 : Unit := ()
def PySem.W.Fast.tw808699424964082889 : Unit := ()
def PySem.W.Fast.tw13392055653021579287 : Unit := ()
def PySem.W.Fast.tw16329847206210956656 : Unit := ()
def PySem.W.Fast.tw8873763536822671720 : Unit := ()
def PySem.W.Fast.tw14829396332961657428 : Unit := ()
def PySem.W.Fast.tw8100937737428062533 : Unit := ()
def PySem.W.Fast.tw13815823022909835982 : Unit := ()
def PySem.W.Fast.tw4854033864173187878 : Unit := ()
def PySem.W.Fast.tw15788503422441156500 : Unit := ()
def PySem.W.Fast.tw5106907104697528412 : Unit := ()
def PySem.W.Fast.tw10355350568360866603 : Unit := ()
def PySem.W.Fast.tw9456925228011124036 : Unit := ()
def PySem.W.Fast.tw18225797282569767033 : Unit := ()
def PySem.W.Fast.tw15509384407622247180 : Unit := ()
def PySem.W.Fast.tw14643235671944802136 : Unit := ()
def PySem.W.Fast.tw454044010401231190 : Unit := ()
def PySem.W.Fast.tw9862011867586991709 : Unit := ()
def PySem.W.Fast.tw9868909907878617639 : Unit := ()
def PySem.W.Fast.tw17611081570207989154 : Unit := ()
def PySem.W.Fast.tw2832145206552037373 : Unit := ()
def PySem.W.Fast.tw4976769674533004003 : Unit := ()
def PySem.W.Fast.tw3644641440036280403 : Unit := ()
def PySem.W.Fast.tw12926471563324397843 : Unit := ()
def PySem.W.Fast.tw7711171596898847513 : Unit := ()
def PySem.W.Fast.tw11711259776247942345 : Unit := ()
def PySem.W.Fast.tw3679935883897819972 : Unit := ()
def PySem.W.Fast.tw14383661309501411405 : Unit := ()
def PySem.W.Fast.tw5246629059910301577 : Unit := ()
def PySem.W.Fast.tw17853254007047262257 : Unit := ()
def PySem.W.Fast.tw12589053648587269316 : Unit := ()
def PySem.W.Fast.tw9664892897134141694 : Unit := ()
def PySem.W.Fast.tw5119805778598878472 : Unit := ()
def PySem.W.Fast.tw3338901536085828984 : Unit := ()
def PySem.W.Fast.tw8001930022225592386 : Unit := ()
def PySem.W.Fast.tw16038253780568365265 : Unit := ()
def PySem.W.Fast.tw10218598790432968565 : Unit := ()
def PySem.W.Fast.tw2391347294116997991 : Unit := ()
def PySem.W.Fast.tw6099853566069411550 : Unit := ()
def PySem.W.Fast.tw804496924687022641 : Unit := ()
def PySem.W.Fast.tw15475102968198428729 : Unit := ()
def PySem.W.Fast.tw6072812243951158408 : Unit := ()
def PySem.W.Fast.tw13345861734574725858 : Unit := ()
def PySem.W.Fast.tw1859655047657936585 : Unit := ()
def PySem.W.Fast.tw3907906438016877957 : Unit := ()
def PySem.W.Fast.tw17357452946378713613 : Unit := ()
def PySem.W.Fast.tw5004435688272123268 : Unit := ()
def PySem.W.Fast.tw8784204801304800427 : Unit := ()
def PySem.W.Fast.tw13544589608941581199 : Unit := ()
def PySem.W.Fast.tw10845072748411178427 : Unit := ()
def PySem.W.Fast.tw2751598676954991174 : Unit := ()
def PySem.W.Fast.tw14366712329642402218 : Unit := ()
def PySem.W.Fast.tw5572373409953968042 : Unit := ()
def PySem.W.Fast.tw9923054186088232760 : Unit := ()
def PySem.W.Fast.tw14688768846122286151 : Unit := ()
def PySem.W.Fast.tw13304960531650550025 : Unit := ()
def PySem.W.Fast.tw13732125508891813092 : Unit := ()
def PySem.W.Fast.tw11306911422008903159 : Unit := ()
def PySem.W.Fast.tw14925172225417156013 : Unit := ()
def PySem.W.Fast.tw12724797283568407858 : Unit := ()
def PySem.W.Fast.tw6502185850569090342 : Unit := ()
def PySem.W.Fast.tw4893673576254597242 : Unit := ()
def PySem.W.Fast.tw10226744092634484773 : Unit := ()
def PySem.W.Fast.tw7529832820265531826 : Unit := ()
def PySem.W.Fast.tw6985480089974782373 : Unit := ()
def PySem.W.Fast.tw5569725082900077228 : Unit := ()
def PySem.W.Fast.tw11955412558296457106 : Unit := ()
def PySem.W.Fast.tw13025950944800644019 : Unit := ()
def PySem.W.Fast.tw3839467393470851150 : Unit := ()
def PySem.W.Fast.tw4999195977429646086 : Unit := ()
def PySem.W.Fast.tw18314309129475705291 : Unit := ()
def PySem.W.Fast.tw12883612609787981900 : Unit := ()
def PySem.W.Fast.tw9804997662679241713 : Unit := ()
def PySem.W.Fast.tw6394716610815192935 : Unit := ()
def PySem.W.Fast.tw10627261089323663695 : Unit := ()
def PySem.W.Fast.tw2707363874657305541 : Unit := ()
def PySem.W.Fast.tw9405983217626548910 : Unit := ()
def PySem.W.Fast.tw9187845601015415540 : Unit := ()
def PySem.W.Fast.tw1245097551068156330 : Unit := ()
def PySem.W.Fast.tw5622194431297630859 : Unit := ()
def PySem.W.Fast.tw11896169630577595602 : Unit := ()
def PySem.W.Fast.tw12131253812115146628 : Unit := ()
def PySem.W.Fast.tw3580700409114740370 : Unit := ()
def PySem.W.Fast.tw10936462447767496026 : Unit := ()
def PySem.W.Fast.tw1815951096689353063 : Unit := ()
def PySem.W.Fast.tw9606854351717310305 : Unit := ()
def PySem.W.Fast.tw12130315777791442458 : Unit := ()
def PySem.W.Fast.tw16193994813531923460 : Unit := ()
def PySem.W.Fast.tw4951942514878260668 : Unit := ()
def PySem.W.Fast.tw11253715202812849568 : Unit := ()
def PySem.W.Fast.tw3877485912141569909 : Unit := ()
def PySem.W.Fast.tw15161992406088927405 : Unit := ()
def PySem.W.Fast.tw7880088092135014692 : Unit := ()
def PySem.W.Fast.tw11431151810099686382 : Unit := ()
def PySem.W.Fast.tw10641375995183333888 : Unit := ()
def PySem.W.Fast.tw4787716970576386362 : Unit := ()
def PySem.W.Fast.tw12689695033501997370 : Unit := ()
def PySem.W.Fast.tw17865808611681122479 : Unit := ()
def PySem.W.Fast.tw15461009888860435427 : Unit := ()
def PySem.W.Fast.tw3776774286369935039 : Unit := ()
def PySem.W.Fast.tw13613062621898182667 : Unit := ()
def PySem.W.Fast.tw4567219180667831360 : Unit := ()
def PySem.W.Fast.tw406881087318262137 : Unit := ()
def PySem.W.Fast.tw5848369919521807530 : Unit := ()
def PySem.W.Fast.tw2315849916630241045 : Unit := ()
def PySem.W.Fast.tw14433866981268808503 : Unit := ()
def PySem.W.Fast.tw6382732132075012150 : Unit := ()
def PySem.W.Fast.tw11356095181786136220 : Unit := ()
def PySem.W.Fast.tw10993734859127732322 : Unit := ()
def PySem.W.Fast.tw8096681266687088670 : Unit := ()
def PySem.W.Fast.tw14829740247069063955 : Unit := ()
def PySem.W.Fast.tw3507268404142714262 : Unit := ()
def PySem.W.Fast.tw11015750309366021623 : Unit := ()
def PySem.W.Fast.tw17111026727031984657 : Unit := ()
def PySem.W.Fast.tw11861985356318840904 : Unit := ()
def PySem.W.Fast.tw14380773146755721618 : Unit := ()
def PySem.W.Fast.tw17526204482075585665 : Unit := ()
def PySem.W.Fast.tw6438651274360238992 : Unit := ()
def PySem.W.Fast.tw4707461680930394352 : Unit := ()
def PySem.W.Fast.tw14307098242771430214 : Unit := ()
def PySem.W.Fast.tw13619682933141652898 : Unit := ()
def PySem.W.Fast.tw10260097195889763407 : Unit := ()
def PySem.W.Fast.tw2546403516987195479 : Unit := ()
def PySem.W.Fast.tw14150707539295355296 : Unit := ()
def PySem.W.Fast.tw6856305202631828430 : Unit := ()
def PySem.W.Fast.tw10167546592811594975 : Unit := ()
def PySem.W.Fast.tw10863416808346049924 : Unit := ()
def PySem.W.Fast.tw15760865982454681827 : Unit := ()
def PySem.W.Fast.tw11392534449746088059 : Unit := ()
def PySem.W.Fast.tw15836387902375269111 : Unit := ()
def PySem.W.Fast.tw1774172242018125519 : Unit := ()
def PySem.W.Fast.tw15169463001745168332 : Unit := ()
def PySem.W.Fast.tw8388255738177100784 : Unit := ()
def PySem.W.Fast.tw13669250342607371207 : Unit := ()
def PySem.W.Fast.tw7853374016392205805 : Unit := ()
def PySem.W.Fast.tw17308142517660919558 : Unit := ()
def PySem.W.Fast.tw4458643767830723063 : Unit := ()
def PySem.W.Fast.tw14248025474419201742 : Unit := ()
def PySem.W.Fast.tw1251701778393609578 : Unit := ()
def PySem.W.Fast.tw1474057999246356621 : Unit := ()
def PySem.W.Fast.tw13288474845880698145 : Unit := ()
def PySem.W.Fast.tw3633743351456474272 : Unit := ()
def PySem.W.Fast.tw4806323695943196935 : Unit := ()
def PySem.W.Fast.tw13510892251994031212 : Unit := ()
def PySem.W.Fast.tw5532205492599490338 : Unit := ()
def PySem.W.Fast.tw5474080470531370232 : Unit := ()
def PySem.W.Fast.tw17763801930934591992 : Unit := ()
def PySem.W.Fast.tw16631523396922226182 : Unit := ()
def PySem.W.Fast.tw12210765635744157198 : Unit := ()
def PySem.W.Fast.tw15280957672247807524 : Unit := ()
def PySem.W.Fast.tw15896161947983853697 : Unit := ()
def PySem.W.Fast.tw6955640333075254660 : Unit := ()
def PySem.W.Fast.tw12097991511939089002 : Unit := ()
def PySem.W.Fast.tw8797666845146941129 : Unit := ()
def PySem.W.Fast.tw15977253373968651091 : Unit := ()
def PySem.W.Fast.tw14593653897183225677 : Unit := ()
def PySem.W.Fast.tw17576610335289465882 : Unit := ()
def PySem.W.Fast.tw1613786832061110316 : Unit := ()
def PySem.W.Fast.tw9624722225356836423 : Unit := ()
def PySem.W.Fast.tw8015393271924760178 : Unit := ()
def PySem.W.Fast.tw835466935489354720 : Unit := ()
def PySem.W.Fast.tw4971135977623182173 : Unit := ()
def PySem.W.Fast.tw8045523704857595778 : Unit := ()
def PySem.W.Fast.tw4872105641112801204 : Unit := ()
def PySem.W.Fast.tw5212453701151311811 : Unit := ()
def PySem.W.Fast.tw942127441334129294 : Unit := ()
def PySem.W.Fast.tw10326740524022861461 : Unit := ()
def PySem.W.Fast.tw10159146813543055959 : Unit := ()
def PySem.W.Fast.tw8553408587680956767 : Unit := ()
def PySem.W.Fast.tw12546154254304673840 : Unit := ()
def PySem.W.Fast.tw6475958332440420811 : Unit := ()
def PySem.W.Fast.tw10046483274871440838 : Unit := ()
def PySem.W.Fast.tw9444350829162662565 : Unit := ()
def PySem.W.Fast.tw18134795759431589810 : Unit := ()
def PySem.W.Fast.tw6488455154501242863 : Unit := ()
def PySem.W.Fast.tw13885458096722867271 : Unit := ()
def PySem.W.Fast.tw13939454752036696508 : Unit := ()
def PySem.W.Fast.tw6449208370802040830 : Unit := ()
def PySem.W.Fast.tw16383154017981199502 : Unit := ()
def PySem.W.Fast.tw12696994099583936153 : Unit := ()
def PySem.W.Fast.tw13338997645759896037 : Unit := ()
def PySem.W.Fast.tw5891973519152812616 : Unit := ()
def PySem.W.Fast.tw10164032848199078851 : Unit := ()
def PySem.W.Fast.tw7274720732936962293 : Unit := ()
def PySem.W.Fast.tw17460182248705395007 : Unit := ()
def PySem.W.Fast.tw3368219160887208209 : Unit := ()
def PySem.W.Fast.tw7644392679545649564 : Unit := ()
def PySem.W.Fast.tw18208299278684758610 : Unit := ()
def PySem.W.Fast.tw2498055181481954479 : Unit := ()
def PySem.W.Fast.tw13791884267044731813 : Unit := ()
def PySem.W.Fast.tw17439992565338157703 : Unit := ()
def PySem.W.Fast.tw18332976817867556697 : Unit := ()
def PySem.W.Fast.tw6842051949261113184 : Unit := ()
def PySem.W.Fast.tw7816231805586118485 : Unit := ()
def PySem.W.Fast.tw18442584838028098437 : Unit := ()
def PySem.W.Fast.tw15869397222441893532 : Unit := ()
def PySem.W.Fast.tw13188716563226108009 : Unit := ()
def PySem.W.Fast.tw8353643698040122158 : Unit := ()
def PySem.W.Fast.tw2252682936641393662 : Unit := ()
def PySem.W.Fast.tw11742568637133436747 : Unit := ()
def PySem.W.Fast.tw3857107402170553428 : Unit := ()
def PySem.W.Fast.tw8324899227076095023 : Unit := ()
def PySem.W.Fast.tw7847321752872878464 : Unit := ()
def PySem.W.Fast.tw14000726880713928252 : Unit := ()
def PySem.W.Fast.tw6791779778048946486 : Unit := ()
def PySem.W.Fast.tw4752039214424536493 : Unit := ()
def PySem.W.Fast.tw13090900435769625455 : Unit := ()
def PySem.W.Fast.tw10634317116385446223 : Unit := ()
def PySem.W.Fast.tw5383581578819361070 : Unit := ()
def PySem.W.Fast.tw15999480132181448696 : Unit := ()
def PySem.W.Fast.tw13227968950055307904 : Unit := ()
def PySem.W.Fast.tw16699347741335897287 : Unit := ()
def PySem.W.Fast.tw5641122408379131074 : Unit := ()
def PySem.W.Fast.tw3318267034712882171 : Unit := ()
def PySem.W.Fast.tw5297646723612582739 : Unit := ()
def PySem.W.Fast.tw17616357072169356501 : Unit := ()
def PySem.W.Fast.tw7314936119921136740 : Unit := ()
def PySem.W.Fast.tw9761280067776607452 : Unit := ()
def PySem.W.Fast.tw5144538130559773543 : Unit := ()
def PySem.W.Fast.tw100881954732993715 : Unit := ()
def PySem.W.Fast.tw3217257602770779096 : Unit := ()
def PySem.W.Fast.tw3667087716145900031 : Unit := ()
def PySem.W.Fast.tw547314932891010784 : Unit := ()
def PySem.W.Fast.tw2952208178930516946 : Unit := ()
def PySem.W.Fast.tw13685538469312530170 : Unit := ()
def PySem.W.Fast.tw9565072703742978537 : Unit := ()
def PySem.W.Fast.tw5415701628625733518 : Unit := ()
def PySem.W.Fast.tw8139933537514571993 : Unit := ()
def PySem.W.Fast.tw3205814970825125843 : Unit := ()
def PySem.W.Fast.tw17356284806487363648 : Unit := ()
def PySem.W.Fast.tw142493451766290832 : Unit := ()
def PySem.W.Fast.tw10796488327205886353 : Unit := ()
def PySem.W.Fast.tw10007230596420264063 : Unit := ()
def PySem.W.Fast.tw10735644918633601667 : Unit := ()
def PySem.W.Fast.tw6172987992460376072 : Unit := ()
def PySem.W.Fast.tw15024955199999343738 : Unit := ()
def PySem.W.Fast.tw4493252001332498392 : Unit := ()
def PySem.W.Fast.tw18244743287394862444 : Unit := ()
def PySem.W.Fast.tw9883927431399205297 : Unit := ()
def PySem.W.Fast.tw5583200190525349995 : Unit := ()
def PySem.W.Fast.tw11594847646080569239 : Unit := ()
def PySem.W.Fast.tw13047093638932428772 : Unit := ()
def PySem.W.Fast.tw15893245347066237249 : Unit := ()
def PySem.W.Fast.tw10432510874086577889 : Unit := ()
def PySem.W.Fast.tw6877984556699603520 : Unit := ()
def PySem.W.Fast.tw5193358557052782408 : Unit := ()
def PySem.W.Fast.tw9909473979901176335 : Unit := ()
def PySem.W.Fast.tw2314845435052947688 : Unit := ()
def PySem.W.Fast.tw17998745590762575182 : Unit := ()
def PySem.W.Fast.tw17635005584452134050 : Unit := ()
def PySem.W.Fast.tw4227690167024070245 : Unit := ()
def PySem.W.Fast.tw14047017985689311880 : Unit := ()
def PySem.W.Fast.tw11374366510818663069 : Unit := ()
def PySem.W.Fast.tw4601031213652078428 : Unit := ()
def PySem.W.Fast.tw7650380889450799758 : Unit := ()
def PySem.W.Fast.tw7191928719434635710 : Unit := ()
def PySem.W.Fast.tw2734266666642484341 : Unit := ()
def PySem.W.Fast.tw8785127226217792908 : Unit := ()
def PySem.W.Fast.tw17872362607154467977 : Unit := ()
def PySem.W.Fast.tw4440802859176310687 : Unit := ()
def PySem.W.Fast.tw146794516107008399 : Unit := ()
def PySem.W.Fast.tw6249210215426868845 : Unit := ()
def PySem.W.Fast.tw5787601419555715343 : Unit := ()
def PySem.W.Fast.tw3889169236793225545 : Unit := ()
def PySem.W.Fast.tw2266552227086032359 : Unit := ()
def PySem.W.Fast.tw796920800689444583 : Unit := ()
def PySem.W.Fast.tw8258047464237427113 : Unit := ()
def PySem.W.Fast.tw13290724171735090928 : Unit := ()
def PySem.W.Fast.tw13492194188132356691 : Unit := ()
def PySem.W.Fast.tw3980966813965257187 : Unit := ()
def PySem.W.Fast.tw12834912206876719549 : Unit := ()
def PySem.W.Fast.tw4245620829894885950 : Unit := ()
def PySem.W.Fast.tw17666615717229739667 : Unit := ()
def PySem.W.Fast.tw108507678153691953 : Unit := ()
def PySem.W.Fast.tw15325825839667717592 : Unit := ()
def PySem.W.Fast.tw18213868187028772486 : Unit := ()
def PySem.W.Fast.tw4464144790778651721 : Unit := ()
def PySem.W.Fast.tw297282691296632377 : Unit := ()
def PySem.W.Fast.tw17887819061696840043 : Unit := ()
def PySem.W.Fast.tw18383646889339141381 : Unit := ()
def PySem.W.Fast.tw1661056579908721490 : Unit := ()
def PySem.W.Fast.tw13149824761048062145 : Unit := ()
def PySem.W.Fast.tw87912796703092312 : Unit := ()
def PySem.W.Fast.tw3391752445494981816 : Unit := ()
def PySem.W.Fast.tw7519442850128111220 : Unit := ()
def PySem.W.Fast.tw6557794584562680210 : Unit := ()
def PySem.W.Fast.tw9539452585857119281 : Unit := ()
def PySem.W.Fast.tw1230071050337402348 : Unit := ()
def PySem.W.Fast.tw9967032726115132640 : Unit := ()
def PySem.W.Fast.tw17871890102075487709 : Unit := ()
def PySem.W.Fast.tw14333447260598446546 : Unit := ()
def PySem.W.Fast.tw16778646890608157247 : Unit := ()
def PySem.W.Fast.tw17269183088830030935 : Unit := ()
def PySem.W.Fast.tw2970415677133434677 : Unit := ()
def PySem.W.Fast.tw6013581706927048645 : Unit := ()
def PySem.W.Fast.tw1072244451259140407 : Unit := ()
def PySem.W.Fast.tw9097120587470243940 : Unit := ()
def PySem.W.Fast.tw18360160676724903324 : Unit := ()
def PySem.W.Fast.tw14303361445366102719 : Unit := ()
def PySem.W.Fast.tw6199943034834877058 : Unit := ()
def PySem.W.Fast.tw1333704246713415956 : Unit := ()
def PySem.W.Fast.tw2417396717072212300 : Unit := ()
def PySem.W.Fast.tw2243545303490958112 : Unit := ()
def PySem.W.Fast.tw16175932592447375276 : Unit := ()
def PySem.W.Fast.tw17662013197660007775 : Unit := ()
def PySem.W.Fast.tw11880152095442616507 : Unit := ()
def PySem.W.Fast.tw17861570932223112149 : Unit := ()
def PySem.W.Fast.tw5237373676964632760 : Unit := ()
def PySem.W.Fast.tw13390672510572640648 : Unit := ()
def PySem.W.Fast.tw8801746248264816139 : Unit := ()
def PySem.W.Fast.tw3348982568619538548 : Unit := ()
def PySem.W.Fast.tw13264452984811627882 : Unit := ()
def PySem.W.Fast.tw5215052151989590240 : Unit := ()
def PySem.W.Fast.tw14273721400911495353 : Unit := ()
def PySem.W.Fast.tw8140795853537217075 : Unit := ()
def PySem.W.Fast.tw14065216655610202017 : Unit := ()
def PySem.W.Fast.tw9842926481350253751 : Unit := ()
def PySem.W.Fast.tw14303717967982624245 : Unit := ()
def PySem.W.Fast.tw15674665956806294342 : Unit := ()
def PySem.W.Fast.tw5579563375178739191 : Unit := ()
def PySem.W.Fast.tw5020941135156104408 : Unit := ()
def PySem.W.Fast.tw4340621047352470219 : Unit := ()
def PySem.W.Fast.tw2992148895613490738 : Unit := ()
def PySem.W.Fast.tw13214217453913688947 : Unit := ()
def PySem.W.Fast.tw13478182885827796110 : Unit := ()
def PySem.W.Fast.tw7014172541085447112 : Unit := ()
def PySem.W.Fast.tw15135336131699916511 : Unit := ()
def PySem.W.Fast.tw12820355588785653093 : Unit := ()
def PySem.W.Fast.tw9397724884164379574 : Unit := ()
def PySem.W.Fast.tw9227133572177558101 : Unit := ()
def PySem.W.Fast.tw12649892251162524718 : Unit := ()
def PySem.W.Fast.tw5768508528693326487 : Unit := ()
def PySem.W.Fast.tw5402209137236873773 : Unit := ()
def PySem.W.Fast.tw5805994548787537927 : Unit := ()
def PySem.W.Fast.tw10746457342623634492 : Unit := ()
def PySem.W.Fast.tw10694913642709703911 : Unit := ()
def PySem.W.Fast.tw14509582331827027343 : Unit := ()
def PySem.W.Fast.tw7504224723322599058 : Unit := ()
def PySem.W.Fast.tw1935467599386779139 : Unit := ()
def PySem.W.Fast.tw1863553491523601684 : Unit := ()
def PySem.W.Fast.tw7232146693480650872 : Unit := ()
def PySem.W.Fast.tw4247816356961755943 : Unit := ()
def PySem.W.Fast.tw12650698148625386747 : Unit := ()
def PySem.W.Fast.tw14889077765695562131 : Unit := ()
def PySem.W.Fast.tw6603687594776426773 : Unit := ()
def PySem.W.Fast.tw3739598757295792396 : Unit := ()
def PySem.W.Fast.tw8155983523442903622 : Unit := ()
def PySem.W.Fast.tw6345326647654252672 : Unit := ()
def PySem.W.Fast.tw4720354565627834199 : Unit := ()
def PySem.W.Fast.tw18391019923991298589 : Unit := ()
def PySem.W.Fast.tw10423818083146026848 : Unit := ()
def PySem.W.Fast.tw16016672705930700064 : Unit := ()
def PySem.W.Fast.tw692055488771819562 : Unit := ()
def PySem.W.Fast.tw6999838609483899066 : Unit := ()
def PySem.W.Fast.tw1064469073403331900 : Unit := ()
def PySem.W.Fast.tw1694794945549336307 : Unit := ()
def PySem.W.Fast.tw1690397985283748354 : Unit := ()
def PySem.W.Fast.tw17434895697257819814 : Unit := ()
def PySem.W.Fast.tw10717150634990278397 : Unit := ()
def PySem.W.Fast.tw5784653274850482565 : Unit := ()
def PySem.W.Fast.tw3309993178644717893 : Unit := ()
def PySem.W.Fast.tw2675958436712354420 : Unit := ()
def PySem.W.Fast.tw4235963553270887230 : Unit := ()
def PySem.W.Fast.tw8898910683175886551 : Unit := ()
def PySem.W.Fast.tw8828056877460143137 : Unit := ()
def PySem.W.Fast.tw14738391756960022052 : Unit := ()
def PySem.W.Fast.tw15193294718689960556 : Unit := ()
def PySem.W.Fast.tw3154021402003542268 : Unit := ()
def PySem.W.Fast.tw6762410897498758361 : Unit := ()
def PySem.W.Fast.tw7406866210398695729 : Unit := ()
def PySem.W.Fast.tw3753012848462259403 : Unit := ()
def PySem.W.Fast.tw3509323787181429163 : Unit := ()
def PySem.W.Fast.tw12150745602063884394 : Unit := ()
def PySem.W.Fast.tw2615372126073424754 : Unit := ()
def PySem.W.Fast.tw16926508425536040220 : Unit := ()
def PySem.W.Fast.tw16047192477296441825 : Unit := ()
def PySem.W.Fast.tw12655407323271704007 : Unit := ()
def PySem.W.Fast.tw2549491293554204037 : Unit := ()
def PySem.W.Fast.tw944617843874488650 : Unit := ()
def PySem.W.Fast.tw7934770339466222402 : Unit := ()
def PySem.W.Fast.tw7335694524505073919 : Unit := ()
def PySem.W.Fast.tw4035296385511195295 : Unit := ()
def PySem.W.Fast.tw8691446052387081846 : Unit := ()
def PySem.W.Fast.tw4994186268100140411 : Unit := ()
def PySem.W.Fast.tw14579245889359991455 : Unit := ()
def PySem.W.Fast.tw9448784406517285843 : Unit := ()
def PySem.W.Fast.tw17833932377565838576 : Unit := ()
def PySem.W.Fast.tw17193264231002981844 : Unit := ()
def PySem.W.Fast.tw10834632056073126637 : Unit := ()
def PySem.W.Fast.tw2097115404745652722 : Unit := ()
def PySem.W.Fast.tw18007104375686624810 : Unit := ()
def PySem.W.Fast.tw9982309005112510793 : Unit := ()
def PySem.W.Fast.tw15380793485740628623 : Unit := ()
def PySem.W.Fast.tw11329657773665372704 : Unit := ()
def PySem.W.Fast.tw17957988224474017480 : Unit := ()
def PySem.W.Fast.tw13893833068044734502 : Unit := ()
def PySem.W.Fast.tw4617091324437900937 : Unit := ()
def PySem.W.Fast.tw17933315471189192181 : Unit := ()
def PySem.W.Fast.tw13680474142163826545 : Unit := ()
def PySem.W.Fast.tw16127817937264211854 : Unit := ()
def PySem.W.Fast.tw3693034997554516455 : Unit := ()
def PySem.W.Fast.tw13261359446640056870 : Unit := ()
def PySem.W.Fast.tw6796951044819049848 : Unit := ()
def PySem.W.Fast.tw15762152871034886854 : Unit := ()
def PySem.W.Fast.tw6205643177017215464 : Unit := ()
def PySem.W.Fast.tw1215645910890696959 : Unit := ()
def PySem.W.Fast.tw5328374570352323246 : Unit := ()
def PySem.W.Fast.tw16175016466040720675 : Unit := ()
def PySem.W.Fast.tw11385907955974426243 : Unit := ()
def PySem.W.Fast.tw16613355503688306445 : Unit := ()
def PySem.W.Fast.tw15274046715229141187 : Unit := ()
def PySem.W.Fast.tw2182708588854986874 : Unit := ()
def PySem.W.Fast.tw5845369221949457836 : Unit := ()
def PySem.W.Fast.tw13374629846042275933 : Unit := ()
def PySem.W.Fast.tw14466376180362953377 : Unit := ()
def PySem.W.Fast.tw15230606115183864207 : Unit := ()
def PySem.W.Fast.tw6335394067720878617 : Unit := ()
def PySem.W.Fast.tw7690800548721799656 : Unit := ()
def PySem.W.Fast.tw9053705371888178312 : Unit := ()
def PySem.W.Fast.tw11692288502788930908 : Unit := ()
def PySem.W.Fast.tw10918112865665207435 : Unit := ()
def PySem.W.Fast.tw4980421497555482711 : Unit := ()
def PySem.W.Fast.tw17490243096365845862 : Unit := ()
def PySem.W.Fast.tw16382375573393181112 : Unit := ()
def PySem.W.Fast.tw11254299894695597609 : Unit := ()
def PySem.W.Fast.tw414075157836631535 : Unit := ()
def PySem.W.Fast.tw563738508132702920 : Unit := ()
def PySem.W.Fast.tw677930488651344174 : Unit := ()
def PySem.W.Fast.tw17348744277136417171 : Unit := ()
def PySem.W.Fast.tw8539991203934069344 : Unit := ()
def PySem.W.Fast.tw9696396635712441520 : Unit := ()
def PySem.W.Fast.tw7383480791761683189 : Unit := ()
def PySem.W.Fast.tw9532686560312559833 : Unit := ()
def PySem.W.Fast.tw6362690271064757479 : Unit := ()
def PySem.W.Fast.tw13979669071749241227 : Unit := ()
def PySem.W.Fast.tw839132568577716146 : Unit := ()
def PySem.W.Fast.tw7687197562171976883 : Unit := ()
def PySem.W.Fast.tw3642008365150261702 : Unit := ()
def PySem.W.Fast.tw10755974939331859656 : Unit := ()
def PySem.W.Fast.tw7560593023464086127 : Unit := ()
def PySem.W.Fast.tw10756080869633365434 : Unit := ()
def PySem.W.Fast.tw2545480395473304324 : Unit := ()
def PySem.W.Fast.tw11552837773116024789 : Unit := ()
def PySem.W.Fast.tw3168332253980452014 : Unit := ()
def PySem.W.Fast.tw8155731154417518468 : Unit := ()
def PySem.W.Fast.tw4053073079043905216 : Unit := ()
def PySem.W.Fast.tw4060570302212758103 : Unit := ()
def PySem.W.Fast.tw207625666952084400 : Unit := ()
def PySem.W.Fast.tw18223892936178617285 : Unit := ()
def PySem.W.Fast.tw5678762483280889179 : Unit := ()
def PySem.W.Fast.tw17937591244114813193 : Unit := ()
def PySem.W.Fast.tw7639563514279832466 : Unit := ()
def PySem.W.Fast.tw3295497023108033720 : Unit := ()
def PySem.W.Fast.tw8586385505547493050 : Unit := ()
def PySem.W.Fast.tw5773837923735069225 : Unit := ()
def PySem.W.Fast.tw16659088922382021651 : Unit := ()
def PySem.W.Fast.tw9557646045209804926 : Unit := ()
def PySem.W.Fast.tw11077559537780838555 : Unit := ()
def PySem.W.Fast.tw12563465115159530959 : Unit := ()
def PySem.W.Fast.tw1710265720301473486 : Unit := ()
def PySem.W.Fast.tw16012931494988708220 : Unit := ()
def PySem.W.Fast.tw14641830454124093185 : Unit := ()
def PySem.W.Fast.tw109473684688365436 : Unit := ()
def PySem.W.Fast.tw11954433520923185595 : Unit := ()
def PySem.W.Fast.tw11152041325892139229 : Unit := ()
def PySem.W.Fast.tw5109904894163096397 : Unit := ()
def PySem.W.Fast.tw7682485943361298230 : Unit := ()
def PySem.W.Fast.tw6425408837131437705 : Unit := ()
def PySem.W.Fast.tw18232065703356582436 : Unit := ()
def PySem.W.Fast.tw6558096248891633120 : Unit := ()
def PySem.W.Fast.tw94106034252956587 : Unit := ()
def PySem.W.Fast.tw11947252694641444652 : Unit := ()
def PySem.W.Fast.tw14392075277931011976 : Unit := ()
def PySem.W.Fast.tw13283657228057200593 : Unit := ()
def PySem.W.Fast.tw17603884313763657239 : Unit := ()
def PySem.W.Fast.tw13654488815880566425 : Unit := ()
def PySem.W.Fast.tw985084911020918814 : Unit := ()
def PySem.W.Fast.tw1619096982856891448 : Unit := ()
def PySem.W.Fast.tw329430197705088513 : Unit := ()
def PySem.W.Fast.tw16266738988843550990 : Unit := ()
def PySem.W.Fast.tw74005479649120090 : Unit := ()
def PySem.W.Fast.tw16909723946137908566 : Unit := ()
def PySem.W.Fast.tw10513826579669318898 : Unit := ()
def PySem.W.Fast.tw12954085209422249811 : Unit := ()
def PySem.W.Fast.tw6815807403823646051 : Unit := ()
def PySem.W.Fast.tw3423668803185593105 : Unit := ()
def PySem.W.Fast.tw4674619854228354449 : Unit := ()
def PySem.W.Fast.tw14141996300803475740 : Unit := ()
def PySem.W.Fast.tw7403712280362068298 : Unit := ()
def PySem.W.Fast.tw13134044436796696204 : Unit := ()
def PySem.W.Fast.tw8855123563131459722 : Unit := ()
def PySem.W.Fast.tw6329646160071591903 : Unit := ()
def PySem.W.Fast.tw2498764756242615224 : Unit := ()
def PySem.W.Fast.tw12980181943313590983 : Unit := ()
def PySem.W.Fast.tw13122196877271071603 : Unit := ()
def PySem.W.Fast.tw3841582564178575245 : Unit := ()
def PySem.W.Fast.tw9531362008243865213 : Unit := ()
def PySem.W.Fast.tw17058505975981847720 : Unit := ()
def PySem.W.Fast.tw9925137717555514930 : Unit := ()
def PySem.W.Fast.tw4993640308459902082 : Unit := ()
def PySem.W.Fast.tw5800095816427423307 : Unit := ()
def PySem.W.Fast.tw17732614866545988264 : Unit := ()
def PySem.W.Fast.tw192659301143501481 : Unit := ()
def PySem.W.Fast.tw5666887567548224830 : Unit := ()
def PySem.W.Fast.tw12728074022960318687 : Unit := ()
def PySem.W.Fast.tw16592486563671766294 : Unit := ()
def PySem.W.Fast.tw11958175137205194187 : Unit := ()
def PySem.W.Fast.tw11746102288018095142 : Unit := ()
def PySem.W.Fast.tw715721713818261112 : Unit := ()
def PySem.W.Fast.tw10872173078599588191 : Unit := ()
def PySem.W.Fast.tw12173434231210284862 : Unit := ()
def PySem.W.Fast.tw15903875013055740546 : Unit := ()
def PySem.W.Fast.tw8599084481406764376 : Unit := ()
def PySem.W.Fast.tw7161029795969837076 : Unit := ()
def PySem.W.Fast.tw4589220953887008795 : Unit := ()
def PySem.W.Fast.tw14536448925105569008 : Unit := ()
def PySem.W.Fast.tw3846218068574776893 : Unit := ()
def PySem.W.Fast.tw9939013187559349008 : Unit := ()
def PySem.W.Fast.tw6137274209284268544 : Unit := ()
def PySem.W.Fast.tw4830593240358167728 : Unit := ()
def PySem.W.Fast.tw560907930834156983 : Unit := ()
def PySem.W.Fast.tw5524667011952658790 : Unit := ()
def PySem.W.Fast.tw12687377407107573609 : Unit := ()
def PySem.W.Fast.tw8903663260273803995 : Unit := ()
def PySem.W.Fast.tw13481789857420241092 : Unit := ()
def PySem.W.Fast.tw13220225064620706316 : Unit := ()
def PySem.W.Fast.tw4108287564537886035 : Unit := ()
def PySem.W.Fast.tw5675137099412373514 : Unit := ()
def PySem.W.Fast.tw10957418986348435266 : Unit := ()
def PySem.W.Fast.tw11553264658201118424 : Unit := ()
def PySem.W.Fast.tw4418414546244060054 : Unit := ()
def PySem.W.Fast.tw3845501590856629438 : Unit := ()
def PySem.W.Fast.tw8313997331502025172 : Unit := ()
def PySem.W.Fast.tw1887505110161313807 : Unit := ()
def PySem.W.Fast.tw13164852663105294612 : Unit := ()
def PySem.W.Fast.tw9837181799255891671 : Unit := ()
def PySem.W.Fast.tw14571429706925500967 : Unit := ()
def PySem.W.Fast.tw14840354419574225557 : Unit := ()
def PySem.W.Fast.tw12732104499834343821 : Unit := ()
def PySem.W.Fast.tw12642841111028725610 : Unit := ()
def PySem.W.Fast.tw7532438501329287512 : Unit := ()
def PySem.W.Fast.tw13495534675938362253 : Unit := ()
def PySem.W.Fast.tw9311696982558818501 : Unit := ()
def PySem.W.Fast.tw14490599402464660937 : Unit := ()
def PySem.W.Fast.tw7511260984746887024 : Unit := ()
def PySem.W.Fast.tw12355500012314892743 : Unit := ()
def PySem.W.Fast.tw1682604823203695408 : Unit := ()
def PySem.W.Fast.tw7048705952252315071 : Unit := ()
def PySem.W.Fast.tw15164481143872228267 : Unit := ()
def PySem.W.Fast.tw1873237878614540707 : Unit := ()
def PySem.W.Fast.tw15906931621648416851 : Unit := ()
namespace My
open PySem PySem.Spec PyProof.Rows L2
/-! ### the text by places -/
def top (i : Nat) : Stmt := PySem.Challenge.pw_patchover_k02_editions_refused.main.body.getD i (.Pass ⟨0, 0, 0, 0⟩)
abbrev s_wall : Stmt := top 0
theorem sc_wall : FnScope ["k"] ["k"] (defScope s_wall) := ⟨rfl, rfl, rfl, by decide +kernel, rfl, by decide +kernel, by decide +kernel⟩
abbrev s_bytes_of : Stmt := top 20
theorem sc_bytes_of : FnScope ["numbers", "number"] ["numbers"] (defScope s_bytes_of) := ⟨rfl, rfl, rfl, by decide +kernel, rfl, by decide +kernel, by decide +kernel⟩
abbrev s_numbers_of : Stmt := top 21
theorem sc_numbers_of : FnScope ["some"] ["some"] (defScope s_numbers_of) := ⟨rfl, rfl, rfl, by decide +kernel, rfl, by decide +kernel, by decide +kernel⟩
abbrev s_is_number : Stmt := top 22
theorem sc_is_number : FnScope ["what", "least", "most"] ["what", "least", "most"] (defScope s_is_number) := ⟨rfl, rfl, rfl, by decide +kernel, rfl, by decide +kernel, by decide +kernel⟩
abbrev s_can_be : Stmt := top 23
theorem sc_can_be : FnScope ["piece", "word", "some", "first", "many"] ["piece"] (defScope s_can_be) := ⟨rfl, rfl, rfl, by decide +kernel, rfl, by decide +kernel, by decide +kernel⟩
abbrev s_length_of : Stmt := top 24
theorem sc_length_of : FnScope ["piece"] ["piece"] (defScope s_length_of) := ⟨rfl, rfl, rfl, by decide +kernel, rfl, by decide +kernel, by decide +kernel⟩
abbrev s_cells_of : Stmt := top 25
theorem sc_cells_of : FnScope ["piece", "number", "byte"] ["piece"] (defScope s_cells_of) := ⟨rfl, rfl, rfl, by decide +kernel, rfl, by decide +kernel, by decide +kernel⟩
abbrev s_check_edition : Stmt := top 26
theorem sc_check_edition : FnScope ["edition"] ["edition"] (defScope s_check_edition) := ⟨rfl, rfl, rfl, by decide +kernel, rfl, by decide +kernel, by decide +kernel⟩
abbrev s_check_patch : Stmt := top 27
theorem sc_check_patch : FnScope ["patch", "total", "at", "piece"] ["patch"] (defScope s_check_patch) := ⟨rfl, rfl, rfl, by decide +kernel, rfl, by decide +kernel, by decide +kernel⟩
abbrev s_check_reach : Stmt := top 28
theorem sc_check_reach : FnScope ["patch", "edition", "at", "piece"] ["patch", "edition"] (defScope s_check_reach) := ⟨rfl, rfl, rfl, by decide +kernel, rfl, by decide +kernel, by decide +kernel⟩
abbrev s_done : Stmt := top 30
theorem sc_done : FnScope ["patch", "edition", "told", "word", "worth"] ["patch", "edition"] (defScope s_done) := ⟨rfl, rfl, rfl, by decide +kernel, rfl, by decide +kernel, by decide +kernel⟩
abbrev s_makes : Stmt := top 31
theorem sc_makes : FnScope ["patch", "piece"] ["patch"] (defScope s_makes) := ⟨rfl, rfl, rfl, by decide +kernel, rfl, by decide +kernel, by decide +kernel⟩
abbrev s_cells : Stmt := top 32
theorem sc_cells : FnScope ["patch", "told", "piece"] ["patch"] (defScope s_cells) := ⟨rfl, rfl, rfl, by decide +kernel, rfl, by decide +kernel, by decide +kernel⟩
abbrev s_hangs : Stmt := top 34
theorem sc_hangs : FnScope ["patch", "writers", "found", "one", "cell", "other"] ["patch"] (defScope s_hangs) := ⟨rfl, rfl, rfl, by decide +kernel, rfl, by decide +kernel, by decide +kernel⟩
abbrev s_order : Stmt := top 35
theorem sc_order : FnScope ["patch", "others", "waits", "piece", "one", "other", "told", "free"] ["patch"] (defScope s_order) := ⟨rfl, rfl, rfl, by decide +kernel, rfl, by decide +kernel, by decide +kernel⟩
abbrev s_starts : Stmt := top 36
theorem sc_starts : FnScope ["patch", "told", "cell", "piece"] ["patch"] (defScope s_starts) := ⟨rfl, rfl, rfl, by decide +kernel, rfl, by decide +kernel, by decide +kernel⟩
abbrev s_moving : Stmt := top 37
theorem sc_moving : FnScope ["patch", "at", "piece", "start"] ["patch"] (defScope s_moving) := ⟨rfl, rfl, rfl, by decide +kernel, rfl, by decide +kernel, by decide +kernel⟩
abbrev s_writers_of : Stmt := top 38
theorem sc_writers_of : FnScope ["patch", "begins", "told", "at", "cell"] ["patch"] (defScope s_writers_of) := ⟨rfl, rfl, rfl, by decide +kernel, rfl, by decide +kernel, by decide +kernel⟩
abbrev s_cells_read : Stmt := top 39
theorem sc_cells_read : FnScope ["piece"] ["piece"] (defScope s_cells_read) := ⟨rfl, rfl, rfl, by decide +kernel, rfl, by decide +kernel, by decide +kernel⟩
abbrev s_hung_from : Stmt := top 40
theorem sc_hung_from : FnScope ["patch", "pairs", "told", "piece", "one", "other"] ["patch"] (defScope s_hung_from) := ⟨rfl, rfl, rfl, by decide +kernel, rfl, by decide +kernel, by decide +kernel⟩
abbrev s_lightest : Stmt := top 43
theorem sc_lightest : FnScope ["patch", "others", "found", "knot", "pieces", "piece"] ["patch"] (defScope s_lightest) := ⟨rfl, rfl, rfl, by decide +kernel, rfl, by decide +kernel, by decide +kernel⟩
abbrev s_brought : Stmt := top 44
theorem sc_brought : FnScope ["patch", "pieces", "edition", "at", "piece"] ["patch", "pieces", "edition"] (defScope s_brought) := ⟨rfl, rfl, rfl, by decide +kernel, rfl, by decide +kernel, by decide +kernel⟩
abbrev s_as_done : Stmt := top 45
theorem sc_as_done : FnScope ["patch", "edition"] ["patch", "edition"] (defScope s_as_done) := ⟨rfl, rfl, rfl, by decide +kernel, rfl, by decide +kernel, by decide +kernel⟩
abbrev s_check_copies : Stmt := top 46
theorem sc_check_copies : FnScope ["patch", "pieces", "least", "number"] ["patch", "pieces"] (defScope s_check_copies) := ⟨rfl, rfl, rfl, by decide +kernel, rfl, by decide +kernel, by decide +kernel⟩
abbrev s_as_brought : Stmt := top 47
theorem sc_as_brought : FnScope ["piece", "edition"] ["piece", "edition"] (defScope s_as_brought) := ⟨rfl, rfl, rfl, by decide +kernel, rfl, by decide +kernel, by decide +kernel⟩
abbrev s_knots : Stmt := top 48
theorem sc_knots : FnScope ["others", "behind", "piece", "found", "first", "knot", "other"] ["others"] (defScope s_knots) := ⟨rfl, rfl, rfl, by decide +kernel, rfl, by decide +kernel, by decide +kernel⟩
abbrev s_reached : Stmt := top 49
theorem sc_reached : FnScope ["others", "first", "known", "left", "one", "other"] ["others", "first"] (defScope s_reached) := ⟨rfl, rfl, rfl, by decide +kernel, rfl, by decide +kernel, by decide +kernel⟩
abbrev s_lightest_of : Stmt := top 50
theorem sc_lightest_of : FnScope ["knot", "others", "weights", "free", "piece", "totals", "weight", "total", "most", "lot", "at"] ["knot", "others", "weights"] (defScope s_lightest_of) := ⟨rfl, rfl, rfl, by decide +kernel, rfl, by decide +kernel, by decide +kernel⟩
abbrev s_bits_of : Stmt := top 51
theorem sc_bits_of : FnScope ["knot", "pieces", "at", "piece"] ["knot", "pieces"] (defScope s_bits_of) := ⟨rfl, rfl, rfl, by decide +kernel, rfl, by decide +kernel, by decide +kernel⟩
abbrev s_lots_without_rings : Stmt := top 52
theorem sc_lots_without_rings : FnScope ["nexts", "free", "lot"] ["nexts"] (defScope s_lots_without_rings) := ⟨rfl, rfl, rfl, by decide +kernel, rfl, by decide +kernel, by decide +kernel⟩
abbrev s_is_free : Stmt := top 53
theorem sc_is_free : FnScope ["lot", "nexts", "free", "at", "hung"] ["lot", "nexts", "free"] (defScope s_is_free) := ⟨rfl, rfl, rfl, by decide +kernel, rfl, by decide +kernel, by decide +kernel⟩
abbrev s_steps : Stmt := top 55
theorem sc_steps : FnScope ["patch", "order", "begins", "told", "piece"] ["patch", "order"] (defScope s_steps) := ⟨rfl, rfl, rfl, by decide +kernel, rfl, by decide +kernel, by decide +kernel⟩
abbrev s_marks : Stmt := top 56
theorem sc_marks : FnScope ["steps", "told", "read", "number", "cell", "what"] ["steps"] (defScope s_marks) := ⟨rfl, rfl, rfl, by decide +kernel, rfl, by decide +kernel, by decide +kernel⟩
abbrev s_check_order : Stmt := top 57
theorem sc_check_order : FnScope ["patch", "turn", "ahead", "piece", "one", "other", "stood", "number"] ["patch", "turn"] (defScope s_check_order) := ⟨rfl, rfl, rfl, by decide +kernel, rfl, by decide +kernel, by decide +kernel⟩
abbrev s_may_stand : Stmt := top 58
theorem sc_may_stand : FnScope ["piece", "ahead", "stood", "one"] ["piece", "ahead", "stood"] (defScope s_may_stand) := ⟨rfl, rfl, rfl, by decide +kernel, rfl, by decide +kernel, by decide +kernel⟩
abbrev s_piece_steps : Stmt := top 59
theorem sc_piece_steps : FnScope ["piece", "start", "told", "at", "what"] ["piece", "start"] (defScope s_piece_steps) := ⟨rfl, rfl, rfl, by decide +kernel, rfl, by decide +kernel, by decide +kernel⟩
abbrev s_histories : Stmt := top 67
theorem sc_histories : FnScope ["edition", "patch", "device", "told"] ["edition", "patch"] (defScope s_histories) := ⟨rfl, rfl, rfl, by decide +kernel, rfl, by decide +kernel, by decide +kernel⟩
abbrev s_all_end : Stmt := top 68
theorem sc_all_end : FnScope ["edition", "patch", "cuts", "device", "writes", "many"] ["edition", "patch", "cuts"] (defScope s_all_end) := ⟨rfl, rfl, rfl, by decide +kernel, rfl, by decide +kernel, by decide +kernel⟩
abbrev s_begun : Stmt := top 69
theorem sc_begun : FnScope ["edition", "patch", "device"] ["edition", "patch"] (defScope s_begun) := ⟨rfl, rfl, rfl, by decide +kernel, rfl, by decide +kernel, by decide +kernel⟩
abbrev s_from_cut_to_end : Stmt := top 70
theorem sc_from_cut_to_end : FnScope ["device", "mark"] ["device"] (defScope s_from_cut_to_end) := ⟨rfl, rfl, rfl, by decide +kernel, rfl, by decide +kernel, by decide +kernel⟩
abbrev s_number_size : Stmt := top 75
theorem sc_number_size : FnScope ["number"] ["number"] (defScope s_number_size) := ⟨rfl, rfl, rfl, by decide +kernel, rfl, by decide +kernel, by decide +kernel⟩
abbrev s_first_number : Stmt := top 76
theorem sc_first_number : FnScope ["piece"] ["piece"] (defScope s_first_number) := ⟨rfl, rfl, rfl, by decide +kernel, rfl, by decide +kernel, by decide +kernel⟩
abbrev s_piece_size : Stmt := top 77
theorem sc_piece_size : FnScope ["piece", "many"] ["piece"] (defScope s_piece_size) := ⟨rfl, rfl, rfl, by decide +kernel, rfl, by decide +kernel, by decide +kernel⟩
abbrev s_least : Stmt := top 79
theorem sc_least : FnScope ["old", "new", "sizes", "firsts", "at", "piece"] ["old", "new"] (defScope s_least) := ⟨rfl, rfl, rfl, by decide +kernel, rfl, by decide +kernel, by decide +kernel⟩
abbrev s_one_behind_the_other : Stmt := top 80
theorem sc_one_behind_the_other : FnScope ["firsts", "patch", "at"] ["firsts"] (defScope s_one_behind_the_other) := ⟨rfl, rfl, rfl, by decide +kernel, rfl, by decide +kernel, by decide +kernel⟩
abbrev s_next_pieces : Stmt := top 81
theorem sc_next_pieces : FnScope ["old", "new", "at", "found", "end"] ["old", "new", "at"] (defScope s_next_pieces) := ⟨rfl, rfl, rfl, by decide +kernel, rfl, by decide +kernel, by decide +kernel⟩
abbrev s_next_copies : Stmt := top 82
theorem sc_next_copies : FnScope ["old", "new", "at", "found", "end", "begin"] ["old", "new", "at"] (defScope s_next_copies) := ⟨rfl, rfl, rfl, by decide +kernel, rfl, by decide +kernel, by decide +kernel⟩
abbrev s_next_runs : Stmt := top 83
theorem sc_next_runs : FnScope ["new", "at", "found", "end"] ["new", "at"] (defScope s_next_runs) := ⟨rfl, rfl, rfl, by decide +kernel, rfl, by decide +kernel, by decide +kernel⟩
abbrev s_law_dice : Stmt := top 85
theorem sc_law_dice : FnScope ["_law_script", "_law_mixed", "_law_cell"] ["_law_script"] (defScope s_law_dice) := ⟨rfl, rfl, rfl, by decide +kernel, rfl, by decide +kernel, by decide +kernel⟩
abbrev s_law_next : Stmt := top 86
theorem sc_law_next : FnScope ["_law_dice_here", "_law_many", "_law_found", "_law_cell"] ["_law_dice_here", "_law_many"] (defScope s_law_next) := ⟨rfl, rfl, rfl, by decide +kernel, rfl, by decide +kernel, by decide +kernel⟩
abbrev s_law_pick : Stmt := top 87
theorem sc_law_pick : FnScope ["_law_d", "_law_some"] ["_law_d", "_law_some"] (defScope s_law_pick) := ⟨rfl, rfl, rfl, by decide +kernel, rfl, by decide +kernel, by decide +kernel⟩
abbrev s_law_told : Stmt := top 88
theorem sc_law_told : FnScope ["_law_work", "_law_e", "_law_some", "_law_terms", "_law_term"] ["_law_work"] (defScope s_law_told) := ⟨rfl, rfl, rfl, by decide +kernel, rfl, by decide +kernel, by decide +kernel⟩
abbrev s_law_bytes : Stmt := top 89
theorem sc_law_bytes : FnScope ["_law_d", "_law_most", "_law_kinds", "_law_k"] ["_law_d", "_law_most"] (defScope s_law_bytes) := ⟨rfl, rfl, rfl, by decide +kernel, rfl, by decide +kernel, by decide +kernel⟩
abbrev s_law_rows : Stmt := top 90
theorem sc_law_rows : FnScope ["_law_d", "_law_count", "_law_most", "_law_rows_here", "_law_left", "_law_turn", "_law_n", "_law_pick_here", "_law_k"] ["_law_d", "_law_count", "_law_most"] (defScope s_law_rows) := ⟨rfl, rfl, rfl, by decide +kernel, rfl, by decide +kernel, by decide +kernel⟩
abbrev s_law_handed : Stmt := top 91
theorem sc_law_handed : FnScope ["_law_rows_here", "_law_found", "_law_row"] ["_law_rows_here"] (defScope s_law_handed) := ⟨rfl, rfl, rfl, by decide +kernel, rfl, by decide +kernel, by decide +kernel⟩
abbrev s_law_cells : Stmt := top 92
theorem sc_law_cells : FnScope ["_law_rows_here", "_law_found", "_law_row", "_law_k", "_law_byte"] ["_law_rows_here"] (defScope s_law_cells) := ⟨rfl, rfl, rfl, by decide +kernel, rfl, by decide +kernel, by decide +kernel⟩
abbrev s_law_new : Stmt := top 93
theorem sc_law_new : FnScope ["_law_rows_here", "_law_old", "_law_word", "_law_k"] ["_law_rows_here", "_law_old"] (defScope s_law_new) := ⟨rfl, rfl, rfl, by decide +kernel, rfl, by decide +kernel, by decide +kernel⟩
abbrev s_law : Stmt := top 94
theorem sc_law : FnScope ["_law_script", "_law_d", "_law_turn", "_law_rows_here", "_law_handed_here", "_law_old", "_law_remote", "_law_calls", "_law_call", "_law_late", "_law_k", "_law_bad"] ["_law_script"] (defScope s_law) := ⟨rfl, rfl, rfl, by decide +kernel, rfl, by decide +kernel, by decide +kernel⟩
abbrev s_Work_init : Stmt := inClass (top 64) 0
theorem sc_Work_init : FnScope ["self", "before", "patch"] ["self", "before", "patch"] (defScope s_Work_init) := ⟨rfl, rfl, rfl, by decide +kernel, rfl, by decide +kernel, by decide +kernel⟩
abbrev s_Device_init : Stmt := inClass (top 65) 0
theorem sc_Device_init : FnScope ["self", "edition"] ["self", "edition"] (defScope s_Device_init) := ⟨rfl, rfl, rfl, by decide +kernel, rfl, by decide +kernel, by decide +kernel⟩
abbrev s_Device_begin : Stmt := inClass (top 65) 1
theorem sc_Device_begin : FnScope ["self", "patch", "before"] ["self", "patch"] (defScope s_Device_begin) := ⟨rfl, rfl, rfl, by decide +kernel, rfl, by decide +kernel, by decide +kernel⟩
abbrev s_Device_go : Stmt := inClass (top 65) 2
theorem sc_Device_go : FnScope ["self", "many", "writes"] ["self", "many"] (defScope s_Device_go) := ⟨rfl, rfl, rfl, by decide +kernel, rfl, by decide +kernel, by decide +kernel⟩
abbrev s_Device_cut : Stmt := inClass (top 65) 3
theorem sc_Device_cut : FnScope ["self"] ["self"] (defScope s_Device_cut) := ⟨rfl, rfl, rfl, by decide +kernel, rfl, by decide +kernel, by decide +kernel⟩
abbrev s_Device_wake : Stmt := inClass (top 65) 4
theorem sc_Device_wake : FnScope ["self"] ["self"] (defScope s_Device_wake) := ⟨rfl, rfl, rfl, by decide +kernel, rfl, by decide +kernel, by decide +kernel⟩
abbrev s_Device_edition : Stmt := inClass (top 65) 5
theorem sc_Device_edition : FnScope ["self"] ["self"] (defScope s_Device_edition) := ⟨rfl, rfl, rfl, by decide +kernel, rfl, by decide +kernel, by decide +kernel⟩
abbrev s_Device_old : Stmt := inClass (top 65) 7
theorem sc_Device_old : FnScope ["self", "cell", "byte"] ["self"] (defScope s_Device_old) := ⟨rfl, rfl, rfl, by decide +kernel, rfl, by decide +kernel, by decide +kernel⟩
abbrev s_Device_stands : Stmt := inClass (top 65) 11
theorem sc_Device_stands : FnScope ["self"] ["self"] (defScope s_Device_stands) := ⟨rfl, rfl, rfl, by decide +kernel, rfl, by decide +kernel, by decide +kernel⟩
abbrev s_Device_places : Stmt := inClass (top 65) 13
theorem sc_Device_places : FnScope ["self"] ["self"] (defScope s_Device_places) := ⟨rfl, rfl, rfl, by decide +kernel, rfl, by decide +kernel, by decide +kernel⟩
abbrev s_Device_twin : Stmt := inClass (top 65) 14
theorem sc_Device_twin : FnScope ["self", "other"] ["self"] (defScope s_Device_twin) := ⟨rfl, rfl, rfl, by decide +kernel, rfl, by decide +kernel, by decide +kernel⟩
abbrev s_Device_mark : Stmt := inClass (top 65) 15
theorem sc_Device_mark : FnScope ["self", "mark"] ["self"] (defScope s_Device_mark) := ⟨rfl, rfl, rfl, by decide +kernel, rfl, by decide +kernel, by decide +kernel⟩
abbrev s_Device_go_on_from_mark : Stmt := inClass (top 65) 16
theorem sc_Device_go_on_from_mark : FnScope ["self"] ["self"] (defScope s_Device_go_on_from_mark) := ⟨rfl, rfl, rfl, by decide +kernel, rfl, by decide +kernel, by decide +kernel⟩
abbrev s_Device_end_if_done : Stmt := inClass (top 65) 17
theorem sc_Device_end_if_done : FnScope ["self"] ["self"] (defScope s_Device_end_if_done) := ⟨rfl, rfl, rfl, by decide +kernel, rfl, by decide +kernel, by decide +kernel⟩
abbrev s_Device_write : Stmt := inClass (top 65) 18
theorem sc_Device_write : FnScope ["self"] ["self"] (defScope s_Device_write) := ⟨rfl, rfl, rfl, by decide +kernel, rfl, by decide +kernel, by decide +kernel⟩
abbrev s_Device_write_step : Stmt := inClass (top 65) 19
theorem sc_Device_write_step : FnScope ["self", "cell", "word", "worth"] ["self"] (defScope s_Device_write_step) := ⟨rfl, rfl, rfl, by decide +kernel, rfl, by decide +kernel, by decide +kernel⟩
abbrev s_Device_write_mark : Stmt := inClass (top 65) 20
theorem sc_Device_write_mark : FnScope ["self", "place"] ["self"] (defScope s_Device_write_mark) := ⟨rfl, rfl, rfl, by decide +kernel, rfl, by decide +kernel, by decide +kernel⟩
abbrev s_Device_next_place : Stmt := inClass (top 65) 21
theorem sc_Device_next_place : FnScope ["self"] ["self"] (defScope s_Device_next_place) := ⟨rfl, rfl, rfl, by decide +kernel, rfl, by decide +kernel, by decide +kernel⟩
structure Df (K : PySem.W.Frag) (mg : Str → Option Value) (x : Str) (st : Stmt) (ps : List Str) where
  f : Addr
  fd : FuncData
  F : Fun K x x st f fd
  m : mg x = some (.ref f)
  b : Binds K fd ps []
structure DfM (K : PySem.W.Frag) (C : Addr) (m q : Str) (st : Stmt) (ps : List Str) where
  f : Addr
  fd : FuncData
  F : Fun K m q st f fd
  mt : Meth K C m f
  b : Binds K fd ps []
structure All (K : PySem.W.Frag) (mg : Str → Option Value) where
  d_wall : Df K mg "_wall" s_wall ["k"]
  d_bytes_of : Df K mg "bytes_of" s_bytes_of ["numbers"]
  d_numbers_of : Df K mg "numbers_of" s_numbers_of ["some"]
  d_is_number : Df K mg "is_number" s_is_number ["what", "least", "most"]
  d_can_be : Df K mg "can_be" s_can_be ["piece"]
  d_length_of : Df K mg "length_of" s_length_of ["piece"]
  d_cells_of : Df K mg "cells_of" s_cells_of ["piece"]
  d_check_edition : Df K mg "check_edition" s_check_edition ["edition"]
  d_check_patch : Df K mg "check_patch" s_check_patch ["patch"]
  d_check_reach : Df K mg "check_reach" s_check_reach ["patch", "edition"]
  d_done : Df K mg "done" s_done ["patch", "edition"]
  d_makes : Df K mg "makes" s_makes ["patch"]
  d_cells : Df K mg "cells" s_cells ["patch"]
  d_hangs : Df K mg "hangs" s_hangs ["patch"]
  d_order : Df K mg "order" s_order ["patch"]
  d_starts : Df K mg "starts" s_starts ["patch"]
  d_moving : Df K mg "moving" s_moving ["patch"]
  d_writers_of : Df K mg "writers_of" s_writers_of ["patch"]
  d_cells_read : Df K mg "cells_read" s_cells_read ["piece"]
  d_hung_from : Df K mg "hung_from" s_hung_from ["patch"]
  d_lightest : Df K mg "lightest" s_lightest ["patch"]
  d_brought : Df K mg "brought" s_brought ["patch", "pieces", "edition"]
  d_as_done : Df K mg "as_done" s_as_done ["patch", "edition"]
  d_check_copies : Df K mg "check_copies" s_check_copies ["patch", "pieces"]
  d_as_brought : Df K mg "as_brought" s_as_brought ["piece", "edition"]
  d_knots : Df K mg "knots" s_knots ["others"]
  d_reached : Df K mg "reached" s_reached ["others", "first"]
  d_lightest_of : Df K mg "lightest_of" s_lightest_of ["knot", "others", "weights"]
  d_bits_of : Df K mg "bits_of" s_bits_of ["knot", "pieces"]
  d_lots_without_rings : Df K mg "lots_without_rings" s_lots_without_rings ["nexts"]
  d_is_free : Df K mg "is_free" s_is_free ["lot", "nexts", "free"]
  d_steps : Df K mg "steps" s_steps ["patch", "order"]
  d_marks : Df K mg "marks" s_marks ["steps"]
  d_check_order : Df K mg "check_order" s_check_order ["patch", "turn"]
  d_may_stand : Df K mg "may_stand" s_may_stand ["piece", "ahead", "stood"]
  d_piece_steps : Df K mg "piece_steps" s_piece_steps ["piece", "start"]
  d_histories : Df K mg "histories" s_histories ["edition", "patch"]
  d_all_end : Df K mg "all_end" s_all_end ["edition", "patch", "cuts"]
  d_begun : Df K mg "begun" s_begun ["edition", "patch"]
  d_from_cut_to_end : Df K mg "from_cut_to_end" s_from_cut_to_end ["device"]
  d_number_size : Df K mg "number_size" s_number_size ["number"]
  d_first_number : Df K mg "first_number" s_first_number ["piece"]
  d_piece_size : Df K mg "piece_size" s_piece_size ["piece"]
  d_least : Df K mg "least" s_least ["old", "new"]
  d_one_behind_the_other : Df K mg "one_behind_the_other" s_one_behind_the_other ["firsts"]
  d_next_pieces : Df K mg "next_pieces" s_next_pieces ["old", "new", "at"]
  d_next_copies : Df K mg "next_copies" s_next_copies ["old", "new", "at"]
  d_next_runs : Df K mg "next_runs" s_next_runs ["new", "at"]
  d_law_dice : Df K mg "_law_dice" s_law_dice ["_law_script"]
  d_law_next : Df K mg "_law_next" s_law_next ["_law_dice_here", "_law_many"]
  d_law_pick : Df K mg "_law_pick" s_law_pick ["_law_d", "_law_some"]
  d_law_told : Df K mg "_law_told" s_law_told ["_law_work"]
  d_law_bytes : Df K mg "_law_bytes" s_law_bytes ["_law_d", "_law_most"]
  d_law_rows : Df K mg "_law_rows" s_law_rows ["_law_d", "_law_count", "_law_most"]
  d_law_handed : Df K mg "_law_handed" s_law_handed ["_law_rows_here"]
  d_law_cells : Df K mg "_law_cells" s_law_cells ["_law_rows_here"]
  d_law_new : Df K mg "_law_new" s_law_new ["_law_rows_here", "_law_old"]
  t_MOST : Tok
  c_MOST : mg "MOST" = some (.int 200 t_MOST)
  t_LAST_BYTE : Tok
  c_LAST_BYTE : mg "LAST_BYTE" = some (.int 255 t_LAST_BYTE)
  t_MOST_IN_KNOT : Tok
  c_MOST_IN_KNOT : mg "MOST_IN_KNOT" = some (.int 14 t_MOST_IN_KNOT)
  t_CELLS : Tok
  c_CELLS : mg "CELLS" = some (.int 200 t_CELLS)
  t_PLACES : Tok
  c_PLACES : mg "PLACES" = some (.int 2 t_PLACES)
  t_MOST_WRITES : Tok
  c_MOST_WRITES : mg "MOST_WRITES" = some (.int 10000 t_MOST_WRITES)
  a_WORDS : Addr
  c_WORDS : mg "WORDS" = some (.ref a_WORDS)
  v_WORDS : ∀ H : Hp, SqT K H a_WORDS [.str "copy", .str "bring", .str "run"]
  w_WORDS : ∃ o, K.lookup a_WORDS = some o ∧ o.cls = .type "tuple" ∧ o.dict = none
  t_SEVENS : Tok
  c_SEVENS : mg "SEVENS" = some (.int 128 t_SEVENS)
  t_MOST_SEVENS : Tok
  c_MOST_SEVENS : mg "MOST_SEVENS" = some (.int 2 t_MOST_SEVENS)
  k_Work : Addr
  m_Work : mg "Work" = some (.ref k_Work)
  cl_Work : Cls K k_Work
  na_Work_before : NoAttr K k_Work "before"
  na_Work_patch : NoAttr K k_Work "patch"
  na_Work_steps : NoAttr K k_Work "steps"
  na_Work_marks : NoAttr K k_Work "marks"
  d_Work_init : DfM K k_Work "__init__" "Work.__init__" s_Work_init ["self", "before", "patch"]
  mk_Work : Mk K k_Work d_Work_init.f
  k_Device : Addr
  m_Device : mg "Device" = some (.ref k_Device)
  cl_Device : Cls K k_Device
  na_Device_cells : NoAttr K k_Device "_cells"
  na_Device_wear : NoAttr K k_Device "_wear"
  na_Device_places : NoAttr K k_Device "_places"
  na_Device_places_worn : NoAttr K k_Device "_places_worn"
  na_Device_many : NoAttr K k_Device "_many"
  na_Device_work : NoAttr K k_Device "_work"
  na_Device_done : NoAttr K k_Device "_done"
  na_Device_marked : NoAttr K k_Device "_marked"
  na_Device_part : NoAttr K k_Device "_part"
  na_Device_asleep : NoAttr K k_Device "_asleep"
  d_Device_init : DfM K k_Device "__init__" "Device.__init__" s_Device_init ["self", "edition"]
  d_Device_begin : DfM K k_Device "begin" "Device.begin" s_Device_begin ["self", "patch"]
  d_Device_go : DfM K k_Device "go" "Device.go" s_Device_go ["self", "many"]
  d_Device_cut : DfM K k_Device "cut" "Device.cut" s_Device_cut ["self"]
  d_Device_wake : DfM K k_Device "wake" "Device.wake" s_Device_wake ["self"]
  d_Device_edition : DfM K k_Device "edition" "Device.edition" s_Device_edition ["self"]
  d_Device_old : DfM K k_Device "old" "Device.old" s_Device_old ["self"]
  d_Device_stands : DfM K k_Device "stands" "Device.stands" s_Device_stands ["self"]
  d_Device_places : DfM K k_Device "places" "Device.places" s_Device_places ["self"]
  d_Device_twin : DfM K k_Device "twin" "Device.twin" s_Device_twin ["self"]
  d_Device_mark : DfM K k_Device "_mark" "Device._mark" s_Device_mark ["self"]
  d_Device_go_on_from_mark : DfM K k_Device "_go_on_from_mark" "Device._go_on_from_mark" s_Device_go_on_from_mark ["self"]
  d_Device_end_if_done : DfM K k_Device "_end_if_done" "Device._end_if_done" s_Device_end_if_done ["self"]
  d_Device_write : DfM K k_Device "_write" "Device._write" s_Device_write ["self"]
  d_Device_write_step : DfM K k_Device "_write_step" "Device._write_step" s_Device_write_step ["self"]
  d_Device_write_mark : DfM K k_Device "_write_mark" "Device._write_mark" s_Device_write_mark ["self"]
  d_Device_next_place : DfM K k_Device "_next_place" "Device._next_place" s_Device_next_place ["self"]
  mk_Device : Mk K k_Device d_Device_init.f
  k_PatchError : Addr
  m_PatchError : mg "PatchError" = some (.ref k_PatchError)
  k_BadEdition : Addr
  m_BadEdition : mg "BadEdition" = some (.ref k_BadEdition)
  k_BadPatch : Addr
  m_BadPatch : mg "BadPatch" = some (.ref k_BadPatch)
  k_Beyond : Addr
  m_Beyond : mg "Beyond" = some (.ref k_Beyond)
  k_BadCount : Addr
  m_BadCount : mg "BadCount" = some (.ref k_BadCount)
  k_BadMeet : Addr
  m_BadMeet : mg "BadMeet" = some (.ref k_BadMeet)
  k_BadCode : Addr
  m_BadCode : mg "BadCode" = some (.ref k_BadCode)
  k_TooMany : Addr
  m_TooMany : mg "TooMany" = some (.ref k_TooMany)
  k_BadPieces : Addr
  m_BadPieces : mg "BadPieces" = some (.ref k_BadPieces)
  k_BadOrder : Addr
  m_BadOrder : mg "BadOrder" = some (.ref k_BadOrder)
  k_BadMarks : Addr
  m_BadMarks : mg "BadMarks" = some (.ref k_BadMarks)
  k_Underway : Addr
  m_Underway : mg "Underway" = some (.ref k_Underway)
  k_Asleep : Addr
  m_Asleep : mg "Asleep" = some (.ref k_Asleep)
  k_Awake : Addr
  m_Awake : mg "Awake" = some (.ref k_Awake)
  k_BadCell : Addr
  m_BadCell : mg "BadCell" = some (.ref k_BadCell)
  b_all : mg "all" = none
  b_bool : mg "bool" = none
  b_bytes : mg "bytes" = none
  b_enumerate : mg "enumerate" = none
  b_int : mg "int" = none
  b_isinstance : mg "isinstance" = none
  b_len : mg "len" = none
  b_list : mg "list" = none
  b_max : mg "max" = none
  b_min : mg "min" = none
  b_range : mg "range" = none
  b_reversed : mg "reversed" = none
  b_set : mg "set" = none
  b_sorted : mg "sorted" = none
  b_sum : mg "sum" = none
  b_tuple : mg "tuple" = none
  b_zip : mg "zip" = none
/-! ### rules within a comprehension's block -/
theorem ixlK {X : Cx} {K : PySem.W.Frag} (h : X.K = K) : IxR X (rIxL K) := by subst h; exact ix_list
theorem ixtK {X : Cx} {K : PySem.W.Frag} (h : X.K = K) : IxR X (rIxT K) := by subst h; exact ix_tup
theorem ixsK {X : Cx} {K : PySem.W.Frag} (h : X.K = K) : IxR X (rIx K) := by subst h; exact ix_seq
theorem lenK {X : Cx} {K : PySem.W.Frag} (h : X.K = K) : CallR X (.builtin "len") (fun xs H Q => ∃ x n, xs = [x] ∧ LenV K x H n ∧ Q (.int n) H) := by subst h; exact call_len
theorem pg_tupK {X : Cx} {K : PySem.W.Frag} {es : List Expr} {k : Nat} {t : TGs} {n : Nat} {pos : Pos} (hK : X.K = K) (hc : X.calm = true) (h : PGs X es t)
    (hn : (assignEach es X.env).length = n := by rfl) (hst : (assignEach es X.env).findIdx? (·.1) = none := by rfl) : PG X (.Tuple es k pos) (gTup K n t) := by subst hK; exact pg_tup hc h hn hst
/-! ### heaps -/
/-- all but d is as it was -/
def But (d : Addr) (H H' : Hp) : Prop := ∀ b o, b ≠ d → H b = some o → H' b = some o
theorem But.refl (d : Addr) (H : Hp) : But d H H := fun _ _ _ h => h
theorem But.trans {d : Addr} {H H1 H2 : Hp} (a : But d H H1) (b : But d H1 H2) : But d H H2 := fun c o n h => b c o n (a c o n h)
theorem Same.but {d : Addr} {H H' : Hp} (a : Same H H') : But d H H' := fun c o _ h => a c o h
theorem But.put {d : Addr} {H : Hp} {o : HO} : But d H (upd H d o) := fun c u n h => by rw [upd_ne n]; exact h
theorem Same.new {p : Addr} {H : Hp} {o : HO} (n : H p = none) : Same H (upd H p o) := fun c u h => by rw [upd_ne (ne_of_none h n)]; exact h
theorem But.new {d p : Addr} {H : Hp} {o : HO} (n : H p = none) : But d H (upd H p o) := Same.but (Same.new n)
theorem But.at {d p : Addr} {H H' : Hp} {o u : HO} (b : But d H H') (hd : H d = some u) (h : H p = some o) (hn : o ≠ u) : H' p = some o := b p o (ne_of h hd hn) h
theorem But.free {d p : Addr} {H H' : Hp} {u : HO} (b : But d H H') (hd : H d = some u) (h : H' d = some u ∨ ∃ u', H' d = some u') (n : H' p = none) : H p = none := by
  cases e : H p with
  | none => rfl
  | some o =>
    by_cases hp : p = d
    · subst hp
      rcases h with h | ⟨_, h⟩ <;> (rw [n] at h; cases h)
    · rw [b p o hp e] at n; cases n
theorem tup_lst {xs ys : List V} : HO.tup xs ≠ HO.lst ys := by intro z; cases z
theorem sizeS {n : Nat} (h : n ≤ 100000) : n ≤ sizeLine := by rw [sizeLine_eq]; omega
theorem sizeL {n : Nat} (h : n ≤ 100000) : n < sizeLine := by rw [sizeLine_eq]; omega
/-! ### the dice -/
structure Dice (K : PySem.W.Frag) (a : Addr) (ns : List Int) (H : Hp) (d : Addr) : Prop where
  sq : SqL K H a (ns.map V.int)
  len : ns.length ≤ 63
  ex : ∃ p m g : Int, 0 ≤ p ∧ H d = some (.lst [.ref a, .int p, .int m, .int g])
theorem sq_but {K : PySem.W.Frag} {H H' : Hp} {a d : Addr} {ns : List Int} {x : Addr} {xs : List V} (b : But d H H') (hd : H d = some (.lst (.ref x :: xs))) (h : SqL K H a (ns.map V.int)) : SqL K H' a (ns.map V.int) := by
  rcases h with (h | ⟨o, h⟩) | h
  · refine .inl (.inl (b.at hd h ?_))
    intro z
    cases ns with
    | nil => cases z
    | cons n r => cases z
  · exact .inl (.inr ⟨o, b.at hd h (by intro z; cases z)⟩)
  · exact .inr h
section
variable {K : PySem.W.Frag} {a : Addr} {ns : List Int} {d : Addr}
theorem Dice.same {H H' : Hp} (D : Dice K a ns H d) (s : Same H H') : Dice K a ns H' d := by
  obtain ⟨h1, h2, p, m, g, h3, h4⟩ := D
  exact ⟨s.seq h1, h2, p, m, g, h3, s _ _ h4⟩
/-- the dice's list is no tuple, no list of ints -/
theorem Dice.is {H : Hp} (D : Dice K a ns H d) : ∃ xs, H d = some (.lst (.ref a :: xs)) := by
  obtain ⟨h1, h2, p, m, g, h3, h4⟩ := D
  exact ⟨_, h4⟩
theorem Dice.put {H : Hp} {p m g p' m' g' : Int} (h1 : SqL K H a (ns.map V.int)) (h2 : ns.length ≤ 63) (h3 : 0 ≤ p') (h4 : H d = some (.lst [.ref a, .int p, .int m, .int g])) :
    Dice K a ns (upd H d (.lst [.ref a, .int p', .int m', .int g'])) d :=
  ⟨sq_but But.put h4 h1, h2, p', m', g', h3, upd_same⟩
theorem tup_but {H H' : Hp} {p : Addr} {xs : List V} (D : Dice K a ns H d) (b : But d H H') (h : H p = some (.tup xs)) : H' p = some (.tup xs) := by
  obtain ⟨ys, e⟩ := D.is
  exact b.at e h tup_lst
theorem ints_but {H H' : Hp} {p : Addr} {ms : List Int} (D : Dice K a ns H d) (b : But d H H') (h : H p = some (.lst (ms.map V.int))) : H' p = some (.lst (ms.map V.int)) := by
  obtain ⟨ys, e⟩ := D.is
  refine b.at e h ?_
  intro z
  cases ms with
  | nil => cases z
  | cons n r => cases z
theorem none_but {H H' : Hp} {p : Addr} (D : Dice K a ns H d) (D' : Dice K a ns H' d) (b : But d H H') (h : H' p = none) : H p = none := by
  obtain ⟨ys, e⟩ := D.is
  obtain ⟨ys', e'⟩ := D'.is
  exact b.free e (.inr ⟨_, e'⟩) h
theorem Dice.ne {H : Hp} {p : Addr} (D : Dice K a ns H d) (h : H p = none) : p ≠ d := by
  obtain ⟨ys, e⟩ := D.is
  exact (ne_of_none e h).symm
/-- what was made since H0 may be changed -/
theorem But.fresh {H0 H : Hp} {p : Addr} {o : HO} (b : But d H0 H) (h : H0 p = none) : But d H0 (upd H p o) := fun c u n e => by rw [upd_ne (ne_of_none e h)]; exact b c u n e
theorem Dice.fresh {H0 H : Hp} {p : Addr} {o : HO} (D0 : Dice K a ns H0 d) (b : But d H0 H) (h : H0 p = none) (D : Dice K a ns H d) : Dice K a ns (upd H p o) d := by
  obtain ⟨ys, e⟩ := D0.is
  obtain ⟨h1, h2, q, m, g, h3, h4⟩ := D
  exact ⟨sq_but (But.fresh b h) e D0.sq, h2, q, m, g, h3, by rw [upd_ne (D0.ne h).symm]; exact h4⟩
end
/-- _law_dice(script) -/
def spDice (K : PySem.W.Frag) : Sp := fun vs H Q _ => ∃ (a : Addr) (ns : List Int), vs = [.ref a] ∧ SqL K H a (ns.map V.int) ∧ ns.length ≤ 63 ∧ ∀ H' d, Same H H' → H d = none → Dice K a ns H' d → Q (.ref d) H'
/-- _law_next(d, n): any number below n -/
def spNext (K : PySem.W.Frag) : Sp := fun vs H Q _ => ∃ (a : Addr) (ns : List Int) (d : Addr) (n : Int), vs = [.ref d, .int n] ∧ Dice K a ns H d ∧ 1 ≤ n ∧ n < 1073741824 ∧ ∀ H' r, But d H H' → Dice K a ns H' d → 0 ≤ r → r < n → Q (.int r) H'
section
variable {P : Program} {w : World} {K : PySem.W.Frag} {mg : Str → Option Value} {base : Heap}
theorem at_map {ns : List Int} {i : Nat} {x : V} (h : (ns.map V.int)[i]? = some x) : ∃ z, x = V.int z ∧ ns[i]? = some z := by
  rw [List.getElem?_map] at h
  cases e : ns[i]? with
  | none => rw [e] at h; cases h
  | some z => rw [e] at h; exact ⟨z, (Option.some.inj h).symm, rfl⟩
theorem ok_law_dice (T : All K mg) : FnOk P w K mg base CX0 1 T.d_law_dice.f T.d_law_dice.fd ["_law_script"] (spDice K) := by
  refine T.d_law_dice.F.ok sc_law_dice (fun vs H Q E h => ?_) (fun cdv A outer s H vs Q E hr h => ?_)
  · obtain ⟨a, ns, rfl, _⟩ := h
    rfl
  · obtain ⟨a, ns, rfl, hS, hl, k⟩ := h
    refine ⟨_, (pss_cons 
      (ps_set (i := 1) sc_law_dice.nd rfl (Or.inl rfl) pe_int) (pss_cons 
      (ps_for PassesOwn.never rfl (pi_list (pv 0)) (pg_name (i := 2) sc_law_dice.nd rfl (Or.inl rfl)) (pss_one 
      (ps_set (i := 1) sc_law_dice.nd rfl (Or.inl rfl) (pe_op op_mod (pe_op op_add (pe_op op_add (pe_op op_mul (pv 1) pe_int) (pe_op op_mul (pe_op op_mod (pe_callTy call_int1 (by rfl) T.b_int PyProof.Rows.boot_int (pa_cons (pv 2) pa_nil)) pe_int) pe_int)) pe_int) pe_int)))) (pss_one 
      (ps_ret (pe_lst (pa_cons (pv 0) (pa_cons pe_int (pa_cons (pe_op op_mul (pv 1) (pe_callTy call_int1 (by rfl) T.b_int PyProof.Rows.boot_int (pa_cons (pe_cmpR op_gt (pe_callB call_len (by rfl) T.b_len PySem.boot_len (pa_cons (pv 0) pa_nil)) pe_int (nomark _)) pa_nil))) (pa_cons pe_int pa_nil))))))))), ?_⟩
    refine ⟨_, rfl, a, rfl, ⟨_, hS⟩, for_list (K := K) (a := a) (xs := ns.map V.int) (fun i σ H' => ∃ (m : Int) (v : Option V), σ = [some (.ref a), some (.int m), v] ∧ H' = H ∧ 0 ≤ m ∧ m < 2147483647)
      ⟨0, none, rfl, rfl, by decide, by decide⟩ (fun i σ H' _ ⟨_, _, _, e, _⟩ => by rw [e]; exact hS) ?_ ?_⟩
    · rintro i y σ H' hi ⟨m, v, rfl, rfl, h0, h1⟩
      obtain ⟨z, rfl, _⟩ := at_map hi
      refine ⟨_, rfl, _, _, rfl, rfl, .inl ⟨by omega, by omega⟩, _, rfl, .inl ⟨_, rfl, _, _, rfl, rfl, (by show (0 : Int) < 2147483647; decide), ?_⟩⟩
      have b0 : 0 ≤ z % 2147483647 := Int.emod_nonneg _ (by decide)
      have b1 : z % 2147483647 < 2147483647 := Int.emod_lt_of_pos _ (by decide)
      refine ⟨_, _, rfl, rfl, .inl ⟨by omega, by omega⟩, _, _, rfl, rfl, _, _, rfl, rfl, _, _, rfl, rfl, (by show (0 : Int) < 2147483647; decide), ?_⟩
      exact ⟨_, _, rfl, rfl, Int.emod_nonneg _ (by decide), Int.emod_lt_of_pos _ (by decide)⟩
    · rintro σ H' ⟨m, v, rfl, rfl, h0, h1⟩
      refine ⟨_, rfl, _, rfl, _, rfl, _, ns.length, rfl, .inl ⟨_, hS, by rw [List.length_map]⟩, _, _, rfl, rfl, .inr ⟨_, rfl, _, _, rfl, rfl, .inl ⟨by omega, by omega⟩, sizeS (by show 4 ≤ 100000; decide), fun d hd => ?_⟩⟩
      exact k _ d (Same.new hd) hd ⟨(Same.new hd).seq hS, hl, 0, _, 0, by decide, upd_same⟩
theorem ok_law_next (T : All K mg) : FnOk P w K mg base CX0 1 T.d_law_next.f T.d_law_next.fd ["_law_dice_here", "_law_many"] (spNext K) := by
  refine T.d_law_next.F.ok sc_law_next (fun vs H Q E h => ?_) (fun cdv A outer s H vs Q E hr h => ?_)
  · obtain ⟨_, _, d, n, rfl, _⟩ := h
    rfl
  · obtain ⟨a, ns, d, n, rfl, ⟨hS, hl, p, m, g, hp, hd⟩, n1, n2, k⟩ := h
    refine ⟨_, (pss_cons 
      (ps_if (pt_cmpR op_gt (pe_ix ix_list (pv 0) pe_int (fun _ _ => rfl)) pe_int (nomark _)) (pss_cons 
      (ps_set (i := 2) sc_law_next.nd rfl (Or.inl rfl) (pe_op op_mod (pe_callTy call_int1 (by rfl) T.b_int PyProof.Rows.boot_int (pa_cons (pe_ix ix_list (pv 0) pe_int (fun _ _ => rfl)) pa_nil)) (pv 1))) (pss_cons 
      (ps_asg (pe_op op_fdiv (pe_ix ix_list (pv 0) pe_int (fun _ _ => rfl)) (pv 1)) (pg_sub (pv 0) pe_int set_list)) (pss_one 
      (ps_ret (pv 2))))) pss_nil) (pss_cons 
      (ps_asg (pe_op op_add (pe_ix ix_list (pv 0) pe_int (fun _ _ => rfl)) pe_int) (pg_sub (pv 0) pe_int set_list)) (pss_cons 
      (ps_if (pt_cmpR op_le (pe_ix ix_list (pv 0) pe_int (fun _ _ => rfl)) (pe_callB call_len (by rfl) T.b_len PySem.boot_len (pa_cons (pe_ix ix_list (pv 0) pe_int (fun _ _ => rfl)) pa_nil)) (nomark _)) (pss_cons 
      (ps_set (i := 3) sc_law_next.nd rfl (Or.inl rfl) (pe_ix ix_list (pe_ix ix_list (pv 0) pe_int (fun _ _ => rfl)) (pe_op op_sub (pe_ix ix_list (pv 0) pe_int (fun _ _ => rfl)) pe_int) (fun _ _ => rfl))) (pss_cons 
      (ps_asg (pe_ifExp (pt_cmpR op_ge (pv 3) (pe_op op_pow pe_int pe_int) (nomark _)) (pe_op op_fdiv (pv 3) (pv 1)) pe_int) (pg_sub (pv 0) pe_int set_list)) (pss_one 
      (ps_ret (pe_op op_mod (pe_callTy call_int1 (by rfl) T.b_int PyProof.Rows.boot_int (pa_cons (pv 3) pa_nil)) (pv 1)))))) pss_nil) (pss_cons 
      (ps_asg (pe_op op_mod (pe_callTy call_int1 (by rfl) T.b_int PyProof.Rows.boot_int (pa_cons (pe_op op_mul (pe_ix ix_list (pv 0) pe_int (fun _ _ => rfl)) pe_int) pa_nil)) pe_int) (pg_sub (pv 0) pe_int set_list)) (pss_one 
      (ps_ret (pe_op op_mod (pe_op op_fdiv (pe_ix ix_list (pv 0) pe_int (fun _ _ => rfl)) pe_int) (pv 1)))))))), ?_⟩
    have i0 : ∀ {x0 x1 x2 x3 : V}, atI [x0, x1, x2, x3] 0 = some x0 := rfl
    have i1 : ∀ {x0 x1 x2 x3 : V}, atI [x0, x1, x2, x3] 1 = some x1 := rfl
    have i2 : ∀ {x0 x1 x2 x3 : V}, atI [x0, x1, x2, x3] 2 = some x2 := rfl
    have i3 : ∀ {x0 x1 x2 x3 : V}, atI [x0, x1, x2, x3] 3 = some x3 := rfl
    have npos : 0 < n := by omega
    refine ⟨_, rfl, d, _, _, _, rfl, rfl, SqL.of hd, i3, _, _, rfl, rfl, _, rfl, ite2 (fun hg => ?_) fun hg => ?_⟩
    · refine ⟨_, rfl, d, _, _, _, rfl, rfl, SqL.of hd, i3, .inl ⟨_, rfl, _, rfl, _, _, rfl, rfl, npos, ?_⟩⟩
      refine ⟨_, rfl, d, _, _, _, rfl, rfl, SqL.of hd, i3, _, rfl, _, _, rfl, rfl, ⟨npos, n2⟩, _, rfl, d, _, _, _, rfl, rfl, hd, rfl, _, rfl, ?_⟩
      exact k _ _ But.put (Dice.put hS hl hp hd) (Int.emod_nonneg _ (by omega)) (Int.emod_lt_of_pos _ npos)
    · refine ⟨_, rfl, d, _, _, _, rfl, rfl, SqL.of hd, i1, _, _, rfl, rfl, _, rfl, d, _, _, _, rfl, rfl, hd, rfl, ?_⟩
      have hd1 : (upd H d (.lst [V.ref a, V.int (p + 1), V.int m, V.int g])) d = some (.lst [V.ref a, V.int (p + 1), V.int m, V.int g]) := upd_same
      have hS1 : SqL K (upd H d (.lst [V.ref a, V.int (p + 1), V.int m, V.int g])) a (ns.map V.int) := sq_but But.put hd hS
      refine ⟨_, rfl, d, _, _, _, rfl, rfl, SqL.of hd1, i1, _, rfl, d, _, _, _, rfl, rfl, SqL.of hd1, i0, _, _, rfl, .inl ⟨_, hS1, rfl⟩, _, _, rfl, rfl, _, rfl, ite2 (fun hc => ?_) fun hc => ?_⟩
      · have hc' : p + 1 ≤ (ns.length : Int) := by
          have := of_decide_eq_true hc
          rw [List.length_map] at this
          exact this
        obtain ⟨j, hj⟩ : ∃ j : Nat, p = (j : Int) := ⟨p.toNat, by omega⟩
        have hlt : j < ns.length := by omega
        have hat : atI (ns.map V.int) (p + 1 - 1) = some (V.int ns[j]) := at_of (j := j) (by omega) (by rw [List.getElem?_map, List.getElem?_eq_getElem hlt]; rfl)
        refine ⟨_, rfl, d, _, _, _, rfl, rfl, SqL.of hd1, i0, _, rfl, d, _, _, _, rfl, rfl, SqL.of hd1, i1, _, _, rfl, rfl, a, _, _, _, rfl, rfl, hS1, hat, ?_⟩
        refine ⟨_, rfl, _, _, rfl, rfl, ⟨by decide, by decide, by decide⟩, _, _, rfl, rfl, _, rfl, ite2 (fun hb => ?_) fun hb => ?_⟩
        · refine ⟨_, rfl, _, rfl, _, _, rfl, rfl, ⟨npos, n2⟩, _, rfl, d, _, _, _, rfl, rfl, hd1, rfl, ?_⟩
          refine ⟨_, rfl, .inl ⟨_, rfl, _, rfl, _, _, rfl, rfl, npos, ?_⟩⟩
          exact k _ _ (But.put.trans But.put) (Dice.put hS1 hl (by omega) hd1) (Int.emod_nonneg _ (by omega)) (Int.emod_lt_of_pos _ npos)
        · refine ⟨_, rfl, d, _, _, _, rfl, rfl, hd1, rfl, ?_⟩
          refine ⟨_, rfl, .inl ⟨_, rfl, _, rfl, _, _, rfl, rfl, npos, ?_⟩⟩
          exact k _ _ (But.put.trans But.put) (Dice.put hS1 hl (by omega) hd1) (Int.emod_nonneg _ (by omega)) (Int.emod_lt_of_pos _ npos)
      · refine ⟨_, rfl, d, _, _, _, rfl, rfl, SqL.of hd1, i2, _, _, rfl, rfl, .inr ⟨by decide, by decide⟩, .inl ⟨_, rfl, _, _, rfl, rfl, (by show (0 : Int) < 2147483647; decide), _, rfl, d, _, _, _, rfl, rfl, hd1, rfl, ?_⟩⟩
        have hd2 : (upd (upd H d (.lst [V.ref a, V.int (p + 1), V.int m, V.int g])) d (.lst [V.ref a, V.int (p + 1), V.int (m * 48271 % 2147483647), V.int g])) d = some (.lst [V.ref a, V.int (p + 1), V.int (m * 48271 % 2147483647), V.int g]) := upd_same
        refine ⟨_, rfl, d, _, _, _, rfl, rfl, SqL.of hd2, i2, _, _, rfl, rfl, ⟨by decide, by decide⟩, _, rfl, _, _, rfl, rfl, npos, ?_⟩
        exact k _ _ (But.put.trans But.put) (Dice.put hS1 hl (by omega) hd1) (Int.emod_nonneg _ (by omega)) (Int.emod_lt_of_pos _ npos)
end
/-! ### enumerate(tuple) -/
open AutoSeq1 (wpAny_loadPart') in
set_option maxHeartbeats 1000000 in
theorem meets_enumT (t : Addr) (items : Array Value) :
    Meets (Builtin.«enumerate.__new__» ⟨[.type "enumerate", .ref t], []⟩) (fun _ R s => s.heap.IsTuple t items ∧
      R (.ok (.ret (.ref (s.heap.push { cls := .type "tuple_iterator", data := .fields #[.ref t, .int 0 0] }).objs.size)))
        { s with heap := (s.heap.push { cls := .type "tuple_iterator", data := .fields #[.ref t, .int 0 0] }).push { cls := .type "enumerate", data := .fields #[.none, .bool false, .ref s.heap.objs.size, rawInt 0, .none, .none] } }) :=
  .of_wp fun prog w A R s h => by
    obtain ⟨hp, g, d, tk, os⟩ := s; obtain ⟨hl, h⟩ := h
    have hsub := sub_enumerate
    have q1 : ∀ {A' : Around} {E : Value → Shared → Prop} {Q : Value → Shared → Prop}, Q (.ref hp.objs.size) ⟨hp.push { cls := .type "tuple_iterator", data := .fields #[.ref t, .int 0 0] }, g, d, tk, os⟩ → wpAny (model prog w) A' (pyIter (.ref t)) Q E ⟨hp, g, d, tk, os⟩ :=
      fun q => (begins_tuple t items).iter prog w _ _ ⟨hp, g, d, tk, os⟩ _ hl q
    wp_walk using q1
    refine wpAny_stack_any fun st => wpAny_pure ?_
    split
    · rename_i c _ _ _ _ _
      cases (c == Value.type "enumerate")
      · wp_walk using q1
        exact ⟨_, rfl, h⟩
      · wp_walk using q1
        exact ⟨_, rfl, h⟩
    · wp_walk using q1
      exact ⟨_, rfl, h⟩
theorem call_enumT {prog : Program} {w : World} {A : Around} {E : Value → Shared → Prop} {s : Shared} {t : Addr} {items : Array Value} {Q : Value → Shared → Prop} (ht : s.heap.IsTuple t items)
    (h : ∀ h', IsEnum h' (s.heap.objs.size + 1) s.heap.objs.size 0 .none → h'.IsTupleIter s.heap.objs.size t 0 → h'.objs.size = s.heap.objs.size + 2 →
      (∀ b o, s.heap.get? b = some o → h'.get? b = some o) → Q (.ref (s.heap.objs.size + 1)) { s with heap := h' }) :
    wpAny (model prog w) A (call (.type "enumerate") [.ref t]) Q E s := by
  refine callType_new F.called_enumerate (by decide) (F.typeCall_enumerate_1 _) (F.newCall_enumerate_1 _) (fun obj => F.args_object_init_2 obj _) F.entry_enumerate_new
    (meets_enumT t items) ⟨ht, ?_⟩
  have hz : (s.heap.push { cls := .type "tuple_iterator", data := .fields #[.ref t, .int 0 0] }).objs.size = s.heap.objs.size + 1 := Heap.size_push ..
  show _ ∧ _
  rw [hz]
  have he : IsEnum ((s.heap.push { cls := .type "tuple_iterator", data := .fields #[.ref t, .int 0 0] }).push
      { cls := .type "enumerate", data := .fields #[.none, .bool false, .ref s.heap.objs.size, rawInt 0, .none, .none] }) (s.heap.objs.size + 1) s.heap.objs.size 0 .none := by
    have := Heap.get?_push_size (s.heap.push { cls := .type "tuple_iterator", data := .fields #[.ref t, .int 0 0] })
      (o := { cls := .type "enumerate", data := .fields #[.none, .bool false, .ref s.heap.objs.size, rawInt 0, .none, .none] }) rfl
    rw [hz] at this; exact this
  refine ⟨⟨_, he, rfl⟩, h _ he ⟨_, Heap.get?_push_of_some _ (Heap.get?_push_size _ rfl), rfl, rfl⟩ (by rw [Heap.size_push, hz]) fun b o x => Heap.get?_push_of_some _ (Heap.get?_push_of_some _ x)⟩
theorem pyNext_enumT_end {prog : Program} {w : World} {A : Around} {E : Value → Shared → Prop} {s : Shared} {e it t : Addr} {i : Nat} {c : Int} {items : Array Value} {old : Value} {Q : Option Value → Shared → Prop} (hh : A.handled = none)
    (he : IsEnum s.heap e it c old) (hit : s.heap.IsTupleIter it t i) (ht : s.heap.IsTuple t items) (hx : items[i]? = none)
    (hQ : ∀ h', Heap.ExtBut it s.heap h' → Q none { s with heap := h' }) : wpAny (model prog w) A (pyNext (.ref e)) Q E s := by
  have hT : s.TypeIs (.ref e) "enumerate" := ⟨_, he, rfl⟩
  unfold pyNext
  refine wpAny_bind (wpAny_attempt (wpAny_callSpecial?_slot (name := Str.ofString "__next__") hT F.slot_enumerate_next
    (wpAny_call_entry F.slot_enumerate_next hT F.entry_enumerate_next ?_ (F.args_enumerate_next_1 _))))
  show wpAny _ _ (field (.ref e) 2 >>= _) _ _ _
  refine wpAny_bind (wpAny_field he rfl (x := .ref it) rfl ?_)
  refine wpAny_bind (wpAny_nextOf_tuple_end (by exact hh) hit ht hx fun h' x he' hx' => ?_)
  obtain ⟨o, ho, hc⟩ := hx'
  refine wpAny_bind (wpAny_isInstance (T := "StopIteration") (b := true) ⟨o, ho, hc⟩ isSubtype_stop ?_)
  exact wpAny_pure (hQ _ he')
/-- the tuple at a, each item in a new pair -/
def Itet (K : PySem.W.Frag) (a : Addr) : It :=
  ⟨fun i H => ∃ (xs : List V) (x : V), SqT K H a xs ∧ xs[i]? = some x, fun i H v H' => ∃ T x, v = .ref T ∧ H T = none ∧ H' = upd H T (.tup [.int (i : Nat), x]) ∧ ∀ xs, SqT K H a xs → xs[i]? = some x, fun i H => ∃ xs : List V, SqT K H a xs ∧ xs.length ≤ i⟩
theorem turn_enumT {P : Program} {w : World} {K : PySem.W.Frag} {elts : List Expr} {kk : Nat} {tpos : Pos} (a e it : Addr) :
    Turn P w K (.Tuple elts kk tpos) (Itet K a) [e, it] e (fun i h => (∃ old, IsEnum h e it ((i : Nat) : Int) old) ∧ h.IsTupleIter it a i ∧ e ≠ it ∧ a ≠ it ∧ e ≠ a) where
  mem := by simp
  obj := fun i h st b hb => by
    obtain ⟨⟨old, he⟩, ⟨o, ho, hc, hd⟩, _⟩ := st
    have e' : b = e ∨ b = it := by simpa using hb
    rcases e' with z | z
    · rw [z]; exact ⟨_, he, fun v q => nomatch q⟩
    · rw [z]; exact ⟨o, ho, fun v q => by rw [hd] at q; cases q⟩
  keep := fun i h h' st k => let ⟨⟨old, he⟩, hi, hne⟩ := st; ⟨⟨old, k e (by simp) _ he⟩, hi.at fun o q => k it (by simp) o q, hne⟩
  item := by
    intro X hP hw hK hc i pins s σ H E I hf st hg
    subst hP hw hK
    obtain ⟨⟨old, he⟩, hit, hne, hne2, hne3⟩ := st
    obtain ⟨xs, x, hq, hx⟩ := hg
    obtain ⟨its, rv, p, hz⟩ := I.tuple hq
    obtain ⟨u, hu, ru⟩ := rv.get hx
    have hel : e < s.heap.objs.size := Heap.lt_size he
    have hil : it < s.heap.objs.size := by obtain ⟨_, q, _⟩ := hit; exact Heap.lt_size q
    have ht : s.heap.IsTuple a its.toArray := p
    have hlt : i < its.toArray.size := by
      have := (List.getElem?_eq_some_iff.mp hu).1
      simpa using this
    refine wpAny_pyNext_enum_itemD (Draws.tuple (A := X.A.in1) (by exact I.ok.hd hc) it a hne2 its.toArray) he ⟨hit, ht⟩ hlt hne (by simp; exact ⟨hne, hne3⟩) fun y h' tk hPy ho hst' hT hsz hk => ?_
    have ey : y = u := by
      have z : its[i]? = some y := by simpa using hPy
      rw [hu] at z; exact (Option.some.inj z).symm
    subst ey
    refine ⟨_, rfl, wpAny_letOwnedTupleGo_enum (s := { s with heap := h', toks := tk + 1 }) ho fun h'' he' sb => ?_⟩
    have hT2 : h''.get? s.heap.objs.size = some { cls := .type "tuple", data := .seq #[.int i tk, y] } := (sb.2 _ (Nat.ne_of_gt hel)).trans hT
    have new : ObjOk X.prog X.w (upd H s.heap.objs.size (.tup [.int (i : Nat), x])) h'' s.heap.objs.size (.tup [.int (i : Nat), x]) :=
      ⟨by show 2 ≤ sizeLine; decide, [.int i tk, y], .cons ⟨_, rfl⟩ (.cons ru .nil), ⟨_, hT2, rfl, _, rfl⟩⟩
    have I1 : Inv X pins σ (upd H s.heap.objs.size (.tup [.int (i : Nat), x])) { s with heap := h'', toks := tk + 1 } :=
      I.turnedNew (ch := [e, it]) (fun b ob hb q => (sb.2 b (fun z => hb (by simp [z]))).trans (hk b ob (fun z => hb (by simp [z])) (fun z => hb (by simp [z])) q)) hf (Nat.le_refl _) new
    refine ⟨.ref s.heap.objs.size, _, I1, rfl, ⟨_, x, rfl, I.hok.fresh (Nat.le_refl _), rfl, fun ys hy => by rw [I.tuple_inj hy hq]; exact hx⟩, ⟨⟨y, ?_⟩, hst'.1.at fun o q => (sb.2 it (Ne.symm hne)).trans q, hne, hne2, hne3⟩, fun b hb => ?_⟩
    · have e1 : ((i + 1 : Nat) : Int) = (i : Int) + 1 := by omega
      rw [e1]; exact he'
    · have hb' : b < s.heap.objs.size := by
        have e' : b = e ∨ b = it := by simpa using hb
        rcases e' with z | z
        · rw [z]; exact hel
        · rw [z]; exact hil
      rw [upd_ne (Nat.ne_of_lt hb')]
      exact (hf b hb).1
  done := by
    intro X hP hw hK hc i pins s σ H E I hf st hg
    subst hP hw hK
    obtain ⟨⟨old, he⟩, hit, hne, hne2, hne3⟩ := st
    obtain ⟨xs, hq, hx⟩ := hg
    obtain ⟨its, rv, p, hz⟩ := I.tuple hq
    obtain ⟨f0, f1, f2, f3, f4, f5⟩ := hf it (by simp)
    have hl := rv.length
    have ht : s.heap.IsTuple a its.toArray := p
    exact pyNext_enumT_end (I.ok.hd hc) he hit ht (by simp; omega) fun h' eb => ⟨rfl, I.turned (t' := s.toks) (fun b o hb q => eb b o hb q) f0 f1 f3 f4 f5⟩
  self := fun A i s Q E st h => let ⟨⟨_, he⟩, _⟩ := st; wpAny_pyIter_enum he h
def iEnumT (K : PySem.W.Frag) (ta : TA) : TI := fun σ H R => ta σ H fun vs H1 => ∃ a xs, vs = [.ref a] ∧ SqT K H1 a xs ∧ R (Itet K a) H1
theorem pi_enumT {X : Cx} {e : Expr} {ta : TA} {p pos tpos : Pos} {elts : List Expr} {kk : Nat} (hg : Gl X "enumerate") (hm : X.mg "enumerate" = none) (ha : PA X [e] ta) (hs : starEach [e] X.env = [(false, eval e X.env)] := by rfl) :
    PI X (.Tuple elts kk tpos) (.Call (.Name "enumerate" p) [e] [] pos) (iEnumT X.K ta) := by
  refine ⟨fun pins s σ H R I h => ?_⟩
  refine Call_ (ld_blt I hg hm boot_enumerate (PyProof.Rows.callWith_type1 (thn (ha.run pos pins s σ H _ I h) fun us s1 ⟨vs, H1, I1, r1, q1⟩ => ?_) hs rfl))
  obtain ⟨a, xs, ex, hq, q⟩ := q1
  subst ex
  cases r1 with
  | cons r rr =>
    cases rr
    cases r
    obtain ⟨its, rv, p', hz⟩ := I1.tuple hq
    have ht : s1.heap.IsTuple a its.toArray := p'
    have hal : a < s1.heap.objs.size := by obtain ⟨_, q', _⟩ := id ht; exact Heap.lt_size q'
    refine call_enumT ht fun h' he hit hsz hk => wpAny_pyIter_enum he ?_
    have I2 : Inv X pins σ H1 { s1 with heap := h' } := I1.kept (t' := s1.toks) hk
    refine ⟨s1.heap.objs.size + 1, [s1.heap.objs.size + 1, s1.heap.objs.size], _, _, H1, rfl, I2, turn_enumT a (s1.heap.objs.size + 1) s1.heap.objs.size, ⟨⟨.none, he⟩, hit, Nat.succ_ne_self _, Nat.ne_of_lt hal, Nat.ne_of_gt (Nat.lt_succ_of_lt hal)⟩, fun b hb => ?_, q⟩
    have e' : b = s1.heap.objs.size + 1 ∨ b = s1.heap.objs.size := by simpa using hb
    have hle : s1.heap.objs.size ≤ b := by
      rcases e' with z | z
      · rw [z]; exact Nat.le_add_right _ _
      · rw [z]; exact Nat.le_refl _
    exact I1.fpOk hle (I1.hok.fresh hle)
theorem walk_enumT {K : PySem.W.Frag} {a : Addr} {xs : List V} : Walk (Itet K a) xs.length (fun H => SqT K H a xs) (YPair (fun i => some (.int (i : Nat))) (fun i => xs[i]?)) := by
  refine ⟨fun i _ hi q => ⟨xs, xs[i], q, by simp [hi]⟩, fun _ q => ⟨xs, q, Nat.le_refl _⟩, fun i H v H' _ q y => ?_⟩
  obtain ⟨T, x, h1, h2, h3, h4⟩ := y
  exact ⟨T, .int (i : Nat), x, h1, h2, h3, rfl, h4 xs q⟩
theorem walk_byt {x : Array UInt8} : Walk (Itb x) x.size (fun _ => True) (fun i H v H' => H' = H ∧ ∃ c, x[i]? = some c ∧ v = .int ((c.toNat : Nat) : Int)) :=
  ⟨fun _ _ hi _ => hi, fun _ _ => Nat.le_refl _, fun _ _ _ _ _ _ y => y⟩
/-- the i-th byte -/
theorem byt_at {bs : List Int} {i : Nat} {c : UInt8} (hb : B8 bs) (h : (byteArr bs)[i]? = some c) : bs[i]? = some ((c.toNat : Nat) : Int) := by
  have h1 : (bs.map fun n : Int => n.toNat.toUInt8)[i]? = some c := by
    have : (byteArr bs)[i]? = (bs.map fun n : Int => n.toNat.toUInt8)[i]? := by unfold byteArr; simp
    rw [← this]; exact h
  have hl : i < bs.length := by
    have := (List.getElem?_eq_some_iff.mp h1).1
    simpa using this
  have h2 := byte_at (j := i) hb (List.getElem?_eq_getElem hl)
  rw [List.getD_eq_getElem?_getD, h1] at h2
  rw [List.getElem?_eq_getElem hl, ← h2]
  rfl
/-! ### max(list of ints, default=int) -/
theorem args_maxD (a v : Value) : argsOk "max" ⟨[a], [(Str.ofString "default", v)]⟩ := by unfold argsOk; kernel_rfl
section
variable {prog : Program} {w : World} {A : Around} {R : Result → Shared → Prop} {I S : Addr} {fp wr : List Addr} {n : Nat} {P : Nat → Value → Prop} {St : Nat → Heap → Prop} {f : Nat → Int} {kw : List (Str × Value)}
theorem maxD_turns (W : Walks prog w A.in1 I fp wr n P St) (num : ∀ i v, P i v → ∃ t, v = Value.int (f i) t) (apart : S ∉ fp) : ∀ (left j b : Nat) (s : Shared) (best : Value) (c : Nat), n = j + 1 + left → St (j + 1) s.heap → P b best → b ≤ j → (∀ i, i ≤ j → f i ≤ f b) →
    s.heap.get? S = some { cls := .type "list", dict := none, data := .seq #[best, best] c, slots := #[] } →
    (∀ b v h' tk, b < n → P b v → (∀ i, i < n → f i ≤ f b) → (∀ a o, a ∉ wr → a ≠ S → s.heap.get? a = some o → h'.get? a = some o) → R (.ok (.ret v)) { s with heap := h', toks := tk }) →
    codeAny (model prog w) A (.builtin "max.loop" ⟨[.ref I, .none, .ref S], kw⟩) R s := by
  have outside : S ∉ wr := fun z => apart (W.sub _ z)
  have nm : (toString "max" ++ toString ".loop" : String) = "max.loop" := by decide
  intro left
  induction left with
  | zero =>
    intro j b s best c en st hb bj top hS fin
    refine codeAny_builtin F.entry_max_loop ?_
    rw [Around.under_plainId F.plain_max_loop _]
    refine wpAny_bind (wpAny_seqItems hS rfl (wpAny_bind (wpAny_tryCatch (W.done s _ _ (by rw [en]; exact st) fun h' tk kept => ?_))))
    refine wpAny_bind (wpAny_updateSeq (kept S _ outside hS) rfl (wpAny_bind (wpAny_letGo (wpAny_pure ?_))))
    exact fin b best _ tk (by omega) hb (fun i hi => top i (by omega)) fun a o ha hs e => (Heap.get?_update_other _ _ (Ne.symm hs)).trans (kept a o ha e)
  | succ left ih =>
    intro j b s best c en st hb bj top hS fin
    refine codeAny_builtin F.entry_max_loop ?_
    rw [Around.under_plainId F.plain_max_loop _]
    refine wpAny_bind (wpAny_seqItems hS rfl (wpAny_bind (wpAny_tryCatch (W.item (j + 1) s _ _ (by omega) st fun v h' tk hv st' kept => ?_))))
    have hS1 := kept S _ outside hS
    refine wpAny_bind (wpAny_pure ?_)
    refine wpAny_bind (wpAny_tryCatch (wpAny_holding (wpAny_bind (CmpOf.ints_gt f num (j + 1) b v best _ _ _ hv hb ?_))))
    refine wpAny_bind (wpAny_holding (wpAny_truthy_bool (wpAny_bind (wpAny_letGo (wpAny_pure ?_)))))
    by_cases gt : f (j + 1) > f b
    · rw [if_pos (by exact decide_eq_true gt)]
      refine wpAny_bind ?_
      refine wpAny_updateSeq hS1 rfl (wpAny_bind (wpAny_letGo ?_))
      rw [nm]
      refine wpAny_pure ⟨plainId_quiet F.plain_max_loop _, ?_⟩
      refine ih (j + 1) (j + 1) _ v c (by omega) (W.frame _ _ _ st' fun a ha o e => ?_) hv (Nat.le_refl _) (fun i hi => ?_) (Heap.get?_update_self _ hS1 rfl) fun b' v' h2 tk2 lt hv' top' kept' => ?_
      · exact (Heap.get?_update_other _ _ (fun z : S = a => apart (by rw [z]; exact ha))).trans e
      · by_cases e : i = j + 1
        · rw [e]; omega
        · have := top i (by omega)
          omega
      · exact fin b' v' h2 tk2 lt hv' top' fun a o ha hs e => kept' a o ha hs ((Heap.get?_update_other _ _ (Ne.symm hs)).trans (kept a o ha e))
    · rw [if_neg (by intro z; exact gt (of_decide_eq_true z))]
      refine wpAny_bind (wpAny_letGo ?_)
      rw [nm]
      refine wpAny_pure ⟨plainId_quiet F.plain_max_loop _, ?_⟩
      refine ih (j + 1) b _ best c (by omega) st' hb (by omega) (fun i hi => ?_) hS1 fun b' v' h2 tk2 lt hv' top' kept' => ?_
      · by_cases e : i = j + 1
        · rw [e]; omega
        · exact top i (by omega)
      · exact fin b' v' h2 tk2 lt hv' top' fun a o ha hs e => kept' a o ha hs (kept a o ha e)
end
theorem call_maxD {prog : Program} {w : World} {A : Around} {E : Value → Shared → Prop} {s : Shared} {l : Addr} {its : List Value} {ns : List Int} {d : Value} {Q : Value → Shared → Prop} (hh : A.handled = none) (hl : s.heap.IsList l its.toArray) (hi : ∀ i v, its[i]? = some v → ∃ t, v = Value.int (ns.getD i 0) t) (len : its.length = ns.length)
    (h0 : ns = [] → ∀ h' tk, (∀ b o, s.heap.get? b = some o → h'.get? b = some o) → Q d { s with heap := h', toks := tk })
    (h1 : ∀ m t h' tk, m ∈ ns → (∀ y, y ∈ ns → y ≤ m) → (∀ b o, s.heap.get? b = some o → h'.get? b = some o) → Q (Value.int m t) { s with heap := h', toks := tk }) :
    wpAny (model prog w) A (call (.builtin "max") [.ref l] [(Str.ofString "default", d)]) Q E s := by
  have nm : (toString "max" ++ toString ".loop" : String) = "max.loop" := by decide
  have below : l < s.heap.objs.size := by obtain ⟨_, q, _⟩ := id hl; exact Heap.lt_size q
  refine PyProof.Rows.kmk_tree F.kind_max F.plain_max F.entry_max (args_maxD _ _) ?_
  refine wpAny_bind (wpAny_of_eq (show Builtin.Builtins.bindParams "max" ["key", "default"] 0 ⟨[], [(Str.ofString "default", d)]⟩ = pure [none, some d] from rfl) (wpAny_bind (wpAny_pure ?_)))
  refine wpAny_bind (wpAny_pyIter_list hl (wpAny_bind (wpAny_newList ?_ (Nat.zero_le _))))
  rw [nm]
  have sz : (s.heap.push { cls := .type "list_iterator", data := .fields #[.ref l, .int 0 0] }).objs.size = s.heap.objs.size + 1 := Heap.size_push ..
  refine wpAny_pure ⟨plainId_quiet F.plain_max_loop _, ?_⟩
  have W := Walks.list (prog := prog) (w := w) (A := A.in1) hh s.heap.objs.size l (Nat.ne_of_lt below) its.toArray
  have hn : its.toArray.size = ns.length := by rw [List.size_toArray]; exact len
  have gI : ((s.heap.push { cls := .type "list_iterator", data := .fields #[.ref l, .int 0 0] }).push (PyProof.Rows.seqObj "list" #[] 0)).IsListIter s.heap.objs.size l 0 := ⟨_, Heap.get?_push_of_some _ (Heap.get?_push_size _ rfl), rfl, rfl⟩
  have gS : ((s.heap.push { cls := .type "list_iterator", data := .fields #[.ref l, .int 0 0] }).push (PyProof.Rows.seqObj "list" #[] 0)).get? (s.heap.push { cls := .type "list_iterator", data := .fields #[.ref l, .int 0 0] }).objs.size = some (PyProof.Rows.seqObj "list" #[] 0) := Heap.get?_push_size _ rfl
  have nS : (s.heap.push { cls := .type "list_iterator", data := .fields #[.ref l, .int 0 0] }).objs.size ≠ s.heap.objs.size := by rw [sz]; exact Nat.succ_ne_self _
  have old : ∀ b o, s.heap.get? b = some o → ((s.heap.push { cls := .type "list_iterator", data := .fields #[.ref l, .int 0 0] }).push (PyProof.Rows.seqObj "list" #[] 0)).get? b = some o := fun b o e => Heap.get?_push_of_some _ (Heap.get?_push_of_some _ e)
  have gl := hl.at fun o e => old l o e
  have away : ∀ b o, s.heap.get? b = some o → b ∉ [s.heap.objs.size] ∧ b ≠ (s.heap.push { cls := .type "list_iterator", data := .fields #[.ref l, .int 0 0] }).objs.size := fun b o e => by
    have := Heap.lt_size e
    constructor
    · intro hm; rw [List.mem_singleton.mp hm] at this; exact Nat.lt_irrefl _ this
    · rw [sz]; exact Nat.ne_of_lt (Nat.lt_succ_of_lt this)
  refine codeAny_builtin F.entry_max_loop ?_
  rw [Around.under_plainId F.plain_max_loop _]
  refine wpAny_bind (wpAny_seqItems gS rfl ?_)
  cases e : ns with
  | nil =>
    have z : its.toArray.size = 0 := by rw [hn, e]; rfl
    refine wpAny_bind (wpAny_tryCatch (W.done _ _ _ (by rw [z]; exact ⟨gI, gl⟩) fun h' tk kept => ?_))
    refine wpAny_bind (wpAny_rule (wpAny_pure ?_))
    exact h0 e _ tk fun b o q => kept b o (away b o q).1 (old b o q)
  | cons y r =>
    have pos : 0 < its.toArray.size := by rw [hn, e]; exact Nat.succ_pos _
    refine wpAny_bind (wpAny_tryCatch (W.item 0 _ _ _ pos ⟨gI, gl⟩ fun v h' tk hv st' kept => ?_))
    have hS1 := kept _ _ (by simpa using nS) gS
    refine wpAny_bind (wpAny_pure ?_)
    refine wpAny_bind ?_
    refine wpAny_updateSeq hS1 rfl ?_
    rw [nm]
    refine wpAny_pure ⟨plainId_quiet F.plain_max_loop _, ?_⟩
    have ap : (s.heap.push { cls := .type "list_iterator", data := .fields #[.ref l, .int 0 0] }).objs.size ∉ [s.heap.objs.size, l] := by
      intro hm
      rcases List.mem_cons.mp hm with hm | hm
      · exact nS hm
      · have q := List.mem_singleton.mp hm
        rw [sz] at q
        rw [← q] at below
        exact absurd below (by simp [Nat.not_lt])
    refine maxD_turns (f := fun i => ns.getD i 0) W (fun i v h => hi i v (by simpa using h)) ap (its.toArray.size - 1) 0 0 _ v _ (by omega) (W.frame _ _ _ st' fun a ha o q => ?_) hv (Nat.le_refl _) (fun i hi => by rw [Nat.le_zero.mp hi]; exact Int.le_refl _) (Heap.get?_update_self _ hS1 rfl) fun b v' h2 tk2 lt hv' top kept' => ?_
    · exact (Heap.get?_update_other _ _ (fun z => ap (by rw [z]; exact ha))).trans q
    · obtain ⟨t, ev⟩ := hi b v' (by simpa using hv')
      subst ev
      refine h1 _ t h2 tk2 ?_ (fun x hx => ?_) fun a o q => kept' a o (away a o q).1 (away a o q).2 ((Heap.get?_update_other _ _ (Ne.symm (away a o q).2)).trans (kept a o (away a o q).1 (old a o q)))
      · have lb : b < ns.length := by rw [← hn]; exact lt
        show ns.getD b 0 ∈ ns
        rw [List.getD_eq_getElem?_getD, List.getElem?_eq_getElem lb]
        exact List.getElem_mem lb
      · obtain ⟨i, hi', rfl⟩ := List.mem_iff_getElem.mp hx
        have := top i (by rw [hn]; exact hi')
        rw [List.getD_eq_getElem?_getD, List.getElem?_eq_getElem hi'] at this
        exact this
/-- max(xs, default=z) of a list of ints -/
def rMaxDf (K : PySem.W.Frag) : List V → List V → Hp → VK → Prop := fun vs zs H Q => ∃ (a : Addr) (ns : List Int) (z : Int), vs = [.ref a] ∧ zs = [.int z] ∧ SqL K H a (ns.map V.int) ∧ (ns = [] → Q (.int z) H) ∧ ∀ m, m ∈ ns → (∀ y, y ∈ ns → y ≤ m) → Q (.int m) H
theorem cr_maxDf {X : Cx} (hc : X.calm = true) : CallRK X (.builtin "max") [Str.ofString "default"] (rMaxDf X.K) := by
  intro pins s σ H vs zs us ws Q I r rz h
  obtain ⟨a, ns, z, rfl, rfl, hs, q0, q1⟩ := h
  obtain ⟨its, rv, hl, _⟩ := I.list hs
  obtain rfl := Vals.ref1 r
  obtain ⟨w1, rfl, e1⟩ := vals1 rz
  have len : its.length = ns.length := by rw [← rv.length, List.length_map]
  refine call_maxD (ns := ns) (I.ok.hd hc) hl.isList (fun i v hv => ?_) len (fun e h' tk hk => ⟨.int z, H, I.kept hk, e1, q0 e⟩) fun m t h' tk hm top hk => ⟨.int m, H, I.kept hk, ⟨t, rfl⟩, q1 m hm top⟩
  have lt : i < ns.length := by rw [← len]; exact (List.getElem?_eq_some_iff.mp hv).1
  obtain ⟨u, hu, ru⟩ := rv.get (i := i) (x := V.int ns[i]) (by rw [List.getElem?_map, List.getElem?_eq_getElem lt]; rfl)
  rw [hv] at hu
  cases hu
  obtain ⟨t, rfl⟩ := ru
  exact ⟨t, by rw [List.getD_eq_getElem?_getD, List.getElem?_eq_getElem lt]; rfl⟩
/-! ### zip(tuple, list) -/
def Itzm (K : PySem.W.Frag) (a b : Addr) : It :=
  ⟨fun i H => ∃ (xs ys : List V) (x y : V), SqT K H a xs ∧ SqL K H b ys ∧ xs[i]? = some x ∧ ys[i]? = some y,
    fun i H v H' => ∃ T x y, v = .ref T ∧ H T = none ∧ H' = upd H T (.tup [x, y]) ∧ (∀ xs, SqT K H a xs → xs[i]? = some x) ∧ ∀ ys, SqL K H b ys → ys[i]? = some y,
    fun i H => ∃ xs ys : List V, SqT K H a xs ∧ SqL K H b ys ∧ i ≤ xs.length ∧ i ≤ ys.length ∧ (i = xs.length ∨ i = ys.length)⟩
theorem turn_zipM {P : Program} {w : World} {K : PySem.W.Frag} {elts : List Expr} {kk : Nat} {tpos : Pos} {a b z TI TO i1 i2 : Addr} (D : ZipSep2 z TI TO i1 i2 [i1, a] [i2, b]) :
    Turn P w K (.Tuple elts kk tpos) (Itzm K a b) [z, TI, TO, i1, i2] z (fun i h => IsZip h z TI TO .none ∧ IsTupOf2 h TI (.ref i1) (.ref i2) ∧ (∃ x y, IsTupOf2 h TO x y) ∧ h.IsTupleIter i1 a i ∧ h.IsListIter i2 b i) where
  mem := by simp
  obj := fun i h st c hc => by
    obtain ⟨hz, hTI, ⟨x, y, hTO⟩, ⟨o1, e1, _, d1⟩, ⟨o2, e2, _, d2⟩⟩ := st
    have which : c = z ∨ c = TI ∨ c = TO ∨ c = i1 ∨ c = i2 := by simpa using hc
    rcases which with rfl | rfl | rfl | rfl | rfl
    · exact ⟨_, hz, fun v q => nomatch q⟩
    · exact ⟨_, hTI, fun v q => nomatch q⟩
    · exact ⟨_, hTO, fun v q => nomatch q⟩
    · exact ⟨o1, e1, fun v q => by rw [d1] at q; cases q⟩
    · exact ⟨o2, e2, fun v q => by rw [d2] at q; cases q⟩
  keep := fun i h h' ⟨hz, hTI, ⟨x, y, hTO⟩, h1, h2⟩ k =>
    ⟨k z (by simp) _ hz, k TI (by simp) _ hTI, ⟨x, y, k TO (by simp) _ hTO⟩, h1.at fun o q => k i1 (by simp) o q, h2.at fun o q => k i2 (by simp) o q⟩
  item := by
    intro X hP hw hK hc i pins s σ H E I hf st hg
    subst hP hw hK
    obtain ⟨hz, hTI, ⟨x0, y0, hTO⟩, h1, h2⟩ := st
    obtain ⟨xs, ys, x, y, hqx, hqy, hx, hy⟩ := hg
    obtain ⟨its, rv, p, _⟩ := I.tuple hqx
    obtain ⟨its2, rv2, p2, _⟩ := I.list hqy
    obtain ⟨u, hu, ru⟩ := rv.get hx
    obtain ⟨u2, hu2, ru2⟩ := rv2.get hy
    have l1 : i < its.toArray.size := by have := (List.getElem?_eq_some_iff.mp hu).1; simpa using this
    have l2 : i < its2.toArray.size := by have := (List.getElem?_eq_some_iff.mp hu2).1; simpa using this
    have hzl : z < s.heap.objs.size := Heap.lt_size hz
    have ht : s.heap.IsTuple a its.toArray := p
    have a1 : a ≠ i1 := by
      intro e; subst e
      obtain ⟨o, ho, c1, _⟩ := ht
      obtain ⟨o', ho', c2, _⟩ := h1
      rw [ho] at ho'; cases ho'
      rw [c1] at c2; exact absurd c2 (by simp)
    have b2 : b ≠ i2 := by
      intro e; subst e
      obtain ⟨o, ho, c1, _⟩ := p2.isList
      obtain ⟨o', ho', c2, _⟩ := h2
      rw [ho] at ho'; cases ho'
      rw [c1] at c2; exact absurd c2 (by simp)
    refine wpAny_pyNext_zipD2_item D (Draws.tuple (A := X.A.in1) (by exact I.ok.hd hc) i1 a a1 its.toArray) (Draws.list (A := X.A.in1) (by exact I.ok.hd hc) i2 b b2 its2.toArray) hz hTI hTO ⟨h1, ht⟩ ⟨h2, p2.isList⟩ l1 l2 fun y1 y2 h' tk e1 e2 z' TO' st1 st2 hT hsz hk => ?_
    have eq1 : y1 = u := by have q : its[i]? = some y1 := by simpa using e1
                            rw [hu] at q; exact (Option.some.inj q).symm
    have eq2 : y2 = u2 := by have q : its2[i]? = some y2 := by simpa using e2
                             rw [hu2] at q; exact (Option.some.inj q).symm
    subst eq1 eq2
    have n1 : i1 ≠ z := fun q => D.zf1 (by rw [← q]; exact D.mem1)
    have n2 : i2 ≠ z := fun q => D.zf2 (by rw [← q]; exact D.mem2)
    refine ⟨_, rfl, wpAny_letOwnedTupleGo_zip (s := { s with heap := h', toks := tk }) z' fun h'' z'' sb => ?_⟩
    have hT2 : h''.get? s.heap.objs.size = some { cls := .type "tuple", data := .seq #[y1, y2] } := (sb.2 _ (Nat.ne_of_gt hzl)).trans hT
    have new : ObjOk X.prog X.w (upd H s.heap.objs.size (.tup [x, y])) h'' s.heap.objs.size (.tup [x, y]) :=
      ⟨by show 2 ≤ sizeLine; decide, [y1, y2], .cons ru (.cons ru2 .nil), ⟨_, hT2, rfl, _, rfl⟩⟩
    have I1 : Inv X pins σ (upd H s.heap.objs.size (.tup [x, y])) { s with heap := h'', toks := tk } :=
      I.turnedNew (ch := [z, TI, TO, i1, i2]) (fun c o hb q => (sb.2 c (fun q' => hb (by simp [q']))).trans (hk c o (fun q' => hb (by simp [q'])) (fun q' => hb (by simp [q'])) (fun q' => hb (by simp [q'])) (fun q' => hb (by simp [q'])) q)) hf (Nat.le_refl _) new
    refine ⟨.ref s.heap.objs.size, _, I1, rfl, ⟨_, x, y, rfl, I.hok.fresh (Nat.le_refl _), rfl, fun l hl => by rw [I.tuple_inj hl hqx]; exact hx, fun l hl => by rw [I.list_inj hl hqy]; exact hy⟩, ⟨z'', ?_, ⟨y1, y2, ?_⟩, ?_, ?_⟩, fun c hcm => ?_⟩
    · exact (sb.2 _ D.TIz).trans (hk _ _ D.TIz D.TITO D.TIi1 D.TIi2 hTI)
    · exact (sb.2 _ D.TOz).trans TO'
    · exact st1.1.at fun o q => (sb.2 _ n1).trans q
    · exact st2.1.at fun o q => (sb.2 _ n2).trans q
    · have hlt : c < s.heap.objs.size := by
        have which : c = z ∨ c = TI ∨ c = TO ∨ c = i1 ∨ c = i2 := by simpa using hcm
        rcases which with rfl | rfl | rfl | rfl | rfl
        · exact hzl
        · exact Heap.lt_size hTI
        · exact Heap.lt_size hTO
        · obtain ⟨_, e1, _⟩ := h1; exact Heap.lt_size e1
        · obtain ⟨_, e2, _⟩ := h2; exact Heap.lt_size e2
      rw [upd_ne (Nat.ne_of_lt hlt)]
      exact (hf c hcm).1
  done := by
    intro X hP hw hK hc i pins s σ H E I hf st hg
    subst hP hw hK
    obtain ⟨hz, hTI, ⟨x0, y0, hTO⟩, h1, h2⟩ := st
    obtain ⟨xs, ys, hqx, hqy, le1, le2, hend⟩ := hg
    obtain ⟨its, rv, p, _⟩ := I.tuple hqx
    obtain ⟨its2, rv2, p2, _⟩ := I.list hqy
    have q1 := rv.length
    have q2 := rv2.length
    have ht : s.heap.IsTuple a its.toArray := p
    have a1 : a ≠ i1 := by
      intro e; subst e
      obtain ⟨o, ho, c1, _⟩ := ht
      obtain ⟨o', ho', c2, _⟩ := h1
      rw [ho] at ho'; cases ho'
      rw [c1] at c2; exact absurd c2 (by simp)
    have b2 : b ≠ i2 := by
      intro e; subst e
      obtain ⟨o, ho, c1, _⟩ := p2.isList
      obtain ⟨o', ho', c2, _⟩ := h2
      rw [ho] at ho'; cases ho'
      rw [c1] at c2; exact absurd c2 (by simp)
    refine wpAny_pyNext_zipD2_end D (Draws.tuple (A := X.A.in1) (by exact I.ok.hd hc) i1 a a1 its.toArray) (Draws.list (A := X.A.in1) (by exact I.ok.hd hc) i2 b b2 its2.toArray) hz hTI hTO ⟨h1, ht⟩ ⟨h2, p2.isList⟩ (by simp; omega) (by simp; omega) (by simp; omega) fun h' tk hk => ⟨rfl, I.turnedL (ch := [z, TI, TO, i1, i2]) (fun c o hb q =>
      hk c o (fun q' => hb (by simp [q'])) (fun q' => hb (by simp [q'])) (fun q' => hb (by simp [q'])) (fun q' => hb (by simp [q'])) q) hf⟩
  self := fun A i s Q E st h => wpAny_pyIter_zip st.1 h
def iZipM (K : PySem.W.Frag) (ta : TA) : TI := fun σ H R => ta σ H fun vs H1 => ∃ a b xs ys, vs = [.ref a, .ref b] ∧ SqT K H1 a xs ∧ SqL K H1 b ys ∧ R (Itzm K a b) H1
theorem pi_zipM {X : Cx} {e e2 : Expr} {ta : TA} {p pos tpos : Pos} {elts : List Expr} {kk : Nat} (hg : Gl X "zip") (hm : X.mg "zip" = none) (ha : PA X [e, e2] ta)
    (hs : starEach [e, e2] X.env = (false, eval e X.env) :: starEach [e2] X.env := by rfl) (hpl : (backTo pos (starEach [e2] X.env)).any (·.1) = false := by rfl) :
    PI X (.Tuple elts kk tpos) (.Call (.Name "zip" p) [e, e2] [] pos) (iZipM X.K ta) := by
  refine ⟨fun pins s σ H R I h => ?_⟩
  refine Call_ (ld_blt I hg hm PyProof.Rows.boot_zip (PyProof.Rows.callWith_type1 (thn (ha.run pos pins s σ H _ I h) fun us s1 ⟨vs, H1, I1, r1, q1⟩ => ?_) hs hpl))
  obtain ⟨a, b, xs, ys, ex, hqx, hqy, q⟩ := q1
  subst ex
  cases r1 with
  | cons r rr =>
    cases rr with
    | cons r' rr =>
      cases rr
      cases r
      cases r'
      obtain ⟨its, rv, p1, _⟩ := I1.tuple hqx
      obtain ⟨its2, rv2, p2, _⟩ := I1.list hqy
      have ht : s1.heap.IsTuple a its.toArray := p1
      have la : a < s1.heap.objs.size := by obtain ⟨_, z, _⟩ := id ht; exact Heap.lt_size z
      have lb : b < s1.heap.objs.size := p2.lt
      refine zip_begins2 (begins_tuple a its.toArray) (begins_list b its2.toArray) ht p2.isList fun h' hz hTI hTO g1 g2 hsz hk => wpAny_pyIter_zip hz ?_
      have I2 : Inv X pins σ H1 { s1 with heap := h' } := I1.kept (t' := s1.toks) hk
      refine ⟨s1.heap.objs.size + 4, [s1.heap.objs.size + 4, s1.heap.objs.size + 2, s1.heap.objs.size + 3, s1.heap.objs.size, s1.heap.objs.size + 1], _, _, H1, rfl, I2,
        turn_zipM (zip_sep2 (N := s1.heap.objs.size) (fp1 := [a]) (fp2 := [b]) (fun c hc => by rw [List.mem_singleton.mp hc]; exact la) (fun c hc => by rw [List.mem_singleton.mp hc]; exact lb)), ⟨hz, hTI, ⟨_, _, hTO⟩, ⟨_, g1, rfl, rfl⟩, ⟨_, g2, rfl, rfl⟩⟩, fun c hcm => ?_, q⟩
      have which : c = s1.heap.objs.size + 4 ∨ c = s1.heap.objs.size + 2 ∨ c = s1.heap.objs.size + 3 ∨ c = s1.heap.objs.size ∨ c = s1.heap.objs.size + 1 := by simpa using hcm
      have hle : s1.heap.objs.size ≤ c := by
        rcases which with z | z | z | z | z <;> (rw [z]; first | exact Nat.le_add_right _ _ | exact Nat.le_refl _)
      exact I1.fpOk hle (I1.hok.fresh hle)
theorem walk_zipM {K : PySem.W.Frag} {a b : Addr} {xs ys : List V} (hl : xs.length = ys.length) : Walk (Itzm K a b) xs.length (fun H => SqT K H a xs ∧ SqL K H b ys) (YPair (fun i => xs[i]?) (fun i => ys[i]?)) := by
  refine ⟨fun i _ hi q => ?_, fun _ q => ⟨xs, ys, q.1, q.2, Nat.le_refl _, by omega, .inl rfl⟩, fun i H v H' _ q y => ?_⟩
  · have h2 : i < ys.length := by omega
    exact ⟨xs, ys, xs[i], ys[i], q.1, q.2, by simp [hi], by simp [h2]⟩
  · obtain ⟨T, x, z, h1, h2, h3, h4, h5⟩ := y
    exact ⟨T, x, z, h1, h2, h3, h4 xs q.1, h5 ys q.2⟩
/-! ### rows, pieces, cells -/
inductive Cell where
  | old (k : Int) | new (b : Int)
  deriving DecidableEq
inductive Row where
  | copy (b n : Int) | run (b n : Int) | bring (bs : List Int)
  deriving DecidableEq
def Cell.tup : Cell → List V
  | .old k => [.str "old", .int k]
  | .new b => [.str "new", .int b]
def Row.tup : Row → List V
  | .copy b n => [.str "copy", .int b, .int n]
  | .run b n => [.str "run", .int b, .int n]
  | .bring bs => [.str "bring", .byt (byteArr bs)]
def Row.len : Row → Int
  | .copy _ n => n
  | .run _ n => n
  | .bring bs => bs.length
def Row.ok (c : Int) : Row → Prop
  | .copy b n => 0 ≤ b ∧ 1 ≤ n ∧ b + n ≤ c
  | .run b n => 0 ≤ b ∧ b < 256 ∧ 1 ≤ n
  | .bring bs => 1 ≤ (bs.length : Int) ∧ B8 bs
def total : List Row → Int
  | [] => 0
  | r :: l => r.len + total l
theorem total_app : ∀ (a b : List Row), total (a ++ b) = total a + total b
  | [], b => by show total b = 0 + total b; omega
  | r :: a, b => by
    have := total_app a b
    show r.len + total (a ++ b) = r.len + total a + total b
    omega
theorem Row.len_pos {c : Int} : ∀ {r : Row}, r.ok c → 1 ≤ r.len
  | .copy _ _, h => h.2.1
  | .run _ _, h => h.2.2
  | .bring _, h => h.1
theorem total_nn {c : Int} : ∀ {l : List Row}, (∀ r ∈ l, r.ok c) → 0 ≤ total l
  | [], _ => by show (0 : Int) ≤ 0; decide
  | r :: l, h => by
    have a := Row.len_pos (h r List.mem_cons_self)
    have b := total_nn (l := l) fun x hx => h x (List.mem_cons_of_mem _ hx)
    show 0 ≤ r.len + total l
    omega
theorem len_le_total {c : Int} : ∀ {l : List Row}, (∀ r ∈ l, r.ok c) → (l.length : Int) ≤ total l
  | [], _ => by show (0 : Int) ≤ 0; decide
  | r :: l, h => by
    have a := Row.len_pos (h r List.mem_cons_self)
    have b := len_le_total (l := l) fun x hx => h x (List.mem_cons_of_mem _ hx)
    show ((l.length + 1 : Nat) : Int) ≤ r.len + total l
    omega
def CellV (H : Hp) (v : V) (c : Cell) : Prop := ∃ p, v = .ref p ∧ H p = some (.tup c.tup)
def PieceV (H : Hp) (v : V) (r : Row) : Prop := ∃ p, v = .ref p ∧ H p = some (.tup r.tup)
def RowV (H : Hp) (v : V) : Row → Prop
  | .bring bs => ∃ p q, v = .ref p ∧ H p = some (.tup [.str "bring", .ref q]) ∧ H q = some (.lst (bs.map V.int))
  | r => ∃ p, v = .ref p ∧ H p = some (.tup r.tup)
/-- the tuples stay -/
def Tups (H H' : Hp) : Prop := ∀ p xs, H p = some (.tup xs) → H' p = some (.tup xs)
theorem Same.tups {H H' : Hp} (s : Same H H') : Tups H H' := fun p xs h => s p _ h
theorem But.tups {K : PySem.W.Frag} {a : Addr} {ns : List Int} {d : Addr} {H H' : Hp} (b : But d H H') (D : Dice K a ns H d) : Tups H H' := fun p xs h => tup_but D b h
theorem Tups.lst {H : Hp} {p : Addr} {xs : List V} {o : HO} (h : H p = some (.lst xs)) : Tups H (upd H p o) := fun q ys e => by rw [upd_ne (ne_of e h tup_lst)]; exact e
theorem Tups.trans {H H1 H2 : Hp} (a : Tups H H1) (b : Tups H1 H2) : Tups H H2 := fun p xs h => b p xs (a p xs h)
theorem CellV.tups {H H' : Hp} {v : V} {c : Cell} (t : Tups H H') (h : CellV H v c) : CellV H' v c := let ⟨p, e, x⟩ := h; ⟨p, e, t _ _ x⟩
theorem PieceV.tups {H H' : Hp} {v : V} {c : Row} (t : Tups H H') (h : PieceV H v c) : PieceV H' v c := let ⟨p, e, x⟩ := h; ⟨p, e, t _ _ x⟩
theorem RowV.keep {H H' : Hp} {v : V} : ∀ {r : Row}, Tups H H' → (∀ q ns, H q = some (.lst (List.map V.int ns)) → H' q = some (.lst (List.map V.int ns))) → RowV H v r → RowV H' v r
  | .copy _ _, t, _, ⟨p, e, x⟩ => ⟨p, e, t _ _ x⟩
  | .run _ _, t, _, ⟨p, e, x⟩ => ⟨p, e, t _ _ x⟩
  | .bring _, t, l, ⟨p, q, e, x, y⟩ => ⟨p, q, e, t _ _ x, l _ _ y⟩
theorem RowV.same {H H' : Hp} {v : V} {r : Row} (s : Same H H') (h : RowV H v r) : RowV H' v r := h.keep (Same.tups s) (fun q ns e => s _ _ e)
theorem RowV.but {K : PySem.W.Frag} {a : Addr} {ns : List Int} {H H' : Hp} {d : Addr} {v : V} {r : Row} (D : Dice K a ns H d) (b : But d H H') (h : RowV H v r) : RowV H' v r := h.keep (But.tups b D) (fun q ns e => ints_but D b e)
theorem RowV.isRef {H : Hp} {v : V} : ∀ {r : Row}, RowV H v r → ∃ p, v = .ref p
  | .copy _ _, ⟨p, e, _⟩ => ⟨p, e⟩
  | .run _ _, ⟨p, e, _⟩ => ⟨p, e⟩
  | .bring _, ⟨p, _, e, _⟩ => ⟨p, e⟩
theorem pairedMem {α β : Type} {F G : α → β → Prop} : ∀ {l : List α} {m : List β}, Paired F l m → (∀ a ∈ l, ∀ b ∈ m, F a b → G a b) → Paired G l m
  | _, _, .nil, _ => .nil
  | _, _, .cons r t, f => .cons (f _ List.mem_cons_self _ List.mem_cons_self r) (pairedMem t fun a ha b hb => f a (List.mem_cons_of_mem _ ha) b (List.mem_cons_of_mem _ hb))
theorem pairedMap {α β : Type} {F G : α → β → Prop} {l : List α} {m : List β} (h : Paired F l m) (f : ∀ a b, F a b → G a b) : Paired G l m := pairedMem h fun a _ b _ => f a b
theorem pairedApp {α β : Type} {F : α → β → Prop} : ∀ {l l' : List α} {m m' : List β}, Paired F l m → Paired F l' m' → Paired F (l ++ l') (m ++ m')
  | _, _, _, _, .nil, s => s
  | _, _, _, _, .cons r t, s => .cons r (pairedApp t s)
theorem pairedAt {α β : Type} {F : α → β → Prop} : ∀ {l : List α} {m : List β} {i : Nat} {x : α}, Paired F l m → l[i]? = some x → ∃ y, m[i]? = some y ∧ F x y
  | _, _, _, _, .nil, e => by simp at e
  | _, _, 0, _, .cons r _, e => by simp at e; subst e; exact ⟨_, rfl, r⟩
  | _, _, i + 1, x, .cons _ t, e => by
    obtain ⟨y, h1, h2⟩ := pairedAt (i := i) (x := x) t (by simpa using e)
    exact ⟨y, by simpa using h1, h2⟩
theorem pairedAt' {α β : Type} {F : α → β → Prop} : ∀ {l : List α} {m : List β} {i : Nat} {y : β}, Paired F l m → m[i]? = some y → ∃ x, l[i]? = some x ∧ F x y
  | _, _, _, _, .nil, e => by simp at e
  | _, _, 0, _, .cons r _, e => by simp at e; subst e; exact ⟨_, rfl, r⟩
  | _, _, i + 1, y, .cons _ t, e => by
    obtain ⟨x, h1, h2⟩ := pairedAt' (i := i) (y := y) t (by simpa using e)
    exact ⟨x, by simpa using h1, h2⟩
/-- a list of rows at p -/
def RowsAt (H : Hp) (p : Addr) (rows : List Row) : Prop := ∃ vs, H p = some (.lst vs) ∧ Paired (RowV H) vs rows
def PatchAt (H : Hp) (v : V) (rows : List Row) : Prop := ∃ p vs, v = .ref p ∧ H p = some (.tup vs) ∧ Paired (PieceV H) vs rows
def CellsAt (H : Hp) (p : Addr) (cs : List Cell) : Prop := ∃ vs, H p = some (.lst vs) ∧ Paired (CellV H) vs cs
theorem RowsAt.same {H H' : Hp} {p : Addr} {rows : List Row} (s : Same H H') (h : RowsAt H p rows) : RowsAt H' p rows := let ⟨vs, e, r⟩ := h; ⟨vs, s _ _ e, pairedMap r fun _ _ x => x.same s⟩
theorem CellsAt.same {H H' : Hp} {p : Addr} {cs : List Cell} (s : Same H H') (h : CellsAt H p cs) : CellsAt H' p cs := let ⟨vs, e, r⟩ := h; ⟨vs, s _ _ e, pairedMap r fun _ _ x => x.tups (Same.tups s)⟩
theorem PatchAt.tups {H H' : Hp} {v : V} {rows : List Row} (s : Tups H H') (h : PatchAt H v rows) : PatchAt H' v rows := let ⟨p, vs, e, x, r⟩ := h; ⟨p, vs, e, s _ _ x, pairedMap r fun _ _ x => x.tups s⟩
theorem RowsAt.but {K : PySem.W.Frag} {a : Addr} {ns : List Int} {H H' : Hp} {d p : Addr} {rows : List Row} (D : Dice K a ns H d) (b : But d H H') (hn : p ≠ d) (h : RowsAt H p rows) : RowsAt H' p rows :=
  let ⟨vs, e, r⟩ := h; ⟨vs, b _ _ hn e, pairedMap r fun _ _ x => x.but D b⟩
/-- one row more at the end of the list -/
theorem rows_put {H : Hp} {p : Addr} {vs : List V} {rows : List Row} {v : V} {r : Row} (e : H p = some (.lst vs)) (h : Paired (RowV H) vs rows) (hv : RowV H v r) (hq : ∀ bs p' q, r = .bring bs → H p' = some (.tup [.str "bring", .ref q]) → v = .ref p' → q ≠ p) :
    RowsAt (upd H p (.lst (vs ++ [v]))) p (rows ++ [r]) := by
  refine ⟨_, upd_same, pairedApp (pairedMem h fun a ha b _ x => ?_) (.cons ?_ .nil)⟩
  · refine x.keep (Tups.lst e) fun q ns z => ?_
    rw [upd_ne]
    · exact z
    · rintro rfl
      rw [e] at z
      obtain ⟨u, rfl⟩ := x.isRef
      have z' : vs = ns.map V.int := by injection z with z; injection z
      rw [z'] at ha
      obtain ⟨_, _, z2⟩ := List.mem_map.mp ha
      cases z2
  · cases r with
    | copy b n => obtain ⟨u, e1, e2⟩ := hv; exact ⟨u, e1, Tups.lst e _ _ e2⟩
    | run b n => obtain ⟨u, e1, e2⟩ := hv; exact ⟨u, e1, Tups.lst e _ _ e2⟩
    | bring bs =>
      obtain ⟨u, q, e1, e2, e3⟩ := hv
      exact ⟨u, q, e1, Tups.lst e _ _ e2, by rw [upd_ne (hq bs u q rfl e2 e1)]; exact e3⟩
/-! ### _law_bytes, _law_rows, _law_handed, bytes_of, is_number, numbers_of -/
def spBytes (K : PySem.W.Frag) : Sp := fun vs H Q _ => ∃ (a : Addr) (ns : List Int) (d : Addr) (m : Int), vs = [.ref d, .int m] ∧ Dice K a ns H d ∧ 0 ≤ m ∧ m ≤ 1000 ∧
  ∀ H' p bs, But d H H' → Dice K a ns H' d → H p = none → H' p = some (.lst (List.map V.int bs)) → B8 bs → (bs.length : Int) ≤ m → Q (.ref p) H'
def spRows (K : PySem.W.Frag) : Sp := fun vs H Q _ => ∃ (a : Addr) (ns : List Int) (d : Addr) (c m : Int), vs = [.ref d, .int c, .int m] ∧ Dice K a ns H d ∧ 0 ≤ c ∧ c ≤ 1000 ∧ 0 ≤ m ∧ m ≤ 1000 ∧
  ∀ H' p rows, But d H H' → Dice K a ns H' d → H p = none → RowsAt H' p rows → (∀ r ∈ rows, r.ok c) → total rows ≤ m → Q (.ref p) H'
def spIsNum : Sp := fun vs H Q _ => ∃ z lo hi : Int, vs = [.int z, .int lo, .int hi] ∧ Q (.bl (decide (lo ≤ z) && decide (z ≤ hi))) H
def spBytesOf (K : PySem.W.Frag) : Sp := fun vs H Q _ => ∃ (p : Addr) (bs : List Int), vs = [.ref p] ∧ SqL K H p (bs.map V.int) ∧ B8 bs ∧ Q (.byt (byteArr bs)) H
def spNumsOf : Sp := fun vs H Q _ => ∃ bs : List Int, vs = [.byt (byteArr bs)] ∧ B8 bs ∧ bs.length ≤ 100000 ∧ ∀ p, H p = none → Q (.ref p) (upd H p (.lst (bs.map V.int)))
def spHanded : Sp := fun vs H Q _ => ∃ (p : Addr) (rows : List Row) (c : Int), vs = [.ref p] ∧ RowsAt H p rows ∧ (∀ r ∈ rows, r.ok c) ∧ rows.length ≤ 10000 ∧ ∀ H' v, Same H H' → PatchAt H' v rows → Q v H'
section
variable {P : Program} {w : World} {K : PySem.W.Frag} {mg : Str → Option Value} {base : Heap}
theorem ok_is_number (T : All K mg) : FnOk P w K mg base CX0 1 T.d_is_number.f T.d_is_number.fd ["what", "least", "most"] spIsNum := by
  refine T.d_is_number.F.ok sc_is_number (fun vs H Q E h => ?_) (fun cdv A outer s H vs Q E hr h => ?_)
  · obtain ⟨z, lo, hi, rfl, _⟩ := h
    rfl
  · obtain ⟨z, lo, hi, rfl, k⟩ := h
    refine ⟨_, (pss_one 
      (ps_ret (pe_and (pe_callB call_isi (by rfl) T.b_isinstance (by decide +kernel) (pa_cons (pv 0) (pa_cons (pe_bltn (v := .ty "int") (by rfl) T.b_int (by decide +kernel) rfl) pa_nil))) (pe_and (pe_not (pe_callB call_isi (by rfl) T.b_isinstance (by decide +kernel) (pa_cons (pv 0) (pa_cons (pe_bltn (v := .ty "bool") (by rfl) T.b_bool (by decide +kernel) rfl) pa_nil)))) (pe_one (pe_chain op_le op_le (pv 1) (pv 0) (pv 2))))))), ?_⟩
    refine ⟨_, rfl, _, _, _, _, true, rfl, .ty _, .base (.int z), kit_ty (by decide +kernel), true, rfl, iteT ?_⟩
    refine ⟨_, rfl, _, _, _, _, false, rfl, .ty _, .base (.int z), kit_ty (by decide +kernel), false, rfl, true, rfl, iteT ?_⟩
    refine ⟨_, rfl, _, rfl, _, _, rfl, rfl, decide (lo ≤ z), rfl, ?_⟩
    by_cases h1 : lo ≤ z
    · rw [decide_eq_true h1] at k ⊢
      refine iteT ⟨_, rfl, _, _, rfl, rfl, ?_⟩
      exact k
    · rw [decide_eq_false h1] at k ⊢
      exact iteF k
theorem ok_bytes_of (T : All K mg) : FnOk P w K mg base CX0 2 T.d_bytes_of.f T.d_bytes_of.fd ["numbers"] (spBytesOf K) := by
  have G_is_number : FnOk P w K mg base CX0 1 T.d_is_number.f T.d_is_number.fd ["what", "least", "most"] spIsNum := ok_is_number T
  refine T.d_bytes_of.F.ok sc_bytes_of (fun vs H Q E h => ?_) (fun cdv A outer s H vs Q E hr h => ?_)
  · obtain ⟨p, bs, rfl, _⟩ := h
    rfl
  · obtain ⟨p, bs, rfl, hS, hb, k⟩ := h
    refine ⟨_, (pss_cons 
      (ps_for PassesOwn.never rfl (pi_list (pv 0)) (pg_name (i := 1) sc_bytes_of.nd rfl (Or.inl rfl)) (pss_one 
      (ps_if (pt_not (pt_val (pe_call G_is_number (hr.mono (by decide)) rfl T.d_is_number.m T.d_is_number.F.kp T.d_is_number.b .nil pass0 (pa_cons (pv 1) (pa_cons pe_int (pa_cons (pe_glob (v := .int 255) rfl T.c_LAST_BYTE ⟨_, rfl⟩) pa_nil)))))) (pss_one ps_never) pss_nil))) (pss_one 
      (ps_ret (pe_bytesOf rfl (by rfl) T.b_bytes (pv 0))))), ?_⟩
    refine ⟨_, rfl, p, rfl, ⟨_, hS⟩, for_list (K := K) (a := p) (xs := bs.map V.int) (fun i σ H' => ∃ v : Option V, σ = [some (.ref p), v] ∧ H' = H)
      ⟨none, rfl, rfl⟩ (fun i σ H' _ ⟨_, _, e⟩ => by rw [e]; exact hS) ?_ ?_⟩
    · rintro i y σ H' hi ⟨v, rfl, rfl⟩
      obtain ⟨z, rfl, hz⟩ := at_map hi
      have hm := hb z (List.mem_of_getElem? hz)
      refine ⟨_, rfl, z, 0, 255, rfl, _, rfl, ?_⟩
      rw [decide_eq_true hm.1, decide_eq_true (show z ≤ 255 by omega)]
      refine iteF ?_
      exact ⟨_, rfl, rfl⟩
    · rintro σ H' ⟨v, rfl, rfl⟩
      refine ⟨_, rfl, .inr ⟨p, bs, rfl, hS, hb, k⟩⟩
theorem ok_numbers_of (T : All K mg) : FnOk P w K mg base CX0 1 T.d_numbers_of.f T.d_numbers_of.fd ["some"] spNumsOf := by
  refine T.d_numbers_of.F.ok sc_numbers_of (fun vs H Q E h => ?_) (fun cdv A outer s H vs Q E hr h => ?_)
  · obtain ⟨bs, rfl, _⟩ := h
    rfl
  · obtain ⟨bs, rfl, hb, hl, k⟩ := h
    refine ⟨_, (pss_one 
      (ps_ret (pe_listOfB rfl (by rfl) T.b_list (pv 0)))), ?_⟩
    refine ⟨_, rfl, _, rfl, by rw [byteArr_size]; exact sizeS hl, fun q hq => ?_⟩
    rw [bi_make hb]
    exact k q hq
theorem ok_law_bytes (T : All K mg) : FnOk P w K mg base CX0 2 T.d_law_bytes.f T.d_law_bytes.fd ["_law_d", "_law_most"] (spBytes K) := by
  have G_law_next : FnOk P w K mg base CX0 1 T.d_law_next.f T.d_law_next.fd ["_law_dice_here", "_law_many"] (spNext K) := ok_law_next T
  refine T.d_law_bytes.F.ok sc_law_bytes (fun vs H Q E h => ?_) (fun cdv A outer s H vs Q E hr h => ?_)
  · obtain ⟨_, _, d, m, rfl, _⟩ := h
    rfl
  · obtain ⟨a, ns, d, m, rfl, D, m0, m1, k⟩ := h
    refine ⟨_, (pss_cons 
      (ps_set (i := 2) sc_law_bytes.nd rfl (Or.inr rfl) (pe_ix ix_list (pe_lst (pa_cons pe_int (pa_cons pe_int (pa_cons pe_int (pa_cons pe_int pa_nil))))) (pe_call G_law_next (hr.mono (by decide)) rfl T.d_law_next.m T.d_law_next.F.kp T.d_law_next.b .nil pass0 (pa_cons (pv 0) (pa_cons pe_int pa_nil))) (fun _ _ => rfl))) (pss_one 
      (ps_ret (pe_lc (own := [("_law_k", 3)]) (g := gName 3) (tt := tYes) rfl sc_law_bytes.nd (pi_range1 (by rfl) T.b_range (pa_cons (pe_call G_law_next (hr.mono (by decide)) rfl T.d_law_next.m T.d_law_next.F.kp T.d_law_next.b .nil pass0 (pa_cons (pv 0) (pa_cons (pe_op op_add (pv 1) pe_int) pa_nil))) pa_nil)) (blkOk_by (own := [("_law_k", 3)]) (N := ["_law_d", "_law_most", "_law_kinds", "_law_k"]) (sc := defScope s_law_bytes) (by decide +kernel)) (fun _ _ _ _ _ => (pg_name (i := 3) sc_law_bytes.nd rfl (Or.inl rfl))) (fun _ _ _ _ _ => pts_nil) (fun _ _ _ _ _ => (pe_op op_mod (pe_callTy call_int1 (by rfl) T.b_int PyProof.Rows.boot_int (pa_cons (pe_op op_mul (pe_call G_law_next (hr.mono (by decide)) rfl T.d_law_next.m T.d_law_next.F.kp T.d_law_next.b .nil pass0 (pa_cons (pv 0) (pa_cons (pv 2) pa_nil))) (pe_ix (ixlK (K := K) rfl) (pe_lst (pa_cons pe_int (pa_cons pe_int pa_nil))) (pe_callTy call_int1 (by rfl) T.b_int PyProof.Rows.boot_int (pa_cons (pe_cmpR op_lt (pv 2) pe_int (nomark _)) pa_nil)) (fun _ _ => rfl))) pa_nil)) pe_int)))))), ?_⟩
    -- _law_kinds
    refine ⟨sizeS (by show 4 ≤ 100000; decide), fun l hl => ⟨_, rfl, a, ns, d, 4, rfl, D.same (Same.new hl), by decide, by decide, fun H1 r b1 D1 r0 r1 => ?_⟩⟩
    have hl1 : H1 l = some (.lst (List.map V.int [1, 2, 3, 256])) := ints_but (D.same (Same.new hl)) b1 (by exact upd_same)
    obtain ⟨kd, hk, k0, k1⟩ : ∃ kd : Int, atI (List.map V.int [1, 2, 3, 256]) r = some (.int kd) ∧ 1 ≤ kd ∧ kd ≤ 256 := by
      have : r = 0 ∨ r = 1 ∨ r = 2 ∨ r = 3 := by omega
      rcases this with rfl | rfl | rfl | rfl
      · exact ⟨1, rfl, by decide, by decide⟩
      · exact ⟨2, rfl, by decide, by decide⟩
      · exact ⟨3, rfl, by decide, by decide⟩
      · exact ⟨256, rfl, by decide, by decide⟩
    have bb1 : But d H H1 := (But.new hl).trans b1
    refine ⟨l, _, _, _, rfl, rfl, SqL.of hl1, hk, ?_⟩
    -- the comprehension
    refine ⟨_, rfl, _, rfl, _, _, rfl, rfl, a, ns, d, m + 1, rfl, D1, by omega, by omega, fun H2 t b2 D2 t0 t1 => ?_⟩
    refine ⟨t, rfl, by omega, by omega, fun p hp => lc_range (lo := 0) (n := t.toNat) (fun i H3 => ∃ bs : List Int, But d H2 H3 ∧ Dice K a ns H3 d ∧ H3 p = some (.lst (bs.map V.int)) ∧ B8 bs ∧ bs.length ≤ i)
      ⟨[], But.new hp, D2.same (Same.new hp), upd_same, fun n hn => (List.not_mem_nil hn).elim, Nat.le_refl _⟩ ?_ ?_⟩
    · rintro i H3 hi ⟨bs, b3, D3, hp3, hb, hlen⟩
      refine ⟨rfl, ?_⟩
      refine ⟨_, rfl, _, rfl, a, ns, d, kd, rfl, D3, by omega, by omega, fun H4 u b4 D4 u0 u1 => ?_⟩
      refine ⟨sizeS (by show 2 ≤ 100000; decide), fun l2 hl2 => ⟨_, rfl, _, _, rfl, rfl, .inr ⟨_, rfl, ?_⟩⟩⟩
      have e2 : ∃ x : Int, atI (List.map V.int [1, 97]) (if decide (kd < 4) = true then 1 else 0) = some (.int x) ∧ 1 ≤ x ∧ x ≤ 97 := by
        by_cases c : kd < 4
        · rw [decide_eq_true c]; exact ⟨97, rfl, by decide, by decide⟩
        · rw [decide_eq_false c]; exact ⟨1, rfl, by decide, by decide⟩
      obtain ⟨x, hx, x0, x1⟩ := e2
      refine ⟨l2, _, _, _, rfl, rfl, SqL.of (by exact upd_same), hx, _, _, rfl, rfl, .inl ⟨by omega, by omega⟩, .inl ⟨_, rfl, _, _, rfl, rfl, (by show (0 : Int) < 256; decide), ?_⟩⟩
      have hp4 : H4 p = some (.lst (bs.map V.int)) := b4 p _ (D2.ne hp) hp3
      have np : p ≠ l2 := ne_of_none hp4 hl2
      have b5 : But d H2 (upd H4 l2 (.lst (List.map V.int [1, 97]))) := (b3.trans b4).trans (But.new hl2)
      refine ⟨_, (by rw [upd_ne np]; exact hp4), sizeL (by rw [List.length_map]; omega), bs ++ [u * x % 256], But.fresh b5 hp, Dice.fresh D2 b5 hp (D4.same (Same.new hl2)), ?_, ?_, ?_⟩
      · rw [upd_same, List.map_append]; rfl
      · exact hb.app (fun n hn => by
          rw [List.mem_singleton.mp hn]
          exact ⟨Int.emod_nonneg _ (by decide), Int.emod_lt_of_pos _ (by decide)⟩)
      · rw [List.length_append]; show bs.length + 1 ≤ i + 1; omega
    · rintro H3 ⟨bs, b3, D3, hp3, hb, hlen⟩
      exact k H3 p bs ((bb1.trans b2).trans b3) D3 (none_but D D2 (bb1.trans b2) hp) hp3 hb (by omega)
end
section
variable {P : Program} {w : World} {K : PySem.W.Frag} {mg : Str → Option Value} {base : Heap}
theorem RowsAt.at {H : Hp} {p : Addr} {rows : List Row} (h : RowsAt H p rows) : ∃ vs, H p = some (.lst vs) ∧ vs.length = rows.length := by
  obtain ⟨vs, e, r⟩ := h
  exact ⟨vs, e, Paired.length r⟩
theorem ok_law_rows (T : All K mg) : FnOk P w K mg base CX0 2 T.d_law_rows.f T.d_law_rows.fd ["_law_d", "_law_count", "_law_most"] (spRows K) := by
  have G_law_next : FnOk P w K mg base CX0 1 T.d_law_next.f T.d_law_next.fd ["_law_dice_here", "_law_many"] (spNext K) := ok_law_next T
  refine T.d_law_rows.F.ok sc_law_rows (fun vs H Q E h => ?_) (fun cdv A outer s H vs Q E hr h => ?_)
  · obtain ⟨_, _, d, c, m, rfl, _⟩ := h
    rfl
  · obtain ⟨a, ns, d, c, m, rfl, D, c0, c1, m0, m1, k⟩ := h
    refine ⟨_, (pss_cons 
      (ps_par (i := 3) (j := 4) (by rfl) sc_law_rows.nd rfl rfl (by decide) rfl rfl (pa_cons (pe_lst pa_nil) (pa_cons (pe_call G_law_next (hr.mono (by decide)) rfl T.d_law_next.m T.d_law_next.F.kp T.d_law_next.b .nil pass0 (pa_cons (pv 0) (pa_cons (pe_op op_add (pv 2) pe_int) pa_nil))) pa_nil)) (by rfl)) (pss_cons 
      (ps_for PassesOwn.never rfl (pi_range1 (by rfl) T.b_range (pa_cons pe_int pa_nil)) (pg_name (i := 5) sc_law_rows.nd rfl (Or.inl rfl)) (pss_cons 
      (ps_set (i := 6) sc_law_rows.nd rfl (Or.inl rfl) (pe_callB (call_min2 rfl) (by rfl) T.b_min (by decide +kernel) (pa_cons (pv 4) (pa_cons (pe_op op_add pe_int (pe_call G_law_next (hr.mono (by decide)) rfl T.d_law_next.m T.d_law_next.F.kp T.d_law_next.b .nil pass0 (pa_cons (pv 0) (pa_cons (pe_ix ix_list (pe_lst (pa_cons pe_int (pa_cons pe_int (pa_cons pe_int pa_nil)))) (pe_call G_law_next (hr.mono (by decide)) rfl T.d_law_next.m T.d_law_next.F.kp T.d_law_next.b .nil pass0 (pa_cons (pv 0) (pa_cons pe_int pa_nil))) (fun _ _ => rfl)) pa_nil)))) pa_nil)))) (pss_one 
      (ps_if (pt_cmpR op_gt (pv 6) pe_int (nomark _)) (pss_cons 
      (ps_set (i := 7) sc_law_rows.nd rfl (Or.inl rfl) (pe_call G_law_next (hr.mono (by decide)) rfl T.d_law_next.m T.d_law_next.F.kp T.d_law_next.b .nil pass0 (pa_cons (pv 0) (pa_cons pe_int pa_nil)))) (pss_cons 
      (ps_if (PW.pt (pw_and (pt_cmpR op_lt (pv 7) pe_int (nomark _)) (pw_and1 (pt_cmpR op_gt (pv 1) pe_int (nomark _))))) (pss_cons 
      (ps_set (i := 6) sc_law_rows.nd rfl (Or.inl rfl) (pe_callB (call_min2 rfl) (by rfl) T.b_min (by decide +kernel) (pa_cons (pv 6) (pa_cons (pv 1) pa_nil)))) (pss_one 
      (ps_expr (pe_bm PySem.F.plainAttrs_list PySem.F.slot_list_append PySem.F.type_list_append mt_append (pv 3) (pa_cons (pe_tup (pa_cons pe_str (pa_cons (pe_call G_law_next (hr.mono (by decide)) rfl T.d_law_next.m T.d_law_next.F.kp T.d_law_next.b .nil pass0 (pa_cons (pv 0) (pa_cons (pe_op op_add (pe_op op_sub (pv 1) (pv 6)) pe_int) pa_nil))) (pa_cons (pv 6) pa_nil)))) pa_nil))))) (pss_one 
      (ps_if (pt_cmpR op_eq (pv 7) pe_int (nomark _)) (pss_one 
      (ps_expr (pe_bm PySem.F.plainAttrs_list PySem.F.slot_list_append PySem.F.type_list_append mt_append (pv 3) (pa_cons (pe_tup (pa_cons pe_str (pa_cons (pe_op op_mod (pe_callTy call_int1 (by rfl) T.b_int PyProof.Rows.boot_int (pa_cons (pe_op op_mul (pe_call G_law_next (hr.mono (by decide)) rfl T.d_law_next.m T.d_law_next.F.kp T.d_law_next.b .nil pass0 (pa_cons (pv 0) (pa_cons pe_int pa_nil))) pe_int) pa_nil)) pe_int) (pa_cons (pv 6) pa_nil)))) pa_nil)))) (pss_one 
      (ps_expr (pe_bm PySem.F.plainAttrs_list PySem.F.slot_list_append PySem.F.type_list_append mt_append (pv 3) (pa_cons (pe_tup (pa_cons pe_str (pa_cons (pe_lc (own := [("_law_k", 8)]) (g := gName 8) (tt := tYes) rfl sc_law_rows.nd (pi_range1 (by rfl) T.b_range (pa_cons (pv 6) pa_nil)) (blkOk_by (own := [("_law_k", 8)]) (N := ["_law_d", "_law_count", "_law_most", "_law_rows_here", "_law_left", "_law_turn", "_law_n", "_law_pick_here", "_law_k"]) (sc := defScope s_law_rows) (by decide +kernel)) (fun _ _ _ _ _ => (pg_name (i := 8) sc_law_rows.nd rfl (Or.inl rfl))) (fun _ _ _ _ _ => pts_nil) (fun _ _ _ _ _ => (pe_op op_mod (pe_callTy call_int1 (by rfl) T.b_int PyProof.Rows.boot_int (pa_cons (pe_op op_mul (pe_call G_law_next (hr.mono (by decide)) rfl T.d_law_next.m T.d_law_next.F.kp T.d_law_next.b .nil pass0 (pa_cons (pv 0) (pa_cons pe_int pa_nil))) pe_int) pa_nil)) pe_int))) pa_nil))) pa_nil))))))) (pss_one 
      (ps_set (i := 4) sc_law_rows.nd rfl (Or.inl rfl) (pe_op op_sub (pv 4) (pv 6)))))) pss_nil)))) (pss_one 
      (ps_ret (pv 3))))), ?_⟩
    refine ⟨sizeS (by show 0 ≤ 100000; decide), fun p hp => ⟨_, rfl, _, rfl, _, _, rfl, rfl, a, ns, d, m + 1, rfl, D.same (Same.new hp), by omega, by omega, fun H1 l b1 D1 l0 l1 => ⟨_, _, rfl, ?_⟩⟩⟩
    have npd : p ≠ d := D.ne hp
    have B1 : But d H H1 := (But.new hp).trans b1
    have hp1 : H1 p = some (.lst []) := b1 p _ npd upd_same
    refine ⟨40, rfl, by decide, by decide, for_range (lo := 0) (n := 40) (fun i σ H2 => ∃ (l : Int) (rows : List Row) (v5 v6 v7 v8 : Option V),
      σ = [some (.ref d), some (.int c), some (.int m), some (.ref p), some (.int l), v5, v6, v7, v8] ∧ But d H H2 ∧ Dice K a ns H2 d ∧ RowsAt H2 p rows ∧ (∀ r ∈ rows, r.ok c) ∧ 0 ≤ l ∧ total rows + l ≤ m ∧ rows.length ≤ i)
      ⟨l, [], none, none, none, none, rfl, B1, D1, ⟨[], hp1, .nil⟩, fun r hr => (List.not_mem_nil hr).elim, l0, by show 0 + l ≤ m; omega, Nat.le_refl _⟩ ?_ ?_⟩
    · rintro i σ H2 hi ⟨l, rows, v5, v6, v7, v8, rfl, b2, D2, R2, hok, hl0, htot, hlen⟩
      -- _law_n = min(..)
      refine ⟨_, rfl, _, rfl, sizeS (by show 3 ≤ 100000; decide), fun q hq => ⟨_, rfl, a, ns, d, 3, rfl, D2.same (Same.new hq), by decide, by decide, fun H3 r b3 D3 r0 r1 => ?_⟩⟩
      have hq3 : H3 q = some (.lst (List.map V.int [3, 12, 40])) := ints_but (D2.same (Same.new hq)) b3 (by exact upd_same)
      obtain ⟨kd, hk, k0, k1⟩ : ∃ kd : Int, atI (List.map V.int [3, 12, 40]) r = some (.int kd) ∧ 1 ≤ kd ∧ kd ≤ 40 := by
        have : r = 0 ∨ r = 1 ∨ r = 2 := by omega
        rcases this with rfl | rfl | rfl
        · exact ⟨3, rfl, by decide, by decide⟩
        · exact ⟨12, rfl, by decide, by decide⟩
        · exact ⟨40, rfl, by decide, by decide⟩
      refine ⟨q, _, _, _, rfl, rfl, SqL.of hq3, hk, a, ns, d, kd, rfl, D3, by omega, by omega, fun H4 t b4 D4 t0 t1 => ?_⟩
      have b24 : But d H2 H4 := (But.new hq).trans (b3.trans b4)
      have R4 : RowsAt H4 p rows := R2.but D2 b24 npd
      refine ⟨_, _, rfl, rfl, _, _, rfl, ?_⟩
      generalize hn : (if 1 + t < l then 1 + t else l) = n
      have hnl : n ≤ l := by rw [← hn]; split <;> omega
      have hn41 : n ≤ 40 := by rw [← hn]; split <;> omega
      refine ⟨_, rfl, _, _, rfl, rfl, _, rfl, ite2 (fun hpos => ?_) fun hneg => ?_⟩
      · have hpos : 0 < n := of_decide_eq_true hpos
        refine ⟨_, rfl, a, ns, d, 6, rfl, D4, by decide, by decide, fun H5 pk b5 D5 p0 p1 => ?_⟩
        have b05 : But d H H5 := b2.trans (b24.trans b5)
        have R5 : RowsAt H5 p rows := R4.but D4 b5 npd
        obtain ⟨vs, hv, hvl⟩ := R5.at
        -- what comes behind an append
        have fin : ∀ (r : Row) (H7 : Hp) (tv : V) (n' : Int), But d H5 H7 → Dice K a ns H7 d → r.ok c → r.len = n' → n' ≤ n → RowV H7 tv r → (∀ bs p' q, r = .bring bs → H7 p' = some (.tup [.str "bring", .ref q]) → tv = .ref p' → q ≠ p) → 
            H7 p = some (.lst vs) ∧ (∃ rows' : List Row, But d H (upd H7 p (.lst (vs ++ [tv]))) ∧ Dice K a ns (upd H7 p (.lst (vs ++ [tv]))) d ∧ RowsAt (upd H7 p (.lst (vs ++ [tv]))) p rows' ∧ (∀ r ∈ rows', r.ok c) ∧ 0 ≤ l - n' ∧ total rows' + (l - n') ≤ m ∧ rows'.length ≤ i + 1) := by
          intro r H7 tv n' b7 D7 hro hrl hnn hrv hbr
          have hv7 : H7 p = some (.lst vs) := b7 p _ npd hv
          obtain ⟨vs', hv', hp'⟩ := R5.but D5 b7 npd
          have ev : vs' = vs := by rw [hv7] at hv'; injection hv' with z; injection z with z; exact z.symm
          subst ev
          refine ⟨hv7, rows ++ [r], But.fresh (b05.trans b7) hp, Dice.fresh D (b05.trans b7) hp D7, rows_put hv7 hp' hrv hbr, fun x hx => ?_, by omega, ?_, ?_⟩
          · rcases List.mem_append.mp hx with hx | hx
            · exact hok x hx
            · rw [List.mem_singleton.mp hx]; exact hro
          · rw [total_app]
            have : total [r] = n' := by show r.len + 0 = n'; omega
            omega
          · rw [List.length_append]; show rows.length + 1 ≤ i + 1; omega
        refine ⟨_, rfl, _, _, rfl, rfl, _, rfl, ite2 (fun h1 => ⟨_, rfl, _, _, rfl, rfl, _, rfl, ite2 (fun h2 => ?copy) (fun h2 => ?e1)⟩) (fun h1 => iteF ?e2)⟩
        case copy =>
          have h2 : 0 < c := of_decide_eq_true h2
          refine ⟨_, rfl, _, rfl, _, _, rfl, ?_⟩
          generalize hm : (if c < n then c else n) = n'
          have hm1 : n' ≤ n := by rw [← hm]; split <;> omega
          have hm2 : n' ≤ c := by rw [← hm]; split <;> omega
          have hm3 : 1 ≤ n' := by rw [← hm]; split <;> omega
          refine ⟨_, rfl, .inl ⟨rfl, _, SqL.of hv⟩, _, rfl, _, rfl, _, rfl, _, _, rfl, rfl, _, _, rfl, rfl, a, ns, d, c - n' + 1, rfl, D5, by omega, by omega, fun H6 b b6 D6 z0 z1 => ⟨_, rfl, sizeS (by show 3 ≤ 100000; decide), fun tq htq => ?_⟩⟩
          obtain ⟨hv7, rows', q1, q2, q3, q4, q5, q6, q7⟩ := fin (.copy b n') (upd H6 tq (.tup [.str "copy", .int b, .int n'])) (.ref tq) n' (b6.trans (But.new htq)) (D6.same (Same.new htq)) ⟨z0, hm3, by omega⟩ rfl hm1 ⟨tq, rfl, upd_same⟩ (fun _ _ _ e => by cases e)
          refine ⟨p, vs, _, rfl, rfl, hv7, sizeL (by omega), _, rfl, _, rfl, _, _, rfl, rfl, ?_⟩
          exact ⟨_, rows', _, _, _, _, rfl, q1, q2, q3, q4, q5, q6, q7⟩
        all_goals
          refine ⟨_, rfl, rfl, _, rfl, ite2 (fun h3 => ?_) fun h3 => ?_⟩
          · refine ⟨_, rfl, .inl ⟨rfl, _, SqL.of hv⟩, _, rfl, a, ns, d, 3, rfl, D5, by decide, by decide, fun H6 u b6 D6 u0 u1 => ⟨_, _, rfl, rfl, .inl ⟨by omega, by omega⟩, .inl ⟨_, rfl, _, _, rfl, rfl, (by show (0 : Int) < 256; decide), _, rfl, sizeS (by show 3 ≤ 100000; decide), fun tq htq => ?_⟩⟩⟩
            obtain ⟨hv7, rows', q1, q2, q3, q4, q5, q6, q7⟩ := fin (.run (u * 97 % 256) n) (upd H6 tq (.tup [.str "run", .int (u * 97 % 256), .int n])) (.ref tq) n (b6.trans (But.new htq)) (D6.same (Same.new htq)) ⟨Int.emod_nonneg _ (by decide), Int.emod_lt_of_pos _ (by decide), by omega⟩ rfl (Int.le_refl _) ⟨tq, rfl, upd_same⟩ (fun _ _ _ e => by cases e)
            refine ⟨p, vs, _, rfl, rfl, hv7, sizeL (by omega), _, rfl, _, rfl, _, _, rfl, rfl, ?_⟩
            exact ⟨_, rows', _, _, _, _, rfl, q1, q2, q3, q4, q5, q6, q7⟩
          · refine ⟨_, rfl, .inl ⟨rfl, _, SqL.of hv⟩, _, rfl, n, rfl, by omega, by omega, fun e he => lc_range (lo := 0) (n := n.toNat) (fun j H6 => ∃ bs : List Int, But d H5 H6 ∧ Dice K a ns H6 d ∧ H6 e = some (.lst (bs.map V.int)) ∧ B8 bs ∧ bs.length = j)
              ⟨[], But.new he, D5.same (Same.new he), upd_same, fun n hn => (List.not_mem_nil hn).elim, rfl⟩ ?_ ?_⟩
            · rintro j H6 hj ⟨bs, b6, D6, he6, hb, hblen⟩
              refine ⟨rfl, ?_⟩
              refine ⟨_, rfl, a, ns, d, 3, rfl, D6, by decide, by decide, fun H7 u b7 D7 u0 u1 => ⟨_, _, rfl, rfl, .inl ⟨by omega, by omega⟩, .inl ⟨_, rfl, _, _, rfl, rfl, (by show (0 : Int) < 256; decide), ?_⟩⟩⟩
              have he7 : H7 e = some (.lst (bs.map V.int)) := b7 e _ (D5.ne he) he6
              refine ⟨_, he7, sizeL (by rw [List.length_map]; omega), bs ++ [u * 97 % 256], But.fresh (b6.trans b7) he, Dice.fresh D5 (b6.trans b7) he D7, ?_, ?_, ?_⟩
              · rw [upd_same, List.map_append]; rfl
              · exact hb.app (fun n hn => by
                  rw [List.mem_singleton.mp hn]
                  exact ⟨Int.emod_nonneg _ (by decide), Int.emod_lt_of_pos _ (by decide)⟩)
              · rw [List.length_append]; show bs.length + 1 = j + 1; omega
            · rintro H6 ⟨bs, b6, D6, he6, hb, hblen⟩
              refine ⟨sizeS (by show 2 ≤ 100000; decide), fun tq htq => ?_⟩
              have nep : e ≠ p := (ne_of_none hv he).symm
              obtain ⟨hv7, rows', q1, q2, q3, q4, q5, q6, q7⟩ := fin (.bring bs) (upd H6 tq (.tup [.str "bring", .ref e])) (.ref tq) n (b6.trans (But.new htq)) (D6.same (Same.new htq)) ⟨by omega, hb⟩ (by show (bs.length : Int) = n; omega) (Int.le_refl _)
                ⟨tq, e, rfl, upd_same, by rw [upd_ne (ne_of_none he6 htq)]; exact he6⟩ (fun bs' p' q' e1 e2 e3 => by
                  cases e3
                  rw [upd_same] at e2
                  injection e2 with e2
                  injection e2 with e2
                  injection e2 with _ e2
                  injection e2 with e2 _
                  injection e2 with e2
                  rw [← e2]; exact nep)
              refine ⟨p, vs, _, rfl, rfl, hv7, sizeL (by omega), _, rfl, _, rfl, _, _, rfl, rfl, ?_⟩
              exact ⟨_, rows', _, _, _, _, rfl, q1, q2, q3, q4, q5, q6, q7⟩
      · exact ⟨l, rows, _, _, _, _, rfl, b2.trans b24, D4, R4, hok, hl0, htot, by omega⟩
    · rintro σ H2 ⟨l, rows, v5, v6, v7, v8, rfl, b2, D2, R2, hok, hl0, htot, hlen⟩
      refine ⟨_, rfl, ?_⟩
      exact k H2 p rows b2 D2 hp R2 hok (by omega)
theorem ok_law_handed (T : All K mg) : FnOk P w K mg base CX0 3 T.d_law_handed.f T.d_law_handed.fd ["_law_rows_here"] spHanded := by
  have G_bytes_of : FnOk P w K mg base CX0 2 T.d_bytes_of.f T.d_bytes_of.fd ["numbers"] (spBytesOf K) := ok_bytes_of T
  refine T.d_law_handed.F.ok sc_law_handed (fun vs H Q E h => ?_) (fun cdv A outer s H vs Q E hr h => ?_)
  · obtain ⟨p, _, _, rfl, _⟩ := h
    rfl
  · obtain ⟨p, rows, c, rfl, ⟨vs, hv, hpr⟩, hok, hlen, k⟩ := h
    have hvl : vs.length = rows.length := Paired.length hpr
    refine ⟨_, (pss_cons 
      (ps_set (i := 1) sc_law_handed.nd rfl (Or.inl rfl) (pe_lst pa_nil)) (pss_cons 
      (ps_for PassesOwn.never rfl (pi_list (pv 0)) (pg_name (i := 2) sc_law_handed.nd rfl (Or.inl rfl)) (pss_one 
      (ps_expr (pe_bm PySem.F.plainAttrs_list PySem.F.slot_list_append PySem.F.type_list_append mt_append (pv 1) (pa_cons (pe_ifExp (pt_cmpR op_eq (pe_ix ix_tup (pv 2) pe_int (fun _ _ => rfl)) pe_str (nomark _)) (pe_tup (pa_cons pe_str (pa_cons (pe_call G_bytes_of (hr.mono (by decide)) rfl T.d_bytes_of.m T.d_bytes_of.F.kp T.d_bytes_of.b .nil pass0 (pa_cons (pe_ix ix_tup (pv 2) pe_int (fun _ _ => rfl)) pa_nil)) pa_nil))) (pe_callTy call_tuple_of (by rfl) T.b_tuple (by decide +kernel) (pa_cons (pv 2) pa_nil))) pa_nil))))) (pss_one 
      (ps_ret (pe_callTy call_tuple_of (by rfl) T.b_tuple (by decide +kernel) (pa_cons (pv 1) pa_nil)))))), ?_⟩
    refine ⟨sizeS (by show 0 ≤ 100000; decide), fun f hf => ?_⟩
    refine ⟨_, rfl, p, rfl, ⟨vs, SqL.of (Same.new hf _ _ hv)⟩, for_list (K := K) (a := p) (xs := vs) (fun i σ H2 => ∃ (ws : List V) (v : Option V), σ = [some (.ref p), some (.ref f), v] ∧ Same H H2 ∧ H2 f = some (.lst ws) ∧ Paired (PieceV H2) ws (rows.take i))
      ⟨[], none, rfl, Same.new hf, upd_same, .nil⟩ (fun i σ H2 _ ⟨_, _, _, s2, _⟩ => SqL.of (s2 _ _ hv)) ?_ ?_⟩
    · rintro i y σ H2 hi ⟨ws, v, rfl, s2, hf2, hw⟩
      obtain ⟨r, hr1, hr2⟩ := pairedAt hpr hi
      have hro := hok r (List.mem_of_getElem? hr1)
      have hwl : ws.length = (rows.take i).length := Paired.length hw
      have hil : i < rows.length := (List.getElem?_eq_some_iff.mp hr1).1
      have hwi : ws.length = i := by rw [hwl, List.length_take]; omega
      have htk : rows.take (i + 1) = rows.take i ++ [r] := by rw [List.take_add_one, hr1]; rfl
      -- what comes behind the append
      have fin : ∀ (H3 : Hp) (tv : V), Same H2 H3 → PieceV H3 tv r → H3 f = some (.lst ws) ∧ Same H (upd H3 f (.lst (ws ++ [tv]))) ∧ Paired (PieceV (upd H3 f (.lst (ws ++ [tv])))) (ws ++ [tv]) (rows.take (i + 1)) := by
        intro H3 tv s3 hpv
        have hf3 := s3 _ _ hf2
        refine ⟨hf3, fun b o e => ?_, ?_⟩
        · rw [upd_ne (ne_of_none e hf)]; exact s3 _ _ (s2 _ _ e)
        · rw [htk]
          exact pairedApp (pairedMap hw fun _ _ x => (x.tups (Same.tups s3)).tups (Tups.lst hf3)) (.cons (hpv.tups (Tups.lst hf3)) .nil)
      refine ⟨_, rfl, .inl ⟨rfl, _, SqL.of hf2⟩, ?_⟩
      cases r with
      | copy b n =>
        obtain ⟨t, rfl, ht⟩ := hr2.same s2
        refine ⟨_, rfl, t, _, _, _, rfl, rfl, SqT.of ht, rfl, rfl, _, rfl, ite2 (fun h => absurd h (by decide)) fun _ => ?_⟩
        refine ⟨_, rfl, t, _, rfl, .inr ⟨SqT.of ht, ?_⟩⟩
        obtain ⟨q1, q2, q3⟩ := fin H2 (.ref t) (Same.refl _) ⟨t, rfl, ht⟩
        exact ⟨f, ws, _, rfl, rfl, q1, sizeL (by omega), _, _, rfl, q2, upd_same, q3⟩
      | run b n =>
        obtain ⟨t, rfl, ht⟩ := hr2.same s2
        refine ⟨_, rfl, t, _, _, _, rfl, rfl, SqT.of ht, rfl, rfl, _, rfl, ite2 (fun h => absurd h (by decide)) fun _ => ?_⟩
        refine ⟨_, rfl, t, _, rfl, .inr ⟨SqT.of ht, ?_⟩⟩
        obtain ⟨q1, q2, q3⟩ := fin H2 (.ref t) (Same.refl _) ⟨t, rfl, ht⟩
        exact ⟨f, ws, _, rfl, rfl, q1, sizeL (by omega), _, _, rfl, q2, upd_same, q3⟩
      | bring bs =>
        obtain ⟨t, q, rfl, ht, hq⟩ := hr2.same s2
        refine ⟨_, rfl, t, _, _, _, rfl, rfl, SqT.of ht, rfl, rfl, _, rfl, ite2 (fun _ => ?_) fun h => absurd (by decide) h⟩
        refine ⟨_, rfl, t, _, _, _, rfl, rfl, SqT.of ht, rfl, q, bs, rfl, SqL.of hq, hro.2, sizeS (by show 2 ≤ 100000; decide), fun t2 ht2 => ?_⟩
        obtain ⟨q1, q2, q3⟩ := fin (upd H2 t2 (.tup [.str "bring", .byt (byteArr bs)])) (.ref t2) (Same.new ht2) ⟨t2, rfl, upd_same⟩
        exact ⟨f, ws, _, rfl, rfl, q1, sizeL (by omega), _, _, rfl, q2, upd_same, q3⟩
    · rintro σ H2 ⟨ws, v, rfl, s2, hf2, hw⟩
      rw [hvl, List.take_length] at hw
      refine ⟨_, rfl, f, ws, rfl, .inl ⟨SqL.of hf2, fun u hu => ?_⟩⟩
      exact k _ _ (s2.trans (Same.new hu)) ⟨u, ws, rfl, upd_same, pairedMap hw fun _ _ x => x.tups (Same.tups (Same.new hu))⟩
end
/-! ### what a patch tells -/
def cellsR : Row → List Cell
  | .copy b n => (List.range n.toNat).map fun i => Cell.old (b + (i : Nat))
  | .run b n => List.replicate n.toNat (Cell.new b)
  | .bring bs => bs.map Cell.new
def cellsOf (rows : List Row) : List Cell := rows.flatMap cellsR
def Good (rows : List Row) : Prop := (∀ r ∈ rows, r.ok 200) ∧ total rows ≤ 200
def endsOf : List Row → List Int
  | [] => []
  | .copy b n :: l => (b + n) :: endsOf l
  | _ :: l => endsOf l
def top0 : List Int → Int
  | [] => 0
  | x :: l => if top0 l < x then x else top0 l
def needsOf (rows : List Row) : Int := top0 (endsOf rows)
def valOf (es : List Int) : Cell → Int
  | .old k => es.getD k.toNat 0
  | .new b => b
def doneOf (rows : List Row) (es : List Int) : List Int := (cellsOf rows).map (valOf es)
theorem Row.ok_mono {c e : Int} (h : c ≤ e) : ∀ {r : Row}, r.ok c → r.ok e
  | .copy _ _, ⟨a, b, d⟩ => ⟨a, b, by omega⟩
  | .run _ _, x => x
  | .bring _, x => x
theorem top0_ge : ∀ {l : List Int} {y : Int}, y ∈ l → y ≤ top0 l
  | x :: l, y, h => by
    show y ≤ if top0 l < x then x else top0 l
    rcases List.mem_cons.mp h with rfl | h
    · split <;> omega
    · have := top0_ge h
      split <;> omega
theorem top0_is : ∀ (l : List Int), top0 l = 0 ∨ top0 l ∈ l
  | [] => .inl rfl
  | x :: l => by
    show (if top0 l < x then x else top0 l) = 0 ∨ (if top0 l < x then x else top0 l) ∈ x :: l
    split
    · exact .inr List.mem_cons_self
    · rcases top0_is l with h | h
      · exact .inl h
      · exact .inr (List.mem_cons_of_mem _ h)
theorem top0_nn : ∀ (l : List Int), 0 ≤ top0 l
  | [] => by show (0 : Int) ≤ 0; decide
  | x :: l => by
    have := top0_nn l
    show (0 : Int) ≤ if top0 l < x then x else top0 l
    split <;> omega
theorem ends_pos {c : Int} : ∀ {l : List Row}, (∀ r ∈ l, r.ok c) → ∀ y ∈ endsOf l, 0 < y
  | [], _, y, hy => (List.not_mem_nil hy).elim
  | .copy b n :: l, h, y, hy => by
    have h0 := h _ List.mem_cons_self
    rcases List.mem_cons.mp hy with rfl | hy
    · have := h0.1; have := h0.2.1; omega
    · exact ends_pos (fun r hr => h r (List.mem_cons_of_mem _ hr)) y hy
  | .run b n :: l, h, y, hy => ends_pos (fun r hr => h r (List.mem_cons_of_mem _ hr)) y hy
  | .bring bs :: l, h, y, hy => ends_pos (fun r hr => h r (List.mem_cons_of_mem _ hr)) y hy
theorem top0_eq {l : List Int} {m : Int} (hm : m ∈ l) (hp : 0 < m) (ht : ∀ y, y ∈ l → y ≤ m) : m = top0 l := by
  have h1 := top0_ge hm
  rcases top0_is l with h | h
  · omega
  · have := ht _ h; omega
theorem cellsR_len {c : Int} : ∀ {r : Row}, r.ok c → ((cellsR r).length : Int) = r.len
  | .copy b n, h => by
    have := h.2.1
    show ((((List.range n.toNat).map fun i => Cell.old (b + (i : Nat))).length : Nat) : Int) = n
    rw [List.length_map, List.length_range]; omega
  | .run b n, h => by
    have := h.2.2
    show (((List.replicate n.toNat (Cell.new b)).length : Nat) : Int) = n
    rw [List.length_replicate]; omega
  | .bring bs, h => by
    show (((bs.map Cell.new).length : Nat) : Int) = bs.length
    rw [List.length_map]
theorem cellsOf_len {c : Int} : ∀ {l : List Row}, (∀ r ∈ l, r.ok c) → ((cellsOf l).length : Int) = total l
  | [], _ => rfl
  | r :: l, h => by
    have a := cellsR_len (h r List.mem_cons_self)
    have b := cellsOf_len (l := l) fun x hx => h x (List.mem_cons_of_mem _ hx)
    show ((((cellsR r) ++ cellsOf l).length : Nat) : Int) = r.len + total l
    rw [List.length_append]; omega
theorem take_snoc {α : Type} {l : List α} {i : Nat} {x : α} (h : l[i]? = some x) : l.take (i + 1) = l.take i ++ [x] := by rw [List.take_add_one, h]; rfl
theorem total_take {l : List Row} {i : Nat} {r : Row} (h : l[i]? = some r) : total (l.take (i + 1)) = total (l.take i) + r.len := by
  rw [take_snoc h, total_app]
  show total (l.take i) + (r.len + 0) = _
  omega
theorem total_take_le {c : Int} {l : List Row} (h : ∀ r ∈ l, r.ok c) (i : Nat) : total (l.take i) ≤ total l := by
  have e := total_app (l.take i) (l.drop i)
  rw [List.take_append_drop] at e
  have := total_nn (l := l.drop i) fun r hr => h r (List.mem_of_mem_drop hr)
  omega
theorem len_le_of {c : Int} {l : List Row} (h : ∀ r ∈ l, r.ok c) {r : Row} (hr : r ∈ l) : r.len ≤ total l := by
  obtain ⟨i, hi, rfl⟩ := List.mem_iff_getElem.mp hr
  have a := total_take (List.getElem?_eq_getElem hi)
  have b := total_take_le h (i + 1)
  have d := total_nn (l := l.take i) fun r hr => h r (List.mem_of_mem_take hr)
  omega
theorem CellsAt.len {H : Hp} {p : Addr} {cs : List Cell} (h : CellsAt H p cs) : ∃ vs, H p = some (.lst vs) ∧ Paired (CellV H) vs cs ∧ vs.length = cs.length := let ⟨vs, e, r⟩ := h; ⟨vs, e, r, Paired.length r⟩
/-! ### the promises -/
def spCanBe : Sp := fun vs H Q _ => ∃ (p : Addr) (r : Row), vs = [.ref p] ∧ H p = some (.tup r.tup) ∧ r.ok 200 ∧ r.len ≤ 200 ∧ Q (.bl true) H
def spLengthOf : Sp := fun vs H Q _ => ∃ (p : Addr) (r : Row), vs = [.ref p] ∧ H p = some (.tup r.tup) ∧ r.ok 200 ∧ r.len ≤ 200 ∧ Q (.int r.len) H
def spCellsOf : Sp := fun vs H Q _ => ∃ (p : Addr) (r : Row), vs = [.ref p] ∧ H p = some (.tup r.tup) ∧ r.ok 200 ∧ r.len ≤ 200 ∧ ∀ H' q, Same H H' → H q = none → CellsAt H' q (cellsR r) → Q (.ref q) H'
def spCheckPatch : Sp := fun vs H Q _ => ∃ (v : V) (rows : List Row), vs = [v] ∧ PatchAt H v rows ∧ Good rows ∧ ∀ H', Same H H' → Q .non H'
def spCheckEdition : Sp := fun vs H Q _ => ∃ es : List Int, vs = [.byt (byteArr es)] ∧ es.length ≤ 200 ∧ Q .non H
def spCheckReach : Sp := fun vs H Q _ => ∃ (v : V) (rows : List Row) (es : List Int), vs = [v, .byt (byteArr es)] ∧ PatchAt H v rows ∧ (∀ r ∈ rows, r.ok es.length) ∧ es.length ≤ 200 ∧ ∀ H', Same H H' → Q .non H'
def spCells : Sp := fun vs H Q _ => ∃ (v : V) (rows : List Row), vs = [v] ∧ PatchAt H v rows ∧ Good rows ∧ ∀ H' p, Same H H' → H p = none → CellsAt H' p (cellsOf rows) → Q (.ref p) H'
def spMakes : Sp := fun vs H Q _ => ∃ (v : V) (rows : List Row), vs = [v] ∧ PatchAt H v rows ∧ Good rows ∧ ∀ H', Same H H' → Q (.int (total rows)) H'
def spNeeds : Sp := fun vs H Q _ => ∃ (v : V) (rows : List Row), vs = [v] ∧ PatchAt H v rows ∧ Good rows ∧ ∀ H', Same H H' → Q (.int (needsOf rows)) H'
def spDone : Sp := fun vs H Q _ => ∃ (v : V) (rows : List Row) (es : List Int), vs = [v, .byt (byteArr es)] ∧ PatchAt H v rows ∧ Good rows ∧ (∀ r ∈ rows, r.ok es.length) ∧ B8 es ∧ es.length ≤ 200 ∧ ∀ H', Same H H' → Q (.byt (byteArr (doneOf rows es))) H'
section
variable {P : Program} {w : World} {K : PySem.W.Frag} {mg : Str → Option Value} {base : Heap}
theorem ok_length_of (T : All K mg) : FnOk P w K mg base CX0 1 T.d_length_of.f T.d_length_of.fd ["piece"] spLengthOf := by
  refine T.d_length_of.F.ok sc_length_of (fun vs H Q E h => ?_) (fun cdv A outer s H vs Q E hr h => ?_)
  · obtain ⟨p, _, rfl, _⟩ := h
    rfl
  · obtain ⟨p, r, rfl, hp, hok, hl, k⟩ := h
    refine ⟨_, (pss_cons 
      (ps_if (pt_cmpR op_eq (pe_ix ix_tup (pv 0) pe_int (fun _ _ => rfl)) pe_str (nomark _)) (pss_one 
      (ps_ret (pe_callB call_len (by rfl) T.b_len PySem.boot_len (pa_cons (pe_ix ix_tup (pv 0) pe_int (fun _ _ => rfl)) pa_nil)))) pss_nil) (pss_one 
      (ps_ret (pe_ix ix_tup (pv 0) pe_int (fun _ _ => rfl))))), ?_⟩
    cases r with
    | copy b n =>
      refine ⟨_, rfl, p, _, _, _, rfl, rfl, SqT.of hp, rfl, rfl, _, rfl, ite2 (fun h => absurd h (by decide)) fun _ => ?_⟩
      exact ⟨_, rfl, p, _, _, _, rfl, rfl, SqT.of hp, rfl, k⟩
    | run b n =>
      refine ⟨_, rfl, p, _, _, _, rfl, rfl, SqT.of hp, rfl, rfl, _, rfl, ite2 (fun h => absurd h (by decide)) fun _ => ?_⟩
      exact ⟨_, rfl, p, _, _, _, rfl, rfl, SqT.of hp, rfl, k⟩
    | bring bs =>
      refine ⟨_, rfl, p, _, _, _, rfl, rfl, SqT.of hp, rfl, rfl, _, rfl, ite2 (fun _ => ?_) fun h => absurd (by decide) h⟩
      have hl : (bs.length : Int) ≤ 200 := hl
      refine ⟨_, rfl, p, _, _, _, rfl, rfl, SqT.of hp, rfl, _, bs.length, rfl, ⟨by rw [byteArr_size]; exact sizeS (by omega), (byteArr_size bs).symm⟩, k⟩
theorem ok_can_be (T : All K mg) : FnOk P w K mg base CX0 2 T.d_can_be.f T.d_can_be.fd ["piece"] spCanBe := by
  have G_is_number : FnOk P w K mg base CX0 1 T.d_is_number.f T.d_is_number.fd ["what", "least", "most"] spIsNum := ok_is_number T
  refine T.d_can_be.F.ok sc_can_be (fun vs H Q E h => ?_) (fun cdv A outer s H vs Q E hr h => ?_)
  · obtain ⟨p, _, rfl, _⟩ := h
    rfl
  · obtain ⟨p, r, rfl, hp, hok, hl, k⟩ := h
    refine ⟨_, (pss_cons 
      (ps_if (pt_not (pt_val (pe_callB call_isi (by rfl) T.b_isinstance (by decide +kernel) (pa_cons (pv 0) (pa_cons (pe_bltn (v := .ty "tuple") (by rfl) T.b_tuple (by decide +kernel) rfl) pa_nil))))) (pss_one 
      (ps_ret pe_bl)) pss_nil) (pss_cons 
      (ps_if (pt_cmpR op_eq (pe_callB call_len (by rfl) T.b_len PySem.boot_len (pa_cons (pv 0) pa_nil)) pe_int (nomark _)) (pss_cons 
      (ps_asg (pv 0) (pg_tup rfl (pgs_cons (pg_name (i := 1) sc_can_be.nd rfl (Or.inl rfl)) (pgs_cons (pg_name (i := 2) sc_can_be.nd rfl (Or.inl rfl)) pgs_nil)))) (pss_one 
      (ps_ret (pe_and (pe_cmpR op_eq (pv 1) pe_str (nomark _)) (pe_and (pe_callB call_isi (by rfl) T.b_isinstance (by decide +kernel) (pa_cons (pv 2) (pa_cons (pe_bltn (v := .ty "bytes") (by rfl) T.b_bytes (by decide +kernel) rfl) pa_nil))) (pe_one (pe_chain op_le op_le pe_int (pe_callB call_len (by rfl) T.b_len PySem.boot_len (pa_cons (pv 2) pa_nil)) (pe_glob (v := .int 200) rfl T.c_MOST ⟨_, rfl⟩)))))))) pss_nil) (pss_cons 
      (ps_if (pt_cmpR op_ne (pe_callB call_len (by rfl) T.b_len PySem.boot_len (pa_cons (pv 0) pa_nil)) pe_int (nomark _)) (pss_one 
      (ps_ret pe_bl)) pss_nil) (pss_cons 
      (ps_asg (pv 0) (pg_tup rfl (pgs_cons (pg_name (i := 1) sc_can_be.nd rfl (Or.inl rfl)) (pgs_cons (pg_name (i := 3) sc_can_be.nd rfl (Or.inl rfl)) (pgs_cons (pg_name (i := 4) sc_can_be.nd rfl (Or.inl rfl)) pgs_nil))))) (pss_cons 
      (ps_if (pt_not (pt_val (pe_call G_is_number (hr.mono (by decide)) rfl T.d_is_number.m T.d_is_number.F.kp T.d_is_number.b .nil pass0 (pa_cons (pv 4) (pa_cons pe_int (pa_cons (pe_glob (v := .int 200) rfl T.c_MOST ⟨_, rfl⟩) pa_nil)))))) (pss_one 
      (ps_ret pe_bl)) pss_nil) (pss_cons 
      (ps_if (pt_cmpR op_eq (pv 1) pe_str (nomark _)) (pss_one 
      (ps_ret (pe_call G_is_number (hr.mono (by decide)) rfl T.d_is_number.m T.d_is_number.F.kp T.d_is_number.b .nil pass0 (pa_cons (pv 3) (pa_cons pe_int (pa_cons (pe_op op_sub (pe_glob (v := .int 200) rfl T.c_MOST ⟨_, rfl⟩) (pv 4)) pa_nil)))))) pss_nil) (pss_one 
      (ps_ret (pe_and (pe_cmpR op_eq (pv 1) pe_str (nomark _)) (pe_one (pe_call G_is_number (hr.mono (by decide)) rfl T.d_is_number.m T.d_is_number.F.kp T.d_is_number.b .nil pass0 (pa_cons (pv 3) (pa_cons pe_int (pa_cons (pe_glob (v := .int 255) rfl T.c_LAST_BYTE ⟨_, rfl⟩) pa_nil)))))))))))))), ?_⟩
    refine ⟨_, rfl, _, _, _, _, true, rfl, .ty _, .base (.tup hp), kit_ty (by decide +kernel), true, rfl, iteF ?_⟩
    cases r with
    | copy b n =>
      have h1 := hok.1
      have h2 := hok.2.1
      have h3 := hok.2.2
      have h4 : n ≤ 200 := hl
      refine ⟨_, rfl, _, 3, rfl, .inr ⟨_, SqT.of hp, rfl⟩, rfl, _, rfl, ite2 (fun h => absurd h (by decide)) fun _ => ?_⟩
      refine ⟨_, rfl, _, 3, rfl, .inr ⟨_, SqT.of hp, rfl⟩, rfl, _, rfl, ite2 (fun h => absurd h (by decide)) fun _ => ?_⟩
      refine ⟨_, rfl, p, _, rfl, SqT.of hp, rfl, _, _, rfl, _, _, rfl, _, _, rfl, rfl, ?_⟩
      refine ⟨_, rfl, n, 1, 200, rfl, _, rfl, ?_⟩
      rw [decide_eq_true h2, decide_eq_true h4]
      refine iteF ?_
      refine ⟨_, rfl, rfl, _, rfl, ite2 (fun _ => ?_) fun h => absurd (by decide) h⟩
      refine ⟨_, rfl, _, rfl, _, _, rfl, rfl, b, 0, 200 - n, rfl, ?_⟩
      rw [decide_eq_true h1, decide_eq_true (show b ≤ 200 - n by omega)]
      exact k
    | run b n =>
      have h1 := hok.1
      have h2 := hok.2.1
      have h3 := hok.2.2
      have h4 : n ≤ 200 := hl
      refine ⟨_, rfl, _, 3, rfl, .inr ⟨_, SqT.of hp, rfl⟩, rfl, _, rfl, ite2 (fun h => absurd h (by decide)) fun _ => ?_⟩
      refine ⟨_, rfl, _, 3, rfl, .inr ⟨_, SqT.of hp, rfl⟩, rfl, _, rfl, ite2 (fun h => absurd h (by decide)) fun _ => ?_⟩
      refine ⟨_, rfl, p, _, rfl, SqT.of hp, rfl, _, _, rfl, _, _, rfl, _, _, rfl, rfl, ?_⟩
      refine ⟨_, rfl, n, 1, 200, rfl, _, rfl, ?_⟩
      rw [decide_eq_true h3, decide_eq_true h4]
      refine iteF ?_
      refine ⟨_, rfl, rfl, _, rfl, ite2 (fun h => absurd h (by decide)) fun _ => ?_⟩
      refine ⟨_, rfl, rfl, _, rfl, ite2 (fun _ => ?_) fun h => absurd (by decide) h⟩
      refine ⟨_, rfl, b, 0, 255, rfl, ?_⟩
      rw [decide_eq_true h1, decide_eq_true (show b ≤ 255 by omega)]
      exact k
    | bring bs =>
      have h1 : 1 ≤ (bs.length : Int) := hok.1
      have h4 : (bs.length : Int) ≤ 200 := hl
      refine ⟨_, rfl, _, 2, rfl, .inr ⟨_, SqT.of hp, rfl⟩, rfl, _, rfl, ite2 (fun _ => ?_) fun h => absurd (by decide) h⟩
      refine ⟨_, rfl, p, _, rfl, SqT.of hp, rfl, _, _, rfl, _, _, rfl, rfl, ?_⟩
      refine ⟨_, rfl, rfl, _, rfl, ite2 (fun _ => ?_) fun h => absurd (by decide) h⟩
      refine ⟨_, rfl, _, _, _, _, true, rfl, .ty _, .byt _, kit_ty (by decide +kernel), true, rfl, iteT ?_⟩
      refine ⟨_, rfl, _, bs.length, rfl, ⟨by rw [byteArr_size]; exact sizeS (by omega), (byteArr_size bs).symm⟩, _, _, rfl, rfl, _, rfl, ?_⟩
      rw [decide_eq_true h1]
      refine iteT ⟨_, _, rfl, rfl, ?_⟩
      show Q (.bl (decide ((bs.length : Int) ≤ 200))) H
      rw [decide_eq_true h4]
      exact k
theorem ok_cells_of (T : All K mg) : FnOk P w K mg base CX0 1 T.d_cells_of.f T.d_cells_of.fd ["piece"] spCellsOf := by
  refine T.d_cells_of.F.ok sc_cells_of (fun vs H Q E h => ?_) (fun cdv A outer s H vs Q E hr h => ?_)
  · obtain ⟨p, _, rfl, _⟩ := h
    rfl
  · obtain ⟨p, r, rfl, hp, hok, hl, k⟩ := h
    refine ⟨_, (pss_cons 
      (ps_if (pt_cmpR op_eq (pe_ix ix_tup (pv 0) pe_int (fun _ _ => rfl)) pe_str (nomark _)) (pss_one 
      (ps_ret (pe_lc (own := [("number", 1)]) (g := gName 1) (tt := tYes) rfl sc_cells_of.nd (pi_range2 (by rfl) T.b_range (pa_cons (pe_ix ix_tup (pv 0) pe_int (fun _ _ => rfl)) (pa_cons (pe_op op_add (pe_ix ix_tup (pv 0) pe_int (fun _ _ => rfl)) (pe_ix ix_tup (pv 0) pe_int (fun _ _ => rfl))) pa_nil))) (blkOk_by (own := [("number", 1)]) (N := ["piece", "number", "byte"]) (sc := defScope s_cells_of) (by decide +kernel)) (fun _ _ _ _ _ => (pg_name (i := 1) sc_cells_of.nd rfl (Or.inl rfl))) (fun _ _ _ _ _ => pts_nil) (fun _ _ _ _ _ => (pe_tup (pa_cons pe_str (pa_cons (pv 1) pa_nil))))))) pss_nil) (pss_cons 
      (ps_if (pt_cmpR op_eq (pe_ix ix_tup (pv 0) pe_int (fun _ _ => rfl)) pe_str (nomark _)) (pss_one 
      (ps_ret (pe_lc (own := [("byte", 2)]) (g := gName 2) (tt := tYes) rfl sc_cells_of.nd (pi_byt (pe_ix ix_tup (pv 0) pe_int (fun _ _ => rfl))) (blkOk_by (own := [("byte", 2)]) (N := ["piece", "number", "byte"]) (sc := defScope s_cells_of) (by decide +kernel)) (fun _ _ _ _ _ => (pg_name (i := 2) sc_cells_of.nd rfl (Or.inl rfl))) (fun _ _ _ _ _ => pts_nil) (fun _ _ _ _ _ => (pe_tup (pa_cons pe_str (pa_cons (pv 2) pa_nil))))))) pss_nil) (pss_one 
      (ps_ret (pe_op op_rep (pe_lst (pa_cons (pe_tup (pa_cons pe_str (pa_cons (pe_ix ix_tup (pv 0) pe_int (fun _ _ => rfl)) pa_nil))) pa_nil)) (pe_ix ix_tup (pv 0) pe_int (fun _ _ => rfl))))))), ?_⟩
    -- one cell more
    have more : ∀ {H2 : Hp} {D : Addr} {ws : List V} {cs : List Cell} {c : Cell} {t : Addr}, H D = none → Same H H2 → H2 D = some (.lst ws) → Paired (CellV H2) ws cs → H2 t = none →
        Same H (upd (upd H2 t (.tup c.tup)) D (.lst (ws ++ [.ref t]))) ∧ Paired (CellV (upd (upd H2 t (.tup c.tup)) D (.lst (ws ++ [.ref t])))) (ws ++ [.ref t]) (cs ++ [c]) := by
      intro H2 D ws cs c t hD s2 hw pw ht
      have hw' : (upd H2 t (.tup c.tup)) D = some (.lst ws) := Same.new ht _ _ hw
      refine ⟨fun b o e => ?_, pairedApp (pairedMap pw fun _ _ x => (x.tups (Same.tups (Same.new ht))).tups (Tups.lst hw')) (.cons ⟨t, rfl, Tups.lst hw' _ _ upd_same⟩ .nil)⟩
      rw [upd_ne (ne_of_none e hD)]
      exact Same.new ht _ _ (s2 _ _ e)
    cases r with
    | copy b n =>
      have h1 := hok.1
      have h2 := hok.2.1
      have h3 := hok.2.2
      have h4 : n ≤ 200 := hl
      refine ⟨_, rfl, p, _, _, _, rfl, rfl, SqT.of hp, rfl, rfl, _, rfl, ite2 (fun _ => ?_) fun h => absurd (by decide) h⟩
      refine ⟨_, rfl, p, _, _, _, rfl, rfl, SqT.of hp, rfl, _, rfl, p, _, _, _, rfl, rfl, SqT.of hp, rfl, _, rfl, p, _, _, _, rfl, rfl, SqT.of hp, rfl, _, _, rfl, rfl, _, _, rfl, ⟨by omega, by omega, by omega, by omega⟩, fun D hD => ?_⟩
      refine lc_range (lo := b) (n := (b + n - b).toNat) (fun i H2 => ∃ ws : List V, Same H H2 ∧ H2 D = some (.lst ws) ∧ Paired (CellV H2) ws ((List.range i).map fun i => Cell.old (b + (i : Nat))))
        ⟨[], Same.new hD, upd_same, .nil⟩ ?_ ?_
      · rintro i H2 hi ⟨ws, s2, hw, pw⟩
        have wl : ws.length = i := by rw [Paired.length pw, List.length_map, List.length_range]
        refine ⟨rfl, _, rfl, sizeS (by show 2 ≤ 100000; decide), fun t ht => ?_⟩
        obtain ⟨q1, q2⟩ := more (c := .old (b + (i : Nat))) hD s2 hw pw ht
        refine ⟨ws, Same.new ht _ _ hw, sizeL (by omega), _, q1, upd_same, ?_⟩
        rw [List.range_succ, List.map_append]
        exact q2
      · rintro H2 ⟨ws, s2, hw, pw⟩
        rw [show (b + n - b).toNat = n.toNat by omega] at pw
        exact k H2 D s2 hD ⟨ws, hw, pw⟩
    | run b n =>
      have h3 := hok.2.2
      have h4 : n ≤ 200 := hl
      refine ⟨_, rfl, p, _, _, _, rfl, rfl, SqT.of hp, rfl, rfl, _, rfl, ite2 (fun h => absurd h (by decide)) fun _ => ?_⟩
      refine ⟨_, rfl, p, _, _, _, rfl, rfl, SqT.of hp, rfl, rfl, _, rfl, ite2 (fun h => absurd h (by decide)) fun _ => ?_⟩
      refine ⟨_, rfl, p, _, _, _, rfl, rfl, SqT.of hp, rfl, sizeS (by show 2 ≤ 100000; decide), fun t ht => ⟨sizeS (by show 1 ≤ 100000; decide), fun l hl => ?_⟩⟩
      have hp2 : (upd (upd H t (.tup [.str "new", .int b])) l (.lst [.ref t])) p = some (.tup (Row.tup (.run b n))) := Same.new hl _ _ (Same.new ht _ _ hp)
      refine ⟨_, rfl, p, _, _, _, rfl, rfl, SqT.of hp2, rfl, l, _, _, rfl, rfl, upd_same, by omega, by omega, sizeS ?_, fun q hq => ?_⟩
      · show 1 * n.toNat ≤ 100000
        omega
      · have e : (List.replicate n.toNat [V.ref t]).flatten = List.replicate n.toNat (V.ref t) := by
          generalize n.toNat = m
          induction m with
          | zero => rfl
          | succ m ih => rw [List.replicate_succ, List.replicate_succ, List.flatten_cons, ih]; rfl
        have hqt : t ≠ q := ne_of_none (o := .tup [.str "new", .int b]) (Same.new hl _ _ upd_same) hq
        have ss : Same H (upd (upd (upd H t (.tup [.str "new", .int b])) l (.lst [.ref t])) q (.lst (List.replicate n.toNat [V.ref t]).flatten)) := (Same.new ht).trans ((Same.new hl).trans (Same.new hq))
        have ct : CellV (upd (upd (upd H t (.tup [.str "new", .int b])) l (.lst [.ref t])) q (.lst (List.replicate n.toNat [V.ref t]).flatten)) (.ref t) (.new b) := ⟨t, rfl, Same.new hq _ _ (Same.new hl _ _ upd_same)⟩
        refine k _ q ss ((Same.free ((Same.new ht).trans (Same.new hl)) hq)) ⟨_, upd_same, ?_⟩
        rw [e] at ct ⊢
        show Paired _ _ (List.replicate n.toNat (Cell.new b))
        generalize n.toNat = m at ct ⊢
        generalize upd (upd (upd H t (.tup [.str "new", .int b])) l (.lst [.ref t])) q (.lst (List.replicate m (V.ref t))) = HH at ct
        induction m with
        | zero => exact .nil
        | succ m ih => exact .cons ct ih
    | bring bs =>
      have h4 : (bs.length : Int) ≤ 200 := hl
      refine ⟨_, rfl, p, _, _, _, rfl, rfl, SqT.of hp, rfl, rfl, _, rfl, ite2 (fun h => absurd h (by decide)) fun _ => ?_⟩
      refine ⟨_, rfl, p, _, _, _, rfl, rfl, SqT.of hp, rfl, rfl, _, rfl, ite2 (fun _ => ?_) fun h => absurd (by decide) h⟩
      refine ⟨_, rfl, p, _, _, _, rfl, rfl, SqT.of hp, rfl, _, rfl, fun D hD => ?_⟩
      refine lc_it walk_byt (fun i H2 => ∃ ws : List V, Same H H2 ∧ H2 D = some (.lst ws) ∧ Paired (CellV H2) ws ((bs.take i).map Cell.new))
        ⟨[], Same.new hD, upd_same, .nil⟩ (fun _ _ _ _ => trivial) ?_ ?_
      · rintro i x H2 H3 hi ⟨ws, s2, hw, pw⟩ ⟨e3, c, hc, ex⟩
        subst e3 ex
        rw [byteArr_size] at hi
        have hz := byt_at hok.2 hc
        have wl : ws.length ≤ bs.length := by rw [Paired.length pw, List.length_map, List.length_take]; omega
        refine ⟨rfl, _, rfl, sizeS (by show 2 ≤ 100000; decide), fun t ht => ?_⟩
        obtain ⟨q1, q2⟩ := more (c := .new ((c.toNat : Nat) : Int)) hD s2 hw pw ht
        refine ⟨ws, Same.new ht _ _ hw, sizeL (by omega), _, q1, upd_same, ?_⟩
        rw [take_snoc hz, List.map_append]
        exact q2
      · rintro H2 ⟨ws, s2, hw, pw⟩
        rw [byteArr_size, List.take_length] at pw
        exact k H2 D s2 hD ⟨ws, hw, pw⟩
end
theorem cell_more {H H2 : Hp} {D : Addr} {ws : List V} {cs : List Cell} {c : Cell} {t : Addr} (hD : H D = none) (s2 : Same H H2) (hw : H2 D = some (.lst ws)) (pw : Paired (CellV H2) ws cs) (ht : H2 t = none) :
    Same H (upd (upd H2 t (.tup c.tup)) D (.lst (ws ++ [.ref t]))) ∧ Paired (CellV (upd (upd H2 t (.tup c.tup)) D (.lst (ws ++ [.ref t])))) (ws ++ [.ref t]) (cs ++ [c]) := by
  have hw' : (upd H2 t (.tup c.tup)) D = some (.lst ws) := Same.new ht _ _ hw
  refine ⟨fun b o e => ?_, pairedApp (pairedMap pw fun _ _ x => (x.tups (Same.tups (Same.new ht))).tups (Tups.lst hw')) (.cons ⟨t, rfl, Tups.lst hw' _ _ upd_same⟩ .nil)⟩
  rw [upd_ne (ne_of_none e hD)]
  exact Same.new ht _ _ (s2 _ _ e)
theorem rep_flat {α : Type} (x : α) : ∀ m : Nat, (List.replicate m [x]).flatten = List.replicate m x
  | 0 => rfl
  | m + 1 => by rw [List.replicate_succ, List.replicate_succ, List.flatten_cons, rep_flat x m]; rfl
theorem paired_rep {α β : Type} {F : α → β → Prop} {x : α} {y : β} (h : F x y) : ∀ m : Nat, Paired F (List.replicate m x) (List.replicate m y)
  | 0 => .nil
  | m + 1 => .cons h (paired_rep h m)
theorem cellsOf_take {rows : List Row} {i : Nat} {r : Row} (h : rows[i]? = some r) : cellsOf (rows.take (i + 1)) = cellsOf (rows.take i) ++ cellsR r := by
  rw [take_snoc h]
  show (rows.take i ++ [r]).flatMap cellsR = _
  rw [List.flatMap_append, List.flatMap_cons, List.flatMap_nil, List.append_nil]
  rfl
/-- what a cell may be -/
theorem cells_fit {c : Int} {rows : List Row} (hre : ∀ r ∈ rows, r.ok c) : ∀ cl ∈ cellsOf rows, (∃ n, cl = .old n ∧ 0 ≤ n ∧ n < c) ∨ ∃ b, cl = .new b ∧ 0 ≤ b ∧ b < 256 := by
  intro cl hcl
  obtain ⟨r, hr1, hr2⟩ := List.mem_flatMap.mp hcl
  have ho := hre r hr1
  cases r with
  | copy b n =>
    obtain ⟨i, hi, rfl⟩ := List.mem_map.mp hr2
    have hi := List.mem_range.mp hi
    have h1 := ho.1
    have h2 := ho.2.1
    have h3 := ho.2.2
    exact .inl ⟨_, rfl, by omega, by omega⟩
  | run b n =>
    rw [List.eq_of_mem_replicate hr2]
    exact .inr ⟨_, rfl, ho.1, ho.2.1⟩
  | bring bs =>
    obtain ⟨z, hz, rfl⟩ := List.mem_map.mp hr2
    exact .inr ⟨_, rfl, (ho.2 z hz).1, (ho.2 z hz).2⟩
theorem done_B8 {rows : List Row} {es : List Int} (hre : ∀ r ∈ rows, r.ok es.length) (hb : B8 es) : B8 (doneOf rows es) := fun z hz => by
  obtain ⟨cl, hcl, rfl⟩ := List.mem_map.mp hz
  rcases cells_fit hre cl hcl with ⟨n, rfl, n0, n1⟩ | ⟨b, rfl, b0, b1⟩
  · have jl : n.toNat < es.length := by omega
    show 0 ≤ es.getD n.toNat 0 ∧ es.getD n.toNat 0 < 256
    rw [List.getD_eq_getElem?_getD, List.getElem?_eq_getElem jl]
    exact hb _ (List.getElem_mem jl)
  · exact ⟨b0, b1⟩
theorem done_len {c : Int} {rows : List Row} (es : List Int) (hre : ∀ r ∈ rows, r.ok c) : ((doneOf rows es).length : Int) = total rows := by
  show ((((cellsOf rows).map (valOf es)).length : Nat) : Int) = _
  rw [List.length_map]; exact cellsOf_len hre
theorem Good.each {rows : List Row} (h : Good rows) : ∀ r ∈ rows, r.ok 200 ∧ r.len ≤ 200 := fun r hr => ⟨h.1 r hr, Int.le_trans (len_le_of h.1 hr) h.2⟩
theorem Good.few {rows : List Row} (h : Good rows) : (rows.length : Int) ≤ 200 := Int.le_trans (len_le_total h.1) h.2
theorem Good.take {rows : List Row} (h : Good rows) (i : Nat) : Good (rows.take i) := ⟨fun r hr => h.1 r (List.mem_of_mem_take hr), Int.le_trans (total_take_le h.1 i) h.2⟩
theorem Good.nat {rows : List Row} (h : Good rows) : rows.length ≤ 200 := by have := h.few; omega
section
variable {P : Program} {w : World} {K : PySem.W.Frag} {mg : Str → Option Value} {base : Heap}
theorem ends_app (a b : List Row) : endsOf (a ++ b) = endsOf a ++ endsOf b := by
  induction a with
  | nil => rfl
  | cons r l ih => cases r <;> simp [endsOf, ih]
theorem ends_len (a : List Row) : (endsOf a).length ≤ a.length := by
  induction a with
  | nil => exact Nat.le_refl _
  | cons r l ih => cases r <;> simp [endsOf] <;> omega
theorem total_sum : ∀ rows : List Row, (rows.map Row.len).sum = total rows
  | [] => rfl
  | r :: l => by rw [List.map_cons, List.sum_cons, total_sum l]; rfl
theorem ok_check_patch (T : All K mg) : FnOk P w K mg base CX0 3 T.d_check_patch.f T.d_check_patch.fd ["patch"] spCheckPatch := by
  have G_can_be : FnOk P w K mg base CX0 2 T.d_can_be.f T.d_can_be.fd ["piece"] spCanBe := ok_can_be T
  have G_length_of : FnOk P w K mg base CX0 1 T.d_length_of.f T.d_length_of.fd ["piece"] spLengthOf := ok_length_of T
  refine T.d_check_patch.F.ok sc_check_patch (fun vs H Q E h => ?_) (fun cdv A outer s H vs Q E hr h => ?_)
  · obtain ⟨v, _, rfl, _⟩ := h
    rfl
  · obtain ⟨v, rows, rfl, ⟨p, vs, rfl, hv, hpr⟩, ⟨hok, htot⟩, k⟩ := h
    have hvl : vs.length = rows.length := Paired.length hpr
    refine ⟨_, (pss_cons 
      (ps_set (i := 1) sc_check_patch.nd rfl (Or.inl rfl) pe_int) (pss_one 
      (ps_for PassesOwn.never rfl (pi_enumT (by rfl) T.b_enumerate (pa_cons (pv 0) pa_nil)) (pg_tup rfl (pgs_cons (pg_name (i := 2) sc_check_patch.nd rfl (Or.inl rfl)) (pgs_cons (pg_name (i := 3) sc_check_patch.nd rfl (Or.inl rfl)) pgs_nil))) (pss_cons 
      (ps_if (pt_not (pt_val (pe_call G_can_be (hr.mono (by decide)) rfl T.d_can_be.m T.d_can_be.F.kp T.d_can_be.b .nil pass0 (pa_cons (pv 3) pa_nil)))) (pss_one ps_never) pss_nil) (pss_cons 
      (ps_aug (i := 1) sc_check_patch.nd rfl (Or.inl rfl) (pe_call G_length_of (hr.mono (by decide)) rfl T.d_length_of.m T.d_length_of.F.kp T.d_length_of.b .nil pass0 (pa_cons (pv 3) pa_nil)) ip_add) (pss_one 
      (ps_if (pt_cmpR op_gt (pv 1) (pe_glob (v := .int 200) rfl T.c_MOST ⟨_, rfl⟩) (nomark _)) (pss_one ps_never) pss_nil))))))), ?_⟩
    refine ⟨_, rfl, p, vs, rfl, SqT.of hv, for_it walk_enumT (fun i σ H2 => ∃ v2 v3 : Option V, σ = [some (.ref p), some (.int (total (rows.take i))), v2, v3] ∧ Same H H2)
      ⟨none, none, rfl, Same.refl _⟩ (fun i σ H2 _ ⟨_, _, _, s2⟩ => SqT.of (s2 _ _ hv)) ?_ ?_⟩
    · rintro i x σ H2 H3 hi ⟨v2, v3, rfl, s2⟩ ⟨t, x1, y1, rfl, ht, rfl, e1, e2⟩
      cases e1
      obtain ⟨r, hr1, q, rfl, hq⟩ := pairedAt hpr e2
      have hro := hok r (List.mem_of_getElem? hr1)
      have hrl : r.len ≤ total rows := len_le_of hok (List.mem_of_getElem? hr1)
      have s3 : Same H (upd H2 t (.tup [.int (i : Nat), .ref q])) := s2.trans (Same.new ht)
      have hq3 := s3 _ _ hq
      refine ⟨t, _, rfl, SqT.of upd_same, rfl, _, _, rfl, _, _, rfl, rfl, ?_⟩
      refine ⟨_, rfl, q, r, rfl, hq3, hro, by omega, _, rfl, iteF ?_⟩
      refine ⟨_, rfl, _, rfl, q, r, rfl, hq3, hro, by omega, _, _, rfl, rfl, ?_⟩
      have ht1 := total_take hr1
      have ht2 := total_take_le hok (i + 1)
      refine ⟨_, rfl, _, _, rfl, rfl, _, rfl, ite2 (fun h => absurd (show (200 : Int) < total (rows.take i) + r.len from of_decide_eq_true h) (by omega)) fun _ => ?_⟩
      exact ⟨_, _, by rw [ht1]; rfl, s3⟩
    · rintro σ H2 ⟨v2, v3, rfl, s2⟩
      exact k H2 s2
theorem ok_check_edition (T : All K mg) : FnOk P w K mg base CX0 1 T.d_check_edition.f T.d_check_edition.fd ["edition"] spCheckEdition := by
  refine T.d_check_edition.F.ok sc_check_edition (fun vs H Q E h => ?_) (fun cdv A outer s H vs Q E hr h => ?_)
  · obtain ⟨_, rfl, _⟩ := h
    rfl
  · obtain ⟨es, rfl, hl, k⟩ := h
    refine ⟨_, (pss_one 
      (ps_if (pt_cmpR op_gt (pe_callB call_len (by rfl) T.b_len PySem.boot_len (pa_cons (pv 0) pa_nil)) (pe_glob (v := .int 200) rfl T.c_MOST ⟨_, rfl⟩) (nomark _)) (pss_one ps_never) pss_nil)), ?_⟩
    refine ⟨_, rfl, _, es.length, rfl, ⟨by rw [byteArr_size]; exact sizeS (by omega), (byteArr_size es).symm⟩, _, _, rfl, rfl, _, rfl, ite2 (fun h => absurd (of_decide_eq_true h) (by omega)) fun _ => k⟩
theorem ok_check_reach (T : All K mg) : FnOk P w K mg base CX0 1 T.d_check_reach.f T.d_check_reach.fd ["patch", "edition"] spCheckReach := by
  refine T.d_check_reach.F.ok sc_check_reach (fun vs H Q E h => ?_) (fun cdv A outer s H vs Q E hr h => ?_)
  · obtain ⟨v, _, _, rfl, _⟩ := h
    rfl
  · obtain ⟨v, rows, es, rfl, ⟨p, vs, rfl, hv, hpr⟩, hok, hel, k⟩ := h
    refine ⟨_, (pss_one 
      (ps_for PassesOwn.never rfl (pi_enumT (by rfl) T.b_enumerate (pa_cons (pv 0) pa_nil)) (pg_tup rfl (pgs_cons (pg_name (i := 2) sc_check_reach.nd rfl (Or.inl rfl)) (pgs_cons (pg_name (i := 3) sc_check_reach.nd rfl (Or.inl rfl)) pgs_nil))) (pss_one 
      (ps_if (PW.pt (pw_and (pt_cmpR op_eq (pe_ix ix_tup (pv 3) pe_int (fun _ _ => rfl)) pe_str (nomark _)) (pw_and1 (pt_cmpR op_gt (pe_op op_add (pe_ix ix_tup (pv 3) pe_int (fun _ _ => rfl)) (pe_ix ix_tup (pv 3) pe_int (fun _ _ => rfl))) (pe_callB call_len (by rfl) T.b_len PySem.boot_len (pa_cons (pv 1) pa_nil)) (nomark _))))) (pss_one ps_never) pss_nil)))), ?_⟩
    refine ⟨_, rfl, p, vs, rfl, SqT.of hv, for_it walk_enumT (fun i σ H2 => ∃ v2 v3 : Option V, σ = [some (.ref p), some (.byt (byteArr es)), v2, v3] ∧ Same H H2)
      ⟨none, none, rfl, Same.refl _⟩ (fun i σ H2 _ ⟨_, _, _, s2⟩ => SqT.of (s2 _ _ hv)) ?_ ?_⟩
    · rintro i x σ H2 H3 hi ⟨v2, v3, rfl, s2⟩ ⟨t, x1, y1, rfl, ht, rfl, e1, e2⟩
      cases e1
      obtain ⟨r, hr1, q, rfl, hq⟩ := pairedAt hpr e2
      have hro := hok r (List.mem_of_getElem? hr1)
      have s3 : Same H (upd H2 t (.tup [.int (i : Nat), .ref q])) := s2.trans (Same.new ht)
      have hq3 := s3 _ _ hq
      refine ⟨t, _, rfl, SqT.of upd_same, rfl, _, _, rfl, _, _, rfl, rfl, ?_⟩
      cases r with
      | copy b n =>
        refine ⟨_, rfl, q, _, _, _, rfl, rfl, SqT.of hq3, rfl, rfl, _, rfl, ite2 (fun _ => ?_) fun h => absurd (by decide) h⟩
        have h3 := hro.2.2
        refine ⟨_, rfl, q, _, _, _, rfl, rfl, SqT.of hq3, rfl, _, rfl, q, _, _, _, rfl, rfl, SqT.of hq3, rfl, _, _, rfl, rfl, _, rfl, _, es.length, rfl, ⟨by rw [byteArr_size]; exact sizeS (by omega), (byteArr_size es).symm⟩, _, _, rfl, rfl, _, rfl, ite2 (fun h => absurd (of_decide_eq_true h) (by omega)) fun _ => ?_⟩
        exact ⟨_, _, rfl, s3⟩
      | run b n =>
        refine ⟨_, rfl, q, _, _, _, rfl, rfl, SqT.of hq3, rfl, rfl, _, rfl, ite2 (fun h => absurd h (by decide)) fun _ => iteF ?_⟩
        exact ⟨_, _, rfl, s3⟩
      | bring bs =>
        refine ⟨_, rfl, q, _, _, _, rfl, rfl, SqT.of hq3, rfl, rfl, _, rfl, ite2 (fun h => absurd h (by decide)) fun _ => iteF ?_⟩
        exact ⟨_, _, rfl, s3⟩
    · rintro σ H2 ⟨v2, v3, rfl, s2⟩
      exact k H2 s2
theorem ok_cells (T : All K mg) : FnOk P w K mg base CX0 4 T.d_cells.f T.d_cells.fd ["patch"] spCells := by
  have G_check_patch : FnOk P w K mg base CX0 3 T.d_check_patch.f T.d_check_patch.fd ["patch"] spCheckPatch := ok_check_patch T
  have G_cells_of : FnOk P w K mg base CX0 1 T.d_cells_of.f T.d_cells_of.fd ["piece"] spCellsOf := ok_cells_of T
  refine T.d_cells.F.ok sc_cells (fun vs H Q E h => ?_) (fun cdv A outer s H vs Q E hr h => ?_)
  · obtain ⟨v, _, rfl, _⟩ := h
    rfl
  · obtain ⟨v, rows, rfl, hP, hG, k⟩ := h
    refine ⟨_, (pss_cons 
      (ps_expr (pe_call G_check_patch (hr.mono (by decide)) rfl T.d_check_patch.m T.d_check_patch.F.kp T.d_check_patch.b .nil pass0 (pa_cons (pv 0) pa_nil))) (pss_cons 
      (ps_set (i := 1) sc_cells.nd rfl (Or.inl rfl) (pe_lst pa_nil)) (pss_cons 
      (ps_for PassesOwn.never rfl (pi_tup (pv 0)) (pg_name (i := 2) sc_cells.nd rfl (Or.inl rfl)) (pss_one 
      (ps_expr (pe_bm PySem.F.plainAttrs_list PySem.F.slot_list_extend PySem.F.type_list_extend mt_extend (pv 1) (pa_cons (pe_call G_cells_of (hr.mono (by decide)) rfl T.d_cells_of.m T.d_cells_of.F.kp T.d_cells_of.b .nil pass0 (pa_cons (pv 2) pa_nil)) pa_nil))))) (pss_one 
      (ps_ret (pv 1)))))), ?_⟩
    refine ⟨_, rfl, v, rows, rfl, hP, hG, fun H1 s1 => ⟨sizeS (by show 0 ≤ 100000; decide), fun D hD => ?_⟩⟩
    obtain ⟨hok, htot⟩ := hG
    obtain ⟨p, vs, rfl, hv, hpr⟩ := hP
    have hD0 : H D = none := s1.free hD
    refine ⟨_, rfl, p, rfl, ⟨vs, SqT.of (Same.new hD _ _ (s1 _ _ hv))⟩, for_tup (K := K) (a := p) (xs := vs) (fun i σ H2 => ∃ (ws : List V) (v2 : Option V), σ = [some (.ref p), some (.ref D), v2] ∧ Same H H2 ∧ H2 D = some (.lst ws) ∧ Paired (CellV H2) ws (cellsOf (rows.take i)))
      ⟨[], none, rfl, s1.trans (Same.new hD), upd_same, .nil⟩ (fun i σ H2 _ ⟨_, _, _, s2, _⟩ => SqT.of (s2 _ _ hv)) ?_ ?_⟩
    · rintro i x σ H2 hi ⟨ws, v2, rfl, s2, hw, pw⟩
      obtain ⟨r, hr1, q, rfl, hq⟩ := pairedAt hpr hi
      have hro := hok r (List.mem_of_getElem? hr1)
      have hrl : r.len ≤ total rows := len_le_of hok (List.mem_of_getElem? hr1)
      refine ⟨_, rfl, .inl ⟨rfl, _, SqL.of hw⟩, _, rfl, q, r, rfl, s2 _ _ hq, hro, by omega, fun H3 e s3 he he3 => ?_⟩
      obtain ⟨us, hu, pu⟩ := he3
      have hw3 := s3 _ _ hw
      have l1 : (ws.length : Int) = total (rows.take i) := by
        rw [Paired.length pw]; exact cellsOf_len fun x hx => hok x (List.mem_of_mem_take hx)
      have l2 : (us.length : Int) = r.len := by rw [Paired.length pu]; exact cellsR_len hro
      have l3 := total_take_le hok i
      refine ⟨D, e, ws, us, rfl, rfl, hw3, hu, sizeS (by omega), ?_⟩
      refine ⟨_, _, rfl, fun b o z => ?_, upd_same, ?_⟩
      · rw [upd_ne (ne_of_none z hD0)]; exact s3 _ _ (s2 _ _ z)
      · have ec : cellsOf (rows.take (i + 1)) = cellsOf (rows.take i) ++ cellsR r := by
          rw [take_snoc hr1]
          show (rows.take i ++ [r]).flatMap cellsR = _
          rw [List.flatMap_append, List.flatMap_cons, List.flatMap_nil, List.append_nil]
          rfl
        rw [ec]
        exact pairedApp (pairedMap pw fun _ _ x => (x.tups (Same.tups s3)).tups (Tups.lst hw3)) (pairedMap pu fun _ _ x => x.tups (Tups.lst hw3))
    · rintro σ H2 ⟨ws, v2, rfl, s2, hw, pw⟩
      rw [Paired.length hpr, List.take_length] at pw
      exact ⟨_, rfl, k H2 D s2 hD0 ⟨ws, hw, pw⟩⟩
theorem ok_makes (T : All K mg) : FnOk P w K mg base CX0 4 T.d_makes.f T.d_makes.fd ["patch"] spMakes := by
  have G_check_patch : FnOk P w K mg base CX0 3 T.d_check_patch.f T.d_check_patch.fd ["patch"] spCheckPatch := ok_check_patch T
  have G_length_of : FnOk P w K mg base CX0 1 T.d_length_of.f T.d_length_of.fd ["piece"] spLengthOf := ok_length_of T
  refine T.d_makes.F.ok sc_makes (fun vs H Q E h => ?_) (fun cdv A outer s H vs Q E hr h => ?_)
  · obtain ⟨v, _, rfl, _⟩ := h
    rfl
  · obtain ⟨v, rows, rfl, hP, hG, k⟩ := h
    refine ⟨_, (pss_cons 
      (ps_expr (pe_call G_check_patch (hr.mono (by decide)) rfl T.d_check_patch.m T.d_check_patch.F.kp T.d_check_patch.b .nil pass0 (pa_cons (pv 0) pa_nil))) (pss_one 
      (ps_ret (pe_callB (cr_sum rfl) (by rfl) T.b_sum (by decide +kernel) (pa_cons (pe_lc (own := [("piece", 1)]) (g := gName 1) (tt := tYes) rfl sc_makes.nd (pi_tup (pv 0)) (blkOk_by (own := [("piece", 1)]) (N := ["patch", "piece"]) (sc := defScope s_makes) (by decide +kernel)) (fun _ _ _ _ _ => (pg_name (i := 1) sc_makes.nd rfl (Or.inl rfl))) (fun _ _ _ _ _ => pts_nil) (fun _ _ _ _ _ => (pe_call G_length_of (hr.mono (by decide)) rfl T.d_length_of.m T.d_length_of.F.kp T.d_length_of.b .nil pass0 (pa_cons (pv 1) pa_nil)))) pa_nil))))), ?_⟩
    refine ⟨_, rfl, v, rows, rfl, hP, hG, fun H1 s1 => ?_⟩
    obtain ⟨hok, htot⟩ := hG
    obtain ⟨p, vs, rfl, hv, hpr⟩ := hP
    have hlen := len_le_total hok
    refine ⟨_, rfl, p, rfl, ⟨vs, SqT.of (s1 _ _ hv)⟩, fun D hD => lc_tup (K := K) (a := p) (xs := vs) (fun i H2 => Same H1 H2 ∧ H2 D = some (.lst (List.map V.int ((rows.take i).map Row.len))))
      ⟨Same.new hD, upd_same⟩ (fun i H2 _ ⟨s2, _⟩ => SqT.of (s2 _ _ (s1 _ _ hv))) ?_ ?_⟩
    · rintro i x H2 hi ⟨s2, hd⟩
      obtain ⟨r, hr1, q, rfl, hq⟩ := pairedAt hpr hi
      have hro := hok r (List.mem_of_getElem? hr1)
      have hrl : r.len ≤ total rows := len_le_of hok (List.mem_of_getElem? hr1)
      have il : i < rows.length := (List.getElem?_eq_some_iff.mp hr1).1
      refine ⟨rfl, _, rfl, q, r, rfl, s2 _ _ (s1 _ _ hq), hro, by omega, _, hd, sizeL (by rw [List.length_map, List.length_map, List.length_take]; omega), fun b o z => ?_, ?_⟩
      · rw [upd_ne (ne_of_none z hD)]; exact s2 _ _ z
      · rw [upd_same, take_snoc hr1, List.map_append, List.map_append]; rfl
    · rintro H2 ⟨s2, hd⟩
      rw [Paired.length hpr, List.take_length] at hd
      refine ⟨D, _, rfl, SqL.of hd, ?_⟩
      have kk := k H2 (s1.trans s2)
      rw [← total_sum rows] at kk
      exact kk
theorem ok_done (T : All K mg) : FnOk P w K mg base CX0 5 T.d_done.f T.d_done.fd ["patch", "edition"] spDone := by
  have G_cells : FnOk P w K mg base CX0 4 T.d_cells.f T.d_cells.fd ["patch"] spCells := ok_cells T
  have G_check_edition : FnOk P w K mg base CX0 1 T.d_check_edition.f T.d_check_edition.fd ["edition"] spCheckEdition := ok_check_edition T
  have G_check_reach : FnOk P w K mg base CX0 1 T.d_check_reach.f T.d_check_reach.fd ["patch", "edition"] spCheckReach := ok_check_reach T
  refine T.d_done.F.ok sc_done (fun vs H Q E h => ?_) (fun cdv A outer s H vs Q E hr h => ?_)
  · obtain ⟨v, _, _, rfl, _⟩ := h
    rfl
  · obtain ⟨v, rows, es, rfl, hP, hG, hre, hb, hel, k⟩ := h
    refine ⟨_, (pss_cons 
      (ps_set (i := 2) sc_done.nd rfl (Or.inl rfl) (pe_call G_cells (hr.mono (by decide)) rfl T.d_cells.m T.d_cells.F.kp T.d_cells.b .nil pass0 (pa_cons (pv 0) pa_nil))) (pss_cons 
      (ps_expr (pe_call G_check_edition (hr.mono (by decide)) rfl T.d_check_edition.m T.d_check_edition.F.kp T.d_check_edition.b .nil pass0 (pa_cons (pv 1) pa_nil))) (pss_cons 
      (ps_expr (pe_call G_check_reach (hr.mono (by decide)) rfl T.d_check_reach.m T.d_check_reach.F.kp T.d_check_reach.b .nil pass0 (pa_cons (pv 0) (pa_cons (pv 1) pa_nil)))) (pss_one 
      (ps_ret (pe_bytesOf rfl (by rfl) T.b_bytes (pe_lc (own := [("word", 3), ("worth", 4)]) (tt := tYes) rfl sc_done.nd (pi_list (pv 2)) (blkOk_by (own := [("word", 3), ("worth", 4)]) (N := ["patch", "edition", "told", "word", "worth"]) (sc := defScope s_done) (by decide +kernel)) (fun _ _ _ _ _ => (pg_tupK (K := K) (n := 2) rfl rfl (pgs_cons (pg_name (i := 3) sc_done.nd rfl (Or.inl rfl)) (pgs_cons (pg_name (i := 4) sc_done.nd rfl (Or.inl rfl)) pgs_nil)))) (fun _ _ _ _ _ => pts_nil) (fun _ _ _ _ _ => (pe_ifExp (pt_cmpR op_eq (pv 3) pe_str (nomark _)) (pe_item_byt (pv 1) (pv 4) (fun _ _ => rfl)) (pv 4)))))))))), ?_⟩
    refine ⟨_, rfl, v, rows, rfl, hP, hG, fun H1 c s1 hc hcs => ?_⟩
    refine ⟨_, rfl, es, rfl, hel, ?_⟩
    refine ⟨_, rfl, _, rfl, v, rows, es, rfl, hP.tups (Same.tups s1), hre, hel, fun H2 s2 => ?_⟩
    obtain ⟨ws, hw, pw, hwl⟩ := (hcs.same s2).len
    have hlen := cellsOf_len hre
    have htot := hG.2
    -- what a cell may be
    have fits : ∀ cl ∈ cellsOf rows, (∃ n, cl = .old n ∧ 0 ≤ n ∧ n < es.length) ∨ ∃ b, cl = .new b ∧ 0 ≤ b ∧ b < 256 := by
      intro cl hcl
      obtain ⟨r, hr1, hr2⟩ := List.mem_flatMap.mp hcl
      have ho := hre r hr1
      cases r with
      | copy b n =>
        obtain ⟨i, hi, rfl⟩ := List.mem_map.mp hr2
        have hi := List.mem_range.mp hi
        have h1 := ho.1
        have h2 := ho.2.1
        have h3 := ho.2.2
        exact .inl ⟨_, rfl, by omega, by omega⟩
      | run b n =>
        rw [List.eq_of_mem_replicate hr2]
        exact .inr ⟨_, rfl, ho.1, ho.2.1⟩
      | bring bs =>
        obtain ⟨z, hz, rfl⟩ := List.mem_map.mp hr2
        exact .inr ⟨_, rfl, (ho.2 z hz).1, (ho.2 z hz).2⟩
    refine ⟨_, rfl, c, rfl, ⟨ws, SqL.of hw⟩, fun D hD => lc_list (K := K) (a := c) (xs := ws) (fun i H3 => Same H2 H3 ∧ H3 D = some (.lst (List.map V.int (((cellsOf rows).take i).map (valOf es)))))
      ⟨Same.new hD, upd_same⟩ (fun i H3 _ ⟨s3, _⟩ => SqL.of (s3 _ _ hw)) ?_ ?_⟩
    · rintro i x H3 hi ⟨s3, hd⟩
      obtain ⟨cl, hcl, q, rfl, hq⟩ := pairedAt pw hi
      have hq3 := s3 _ _ hq
      have il : i < (cellsOf rows).length := (List.getElem?_eq_some_iff.mp hcl).1
      -- the value goes to the list's end
      have fin : ∀ z : Int, z = valOf es cl → ∃ acc, H3 D = some (.lst acc) ∧ acc.length < sizeLine ∧ Same H2 (upd H3 D (.lst (acc ++ [.int z]))) ∧ (upd H3 D (.lst (acc ++ [.int z]))) D = some (.lst (List.map V.int (((cellsOf rows).take (i + 1)).map (valOf es)))) := by
        intro z ez
        refine ⟨_, hd, sizeL (by rw [List.length_map, List.length_map, List.length_take]; omega), fun b o y => ?_, ?_⟩
        · rw [upd_ne (ne_of_none y hD)]; exact s3 _ _ y
        · rw [upd_same, take_snoc hcl, List.map_append, List.map_append, ez]; rfl
      rcases fits cl (List.mem_of_getElem? hcl) with ⟨n, rfl, n0, n1⟩ | ⟨b, rfl, b0, b1⟩
      · refine ⟨q, _, rfl, SqT.of hq3, rfl, _, _, rfl, _, _, rfl, rfl, rfl, ?_⟩
        refine ⟨_, rfl, rfl, _, rfl, ite2 (fun _ => ?_) fun h => absurd (by decide) h⟩
        obtain ⟨j, hj⟩ : ∃ j : Nat, n = (j : Int) := ⟨n.toNat, by omega⟩
        subst hj
        have jl : j < es.length := by omega
        refine ⟨_, rfl, _, rfl, es.map fun n : Int => n.toNat.toUInt8, _, rfl, rfl, sizeS (by rw [List.length_map]; omega), n0, by rw [List.length_map]; exact n1, ?_⟩
        refine fin _ ?_
        have e := byte_at (j := j) hb (List.getElem?_eq_getElem jl)
        show ((((es.map fun n : Int => n.toNat.toUInt8).getD ((j : Int).toNat) 0).toNat : Nat) : Int) = es.getD (j : Int).toNat 0
        rw [Int.toNat_natCast, e, List.getD_eq_getElem?_getD, List.getElem?_eq_getElem jl]
        rfl
      · refine ⟨q, _, rfl, SqT.of hq3, rfl, _, _, rfl, _, _, rfl, rfl, rfl, ?_⟩
        refine ⟨_, rfl, rfl, _, rfl, ite2 (fun h => absurd h (by decide)) fun _ => ?_⟩
        exact ⟨_, rfl, fin _ rfl⟩
    · rintro H3 ⟨s3, hd⟩
      rw [hwl, List.take_length] at hd
      refine .inr ⟨D, _, rfl, SqL.of hd, fun z hz => ?_, ?_⟩
      · obtain ⟨cl, hcl, rfl⟩ := List.mem_map.mp hz
        rcases fits cl hcl with ⟨n, rfl, n0, n1⟩ | ⟨b, rfl, b0, b1⟩
        · have jl : n.toNat < es.length := by omega
          show 0 ≤ es.getD n.toNat 0 ∧ es.getD n.toNat 0 < 256
          rw [List.getD_eq_getElem?_getD, List.getElem?_eq_getElem jl]
          exact hb _ (List.getElem_mem jl)
        · exact ⟨b0, b1⟩
      · exact k H3 (s1.trans (s2.trans s3))
end
/-! ### a statement whose ways meet again; a list against the empty one -/
def tJoin (t : TS) : TS := fun D σ H => ∃ J : L2.St → Hp → Prop, t { D with nx := J } σ H ∧ ∀ σ' H', J σ' H' → D.nx σ' H'
theorem ps_join {X : Cx} {st : Stmt} {t : TS} (h : PS X st t) : PS X st (tJoin t) := by
  refine ⟨fun pins s σ H D I hh => ?_⟩
  obtain ⟨J, h1, h2⟩ := hh
  refine thn (h.run pins s σ H { D with nx := J } I h1) fun f s' q => ?_
  cases f with
  | next =>
    obtain ⟨σ', H', I', j⟩ := q
    exact ⟨σ', H', I', h2 _ _ j⟩
  | ret u => exact q
  | brk => exact q
  | cont => exact q
def rNeEmpty : R2 := fun x y H Q => ∃ a b xs, x = .ref a ∧ y = .ref b ∧ H a = some (.lst xs) ∧ H b = some (.lst []) ∧ Q (.bl (!xs.isEmpty)) H
theorem op_neEmpty {X : Cx} (hu : X.A.units + 64 < cLine) : OpR X (compareOp .NotEq) rNeEmpty := by
  intro pins s σ H x y v u Q I rx ry h
  obtain ⟨a, b, xs, rfl, rfl, ha, hb, q⟩ := h
  cases (show v = Value.ref a from rx)
  cases (show u = Value.ref b from ry)
  obtain ⟨us, r1, p1, _⟩ := I.list (SqL.of ha)
  obtain ⟨ws, r2, p2, _⟩ := I.list (SqL.of hb)
  cases r2
  cases r1 with
  | nil =>
    have z := SeqAt.RcNeAt.lists (A := X.A) (e := fun _ => true) p1.isList p2.isList rfl (by omega) (fun j h1 => absurd h1 (Nat.not_lt_zero j))
    exact z X.prog X.w _ _ ⟨.bl false, H, I, rfl, q⟩
  | cons c t =>
    have z := SeqAt.RcNeAt.lists_lengths (A := X.A) p1.isList p2.isList (by simp) (by omega)
    exact z X.prog X.w _ _ ⟨.bl true, H, I, rfl, q⟩
theorem op_notIn_rng {X : Cx} : OpR X (compareOp .NotIn) (fun x y H Q => ∃ i a lo hi, x = V.int i ∧ y = V.ref a ∧ H a = some (.rng lo hi) ∧ Q (.bl (!decide (lo ≤ i ∧ i < hi))) H) := by
  intro pins s σ H x y v u Q I rx ry h
  obtain ⟨i, a, lo, hi, rfl, rfl, ha, q⟩ := h
  obtain ⟨k, rfl⟩ := rx
  obtain rfl : u = Value.ref a := ry
  obtain ⟨t1, t2, t3, ho⟩ := I.hok a _ ha
  refine NotIn_slot (T := "range") ⟨_, ho, rfl⟩ PySem.F.slot_range_contains (call_meets PySem.F.slot_range_contains ⟨_, ho, rfl⟩ PySem.F.entry_range_contains (PySem.F.args_range_contains_2 _ _) (q_contains a lo hi i t1 t2 t3 k) ⟨ho, wpAny_truthy_bool ⟨.bl _, H, I, rfl, ?_⟩⟩)
  show Q (.bl (!(Builtin.Range.rangePlace? lo hi 1 i).isSome)) H
  rw [place1]
  exact q
theorem atIb {bs : List Int} {z b : Int} (h0 : 0 ≤ z) (h : bs[z.toNat]? = some b) : atI (bs.map V.int) z = some (.int b) := at_of (j := z.toNat) (by omega) (by rw [List.getElem?_map, h]; rfl)
def spLCells : Sp := fun vs H Q _ => ∃ (p : Addr) (rows : List Row) (c : Int), vs = [.ref p] ∧ RowsAt H p rows ∧ (∀ r ∈ rows, r.ok c) ∧ c ≤ 10000 ∧ total rows ≤ 10000 ∧ ∀ H' q, Same H H' → H q = none → CellsAt H' q (cellsOf rows) → Q (.ref q) H'
section
variable {P : Program} {w : World} {K : PySem.W.Frag} {mg : Str → Option Value} {base : Heap}
theorem ok_law_cells (T : All K mg) : FnOk P w K mg base CX0 1 T.d_law_cells.f T.d_law_cells.fd ["_law_rows_here"] spLCells := by
  refine T.d_law_cells.F.ok sc_law_cells (fun vs H Q E h => ?_) (fun cdv A outer s H vs Q E hr h => ?_)
  · obtain ⟨p, _, _, rfl, _⟩ := h
    rfl
  · obtain ⟨p, rows, c, rfl, ⟨vs, hv, hpr⟩, hok, hc, htot, k⟩ := h
    refine ⟨_, (pss_cons 
      (ps_set (i := 1) sc_law_cells.nd rfl (Or.inl rfl) (pe_lst pa_nil)) (pss_cons 
      (ps_for PassesOwn.never rfl (pi_list (pv 0)) (pg_name (i := 2) sc_law_cells.nd rfl (Or.inl rfl)) (pss_one 
      (ps_if (pt_cmpR op_eq (pe_ix ix_tup (pv 2) pe_int (fun _ _ => rfl)) pe_str (nomark _)) (pss_one 
      (ps_set (i := 1) sc_law_cells.nd rfl (Or.inl rfl) (pe_op op_cat (pv 1) (pe_lc (own := [("_law_k", 3)]) (g := gName 3) (tt := tYes) rfl sc_law_cells.nd (pi_range2 (by rfl) T.b_range (pa_cons (pe_ix ix_tup (pv 2) pe_int (fun _ _ => rfl)) (pa_cons (pe_op op_add (pe_ix ix_tup (pv 2) pe_int (fun _ _ => rfl)) (pe_ix ix_tup (pv 2) pe_int (fun _ _ => rfl))) pa_nil))) (blkOk_by (own := [("_law_k", 3)]) (N := ["_law_rows_here", "_law_found", "_law_row", "_law_k", "_law_byte"]) (sc := defScope s_law_cells) (by decide +kernel)) (fun _ _ _ _ _ => (pg_name (i := 3) sc_law_cells.nd rfl (Or.inl rfl))) (fun _ _ _ _ _ => pts_nil) (fun _ _ _ _ _ => (pe_tup (pa_cons pe_str (pa_cons (pv 3) pa_nil)))))))) (pss_one 
      (ps_if (pt_cmpR op_eq (pe_ix ix_tup (pv 2) pe_int (fun _ _ => rfl)) pe_str (nomark _)) (pss_one 
      (ps_set (i := 1) sc_law_cells.nd rfl (Or.inl rfl) (pe_op op_cat (pv 1) (pe_op op_rep (pe_lst (pa_cons (pe_tup (pa_cons pe_str (pa_cons (pe_ix ix_tup (pv 2) pe_int (fun _ _ => rfl)) pa_nil))) pa_nil)) (pe_ix ix_tup (pv 2) pe_int (fun _ _ => rfl)))))) (pss_one 
      (ps_set (i := 1) sc_law_cells.nd rfl (Or.inl rfl) (pe_op op_cat (pv 1) (pe_lc (own := [("_law_byte", 4)]) (g := gName 4) (tt := tYes) rfl sc_law_cells.nd (pi_list (pe_ix ix_tup (pv 2) pe_int (fun _ _ => rfl))) (blkOk_by (own := [("_law_byte", 4)]) (N := ["_law_rows_here", "_law_found", "_law_row", "_law_k", "_law_byte"]) (sc := defScope s_law_cells) (by decide +kernel)) (fun _ _ _ _ _ => (pg_name (i := 4) sc_law_cells.nd rfl (Or.inl rfl))) (fun _ _ _ _ _ => pts_nil) (fun _ _ _ _ _ => (pe_tup (pa_cons pe_str (pa_cons (pv 4) pa_nil))))))))))))) (pss_one 
      (ps_ret (pv 1))))), ?_⟩
    refine ⟨sizeS (by show 0 ≤ 100000; decide), fun f0 hf0 => ?_⟩
    refine ⟨_, rfl, p, rfl, ⟨vs, SqL.of (Same.new hf0 _ _ hv)⟩, for_list (K := K) (a := p) (xs := vs) (fun i σ H2 => ∃ (f : Addr) (ws : List V) (v2 v3 v4 : Option V), σ = [some (.ref p), some (.ref f), v2, v3, v4] ∧ Same H H2 ∧ H f = none ∧ H2 f = some (.lst ws) ∧ Paired (CellV H2) ws (cellsOf (rows.take i)))
      ⟨f0, [], none, none, none, rfl, Same.new hf0, hf0, upd_same, .nil⟩ (fun i σ H2 _ ⟨_, _, _, _, _, _, s2, _⟩ => SqL.of (s2 _ _ hv)) ?_ ?_⟩
    · rintro i x σ H2 hi ⟨f, ws, v2, v3, v4, rfl, s2, hf, hw, pw⟩
      obtain ⟨r, hr1, hr2⟩ := pairedAt hpr hi
      have hro := hok r (List.mem_of_getElem? hr1)
      have hrl : r.len ≤ total rows := len_le_of hok (List.mem_of_getElem? hr1)
      have l1 : (ws.length : Int) = total (rows.take i) := by
        rw [Paired.length pw]; exact cellsOf_len fun x hx => hok x (List.mem_of_mem_take hx)
      have l3 := total_take_le hok i
      have l4 := total_nn hok
      -- the two lists put together
      have fin : ∀ (H3 : Hp) (us : List V) (q : Addr), Same H2 H3 → Paired (CellV H3) us (cellsR r) → H3 q = none → H q = none ∧ Same H (upd H3 q (.lst (ws ++ us))) ∧ Paired (CellV (upd H3 q (.lst (ws ++ us)))) (ws ++ us) (cellsOf (rows.take (i + 1))) := by
        intro H3 us q s3 pu hq
        refine ⟨(s2.trans s3).free hq, (s2.trans s3).trans (Same.new hq), ?_⟩
        rw [cellsOf_take hr1]
        exact pairedApp (pairedMap pw fun _ _ x => (x.tups (Same.tups s3)).tups (Same.tups (Same.new hq))) (pairedMap pu fun _ _ x => x.tups (Same.tups (Same.new hq)))
      cases r with
      | copy b n =>
        obtain ⟨t, rfl, ht⟩ := hr2.same s2
        have h1 := hro.1
        have h2 := hro.2.1
        have h4 : n ≤ total rows := hrl
        have h3 := hro.2.2
        refine ⟨_, rfl, t, _, _, _, rfl, rfl, SqT.of ht, rfl, rfl, _, rfl, ite2 (fun _ => ?_) fun h => absurd (by decide) h⟩
        refine ⟨_, rfl, _, rfl, t, _, _, _, rfl, rfl, SqT.of ht, rfl, _, rfl, t, _, _, _, rfl, rfl, SqT.of ht, rfl, _, rfl, t, _, _, _, rfl, rfl, SqT.of ht, rfl, _, _, rfl, rfl, _, _, rfl, ⟨by omega, by omega, by omega, by omega⟩, fun D hD => ?_⟩
        refine lc_range (lo := b) (n := (b + n - b).toNat) (fun j H3 => ∃ us : List V, Same H2 H3 ∧ H3 D = some (.lst us) ∧ Paired (CellV H3) us ((List.range j).map fun i => Cell.old (b + (i : Nat))))
          ⟨[], Same.new hD, upd_same, .nil⟩ ?_ ?_
        · rintro j H3 hj ⟨us, s3, hu, pu⟩
          have ul : us.length = j := by rw [Paired.length pu, List.length_map, List.length_range]
          refine ⟨rfl, _, rfl, sizeS (by show 2 ≤ 100000; decide), fun t' ht' => ?_⟩
          obtain ⟨q1, q2⟩ := cell_more (c := .old (b + (j : Nat))) hD s3 hu pu ht'
          refine ⟨us, Same.new ht' _ _ hu, sizeL (by omega), _, q1, upd_same, ?_⟩
          rw [List.range_succ, List.map_append]
          exact q2
        · rintro H3 ⟨us, s3, hu, pu⟩
          rw [show (b + n - b).toNat = n.toNat by omega] at pu
          have ul : us.length = n.toNat := by rw [Paired.length pu, List.length_map, List.length_range]
          refine ⟨f, D, ws, us, rfl, rfl, s3 _ _ hw, hu, sizeS (by omega), fun q hq => ?_⟩
          obtain ⟨q1, q2, q3⟩ := fin H3 us q s3 pu hq
          exact ⟨q, _, _, _, _, rfl, q2, q1, upd_same, q3⟩
      | run b n =>
        obtain ⟨t, rfl, ht⟩ := hr2.same s2
        have h3 := hro.2.2
        have h4 : n ≤ total rows := hrl
        refine ⟨_, rfl, t, _, _, _, rfl, rfl, SqT.of ht, rfl, rfl, _, rfl, ite2 (fun h => absurd h (by decide)) fun _ => ?_⟩
        refine ⟨_, rfl, t, _, _, _, rfl, rfl, SqT.of ht, rfl, rfl, _, rfl, ite2 (fun _ => ?_) fun h => absurd (by decide) h⟩
        refine ⟨_, rfl, _, rfl, t, _, _, _, rfl, rfl, SqT.of ht, rfl, sizeS (by show 2 ≤ 100000; decide), fun u hu => ⟨sizeS (by show 1 ≤ 100000; decide), fun l hl => ?_⟩⟩
        have s3 : Same H2 (upd (upd H2 u (.tup [.str "new", .int b])) l (.lst [.ref u])) := (Same.new hu).trans (Same.new hl)
        refine ⟨_, rfl, t, _, _, _, rfl, rfl, SqT.of (s3 _ _ ht), rfl, l, _, _, rfl, rfl, upd_same, by omega, by omega, sizeS ?_, fun q hq => ?_⟩
        · show 1 * n.toNat ≤ 100000
          omega
        · have s4 := s3.trans (Same.new (o := .lst (List.replicate n.toNat [V.ref u]).flatten) hq)
          have cu : CellV (upd (upd (upd H2 u (.tup [.str "new", .int b])) l (.lst [.ref u])) q (.lst (List.replicate n.toNat [V.ref u]).flatten)) (.ref u) (.new b) := ⟨u, rfl, Same.new hq _ _ (Same.new hl _ _ upd_same)⟩
          have pu := paired_rep cu n.toNat
          refine ⟨f, q, ws, _, rfl, rfl, s4 _ _ hw, upd_same, sizeS (by rw [rep_flat, List.length_replicate]; omega), fun q' hq' => ?_⟩
          obtain ⟨q1, q2, q3⟩ := fin _ _ q' s4 pu hq'
          rw [rep_flat] at q2 q3 ⊢
          exact ⟨q', _, _, _, _, rfl, q2, q1, upd_same, q3⟩
      | bring bs =>
        obtain ⟨t, u, rfl, ht, hu⟩ := hr2.same s2
        have h4 : (bs.length : Int) ≤ total rows := hrl
        refine ⟨_, rfl, t, _, _, _, rfl, rfl, SqT.of ht, rfl, rfl, _, rfl, ite2 (fun h => absurd h (by decide)) fun _ => ?_⟩
        refine ⟨_, rfl, t, _, _, _, rfl, rfl, SqT.of ht, rfl, rfl, _, rfl, ite2 (fun h => absurd h (by decide)) fun _ => ?_⟩
        refine ⟨_, rfl, _, rfl, t, _, _, _, rfl, rfl, SqT.of ht, rfl, u, rfl, ⟨_, SqL.of hu⟩, fun D hD => ?_⟩
        refine lc_list (K := K) (a := u) (xs := bs.map V.int) (fun j H3 => ∃ us : List V, Same H2 H3 ∧ H3 D = some (.lst us) ∧ Paired (CellV H3) us ((bs.take j).map Cell.new))
          ⟨[], Same.new hD, upd_same, .nil⟩ (fun j H3 _ ⟨_, s3, _⟩ => SqL.of (s3 _ _ hu)) ?_ ?_
        · rintro j y H3 hj ⟨us, s3, hus, pu⟩
          obtain ⟨z, rfl, hz⟩ := at_map hj
          have ul : us.length ≤ bs.length := by rw [Paired.length pu, List.length_map, List.length_take]; omega
          refine ⟨rfl, _, rfl, sizeS (by show 2 ≤ 100000; decide), fun t' ht' => ?_⟩
          obtain ⟨q1, q2⟩ := cell_more (c := .new z) hD s3 hus pu ht'
          refine ⟨us, Same.new ht' _ _ hus, sizeL (by omega), _, q1, upd_same, ?_⟩
          rw [take_snoc hz, List.map_append]
          exact q2
        · rintro H3 ⟨us, s3, hus, pu⟩
          rw [List.length_map, List.take_length] at pu
          have ul : us.length = bs.length := by rw [Paired.length pu, List.length_map]
          refine ⟨f, D, ws, us, rfl, rfl, s3 _ _ hw, hus, sizeS (by omega), fun q hq => ?_⟩
          obtain ⟨q1, q2, q3⟩ := fin H3 us q s3 pu hq
          exact ⟨q, _, _, _, _, rfl, q2, q1, upd_same, q3⟩
    · rintro σ H2 ⟨f, ws, v2, v3, v4, rfl, s2, hf, hw, pw⟩
      rw [Paired.length hpr, List.take_length] at pw
      exact ⟨_, rfl, k H2 f s2 hf ⟨ws, hw, pw⟩⟩
end
/-! ### all stays but tables -/
theorem Tups.ext {H H' : Hp} (e : LamX.ExtN H H') : Tups H H' := fun b xs hb => e _ _ hb fun ps z => by cases z
theorem Dice.ext {K : PySem.W.Frag} {a d : Addr} {ns : List Int} {H H' : Hp} (D : Dice K a ns H d) (e : LamX.ExtN H H') : Dice K a ns H' d := by
  obtain ⟨g1, g2, pp, mm, gg, g3, g4⟩ := D
  refine ⟨?_, g2, pp, mm, gg, g3, e _ _ g4 fun ps z => by cases z⟩
  rcases g1 with (g1 | ⟨og, g1⟩) | g1
  · exact .inl (.inl (e _ _ g1 fun ps z => by cases z))
  · exact .inl (.inr ⟨og, e _ _ g1 fun ps z => by cases z⟩)
  · exact .inr g1
section
open LamX
theorem Tabs.same {T : List (Addr × Str)} {H H' : Hp} (t : Tabs T H) (e : Same H H') : Tabs T H' := t.ext fun b o h => e b o h
theorem Tabs.but {T : List (Addr × Str)} {H H' : Hp} {d : Addr} {xs : List V} (t : Tabs T H) (hd : H d = some (.lst xs)) (e : But d H H') : Tabs T H' := fun p hp => by
  obtain ⟨ps, h1, h2, h3⟩ := t p hp
  refine ⟨ps, e.at hd h1 (fun z => by cases z), h2, fun pos cv hc => ?_⟩
  obtain ⟨c, e1, e2⟩ := h3 pos cv hc
  exact ⟨c, e1, e.at hd e2 (fun z => by unfold CodeO at z; cases z)⟩
end
theorem dp_ref3 {K : PySem.W.Frag} {H : Hp} {p : Addr} {x y : Str} {i : Int} (h : H p = some (.tup [.str x, .str y, .int i])) : Dp K H (.ref p) (.tuple [.str x, .str y, .int i]) := .tup (SqT.of h) (.cons (.str _) (.cons (.str _) (.cons (.int _) .nil)))
theorem sh_ref3 (x y : Str) (i : Int) (hx : PyData.strOk x = true := by decide +kernel) (hy : PyData.strOk y = true := by decide +kernel) : SeqAt.shaped (.tuple [.str x, .str y, .int i]) = true := by simp [hx, hy, SeqAt.shaped, PyData.canLay0, PyData.canLayAll0, PyData.depth, PyData.depthAll]
theorem eqv_ref3 (x y : Str) (i : Int) (hx : PyData.strOk x = true := by decide +kernel) (hy : PyData.strOk y = true := by decide +kernel) : PyData.eqv (.tuple [.str x, .str y, .int i]) (.tuple [.str x, .str y, .int i]) = true := SeqAt.eqv_refl _ (SeqAt.canLay_of_shaped (sh_ref3 x y i hx hy))
/-! ### isinstance of a caught error, count of flat items, fields of a caught error -/
open PySem.W in
def rIsX (K : Frag) (a : Addr) (cls : Value) (d : Option Addr) : List V → Hp → VK → Prop := fun xs H Q => ∃ (D : Addr) (c : V) (cv : Value) (b : Bool), cls = .ref D ∧ ExcC K D ∧ (d = none ∨ ∃ dd fs, d = some dd ∧ H dd = some (.xd fs)) ∧ xs = [.ref a, c] ∧ (∀ u, RelV c u → u = cv) ∧ kitOne K (.ref D) cv = some b ∧ Q (.bl b) H
open PySem.W in
theorem call_isX {X : Cx} {a : Addr} {oe : Obj} {cls : Value} {d : Option Addr} {pn : List (Addr × Obj)} (hz : Zc cls d oe) (hf : ∃ vs, oe.data = .fields vs) : CallR (X.suite a ((a, oe) :: pn)) (.builtin "isinstance") (rIsX X.K a cls d) := by
  intro pins s σ H xs us Q I r h
  obtain ⟨D, c, cv, b, rfl, C, hd, rfl, hcv, e, q⟩ := h
  cases r with
  | cons rx rr =>
    cases rr with
    | cons rt rr =>
      cases rr
      cases rx
      have ec := hcv _ rt
      subst ec
      obtain ⟨hget, _⟩ := I.pin (a, oe) (List.mem_append.mpr (.inl List.mem_cons_self))
      obtain ⟨vs, hv⟩ := hf
      obtain ⟨od, J⟩ : ∃ od, InstAt s.heap a oe D od := by
        rcases hd with rfl | ⟨dd, fs, rfl, hxd⟩
        · exact ⟨none, hget, hz.1, by unfold notCls; rw [hv] <;> rfl, by rw [hz.2]; trivial⟩
        · have hx : ObjOk X.prog X.w H s.heap dd (.xd fs) := I.hok dd _ hxd
          obtain ⟨mA, hns, hr⟩ := hx
          obtain ⟨od, ho, hl⟩ := lookIn_ns hns
          exact ⟨some od, hget, hz.1, by unfold notCls; rw [hv] <;> rfl, by rw [hz.2]; exact ho⟩
      obtain ⟨cdD, hcD, _⟩ := any_some C.hd
      exact kia_one (kitx_exc (by rw [hcD]; rfl) C.hg C.hk C.hs C.ha C.hn C.ht C.hm) I.kIn J e (fun z => nomatch z) fun tk => ⟨.bl b, H, I.kept (t' := tk) fun _ _ z => z, rfl, q⟩
def rCountF (K : PySem.W.Frag) : V → List V → Hp → VK → Prop := fun x xs H Q => ∃ (a : Addr) (ys : List V) (y : V), x = .ref a ∧ xs = [y] ∧ SqL K H a ys ∧ flatV y = true ∧ ys.all flatV = true ∧ Q (.int (ys.countP fun z => eqV z y : Nat)) H
theorem count_eqU {y : V} : ∀ {ys : List V} {us : List Value}, Vals ys us → ys.all flatV = true → us.countP (eqU y) = ys.countP fun z => eqV z y
  | _, _, .nil, _ => rfl
  | z :: ys, u :: us, .cons r t, f => by
    rw [List.all_cons, Bool.and_eq_true] at f
    rw [List.countP_cons, List.countP_cons, count_eqU t f.2, eqU_of r f.1]
theorem mt_countF {X : Cx} : MtR X "list.count" (rCountF X.K) := by
  intro pins s σ H x xs v us Q I rx rxs h
  obtain ⟨a, ys, y, rfl, rfl, hs, fy, fys, q⟩ := h
  cases rx
  cases rxs with
  | cons ry rt =>
    rename_i uy ut
    cases rt
    obtain ⟨its, rv, ⟨⟨cls, dd, data, sl⟩, n, ho, hc, hdn, hd⟩, hlen⟩ := I.list hs
    simp only at hc hd
    subst hc hd
    refine call_meets PySem.F.slot_list_count ⟨_, ho, rfl⟩ PySem.F.entry_list_count (PySem.F.args_list_count_2 _ _)
      (SeqAt.list_countAt a its.toArray n dd sl uy (eqU y)) ⟨ho, fun u' hu' => mem_eqAt ry fy rv fys u' (by simpa using hu'), ?_⟩
    refine ⟨.int (ys.countP fun z => eqV z y : Nat), H, I.tok _, ⟨s.toks, ?_⟩, q⟩
    show Value.int ((its.toArray.toList.countP (eqU y) : Nat) : Int) s.toks = _
    rw [show its.toArray.toList = its from rfl, count_eqU rv fys]
def tXfA (K : PySem.W.Frag) (a : Addr) (cls : Value) (d : Option Addr) (f : Str) (te : TE) : TE := fun σ H Q => te σ H fun x H1 => x = .ref a ∧ ∃ C, cls = .ref C ∧ XfC K C ∧ PySem.W.findIn K (.ref C) f = some none ∧ ∃ (dd : Addr) (fs : List (Str × V)) (v : V), d = some dd ∧ H1 dd = some (.xd fs) ∧ fs.lookup f = some v ∧ Q v H1
section
variable {X : Cx} {a : Addr} {oe : Obj} {pn : List (Addr × Obj)}
theorem pe_xfA {cls : Value} {d : Option Addr} {e : Expr} {te : TE} {pos : Pos} {n : Str}
    (hz : Zc cls d oe) (hf : ∃ vs, oe.data = .fields vs) (he : PE (X.suite a ((a, oe) :: pn)) e te) (hb : attributeBase e n X.env (eval e X.env) = eval e X.env := by rfl) :
    PE (X.suite a ((a, oe) :: pn)) (.Attribute e n pos) (tXfA X.K a cls d n te) := by
  refine ⟨fun pins s σ H Q I h => ?_⟩
  refine attr_of hb (thn (he.run pins s σ H _ I h) fun u s1 hh => ?_)
  obtain ⟨x, H1, I1, rx, ex, C, ec, T, hno, dd, fs, v, ed, ea, l, q⟩ := hh
  subst ex
  obtain rfl : u = Value.ref a := rx
  subst ec
  subst ed
  obtain ⟨ha, _⟩ := I1.pin (a, oe) (List.mem_append_left _ List.mem_cons_self)
  obtain ⟨vs, hd⟩ := hf
  have hx : ObjOk X.prog X.w H1 s1.heap dd (.xd fs) := I1.hok dd _ ea
  obtain ⟨mA, hns, hr⟩ := hx
  obtain ⟨od, ho, hl⟩ := lookIn_ns hns
  obtain ⟨u, hu, ru⟩ := RelO.some_of (v := v) (o := mA n) (by rw [← l]; exact hr n)
  have J : PySem.W.InstAt s1.heap a oe C (some od) := ⟨ha, hz.1, by unfold PySem.W.notCls; rw [hd] <;> rfl, by rw [hz.2]; exact ho⟩
  exact HandSPX.exc_get I1.kIn J T.ga T.gg T.exC (PySem.W.findObj_own T.hdC hno rfl (by rw [hl, hu])) (handed_of ru) ⟨v, H1, I1.tok _, ru, q⟩
theorem mtcS : MtR (X.suite a ((a, oe) :: pn)) "list.count" (rCountF X.K) := mt_countF
theorem mtiS : MtR (X.suite a ((a, oe) :: pn)) "list.index" (rIndex X.K) := mt_index
theorem opinS : OpR (X.suite a ((a, oe) :: pn)) (compareOp .In) (rIn X.K false) := op_in_seq
theorem opcatS : OpR (X.suite a ((a, oe) :: pn)) (binaryOp .Add) (rCatA X.K) := op_catA
theorem ixlS : IxR (X.suite a ((a, oe) :: pn)) (rIxL X.K) := ix_list
theorem pe_bmS {T : String} {name : Str} {id : String} {r : V → List V → Hp → VK → Prop} {o e : Expr} {es : List Expr} {to : TE} {t : TA} {apos cpos : Pos} (pa : PlainAttrs T) (slot : Slot T name id) (hty : typeOf (.builtin id) = pure (.type "method_descriptor")) (hm : MtR (X.suite a ((a, oe) :: pn)) id r)
    (ho : PE (X.suite a ((a, oe) :: pn)) o to) (ha : PA (X.suite a ((a, oe) :: pn)) (e :: es) t)
    (hbase : attributeBase o name X.env (eval o X.env) = eval o X.env := by rfl)
    (hfew : ((backTo cpos (starEach (e :: es) X.env)).all (fun x => !x.1) && (backToKw cpos (keywordEach [] X.env)).all (fun x => x.1.isSome)
      && decide ((e :: es).length + ([] : List Keyword).length + (if ([] : List Keyword).isEmpty then 0 else 1) < 30)) = true := by rfl)
    (hline : (apos.endLine == cpos.line) = true := by rfl)
    (he : starEach (e :: es) X.env = (false, eval e X.env) :: starEach es X.env := by rfl) (hpl : (backTo cpos (starEach es X.env)).any (·.1) = false := by rfl) :
    PE (X.suite a ((a, oe) :: pn)) (.Call (.Attribute o name apos) (e :: es) [] cpos) (tBM X.K T r to t) := pe_bm pa slot hty hm ho ha hbase hfew hline he hpl
end
structure ToldC {K : PySem.W.Frag} {mg : Str → Option Value} (T : All K mg) (C : Addr) (me : Nat) : Prop where
  ec : ExcC K C
  xf : XfC K C
  exm : PySem.W.exmOne K (.ref C) (.ref T.k_PatchError) = some true
  i_BadPatch : PySem.W.kitOne K (.ref C) (.ref T.k_BadPatch) = some (decide (me = 0))
  i_Beyond : PySem.W.kitOne K (.ref C) (.ref T.k_Beyond) = some (decide (me = 1))
  i_BadMeet : PySem.W.kitOne K (.ref C) (.ref T.k_BadMeet) = some (decide (me = 2))
  i_BadCode : PySem.W.kitOne K (.ref C) (.ref T.k_BadCode) = some (decide (me = 3))
  i_BadOrder : PySem.W.kitOne K (.ref C) (.ref T.k_BadOrder) = some (decide (me = 4))
  i_BadEdition : PySem.W.kitOne K (.ref C) (.ref T.k_BadEdition) = some (decide (me = 5))
  i_BadCount : PySem.W.kitOne K (.ref C) (.ref T.k_BadCount) = some (decide (me = 6))
  i_TooMany : PySem.W.kitOne K (.ref C) (.ref T.k_TooMany) = some (decide (me = 7))
  i_BadPieces : PySem.W.kitOne K (.ref C) (.ref T.k_BadPieces) = some (decide (me = 8))
  i_BadMarks : PySem.W.kitOne K (.ref C) (.ref T.k_BadMarks) = some (decide (me = 9))
  i_Underway : PySem.W.kitOne K (.ref C) (.ref T.k_Underway) = some (decide (me = 10))
  i_Asleep : PySem.W.kitOne K (.ref C) (.ref T.k_Asleep) = some (decide (me = 11))
  i_Awake : PySem.W.kitOne K (.ref C) (.ref T.k_Awake) = some (decide (me = 12))
  i_BadCell : PySem.W.kitOne K (.ref C) (.ref T.k_BadCell) = some (decide (me = 13))
def nameOf : Nat → Str
  | 0 => "BadPatch"
  | 1 => "Beyond"
  | 2 => "BadMeet"
  | 3 => "BadCode"
  | 4 => "BadOrder"
  | 5 => "BadEdition"
  | 6 => "BadCount"
  | 7 => "TooMany"
  | 8 => "BadPieces"
  | 9 => "BadMarks"
  | 10 => "Underway"
  | 11 => "Asleep"
  | 12 => "Awake"
  | _ => "BadCell"
def fieldOf : Nat → Option Str
  | 0 => some "piece"
  | 1 => some "piece"
  | 2 => some "number"
  | 3 => some "place"
  | 4 => some "number"
  | _ => none
abbrev sorts (j : Nat) (a n : Nat) : List V := (List.range' a n).map fun k => V.bl (decide (j = k))
abbrev termsL : List V := [V.str "BadPatch", V.str "Beyond", V.str "BadMeet", V.str "BadCode", V.str "BadOrder", V.str "BadEdition", V.str "BadCount", V.str "TooMany", V.str "BadPieces", V.str "BadMarks", V.str "Underway", V.str "Asleep", V.str "Awake", V.str "BadCell"]
theorem fieldOf_some : ∀ {j : Nat} {f : Str}, fieldOf j = some f → (j = 0 ∧ f = "piece") ∨ (j = 1 ∧ f = "piece") ∨ (j = 2 ∧ f = "number") ∨ (j = 4 ∧ f = "number") ∨ (j = 3 ∧ f = "place")
  | 0, _, h => by cases h; exact .inl ⟨rfl, rfl⟩
  | 1, _, h => by cases h; exact .inr (.inl ⟨rfl, rfl⟩)
  | 2, _, h => by cases h; exact .inr (.inr (.inl ⟨rfl, rfl⟩))
  | 3, _, h => by cases h; exact .inr (.inr (.inr (.inr ⟨rfl, rfl⟩)))
  | 4, _, h => by cases h; exact .inr (.inr (.inr (.inl ⟨rfl, rfl⟩)))
  | _ + 5, _, h => by cases h
theorem fieldOf_none : ∀ {j : Nat}, fieldOf j = none → 5 ≤ j
  | 0, h => by cases h
  | 1, h => by cases h
  | 2, h => by cases h
  | 3, h => by cases h
  | 4, h => by cases h
  | _ + 5, _ => by omega
theorem sorts_at {j m : Nat} {z : V} (h : (sorts j 0 14)[m]? = some z) : z = V.bl (decide (j = m)) := by
  unfold sorts at h
  rw [List.getElem?_map] at h
  cases e : (List.range' 0 14)[m]? with
  | none => rw [e] at h; cases h
  | some k =>
    rw [e] at h
    obtain ⟨hm, hk⟩ := List.getElem?_eq_some_iff.mp e
    rw [List.getElem_range'] at hk
    have : k = m := by omega
    subst this
    exact (Option.some.inj h).symm
theorem sorts_some {j : Nat} (h : j < 14) : (sorts j 0 14)[j]? = some (V.bl true) := by
  unfold sorts
  rw [List.getElem?_map, List.getElem?_eq_getElem (by rw [List.length_range']; exact h), List.getElem_range']
  show some (V.bl (decide (j = 0 + 1 * j))) = _
  rw [show decide (j = 0 + 1 * j) = true from decide_eq_true (by omega)]
theorem eqV_fls : eqV (.bl false) (.bl true) = false := rfl
theorem eqV_tru : eqV (.bl true) (.bl true) = true := rfl
theorem sorts_not {j m : Nat} {z : V} (hm : m < j) (h : (sorts j 0 14)[m]? = some z) : eqV z (.bl true) = false := by
  rw [sorts_at h, show decide (j = m) = false from decide_eq_false (by omega)]
  exact eqV_fls
theorem sorts_count : ∀ {j : Nat}, j < 14 → (sorts j 0 14).countP (fun z => eqV z (.bl true)) = 1 := by decide
theorem terms_at : ∀ {j : Nat}, j < 14 → termsL[j]? = some (.str (nameOf j))
  | 0, _ => rfl | 1, _ => rfl | 2, _ => rfl | 3, _ => rfl | 4, _ => rfl | 5, _ => rfl | 6, _ => rfl | 7, _ => rfl | 8, _ => rfl | 9, _ => rfl | 10, _ => rfl | 11, _ => rfl | 12, _ => rfl | 13, _ => rfl
  | _ + 14, h => absurd h (by omega)
/-- what the law is told of a refusal -/
def TellR {K : PySem.W.Frag} {mg : Str → Option Value} (T : All K mg) (cls : Value) (d : Option Addr) (H' : Hp) (Q : VK) : Prop :=
  ∃ (j : Nat) (C : Addr), cls = .ref C ∧ j < 14 ∧ ToldC T C j ∧
    ((∃ (f : Str) (dd : Addr) (i : Int), fieldOf j = some f ∧ PySem.W.findIn K (.ref C) f = some none ∧ d = some dd ∧ H' dd = some (.xd [(f, .int i)]) ∧
        ∀ H'' p, Same H' H'' → H' p = none → H'' p = some (.tup [.str "refused", .str (nameOf j), .int i]) → Q (.ref p) H'') ∨
      (fieldOf j = none ∧ d = none ∧ ∀ H'' p, Same H' H'' → H' p = none → H'' p = some (.tup [.str "refused", .str (nameOf j)]) → Q (.ref p) H''))
def TToldG {K : PySem.W.Frag} {mg : Str → Option Value} (T : All K mg) : (XK → Hp → VK → Prop) → Hp → VK → Prop := fun tl H Q => tl (fun cls d H' => TellR T cls d H' Q) H Q
theorem takes_len {X : Cx} {W : WX} (tk : Takes X W) : Takes X (fun cls d σ H => σ.length = X.N.length → W cls d σ H) := fun u s' ⟨a, B, sI, pins, σ, H, cls, d, e, I, nb, up, sky, na, os, ag, w⟩ =>
  tk u s' ⟨a, B, sI, pins, σ, H, cls, d, e, I, nb, up, sky, na, os, ag, w I.len⟩
theorem told_g {X : Cx} {g : Addr} {cdg : Value} {q : Str} (T : All X.K X.mg) :
    LamX.GivesTo X ["_law_work", "_law_e", "_law_some", "_law_terms", "_law_term"] "_law_told" (defScope s_law_told) g cdg (defBody s_law_told) "_law_work" q (TToldG T) := by
  intro f c' s H Q tl act hc h
  refine ⟨_, pss_one (ps_try_as (X := (cxOf C8.CX0 X.prog X.w X.K X.mg X.base ["_law_work", "_law_e", "_law_some", "_law_terms", "_law_term"] "_law_told" (defScope s_law_told) g cdg X.A X.stack s H C8.E0).nox) (i := 1) (c := .ref T.k_PatchError)
      (tb := fun W D σ H => ∃ Ech : XK, (∀ cls d σ' H', Ech cls d H' → σ'.length = 5 → W cls d σ' H') ∧ σ[0]? = some (some (.ref f)) ∧ H c' = some (LamX.CodeO c' q) ∧ tl Ech H D.rt)
      rfl rfl sc_law_told.nd rfl rfl ⟨rfl, by decide, .inl T.m_PatchError⟩ LamX.takes0 (fun W pn xe tk _ => ?_) (fun a oe cls d pn hz hf => (pss_cons 
      (ps_set (i := 2) sc_law_told.nd rfl (Or.inl rfl) (pe_lst (pa_cons (pe_callB (call_isX hz hf) (by rfl) T.b_isinstance (by decide +kernel) (pa_cons (pv 1) (pa_cons (pe_glob (v := .ref T.k_BadPatch) rfl T.m_BadPatch rfl) pa_nil))) (pa_cons (pe_callB (call_isX hz hf) (by rfl) T.b_isinstance (by decide +kernel) (pa_cons (pv 1) (pa_cons (pe_glob (v := .ref T.k_Beyond) rfl T.m_Beyond rfl) pa_nil))) (pa_cons (pe_callB (call_isX hz hf) (by rfl) T.b_isinstance (by decide +kernel) (pa_cons (pv 1) (pa_cons (pe_glob (v := .ref T.k_BadMeet) rfl T.m_BadMeet rfl) pa_nil))) (pa_cons (pe_callB (call_isX hz hf) (by rfl) T.b_isinstance (by decide +kernel) (pa_cons (pv 1) (pa_cons (pe_glob (v := .ref T.k_BadCode) rfl T.m_BadCode rfl) pa_nil))) pa_nil)))))) (pss_cons 
      (ps_set (i := 2) sc_law_told.nd rfl (Or.inl rfl) (pe_op op_cat (pv 2) (pe_lst (pa_cons (pe_callB (call_isX hz hf) (by rfl) T.b_isinstance (by decide +kernel) (pa_cons (pv 1) (pa_cons (pe_glob (v := .ref T.k_BadOrder) rfl T.m_BadOrder rfl) pa_nil))) (pa_cons (pe_callB (call_isX hz hf) (by rfl) T.b_isinstance (by decide +kernel) (pa_cons (pv 1) (pa_cons (pe_glob (v := .ref T.k_BadEdition) rfl T.m_BadEdition rfl) pa_nil))) (pa_cons (pe_callB (call_isX hz hf) (by rfl) T.b_isinstance (by decide +kernel) (pa_cons (pv 1) (pa_cons (pe_glob (v := .ref T.k_BadCount) rfl T.m_BadCount rfl) pa_nil))) pa_nil)))))) (pss_cons 
      (ps_set (i := 2) sc_law_told.nd rfl (Or.inl rfl) (pe_op op_cat (pv 2) (pe_lst (pa_cons (pe_callB (call_isX hz hf) (by rfl) T.b_isinstance (by decide +kernel) (pa_cons (pv 1) (pa_cons (pe_glob (v := .ref T.k_TooMany) rfl T.m_TooMany rfl) pa_nil))) (pa_cons (pe_callB (call_isX hz hf) (by rfl) T.b_isinstance (by decide +kernel) (pa_cons (pv 1) (pa_cons (pe_glob (v := .ref T.k_BadPieces) rfl T.m_BadPieces rfl) pa_nil))) (pa_cons (pe_callB (call_isX hz hf) (by rfl) T.b_isinstance (by decide +kernel) (pa_cons (pv 1) (pa_cons (pe_glob (v := .ref T.k_BadMarks) rfl T.m_BadMarks rfl) pa_nil))) pa_nil)))))) (pss_cons 
      (ps_set (i := 2) sc_law_told.nd rfl (Or.inl rfl) (pe_op op_cat (pv 2) (pe_lst (pa_cons (pe_callB (call_isX hz hf) (by rfl) T.b_isinstance (by decide +kernel) (pa_cons (pv 1) (pa_cons (pe_glob (v := .ref T.k_Underway) rfl T.m_Underway rfl) pa_nil))) (pa_cons (pe_callB (call_isX hz hf) (by rfl) T.b_isinstance (by decide +kernel) (pa_cons (pv 1) (pa_cons (pe_glob (v := .ref T.k_Asleep) rfl T.m_Asleep rfl) pa_nil))) (pa_cons (pe_callB (call_isX hz hf) (by rfl) T.b_isinstance (by decide +kernel) (pa_cons (pv 1) (pa_cons (pe_glob (v := .ref T.k_Awake) rfl T.m_Awake rfl) pa_nil))) (pa_cons (pe_callB (call_isX hz hf) (by rfl) T.b_isinstance (by decide +kernel) (pa_cons (pv 1) (pa_cons (pe_glob (v := .ref T.k_BadCell) rfl T.m_BadCell rfl) pa_nil))) pa_nil))))))) (pss_cons 
      (ps_set (i := 3) sc_law_told.nd rfl (Or.inl rfl) (pe_lst (pa_cons pe_str (pa_cons pe_str (pa_cons pe_str (pa_cons pe_str (pa_cons pe_str (pa_cons pe_str (pa_cons pe_str (pa_cons pe_str pa_nil)))))))))) (pss_cons 
      (ps_set (i := 3) sc_law_told.nd rfl (Or.inl rfl) (pe_op op_cat (pv 3) (pe_lst (pa_cons pe_str (pa_cons pe_str (pa_cons pe_str (pa_cons pe_str (pa_cons pe_str (pa_cons pe_str pa_nil))))))))) (pss_cons 
      (ps_set (i := 4) sc_law_told.nd rfl (Or.inl rfl) (pe_ifExp (pt_cmpR op_eq (pe_bmS PySem.F.plainAttrs_list PySem.F.slot_list_count PySem.F.type_list_count mtcS (pv 2) (pa_cons pe_bl pa_nil)) pe_int (nomark _)) (pe_ix ixlS (pv 3) (pe_bmS PySem.F.plainAttrs_list PySem.F.slot_list_index PySem.F.type_list_index mtiS (pv 2) (pa_cons pe_bl pa_nil)) (fun _ _ => rfl)) pe_str)) (pss_cons 
      (ps_if (pt_cmpR opinS (pv 4) (pe_tup (pa_cons pe_str (pa_cons pe_str pa_nil))) (by with_unfolding_all rfl)) (pss_one 
      (ps_ret (pe_tup (pa_cons pe_str (pa_cons (pv 4) (pa_cons (pe_xfA hz hf (pv 1)) pa_nil)))))) pss_nil) (pss_cons 
      (ps_if (pt_cmpR opinS (pv 4) (pe_tup (pa_cons pe_str (pa_cons pe_str pa_nil))) (by with_unfolding_all rfl)) (pss_one 
      (ps_ret (pe_tup (pa_cons pe_str (pa_cons (pv 4) (pa_cons (pe_xfA hz hf (pv 1)) pa_nil)))))) pss_nil) (pss_one 
      (ps_ret (pe_op opcatS (pe_tup (pa_cons pe_str (pa_cons (pv 4) pa_nil))) (pe_ifExp (pt_cmpR op_eq (pv 4) pe_str (nomark _)) (pe_tup (pa_cons (pe_xfA hz hf (pv 1)) pa_nil)) (pe_tup pa_nil)))))))))))))))), ?_⟩
  · refine ⟨fun pins s' σ H' D I h' => ?_⟩
    obtain ⟨Ech, hW, h1, h2, h3⟩ := h'
    exact (pss_one (ps_ret (act _ pn xe Ech _ _ (takes_len tk) fun cls d σ' H' h hl => hW cls d σ' H' h hl))).run pins s' σ H' D I ⟨h1, h2, h3⟩
  · refine ⟨_, fun cls d σ' H' h hl => ?_, rfl, hc, h⟩
    obtain ⟨j, C, rfl, hj, TC, hk⟩ := h
    refine ⟨true, TC.exm, fun _ a0 ha0 => ?_, fun q => Bool.noConfusion q⟩
    obtain ⟨x0, x1, x2, x3, x4, rfl⟩ : ∃ x0 x1 x2 x3 x4, σ' = [x0, x1, x2, x3, x4] := by
      match σ', hl with
      | [x0, x1, x2, x3, x4], _ => exact ⟨_, _, _, _, _, rfl⟩
    have hd : ∀ H2, Same H' H2 → d = none ∨ ∃ dd fs, d = some dd ∧ H2 dd = some (.xd fs) := fun H2 s2 => by
      rcases hk with ⟨f, dd, i, _, _, e, hxd, _⟩ | ⟨_, e, _⟩
      · exact .inr ⟨dd, _, e, s2 _ _ hxd⟩
      · exact .inl e
    have s0 := Same.refl H'
    refine ⟨_, rfl, C, _, _, _, rfl, TC.ec, hd _ s0, rfl, fun u hu => hu, TC.i_BadPatch, _, rfl, C, _, _, _, rfl, TC.ec, hd _ s0, rfl, fun u hu => hu, TC.i_Beyond, _, rfl, C, _, _, _, rfl, TC.ec, hd _ s0, rfl, fun u hu => hu, TC.i_BadMeet, _, rfl, C, _, _, _, rfl, TC.ec, hd _ s0, rfl, fun u hu => hu, TC.i_BadCode, sizeS (by show 4 ≤ 100000; decide), fun l1 hl1 => ?_⟩
    have t1 := s0.trans (Same.new (o := .lst (sorts j 0 4)) hl1)
    refine ⟨_, rfl, _, rfl, C, _, _, _, rfl, TC.ec, hd _ t1, rfl, fun u hu => hu, TC.i_BadOrder, _, rfl, C, _, _, _, rfl, TC.ec, hd _ t1, rfl, fun u hu => hu, TC.i_BadEdition, _, rfl, C, _, _, _, rfl, TC.ec, hd _ t1, rfl, fun u hu => hu, TC.i_BadCount, sizeS (by show 3 ≤ 100000; decide), fun k2 hk2 => ⟨l1, k2, _, _, rfl, rfl, Same.new hk2 _ _ upd_same, upd_same, sizeS (by show 4 + 3 ≤ 100000; decide), fun l2 hl2 => ?_⟩⟩
    have t2 := (t1.trans (Same.new (o := .lst (sorts j 4 3)) hk2)).trans (Same.new (o := .lst (sorts j 0 7)) hl2)
    refine ⟨_, rfl, _, rfl, C, _, _, _, rfl, TC.ec, hd _ t2, rfl, fun u hu => hu, TC.i_TooMany, _, rfl, C, _, _, _, rfl, TC.ec, hd _ t2, rfl, fun u hu => hu, TC.i_BadPieces, _, rfl, C, _, _, _, rfl, TC.ec, hd _ t2, rfl, fun u hu => hu, TC.i_BadMarks, sizeS (by show 3 ≤ 100000; decide), fun k3 hk3 => ⟨l2, k3, _, _, rfl, rfl, Same.new hk3 _ _ upd_same, upd_same, sizeS (by show 7 + 3 ≤ 100000; decide), fun l3 hl3 => ?_⟩⟩
    have t3 := (t2.trans (Same.new (o := .lst (sorts j 7 3)) hk3)).trans (Same.new (o := .lst (sorts j 0 10)) hl3)
    refine ⟨_, rfl, _, rfl, C, _, _, _, rfl, TC.ec, hd _ t3, rfl, fun u hu => hu, TC.i_Underway, _, rfl, C, _, _, _, rfl, TC.ec, hd _ t3, rfl, fun u hu => hu, TC.i_Asleep, _, rfl, C, _, _, _, rfl, TC.ec, hd _ t3, rfl, fun u hu => hu, TC.i_Awake, _, rfl, C, _, _, _, rfl, TC.ec, hd _ t3, rfl, fun u hu => hu, TC.i_BadCell, sizeS (by show 4 ≤ 100000; decide), fun k4 hk4 => ⟨l3, k4, _, _, rfl, rfl, Same.new hk4 _ _ upd_same, upd_same, sizeS (by show 10 + 4 ≤ 100000; decide), fun l4 hl4 => ?_⟩⟩
    have t4 := (t3.trans (Same.new (o := .lst (sorts j 10 4)) hk4)).trans (Same.new (o := .lst (sorts j 0 14)) hl4)
    refine ⟨sizeS (by show 8 ≤ 100000; decide), fun m1 hm1 => ?_⟩
    refine ⟨_, rfl, sizeS (by show 6 ≤ 100000; decide), fun m2 hm2 => ⟨m1, m2, _, _, rfl, rfl, Same.new hm2 _ _ upd_same, upd_same, sizeS (by show 8 + 6 ≤ 100000; decide), fun m3 hm3 => ?_⟩⟩
    have u1 := (Same.new hm1 (o := .lst [V.str "BadPatch", V.str "Beyond", V.str "BadMeet", V.str "BadCode", V.str "BadOrder", V.str "BadEdition", V.str "BadCount", V.str "TooMany"])).trans ((Same.new hm2 (o := .lst [V.str "BadPieces", V.str "BadMarks", V.str "Underway", V.str "Asleep", V.str "Awake", V.str "BadCell"])).trans (Same.new hm3 (o := .lst termsL)))
    have hl4' := u1 _ _ (upd_same (a := l4) (o := HO.lst (sorts j 0 14)))
    refine ⟨_, rfl, .inl ⟨rfl, _, SqL.of hl4'⟩, l4, sorts j 0 14, _, rfl, rfl, SqL.of hl4', rfl, rfl, rfl, _, rfl, ite2 (fun _ => ?_) fun h => absurd (decide_eq_true (congrArg (fun n : Nat => V.int (n : Int)) (sorts_count hj))) h⟩
    refine ⟨_, rfl, _, rfl, .inl ⟨rfl, _, SqL.of hl4'⟩, l4, sorts j 0 14, _, j, V.bl true, rfl, rfl, SqL.of hl4', rfl, rfl, sorts_some hj, rfl, fun m z hm hz => sorts_not hm hz, m3, termsL, _, _, rfl, rfl, SqL.of upd_same, at_of (j := j) rfl (terms_at hj), ?_⟩
    have u2 := t4.trans u1
    rcases hk with ⟨f, dd, i, hf, hno, rfl, hxd, k⟩ | ⟨hf, rfl, k⟩
    · rcases fieldOf_some hf with ⟨rfl, rfl⟩ | ⟨rfl, rfl⟩ | ⟨rfl, rfl⟩ | ⟨rfl, rfl⟩ | ⟨rfl, rfl⟩
      · refine ⟨_, rfl, sizeS (by show 2 ≤ 100000; decide), fun tp htp => ⟨tp, _, rfl, .inr (SqT.of upd_same), rfl, rfl, _, rfl, ite2 (fun _ => ?_) fun h => absurd (by decide) h⟩⟩
        have u3 := u2.trans (Same.new htp (o := .tup [V.str "BadPatch", V.str "Beyond"]))
        refine ⟨_, rfl, _, rfl, rfl, C, rfl, TC.xf, hno, dd, _, _, rfl, u3 _ _ hxd, rfl, sizeS (by show 3 ≤ 100000; decide), fun p hp => ?_⟩
        exact k _ p (u3.trans (Same.new hp)) (Same.free u3 hp) upd_same
      · refine ⟨_, rfl, sizeS (by show 2 ≤ 100000; decide), fun tp htp => ⟨tp, _, rfl, .inr (SqT.of upd_same), rfl, rfl, _, rfl, ite2 (fun _ => ?_) fun h => absurd (by decide) h⟩⟩
        have u3 := u2.trans (Same.new htp (o := .tup [V.str "BadPatch", V.str "Beyond"]))
        refine ⟨_, rfl, _, rfl, rfl, C, rfl, TC.xf, hno, dd, _, _, rfl, u3 _ _ hxd, rfl, sizeS (by show 3 ≤ 100000; decide), fun p hp => ?_⟩
        exact k _ p (u3.trans (Same.new hp)) (Same.free u3 hp) upd_same
      · refine ⟨_, rfl, sizeS (by show 2 ≤ 100000; decide), fun tp htp => ⟨tp, _, rfl, .inr (SqT.of upd_same), rfl, rfl, _, rfl, ite2 (fun h => absurd h (by decide)) fun _ => ?_⟩⟩
        have u3 := u2.trans (Same.new htp (o := .tup [V.str "BadPatch", V.str "Beyond"]))
        refine ⟨_, rfl, sizeS (by show 2 ≤ 100000; decide), fun tq htq => ⟨tq, _, rfl, .inr (SqT.of upd_same), rfl, rfl, _, rfl, ite2 (fun _ => ?_) fun h => absurd (by decide) h⟩⟩
        have u4 := u3.trans (Same.new htq (o := .tup [V.str "BadMeet", V.str "BadOrder"]))
        refine ⟨_, rfl, _, rfl, rfl, C, rfl, TC.xf, hno, dd, _, _, rfl, u4 _ _ hxd, rfl, sizeS (by show 3 ≤ 100000; decide), fun p hp => ?_⟩
        exact k _ p (u4.trans (Same.new hp)) (Same.free u4 hp) upd_same
      · refine ⟨_, rfl, sizeS (by show 2 ≤ 100000; decide), fun tp htp => ⟨tp, _, rfl, .inr (SqT.of upd_same), rfl, rfl, _, rfl, ite2 (fun h => absurd h (by decide)) fun _ => ?_⟩⟩
        have u3 := u2.trans (Same.new htp (o := .tup [V.str "BadPatch", V.str "Beyond"]))
        refine ⟨_, rfl, sizeS (by show 2 ≤ 100000; decide), fun tq htq => ⟨tq, _, rfl, .inr (SqT.of upd_same), rfl, rfl, _, rfl, ite2 (fun _ => ?_) fun h => absurd (by decide) h⟩⟩
        have u4 := u3.trans (Same.new htq (o := .tup [V.str "BadMeet", V.str "BadOrder"]))
        refine ⟨_, rfl, _, rfl, rfl, C, rfl, TC.xf, hno, dd, _, _, rfl, u4 _ _ hxd, rfl, sizeS (by show 3 ≤ 100000; decide), fun p hp => ?_⟩
        exact k _ p (u4.trans (Same.new hp)) (Same.free u4 hp) upd_same
      · refine ⟨_, rfl, sizeS (by show 2 ≤ 100000; decide), fun tp htp => ⟨tp, _, rfl, .inr (SqT.of upd_same), rfl, rfl, _, rfl, ite2 (fun h => absurd h (by decide)) fun _ => ?_⟩⟩
        have u3 := u2.trans (Same.new htp (o := .tup [V.str "BadPatch", V.str "Beyond"]))
        refine ⟨_, rfl, sizeS (by show 2 ≤ 100000; decide), fun tq htq => ⟨tq, _, rfl, .inr (SqT.of upd_same), rfl, rfl, _, rfl, ite2 (fun h => absurd h (by decide)) fun _ => ?_⟩⟩
        have u4 := u3.trans (Same.new htq (o := .tup [V.str "BadMeet", V.str "BadOrder"]))
        refine ⟨_, rfl, sizeS (by show 2 ≤ 100000; decide), fun p hp => ?_⟩
        have u5 := u4.trans (Same.new hp (o := .tup [V.str "refused", V.str "BadCode"]))
        refine ⟨_, rfl, rfl, _, rfl, ite2 (fun _ => ?_) fun h => absurd (by decide) h⟩
        refine ⟨_, rfl, rfl, C, rfl, TC.xf, hno, dd, _, _, rfl, u5 _ _ hxd, rfl, sizeS (by show 1 ≤ 100000; decide), fun pz hpz => ?_⟩
        refine ⟨p, pz, _, _, rfl, rfl, SqT.of (Same.new hpz _ _ upd_same), SqT.of upd_same, sizeS (by show 2 + 1 ≤ 100000; decide), fun h => absurd h (by simp), fun _ h => absurd h (by simp), fun _ _ y hy => ?_⟩
        have u6 := u5.trans (Same.new hpz (o := .tup [V.int i]))
        exact k _ y (u6.trans (Same.new hy)) (Same.free u6 hy) upd_same
    · have h5 := fieldOf_none hf
      have h14 : j = 5 ∨ j = 6 ∨ j = 7 ∨ j = 8 ∨ j = 9 ∨ j = 10 ∨ j = 11 ∨ j = 12 ∨ j = 13 := by omega
      rcases h14 with rfl | rfl | rfl | rfl | rfl | rfl | rfl | rfl | rfl
      all_goals
        refine ⟨_, rfl, sizeS (by show 2 ≤ 100000; decide), fun tp htp => ⟨tp, _, rfl, .inr (SqT.of upd_same), rfl, rfl, _, rfl, ite2 (fun h => absurd h (by decide)) fun _ => ?_⟩⟩
        have u3 := u2.trans (Same.new htp (o := .tup [V.str "BadPatch", V.str "Beyond"]))
        refine ⟨_, rfl, sizeS (by show 2 ≤ 100000; decide), fun tq htq => ⟨tq, _, rfl, .inr (SqT.of upd_same), rfl, rfl, _, rfl, ite2 (fun h => absurd h (by decide)) fun _ => ?_⟩⟩
        have u4 := u3.trans (Same.new htq (o := .tup [V.str "BadMeet", V.str "BadOrder"]))
        refine ⟨_, rfl, sizeS (by show 2 ≤ 100000; decide), fun p hp => ?_⟩
        refine ⟨_, rfl, rfl, _, rfl, ite2 (fun h => absurd h (by decide)) fun _ => ?_⟩
        refine ⟨sizeS (by show 0 ≤ 100000; decide), fun pz hpz => ⟨p, pz, _, _, rfl, rfl, SqT.of (Same.new hpz _ _ upd_same), SqT.of upd_same, sizeS (by show 2 + 0 ≤ 100000; decide), fun h => absurd h (by simp), fun _ _ => ?_, fun _ h => absurd rfl h⟩⟩
        exact k _ p ((u4.trans (Same.new hp)).trans (Same.new hpz)) (Same.free u4 hp) (Same.new hpz _ _ upd_same)
def lamQ : Str := ("law" : Str) ++ ".<locals>." ++ "<lambda>"
def spLawT (K : PySem.W.Frag) (PL : Addr) : Sp := fun vs H Q _ => ∃ (a : Addr) (ns : List Int), vs = [.ref a] ∧ SqL K H a (ns.map V.int) ∧ ns.length ≤ 63 ∧ H PL = some (.tbl #[]) ∧ ∀ H', Q (.bl true) H'
/-! ### lambdas as values; a comprehension whose element may call them -/
section
open LamX PySem.W
variable {X : Cx} {pins : List (Addr × Obj)} {σ : L2.St} {H HZ : Hp} {s s1 : Shared}
/-- a lambda's own object -/
def LamO (ql : Str) (params : Arguments) (body : Expr) (scope : Scope) (cl : List (Str × Addr)) (dV : Value) (c' f : Addr) : HO :=
  .ext fun h => ∃ doc pm ctv, h.get? f = some (kdv_obj "<lambda>" ql params (.expr body) scope cl dV doc pm c' ctv)
/-- the tuple of its one default -/
def DefO (T0 : Addr) (i : Int) : HO := .ext fun h => ∃ tk, h.get? T0 = some (kdv_tup [.int i tk])
/-- the lambda's names: parameters ns, captured ones, globals -/
structure LamG (sc scope : Scope) (ns : List Str) : Prop where
  kind : scope.kind = .function
  co : scope.isCoroutine = false
  gen : scope.isGenerator = false
  own : ∀ y ∈ scope.names, y.2 ≠ .cell ∧ (y.2 = .local → y.1 ∈ ns)
  free : ∀ y ∈ scope.names, y.2 = .free → sc.names.lookup y.1 = some .cell ∨ sc.names.lookup y.1 = some .free
  par : ∀ y ∈ ns, scope.names.lookup y = some .local
def lamGB (sc scope : Scope) (ns : List Str) : Bool :=
  decide (scope.kind = .function) && !scope.isCoroutine && !scope.isGenerator && (scope.names.all fun y => !decide (y.2 = .cell) && (!decide (y.2 = .local) || decide (y.1 ∈ ns)) && (!decide (y.2 = .free) || decide (sc.names.lookup y.1 = some .cell) || decide (sc.names.lookup y.1 = some .free))) && ns.all fun y => decide (scope.names.lookup y = some .local)
theorem lamG_by {sc scope : Scope} {ns : List Str} (h : lamGB sc scope ns = true) : LamG sc scope ns := by
  unfold lamGB at h
  simp only [Bool.and_eq_true, Bool.or_eq_true, Bool.not_eq_true', decide_eq_true_eq, decide_eq_false_iff_not, List.all_eq_true] at h
  obtain ⟨⟨⟨⟨h1, h2⟩, h3⟩, h4⟩, h5⟩ := h
  refine ⟨h1, h2, h3, fun y hy => ⟨(h4 y hy).1.1, fun e => ?_⟩, fun y hy e => ?_, h5⟩
  · exact (h4 y hy).1.2.elim (fun z => absurd e z) id
  · exact (h4 y hy).2.elim (fun z => z.elim (fun z => absurd e z) .inl) .inr
theorem LamG.has {scope : Scope} {ns : List Str} (L : LamG X.env.scope scope ns) (ok : X.Ok) : ∀ y ∈ scope.names, y.2 = .free → ∃ c, X.env.cells.lookup y.1 = some c := fun y hy e => ok.has _ (L.free y hy e)
/-- f is a lambda of X's def; tb: its body's reading -/
def LamIs (X : Cx) (H : Hp) (f : Addr) (k : Nat) (tb : XK → TE) : Prop :=
  ∃ (params : Arguments) (body : Expr) (scope : Scope) (dV : Value) (c' : Addr) (ns : List Str),
    H f = some (LamO (X.env.qual ++ "<lambda>") params body scope (cloFrom X.env.cells scope.names []) dV c' f) ∧ H c' = some (CodeO c' (X.env.qual ++ "<lambda>")) ∧ LamG X.env.scope scope ns ∧ (∀ y ∈ ns, y ∉ X.N) ∧
    ((dV = .none ∧ ns = [] ∧ ∀ (s1 : Shared) (doc pm ctv : Value), BindsTo s1 (kdv_fn "<lambda>" (X.env.qual ++ "<lambda>") params (.expr body) scope (cloFrom X.env.cells scope.names []) .none doc pm (.ref c') ctv) ⟨[], []⟩ []) ∨
      (∃ (T0 : Addr) (la : Str) (i : Int), dV = .ref T0 ∧ ns = [la] ∧ H T0 = some (DefO T0 i) ∧ ∀ (s1 : Shared) (doc pm ctv : Value) (tk0 : Tok), s1.heap.get? T0 = some (kdv_tup [.int i tk0]) →
        BindsTo s1 (kdv_fn "<lambda>" (X.env.qual ++ "<lambda>") params (.expr body) scope (cloFrom X.env.cells scope.names []) (.ref T0) doc pm (.ref c') ctv) ⟨[], []⟩ [(la, .int i tk0)])) ∧
    ∀ (A : Around) (outer : List Env) (s : Shared) (H : Hp) (E : XK), Room k (A.deeper (lamEnv X scope s.heap.objs.size f c')) → PE (lamCx X A outer s H E scope f c') body (tb E)
theorem lamO_ne {ql : Str} {params : Arguments} {body : Expr} {scope : Scope} {cl : List (Str × Addr)} {dV : Value} {c' f : Addr} (ps : Array Value) : LamO ql params body scope cl dV c' f ≠ .tbl ps := fun z => by
  unfold LamO at z
  cases z
theorem defO_ne {T0 : Addr} {i : Int} (ps : Array Value) : DefO T0 i ≠ .tbl ps := fun z => by
  unfold DefO at z
  cases z
theorem LamIs.ext {X : Cx} {H H' : Hp} {f : Addr} {k : Nat} {tb : XK → TE} (h : LamIs X H f k tb) (e : ExtN H H') : LamIs X H' f k tb := by
  obtain ⟨params, body, scope, dV, c', ns, h1, h2, h3, h4, h5, h6⟩ := h
  refine ⟨params, body, scope, dV, c', ns, e _ _ h1 lamO_ne, e _ _ h2 codeO_ne, h3, h4, ?_, h6⟩
  rcases h5 with h5 | ⟨T0, la, i, a1, a2, a3, a4⟩
  · exact .inl h5
  · exact .inr ⟨T0, la, i, a1, a2, e _ _ a3 defO_ne, a4⟩
theorem LamIs.same {X : Cx} {H H' : Hp} {f : Addr} {k : Nat} {tb : XK → TE} (h : LamIs X H f k tb) (e : Same H H') : LamIs X H' f k tb := h.ext fun b o a _ => e b o a
theorem LamIs.there {X : Cx} {H : Hp} {f : Addr} {k : Nat} {tb : XK → TE} (h : LamIs X H f k tb) : ∃ φ, H f = some (.ext φ) := by
  obtain ⟨_, _, _, _, _, _, h1, _⟩ := h
  exact ⟨_, h1⟩
/-- the function's object is laid and told -/
theorem lam_tail {T : List (Addr × Str)} {c P : Addr} {params : Arguments} {body : Expr} {scope : Scope} {pos : Pos} {E : Value → Shared → Prop} {Q : Value → Shared → Prop} {dV : Value} (I : Inv X pins σ H s) (TB : TabB X.base X.mg c P) (hcode : X.env.code = .ref c)
    (hm : (P, X.env.qual ++ "<lambda>") ∈ T) (hu : ∀ p ∈ T, p.1 = P → p.2 = X.env.qual ++ "<lambda>") (hT : Tabs T H) (hfree : ∀ y ∈ scope.names, y.2 = .free → ∃ c, X.env.cells.lookup y.1 = some c)
    (h : ∀ (f c' : Addr) (H1 : Hp) (s' : Shared), Inv X pins σ H1 s' → ExtN H H1 → Tabs T H1 → H f = none → H1 f = some (LamO (X.env.qual ++ "<lambda>") params body scope (cloFrom X.env.cells scope.names []) dV c' f) → H1 c' = some (CodeO c' (X.env.qual ++ "<lambda>")) → Q (.ref f) s') :
    wpAny (model X.prog X.w) X.A (makeTail "<lambda>" (X.env.qual ++ "<lambda>") params (.expr body) scope X.env dV .none none pos pos.line) Q E s := by
  have hcl := closure_ok (env := X.env) hfree
  obtain ⟨ps, hP, ht, ha⟩ := hT _ hm
  have bP := TB.bm.keeps I.bk
  have hP' := I.hok P _ hP
  have lay : ∀ {H2 : Hp} {h' : Heap} {tk : Nat} (c' : Addr) (doc ctv : Value), Inv X pins σ H2 { s with heap := h', toks := tk } → ExtN H H2 → Tabs T H2 → (∀ a, H2 a = none → H a = none) → H2 c' = some (CodeO c' (X.env.qual ++ "<lambda>")) →
      Q (.ref h'.objs.size) { s with heap := h'.push (kdv_obj "<lambda>" (X.env.qual ++ "<lambda>") params (.expr body) scope (cloFrom X.env.cells scope.names []) dV doc ((X.mg "__name__").getD .none) c' ctv), toks := tk } := by
    intro H2 h' tk c' doc ctv I2 e2 T2 n2 hc2
    have nf : H2 h'.objs.size = none := I2.hok.fresh (Nat.le_refl _)
    have at' := Heap.get?_push_size h' (o := kdv_obj "<lambda>" (X.env.qual ++ "<lambda>") params (.expr body) scope (cloFrom X.env.cells scope.names []) dV doc ((X.mg "__name__").getD .none) c' ctv) rfl
    have I3 := I2.laid (a := h'.objs.size) (o := LamO (X.env.qual ++ "<lambda>") params body scope (cloFrom X.env.cells scope.names []) dV c' h'.objs.size) (t' := tk) (h' := h'.push (kdv_obj "<lambda>" (X.env.qual ++ "<lambda>") params (.expr body) scope (cloFrom X.env.cells scope.names []) dV doc ((X.mg "__name__").getD .none) c' ctv))
      (fun b o e => Heap.get?_push_of_some _ e) (Nat.le_refl _) ⟨⟨_, _, _, at'⟩, ⟨_, at'⟩, fun h1 h2 ⟨d, p, v, z⟩ st => ⟨d, p, v, st _ z⟩⟩
    have sm : Same H2 (upd H2 h'.objs.size (LamO (X.env.qual ++ "<lambda>") params body scope (cloFrom X.env.cells scope.names []) dV c' h'.objs.size)) := Same.new nf
    exact h _ c' _ _ I3 (e2.trans (ExtN.of sm)) (T2.ext sm) (n2 _ nf) upd_same (sm _ _ hc2)
  cases hc : codeAmong pos ps.toList with
  | none =>
    refine kdv_makeTail (mg := X.mg) (c := c) (P := P) (ps := ps) hcl I.ok.glob (I.mod.glob.keeps I.bk) hcode (TB.code.keeps I.bk) hP' ht hc TB.gP bP fun c' ctv doc h' tk hx hge hlt hrec htb => ?_
    obtain ⟨c2, oc, vs, t, e2, hoc, hd, hv⟩ := hrec
    cases e2
    have nC : H c' = none := I.hok.fresh hge
    have I1 := inv_table (t' := tk) (more := #[rawInt pos.line, rawInt pos.col, .ref c']) (h' := h') I hP hx htb hge ⟨oc, vs, t, hoc, hd, hv⟩
    have hE : ExtN H (upd (upd H P (.tbl (ps ++ #[rawInt pos.line, rawInt pos.col, .ref c']))) c' (CodeO c' (X.env.qual ++ "<lambda>"))) := fun b o e n => by
      rw [upd_ne (ne_of_none e nC), upd_ne fun z => n ps (Option.some.inj (e.symm.trans (by rw [z]; exact hP)))]; exact e
    refine lay c' doc ctv I1 hE (fun p hp => ?_) (fun a n => ?_) upd_same
    · have eL : (ps ++ #[rawInt pos.line, rawInt pos.col, .ref c']).toList = ps.toList ++ [rawInt pos.line, rawInt pos.col, .ref c'] := by simp
      by_cases hb : p.1 = P
      · refine ⟨_, by rw [hb, upd_ne (ne_of_none hP nC), upd_same], by rw [eL]; exact PySem.TriplesOk_snoc _ _ _ _ ht, fun p' cv hcv => ?_⟩
        rw [hu p hp hb]
        rw [eL] at hcv
        rcases among_app _ ht hcv with z | z
        · obtain ⟨c0, e1, e2⟩ := ha p' cv z; exact ⟨c0, e1, hE _ _ e2 codeO_ne⟩
        · exact ⟨c', z, upd_same⟩
      · obtain ⟨ps', a1, a2, a3⟩ := hT p hp
        exact ⟨ps', by rw [upd_ne (ne_of_none a1 nC), upd_ne hb]; exact a1, a2, fun p' cv hcv => let ⟨c0, e1, e2⟩ := a3 p' cv hcv; ⟨c0, e1, hE _ _ e2 codeO_ne⟩⟩
    · cases e : H a with
      | none => rfl
      | some o =>
        by_cases ea : a = c'
        · rw [ea, upd_same] at n; cases n
        · rw [upd_ne ea] at n
          by_cases eb : a = P
          · rw [eb, upd_same] at n; cases n
          · rw [upd_ne eb, e] at n; cases n
  | some cv =>
    obtain ⟨c', e, hco⟩ := ha pos cv hc
    subst e
    refine kdv_makeTailHit (mg := X.mg) (c := c) (P := P) (ps := ps) hcl I.ok.glob (I.mod.glob.keeps I.bk) hcode (TB.code.keeps I.bk) hP' ht hc bP fun ctv doc h' tk hx _ => ?_
    exact lay c' doc ctv (I.kept hx) (ExtN.refl H) hT (fun _ n => n) hco
/-- what the making of a lambda asks: its table; then it stands at f, somewhere new -/
def tMkLam (X : Cx) (T : List (Addr × Str)) (k : Nat) (tb : XK → TE) : TE := fun _ H Q => Tabs T H ∧ ∀ H1 f, ExtN H H1 → Tabs T H1 → H f = none → LamIs X H1 f k tb → Q (.ref f) H1
theorem pe_lam {T : List (Addr × Str)} {c P : Addr} {k : Nat} {params : Arguments} {body : Expr} {scope : Scope} {pos : Pos} {tb : XK → TE} (TB : TabB X.base X.mg c P) (hcode : X.env.code = .ref c)
    (hm : (P, X.env.qual ++ "<lambda>") ∈ T) (hu : ∀ p ∈ T, p.1 = P → p.2 = X.env.qual ++ "<lambda>") (L : LamG X.env.scope scope []) (hdef : defaultsOf params X.env = ([], []))
    (hbind : ∀ (ql : Str) (clos : List (Str × Addr)) (doc pm cv ctv : Value) (s1 : Shared), BindsTo s1 (kdv_fn "<lambda>" ql params (.expr body) scope clos .none doc pm cv ctv) ⟨[], []⟩ [])
    (hbody : ∀ (A : Around) (outer : List Env) (s : Shared) (H : Hp) (E : XK) (f c' : Addr), Room k (A.deeper (lamEnv X scope s.heap.objs.size f c')) → PE (lamCx X A outer s H E scope f c') body (tb E)) :
    PE X (.Lambda params body scope pos) (tMkLam X T k tb) := by
  refine ⟨fun pins s σ H Q I h => ?_⟩
  obtain ⟨hT, h⟩ := h
  refine kla_eval hdef ?_
  rw [makeFunction_eq]
  simp only [List.zip_nil_right, List.filterMap_nil, List.isEmpty_nil, if_true, pure_bind]
  exact lam_tail (T := T) I TB hcode hm hu hT (L.has I.ok) fun f c' H1 s' I1 e1 T1 n1 hf hc => ⟨.ref f, H1, I1, rfl, h H1 f e1 T1 n1 ⟨params, body, scope, .none, c', [], hf, hc, L, (fun _ z => nomatch z), .inl ⟨rfl, rfl, fun s1 doc pm ctv => hbind _ _ _ _ _ _ s1⟩, fun A outer s H E hr => hbody A outer s H E f c' hr⟩⟩
theorem pe_lamD {T : List (Addr × Str)} {c P : Addr} {k : Nat} {params : Arguments} {body : Expr} {scope : Scope} {pos p0 : Pos} {k0 : Nat} {i : Int} {la : Str} {tb : XK → TE} (TB : TabB X.base X.mg c P) (hcode : X.env.code = .ref c)
    (hm : (P, X.env.qual ++ "<lambda>") ∈ T) (hu : ∀ p ∈ T, p.1 = P → p.2 = X.env.qual ++ "<lambda>") (L : LamG X.env.scope scope [la]) (hla : la ∉ X.N) (hdef : params.defaults = [.Constant (.int i) k0 p0]) (hk0 : params.kw_defaults = [])
    (hbind : ∀ (ql : Str) (clos : List (Str × Addr)) (T0 : Addr) (doc pm cv ctv : Value) (tk0 : Tok) (s1 : Shared), s1.heap.get? T0 = some (kdv_tup [.int i tk0]) → BindsTo s1 (kdv_fn "<lambda>" ql params (.expr body) scope clos (.ref T0) doc pm cv ctv) ⟨[], []⟩ [(la, .int i tk0)])
    (hbody : ∀ (A : Around) (outer : List Env) (s : Shared) (H : Hp) (E : XK) (f c' : Addr), Room k (A.deeper (lamEnv X scope s.heap.objs.size f c')) → PE (lamCx X A outer s H E scope f c') body (tb E)) :
    PE X (.Lambda params body scope pos) (tMkLam X T k tb) := by
  refine ⟨fun pins s σ H Q I h => ?_⟩
  obtain ⟨hT, h⟩ := h
  refine kdv_lam (by rw [hdef]; rfl) hk0 ?_
  rw [hdef]
  refine kdv_all1 (wpAny_Constant_int (kdv_all0 ?_))
  rw [makeFunction_eq]
  simp only [List.zip_nil_right, List.filterMap_nil, List.isEmpty_nil, List.isEmpty_cons, if_true, Bool.false_eq_true, if_false, pure_bind]
  refine wpAny_bind (wpAny_newTextTuple ?_)
  have nT : H s.heap.objs.size = none := I.hok.fresh (Nat.le_refl _)
  have atT := Heap.get?_push_size s.heap (o := kdv_tup [.int i s.toks]) rfl
  have I2 := I.laid (a := s.heap.objs.size) (o := DefO s.heap.objs.size i) (t' := s.toks + 1) (h' := s.heap.push (kdv_tup [.int i s.toks])) (fun b o e => Heap.get?_push_of_some _ e) (Nat.le_refl _) ⟨⟨_, atT⟩, ⟨_, atT⟩, fun h1 h2 ⟨t, z⟩ st => ⟨t, st _ z⟩⟩
  have sm : Same H (upd H s.heap.objs.size (DefO s.heap.objs.size i)) := Same.new nT
  refine lam_tail (T := T) I2 TB hcode hm hu (hT.ext sm) (L.has I.ok) fun f c' H1 s' I1 e1 T1 n1 hf hc => ⟨.ref f, H1, I1, rfl, h H1 f ((ExtN.of sm).trans e1) T1 (Same.free sm n1) ⟨params, body, scope, _, c', [la], hf, hc, L, fun y hy => by rw [List.mem_singleton.mp hy]; exact hla,
    .inr ⟨_, la, i, rfl, rfl, e1 _ _ upd_same defO_ne, fun s1 doc pm ctv tk0 z => hbind _ _ _ _ _ _ _ _ s1 z⟩, fun A outer s H E hr => hbody A outer s H E f c' hr⟩⟩
/-- the lambda's frame, over the def's own at s -/
theorem lam_startG {A : Around} {outer : List Env} {E : XK} {scope : Scope} {ns : List Str} {f c' : Addr} {h₁ : Heap} {tk : Nat} {bi : List (Str × Value)} {fs ex : List Addr} (I : Inv X pins σ H s) (L : LamG X.env.scope scope ns) (hla : ∀ y ∈ ns, y ∉ X.N) (e0 : Env0 X.prog X.w X.K X.mg X.base A outer s1 HZ) (hd : A.handled = none)
    (un : Un fs ex H HZ s.heap s1.heap) (hex : ∀ b ∈ ex, ∀ x c, X.env.cells.lookup x = some c → c ≠ b) (hns : h₁.Ns s1.heap.objs.size fun y => bi.reverse.lookup y) (kp : ∀ b o, s1.heap.get? b = some o → h₁.get? b = some o) :
    Inv (lamCx X A outer s1 HZ E scope f c') [] σ HZ { s1 with heap := h₁, toks := tk } := by
  have back : ∀ {y : Str} {c : Addr}, (cloFrom X.env.cells scope.names []).lookup y = some c → X.env.cells.lookup y = some c := by
    intro y c e
    rcases cloFrom_mem (PySem.mem_of_lookup e) with z | ⟨h1, h2⟩
    · cases z
    · obtain ⟨c1, hc⟩ := L.has I.ok _ h1 rfl
      rw [h2, show X.env.cells.lookup y = some c1 from hc]; rfl
  have fore : ∀ {y : Str}, scope.names.lookup y = some .free → ∃ c, (cloFrom X.env.cells scope.names []).lookup y = some c := fun hl =>
    mem_lookup (cloFrom_has (cells := X.env.cells) (acc := []) (PySem.mem_of_lookup hl))
  have noC : ∀ {y : Str}, scope.names.lookup y = some .cell → False := fun k => (L.own _ (PySem.mem_of_lookup k)).1 rfl
  have nex : ∀ {y : Str} {c : Addr}, X.env.cells.lookup y = some c → c ∉ ex := fun e z => hex _ z _ _ e rfl
  have keepC : ∀ {y : Str} {c : Addr} {v : Option Value}, X.env.cells.lookup y = some c → s.heap.IsCell c v → h₁.IsCell c v := by
    rintro y c v e ⟨o, ho, hd⟩
    obtain ⟨sl, q⟩ := un.any ho (I.freeC y c e) (nex e)
    exact ⟨_, kp _ _ q, hd⟩
  have z0 : ∀ b : Addr, b ∉ (lamCx X A outer s1 HZ E scope f c').ex := fun b z => nomatch (show b ∈ ([] : List Addr) from z)
  constructor
  · exact { mod := e0.mod, kind := L.kind, glob := rfl, blt := rfl, above := Nat.le_refl _, inj := fun y z c e1 e2 => I.ok.inj y z c (back e1) (back e2), has := fun y hy => hy.elim (fun k => (noC k).elim) fore, cab := fun y c z _ => Bool.noConfusion (show false = true from z),
            hd := fun _ => hd, frames := Around.frames_deeper e0.frames, stk := .inr ⟨rfl, rfl⟩, exf := fun b z => absurd z (z0 b), bs := e0.bs, bsz := e0.bsz, noex := fun b _ _ => z0 b, exfs := fun b z => absurd z (z0 b), funs := e0.funs, frf := e0.frf }
  · rfl
  · exact e0.bare
  · exact Un.kept kp
  · refine ⟨_, hns, fun i y v e1 e2 e3 => ?_⟩
    rcases (show Vis scope y from e3) with k | k | k
    · exact absurd (List.mem_of_getElem? (show X.N[i]? = some y from e1)) (hla _ ((L.own _ (PySem.mem_of_lookup k)).2 rfl))
    · exact (noC k).elim
    · obtain ⟨m, hn, hl⟩ := I.loc
      have fr := L.free _ (PySem.mem_of_lookup k) rfl
      obtain ⟨w', r, q⟩ := hl i y v e1 e2 (.inr fr)
      obtain ⟨c2, h2⟩ := fore k
      refine ⟨w', r, .inr ⟨.inr k, c2, h2, ?_⟩⟩
      rcases q with ⟨k', _⟩ | ⟨_, c3, e', z⟩
      · have k' : X.env.scope.names.lookup y = some .local := k'
        rcases fr with k2 | k2 <;> (rw [show X.env.scope.names.lookup y = _ from k2] at k'; cases k')
      · rw [back h2] at e'
        cases e'
        exact keepC (back h2) z
  · intro y c e
    obtain ⟨v, z⟩ := I.cell y c (back e)
    exact ⟨v, keepC (back e) z⟩
  · exact e0.hok.fresh (Nat.le_refl _)
  · intro y c e
    obtain ⟨v, o, ho, hd⟩ := I.cell y c (back e)
    exact un.free c o ho (I.freeC y c (back e)) (nex (back e))
  · intro q hq
    exact nomatch (show q ∈ ([] : List (Addr × Obj)) ++ [] from hq)
  · exact e0.hok.kept kp
  · exact I.len
theorem Un.wide {fs ex : List Addr} {H H' : Hp} {h h' : Heap} (u : Un fs [] H H' h h') : Un fs ex H H' h h' :=
  ⟨fun b o e n hb _ => u.keep b o e n hb (fun z => nomatch z), fun b o e n hb _ => u.slot b o e n hb (fun z => nomatch z), fun b o e n _ => u.free b o e n (fun z => nomatch z), fun b o e _ => u.there b o e (fun z => nomatch z), u.tups, u.frzs, u.tbls⟩
/-- what the call asks: x is a lambda, its body's reading at the def's own slots σ0 -/
def tLamV (X : Cx) (j k : Nat) (EE : VK → XK) (σ0 : L2.St) : TE := fun σ H Q => ∃ f tb, σ[j]? = some (some (.ref f)) ∧ LamIs X H f k tb ∧ tb (EE Q) σ0 H Q
/-- f(x), x a lambda of X's def, within a block of that def that began at s3 -/
theorem pe_lamV {s3 : Shared} {H3 : Hp} {scB : Scope} {cl : List (Str × Addr)} {C : Addr} {fp : List Addr} {σ0 : L2.St} {px : List (Addr × Obj)} (I3 : Inv X px σ0 H3 s3) (hfp : ∀ b ∈ fp, ∀ x c, X.env.cells.lookup x = some c → c ≠ b)
    {EE : VK → XK} {x y a : Str} {g : Addr} {k j : Nat} {pg : Arguments} {bg : List Stmt} {sg : Scope} {dV kV doc pm cdv ct oc : Value} {an od : Option Addr} {osl : Array (Option Value)} {Ng : List Str} {p p2 pos : Pos}
    (hg : Gl (X.blk s3 H3 scB (compEnvC scB cl C X.env) fp) x) (hm : X.mg x = some (.ref g)) (hk : keepIn X.K (.ref g) = true) (lk : X.K.lookup g = some ⟨oc, od, .func (fnOf x x pg bg sg dV kV doc pm an cdv ct), osl⟩) (hcg : codeIn X.K cdv x = true)
    (hb : L2.Binds X.K (fnOf x x pg bg sg dV kV doc pm an cdv ct) [a] []) (Sg : FnScope Ng [a] sg) (hNg : Ng[0]? = some a) (hva : Vis sg a)
    (hG : ∀ q, GivesTo (X.blk s3 H3 scB (compEnvC scB cl C X.env) fp) Ng x sg g cdv bg a q (fun tl H Q => tl (EE Q) H Q)) (hr : Room (k + 2) X.A) (hy : X.N[j]? = some y) (hvy : Vis (compEnvC scB cl C X.env).scope y)
    (hdb : (x == ("__debug__" : Str)) = false := by decide) (hd : (a == ("__debug__" : Str)) = false := by decide) (hcd : (a == ("__classdict__" : Str)) = false := by decide) (hdy : (y == ("__debug__" : Str)) = false := by decide) (hcy : (y == ("__classdict__" : Str)) = false := by decide)
    (hse : starEach [.Name y p2] (compEnvC scB cl C X.env) = (false, eval (.Name y p2) (compEnvC scB cl C X.env)) :: starEach [] (compEnvC scB cl C X.env) := by rfl) :
    PE (X.blk s3 H3 scB (compEnvC scB cl C X.env) fp) (.Call (.Name x p) [.Name y p2] [] pos) (tLamV X j k EE σ0) := by
  refine ⟨fun pins s σ H Q I h => ?_⟩
  obtain ⟨f, tb, hs, hL, ht⟩ := h
  refine wpAny_Call_Name_kw (ld_glob I hg hm ?_ hdb)
  refine callWith_K (h₀ := X.base) I.ok.mod.kin hk ?_ hse (by rfl)
  have pa : PA (X.blk s3 H3 scB (compEnvC scB cl C X.env) fp) [.Name y p2] _ := pa_cons (pe_var (pos := p2) (i := j) hy hvy hdy hcy) pa_nil hse
  refine thn (pa.run pos pins s σ H (fun vs H1 => vs = [.ref f] ∧ H1 = H) I ⟨.ref f, hs, rfl, rfl⟩) fun us s1 ⟨vs, H1, I1, r, q⟩ => ⟨I1.kIn, ?_⟩
  obtain ⟨ev, eH⟩ := q
  subst ev
  rw [eH] at I1
  obtain ⟨u, rfl, ru⟩ : ∃ u, us = [u] ∧ RelV (.ref f) u := by
    cases r with
    | cons a b => cases b; exact ⟨_, rfl, a⟩
  obtain rfl : u = Value.ref f := ru
  have rc : codeAny (model X.prog X.w) X.A (.call (.ref g) ⟨[.ref f], []⟩) (CR C8.CX0 X.stack X.prog X.w H s1 Q C8.E0) s1 := by
    refine run_ofS (N := Ng) (ps := [a]) (us := [.ref f]) (vs := [.ref f]) lk hcg Sg hr I1.env0 (hb s1 [.ref f] I1.kIn rfl) (.cons rfl .nil) rfl fun hr' => ?_
    obtain ⟨params, body, scope, dVl, c', ns, o1, o2, LG, hla, oD, hbody⟩ := id hL
    refine Exists.elim (hG _ f c' s1 H Q (fun E H' Q' => LamIs X H' f k tb ∧ H' f = some (LamO (X.env.qual ++ "<lambda>") params body scope (cloFrom X.env.cells scope.names []) dVl c' f) ∧ (∀ T0 i, H T0 = some (DefO T0 i) → H' T0 = some (DefO T0 i)) ∧ tb E σ0 H' Q') (fun W pn xe E p1 p3 tk hW => ?_) o2 ⟨hL, o1, fun _ _ z => z, ht⟩) fun t' z => ⟨t', z.1.nox, z.2⟩
    -- the lambda runs
    refine ⟨fun pinsZ sZ σZ HZ QZ IZ hz => ?_⟩
    obtain ⟨hs', hc', _, hoF, hoD, htb⟩ := hz
    refine wpAny_Call_Name_kw (thn ((pe_var (pos := p1) (i := 0) hNg hva hd hcd).run pinsZ sZ σZ HZ (fun v H1 => v = .ref f ∧ H1 = HZ) IZ ⟨.ref f, hs', rfl, rfl⟩) fun u s2 ⟨v, H1, I2, r1, q1⟩ => ?_)
    obtain ⟨ev, eH⟩ := q1
    subst ev
    rw [eH] at I2
    obtain rfl : u = Value.ref f := r1
    obtain ⟨⟨fdoc, fpm, fctv, of2⟩, _, _⟩ := I2.hok f _ hoF
    obtain ⟨⟨oc, vs, t, hoc, hdc, hvc⟩, _, _⟩ := I2.hok c' _ hc'
    refine callWith_F0 ⟨_, _, _, _, of2⟩ ?_
    have un : Un (frs X.stack) fp H3 HZ s3.heap s2.heap := Un.trans (I1.base : Un (frs X.stack) fp H3 H s3.heap s1.heap) (Un.wide (I2.base : Un (frs X.stack) [] H HZ s1.heap s2.heap))
    have hbi : ∃ bi : List (Str × Value), BindsTo s2 (kdv_fn "<lambda>" (X.env.qual ++ "<lambda>") params (.expr body) scope (cloFrom X.env.cells scope.names []) dVl fdoc fpm (.ref c') fctv) ⟨[], []⟩ bi ∧ ∀ z ∈ bi, z.1 ∈ ns := by
      rcases oD with ⟨rfl, rfl, hb0⟩ | ⟨T0, la, i, rfl, rfl, hT0, hb1⟩
      · exact ⟨[], hb0 _ _ _ _, fun z hz => nomatch hz⟩
      · obtain ⟨⟨tk0, e0⟩, _, _⟩ := I2.hok T0 _ (hoD _ _ hT0)
        exact ⟨[(la, .int i tk0)], hb1 _ _ _ _ _ e0, fun z hz => by rw [List.mem_singleton.mp hz]; exact List.mem_singleton.mpr rfl⟩
    obtain ⟨bi, hbind, hbn⟩ := hbi
    have rl : codeAny (model X.prog X.w) (X.A.deeper (envOfC x sg s1.heap.objs.size g cdv)) (.call (.ref f) ⟨[], []⟩) (CR (L2.CX X.prog X.w) (envOfC x sg s1.heap.objs.size g cdv :: X.stack) X.prog X.w HZ s2 QZ E) s2 := by
      refine kla_callFunE hr'.depth of2 rfl LG.co LG.gen rfl ⟨c', oc, vs, t, rfl, hoc, hdc, hvc⟩ ?_
      refine hbind _ _ _ _ ?_
      refine wpAny_newFunctionEnv (fun z hz => (LG.own z hz).1) (fun z hz => LG.par _ (hbn z hz)) (fun h₁ hns hsb => ⟨I2.nolimit.fresh _ hsb, ?_⟩) LG.kind
      show codeAny _ _ (.expr body (lamEnv X scope s2.heap.objs.size f c')) _ _
      have kp : ∀ b o, s2.heap.get? b = some o → h₁.get? b = some o := fun b o e => hsb.extBut b o (Nat.ne_of_lt (Heap.lt_size e)) (Heap.get?_push_of_some _ e)
      have J : Inv (lamCx X (X.A.deeper (envOfC x sg s1.heap.objs.size g cdv)) (envOfC x sg s1.heap.objs.size g cdv :: X.stack) s2 HZ E scope f c') [] σ0 HZ { s2 with heap := h₁, toks := s2.toks + bi.length } :=
        lam_startG I3 LG hla I2.env0 hr'.hd un hfp hns kp
      refine kla_codeExpr (wpAny_mono ((hbody _ _ s2 HZ E (hr'.deeper _)).run [] _ _ HZ QZ J htb) (fun v s' hq => ?_) fun e s' hq => hq)
      obtain ⟨w', H', J', rv, q⟩ := hq
      exact ⟨w', H', J'.os, J'.bare, J'.base, J'.hok, rv, q⟩
    have hx := passes_call tk hW
    refine wpAny_call (codeAny_mono rl fun r s' hq => ?_)
    cases r with
    | error e => exact hx pinsZ σZ HZ s2 e s' I2 hq
    | ok fl =>
      cases fl with
      | ret u => exact I2.after hq
      | next | brk | cont => exact False.elim hq
  refine wpAny_call (codeAny_mono rc fun r s2 hq => ?_)
  cases r with
  | error e => exact (show False from hq).elim
  | ok fl =>
    cases fl with
    | ret u => exact I1.after hq
    | next | brk | cont => exact False.elim hq
end
/-! ### a list comprehension, its element told of the very state in which it begins -/
section
open LamX PySem.W
variable {X : Cx}
def ElemI (X : Cx) (scope : Scope) (elt : Expr) (te : L2.St → TE) : Prop := ∀ (pins : List (Addr × Obj)) (σ : L2.St) (s3 : Shared) (H3 : Hp) (C : Addr) (cl : List (Str × Addr)) (fp : List Addr), Inv X pins σ H3 s3 → (∀ b ∈ fp, ∀ x c, X.env.cells.lookup x = some c → c ≠ b) →
  PE (X.blk s3 H3 scope (compEnvC scope cl C X.env) fp) elt (te σ)
theorem lcI_run {pins : List (Addr × Obj)} {s : Shared} {σ : L2.St} {H : Hp} {Q : VK} {elt tg iter : Expr} {scope : Scope} {own : List (Str × Nat)} {pos pos' : Pos} {wi : TI} {g : TG} {te : L2.St → TE} {use : Option (Value → Sem Unit)} {Qf : Value → Shared → Prop}
    (calm : X.calm = true) (hN : X.N.Nodup) (I : Inv X pins σ H s) (hi : PI X tg iter wi) (ok : BlkOk X.N X.env.scope scope own) (hg : ∀ (s : Shared) (H : Hp) (C : Addr) (cl : List (Str × Addr)) (fp : List Addr), PG (X.blk s H scope (compEnvC scope cl C X.env) fp) tg g)
    (he : ElemI X scope elt te) (hs : ∀ x, foldedSetIterable iter X.env x = pure x) (h : tLc wi g tYes (te σ) (own.map (·.2)) σ H Q)
    (out : ∀ D C s' m H', Inv X pins σ H' s' → Q (.ref D) H' → s'.heap.Ns C m → FpOk X pins H' C → compPost (model X.prog X.w) X.A X.xe use Qf (.ref D) C (.ok .next) s') :
    wpAny (model X.prog X.w) X.A (comprehension (.ListComp elt [⟨tg, iter, [], 0⟩] scope pos) scope X.env pos' (newList []) false (eval iter X.env) use) Qf X.xe s := by
  have free : ∀ y ∈ scope.names, y.2 = .free → ∃ c, X.env.cells.lookup y.1 = some c := fun y hy e => I.ok.has _ (ok.free y hy e)
  refine wpAny_comprehension_free (use := use) rfl hs (closure_ok free) ok.kind (fun y hy e => (ok.uniq y hy).trans (congrArg some e)) (thn (hi.run pins s σ H _ I h) fun _ sA hA => thn hA fun _ sB hB => ?_)
  obtain ⟨it, fp, tn, J, HB, rfl, IB, T, tB, fB, q⟩ := hB
  refine wpAny_newObj_type (newEnv_comp ?_) (by show 0 ≤ sizeLine; decide)
  -- D: the list that grows
  generalize hD : sB.heap.objs.size = D
  have DB : HB D = none := IB.hok.fresh (Nat.le_of_eq hD)
  obtain ⟨W, ⟨m0, w0⟩, turn⟩ := q D DB
  have ID := IB.laid (a := D) (o := .lst []) (t' := sB.toks) (h' := sB.heap.push { cls := .type "list", data := .seq ([] : List Value).toArray }) (fun b o e => Heap.get?_push_of_some _ e) (Nat.le_of_eq hD) ⟨Nat.zero_le _, [], 0, .nil, by rw [← hD]; exact Heap.get?_push_size _ rfl⟩
  have grow : ∀ b o, sB.heap.get? b = some o → (sB.heap.push { cls := .type "list", data := .seq ([] : List Value).toArray }).get? b = some o := fun b o e => Heap.get?_push_of_some _ e
  have low : ∀ b ∈ fp, b < sB.heap.objs.size := fun b hb => let ⟨o, e, _⟩ := T.obj _ _ tB b hb; Heap.lt_size e
  revert ID
  generalize hsD : ({ sB with heap := sB.heap.push { cls := .type "list", data := .seq ([] : List Value).toArray } } : Shared) = sD
  intro ID
  have hpD : sD.heap = sB.heap.push { cls := .type "list", data := .seq ([] : List Value).toArray } := by rw [← hsD]
  have fD : ∀ b ∈ fp, FpOk X pins (upd HB D (.lst [])) b ∧ b < sD.heap.objs.size := fun b hb =>
    ⟨⟨by rw [upd_ne (by rw [← hD]; exact Nat.ne_of_lt (low b hb))]; exact (fB b hb).1, (fB b hb).2⟩, by rw [hpD, Heap.size_push]; exact Nat.lt_succ_of_lt (low b hb)⟩
  have tD : tn 0 sD.heap := T.keep _ _ _ tB fun b _ o e => by rw [hpD]; exact grow b o e
  obtain ⟨HD, hHD⟩ : ∃ HD, upd HB D (.lst []) = HD := ⟨_, rfl⟩
  rw [hHD] at ID fD w0
  have nfp : ∀ b ∈ fp, HD b = none := fun b hb => (fD b hb).1.1
  have IS := block_start ID ok hN fD
  have eltOk := he pins σ sD HD sD.heap.objs.size (cellsFrom (sD.heap.objs.size + 1) scope.names (cloFrom X.env.cells scope.names [])) fp ID fun b hb => (fD b hb).1.2.2.2.2.1
  have tgOk := hg sD HD sD.heap.objs.size (cellsFrom (sD.heap.objs.size + 1) scope.names (cloFrom X.env.cells scope.names [])) fp
  show codeAny _ _ (.compStart _ 0 (.ref it) (.ref D) (compEnvC scope (cellsFrom (sD.heap.objs.size + 1) scope.names (cloFrom X.env.cells scope.names [])) sD.heap.objs.size X.env)) _ { sD with heap := pushCells (sD.heap.push { cls := .type "dict", data := .dict #[] }) scope.names }
  revert IS eltOk tgOk
  generalize hce : compEnvC scope (cellsFrom (sD.heap.objs.size + 1) scope.names (cloFrom X.env.cells scope.names [])) sD.heap.objs.size X.env = ce
  intro IS eltOk tgOk
  have lce : ce.locals = sD.heap.objs.size := by rw [← hce]; rfl
  obtain ⟨sE, hsE⟩ : ∃ sE : Shared, ({ sD with heap := pushCells (sD.heap.push { cls := .type "dict", data := .dict #[] }) scope.names } : Shared) = sE := ⟨_, rfl⟩
  rw [hsE] at IS ⊢
  have tE : tn 0 sE.heap := T.keep _ _ _ tD fun b _ o e => by rw [← hsE]; exact pushCells_keeps _ _ _ _ (Heap.get?_push_of_some _ e)
  have still : ∀ {σ' : L2.St} {H' : Hp} {s' : Shared}, Inv (X.blk sD HD scope ce fp) [] σ' H' s' → (∀ b ∈ fp, H' b = none) → ∀ b ∈ fp, FpOk (X.blk sD HD scope ce fp) [] H' b := fun I' hn b hb =>
    ⟨hn b hb, (I'.ok.exf b hb).1, I'.ok.exfs b hb, .inl hb, (I'.ok.exf b hb).2, fun p hp => nomatch (show p ∈ ([] : List (Addr × Obj)) ++ [] from hp)⟩
  have loop : codeAny (model X.prog X.w) X.A (.compLoop (.ListComp elt [⟨tg, iter, [], 0⟩] scope pos) 0 (.ref it) (.ref D) ce) (compPost (model X.prog X.w) X.A X.xe use Qf (.ref D) sD.heap.objs.size) sE := by
    refine compLoop_any (fun n s' => ∃ i H', Inv (X.blk sD HD scope ce fp) [] (wipe σ (own.map (·.2))) H' s' ∧ tn i s'.heap ∧ (∀ b ∈ fp, H' b = none) ∧ W i n H') ?_ m0 ⟨0, HD, IS, tE, nfp, w0⟩
    rintro n sF ⟨i, HF, IF, tF, nF, wF⟩
    rcases turn i n HF wF with ⟨stop, qq⟩ | ⟨go, Nx, down, step⟩
    · refine thnF (T.done (X.blk sD HD scope ce fp) rfl rfl rfl calm i [] sF _ HF (fun _ _ => False) IF (still IF nF) tF stop) fun r sG ⟨hr, IG⟩ => ?_
      subst hr
      have IX : Inv X pins σ HF sG := ID.call' (ch := fp) IG.os IG.base IG.hok IG.bare fun b hb => ⟨(fD b hb).1.2.2.2.1, (fD b hb).1.2.1, (fD b hb).1.2.2.2.2⟩
      obtain ⟨m, hn, _⟩ := IG.loc
      have nL : HF ce.locals = none := IG.free
      have hn : sG.heap.Ns ce.locals m := hn
      rw [lce] at hn nL
      exact out D sD.heap.objs.size sG m HF IX qq hn (ID.fpOk (Nat.le_refl _) nL)
    · refine thnF (T.item (X.blk sD HD scope ce fp) rfl rfl rfl calm i [] sF _ HF (fun _ _ => False) IF (still IF nF) tF go) fun r sG ⟨u, hr, hG⟩ => ?_
      subst hr
      refine thnF hG fun _ sK ⟨x, HK, IK, rK, yK, tK, nK⟩ => ?_
      refine thnF (tgOk.run _ sK _ HK x u _ (IK.pinned (still IK nK) (T.obj _ _ tK)) rK (step x HK yK)) fun _ sM ⟨σM, HM, IM, wM, qM⟩ => ?_
      refine thnF ((pts_nil (X := X.blk sD HD scope ce fp)).run _ sM σM HM _ IM qM) fun b sM' ⟨HM', IM', qM'⟩ => ?_
      have fin : ∀ {s' : Shared} {H' : Hp}, Inv (X.blk sD HD scope ce fp) ([] ++ pinsAt fp sK.heap) σM H' s' → Nx H' → ∃ m, m < n ∧ ∃ i H', Inv (X.blk sD HD scope ce fp) [] (wipe σ (own.map (·.2))) H' s' ∧ tn i s'.heap ∧ (∀ b ∈ fp, H' b = none) ∧ W i m H' := by
        intro s' H' I' nx
        obtain ⟨m', hm, w'⟩ := down H' nx
        have pinned : ∀ b ∈ fp, ∀ o, sK.heap.get? b = some o → s'.heap.get? b = some o ∧ H' b = none := fun b hb o e =>
          ⟨(I'.pin (b, o) (List.mem_append_right _ (List.mem_append_right _ (mem_pinsAt hb e)))).1, (I'.pin (b, o) (List.mem_append_right _ (List.mem_append_right _ (mem_pinsAt hb e)))).2.1⟩
        refine ⟨m', hm, i + 1, H', (I'.unpinned (pins := [])).weak (by rw [← wipe_length σM (own.map (·.2)), wM]) (fun j v e => ?_), T.keep _ _ _ tK fun b hb o e => (pinned b hb o e).1, fun b hb => let ⟨o, e, _⟩ := T.obj _ _ tK b hb; (pinned b hb o e).2, w'⟩
        rw [← wM] at e
        exact (wipe_some e).1
      cases b with
      | false =>
        simp only [Bool.false_eq_true, if_false] at qM' ⊢
        exact fin IM' qM'
      | true =>
        simp only [if_true] at qM' ⊢
        refine thnF (eltOk.run _ sM' σM HM' _ IM' qM') fun _ sP ⟨yv, HP, IP, rP, acc, hDP, hz, nx⟩ => ?_
        exact app_ok (X := X.blk sD HD scope ce fp) IP hDP hz rP fun _ IQ => fin IQ nx
  exact codeAny_compStart_list loop (T.self X.A 0 _ _ _ tE loop)
def tLcI (wi : TI) (g : TG) (te : L2.St → TE) (vs : List Nat) : TE := fun σ H Q => tLc wi g tYes (te σ) vs σ H Q
theorem pe_lcI {elt tg iter : Expr} {scope : Scope} {own : List (Str × Nat)} {pos : Pos} {wi : TI} {g : TG} {te : L2.St → TE} (calm : X.calm = true) (hN : X.N.Nodup) (hi : PI X tg iter wi) (ok : BlkOk X.N X.env.scope scope own)
    (hg : ∀ (s : Shared) (H : Hp) (C : Addr) (cl : List (Str × Addr)) (fp : List Addr), PG (X.blk s H scope (compEnvC scope cl C X.env) fp) tg g) (he : ElemI X scope elt te) (hs : ∀ x, foldedSetIterable iter X.env x = pure x := by intro _; rfl) :
    PE X (.ListComp elt [⟨tg, iter, [], 0⟩] scope pos) (tLcI wi g te (own.map (·.2))) := by
  refine ⟨fun pins s σ H Q I h => ?_⟩
  rw [eval_ListComp]
  exact lcI_run calm hN I hi ok hg he hs h fun D C s' m H' I' q hn ⟨f0, f1, f2, f3, f4, f5⟩ => ⟨m, hn, fun h'' sb => ⟨.ref D, H', I'.turned (t' := s'.toks) (fun b o hb e => (sb.2 b hb).trans e) f0 f1 f3 f4 f5, rfl, q⟩⟩
theorem ps_setLcI {i : Nat} {y : Str} {py : Pos} {elt tg iter : Expr} {scope : Scope} {own : List (Str × Nat)} {pos spos : Pos} {wi : TI} {g : TG} {te : L2.St → TE} (calm : X.calm = true) (hN : X.N.Nodup) (hy : X.N[i]? = some y) (hyl : X.env.scope.names.lookup y = some .local)
    (hsw : swapsWith (.ListComp elt [⟨tg, iter, [], 0⟩] scope pos) (some (.Name y py)) spos.line X.env = pure true) (hi : PI X tg iter wi) (ok : BlkOk X.N X.env.scope scope own)
    (hg : ∀ (s : Shared) (H : Hp) (C : Addr) (cl : List (Str × Addr)) (fp : List Addr), PG (X.blk s H scope (compEnvC scope cl C X.env) fp) tg g) (he : ElemI X scope elt te) (hs : ∀ x, foldedSetIterable iter X.env x = pure x := by intro _; rfl) :
    PS X (.Assign [.Name y py] (.ListComp elt [⟨tg, iter, [], 0⟩] scope pos) spos) (tAsg (tLcI wi g te (own.map (·.2))) (gName i)) := by
  refine ⟨fun pins s σ H D I h => ?_⟩
  rw [exec_Assign_Name_used _ _ _ _ hsw]
  refine wpAny_bind (wpAny_standAt (wpAny_bind ?_))
  have h : tLc wi g tYes (te σ) (own.map (·.2)) σ H (fun x H1 => gName i x σ H1 D.nx) := h
  refine wpAny_bind (thn (lcI_run (Qf := fun _ s' => SP X pins D .next s') (pos' := firstIterPos [⟨tg, iter, [], 0⟩] pos) (use := some (assign (.Name y py) X.env)) calm hN I hi ok hg he hs h fun L C s' m H' I' q hn ⟨f0, f1, f2, f3, f4, f5⟩ => ?_) fun _ s' hq => wpAny_pure (wpAny_pure hq))
  refine wpAny_assign_Name (store_ok2 (v := V.ref L) I' hN hy (.inl hyl) rfl (fun s2 I2 ⟨a, sb, ha⟩ => ?_) (.inr hyl))
  have ne : C ≠ a := ha.elim (fun z => by rw [z]; exact f1) fun z e => f4 y a z e.symm
  exact ⟨m, hn.sameBut sb ne, fun h3 sb3 => ⟨_, H', I2.turned (t' := s2.toks) (fun b o hb e => (sb3.2 b hb).trans e) f0 f1 f3 f4 f5, q⟩⟩
end
/-! ### the law's new edition -/
def spNew : Sp := fun vs H Q _ => ∃ (p o : Addr) (rows : List Row) (es : List Int), vs = [.ref p, .ref o] ∧ RowsAt H p rows ∧ (∀ r ∈ rows, r.ok es.length) ∧ H o = some (.lst (List.map V.int es)) ∧ es.length ≤ 10000 ∧ total rows ≤ 10000 ∧
  ∀ H' q, Same H H' → H q = none → H' q = some (.lst (List.map V.int (doneOf rows es))) → Q (.ref q) H'
theorem dp_ints {K : PySem.W.Frag} {H : Hp} {p : Addr} {ns : List Int} (h : H p = some (.lst (List.map V.int ns))) : Dp K H (.ref p) (.list (ns.map PyData.int)) := by
  refine Dp.lst (SqL.of h) ?_
  clear h
  induction ns with
  | nil => exact .nil
  | cons n r ih => exact .cons (.int n) ih
theorem eqv_ints (ns : List Int) : PyData.eqv (.list (ns.map PyData.int)) (.list (ns.map PyData.int)) = true :=
  SeqAt.eqv_refl _ (SeqAt.canLay_of_shaped (PySem.W.ke_shaped_ints ns))
section
variable {P : Program} {w : World} {K : PySem.W.Frag} {mg : Str → Option Value} {base : Heap}
theorem ok_law_new (T : All K mg) : FnOk P w K mg base CX0 2 T.d_law_new.f T.d_law_new.fd ["_law_rows_here", "_law_old"] spNew := by
  have G_law_cells : FnOk P w K mg base CX0 1 T.d_law_cells.f T.d_law_cells.fd ["_law_rows_here"] spLCells := ok_law_cells T
  refine T.d_law_new.F.ok sc_law_new (fun vs H Q E h => ?_) (fun cdv A outer s H vs Q E hr h => ?_)
  · obtain ⟨p, o, _, _, rfl, _⟩ := h
    rfl
  · obtain ⟨p, o, rows, es, rfl, hR, hre, ho, hel, htot, k⟩ := h
    refine ⟨_, (pss_one 
      (ps_ret (pe_lc (own := [("_law_word", 2), ("_law_k", 3)]) (tt := tYes) rfl sc_law_new.nd (pi_list (pe_call G_law_cells (hr.mono (by decide)) rfl T.d_law_cells.m T.d_law_cells.F.kp T.d_law_cells.b .nil pass0 (pa_cons (pv 0) pa_nil))) (blkOk_by (own := [("_law_word", 2), ("_law_k", 3)]) (N := ["_law_rows_here", "_law_old", "_law_word", "_law_k"]) (sc := defScope s_law_new) (by decide +kernel)) (fun _ _ _ _ _ => (pg_tupK (K := K) (n := 2) rfl rfl (pgs_cons (pg_name (i := 2) sc_law_new.nd rfl (Or.inl rfl)) (pgs_cons (pg_name (i := 3) sc_law_new.nd rfl (Or.inl rfl)) pgs_nil)))) (fun _ _ _ _ _ => pts_nil) (fun _ _ _ _ _ => (pe_ifExp (pt_cmpR op_eq (pv 2) pe_str (nomark _)) (pe_ix (ixlK (K := K) rfl) (pv 1) (pv 3) (fun _ _ => rfl)) (pv 3)))))), ?_⟩
    refine ⟨_, rfl, p, rows, es.length, rfl, hR, hre, by omega, htot, fun H2 c s2 hc hcs => ?_⟩
    obtain ⟨ws, hw, pw, hwl⟩ := hcs.len
    have hlen := cellsOf_len hre
    have hnn := total_nn hre
    refine ⟨c, rfl, ⟨ws, SqL.of hw⟩, fun D hD => lc_list (K := K) (a := c) (xs := ws) (fun i H3 => Same H2 H3 ∧ H3 D = some (.lst (List.map V.int (((cellsOf rows).take i).map (valOf es)))))
      ⟨Same.new hD, upd_same⟩ (fun i H3 _ ⟨s3, _⟩ => SqL.of (s3 _ _ hw)) ?_ ?_⟩
    · rintro i x H3 hi ⟨s3, hd⟩
      obtain ⟨cl, hcl, q, rfl, hq⟩ := pairedAt pw hi
      have hq3 := s3 _ _ hq
      have il : i < (cellsOf rows).length := (List.getElem?_eq_some_iff.mp hcl).1
      have fin : ∀ z : Int, z = valOf es cl → ∃ acc, H3 D = some (.lst acc) ∧ acc.length < sizeLine ∧ Same H2 (upd H3 D (.lst (acc ++ [.int z]))) ∧ (upd H3 D (.lst (acc ++ [.int z]))) D = some (.lst (List.map V.int (((cellsOf rows).take (i + 1)).map (valOf es)))) := by
        intro z ez
        refine ⟨_, hd, sizeL (by rw [List.length_map, List.length_map, List.length_take]; omega), fun b o y => ?_, ?_⟩
        · rw [upd_ne (ne_of_none y hD)]; exact s3 _ _ y
        · rw [upd_same, take_snoc hcl, List.map_append, List.map_append, ez]; rfl
      rcases cells_fit hre cl (List.mem_of_getElem? hcl) with ⟨n, rfl, n0, n1⟩ | ⟨b, rfl, b0, b1⟩
      · refine ⟨q, _, rfl, SqT.of hq3, rfl, _, _, rfl, _, _, rfl, rfl, rfl, ?_⟩
        refine ⟨_, rfl, rfl, _, rfl, ite2 (fun _ => ?_) fun h => absurd (by decide) h⟩
        have jl : n.toNat < es.length := by omega
        refine ⟨_, rfl, _, rfl, o, _, _, _, rfl, rfl, SqL.of (s3 _ _ (s2 _ _ ho)), at_of (j := n.toNat) (by omega) (by rw [List.getElem?_map, List.getElem?_eq_getElem jl]; rfl), ?_⟩
        refine fin _ ?_
        show es[n.toNat] = es.getD n.toNat 0
        rw [List.getD_eq_getElem?_getD, List.getElem?_eq_getElem jl]
        rfl
      · refine ⟨q, _, rfl, SqT.of hq3, rfl, _, _, rfl, _, _, rfl, rfl, rfl, ?_⟩
        refine ⟨_, rfl, rfl, _, rfl, ite2 (fun h => absurd h (by decide)) fun _ => ?_⟩
        exact ⟨_, rfl, fin _ rfl⟩
    · rintro H3 ⟨s3, hd⟩
      rw [hwl, List.take_length] at hd
      exact k H3 D (s2.trans s3) (s2.free hD) hd
end
namespace N_Beyond
/-! ### an own error whose __init__ says super().__init__(f"..{x}..") and keeps x -/
def clsBody : Stmt → List Stmt
  | .ClassDef _ _ _ b .. => b
  | _ => []
abbrev iniSt : Stmt := (clsBody (top 5)).getD 0 (.Pass ⟨0, 0, 0, 0⟩)
open PySem.W PySem.HandSPX in
structure OwnErr (P : Program) (K : Frag) (mg : Str → Option Value) (C fI : Addr) : Prop where
  gC : mg "Beyond" = some (.ref C)
  cls : ∃ nm q N bs bm sn sub ab col dd k0 k1 k2 k3 k5, K.lookup C = some (excClassObj nm q C N bs bm true sn sub ab col dd k0 k1 k2 k3 k5 "ValueError.__new__") ∧ refsVE bm = true
  sa : findIn K (.ref C) "__setattr__" = some (some (.builtin "object.__setattr__"))
  noN : findIn K (.ref C) "piece" = some none
  iC : findIn K (.ref C) "__init__" = some (some (.ref fI))
  tC : typeIn K (.ref fI) = some (.type "function")
  kC : keepIn K (.ref C) = true
  exC : subIn K (.ref C) (.type "BaseException") = some true
  tyC : typeIn K (.ref C) = some (.type "type")
  sup : ks_superIn K C C "__init__" = some (some (.builtin "ValueError.__init__"))
  subV : subIn K (.ref C) (.type "ValueError") = some true
  mroC : mroIn K C (.ref C) = some true
  noAny : nsIn K cStatics "thirdparty.any" = some none
  mS : mg "super" = none
  top : (P.main.scope.names.lookup ("super" : Str)).isSome = false
  fn : ∃ (oc : Value) (od : Option Addr) (doc pm : Value) (an : Option Addr) (cda cc : Addr) (ct : Value) (osl : Array (Option Value)),
    K.lookup fI = some ⟨oc, od, .func (ksFn "__init__" "Beyond.__init__" (defArgs iniSt) (defBody iniSt) (defScope iniSt) .none .none doc pm an (.ref cda) ct cc), osl⟩ ∧ codeIn K (.ref cda) "Beyond.__init__" = true ∧
    (∃ (ccl : Value) (cdd : Option Addr) (vs : Array Value) (ccs : Array (Option Value)) (file : Str) (tf : Tok), K.lookup cda = some ⟨ccl, cdd, .fields vs, ccs⟩ ∧ vs[2]? = some (.str file tf) ∧ ((P.main.file : Str) == file) = true) ∧
    ∃ (cl : Value) (cld : Option Addr) (csl : Array (Option Value)), K.lookup cc = some ⟨cl, cld, .cell (some (.ref C)), csl⟩
theorem sz1 {a b : Str} (ha : a.length ≤ 500) (hb : b.length ≤ 1000) : (a ++ b).length ≤ sizeLine := by rw [Str.length_append, sizeLine_eq]; omega
theorem sz2 {a b c : Str} (ha : a.length ≤ 500) (hb : b.length ≤ 1000) (hc : c.length ≤ 500) : (a ++ b ++ c).length ≤ sizeLine := by rw [Str.length_append, Str.length_append, sizeLine_eq]; omega
namespace OE
open PySem.W PySem.Calls PySem.HandSPX
/-- what __init__ leaves of a fresh exception at x -/
structure InitEnd (h h' : Heap) (x C dx t1 : Addr) (v : Value) : Prop where
  keep : ∀ b o, b ≠ x → h.get? b = some o → h'.get? b = some o
  obj : h'.get? x = some { cls := .ref C, dict := some dx, data := .fields #[.ref t1, .none, .none, .none, .bool false, .none] }
  dbig : h.objs.size ≤ dx
  dne : dx ≠ x
  ns : h'.Ns1 dx (fun y => if y = "piece" then some v else none)
/-- a made one -/
structure Made (h h' : Heap) (e C d : Addr) (v : Value) : Prop where
  keep : ∀ b o, h.get? b = some o → h'.get? b = some o
  new : h.objs.size ≤ e
  obj : ∃ oe vs, h'.get? e = some oe ∧ oe.cls = .ref C ∧ oe.dict = some d ∧ oe.data = .fields vs ∧ vs[1]? = some .none
  dbig : h.objs.size ≤ d
  dne : d ≠ e
  ns : h'.Ns1 d (fun y => if y = "piece" then some v else none)
section
variable {P : Program} {w : World} {A : Around} {E : Value → Shared → Prop} {R : Result → Shared → Prop} {s : Shared} {K : Frag} {mg : Str → Option Value} {C fI : Addr}
theorem call_wrapped {h : Heap} {g : Array GenState} {d : Drawn} {t : Nat} {os : OsState} {u e t0 : Addr} {rest : List Value} {Q : Value → Shared → Prop} {nm q : Str} {N : Addr} {bs bm : List Value} {sn : List Str} {sub : List Value} {ab : Bool} {col : Option Bool} {dd : Option Addr} {k0 k1 k2 k3 k5 : Option Value}
    (hC : h.get? C = some (excClassObj nm q C N bs bm true sn sub ab col dd k0 k1 k2 k3 k5 "ValueError.__new__")) (he : h.get? e = some (excO C t0)) (hu : h.get? u = some (kxs_mw "ValueError.__init__" e)) (hrest : rest.length ≤ sizeLine)
    (hq : ∀ h' t1, (∀ b o, b ≠ e → h.get? b = some o → h'.get? b = some o) → h'.get? e = some (excO C t1) → Q .none ⟨h', g, d, t, os⟩) :
    wpAny (model P w) A (call (.ref u) rest) Q E ⟨h, g, d, t, os⟩ := by
  refine wpAny_call (codeAny_of_tree ?_)
  show wpAny _ A.in1 (callAny (.ref u) ⟨rest, []⟩) _ _ _
  simp only [callAny]
  refine wpAny_bind (wpAny_load hu ?_)
  simp only [kxs_mw, show (Value.type "method-wrapper" == Value.type "method" || Value.type "method-wrapper" == Value.type "builtin_function_or_method" || Value.type "method-wrapper" == Value.type "method-wrapper") = true by decide, if_true]
  refine KFB.if_so (by decide) ?_
  refine wpAny_bind (check_bound_init F.excBase_ValueError.toExcCallFacts hC he rfl ?_)
  refine wpAny_bind (wpAny_pure (wpAny_pure ?_))
  refine ⟨plainId_quiet F.excBase_ValueError.init.plain _, codeAny_builtin F.excBase_ValueError.initEntry ?_⟩
  exact exc_init_tree (cls := .ref C) (t0 := t0) (dv := none) (c2 := .none) (c3 := .none) (b4 := .bool false) he hrest fun h' k1 k2 _ => hq h' _ k1 k2
theorem ini {x t0 : Addr} {i : Int} {tk0 : Tok} (T : OwnErr P K mg C fI) (hi : i.natAbs.log2 < 1920) (hil : (toString i : Str).length ≤ 1000) (X : K.In s.heap) (hg : s.heap.Ns mainGlobals mg) (hb : ∃ mb, s.heap.Ns builtinsNs mb ∧ ∀ x : Str, x ≠ "__name__" → mb x = bootBuiltins x)
    (hlim : s.heap.NoLimit) (hx : s.heap.get? x = some (excO C t0)) (hnx : K.lookup x = none) (hroom : A.depth < recursionLimit)
    (hq : ∀ h' tk dx t1, InitEnd s.heap h' x C dx t1 (.int i tk0) → R (.ok (.ret .none)) { s with heap := h', toks := tk }) :
    codeAny (model P w) A (.call (.ref fI) ⟨[.ref x, .int i tk0], []⟩) R s := by
  obtain ⟨oc, od, doc, pm, an, cda, cc, ct, osl, ho, hcd, ⟨ccl, cdd, vs, ccs, file, tf, hcode, hvs, hfile⟩, cl, cld, csl, hcell⟩ := T.fn
  obtain ⟨nm, q, N, bs, bm, sn, sub, ab, col, dd, k0, k1, k2, k3, k5, hC, hbm⟩ := T.cls
  obtain ⟨mb, hb, hbb⟩ := hb
  have hcl : clsIn K C = some { name := nm, bases := bs, mro := .ref C :: bm, ns := N, qualname := q, hasDict := true, slotNames := sn, subclasses := sub, abstract := ab, collection := col, hasDel := false } := by unfold clsIn; rw [hC] <;> rfl
  have sl1 : (defScope iniSt).names.lookup ("self" : Str) = some .local := by decide +kernel
  have sl2 : (defScope iniSt).names.lookup ("piece" : Str) = some .local := by decide +kernel
  have hbd : BindsTo s (ksFn "__init__" "Beyond.__init__" (defArgs iniSt) (defBody iniSt) (defScope iniSt) .none .none doc pm an (.ref cda) ct cc) ⟨[.ref x, .int i tk0], []⟩ [("self", .ref x), ("piece", .int i tk0)] := BindsTo.of_eq (by first | rfl | with_unfolding_all rfl)
  refine ks_codeAny_call_defAt (binds := [("self", .ref x), ("piece", .int i tk0)]) hroom (X _ _ ho) rfl hlim (codeRec_of X hcd) rfl hbd (show ∀ x ∈ (defScope iniSt).names, x.2 ≠ .cell by decide +kernel)
    (fun y hy => ?_) (fun h₁ hns k => ?_) rfl rfl rfl
  · rcases List.mem_cons.mp hy with rfl | hy
    · exact sl1
    · rcases List.mem_cons.mp hy with rfl | hy
      · exact sl2
      · cases hy
  have X₁ : K.In h₁ := X.keeps k
  have hx₁ := k _ _ hx
  have hC₁ := X₁ _ _ hC
  obtain ⟨hp, g, dr, tk, os⟩ := s
  have I₁ : InstAt h₁ x (excO C t0) C none := ⟨hx₁, rfl, rfl, trivial⟩
  have hv1 : (fun y => List.lookup y (List.reverse [(("self" : Str), Value.ref x), ("piece", .int i tk0)])) "self" = some (.ref x) := by first | rfl | with_unfolding_all rfl
  have hv2 : (fun y => List.lookup y (List.reverse [(("self" : Str), Value.ref x), ("piece", .int i tk0)])) "piece" = some (.int i tk0) := by first | rfl | with_unfolding_all rfl
  have hxC : x ≠ C := fun z => by rw [z, hC] at hnx; cases hnx
  have sl3 : (defScope iniSt).names.lookup ("super" : Str) = some .globalImplicit := by decide +kernel
  have sl4 : (defScope iniSt).names.lookup ("__class__" : Str) = some .free := by decide +kernel
  refine ks_wpAt_execs_cons (ks_wpAt_Expr_any (ks_wpAt_MethodCall ?_))
  refine ks_wpAt_super_base sl3 sl4 (by decide +kernel) rfl (X₁ _ _ ho) rfl rfl rfl (X₁ _ _ hcode) rfl hvs hfile T.top ?_
  refine ks_loadName_global rfl sl3 (loadGlobal_builtin (hg.keeps k) T.mS (hb.keeps k) ((hbb _ (by decide +kernel)).trans (show bootBuiltins "super" = some (.type "super") by first | boot_by_name | rfl | kernel_rfl)) ⟨rfl, ?_⟩)
  refine wpAny_loadName_free rfl sl4 rfl ⟨_, X₁ _ _ hcell, rfl⟩ ?_
  refine wpAny_loadName_local rfl sl1 hns hv1 ?_
  refine ks_wpAny_isType_cls hC₁ rfl ⟨rfl, ?_⟩
  refine ks_wpAny_call_super hC₁ rfl hx₁ rfl (fun c e => by cases e) (looks_mroIn X₁ T.mroC) (fun h₂ e₂ k₂ => ?_)
  have X₂ : K.In h₂ := X₁.keeps k₂
  have hx₂ := k₂ _ _ hx₁
  have I₂ : InstAt h₂ x (excO C t0) C none := ⟨hx₂, rfl, rfl, trivial⟩
  have hsup := T.sup
  unfold ks_superIn at hsup
  rw [hcl] at hsup
  refine kxs_getMethod kxs_ValueError e₂ (looks_opaque X₂ T.noAny) (l₀ := .ref C :: bm) (fun A Q E s k q => wpAny_bind ((looks_clsIn X₂ hcl) A _ E s k (wpAny_pure q))) rfl X₂ hsup (I₂.type.andThen (looks_subIn X₂ T.subV)) hxC (by decide) ?_
  refine kxs_callWith (i := "ValueError.__init__") (x := x) rfl ?_
  have k₃ : ∀ b o, h₂.get? b = some o → (h₂.push (kxs_mw "ValueError.__init__" x)).get? b = some o := fun b o e => Heap.get?_push_of_some _ e
  have hns₃ := (hns.keeps k₂).keeps k₃
  have hu : (h₂.push (kxs_mw "ValueError.__init__" x)).get? h₂.objs.size = some (kxs_mw "ValueError.__init__" x) := Heap.get?_push_at rfl rfl
  refine evalArgs_plain (spliced_cons (wpAny_JoinedStr (pos := ⟨0, 0, 0, 0⟩) ?_))
  refine wpAny_Constant_str ⟨_, _, rfl, (by decide +kernel), ?_⟩
  refine wpAny_FormattedValue_plain (wpAny_Name (wpAny_loadName_local rfl sl2 hns₃ hv2 ?_) (by decide))
  refine wpAny_formatField_int hi ⟨_, _, rfl, sz1 (by decide +kernel) hil, ?_⟩
  refine wpAny_Constant_str ⟨_, _, rfl, sz2 (by decide +kernel) hil (by decide +kernel), ?_⟩
  refine ⟨sz2 (by decide +kernel) hil (by decide +kernel), spliced_nil ⟨hu, ?_⟩⟩
  refine call_wrapped (k₃ _ _ (k₂ _ _ hC₁)) (k₃ _ _ hx₂) hu (by show 1 ≤ sizeLine; rw [sizeLine_eq]; omega) (fun h₄ t1 k₄ hx₄ => ?_)
  have X₄ : K.In h₄ := fun a o e => k₄ a o (fun z => by rw [z, hnx] at e; cases e) ((X₂.keeps k₃) a o e)
  obtain ⟨oL, esL, epL, hoL, hdL, rL⟩ := hns₃
  have xL : hp.objs.size ≠ x := Nat.ne_of_gt (Heap.lt_size hx)
  have hns₄ : h₄.Ns hp.objs.size _ := ⟨oL, esL, epL, k₄ _ _ xL hoL, hdL, rL⟩
  refine wpAt_of_wpAny (wpAny_execs_cons (plainObj_wpAny_Assign_Attribute ?_))
  refine wpAny_Name (wpAny_loadName_local rfl sl2 hns₄ hv2 ?_) (by decide)
  refine wpAny_Name (wpAny_loadName_local rfl sl1 hns₄ hv1 ?_) (by decide)
  refine set_plain X₄ (ox := excO C t1) (od := none) ⟨hx₄, rfl, rfl, trivial⟩ T.sa ?_
  refine exc_osa X₄ hx₄ hcl (show refsVE (.ref C :: bm) = true from hbm) rfl T.noN (fun h₅ tk₅ dx k₅ dn dne hx₅ hn₅ => ?_)
  refine wpAny_execs_nil (hq h₅ tk₅ dx t1 ⟨fun b o hb e => k₅ b o hb (k₄ b o hb (k₃ _ _ (k₂ _ _ (k b o e)))), hx₅, ?_, dne, hn₅⟩)
  refine Nat.le_trans (Nat.le_of_lt (Heap.lt_size (k₄ _ _ xL hoL))) dn
theorem make {i : Int} {tk0 : Tok} (T : OwnErr P K mg C fI) (hi : i.natAbs.log2 < 1920) (hil : (toString i : Str).length ≤ 1000) (X : K.In s.heap) (hg : s.heap.Ns mainGlobals mg) (hb : ∃ mb, s.heap.Ns builtinsNs mb ∧ ∀ x : Str, x ≠ "__name__" → mb x = bootBuiltins x)
    (hlim : s.heap.NoLimit) (hroom : A.depth + 1 < recursionLimit)
    (hq : ∀ h' tk e d, Made s.heap h' e C d (.int i tk0) → R (.ok (.ret (.ref e))) { s with heap := h', toks := tk }) :
    codeAny (model P w) A (.call (.ref C) ⟨[.int i tk0], []⟩) R s := by
  obtain ⟨nm, q, N, bs, bm, sn, sub, ab, col, dd, k0, k1, k2, k3, k5, hC, hbm⟩ := T.cls
  obtain ⟨mb, hb, hbb⟩ := hb
  obtain ⟨hp, g, dr, tk, os⟩ := s
  have k : ∀ b o, hp.get? b = some o → ((hp.push (kdv_tup [.int i tk0])).push (excO C hp.objs.size)).get? b = some o := fun b o e => Heap.get?_push_of_some _ (Heap.get?_push_of_some _ e)
  have hget : ((hp.push (kdv_tup [.int i tk0])).push (excO C hp.objs.size)).get? (hp.objs.size + 1) = some (excO C hp.objs.size) := by heap_get
  have hnx : K.lookup (hp.objs.size + 1) = none := by
    cases e : K.lookup (hp.objs.size + 1) with
    | none => rfl
    | some o =>
      have z : hp.get? (hp.objs.size + 1) = some o := X _ _ e
      exact absurd (Nat.lt_of_succ_lt (Heap.lt_size z)) (Nat.lt_irrefl _)
  refine call_own F.excBase_ValueError (fun X => refsVE_contains X bm hbm) (X _ _ hC) (looks_findIn X T.iC) (fun self => bind_fn X self T.tC) (by show 1 ≤ sizeLine; rw [sizeLine_eq]; omega) ?_
  refine ini (s := ⟨(hp.push (kdv_tup [.int i tk0])).push (excO C hp.objs.size), g, dr, tk, os⟩) T hi hil (X.keeps k) (hg.keeps k) ⟨mb, hb.keeps k, hbb⟩ (hlim.keeps k) hget hnx ?_ fun h' tk' dx t1 ⟨k', hx, dn, dne, hns⟩ => ?_
  · exact hroom
  · have old : ∀ b o, hp.get? b = some o → h'.get? b = some o := fun b o e => k' b o (Nat.ne_of_lt (Nat.lt_succ_of_lt (Heap.lt_size e))) (k b o e)
    have z : hp.objs.size + 1 + 1 ≤ dx := by
      have q := dn
      rw [Heap.size_push, Heap.size_push] at q
      exact q
    exact ⟨rfl, hq h' tk' (hp.objs.size + 1) dx ⟨old, Nat.le_succ _, ⟨_, _, hx, rfl, rfl, rfl, rfl⟩, (show hp.objs.size ≤ dx by omega), dne, hns⟩⟩
end
end OE
section
variable {X : Cx} {C fI : Addr}
theorem relO_own {v : V} {v' : Value} (r : RelV v v') (f : Str) : RelO (List.lookup f [(("piece" : Str), v)]) (if f = "piece" then some v' else none) := by
  by_cases hw : f = "piece"
  · subst hw
    rw [if_pos rfl]
    have q : List.lookup ("piece" : Str) [(("piece" : Str), v)] = some v := by simp [List.lookup]
    rw [q]
    exact r
  · rw [if_neg hw]
    have qw : (f == ("piece" : Str)) = false := by simpa using hw
    have q2 : List.lookup f [(("piece" : Str), v)] = none := by simp [List.lookup, qw]
    rw [q2]
    trivial
/-- Beyond(e), e a small number -/
def tMkOwn (C : Addr) (ta : TA) : L2.St → Hp → XK → Prop := fun σ H Q => ta σ H fun vs H1 => ∃ i : Int, vs = [.int i] ∧ 0 ≤ i ∧ i ≤ 20000 ∧ ∀ d, H1 d = none → Q (.ref C) (some d) (upd H1 d (.xd [(("piece" : Str), .int i)]))
theorem small_text {i : Int} (h0 : 0 ≤ i) (h1 : i ≤ 20000) : (toString i : Str).length ≤ 1000 := by
  have h2 : i.natAbs ≤ 20000 := by omega
  have e := int_text_length_le10 (k := 10) (by decide) (Nat.lt_of_le_of_lt h2 (by decide))
  rw [PySem.ofString_length]
  omega
theorem small_log {i : Int} (h0 : 0 ≤ i) (h1 : i ≤ 20000) : i.natAbs.log2 < 1920 := by
  have h : i.natAbs ≤ 20000 := by omega
  by_cases z : i.natAbs = 0
  · rw [z]; decide
  · have h3 : i.natAbs.log2 < 16 := (Nat.log2_lt z).mpr (show i.natAbs < 2 ^ 16 by omega)
    omega
theorem pmk_own2 {a : Expr} {ta : TA} {p pos : Pos} {k : Nat} (T : OwnErr X.prog X.K X.mg C fI) (hr : Room k X.A) (ha : PA X [a] ta) (hg : Gl X "Beyond" := by rfl)
    (he : starEach (a :: []) X.env = (false, eval a X.env) :: starEach [] X.env := by rfl) (hpl : (backTo pos (starEach [] X.env)).any (·.1) = false := by rfl) :
    PMk X (.Call (.Name "Beyond" p) [a] [] pos) (tMkOwn C ta) := by
  intro pins s σ H Q I h
  refine wpAny_Call_Name_kw (ld_glob I hg T.gC ?_)
  refine PySem.W.callWith_K (h₀ := X.base) I.ok.mod.kin T.kC (thn (ha.run pos pins s σ H _ I h) fun us s1 hh => ?_) he hpl
  obtain ⟨vs, H1, I1, r1, i, ev, i0, i1, q1⟩ := hh
  subst ev
  refine ⟨I1.kIn, ?_⟩
  cases r1 with
  | cons rv rn =>
    rename_i v' us'
    cases rn
    obtain ⟨tk0, rfl⟩ := rv
    show wpAny _ _ (call (.ref C) [.int i tk0]) _ _ _
    have hlim := I1.nolimit
    have hmod := I1.mod
    obtain ⟨mb, hmb, hbb⟩ := hmod.blt
    have bk := I1.bk
    obtain ⟨hp, g, dr, tk, os⟩ := s1
    refine wpAny_call (OE.make T (small_log i0 i1) (small_text i0 i1) I1.kIn (hmod.glob.keeps bk) ⟨mb, hmb.keeps bk, hbb⟩ hlim (by have := hr.dp; omega) fun h' tk' e d M => ?_)
    show MkP X pins σ Q (.ref e) ⟨h', g, dr, tk', os⟩
    obtain ⟨oe, fv, hoe, hc, hd, hdat, h1⟩ := M.obj
    have hns := M.ns
    obtain ⟨G', g1, g2⟩ := restrict h' fun b => decide (b ≠ e)
    have gk : ∀ b, b ≠ e → G'.get? b = h'.get? b := fun b hb => g1 b (decide_eq_true hb)
    have ge : G'.get? e = none := g2 e (by simp)
    have old : ∀ b o, hp.get? b = some o → G'.get? b = some o := fun b o q => (gk b (Nat.ne_of_lt (Nat.lt_of_lt_of_le (Heap.lt_size q) M.new))).trans (M.keep b o q)
    have ob : ObjOk X.prog X.w (upd H1 d (.xd [(("piece" : Str), .int i)])) G' d (.xd [(("piece" : Str), .int i)]) :=
      ⟨_, hns.at (fun o q => (gk d M.dne).trans q), fun f => relO_own (v := .int i) ⟨tk0, rfl⟩ f⟩
    have J : Inv X pins σ (upd H1 d (.xd [(("piece" : Str), .int i)])) ⟨G', g, dr, tk', os⟩ := I1.laid (t' := tk') old M.dbig ob
    refine ⟨e, oe, fv, ⟨G', g, dr, tk', os⟩, _, .ref C, some d, rfl, J, fun b o q => ?_, ge, hoe, ⟨hc, hd⟩, hdat, h1, ?_, rfl, I1.bare, raises_own T.exC T.tyC, q1 d (I1.hok.fresh M.dbig)⟩
    · by_cases hb : b = e
      · have q' : G'.get? b = some o := q
        rw [hb, ge] at q'; cases q'
      · exact (gk b hb).symm.trans q
    · rw [upd_ne (Ne.symm M.dne)]
      exact I1.hok.fresh M.new
/-- raise Beyond(e) -/
def tRaiseOwn (C : Addr) (W : WX) (ta : TA) : TS := fun _ σ H => tMkOwn C ta σ H fun cls d H' => W cls d σ H'
theorem ps_raiseOwn {a : Expr} {ta : TA} {W : WX} {p pos pos2 : Pos} {k : Nat} (hc : X.calm = true) (T : OwnErr X.prog X.K X.mg C fI) (hr : Room k X.A) (tk : Takes X W) (ha : PA X [a] ta) (hg : Gl X "Beyond" := by rfl)
    (he : starEach (a :: []) X.env = (false, eval a X.env) :: starEach [] X.env := by rfl) (hpl : (backTo pos (starEach [] X.env)).any (·.1) = false := by rfl) :
    PS X (.Raise (some (.Call (.Name "Beyond" p) [a] [] pos)) none pos2) (tRaiseOwn C W ta) := ps_raise hc tk (pmk_own2 T hr ha hg he hpl)
end
end N_Beyond
set_option pp.maxSteps 400
/-! ### refusals, told exactly -/
def spNo : Sp := fun _ _ _ _ => False
theorem fn_no {P : Program} {w : World} {K : PySem.W.Frag} {mg : Str → Option Value} {base : Heap} {CX : CXT} {k : Nat} {f : Addr} {fd : FuncData} {ps : List Str} : FnOk P w K mg base CX k f fd ps spNo :=
  ⟨fun _ _ _ _ h => h.elim, fun _ _ _ _ _ _ _ _ _ _ _ _ _ h => h.elim⟩
theorem FnOk.toX {P : Program} {w : World} {K : PySem.W.Frag} {mg : Str → Option Value} {base : Heap} {k : Nat} {f : Addr} {fd : FuncData} {ps : List Str} {sp : Sp} (F : FnOk P w K mg base CX0 k f fd ps sp) : FnOk P w K mg base (L2.CX P w) k f fd ps sp := by
  refine ⟨F.len, fun A outer s H args us vs Q E hr he hb hv hs => ?_⟩
  refine codeAny_mono (F.run A outer s H args us vs Q E hr he hb hv hs) fun r s' q => ?_
  cases r with
  | ok v => cases v <;> exact q
  | error e => exact (show False from q).elim
theorem fn_orX {P : Program} {w : World} {K : PySem.W.Frag} {mg : Str → Option Value} {base : Heap} {CX : CXT} {k : Nat} {f : Addr} {fd : FuncData} {ps : List Str} {sp1 sp2 : Sp} (a : FnOk P w K mg base CX k f fd ps sp1) (b : FnOk P w K mg base CX k f fd ps sp2) : FnOk P w K mg base CX k f fd ps (fun vs H Q E => sp1 vs H Q E ∨ sp2 vs H Q E) :=
  ⟨fun vs H Q E h => h.elim (a.len vs H Q E) (b.len vs H Q E), fun A outer s H args us vs Q E hr e bt v h => h.elim (fun h => a.run A outer s H args us vs Q E hr e bt v h) fun h => b.run A outer s H args us vs Q E hr e bt v h⟩
theorem log_any {i : Int} (h0 : -1000000 ≤ i) (h : i ≤ 1000000) : i.natAbs.log2 < 1920 := by
  have : i.natAbs < 2 ^ 1920 := Nat.lt_of_le_of_lt (show i.natAbs ≤ 2 ^ 20 by omega) (Nat.pow_lt_pow_right (by decide) (by decide))
  by_cases e : i.natAbs = 0
  · rw [e]; decide
  · exact (Nat.log2_lt e).mpr this
theorem str_any {i : Int} (h0 : -1000000 ≤ i) (h : i ≤ 1000000) : (Str.ofString (toString i)).length ≤ 11 := by
  rw [PySem.ofString_length]
  exact PySem.int_text_length_le10 (k := 10) (by decide) (by omega)
theorem app_len {x y : Str} {n m : Nat} (hx : x.length ≤ n) (hy : y.length ≤ m) : (x ++ y).length ≤ n + m := by
  rw [Str.length_append]; omega
theorem lineS {x : Str} {n : Nat} (h : x.length ≤ n) (hn : n ≤ 1000) : x.length ≤ sizeLine := by rw [sizeLine_eq]; omega
structure PlainErr (K : PySem.W.Frag) (C : Addr) : Prop where
  xC : PySem.W.excIn K C [.type "ValueError", .type "Exception", .type "BaseException", .type "object"] "ValueError.__new__" = true
  kC : PySem.W.keepIn K (.ref C) = true
  bC : PySem.W.subIn K (.ref C) (.type "BaseException") = some true
  tC : PySem.W.typeIn K (.ref C) = some (.type "type")
/-- the pieces that copy beyond -/
def lateB (c : Int) : Row → Bool
  | .copy b n => decide (c < b + n)
  | _ => false
def lateF (c : Int) : List Row → Nat → List Nat
  | [], _ => []
  | r :: l, k => if lateB c r = true then k :: lateF c l (k + 1) else lateF c l (k + 1)
theorem lateF_app (c : Int) : ∀ (a b : List Row) (k : Nat), lateF c (a ++ b) k = lateF c a k ++ lateF c b (k + a.length)
  | [], b, k => rfl
  | r :: a, b, k => by
    have ih := lateF_app c a b (k + 1)
    show (if lateB c r = true then k :: lateF c (a ++ b) (k + 1) else lateF c (a ++ b) (k + 1)) = (if lateB c r = true then k :: lateF c a (k + 1) else lateF c a (k + 1)) ++ lateF c b (k + (a.length + 1))
    rw [ih, show k + 1 + a.length = k + (a.length + 1) by omega]
    split <;> rfl
theorem lateF_take {c : Int} {rows : List Row} {i : Nat} {r : Row} (h : rows[i]? = some r) : lateF c (rows.take (i + 1)) 0 = lateF c (rows.take i) 0 ++ (if lateB c r = true then [i] else []) := by
  have il := (List.getElem?_eq_some_iff.mp h).1
  rw [take_snoc h, lateF_app]
  show _ ++ (if lateB c r = true then [0 + (rows.take i).length] else []) = _
  rw [Nat.zero_add, List.length_take, Nat.min_eq_left (Nat.le_of_lt il)]
theorem lateF_first {c : Int} {rows : List Row} {i : Nat} {r : Row} (h : rows[i]? = some r) (h0 : lateF c (rows.take i) 0 = []) (hl : lateB c r = true) : ∃ l, lateF c rows 0 = i :: l := by
  have il := (List.getElem?_eq_some_iff.mp h).1
  have e : rows = rows.take (i + 1) ++ rows.drop (i + 1) := (List.take_append_drop _ _).symm
  refine ⟨lateF c (rows.drop (i + 1)) (0 + (rows.take (i + 1)).length), ?_⟩
  conv => lhs; rw [e, lateF_app, lateF_take h, h0, if_pos hl]
  rfl
theorem lateF_nil {c : Int} : ∀ {rows : List Row} {k : Nat}, lateF c rows k = [] → ∀ r ∈ rows, lateB c r = false
  | [], _, _, r, hr => nomatch hr
  | r0 :: l, k, h, r, hr => by
    have h' : (if lateB c r0 = true then k :: lateF c l (k + 1) else lateF c l (k + 1)) = [] := h
    split at h'
    · cases h'
    · rename_i hb
      rcases List.mem_cons.mp hr with rfl | hr
      · exact Bool.not_eq_true _ ▸ hb
      · exact lateF_nil h' r hr
theorem lateF_lt {c : Int} : ∀ {rows : List Row} {k : Nat}, ∀ i ∈ lateF c rows k, k ≤ i ∧ i < k + rows.length
  | [], _, i, hi => nomatch hi
  | r0 :: l, k, i, hi => by
    have hi' : i ∈ (if lateB c r0 = true then k :: lateF c l (k + 1) else lateF c l (k + 1)) := hi
    show k ≤ i ∧ i < k + (l.length + 1)
    split at hi'
    · rcases List.mem_cons.mp hi' with rfl | hi'
      · exact ⟨Nat.le_refl _, by omega⟩
      · have := lateF_lt (rows := l) (k := k + 1) i hi'; omega
    · have := lateF_lt (rows := l) (k := k + 1) i hi'; omega
/-- an error that tells the piece i -/
def AtP (H : Hp) (C : Addr) (E : XK) (i : Int) : Prop := ∀ H' d, Same H H' → H' d = none → E (.ref C) (some d) (upd H' d (.xd [(("piece" : Str), .int i)]))
theorem AtP.same {H H' : Hp} {C : Addr} {E : XK} {i : Int} (h : AtP H C E i) (s : Same H H') : AtP H' C E i := fun H2 d s2 hd => h H2 d (s.trans s2) hd
def Plain (H : Hp) (C : Addr) (E : XK) : Prop := ∀ H', Same H H' → E (.ref C) none H'
theorem Plain.same {H H' : Hp} {C : Addr} {E : XK} (h : Plain H C E) (s : Same H H') : Plain H' C E := fun H2 s2 => h H2 (s.trans s2)
def spEditionX (C : Addr) : Sp := fun vs H Q E => ∃ es : List Int, vs = [.byt (byteArr es)] ∧ es.length ≤ 100000 ∧ (es.length ≤ 200 → Q .non H) ∧ (200 < es.length → Plain H C E)
def spReachL (C : Addr) : Sp := fun vs H Q E => ∃ (v : V) (rows : List Row) (es : List Int) (i : Nat) (l : List Nat), vs = [v, .byt (byteArr es)] ∧ PatchAt H v rows ∧ Good rows ∧ es.length ≤ 200 ∧ lateF es.length rows 0 = i :: l ∧ AtP H C E i
def spLeastX (C : Addr) : Sp := fun vs H Q E => ∃ os ns : List Int, vs = [.byt (byteArr os), .byt (byteArr ns)] ∧ os.length ≤ 100000 ∧ ns.length ≤ 100000 ∧ (200 < os.length ∨ 200 < ns.length) ∧ Plain H C E
def spDoneL (C : Addr) : Sp := fun vs H Q E => ∃ (v : V) (rows : List Row) (es : List Int) (i : Nat) (l : List Nat), vs = [v, .byt (byteArr es)] ∧ PatchAt H v rows ∧ Good rows ∧ es.length ≤ 200 ∧ lateF es.length rows 0 = i :: l ∧ AtP H C E i
def spCopies0 : Sp := fun vs H Q _ => ∃ (v : V) (o : Addr), vs = [v, .ref o] ∧ H o = some (.lst []) ∧ Q .non H
def spBroughtL (C : Addr) : Sp := fun vs H Q E => ∃ (v : V) (o : Addr) (rows : List Row) (es : List Int) (i : Nat) (l : List Nat), vs = [v, .ref o, .byt (byteArr es)] ∧ H o = some (.lst []) ∧ PatchAt H v rows ∧ Good rows ∧ es.length ≤ 200 ∧ lateF es.length rows 0 = i :: l ∧ AtP H C E i
def spBytesBad (C : Addr) : Sp := fun vs H Q E => ∃ (p : Addr) (zs : List Int), vs = [.ref p] ∧ H p = some (.lst (zs.map V.int)) ∧ (∀ z ∈ zs, -1000 ≤ z ∧ z ≤ 1000) ∧ (∃ z ∈ zs, ¬ (0 ≤ z ∧ z ≤ 255)) ∧ Plain H C E
section
variable {P : Program} {w : World} {K : PySem.W.Frag} {mg : Str → Option Value} {base : Heap} {CB fB : Addr}
theorem okx_check_edition (T : All K mg) (O_BadEdition : PlainErr K T.k_BadEdition) : FnOk P w K mg base (L2.CX P w) 1 T.d_check_edition.f T.d_check_edition.fd ["edition"] (spEditionX T.k_BadEdition) := by
  refine T.d_check_edition.F.okX sc_check_edition (fun vs H Q E h => ?_) (fun cdv A outer s H vs Q E hr h => ?_)
  · obtain ⟨_, rfl, _⟩ := h
    rfl
  · obtain ⟨es, rfl, el, k0, kE⟩ := h
    refine ⟨_, (pss_one 
      (ps_if (pt_cmpR op_gt (pe_callB call_len (by rfl) T.b_len PySem.boot_len (pa_cons (pv 0) pa_nil)) (pe_glob (v := .int 200) rfl T.c_MOST ⟨_, rfl⟩) (nomark _)) (pss_one (ps_raise rfl (takes_of rfl rfl rfl rfl) (SkE.pmk_own1 PySem.F.excBase_ValueError O_BadEdition.xC T.m_BadEdition O_BadEdition.kC (raises_own O_BadEdition.bC O_BadEdition.tC) rfl (pe_joined (PJ.cons (pe_fmt (pe_callB call_len (by rfl) T.b_len PySem.boot_len (pa_cons (pv 0) pa_nil))) (PJ.cons pe_str PJ.nil)))))) pss_nil)), ?_⟩
    have sz : (byteArr es).size ≤ sizeLine := by rw [byteArr_size]; exact sizeS el
    refine ⟨_, rfl, _, es.length, rfl, ⟨sz, (byteArr_size es).symm⟩, _, _, rfl, rfl, _, rfl, ite2 (fun h => ?_) fun h => ?_⟩
    · have h : (200 : Int) < es.length := of_decide_eq_true h
      have e0 : Str.empty.length ≤ 0 := Nat.le_refl _
      have a1 := app_len e0 (str_any (i := (es.length : Int)) (by omega) (by omega))
      have a2 := app_len a1 (show (Str.ofString " bytes are too many").length ≤ 30 by decide)
      exact ⟨_, rfl, _, es.length, rfl, ⟨sz, (byteArr_size es).symm⟩, .inr ⟨_, rfl, log_any (by omega) (by omega), _, rfl, lineS a1 (by decide), _, rfl, lineS a2 (by decide), kE (by omega) _ (Same.refl _)⟩⟩
    · have h : ¬ (200 : Int) < es.length := of_decide_eq_false (Bool.not_eq_true _ ▸ h)
      exact k0 (by omega)
theorem okx_check_reach (T : All K mg) (O_Beyond : N_Beyond.OwnErr P K mg CB fB) : FnOk P w K mg base (L2.CX P w) 2 T.d_check_reach.f T.d_check_reach.fd ["patch", "edition"] (spReachL CB) := by
  refine T.d_check_reach.F.okX sc_check_reach (fun vs H Q E h => ?_) (fun cdv A outer s H vs Q E hr h => ?_)
  · obtain ⟨v, _, _, _, _, rfl, _⟩ := h
    rfl
  · obtain ⟨v, rows, es, i0, l0, rfl, ⟨p, vs, rfl, hv, hpr⟩, hG, hel, hlate, kE⟩ := h
    have hrl := len_le_total hG.1
    have htt := hG.2
    refine ⟨_, (pss_one 
      (ps_for (passes_of rfl) rfl (pi_enumT (by rfl) T.b_enumerate (pa_cons (pv 0) pa_nil)) (pg_tup rfl (pgs_cons (pg_name (i := 2) sc_check_reach.nd rfl (Or.inl rfl)) (pgs_cons (pg_name (i := 3) sc_check_reach.nd rfl (Or.inl rfl)) pgs_nil))) (pss_one 
      (ps_if (PW.pt (pw_and (pt_cmpR op_eq (pe_ix ix_tup (pv 3) pe_int (fun _ _ => rfl)) pe_str (nomark _)) (pw_and1 (pt_cmpR op_gt (pe_op op_add (pe_ix ix_tup (pv 3) pe_int (fun _ _ => rfl)) (pe_ix ix_tup (pv 3) pe_int (fun _ _ => rfl))) (pe_callB call_len (by rfl) T.b_len PySem.boot_len (pa_cons (pv 1) pa_nil)) (nomark _))))) (pss_one (N_Beyond.ps_raiseOwn rfl O_Beyond hr (takes_of rfl rfl rfl rfl) (pa_cons (pv 2) pa_nil))) pss_nil)))), ?_⟩
    refine ⟨_, rfl, p, vs, rfl, SqT.of hv, for_it walk_enumT (fun i σ H2 => ∃ v2 v3 : Option V, σ = [some (.ref p), some (.byt (byteArr es)), v2, v3] ∧ Same H H2 ∧ lateF es.length (rows.take i) 0 = [])
      ⟨none, none, rfl, Same.refl _, rfl⟩ (fun i σ H2 _ ⟨_, _, _, s2, _⟩ => SqT.of (s2 _ _ hv)) ?_ ?_⟩
    · rintro i x σ H2 H3 hi ⟨v2, v3, rfl, s2, hfit⟩ ⟨t, x1, y1, rfl, ht, rfl, e1, e2⟩
      cases e1
      obtain ⟨r, hr1, q, rfl, hq⟩ := pairedAt hpr e2
      have il : i < rows.length := (List.getElem?_eq_some_iff.mp hr1).1
      have hro := hG.1 r (List.mem_of_getElem? hr1)
      have s3 : Same H (upd H2 t (.tup [.int (i : Nat), .ref q])) := s2.trans (Same.new ht)
      have hq3 := s3 _ _ hq
      have next : lateB es.length r = false → lateF es.length (rows.take (i + 1)) 0 = [] := fun hb => by
        rw [lateF_take hr1, hfit, hb]; rfl
      refine ⟨t, _, rfl, SqT.of upd_same, rfl, _, _, rfl, _, _, rfl, rfl, ?_⟩
      cases r with
      | copy b n =>
        refine ⟨_, rfl, q, _, _, _, rfl, rfl, SqT.of hq3, rfl, rfl, _, rfl, ite2 (fun _ => ?_) fun h => absurd (by decide) h⟩
        have h3 := hro.2.2
        refine ⟨_, rfl, q, _, _, _, rfl, rfl, SqT.of hq3, rfl, _, rfl, q, _, _, _, rfl, rfl, SqT.of hq3, rfl, _, _, rfl, rfl, _, rfl, _, es.length, rfl, ⟨by rw [byteArr_size]; exact sizeS (by omega), (byteArr_size es).symm⟩, _, _, rfl, rfl, _, rfl, ite2 (fun h => ?_) fun h => ?_⟩
        · obtain ⟨l, hl⟩ := lateF_first hr1 hfit (show lateB es.length (.copy b n) = true from h)
          rw [hlate] at hl
          cases hl
          exact ⟨_, rfl, _, rfl, by omega, by omega, fun d hd => kE _ d s3 hd⟩
        · have h := Bool.not_eq_true _ ▸ h
          exact ⟨_, _, rfl, s3, next h⟩
      | run b n =>
        refine ⟨_, rfl, q, _, _, _, rfl, rfl, SqT.of hq3, rfl, rfl, _, rfl, ite2 (fun h => absurd h (by decide)) fun _ => iteF ?_⟩
        exact ⟨_, _, rfl, s3, next rfl⟩
      | bring bs =>
        refine ⟨_, rfl, q, _, _, _, rfl, rfl, SqT.of hq3, rfl, rfl, _, rfl, ite2 (fun h => absurd h (by decide)) fun _ => iteF ?_⟩
        exact ⟨_, _, rfl, s3, next rfl⟩
    · rintro σ H2 ⟨v2, v3, rfl, s2, hfit⟩
      rw [Paired.length hpr, List.take_length, hlate] at hfit
      cases hfit
theorem okx_least (T : All K mg) (O_BadEdition : PlainErr K T.k_BadEdition) : FnOk P w K mg base (L2.CX P w) 2 T.d_least.f T.d_least.fd ["old", "new"] (spLeastX T.k_BadEdition) := by
  have G_check_edition : FnOk P w K mg base (L2.CX P w) 1 T.d_check_edition.f T.d_check_edition.fd ["edition"] (spEditionX T.k_BadEdition) := okx_check_edition T O_BadEdition
  refine T.d_least.F.okX sc_least (fun vs H Q E h => ?_) (fun cdv A outer s H vs Q E hr h => ?_)
  · obtain ⟨_, _, rfl, _⟩ := h
    rfl
  · obtain ⟨os, ns, rfl, ol, nl, hb, kE⟩ := h
    refine ⟨_, (pss_cons 
      (ps_expr (pe_call G_check_edition (hr.mono (by decide)) rfl T.d_check_edition.m T.d_check_edition.F.kp T.d_check_edition.b .nil (passes_call (takes_of rfl rfl rfl rfl) fun _ _ _ _ h => h) (pa_cons (pv 0) pa_nil))) (pss_cons 
      (ps_expr (pe_call G_check_edition (hr.mono (by decide)) rfl T.d_check_edition.m T.d_check_edition.F.kp T.d_check_edition.b .nil (passes_call (takes_of rfl rfl rfl rfl) fun _ _ _ _ h => h) (pa_cons (pv 1) pa_nil))) (pss_cons ps_never (pss_cons ps_never (pss_cons ps_never (pss_one ps_never)))))), ?_⟩
    refine ⟨_, rfl, os, rfl, ol, fun h1 => ?_, fun _ => kE⟩
    exact ⟨_, rfl, ns, rfl, nl, fun h2 => absurd hb (by omega), fun _ => kE⟩
theorem okl_done (T : All K mg) (O_Beyond : N_Beyond.OwnErr P K mg CB fB) : FnOk P w K mg base (L2.CX P w) 5 T.d_done.f T.d_done.fd ["patch", "edition"] (spDoneL CB) := by
  have G_cells : FnOk P w K mg base CX0 4 T.d_cells.f T.d_cells.fd ["patch"] spCells := ok_cells T
  have G_check_edition : FnOk P w K mg base CX0 1 T.d_check_edition.f T.d_check_edition.fd ["edition"] spCheckEdition := ok_check_edition T
  have G_check_reach : FnOk P w K mg base (L2.CX P w) 2 T.d_check_reach.f T.d_check_reach.fd ["patch", "edition"] (spReachL CB) := okx_check_reach T O_Beyond
  refine T.d_done.F.okX sc_done (fun vs H Q E h => ?_) (fun cdv A outer s H vs Q E hr h => ?_)
  · obtain ⟨_, _, _, _, _, rfl, _⟩ := h
    rfl
  · obtain ⟨v, rows, es, i, l, rfl, hP, hG, e200, hl, kE⟩ := h
    refine ⟨_, (pss_cons 
      (ps_set (i := 2) sc_done.nd rfl (Or.inl rfl) (pe_call G_cells (hr.mono (by decide)) rfl T.d_cells.m T.d_cells.F.kp T.d_cells.b .nil pass0 (pa_cons (pv 0) pa_nil))) (pss_cons 
      (ps_expr (pe_call G_check_edition (hr.mono (by decide)) rfl T.d_check_edition.m T.d_check_edition.F.kp T.d_check_edition.b .nil pass0 (pa_cons (pv 1) pa_nil))) (pss_cons 
      (ps_expr (pe_call G_check_reach (hr.mono (by decide)) rfl T.d_check_reach.m T.d_check_reach.F.kp T.d_check_reach.b .nil (passes_call (takes_of rfl rfl rfl rfl) fun _ _ _ _ h => h) (pa_cons (pv 0) (pa_cons (pv 1) pa_nil)))) (pss_one ps_never)))), ?_⟩
    refine ⟨_, rfl, v, rows, rfl, hP, hG, fun H1 c s1 hc hcs => ?_⟩
    refine ⟨_, rfl, es, rfl, e200, ?_⟩
    exact ⟨_, rfl, _, rfl, v, rows, es, i, l, rfl, hP.tups (Same.tups s1), hG, e200, hl, kE.same s1⟩
theorem ok0_check_copies (T : All K mg) : FnOk P w K mg base CX0 2 T.d_check_copies.f T.d_check_copies.fd ["patch", "pieces"] spCopies0 := by
  have G_is_number : FnOk P w K mg base CX0 1 T.d_is_number.f T.d_is_number.fd ["what", "least", "most"] spIsNum := ok_is_number T
  refine T.d_check_copies.F.ok sc_check_copies (fun vs H Q E h => ?_) (fun cdv A outer s H vs Q E hr h => ?_)
  · obtain ⟨_, _, rfl, _⟩ := h
    rfl
  · obtain ⟨v, o, rfl, hO, k⟩ := h
    refine ⟨_, (pss_cons 
      (ps_set (i := 2) sc_check_copies.nd rfl (Or.inl rfl) pe_int) (pss_one 
      (ps_for PassesOwn.never rfl (pi_list (pv 1)) (pg_name (i := 3) sc_check_copies.nd rfl (Or.inl rfl)) (pss_cons 
      (ps_if (PW.pt (pw_or (pt_not (pt_val (pe_call G_is_number (hr.mono (by decide)) rfl T.d_is_number.m T.d_is_number.F.kp T.d_is_number.b .nil pass0 (pa_cons (pv 3) (pa_cons (pv 2) (pa_cons (pe_op op_sub (pe_callB call_len (by rfl) T.b_len PySem.boot_len (pa_cons (pv 0) pa_nil)) pe_int) pa_nil)))))) (pw_or1 (pt_cmpR op_ne (pe_ix ix_tup (pe_ix ix_tup (pv 0) (pv 3) (fun _ _ => rfl)) pe_int (fun _ _ => rfl)) pe_str (nomark _))))) (pss_one ps_never) pss_nil) (pss_one 
      (ps_set (i := 2) sc_check_copies.nd rfl (Or.inl rfl) (pe_op op_add (pv 3) pe_int))))))), ?_⟩
    refine ⟨_, rfl, o, rfl, ⟨_, SqL.of hO⟩, for_list (K := K) (a := o) (xs := []) (fun j σ H2 => H2 = H) rfl (fun j σ H2 _ e => by rw [e]; exact SqL.of hO) (fun i x σ H2 hi => nomatch hi) fun σ H2 e => by rw [e]; exact k⟩
theorem okl_brought (T : All K mg) (O_Beyond : N_Beyond.OwnErr P K mg CB fB) : FnOk P w K mg base (L2.CX P w) 5 T.d_brought.f T.d_brought.fd ["patch", "pieces", "edition"] (spBroughtL CB) := by
  have G_check_patch : FnOk P w K mg base CX0 3 T.d_check_patch.f T.d_check_patch.fd ["patch"] spCheckPatch := ok_check_patch T
  have G_check_copies : FnOk P w K mg base CX0 2 T.d_check_copies.f T.d_check_copies.fd ["patch", "pieces"] spCopies0 := ok0_check_copies T
  have G_check_edition : FnOk P w K mg base CX0 1 T.d_check_edition.f T.d_check_edition.fd ["edition"] spCheckEdition := ok_check_edition T
  have G_check_reach : FnOk P w K mg base (L2.CX P w) 2 T.d_check_reach.f T.d_check_reach.fd ["patch", "edition"] (spReachL CB) := okx_check_reach T O_Beyond
  refine T.d_brought.F.okX sc_brought (fun vs H Q E h => ?_) (fun cdv A outer s H vs Q E hr h => ?_)
  · obtain ⟨_, _, _, _, _, _, rfl, _⟩ := h
    rfl
  · obtain ⟨v, o, rows, es, i, l, rfl, hO, hP, hG, e200, hl, kE⟩ := h
    refine ⟨_, (pss_cons 
      (ps_expr (pe_call G_check_patch (hr.mono (by decide)) rfl T.d_check_patch.m T.d_check_patch.F.kp T.d_check_patch.b .nil pass0 (pa_cons (pv 0) pa_nil))) (pss_cons 
      (ps_expr (pe_call G_check_copies (hr.mono (by decide)) rfl T.d_check_copies.m T.d_check_copies.F.kp T.d_check_copies.b .nil pass0 (pa_cons (pv 0) (pa_cons (pv 1) pa_nil)))) (pss_cons 
      (ps_expr (pe_call G_check_edition (hr.mono (by decide)) rfl T.d_check_edition.m T.d_check_edition.F.kp T.d_check_edition.b .nil pass0 (pa_cons (pv 2) pa_nil))) (pss_cons 
      (ps_expr (pe_call G_check_reach (hr.mono (by decide)) rfl T.d_check_reach.m T.d_check_reach.F.kp T.d_check_reach.b .nil (passes_call (takes_of rfl rfl rfl rfl) fun _ _ _ _ h => h) (pa_cons (pv 0) (pa_cons (pv 2) pa_nil)))) (pss_one ps_never))))), ?_⟩
    refine ⟨_, rfl, v, rows, rfl, hP, hG, fun H1 s1 => ?_⟩
    refine ⟨_, rfl, _, rfl, v, o, rfl, s1 _ _ hO, ?_⟩
    refine ⟨_, rfl, es, rfl, e200, ?_⟩
    exact ⟨_, rfl, _, rfl, v, rows, es, i, l, rfl, hP.tups (Same.tups s1), hG, e200, hl, kE.same s1⟩
theorem okx_bytes_of (T : All K mg) (O_BadCount : PlainErr K T.k_BadCount) : FnOk P w K mg base (L2.CX P w) 2 T.d_bytes_of.f T.d_bytes_of.fd ["numbers"] (spBytesBad T.k_BadCount) := by
  have G_is_number : FnOk P w K mg base CX0 1 T.d_is_number.f T.d_is_number.fd ["what", "least", "most"] spIsNum := ok_is_number T
  refine T.d_bytes_of.F.okX sc_bytes_of (fun vs H Q E h => ?_) (fun cdv A outer s H vs Q E hr h => ?_)
  · obtain ⟨_, _, rfl, _⟩ := h
    rfl
  · obtain ⟨p, zs, rfl, hp, bnd, bad, kE⟩ := h
    refine ⟨_, (pss_cons 
      (ps_for (passes_of rfl) rfl (pi_list (pv 0)) (pg_name (i := 1) sc_bytes_of.nd rfl (Or.inl rfl)) (pss_one 
      (ps_if (pt_not (pt_val (pe_call G_is_number (hr.mono (by decide)) rfl T.d_is_number.m T.d_is_number.F.kp T.d_is_number.b .nil pass0 (pa_cons (pv 1) (pa_cons pe_int (pa_cons (pe_glob (v := .int 255) rfl T.c_LAST_BYTE ⟨_, rfl⟩) pa_nil)))))) (pss_one (ps_raise rfl (takes_of rfl rfl rfl rfl) (SkE.pmk_own1 PySem.F.excBase_ValueError O_BadCount.xC T.m_BadCount O_BadCount.kC (raises_own O_BadCount.bC O_BadCount.tC) rfl (pe_joined (PJ.cons (pe_fmt (pv 1)) (PJ.cons pe_str PJ.nil)))))) pss_nil))) (pss_one 
      (ps_ret (pe_bytesOf rfl (by rfl) T.b_bytes (pv 0))))), ?_⟩
    refine ⟨_, rfl, p, rfl, ⟨_, SqL.of hp⟩, for_list (K := K) (a := p) (xs := zs.map V.int) (fun i σ H' => ∃ v : Option V, σ = [some (.ref p), v] ∧ H' = H ∧ ∀ z ∈ zs.take i, 0 ≤ z ∧ z ≤ 255)
      ⟨none, rfl, rfl, fun z hz => nomatch hz⟩ (fun i σ H' _ ⟨_, _, e, _⟩ => by rw [e]; exact SqL.of hp) ?_ ?_⟩
    · rintro i y σ H' hi ⟨v, rfl, rfl, ok⟩
      obtain ⟨z, rfl, hz⟩ := at_map hi
      have zb := bnd z (List.mem_of_getElem? hz)
      refine ⟨_, rfl, z, 0, 255, rfl, _, rfl, ?_⟩
      by_cases g : 0 ≤ z ∧ z ≤ 255
      · rw [decide_eq_true g.1, decide_eq_true g.2]
        refine iteF ⟨_, rfl, rfl, fun z' hz' => ?_⟩
        rw [take_snoc hz] at hz'
        rcases List.mem_append.mp hz' with h | h
        · exact ok z' h
        · rw [List.mem_singleton.mp h]; exact g
      · have e : (decide ((0 : Int) ≤ z) && decide (z ≤ 255)) = false := by
          rw [Bool.and_eq_false_iff]
          by_cases e : 0 ≤ z
          · exact .inr (decide_eq_false fun w => g ⟨e, w⟩)
          · exact .inl (decide_eq_false e)
        rw [e]
        refine iteT ?_
        have e0 : Str.empty.length ≤ 0 := Nat.le_refl _
        have a1 := app_len e0 (str_any (i := z) (by omega) (by omega))
        have a2 := app_len a1 (show (Str.ofString " is no byte").length ≤ 30 by decide)
        exact ⟨_, rfl, .inr ⟨z, rfl, log_any (by omega) (by omega), _, rfl, lineS a1 (by decide), _, rfl, lineS a2 (by decide), kE _ (Same.refl _)⟩⟩
    · rintro σ H' ⟨v, rfl, rfl, ok⟩
      rw [List.length_map, List.take_length] at ok
      obtain ⟨z, hz, nz⟩ := bad
      exact absurd (ok z hz) nz
end
set_option pp.maxSteps 400
/-! ### a device, as far as a refused patch asks it -/
def Not1 (x : Addr) (H H' : Hp) : Prop := ∀ b o, b ≠ x → H b = some o → H' b = some o
theorem rep_ints (n : Nat) (x : Int) : (List.replicate n [V.int x]).flatten = (List.replicate n x).map V.int := by
  rw [rep_flat, List.map_replicate]
theorem not1_upd {a : Addr} {H H' : Hp} {o : HO} (h : Not1 a H H') : Not1 a H (upd H' a o) := fun b u nb e => by rw [upd_ne nb]; exact h b u nb e
theorem not1_same {a : Addr} {H H' H2 : Hp} (h : Not1 a H H') (s : Same H' H2) : Not1 a H H2 := fun b u nb e => s _ _ (h b u nb e)
theorem not1_free {a b : Addr} {H H' : Hp} (h : Not1 a H H') (nb : b ≠ a) (e : H' b = none) : H b = none := by
  cases q : H b with
  | none => rfl
  | some o => rw [h b o nb q] at e; cases e
theorem ne_insA {H : Hp} {x a C dx : Addr} {fs : List (Str × V)} (e : H x = none) (ha : H a = some (.ins C dx fs)) : x ≠ a := fun z => by rw [z, ha] at e; cases e
theorem ne_new {H : Hp} {x y : Addr} {o : HO} (e : H x = some o) (h : H y = none) : x ≠ y := fun z => by rw [z, h] at e; cases e
theorem putF_le (f : Str) (v : V) : ∀ fs : List (Str × V), (putF f v fs).length ≤ fs.length + 1
  | [] => Nat.le_refl _
  | (g, x) :: r => by
    show (if g = f then (g, v) :: r else (g, x) :: putF f v r).length ≤ _
    have := putF_le f v r
    split
    · rw [List.length_cons, List.length_cons]; omega
    · rw [List.length_cons, List.length_cons]; omega
theorem putF_leN {f : Str} {v : V} {fs : List (Str × V)} {n : Nat} (h : fs.length ≤ n) : (putF f v fs).length ≤ n + 1 := Nat.le_trans (putF_le _ _ _) (Nat.succ_le_succ h)
theorem lst_updA {H : Hp} {a x C dx : Addr} {fs : List (Str × V)} {xs : List V} {o : HO} (e : H x = some (.lst xs)) (ha : H a = some (.ins C dx fs)) : (upd H a o) x = some (.lst xs) := by
  rw [upd_ne (ne_of e ha fun z => by cases z)]; exact e
theorem cutNd (xs : List V) (n : Nat) : cutV xs none (some (n : Int)) = xs.take n := by
  unfold cutV
  rw [HT.sIx_none, HT.sIx_nat, List.drop_zero, Nat.sub_zero]
  by_cases h : n ≤ xs.length
  · rw [Nat.min_eq_left h]
  · rw [Nat.min_eq_right (by omega), List.take_length, List.take_of_length_le (by omega)]
structure DevL (CD : Addr) (H : Hp) (a : Addr) (es : List Int) : Prop where
  is : ∃ (dx cA : Addr) (fs : List (Str × V)), H a = some (.ins CD dx fs) ∧ fs.lookup ("_cells" : Str) = some (.ref cA) ∧ fs.lookup ("_many" : Str) = some (.int (es.length : Int)) ∧ fs.lookup ("_work" : Str) = some .non ∧ fs.lookup ("_asleep" : Str) = some (.bl false) ∧ fs.lookup ("begin" : Str) = none ∧ fs.lookup ("edition" : Str) = none ∧
    H cA = some (.lst ((es ++ List.replicate (200 - es.length) (0 : Int)).map V.int))
theorem DevL.same {CD : Addr} {H H' : Hp} {a : Addr} {es : List Int} (h : DevL CD H a es) (s : Same H H') : DevL CD H' a es := by
  obtain ⟨dx, cA, fs, h0, h1, h2, h3, h4, h5, h6, h7⟩ := h.is
  exact ⟨dx, cA, fs, s _ _ h0, h1, h2, h3, h4, h5, h6, s _ _ h7⟩
def spDevInitL (CD : Addr) : Sp := fun vs H Q _ => ∃ (a dx : Addr) (es : List Int), vs = [.ref a, .byt (byteArr es)] ∧ H a = some (.ins CD dx []) ∧ B8 es ∧ es.length ≤ 200 ∧ ∀ H', Not1 a H H' → DevL CD H' a es → Q .non H'
def spDevInitX (C : Addr) : Sp := fun vs H Q E => ∃ (a : Addr) (es : List Int), vs = [.ref a, .byt (byteArr es)] ∧ 200 < es.length ∧ es.length ≤ 100000 ∧ Plain H C E
def spEditionL (CD : Addr) : Sp := fun vs H Q _ => ∃ (a : Addr) (es : List Int), vs = [.ref a] ∧ DevL CD H a es ∧ B8 es ∧ es.length ≤ 200 ∧ ∀ H', Same H H' → Q (.byt (byteArr es)) H'
def spBeginL (CD CB : Addr) : Sp := fun vs H Q E => ∃ (a : Addr) (v : V) (es : List Int) (rows : List Row) (i : Nat) (l : List Nat), vs = [.ref a, v] ∧ DevL CD H a es ∧ B8 es ∧ es.length ≤ 200 ∧ PatchAt H v rows ∧ Good rows ∧ lateF es.length rows 0 = i :: l ∧ AtP H CB E i
def spBegunX (CE CB : Addr) : Sp := fun vs H Q E => ∃ (v : V) (es : List Int), vs = [.byt (byteArr es), v] ∧ ((200 < es.length ∧ es.length ≤ 100000 ∧ Plain H CE E) ∨
  (es.length ≤ 200 ∧ B8 es ∧ ∃ (rows : List Row) (i : Nat) (l : List Nat), PatchAt H v rows ∧ Good rows ∧ lateF es.length rows 0 = i :: l ∧ AtP H CB E i))
def spAllX (CE : Addr) : Sp := fun vs H Q E => ∃ (v u : V) (es : List Int), vs = [.byt (byteArr es), v, u] ∧ 200 < es.length ∧ es.length ≤ 100000 ∧ Plain H CE E
section
variable {P : Program} {w : World} {K : PySem.W.Frag} {mg : Str → Option Value} {base : Heap} {CB fB : Addr}
theorem ok_Device_init (T : All K mg) : FnOk P w K mg base CX0 2 T.d_Device_init.f T.d_Device_init.fd ["self", "edition"] (spDevInitL T.k_Device) := by
  have G_check_edition : FnOk P w K mg base CX0 1 T.d_check_edition.f T.d_check_edition.fd ["edition"] spCheckEdition := ok_check_edition T
  have G_numbers_of : FnOk P w K mg base CX0 1 T.d_numbers_of.f T.d_numbers_of.fd ["some"] spNumsOf := ok_numbers_of T
  refine T.d_Device_init.F.ok sc_Device_init (fun vs H Q E h => ?_) (fun cdv A outer s H vs Q E hr h => ?_)
  · obtain ⟨_, _, _, rfl, _⟩ := h
    rfl
  · obtain ⟨a, dx, es, rfl, ha, b8, e200, k⟩ := h
    refine ⟨_, (pss_cons 
      (ps_expr (pe_call G_check_edition (hr.mono (by decide)) rfl T.d_check_edition.m T.d_check_edition.F.kp T.d_check_edition.b .nil pass0 (pa_cons (pv 1) pa_nil))) (pss_cons 
      (ps_fld (pv 0) (pe_op op_cat (pe_call G_numbers_of (hr.mono (by decide)) rfl T.d_numbers_of.m T.d_numbers_of.F.kp T.d_numbers_of.b .nil pass0 (pa_cons (pv 1) pa_nil)) (pe_op op_rep (pe_lst (pa_cons pe_int pa_nil)) (pe_op op_sub (pe_glob (v := .int 200) rfl T.c_CELLS ⟨_, rfl⟩) (pe_callB call_len (by rfl) T.b_len PySem.boot_len (pa_cons (pv 1) pa_nil))))) rfl) (pss_cons 
      (ps_fld (pv 0) (pe_op op_rep (pe_lst (pa_cons pe_int pa_nil)) (pe_glob (v := .int 200) rfl T.c_CELLS ⟨_, rfl⟩)) rfl) (pss_cons 
      (ps_fld (pv 0) (pe_lst (pa_cons pe_non (pa_cons pe_int pa_nil))) rfl) (pss_cons 
      (ps_fld (pv 0) (pe_op op_rep (pe_lst (pa_cons pe_int pa_nil)) (pe_glob (v := .int 2) rfl T.c_PLACES ⟨_, rfl⟩)) rfl) (pss_cons 
      (ps_fld (pv 0) (pe_callB call_len (by rfl) T.b_len PySem.boot_len (pa_cons (pv 1) pa_nil)) rfl) (pss_cons 
      (ps_fld (pv 0) pe_non rfl) (pss_cons 
      (ps_fld (pv 0) pe_int rfl) (pss_cons 
      (ps_fld (pv 0) pe_int rfl) (pss_cons 
      (ps_fld (pv 0) pe_int rfl) (pss_one 
      (ps_fld (pv 0) pe_bl rfl)))))))))))), ?_⟩
    refine ⟨_, rfl, es, rfl, e200, ?_⟩
    -- the cells
    refine ⟨_, rfl, es, rfl, b8, by omega, fun p1 hp1 => ⟨sizeS (by show 1 ≤ 100000; decide), fun y1 hy1 => ?_⟩⟩
    refine ⟨_, rfl, _, es.length, rfl, ⟨by rw [byteArr_size]; exact sizeS (by omega), (byteArr_size es).symm⟩, _, _, rfl, rfl, ?_⟩
    have x1 := Same.new (o := .lst (es.map V.int)) hp1
    have x2 := Same.new (o := .lst [V.int 0]) hy1
    refine ⟨y1, (200 : Int) - (es.length : Int), _, rfl, rfl, upd_same, by omega, by omega, sizeS (by show 1 * _ ≤ 100000; omega), fun y2 hy2 => ?_⟩
    have tn : ((200 : Int) - (es.length : Int)).toNat = 200 - es.length := by omega
    rw [tn, rep_ints]
    have x3 := Same.new (o := .lst ((List.replicate (200 - es.length) (0 : Int)).map V.int)) hy2
    refine ⟨p1, y2, es.map V.int, (List.replicate (200 - es.length) (0 : Int)).map V.int, rfl, rfl, (x2.trans x3) _ _ upd_same, upd_same, sizeS (by rw [List.length_map, List.length_map, List.length_replicate]; omega), fun cA hcA => ?_⟩
    rw [← List.map_append]
    have s1 : Same H (upd (upd (upd (upd H p1 (.lst (es.map V.int))) y1 (.lst [V.int 0])) y2 (.lst ((List.replicate (200 - es.length) (0 : Int)).map V.int))) cA (.lst ((es ++ List.replicate (200 - es.length) 0).map V.int))) := ((x1.trans x2).trans x3).trans (Same.new hcA)
    have c1 : (upd (upd (upd (upd H p1 (.lst (es.map V.int))) y1 (.lst [V.int 0])) y2 (.lst ((List.replicate (200 - es.length) (0 : Int)).map V.int))) cA (.lst ((es ++ List.replicate (200 - es.length) 0).map V.int))) cA = some (.lst ((es ++ List.replicate (200 - es.length) (0 : Int)).map V.int)) := upd_same
    have fc : H cA = none := ((x1.trans x2).trans x3).free hcA
    generalize (upd (upd (upd (upd H p1 (.lst (es.map V.int))) y1 (.lst [V.int 0])) y2 (.lst ((List.replicate (200 - es.length) (0 : Int)).map V.int))) cA (.lst ((es ++ List.replicate (200 - es.length) 0).map V.int))) = H1 at s1 c1 ⊢
    have ha1 := s1 _ _ ha
    refine ⟨_, rfl, a, _, dx, _, rfl, ha1, T.cl_Device, T.na_Device_cells, (by show 0 < 1000; decide), ?_⟩
    have n2 : ∀ {o : HO}, Not1 a H (upd H1 a o) := fun {o} => not1_upd fun b u _ e => s1 b u e
    have c2 : ∀ {o : HO}, (upd H1 a o) cA = some (.lst ((es ++ List.replicate (200 - es.length) (0 : Int)).map V.int)) := fun {o} => lst_updA c1 ha1
    have l1 : (putF ("_cells" : Str) (.ref cA) []).length ≤ 1 := putF_leN (Nat.le_refl 0)
    -- the wear
    refine ⟨sizeS (by show 1 ≤ 100000; decide), fun y3 hy3 => ?_⟩
    refine ⟨y3, 200, _, rfl, rfl, upd_same, by decide, by decide, sizeS (by show 1 * 200 ≤ 100000; decide), fun wA hwA => ?_⟩
    have t2 : (200 : Int).toNat = 200 := rfl
    rw [t2, rep_ints]
    have x4 := (Same.new (o := .lst [V.int 0]) hy3).trans (Same.new (o := .lst ((List.replicate 200 (0 : Int)).map V.int)) hwA)
    have ha2 := x4 _ _ (upd_same (H := H1) (a := a) (o := .ins T.k_Device dx (putF ("_cells" : Str) (.ref cA) [])))
    have c3 := x4 _ _ (c2 (o := .ins T.k_Device dx (putF ("_cells" : Str) (.ref cA) [])))
    have n3 := not1_same (n2 (o := .ins T.k_Device dx (putF ("_cells" : Str) (.ref cA) []))) x4
    have w3 : (upd (upd (upd H1 a (.ins T.k_Device dx (putF ("_cells" : Str) (.ref cA) []))) y3 (.lst [V.int 0])) wA (.lst ((List.replicate 200 (0 : Int)).map V.int))) wA = some (.lst ((List.replicate 200 (0 : Int)).map V.int)) := upd_same
    have cw : cA ≠ wA := ne_new ((Same.new (o := .lst [V.int 0]) hy3) _ _ (c2 (o := .ins T.k_Device dx (putF ("_cells" : Str) (.ref cA) [])))) hwA
    have nwa : wA ≠ a := ne_insA hwA ((Same.new (o := .lst [V.int 0]) hy3) _ _ upd_same)
    have fw : H wA = none := not1_free (not1_same (n2 (o := .ins T.k_Device dx (putF ("_cells" : Str) (.ref cA) []))) (Same.new (o := .lst [V.int 0]) hy3)) nwa hwA
    generalize (upd (upd (upd H1 a (.ins T.k_Device dx (putF ("_cells" : Str) (.ref cA) []))) y3 (.lst [V.int 0])) wA (.lst ((List.replicate 200 (0 : Int)).map V.int))) = H3 at ha2 c3 n3 w3 ⊢
    refine ⟨_, rfl, a, _, dx, _, rfl, ha2, T.cl_Device, T.na_Device_wear, Nat.lt_of_le_of_lt l1 (by decide), ?_⟩
    have l2 := putF_leN (f := ("_wear" : Str)) (v := .ref wA) l1
    generalize h4 : upd H3 a (.ins T.k_Device dx (putF ("_wear" : Str) (.ref wA) (putF ("_cells" : Str) (.ref cA) []))) = H4
    have ha4 : H4 a = some (.ins T.k_Device dx (putF ("_wear" : Str) (.ref wA) (putF ("_cells" : Str) (.ref cA) []))) := by rw [← h4]; exact upd_same
    have c4 : H4 cA = some (.lst ((es ++ List.replicate (200 - es.length) (0 : Int)).map V.int)) := by rw [← h4]; exact lst_updA c3 ha2
    have w4 : H4 wA = some (.lst ((List.replicate 200 (0 : Int)).map V.int)) := by rw [← h4]; exact lst_updA w3 ha2
    have n4 : Not1 a H H4 := by rw [← h4]; exact not1_upd n3
    -- the places
    refine ⟨sizeS (by show 2 ≤ 100000; decide), fun pA hpA => ?_⟩
    have x5 := Same.new (o := .lst ([V.non, V.int 0])) hpA
    refine ⟨_, rfl, a, _, dx, _, rfl, x5 _ _ ha4, T.cl_Device, T.na_Device_places, Nat.lt_of_le_of_lt l2 (by decide), ?_⟩
    have l3 := putF_leN (f := ("_places" : Str)) (v := .ref pA) l2
    have cp : cA ≠ pA := ne_new c4 hpA
    have wp : wA ≠ pA := ne_new w4 hpA
    have npa : pA ≠ a := ne_insA hpA ha4
    have fp : H pA = none := not1_free n4 npa hpA
    generalize h6 : upd (upd H4 pA (.lst [V.non, V.int 0])) a (.ins T.k_Device dx (putF ("_places" : Str) (.ref pA) (putF ("_wear" : Str) (.ref wA) (putF ("_cells" : Str) (.ref cA) [])))) = H6
    have ha6 : H6 a = some (.ins T.k_Device dx (putF ("_places" : Str) (.ref pA) (putF ("_wear" : Str) (.ref wA) (putF ("_cells" : Str) (.ref cA) [])))) := by rw [← h6]; exact upd_same
    have c6 : H6 cA = some (.lst ((es ++ List.replicate (200 - es.length) (0 : Int)).map V.int)) := by rw [← h6]; exact lst_updA (x5 _ _ c4) (x5 _ _ ha4)
    have w6 : H6 wA = some (.lst ((List.replicate 200 (0 : Int)).map V.int)) := by rw [← h6]; exact lst_updA (x5 _ _ w4) (x5 _ _ ha4)
    have p6 : H6 pA = some (.lst ([V.non, V.int 0])) := by rw [← h6]; exact lst_updA upd_same (x5 _ _ ha4)
    have n6 : Not1 a H H6 := by rw [← h6]; exact not1_upd (not1_same n4 x5)
    -- how often they were written
    refine ⟨sizeS (by show 1 ≤ 100000; decide), fun y4 hy4 => ?_⟩
    refine ⟨y4, 2, _, rfl, rfl, upd_same, by decide, by decide, sizeS (by show 1 * 2 ≤ 100000; decide), fun nA hnA => ?_⟩
    have t3 : (2 : Int).toNat = 2 := rfl
    rw [t3, rep_ints]
    have x6 := Same.new (o := .lst [V.int 0]) hy4
    have x7 := x6.trans (Same.new (o := .lst ((List.replicate 2 (0 : Int)).map V.int)) hnA)
    have nna : nA ≠ a := ne_insA hnA (x6 _ _ ha6)
    have fn : H nA = none := not1_free (not1_same n6 x6) nna hnA
    have cn : cA ≠ nA := ne_new (x6 _ _ c6) hnA
    have wn : wA ≠ nA := ne_new (x6 _ _ w6) hnA
    have pn : pA ≠ nA := ne_new (x6 _ _ p6) hnA
    refine ⟨_, rfl, a, _, dx, _, rfl, x7 _ _ ha6, T.cl_Device, T.na_Device_places_worn, Nat.lt_of_le_of_lt l3 (by decide), ?_⟩
    have l4 := putF_leN (f := ("_places_worn" : Str)) (v := .ref nA) l3
    generalize h8 : upd (upd (upd H6 y4 (.lst [V.int 0])) nA (.lst ((List.replicate 2 (0 : Int)).map V.int))) a (.ins T.k_Device dx (putF ("_places_worn" : Str) (.ref nA) (putF ("_places" : Str) (.ref pA) (putF ("_wear" : Str) (.ref wA) (putF ("_cells" : Str) (.ref cA) []))))) = H8
    have ha8 : H8 a = some (.ins T.k_Device dx (putF ("_places_worn" : Str) (.ref nA) (putF ("_places" : Str) (.ref pA) (putF ("_wear" : Str) (.ref wA) (putF ("_cells" : Str) (.ref cA) []))))) := by rw [← h8]; exact upd_same
    have c8 : H8 cA = some (.lst ((es ++ List.replicate (200 - es.length) (0 : Int)).map V.int)) := by rw [← h8]; exact lst_updA (x7 _ _ c6) (x7 _ _ ha6)
    have w8 : H8 wA = some (.lst ((List.replicate 200 (0 : Int)).map V.int)) := by rw [← h8]; exact lst_updA (x7 _ _ w6) (x7 _ _ ha6)
    have p8 : H8 pA = some (.lst ([V.non, V.int 0])) := by rw [← h8]; exact lst_updA (x7 _ _ p6) (x7 _ _ ha6)
    have m8 : H8 nA = some (.lst ((List.replicate 2 (0 : Int)).map V.int)) := by rw [← h8]; exact lst_updA upd_same (x7 _ _ ha6)
    have n8 : Not1 a H H8 := by rw [← h8]; exact not1_upd (not1_same n6 x7)
    -- the rest: numbers
    refine ⟨_, rfl, _, es.length, rfl, ⟨by rw [byteArr_size]; exact sizeS (by omega), (byteArr_size es).symm⟩, _, rfl, a, _, dx, _, rfl, ha8, T.cl_Device, T.na_Device_many, Nat.lt_of_le_of_lt l4 (by decide), ?_⟩
    have l5 := putF_leN (f := ("_many" : Str)) (v := .int (es.length : Int)) l4
    refine ⟨_, rfl, a, _, dx, _, rfl, upd_same, T.cl_Device, T.na_Device_work, Nat.lt_of_le_of_lt l5 (by decide), ?_⟩
    have l6 := putF_leN (f := ("_work" : Str)) (v := .non) l5
    refine ⟨_, rfl, a, _, dx, _, rfl, upd_same, T.cl_Device, T.na_Device_done, Nat.lt_of_le_of_lt l6 (by decide), ?_⟩
    have l7 := putF_leN (f := ("_done" : Str)) (v := .int 0) l6
    refine ⟨_, rfl, a, _, dx, _, rfl, upd_same, T.cl_Device, T.na_Device_marked, Nat.lt_of_le_of_lt l7 (by decide), ?_⟩
    have l8 := putF_leN (f := ("_marked" : Str)) (v := .int 0) l7
    refine ⟨_, rfl, a, _, dx, _, rfl, upd_same, T.cl_Device, T.na_Device_part, Nat.lt_of_le_of_lt l8 (by decide), ?_⟩
    have l9 := putF_leN (f := ("_part" : Str)) (v := .int 0) l8
    refine ⟨_, rfl, a, _, dx, _, rfl, upd_same, T.cl_Device, T.na_Device_asleep, Nat.lt_of_le_of_lt l9 (by decide), ?_⟩
    have l10 := putF_leN (f := ("_asleep" : Str)) (v := .bl false) l9
    have ne : ∀ {x : Addr} {o : HO}, x ≠ a → ∀ {o1 o2 o3 o4 o5 o6 : HO}, H8 x = some o → (upd (upd (upd (upd (upd (upd H8 a o1) a o2) a o3) a o4) a o5) a o6) x = some o := fun {x o} nx {_ _ _ _ _ _} e => by
      rw [upd_ne nx, upd_ne nx, upd_ne nx, upd_ne nx, upd_ne nx, upd_ne nx]
      exact e
    have nca : cA ≠ a := fun z => by rw [z, ha8] at c8; cases c8
    refine k _ (fun b u nb e => ne nb (n8 b u nb e)) ⟨dx, cA, _, upd_same, ?_, ?_, ?_, ?_, ?_, ?_, ne nca c8⟩
    all_goals
      repeat (first | (rw [lookup_putF, if_pos rfl]; done) | rw [lookup_putF, if_neg (by decide +kernel)])
    all_goals first | rfl | (rw [lookup_putF, if_pos rfl]; rfl)
theorem okx_Device_init (T : All K mg) (O_BadEdition : PlainErr K T.k_BadEdition) : FnOk P w K mg base (L2.CX P w) 2 T.d_Device_init.f T.d_Device_init.fd ["self", "edition"] (spDevInitX T.k_BadEdition) := by
  have G_check_edition : FnOk P w K mg base (L2.CX P w) 1 T.d_check_edition.f T.d_check_edition.fd ["edition"] (spEditionX T.k_BadEdition) := okx_check_edition T O_BadEdition
  refine T.d_Device_init.F.okX sc_Device_init (fun vs H Q E h => ?_) (fun cdv A outer s H vs Q E hr h => ?_)
  · obtain ⟨_, _, rfl, _⟩ := h
    rfl
  · obtain ⟨a, es, rfl, e1, e2, kE⟩ := h
    refine ⟨_, (pss_cons 
      (ps_expr (pe_call G_check_edition (hr.mono (by decide)) rfl T.d_check_edition.m T.d_check_edition.F.kp T.d_check_edition.b .nil (passes_call (takes_of rfl rfl rfl rfl) fun _ _ _ _ h => h) (pa_cons (pv 1) pa_nil))) (pss_cons ps_never (pss_cons ps_never (pss_cons ps_never (pss_cons ps_never (pss_cons ps_never (pss_cons ps_never (pss_cons ps_never (pss_cons ps_never (pss_cons ps_never (pss_one ps_never))))))))))), ?_⟩
    exact ⟨_, rfl, es, rfl, e2, fun h => absurd e1 (by omega), fun _ => kE⟩
theorem okl_Device_edition (T : All K mg) : FnOk P w K mg base CX0 1 T.d_Device_edition.f T.d_Device_edition.fd ["self"] (spEditionL T.k_Device) := by
  refine T.d_Device_edition.F.ok sc_Device_edition (fun vs H Q E h => ?_) (fun cdv A outer s H vs Q E hr h => ?_)
  · obtain ⟨_, _, rfl, _⟩ := h
    rfl
  · obtain ⟨a, es, rfl, D, b8, e200, k⟩ := h
    obtain ⟨dx, cA, fs, h0, h1, h2, h3, h4, h5, h6, h7⟩ := D.is
    refine ⟨_, (pss_cons 
      (ps_if (pt_cmpR op_notN (pe_fld (pv 0) rfl) pe_non (nomark _)) (pss_one 
      (ps_ret pe_non)) pss_nil) (pss_one 
      (ps_ret (pe_bytesOf rfl (by rfl) T.b_bytes (pe_slice sl_list (pe_fld (pv 0) rfl) po_none (po_some (pe_fld (pv 0) rfl))))))), ?_⟩
    refine ⟨_, rfl, a, _, dx, fs, _, rfl, h0, T.cl_Device, T.na_Device_work, h3, rfl, _, rfl, (if_neg (by decide)).mpr ?_⟩
    refine ⟨_, rfl, a, _, dx, fs, _, rfl, h0, T.cl_Device, T.na_Device_cells, h1, _, rfl, a, _, dx, fs, _, rfl, h0, T.cl_Device, T.na_Device_many, h2, _, rfl, cA, _, rfl, SqL.of h7, fun c hc => ?_⟩
    rw [cutNd, ← List.map_take, List.take_append_of_le_length (Nat.le_refl _), List.take_length]
    exact .inr ⟨c, _, rfl, SqL.of upd_same, b8, k _ (Same.new hc)⟩
theorem okx_Device_begin (T : All K mg) (O_Beyond : N_Beyond.OwnErr P K mg CB fB) : FnOk P w K mg base (L2.CX P w) 5 T.d_Device_begin.f T.d_Device_begin.fd ["self", "patch"] (spBeginL T.k_Device CB) := by
  have G_check_patch : FnOk P w K mg base CX0 3 T.d_check_patch.f T.d_check_patch.fd ["patch"] spCheckPatch := ok_check_patch T
  have G_check_reach : FnOk P w K mg base (L2.CX P w) 2 T.d_check_reach.f T.d_check_reach.fd ["patch", "edition"] (spReachL CB) := okx_check_reach T O_Beyond
  have G_Device_edition : FnOk P w K mg base CX0 1 T.d_Device_edition.f T.d_Device_edition.fd ["self"] (spEditionL T.k_Device) := okl_Device_edition T
  refine T.d_Device_begin.F.okX sc_Device_begin (fun vs H Q E h => ?_) (fun cdv A outer s H vs Q E hr h => ?_)
  · obtain ⟨_, _, _, _, _, _, rfl, _⟩ := h
    rfl
  · obtain ⟨a, v, es, rows, i, l, rfl, D, b8, e200, hP, hG, hl, kE⟩ := h
    refine ⟨_, (pss_cons 
      (ps_expr (pe_call G_check_patch (hr.mono (by decide)) rfl T.d_check_patch.m T.d_check_patch.F.kp T.d_check_patch.b .nil pass0 (pa_cons (pv 1) pa_nil))) (pss_cons 
      (ps_if (pt_val (pe_fld (pv 0) rfl)) (pss_one ps_never) pss_nil) (pss_cons 
      (ps_if (pt_cmpR op_notN (pe_fld (pv 0) rfl) pe_non (nomark _)) (pss_one ps_never) pss_nil) (pss_cons 
      (ps_set (i := 2) sc_Device_begin.nd rfl (Or.inl rfl) (pe_meth0 (pv 0) T.cl_Device T.d_Device_edition.mt G_Device_edition (hr.mono (by decide)) T.d_Device_edition.b .nil pass0)) (pss_cons 
      (ps_expr (pe_call G_check_reach (hr.mono (by decide)) rfl T.d_check_reach.m T.d_check_reach.F.kp T.d_check_reach.b .nil (passes_call (takes_of rfl rfl rfl rfl) fun _ _ _ _ h => h) (pa_cons (pv 1) (pa_cons (pv 2) pa_nil)))) (pss_cons ps_never (pss_cons ps_never (pss_cons ps_never (pss_one ps_never))))))))), ?_⟩
    refine ⟨_, rfl, v, rows, rfl, hP, hG, fun H1 s1 => ?_⟩
    obtain ⟨dx, cA, fs, h0, h1, h2, h3, h4, h5, h6, h7⟩ := (D.same s1).is
    refine ⟨_, rfl, a, _, dx, fs, _, rfl, h0, T.cl_Device, T.na_Device_asleep, h4, _, rfl, iteF ?_⟩
    refine ⟨_, rfl, a, _, dx, fs, _, rfl, h0, T.cl_Device, T.na_Device_work, h3, rfl, _, rfl, (if_neg (by decide)).mpr ?_⟩
    refine ⟨_, rfl, a, dx, fs, rfl, h0, h6, a, es, rfl, D.same s1, b8, e200, fun H2 s2 => ?_⟩
    exact ⟨_, rfl, _, rfl, v, rows, es, i, l, rfl, hP.tups (Same.tups (s1.trans s2)), hG, e200, hl, kE.same (s1.trans s2)⟩
theorem okx_begun (T : All K mg) (O_BadEdition : PlainErr K T.k_BadEdition) (O_Beyond : N_Beyond.OwnErr P K mg CB fB) : FnOk P w K mg base (L2.CX P w) 6 T.d_begun.f T.d_begun.fd ["edition", "patch"] (spBegunX T.k_BadEdition CB) := by
  have G_Device_init : FnOk P w K mg base (L2.CX P w) 2 T.d_Device_init.f T.d_Device_init.fd ["self", "edition"] (fun vs H Q E => spDevInitL T.k_Device vs H Q E ∨ spDevInitX T.k_BadEdition vs H Q E) := fn_orX (FnOk.toX (ok_Device_init T)) (okx_Device_init T O_BadEdition)
  have G_Device_begin : FnOk P w K mg base (L2.CX P w) 5 T.d_Device_begin.f T.d_Device_begin.fd ["self", "patch"] (spBeginL T.k_Device CB) := okx_Device_begin T O_Beyond
  refine T.d_begun.F.okX sc_begun (fun vs H Q E h => ?_) (fun cdv A outer s H vs Q E hr h => ?_)
  · obtain ⟨_, _, rfl, _⟩ := h
    rfl
  · obtain ⟨v, es, rfl, h⟩ := h
    refine ⟨_, (pss_cons 
      (ps_set (i := 2) sc_begun.nd rfl (Or.inl rfl) (pe_make T.mk_Device G_Device_init (hr.mono (by decide)) rfl T.m_Device T.d_Device_init.b .nil (passes_call (takes_of rfl rfl rfl rfl) fun _ _ _ _ h => h) (pa_cons (pv 0) pa_nil))) (pss_cons 
      (ps_expr (pe_meth (pv 2) T.cl_Device T.d_Device_begin.mt G_Device_begin (hr.mono (by decide)) T.d_Device_begin.b .nil (passes_call (takes_of rfl rfl rfl rfl) fun _ _ _ _ h => h) (pa_cons (pv 1) pa_nil))) (pss_one ps_never))), ?_⟩
    rcases h with ⟨e1, e2, kE⟩ | ⟨e200, b8, rows, i, l, hP, hG, hl, kE⟩
    · refine ⟨_, rfl, fun x dx nx ndx nex => .inr ⟨x, es, rfl, e1, e2, ?_⟩⟩
      exact kE.same fun b o e => by rw [upd_ne (ne_of_none e nx), upd_ne (ne_of_none e ndx)]; exact e
    · refine ⟨_, rfl, fun x dx nx ndx nex => .inl ⟨x, dx, es, rfl, ?_, b8, e200, fun H1 n1 D1 => ?_⟩⟩
      · exact upd_same
      · have s1 : Same H H1 := fun b o e => n1 b o (ne_of_none e nx) (by rw [upd_ne (ne_of_none e nx), upd_ne (ne_of_none e ndx)]; exact e)
        obtain ⟨dx1, cA, fs, h0, h1, h2, h3, h4, h5, h6, h7⟩ := D1.is
        refine ⟨rfl, _, rfl, x, dx1, fs, rfl, h0, h5, ?_⟩
        exact ⟨_, rfl, x, v, es, rows, i, l, rfl, D1, b8, e200, hP.tups (Same.tups s1), hG, hl, kE.same s1⟩
theorem okx_histories (T : All K mg) (O_BadEdition : PlainErr K T.k_BadEdition) (O_Beyond : N_Beyond.OwnErr P K mg CB fB) : FnOk P w K mg base (L2.CX P w) 7 T.d_histories.f T.d_histories.fd ["edition", "patch"] (spBegunX T.k_BadEdition CB) := by
  have G_begun : FnOk P w K mg base (L2.CX P w) 6 T.d_begun.f T.d_begun.fd ["edition", "patch"] (spBegunX T.k_BadEdition CB) := okx_begun T O_BadEdition O_Beyond
  refine T.d_histories.F.okX sc_histories (fun vs H Q E h => ?_) (fun cdv A outer s H vs Q E hr h => ?_)
  · obtain ⟨_, _, rfl, _⟩ := h
    rfl
  · obtain ⟨v, es, rfl, h⟩ := h
    refine ⟨_, (pss_cons 
      (ps_set (i := 2) sc_histories.nd rfl (Or.inl rfl) (pe_call G_begun (hr.mono (by decide)) rfl T.d_begun.m T.d_begun.F.kp T.d_begun.b .nil (passes_call (takes_of rfl rfl rfl rfl) fun _ _ _ _ h => h) (pa_cons (pv 0) (pa_cons (pv 1) pa_nil)))) (pss_cons ps_never (pss_cons ps_never (pss_one ps_never)))), ?_⟩
    exact ⟨_, rfl, _, rfl, v, es, rfl, h⟩
theorem okx_all_end (T : All K mg) (O_BadEdition : PlainErr K T.k_BadEdition) (O_Beyond : N_Beyond.OwnErr P K mg CB fB) : FnOk P w K mg base (L2.CX P w) 7 T.d_all_end.f T.d_all_end.fd ["edition", "patch", "cuts"] (spAllX T.k_BadEdition) := by
  have G_begun : FnOk P w K mg base (L2.CX P w) 6 T.d_begun.f T.d_begun.fd ["edition", "patch"] (spBegunX T.k_BadEdition CB) := okx_begun T O_BadEdition O_Beyond
  refine T.d_all_end.F.okX sc_all_end (fun vs H Q E h => ?_) (fun cdv A outer s H vs Q E hr h => ?_)
  · obtain ⟨_, _, _, rfl, _⟩ := h
    rfl
  · obtain ⟨v, u, es, rfl, e1, e2, kE⟩ := h
    refine ⟨_, (pss_cons 
      (ps_set (i := 3) sc_all_end.nd rfl (Or.inl rfl) (pe_call G_begun (hr.mono (by decide)) rfl T.d_begun.m T.d_begun.F.kp T.d_begun.b .nil (passes_call (takes_of rfl rfl rfl rfl) fun _ _ _ _ h => h) (pa_cons (pv 0) (pa_cons (pv 1) pa_nil)))) (pss_cons ps_never (pss_cons ps_never (pss_cons ps_never (pss_one ps_never))))), ?_⟩
    exact ⟨_, rfl, _, rfl, v, es, rfl, .inl ⟨e1, e2, kE⟩⟩
end
/-! ### == and != of the program's data -/
/-- the same data, of nesting below n -/
def Sd (K : PySem.W.Frag) (H : Hp) : Nat → V → V → Prop
  | 0, _, _ => False
  | n + 1, x, y => (x = y ∧ flatB x = true) ∨ (∃ a, x = .ref a ∧ y = .ref a) ∨ ∃ a b xs ys, x = .ref a ∧ y = .ref b ∧ ((SqT K H a xs ∧ SqT K H b ys) ∨ (SqL K H a xs ∧ SqL K H b ys)) ∧ Paired (Sd K H n) xs ys
theorem sd_items {A : Around} {s : Shared} {F : V → V → Prop} (ih : ∀ x y v u, F x y → RelV x v → RelV y u → SeqAt.EqAt A s v u true) : ∀ {xs ys : List V}, Paired F xs ys →
    ∀ {us ws : List Value}, Vals xs us → Vals ys ws → ∀ j (h1 : j < us.length) (h2 : j < ws.length), SeqAt.EqAt A s us[j] ws[j] true
  | _, _, .nil, _, _, .nil, _, j, h1, _ => absurd h1 (Nat.not_lt_zero j)
  | _, _, .cons h _, _, _, .cons a _, .cons b _, 0, _, _ => ih _ _ _ _ h a b
  | _, _, .cons _ t, _, _, .cons _ a, .cons _ b, j + 1, h1, h2 => sd_items ih t a b j (Nat.lt_of_succ_lt_succ h1) (Nat.lt_of_succ_lt_succ h2)
section
variable {X : Cx} {pins : List (Addr × Obj)} {σ : L2.St} {H : Hp} {s : Shared}
theorem all_true (n : Nat) : ((List.range n).all fun _ => true) = true := List.all_eq_true.mpr fun _ _ => rfl
theorem sd_run (I : Inv X pins σ H s) : ∀ (n : Nat) (A : Around), A.units + n < cLine → ∀ (x y : V) (v u : Value), Sd X.K H n x y → RelV x v → RelV y u → SeqAt.EqAt A s v u true
  | 0, _, _, _, _, _, _, h, _, _ => h.elim
  | n + 1, A, hu, x, y, v, u, h, rx, ry => by
    rcases h with ⟨rfl, f⟩ | ⟨a, rfl, rfl⟩ | ⟨a, b, xs, ys, rfl, rfl, h, hp⟩
    · exact eqAt_same rx ry f
    · cases (show v = Value.ref a from rx)
      cases (show u = Value.ref a from ry)
      exact SeqAt.EqAt.same _
    · cases (show v = Value.ref a from rx)
      cases (show u = Value.ref b from ry)
      by_cases e : a = b
      · subst e; exact SeqAt.EqAt.same _
      · have rc : SeqAt.RcAt A s (.ref a) (.ref b) true := by
          rcases h with ⟨ha, hb⟩ | ⟨ha, hb⟩
          · obtain ⟨us, r1, p1, _⟩ := I.tuple ha
            obtain ⟨ws, r2, p2, _⟩ := I.tuple hb
            have hsz : us.toArray.size = ws.toArray.size := by rw [List.size_toArray, List.size_toArray, ← r1.length, ← r2.length]; exact Paired.length hp
            have z := SeqAt.RcAt.tuples (A := A) (e := fun _ => true) (show s.heap.IsTuple a us.toArray from p1) (show s.heap.IsTuple b ws.toArray from p2) (by omega) (fun j h1 h2 => by
              have k := sd_items (fun x y v u h rx ry => sd_run I n A.in1 (by show A.units + 1 + n < cLine; omega) x y v u h rx ry) hp r1 r2 j (by simpa using h1) (by simpa using h2)
              simpa using k)
            rw [all_true, hsz] at z
            simpa using z
          · obtain ⟨us, r1, p1, _⟩ := I.list ha
            obtain ⟨ws, r2, p2, _⟩ := I.list hb
            have hsz : us.toArray.size = ws.toArray.size := by rw [List.size_toArray, List.size_toArray, ← r1.length, ← r2.length]; exact Paired.length hp
            have z := SeqAt.RcAt.lists (A := A) (e := fun _ => true) p1.isList p2.isList hsz (by omega) (fun j h1 h2 => by
              have k := sd_items (fun x y v u h rx ry => sd_run I n A.in1 (by show A.units + 1 + n < cLine; omega) x y v u h rx ry) hp r1 r2 j (by simpa using h1) (by simpa using h2)
              simpa using k)
            rw [all_true] at z
            exact z
        intro prog w E Q hq
        unfold eqBool
        refine wpAny_holding ?_
        refine wpAny_ite_split (fun hab => absurd (by have := eq_of_beq hab; injection this) e) (fun _ => ?_)
        exact wpAny_bind (rc prog w E _ (wpAny_truthy_bool hq))
end
/-- a != b of two tuples, or two lists, that are the same -/
def rNeS (K : PySem.W.Frag) : R2 := fun x y H Q => ∃ a b xs ys, x = .ref a ∧ y = .ref b ∧ ((SqT K H a xs ∧ SqT K H b ys) ∨ (SqL K H a xs ∧ SqL K H b ys)) ∧ Paired (Sd K H 60) xs ys ∧ Q (.bl false) H
theorem op_neS {X : Cx} (hu : X.A.units + 64 < cLine) : OpR X (compareOp .NotEq) (rNeS X.K) := by
  intro pins s σ H x y v u Q I rx ry h
  obtain ⟨a, b, xs, ys, rfl, rfl, h, hp, q⟩ := h
  cases (show v = Value.ref a from rx)
  cases (show u = Value.ref b from ry)
  have fin : EP X pins σ Q (.bool false) s := ⟨.bl false, H, I, rfl, q⟩
  have items : ∀ {us ws : List Value}, Vals xs us → Vals ys ws → ∀ j (h1 : j < us.toArray.size) (h2 : j < ws.toArray.size), SeqAt.EqAt X.A.in1 s us.toArray[j] ws.toArray[j] true := fun {us ws} r1 r2 j h1 h2 => by
    have k := sd_items (fun x y v u h rx ry => sd_run I 60 X.A.in1 (by show X.A.units + 1 + 60 < cLine; omega) x y v u h rx ry) hp r1 r2 j (by simpa using h1) (by simpa using h2)
    simpa using k
  rcases h with ⟨ha, hb⟩ | ⟨ha, hb⟩
  · obtain ⟨us, r1, p1, _⟩ := I.tuple ha
    obtain ⟨ws, r2, p2, _⟩ := I.tuple hb
    have hsz : us.toArray.size = ws.toArray.size := by rw [List.size_toArray, List.size_toArray, ← r1.length, ← r2.length]; exact Paired.length hp
    have z := SeqAt.RcNeAt.tuples (A := X.A) (e := fun _ => true) (show s.heap.IsTuple a us.toArray from p1) (show s.heap.IsTuple b ws.toArray from p2) (by omega) (items r1 r2)
    rw [all_true, hsz] at z
    exact z X.prog X.w _ _ (by simpa using fin)
  · obtain ⟨us, r1, p1, _⟩ := I.list ha
    obtain ⟨ws, r2, p2, _⟩ := I.list hb
    have hsz : us.toArray.size = ws.toArray.size := by rw [List.size_toArray, List.size_toArray, ← r1.length, ← r2.length]; exact Paired.length hp
    have z := SeqAt.RcNeAt.lists (A := X.A) (e := fun _ => true) p1.isList p2.isList hsz (by omega) (items r1 r2)
    rw [all_true] at z
    exact z X.prog X.w _ _ fin
section
variable {K : PySem.W.Frag} {H : Hp}
theorem Sd.flat {n : Nat} : ∀ {xs : List V}, (∀ x ∈ xs, flatB x = true) → Paired (Sd K H (n + 1)) xs xs
  | [], _ => .nil
  | x :: xs, h => .cons (.inl ⟨rfl, h x List.mem_cons_self⟩) (Sd.flat fun y hy => h y (List.mem_cons_of_mem _ hy))
theorem Sd.cell {n : Nat} {v u : V} {c : Cell} (h : CellV H v c) (h' : CellV H u c) : Sd K H (n + 2) v u := by
  obtain ⟨p, rfl, hp⟩ := h
  obtain ⟨q, rfl, hq⟩ := h'
  refine .inr (.inr ⟨p, q, _, _, rfl, rfl, .inl ⟨SqT.of hp, SqT.of hq⟩, Sd.flat ?_⟩)
  cases c <;> (intro x hx; simp [Cell.tup] at hx; rcases hx with rfl | rfl <;> rfl)
theorem Sd.piece {n : Nat} {v u : V} {r : Row} (h : PieceV H v r) (h' : PieceV H u r) : Sd K H (n + 2) v u := by
  obtain ⟨p, rfl, hp⟩ := h
  obtain ⟨q, rfl, hq⟩ := h'
  refine .inr (.inr ⟨p, q, _, _, rfl, rfl, .inl ⟨SqT.of hp, SqT.of hq⟩, Sd.flat ?_⟩)
  cases r with
  | copy b n => intro x hx; simp [Row.tup] at hx; rcases hx with rfl | rfl | rfl <;> rfl
  | run b n => intro x hx; simp [Row.tup] at hx; rcases hx with rfl | rfl | rfl <;> rfl
  | bring bs => intro x hx; simp [Row.tup] at hx; rcases hx with rfl | rfl <;> rfl
theorem Sd.pairs {α : Type} {F : V → α → Prop} {n : Nat} (f : ∀ v u c, F v c → F u c → Sd K H n v u) : ∀ {vs us : List V} {cs : List α}, Paired F vs cs → Paired F us cs → Paired (Sd K H n) vs us
  | _, _, _, .nil, .nil => .nil
  | _, _, _, .cons a r, .cons b t => .cons (f _ _ _ a b) (Sd.pairs f r t)
end
theorem op_orD {X : Cx} {f : Value → Value → Sem Value} {r1 r2 : R2} (h1 : OpR X f r1) (h2 : OpR X f r2) : OpR X f (fun x y H Q => r1 x y H Q ∨ r2 x y H Q) := by
  intro pins s σ H x y v u Q I rx ry h
  rcases h with h | h
  · exact h1 pins s σ H x y v u Q I rx ry h
  · exact h2 pins s σ H x y v u Q I rx ry h
/-! ### a lambda of one parameter with a default, that captures names of its def, handed to a def -/
section
open LamX PySem.W
structure LamSD (sc scope : Scope) (la : Str) : Prop where
  kind : scope.kind = .function
  co : scope.isCoroutine = false
  gen : scope.isGenerator = false
  own : ∀ y ∈ scope.names, y.2 ≠ .cell ∧ (y.2 = .local → y.1 = la)
  free : ∀ y ∈ scope.names, y.2 = .free → sc.names.lookup y.1 = some .cell ∨ sc.names.lookup y.1 = some .free
  par : scope.names.lookup la = some .local
def lamSDB (sc scope : Scope) (la : Str) : Bool :=
  decide (scope.kind = .function) && !scope.isCoroutine && !scope.isGenerator && (scope.names.all fun y => !decide (y.2 = .cell) && (!decide (y.2 = .local) || decide (y.1 = la)) && (!decide (y.2 = .free) || decide (sc.names.lookup y.1 = some .cell) || decide (sc.names.lookup y.1 = some .free))) && decide (scope.names.lookup la = some .local)
theorem lamSD_by {sc scope : Scope} {la : Str} (h : lamSDB sc scope la = true) : LamSD sc scope la := by
  unfold lamSDB at h
  simp only [Bool.and_eq_true, Bool.or_eq_true, Bool.not_eq_true', decide_eq_true_eq, decide_eq_false_iff_not, List.all_eq_true] at h
  obtain ⟨⟨⟨⟨h1, h2⟩, h3⟩, h4⟩, h5⟩ := h
  refine ⟨h1, h2, h3, fun y hy => ⟨(h4 y hy).1.1, fun e => ?_⟩, fun y hy e => ?_, h5⟩
  · rcases (h4 y hy).1.2 with z | z
    · exact absurd e z
    · exact z
  · rcases (h4 y hy).2 with (z | z) | z
    · exact absurd e z
    · exact .inl z
    · exact .inr z
theorem LamSD.has {X : Cx} {scope : Scope} {la : Str} (L : LamSD X.env.scope scope la) (ok : X.Ok) : ∀ y ∈ scope.names, y.2 = .free → ∃ c, X.env.cells.lookup y.1 = some c := fun y hy e => by
  rcases L.free y hy e with k | k
  · exact ok.has _ (.inl k)
  · exact ok.has _ (.inr k)
variable {X : Cx} {pins : List (Addr × Obj)} {σ : L2.St} {H HZ : Hp} {s s1 : Shared}
theorem lam_startD {A : Around} {outer : List Env} {E : XK} {scope : Scope} {la : Str} {f c' : Addr} {h₁ : Heap} {tk : Nat} {bi : List (Str × Value)} (I : Inv X pins σ H s) (L : LamSD X.env.scope scope la) (hla : la ∉ X.N) (e0 : Env0 X.prog X.w X.K X.mg X.base A outer s1 HZ) (hd : A.handled = none)
    (un : Un (frs X.stack) [] H HZ s.heap s1.heap) (hns : h₁.Ns s1.heap.objs.size fun y => bi.reverse.lookup y) (kp : ∀ b o, s1.heap.get? b = some o → h₁.get? b = some o) :
    Inv (lamCx X A outer s1 HZ E scope f c') [] σ HZ { s1 with heap := h₁, toks := tk } := by
  have hfree := L.has I.ok
  have cm : ∀ {y c}, (cloFrom X.env.cells scope.names []).lookup y = some c → X.env.cells.lookup y = some c := fun {y c} e => by
    rcases cloFrom_mem (PySem.mem_of_lookup e) with hm | ⟨h1, h2⟩
    · cases hm
    · obtain ⟨c1, hc⟩ := hfree _ h1 rfl
      have hc : X.env.cells.lookup y = some c1 := hc
      have e2 : c = c1 := by
        rw [h2, hc] <;> rfl
      rw [e2]
      exact hc
  have look : ∀ {y}, scope.names.lookup y = some .free → ∃ c, (cloFrom X.env.cells scope.names []).lookup y = some c := fun {y} hl => by
    have hy : (y, NameKind.free) ∈ scope.names := PySem.mem_of_lookup hl
    exact mem_lookup (cloFrom_has (cells := X.env.cells) (acc := []) hy)
  have cellK : ∀ {c : Addr} {v : Option Value}, H c = none → s.heap.IsCell c v → h₁.IsCell c v := fun {c v} n ⟨o, ho, hd⟩ => by
    obtain ⟨sl, q⟩ := un.any ho n (by simp)
    exact ⟨_, kp _ _ q, hd⟩
  have noA : ∀ b : Addr, b ∉ (lamCx X A outer s1 HZ E scope f c').ex := fun b z => absurd (show b ∈ ([] : List Addr) from z) (by simp)
  refine ⟨⟨e0.mod, L.kind, rfl, rfl, Nat.le_refl _, fun y z c e1 e2 => I.ok.inj y z c (cm e1) (cm e2), fun y hy => ?_, fun y c z _ => ?_, fun _ => hd, Around.frames_deeper e0.frames, .inr ⟨rfl, rfl⟩, fun b z => absurd z (noA b), e0.bs, e0.bsz, fun b _ _ => noA b,
      fun b z => absurd z (noA b), e0.funs, e0.frf⟩,
    rfl, e0.bare, Un.kept kp, ⟨_, hns, fun i y v e1 e2 e3 => ?_⟩, fun y c e => ?_, e0.hok.fresh (Nat.le_refl _), fun y c e => ?_, fun q hq => absurd (show q ∈ ([] : List (Addr × Obj)) ++ [] from hq) (by simp), e0.hok.kept kp, I.len⟩
  · have hy : scope.names.lookup y = some .cell ∨ scope.names.lookup y = some .free := hy
    rcases hy with hy | hy
    · exact absurd rfl (L.own _ (PySem.mem_of_lookup hy)).1
    · exact look hy
  · have z : false = true := z
    cases z
  · have e3 : Vis scope y := e3
    have e1 : X.N[i]? = some y := e1
    rcases e3 with k | k | k
    · have z := (L.own _ (PySem.mem_of_lookup k)).2 rfl
      have z : y = la := z
      rw [z] at e1
      exact absurd (List.mem_of_getElem? e1) hla
    · exact absurd rfl (L.own _ (PySem.mem_of_lookup k)).1
    · obtain ⟨m, hn, hl⟩ := I.loc
      have hvis : Vis X.env.scope y := (L.free _ (PySem.mem_of_lookup k) rfl).elim (fun k => .inr (.inl k)) (fun k => .inr (.inr k))
      obtain ⟨w', r, q⟩ := hl i y v e1 e2 hvis
      obtain ⟨c2, h2⟩ := look k
      refine ⟨w', r, .inr ⟨.inr k, c2, h2, ?_⟩⟩
      have c1 := cm h2
      rcases q with ⟨k', _⟩ | ⟨_, c3, e', z⟩
      · have k' : X.env.scope.names.lookup y = some .local := k'
        rcases L.free _ (PySem.mem_of_lookup k) rfl with k2 | k2 <;> rw [show X.env.scope.names.lookup y = _ from k2] at k' <;> cases k'
      · rw [c1] at e'
        cases e'
        exact cellK (I.freeC y _ c1) z
  · obtain ⟨w', z⟩ := I.cell y c (cm e)
    exact ⟨w', cellK (I.freeC y c (cm e)) z⟩
  · obtain ⟨v, o, ho, hd⟩ := I.cell y c (cm e)
    exact un.free c o ho (I.freeC y c (cm e)) (by simp)
theorem lamdc_make {T : List (Addr × Str)} {c P : Addr} {params : Arguments} {body : Expr} {scope : Scope} {pos p0 : Pos} {k0 : Nat} {E : Value → Shared → Prop} {Q : Value → Shared → Prop} {i : Int} (I : Inv X pins σ H s) (TB : TabB X.base X.mg c P) (hcode : X.env.code = .ref c)
    (hm : (P, X.env.qual ++ "<lambda>") ∈ T) (hu : ∀ p ∈ T, p.1 = P → p.2 = X.env.qual ++ "<lambda>") (hT : Tabs T H) (hdef : params.defaults = [.Constant (.int i) k0 p0]) (hk0 : params.kw_defaults = []) (hfree : ∀ y ∈ scope.names, y.2 = .free → ∃ c, X.env.cells.lookup y.1 = some c)
    (h : ∀ (f c' T0 : Addr) (tk0 : Tok) (doc pm ctv : Value) (H1 : Hp) (s' : Shared), Inv X pins σ H1 s' → ExtN H H1 → Tabs T H1 →
      s'.heap.get? f = some (kdv_obj "<lambda>" (X.env.qual ++ "<lambda>") params (.expr body) scope (cloFrom X.env.cells scope.names []) (.ref T0) doc pm c' ctv) → H1 f = none → f ∉ frs X.stack →
      s'.heap.get? T0 = some (kdv_tup [.int i tk0]) → H1 T0 = none → T0 ∉ frs X.stack → H1 c' = some (CodeO c' (X.env.qual ++ "<lambda>")) → Q (.ref f) s') :
    wpAny (model X.prog X.w) X.A (eval (.Lambda params body scope pos) X.env) Q E s := by
  refine kdv_lam (by rw [hdef]; rfl) hk0 ?_
  rw [hdef]
  refine kdv_all1 (wpAny_Constant_int (kdv_all0 ?_))
  rw [makeFunction_eq]
  simp only [List.zip_nil_right, List.filterMap_nil, List.isEmpty_nil, List.isEmpty_cons, if_true, Bool.false_eq_true, if_false, pure_bind]
  refine wpAny_bind (wpAny_newTextTuple ?_)
  have hcl := closure_ok (env := X.env) hfree
  obtain ⟨ps, hP, ht, ha⟩ := hT _ hm
  have I2 : Inv X pins σ H { s with heap := s.heap.push (kdv_tup [.int i s.toks]), toks := s.toks + 1 } := I.kept fun b o e => Heap.get?_push_of_some _ e
  have bP := TB.bm.keeps I2.bk
  have hP' := I2.hok P _ hP
  have hT0 : (s.heap.push (kdv_tup [.int i s.toks])).get? s.heap.objs.size = some (kdv_tup [.int i s.toks]) := Heap.get?_push_size _ rfl
  have nT0 : H s.heap.objs.size = none := I.hok.fresh (Nat.le_refl _)
  have nofr : ∀ f, s.heap.objs.size ≤ f → f ∉ frs X.stack := fun f hf z => by
    rcases List.mem_cons.mp (I.stkSub _ z) with e | e
    · have h1 := I.lt
      rw [← e] at h1
      exact Nat.lt_irrefl _ (Nat.lt_of_lt_of_le h1 hf)
    · exact I.nofs hf e
  have up1 : s.heap.objs.size ≤ (s.heap.push (kdv_tup [.int i s.toks])).objs.size := by rw [Heap.size_push]; omega
  cases hc : codeAmong pos ps.toList with
  | none =>
    refine kdv_makeTail (mg := X.mg) (c := c) (P := P) (ps := ps) hcl I2.ok.glob (I2.mod.glob.keeps I2.bk) hcode (TB.code.keeps I2.bk) hP' ht hc TB.gP bP fun c' ctv doc h' tk hx hge hlt hrec htb => ?_
    obtain ⟨c2, oc, vs, t, e2, hoc, hd, hv⟩ := hrec
    cases e2
    have hsz : s.heap.objs.size ≤ h'.objs.size := Nat.le_trans up1 (Nat.le_trans hge (Nat.le_of_lt hlt))
    have nC : H c' = none := I.hok.fresh (Nat.le_trans up1 hge)
    have nT0P : s.heap.objs.size ≠ P := fun z => by rw [z, hP] at nT0; cases nT0
    have nT0c : s.heap.objs.size ≠ c' := fun z => by
      have z2 : (s.heap.push (kdv_tup [.int i s.toks])).objs.size ≤ c' := hge
      rw [Heap.size_push] at z2
      omega
    have I1 := inv_table (t' := tk) (more := #[rawInt pos.line, rawInt pos.col, .ref c']) (h' := h'.push (kdv_obj "<lambda>" (X.env.qual ++ "<lambda>") params (.expr body) scope (cloFrom X.env.cells scope.names []) (.ref s.heap.objs.size) doc ((X.mg "__name__").getD .none) c' ctv)) I2 hP
      (fun b o hb e => Heap.get?_push_of_some _ (hx b o hb e)) (Heap.get?_push_of_some _ htb) hge ⟨oc, vs, t, Heap.get?_push_of_some _ hoc, hd, hv⟩
    have hE : ExtN H (upd (upd H P (.tbl (ps ++ #[rawInt pos.line, rawInt pos.col, .ref c']))) c' (CodeO c' (X.env.qual ++ "<lambda>"))) := fun b o e n => by
      rw [upd_ne (ne_of_none e nC), upd_ne (fun z => n ps (Option.some.inj (e.symm.trans (by rw [z]; exact hP))))]
      exact e
    have eL : (ps ++ #[rawInt pos.line, rawInt pos.col, .ref c']).toList = ps.toList ++ [rawInt pos.line, rawInt pos.col, .ref c'] := by simp
    refine h h'.objs.size c' s.heap.objs.size s.toks doc ((X.mg "__name__").getD .none) ctv _ _ I1 hE (fun p hp => ?_) (Heap.get?_push_size _ rfl) ?_ (nofr _ hsz) (Heap.get?_push_of_some _ (hx _ _ nT0P hT0)) ?_ (nofr _ (Nat.le_refl _)) upd_same
    · by_cases hb : p.1 = P
      · rw [hu p hp hb, hb]
        refine ⟨_, by rw [upd_ne (ne_of_none hP nC), upd_same], by rw [eL]; exact PySem.TriplesOk_snoc _ _ _ _ ht, fun p' cv hcv => ?_⟩
        rw [eL] at hcv
        rcases among_app _ ht hcv with z | z
        · obtain ⟨c0, e1, e2⟩ := ha p' cv z
          exact ⟨c0, e1, hE _ _ e2 codeO_ne⟩
        · exact ⟨c', z, upd_same⟩
      · obtain ⟨ps', a1, a2, a3⟩ := hT p hp
        refine ⟨ps', by rw [upd_ne (ne_of_none a1 nC), upd_ne hb]; exact a1, a2, fun p' cv hcv => ?_⟩
        obtain ⟨c0, e1, e2⟩ := a3 p' cv hcv
        exact ⟨c0, e1, hE _ _ e2 codeO_ne⟩
    · have n1 : h'.objs.size ≠ c' := Nat.ne_of_gt hlt
      have n2 : h'.objs.size ≠ P := Nat.ne_of_gt (Nat.lt_of_lt_of_le (Heap.lt_size hP') (Nat.le_trans hge (Nat.le_of_lt hlt)))
      rw [upd_ne n1, upd_ne n2]
      exact I.hok.fresh hsz
    · rw [upd_ne nT0c, upd_ne nT0P]
      exact nT0
  | some cv =>
    obtain ⟨c', e, hco⟩ := ha pos cv hc
    subst e
    refine kdv_makeTailHit (mg := X.mg) (c := c) (P := P) (ps := ps) hcl I2.ok.glob (I2.mod.glob.keeps I2.bk) hcode (TB.code.keeps I2.bk) hP' ht hc bP fun ctv doc h' tk hx hsz => ?_
    have I1 : Inv X pins σ H { s with heap := h'.push (kdv_obj "<lambda>" (X.env.qual ++ "<lambda>") params (.expr body) scope (cloFrom X.env.cells scope.names []) (.ref s.heap.objs.size) doc ((X.mg "__name__").getD .none) c' ctv), toks := tk } := I2.kept fun b o e => Heap.get?_push_of_some _ (hx b o e)
    exact h h'.objs.size c' s.heap.objs.size s.toks doc ((X.mg "__name__").getD .none) ctv H _ I1 (ExtN.refl H) hT (Heap.get?_push_size _ rfl) (I.hok.fresh (Nat.le_trans up1 hsz)) (nofr _ (Nat.le_trans up1 hsz)) (Heap.get?_push_of_some _ (hx _ _ hT0)) nT0 (nofr _ (Nat.le_refl _)) hco
/-- x(), in the def that got the lambda -/
theorem pe_actdc {CXg : CXT} {Eg : XK} {Ng : List Str} {qg : Str} {sg : Scope} {g f c' T0 : Addr} {cdg doc pm ctv : Value} {params : Arguments} {body : Expr} {scope : Scope} {k j : Nat} {a la : Str} {pn : List (Addr × Obj)} {xe : Value → Shared → Prop} {W : WX} {E : XK} {tb : TE} {p1 p2 : Pos} {i : Int} {tk0 : Tok}
    (I : Inv X pins σ H s) (L : LamSD X.env.scope scope la) (hla : la ∉ X.N) (hf : s.heap.get? f = some (kdv_obj "<lambda>" (X.env.qual ++ "<lambda>") params (.expr body) scope (cloFrom X.env.cells scope.names []) (.ref T0) doc pm c' ctv)) (hfn : H f = none) (hfr : f ∉ frs X.stack)
    (hT : s.heap.get? T0 = some (kdv_tup [.int i tk0])) (hTn : H T0 = none) (hTr : T0 ∉ frs X.stack)
    (hbind : ∀ (s1 : Shared), s1.heap.get? T0 = some (kdv_tup [.int i tk0]) → BindsTo s1 (kdv_fn "<lambda>" (X.env.qual ++ "<lambda>") params (.expr body) scope (cloFrom X.env.cells scope.names []) (.ref T0) doc pm (.ref c') ctv) ⟨[], []⟩ [(la, .int i tk0)])
    (tk : Takes ((cxOf CXg X.prog X.w X.K X.mg X.base Ng qg sg g cdg X.A X.stack s H Eg).tr pn xe) W) (hW : ∀ cls d σ' H', E cls d H' → W cls d σ' H') (hr : Room (k + 1) (X.A.deeper (envOfC qg sg s.heap.objs.size g cdg)))
    (hbody : ∀ (A : Around) (outer : List Env) (s : Shared) (H : Hp), Room k (A.deeper (lamEnv X scope s.heap.objs.size f c')) → PE (lamCx X A outer s H E scope f c') body tb)
    (hN : Ng[j]? = some a) (hv : Vis sg a) (hd : (a == ("__debug__" : Str)) = false := by decide) (hcd : (a == ("__classdict__" : Str)) = false := by decide) :
    PE ((cxOf CXg X.prog X.w X.K X.mg X.base Ng qg sg g cdg X.A X.stack s H Eg).tr pn xe) (.Call (.Name a p1) [] [] p2)
      (fun σZ HZ Q => σZ[j]? = some (some (.ref f)) ∧ HZ c' = some (CodeO c' (X.env.qual ++ "<lambda>")) ∧ tb σ HZ Q) := by
  refine ⟨fun pinsZ sZ σZ HZ Q IZ h => ?_⟩
  obtain ⟨hs, hc, ht⟩ := h
  refine wpAny_Call_Name_kw (thn ((pe_var (pos := p1) (i := j) hN hv hd hcd).run pinsZ sZ σZ HZ (fun v H1 => v = .ref f ∧ H1 = HZ) IZ ⟨.ref f, hs, rfl, rfl⟩) fun u s1 ⟨v, H1, I1, r1, q1⟩ => ?_)
  obtain ⟨ev, eH⟩ := q1
  subst ev
  rw [eH] at I1
  obtain rfl : u = Value.ref f := r1
  have of1 := I1.base.keep f _ hf hfn hfr (fun z => nomatch (show f ∈ ([] : List Addr) from z))
  have oT1 := I1.base.keep T0 _ hT hTn hTr (fun z => nomatch (show T0 ∈ ([] : List Addr) from z))
  refine PySem.W.callWith_F0 ⟨_, _, _, _, of1⟩ ?_
  have un : Un (frs X.stack) [] H HZ s.heap s1.heap := I1.base
  obtain ⟨⟨oc, vs, t, hoc, hdc, hvc⟩, _, _⟩ := I1.hok c' _ hc
  have rc : codeAny (model X.prog X.w) (X.A.deeper (envOfC qg sg s.heap.objs.size g cdg)) (.call (.ref f) ⟨[], []⟩) (CR (L2.CX X.prog X.w) (envOfC qg sg s.heap.objs.size g cdg :: X.stack) X.prog X.w HZ s1 Q E) s1 := by
    refine PySem.W.kla_callFunE hr.depth of1 rfl L.co L.gen rfl ⟨c', oc, vs, t, rfl, hoc, hdc, hvc⟩ ?_
    refine hbind s1 oT1 _ _ _ _ ?_
    refine wpAny_newFunctionEnv (fun y hy => (L.own y hy).1) (fun y hy => by rw [List.mem_singleton.mp hy]; exact L.par) (fun h₁ hns hsb => ⟨I1.nolimit.fresh _ hsb, ?_⟩) L.kind
    show codeAny _ _ (.expr body (lamEnv X scope s1.heap.objs.size f c')) _ _
    have kp : ∀ b o, s1.heap.get? b = some o → h₁.get? b = some o := fun b o e => hsb.extBut b o (Nat.ne_of_lt (Heap.lt_size e)) (Heap.get?_push_of_some _ e)
    have J : Inv (lamCx X (X.A.deeper (envOfC qg sg s.heap.objs.size g cdg)) (envOfC qg sg s.heap.objs.size g cdg :: X.stack) s1 HZ E scope f c') [] σ HZ { s1 with heap := h₁, toks := s1.toks + ([(la, Value.int i tk0)] : List (Str × Value)).length } :=
      lam_startD I L hla I1.env0 hr.hd un hns kp
    refine PySem.W.kla_codeExpr (wpAny_mono ((hbody _ _ s1 HZ (hr.deeper _)).run [] _ _ HZ Q J ht) (fun v s' hq => ?_) fun e s' hq => hq)
    obtain ⟨w', H', J', rv, q⟩ := hq
    exact ⟨w', H', J'.os, J'.bare, J'.base, J'.hok, rv, q⟩
  have hx : Passes (L2.CX X.prog X.w) ((cxOf CXg X.prog X.w X.K X.mg X.base Ng qg sg g cdg X.A X.stack s H Eg).tr pn xe) E := passes_call tk hW
  refine wpAny_call (codeAny_mono rc fun r s' hq => ?_)
  cases r with
  | error e => exact hx pinsZ σZ HZ s1 e s' I1 hq
  | ok fl =>
    cases fl with
    | ret u => exact I1.after hq
    | next => exact False.elim hq
    | brk => exact False.elim hq
    | cont => exact False.elim hq
theorem pe_lamcallDC {T : List (Addr × Str)} {TT : (XK → Hp → VK → Prop) → Hp → VK → Prop} {x a la : Str} {g c P : Addr} {k : Nat} {pg : Arguments} {bg : List Stmt} {sg : Scope} {dV kV doc pm cdv ct oc : Value} {an od : Option Addr} {osl : Array (Option Value)} {Ng : List Str}
    {params : Arguments} {body : Expr} {scope : Scope} {t : XK → TE} {p lpos pos p0 : Pos} {k0 : Nat} {i : Int} (hg : Gl X x) (hm : X.mg x = some (.ref g)) (hk : keepIn X.K (.ref g) = true)
    (lk : X.K.lookup g = some ⟨oc, od, .func (fnOf x x pg bg sg dV kV doc pm an cdv ct), osl⟩) (hcg : codeIn X.K cdv x = true) (hb : L2.Binds X.K (fnOf x x pg bg sg dV kV doc pm an cdv ct) [a] []) (Sg : FnScope Ng [a] sg) (hNg : Ng[0]? = some a) (hva : Vis sg a)
    (hG : GivesTo X Ng x sg g cdv bg a (X.env.qual ++ "<lambda>") TT)
    (TB : TabB X.base X.mg c P) (hcode : X.env.code = .ref c) (hmT : (P, X.env.qual ++ "<lambda>") ∈ T) (hu : ∀ p ∈ T, p.1 = P → p.2 = X.env.qual ++ "<lambda>") (hr : Room (k + 2) X.A) (L : LamSD X.env.scope scope la) (hla : la ∉ X.N) (hdef : params.defaults = [.Constant (.int i) k0 p0]) (hk0 : params.kw_defaults = [])
    (hbind : ∀ (ql : Str) (clos : List (Str × Addr)) (T0 : Addr) (doc pm cv ctv : Value) (tk0 : Tok) (s1 : Shared), s1.heap.get? T0 = some (kdv_tup [.int i tk0]) → BindsTo s1 (kdv_fn "<lambda>" ql params (.expr body) scope clos (.ref T0) doc pm cv ctv) ⟨[], []⟩ [(la, .int i tk0)])
    (hbody : ∀ (A : Around) (outer : List Env) (s : Shared) (H : Hp) (E : XK) (f c' : Addr), Room k (A.deeper (lamEnv X scope s.heap.objs.size f c')) → PE (lamCx X A outer s H E scope f c') body (t E))
    (hdb : (x == ("__debug__" : Str)) = false := by decide) (hd : (a == ("__debug__" : Str)) = false := by decide) (hcd : (a == ("__classdict__" : Str)) = false := by decide) :
    PE X (.Call (.Name x p) [.Lambda params body scope lpos] [] pos) (tLam T TT t) := by
  refine ⟨fun pins s σ H Q I h => ?_⟩
  obtain ⟨hT, h⟩ := h
  refine wpAny_Call_Name_kw (ld_glob I hg hm ?_ hdb)
  refine callWith_K (h₀ := X.base) I.ok.mod.kin hk ?_ (by rfl) (by rfl)
  show wpAny _ _ (spliced ((false, eval (.Lambda params body scope lpos) X.env) :: backTo pos (starEach [] X.env))) _ _ s
  refine Calls.spliced_cons (lamdc_make I TB hcode hmT hu hT hdef hk0 (L.has I.ok) fun f c' T0 tk0 doc' pm' ctv H1 s' I1 eN T1 hf hfn hfr hT0 nT0 rT0 hco => ?_)
  refine Calls.spliced_nil ⟨I1.kIn, ?_⟩
  have rc : codeAny (model X.prog X.w) X.A (.call (.ref g) ⟨[.ref f], []⟩) (CR C8.CX0 X.stack X.prog X.w H1 s' Q C8.E0) s' := by
    refine run_ofS (N := Ng) (ps := [a]) (us := [.ref f]) (vs := [.ref f]) lk hcg Sg hr I1.env0 (hb s' [.ref f] I1.kIn rfl) (.cons rfl .nil) rfl fun hr' => ?_
    obtain ⟨t', ht', hq'⟩ := hG f c' s' H1 Q (fun E H' Q' => t E σ H' Q') (fun W pn xe E p1 p2 tk hW => pe_actdc (j := 0) I1 L hla hf hfn hfr hT0 nT0 rT0 (fun s1 h1 => hbind _ _ _ _ _ _ _ _ _ h1) tk hW hr' (fun A outer s H hr2 => hbody A outer s H E f c' hr2) hNg hva hd hcd) hco (h H1 eN T1)
    exact ⟨t', ht'.nox, hq'⟩
  refine wpAny_call (codeAny_mono rc fun r s2 hq => ?_)
  cases r with
  | error e => exact (show False from hq).elim
  | ok fl =>
    cases fl with
    | ret u => exact I1.after hq
    | next => exact False.elim hq
    | brk => exact False.elim hq
    | cont => exact False.elim hq
end
set_option pp.maxSteps 400
def spPickV (K : PySem.W.Frag) : Sp := fun vs H Q _ => ∃ (a : Addr) (ns : List Int) (d f : Addr) (xs : List V), vs = [.ref d, .ref f] ∧ Dice K a ns H d ∧ f ≠ d ∧ H f = some (.lst xs) ∧ 0 < xs.length ∧ xs.length ≤ 1000 ∧ ∀ H' x, But d H H' → Dice K a ns H' d → x ∈ xs → Q x H'
/-- a list that grows by tuples of one kind -/
def Pl (H5 : Hp) (D : Addr) (ts : List V) (i : Nat) (H : Hp) : Prop := Same H5 H ∧ ∃ acc, H D = some (.lst acc) ∧ acc.length = i ∧ ∀ v ∈ acc, ∃ p, v = .ref p ∧ H p = some (.tup ts)
theorem Pl.zero {H5 : Hp} {D : Addr} {ts : List V} (hD : H5 D = none) : Pl H5 D ts 0 (upd H5 D (.lst [])) := ⟨Same.new hD, [], upd_same, rfl, fun v hv => nomatch hv⟩
theorem Pl.next {H5 H H2 : Hp} {D p : Addr} {ts : List V} {i : Nat} (hD : H5 D = none) (h : Pl H5 D ts i H) (s : Same H H2) (hp : H2 p = some (.tup ts)) (hi : i < 1000) : ∃ acc, H2 D = some (.lst acc) ∧ acc.length < sizeLine ∧ Pl H5 D ts (i + 1) (upd H2 D (.lst (acc ++ [.ref p]))) := by
  obtain ⟨s5, acc, h1, h2, h3⟩ := h
  have hD2 := s _ _ h1
  refine ⟨acc, hD2, sizeL (by omega), fun b o e => by rw [upd_ne (ne_of_none e hD)]; exact s _ _ (s5 b o e), _, upd_same, by rw [List.length_append, h2]; rfl, fun v hv => ?_⟩
  rcases List.mem_append.mp hv with hv | hv
  · obtain ⟨q, e, hq⟩ := h3 v hv
    exact ⟨q, e, by rw [upd_ne (ne_of (s _ _ hq) hD2 tup_lst)]; exact s _ _ hq⟩
  · rw [List.mem_singleton.mp hv]
    exact ⟨p, rfl, by rw [upd_ne (ne_of hp hD2 tup_lst)]; exact hp⟩
theorem Pl.sd {K : PySem.W.Frag} {H5 H H2 : Hp} {D t : Addr} {ts : List V} {n : Nat} (h : Pl H5 D ts n H) (s : Same H H2) (ht : H2 t = some (.tup ts)) (hf : ∀ y ∈ ts, flatB y = true) : ∃ acc, H2 D = some (.lst acc) ∧ Paired (Sd K H2 60) acc (List.replicate n (.ref t)) := by
  obtain ⟨s5, acc, h1, h2, h3⟩ := h
  refine ⟨acc, s _ _ h1, ?_⟩
  have key : ∀ (l : List V), (∀ v ∈ l, ∃ p, v = .ref p ∧ H p = some (.tup ts)) → Paired (Sd K H2 60) l (List.replicate l.length (.ref t)) := by
    intro l
    induction l with
    | nil => exact fun _ => .nil
    | cons x l ih =>
      intro hl
      obtain ⟨p, rfl, hp⟩ := hl x List.mem_cons_self
      exact .cons (.inr (.inr ⟨p, t, ts, ts, rfl, rfl, .inl ⟨SqT.of (s _ _ hp), SqT.of ht⟩, Sd.flat hf⟩)) (ih fun v hv => hl v (List.mem_cons_of_mem _ hv))
  have := key acc h3
  rw [h2] at this
  exact this
theorem fl3 (w : Str) (i : Int) : ∀ y ∈ [V.str "refused", V.str w, V.int i], flatB y = true := fun y hy => by
  simp only [List.mem_cons, List.not_mem_nil, or_false] at hy
  rcases hy with rfl | rfl | rfl <;> rfl
theorem fl2 (w : Str) : ∀ y ∈ [V.str "refused", V.str w], flatB y = true := fun y hy => by
  simp only [List.mem_cons, List.not_mem_nil, or_false] at hy
  rcases hy with rfl | rfl <;> rfl
theorem lateF_len (c : Int) : ∀ (l : List Row) (k : Nat), (lateF c l k).length ≤ l.length
  | [], _ => Nat.le_refl _
  | r :: l, k => by
    have := lateF_len c l (k + 1)
    show (if lateB c r = true then k :: lateF c l (k + 1) else lateF c l (k + 1)).length ≤ l.length + 1
    split
    · rw [List.length_cons]; omega
    · omega
theorem ints_nats (l : List Nat) : (l.map fun n : Nat => V.int (n : Int)) = List.map V.int (l.map fun n : Nat => (n : Int)) := by rw [List.map_map]; rfl
theorem LamIs.put {X : Cx} {H : Hp} {f l : Addr} {k : Nat} {tb : XK → TE} {xs : List V} {o : HO} (h : LamIs X H f k tb) (hl : H l = some (.lst xs)) : LamIs X (upd H l o) f k tb := by
  have st : ∀ {b : Addr} {φ : Heap → Prop}, H b = some (.ext φ) → (upd H l o) b = some (.ext φ) := fun {b φ} e => by
    rw [upd_ne (ne_of e hl fun z => by cases z)]; exact e
  obtain ⟨params, body, scope, dV, c', ns, h1, h2, h3, h4, h5, h6⟩ := h
  refine ⟨params, body, scope, dV, c', ns, st h1, st h2, h3, h4, ?_, h6⟩
  rcases h5 with h5 | ⟨T0, la, i, a1, a2, a3, a4⟩
  · exact .inl h5
  · exact .inr ⟨T0, la, i, a1, a2, st a3, a4⟩
/-- what stood ahead of a list that changes -/
theorem ext_put {G H : Hp} {l : Addr} {o : HO} (e : LamX.ExtN G H) (hl : ∀ o, G l = some o → ∃ ps, o = .tbl ps) : LamX.ExtN G (upd H l o) := fun b u h n => by
  by_cases z : b = l
  · subst z
    obtain ⟨ps, z⟩ := hl _ h
    exact absurd z (n ps)
  · rw [upd_ne z]; exact e _ _ h n
theorem eqv_nil (x : PyData) (l : List PyData) : PyData.eqv (.list (x :: l)) (.list []) = false := by first | rfl | simp [PyData.eqv, PyData.eqvAll]
theorem late_nil : PyData.eqv (.list (List.map PyData.int (List.map (fun n : Nat => (n : Int)) []))) (.list (List.map PyData.int [])) = true := eqv_ints []
theorem late_cons (i : Nat) (l : List Nat) : PyData.eqv (.list (List.map PyData.int (List.map (fun n : Nat => (n : Int)) (i :: l)))) (.list (List.map PyData.int [])) = false := eqv_nil _ _
theorem b8_three : B8 [0, 255, 7] := fun z hz => by
  simp only [List.mem_cons, List.not_mem_nil, or_false] at hz
  rcases hz with rfl | rfl | rfl <;> decide
theorem rows_ext {H H' : Hp} {p : Addr} {rows : List Row} (h : RowsAt H p rows) (e : LamX.ExtN H H') : RowsAt H' p rows := by
  obtain ⟨vs, h1, h2⟩ := h
  exact ⟨vs, e _ _ h1 (fun ps z => by cases z), pairedMap h2 fun _ _ x => x.keep (Tups.ext e) fun q ns z => e _ _ z (fun ps z => by cases z)⟩
theorem rep_refs (n : Nat) (x : V) : (List.replicate n [x]).flatten = List.replicate n x := rep_flat x n
section
variable {P : Program} {w : World} {K : PySem.W.Frag} {mg : Str → Option Value} {base : Heap} {CB fB : Addr}
theorem okV_law_pick (T : All K mg) : FnOk P w K mg base CX0 2 T.d_law_pick.f T.d_law_pick.fd ["_law_d", "_law_some"] (spPickV K) := by
  have G_law_next : FnOk P w K mg base CX0 1 T.d_law_next.f T.d_law_next.fd ["_law_dice_here", "_law_many"] (spNext K) := ok_law_next T
  refine T.d_law_pick.F.ok sc_law_pick (fun vs H Q E h => ?_) (fun cdv A outer s H vs Q E hr h => ?_)
  · obtain ⟨_, _, _, _, _, rfl, _⟩ := h
    rfl
  · obtain ⟨a, ns, d, f, xs, rfl, D, nf, hf, l0, l1, k⟩ := h
    refine ⟨_, (pss_one 
      (ps_ret (pe_ix ix_list (pv 1) (pe_call G_law_next (hr.mono (by decide)) rfl T.d_law_next.m T.d_law_next.F.kp T.d_law_next.b .nil pass0 (pa_cons (pv 0) (pa_cons (pe_callB call_len (by rfl) T.b_len PySem.boot_len (pa_cons (pv 1) pa_nil)) pa_nil))) (fun _ _ => rfl)))), ?_⟩
    refine ⟨_, rfl, _, rfl, _, rfl, _, xs.length, rfl, .inl ⟨_, SqL.of hf, rfl⟩, a, ns, d, _, rfl, D, by omega, by omega, fun H1 r b1 D1 r0 r1 => ?_⟩
    have rl : r.toNat < xs.length := by omega
    refine ⟨f, _, _, _, rfl, rfl, SqL.of (b1 _ _ nf hf), at_of (j := r.toNat) (by omega) (List.getElem?_eq_getElem rl), ?_⟩
    exact k H1 _ b1 D1 (List.getElem_mem rl)
theorem lawT_ok (T : All K mg) (O_BadEdition : PlainErr K T.k_BadEdition) (TC5 : ToldC T T.k_BadEdition 5) (O_Beyond : N_Beyond.OwnErr P K mg CB fB) (TC1 : ToldC T CB 1) (O_BadCount : PlainErr K T.k_BadCount) (TC6 : ToldC T T.k_BadCount 6) {f cL PL : Addr} {kV doc pm ct oc : Value} {an od : Option Addr} {osl : Array (Option Value)}
    (lk : K.lookup f = some ⟨oc, od, .func (PySem.W.fnOf "law" "law" (defArgs s_law) (defBody s_law) (defScope s_law) .none kV doc pm an (.ref cL) ct), osl⟩) (hcd : PySem.W.codeIn K (.ref cL) "law" = true) (TB : LamX.TabB base mg cL PL) :
    FnOk P w K mg base CX0 11 f (PySem.W.fnOf "law" "law" (defArgs s_law) (defBody s_law) (defScope s_law) .none kV doc pm an (.ref cL) ct) ["_law_script"] (spLawT K PL) := by
  have G_law_dice : FnOk P w K mg base CX0 1 T.d_law_dice.f T.d_law_dice.fd ["_law_script"] (spDice K) := ok_law_dice T
  have G_law_next : FnOk P w K mg base CX0 1 T.d_law_next.f T.d_law_next.fd ["_law_dice_here", "_law_many"] (spNext K) := ok_law_next T
  have G_law_bytes : FnOk P w K mg base CX0 2 T.d_law_bytes.f T.d_law_bytes.fd ["_law_d", "_law_most"] (spBytes K) := ok_law_bytes T
  have G_law_rows : FnOk P w K mg base CX0 2 T.d_law_rows.f T.d_law_rows.fd ["_law_d", "_law_count", "_law_most"] (spRows K) := ok_law_rows T
  have G_law_handed : FnOk P w K mg base CX0 3 T.d_law_handed.f T.d_law_handed.fd ["_law_rows_here"] spHanded := ok_law_handed T
  have G_numbers_of : FnOk P w K mg base CX0 1 T.d_numbers_of.f T.d_numbers_of.fd ["some"] spNumsOf := ok_numbers_of T
  have G_bytes_of : FnOk P w K mg base CX0 2 T.d_bytes_of.f T.d_bytes_of.fd ["numbers"] (spBytesOf K) := ok_bytes_of T
  have G_done : FnOk P w K mg base CX0 5 T.d_done.f T.d_done.fd ["patch", "edition"] spDone := ok_done T
  have G_law_new : FnOk P w K mg base CX0 2 T.d_law_new.f T.d_law_new.fd ["_law_rows_here", "_law_old"] spNew := ok_law_new T
  have G_law_pick : FnOk P w K mg base CX0 2 T.d_law_pick.f T.d_law_pick.fd ["_law_d", "_law_some"] (spPickV K) := okV_law_pick T
  have G_Device_init : FnOk P w K mg base CX0 2 T.d_Device_init.f T.d_Device_init.fd ["self", "edition"] (spDevInitL T.k_Device) := ok_Device_init T
  have GX_Device_init : FnOk P w K mg base (L2.CX P w) 2 T.d_Device_init.f T.d_Device_init.fd ["self", "edition"] (spDevInitX T.k_BadEdition) := okx_Device_init T O_BadEdition
  have GX_least : FnOk P w K mg base (L2.CX P w) 2 T.d_least.f T.d_least.fd ["old", "new"] (spLeastX T.k_BadEdition) := okx_least T O_BadEdition
  have GX_histories : FnOk P w K mg base (L2.CX P w) 7 T.d_histories.f T.d_histories.fd ["edition", "patch"] (spBegunX T.k_BadEdition CB) := okx_histories T O_BadEdition O_Beyond
  have GX_all_end : FnOk P w K mg base (L2.CX P w) 7 T.d_all_end.f T.d_all_end.fd ["edition", "patch", "cuts"] (spAllX T.k_BadEdition) := okx_all_end T O_BadEdition O_Beyond
  have GX_done : FnOk P w K mg base (L2.CX P w) 5 T.d_done.f T.d_done.fd ["patch", "edition"] (spDoneL CB) := okl_done T O_Beyond
  have GX_brought : FnOk P w K mg base (L2.CX P w) 5 T.d_brought.f T.d_brought.fd ["patch", "pieces", "edition"] (spBroughtL CB) := okl_brought T O_Beyond
  have GX_Device_begin : FnOk P w K mg base (L2.CX P w) 5 T.d_Device_begin.f T.d_Device_begin.fd ["self", "patch"] (spBeginL T.k_Device CB) := okx_Device_begin T O_Beyond
  have GX_bytes_of : FnOk P w K mg base (L2.CX P w) 2 T.d_bytes_of.f T.d_bytes_of.fd ["numbers"] (spBytesBad T.k_BadCount) := okx_bytes_of T O_BadCount
  obtain ⟨ocT, odT, kVT, docT, pmT, anT, cdvT, ctT, oslT, efd, lkT, hcT⟩ := T.d_law_told.F.ex
  have bT := T.d_law_told.b
  rw [efd] at lkT bT
  refine fn_of lk hcd sc_law (fun vs H Q E h => ?_) (fun A outer s H vs Q E hr h => ?_)
  · obtain ⟨a, ns, rfl, _⟩ := h
    rfl
  · obtain ⟨a, ns, rfl, hS, hl, hP, k⟩ := h
    suffices z : ∃ t, PSs (cxOf CX0 P w K mg base _ "law" (defScope s_law) f (.ref cL) A outer s H E).nox (defBody s_law) t ∧ t { nx := fun _ H' => Q .non H', rt := Q } (start _ [.ref a]) H by
      obtain ⟨t, h, q⟩ := z
      exact ⟨t, h.nox, q⟩
    refine ⟨_, (pss_cons 
      (ps_set (i := 1) sc_law.nd rfl (Or.inl rfl) (pe_call G_law_dice (hr.mono (by decide)) rfl T.d_law_dice.m T.d_law_dice.F.kp T.d_law_dice.b .nil pass0 (pa_cons (pv 0) pa_nil))) (pss_cons 
      (ps_for PassesOwn.never rfl (pi_range1 (by rfl) T.b_range (pa_cons pe_int pa_nil)) (pg_name (i := 2) sc_law.nd rfl (Or.inl rfl)) (pss_cons 
      (ps_set (i := 3) sc_law.nd rfl (Or.inr rfl) (pe_call G_law_rows (hr.mono (by decide)) rfl T.d_law_rows.m T.d_law_rows.F.kp T.d_law_rows.b .nil pass0 (pa_cons (pv 1) (pa_cons pe_int (pa_cons pe_int pa_nil))))) (pss_cons 
      (ps_asg (pe_tup (pa_cons (pe_call G_law_handed (hr.mono (by decide)) rfl T.d_law_handed.m T.d_law_handed.F.kp T.d_law_handed.b .nil pass0 (pa_cons (pv 3) pa_nil)) (pa_cons (pe_call G_law_bytes (hr.mono (by decide)) rfl T.d_law_bytes.m T.d_law_bytes.F.kp T.d_law_bytes.b .nil pass0 (pa_cons (pv 1) (pa_cons pe_int pa_nil))) pa_nil))) (pg_tup rfl (pgs_cons (pg_name (i := 4) sc_law.nd rfl (Or.inr rfl)) (pgs_cons (pg_name (i := 5) sc_law.nd rfl (Or.inr rfl)) pgs_nil)))) (pss_cons 
      (ps_set (i := 6) sc_law.nd rfl (Or.inr rfl) (pe_call G_bytes_of (hr.mono (by decide)) rfl T.d_bytes_of.m T.d_bytes_of.F.kp T.d_bytes_of.b .nil pass0 (pa_cons (pe_op op_rep (pe_lst (pa_cons pe_int pa_nil)) (pe_op op_add pe_int (pe_call G_law_next (hr.mono (by decide)) rfl T.d_law_next.m T.d_law_next.F.kp T.d_law_next.b .nil pass0 (pa_cons (pv 1) (pa_cons pe_int pa_nil))))) pa_nil))) (pss_cons 
      (ps_set (i := 7) sc_law.nd rfl (Or.inl rfl) (pe_lst (pa_cons (pe_lam (k := 8) (T := [(PL, lamQ)]) TB rfl (List.mem_singleton.mpr rfl) (fun p hp _ => by rw [List.mem_singleton.mp hp]; rfl) (lamG_by (show lamGB (defScope s_law) _ [] = true from by decide +kernel)) rfl (fun _ _ _ _ _ _ _ => BindsTo.of_eq rfl) (fun A outer s H E f c' hr' => (pe_call GX_least (hr'.mono (by decide)) rfl T.d_least.m T.d_least.F.kp T.d_least.b .nil (passes_call (takes_of rfl rfl rfl rfl) fun _ _ _ _ h => h) (pa_cons (pv 6) (pa_cons (pv 6) pa_nil))))) (pa_cons (pe_lamD (k := 8) (T := [(PL, lamQ)]) (la := "_law_a") (i := 0) TB rfl (List.mem_singleton.mpr rfl) (fun p hp _ => by rw [List.mem_singleton.mp hp]; rfl) (lamG_by (show lamGB (defScope s_law) _ ["_law_a"] = true from by decide +kernel)) (show ("_law_a" : Str) ∉ (["_law_script", "_law_d", "_law_turn", "_law_rows_here", "_law_handed_here", "_law_old", "_law_remote", "_law_calls", "_law_call", "_law_late", "_law_k", "_law_bad"] : List Str) from by decide +kernel) rfl rfl (fun ql clos T0 doc pm cv ctv tk0 s1 h => BindsTo.of_defaults rfl h rfl rfl rfl) (fun A outer s H E f c' hr' => (pe_call GX_least (hr'.mono (by decide)) rfl T.d_least.m T.d_least.F.kp T.d_least.b .nil (passes_call (takes_of rfl rfl rfl rfl) fun _ _ _ _ h => h) (pa_cons (pe_call G_bytes_of (hr'.mono (by decide)) rfl T.d_bytes_of.m T.d_bytes_of.F.kp T.d_bytes_of.b .nil pass0 (pa_cons (pe_lst pa_nil) pa_nil)) (pa_cons (pv 6) pa_nil))))) (pa_cons (pe_lamD (k := 8) (T := [(PL, lamQ)]) (la := "_law_b") (i := 0) TB rfl (List.mem_singleton.mpr rfl) (fun p hp _ => by rw [List.mem_singleton.mp hp]; rfl) (lamG_by (show lamGB (defScope s_law) _ ["_law_b"] = true from by decide +kernel)) (show ("_law_b" : Str) ∉ (["_law_script", "_law_d", "_law_turn", "_law_rows_here", "_law_handed_here", "_law_old", "_law_remote", "_law_calls", "_law_call", "_law_late", "_law_k", "_law_bad"] : List Str) from by decide +kernel) rfl rfl (fun ql clos T0 doc pm cv ctv tk0 s1 h => BindsTo.of_defaults rfl h rfl rfl rfl) (fun A outer s H E f c' hr' => (pe_make T.mk_Device GX_Device_init (hr'.mono (by decide)) rfl T.m_Device T.d_Device_init.b .nil (passes_call (takes_of rfl rfl rfl rfl) fun _ _ _ _ h => h) (pa_cons (pv 6) pa_nil)))) pa_nil))))) (pss_cons 
      (ps_set (i := 7) sc_law.nd rfl (Or.inl rfl) (pe_op op_cat (pv 7) (pe_lst (pa_cons (pe_lamD (k := 8) (T := [(PL, lamQ)]) (la := "_law_c") (i := 0) TB rfl (List.mem_singleton.mpr rfl) (fun p hp _ => by rw [List.mem_singleton.mp hp]; rfl) (lamG_by (show lamGB (defScope s_law) _ ["_law_c"] = true from by decide +kernel)) (show ("_law_c" : Str) ∉ (["_law_script", "_law_d", "_law_turn", "_law_rows_here", "_law_handed_here", "_law_old", "_law_remote", "_law_calls", "_law_call", "_law_late", "_law_k", "_law_bad"] : List Str) from by decide +kernel) rfl rfl (fun ql clos T0 doc pm cv ctv tk0 s1 h => BindsTo.of_defaults rfl h rfl rfl rfl) (fun A outer s H E f c' hr' => (pe_call GX_histories (hr'.mono (by decide)) rfl T.d_histories.m T.d_histories.F.kp T.d_histories.b .nil (passes_call (takes_of rfl rfl rfl rfl) fun _ _ _ _ h => h) (pa_cons (pv 6) (pa_cons (pe_tup (pa_cons pe_str pa_nil)) pa_nil))))) (pa_cons (pe_lamD (k := 8) (T := [(PL, lamQ)]) (la := "_law_e") (i := 0) TB rfl (List.mem_singleton.mpr rfl) (fun p hp _ => by rw [List.mem_singleton.mp hp]; rfl) (lamG_by (show lamGB (defScope s_law) _ ["_law_e"] = true from by decide +kernel)) (show ("_law_e" : Str) ∉ (["_law_script", "_law_d", "_law_turn", "_law_rows_here", "_law_handed_here", "_law_old", "_law_remote", "_law_calls", "_law_call", "_law_late", "_law_k", "_law_bad"] : List Str) from by decide +kernel) rfl rfl (fun ql clos T0 doc pm cv ctv tk0 s1 h => BindsTo.of_defaults rfl h rfl rfl rfl) (fun A outer s H E f c' hr' => (pe_call GX_all_end (hr'.mono (by decide)) rfl T.d_all_end.m T.d_all_end.F.kp T.d_all_end.b .nil (passes_call (takes_of rfl rfl rfl rfl) fun _ _ _ _ h => h) (pa_cons (pv 6) (pa_cons (pe_tup (pa_cons pe_str pa_nil)) (pa_cons (pe_lst (pa_cons (pe_un un_neg pe_int) pa_nil)) pa_nil)))))) pa_nil))))) (pss_cons (ps_join 
      (ps_if (pt_cmpR (op_neS hr.units) (pe_lcI (own := [("_law_call", 8)]) (g := gName 8) rfl sc_law.nd (pi_list (pv 7)) (blkOk_by (own := [("_law_call", 8)]) (N := ["_law_script", "_law_d", "_law_turn", "_law_rows_here", "_law_handed_here", "_law_old", "_law_remote", "_law_calls", "_law_call", "_law_late", "_law_k", "_law_bad"]) (sc := defScope s_law) (by decide +kernel)) (fun _ _ _ _ _ => (pg_name (i := 8) sc_law.nd rfl (Or.inl rfl))) (fun pins σ s3 H3 C cl fp I3 hfp => pe_lamV I3 hfp (EE := fun Q cls d H' => TellR T cls d H' Q) (k := 8) (j := 8) rfl T.d_law_told.m T.d_law_told.F.kp lkT hcT bT sc_law_told rfl (Or.inl rfl) (fun q => told_g (X := L2.Cx.blk (cxOf CX0 P w K mg base _ "law" (defScope s_law) f (.ref cL) A outer s H E).nox s3 H3 _ _ fp) T) (hr.mono (by decide)) rfl (Or.inl rfl))) (pe_op op_rep (pe_lst (pa_cons (pe_tup (pa_cons pe_str (pa_cons pe_str pa_nil))) pa_nil)) pe_int) (nomark _)) (pss_one 
      (ps_ret pe_bl)) pss_nil)) (pss_cons 
      (ps_setLc (i := 9) (own := [("_law_k", 10)]) (g := gName 10) rfl sc_law.nd rfl rfl (sw_true rfl rfl rfl (by decide +kernel)) (pi_range1 (by rfl) T.b_range (pa_cons (pe_callB call_len (by rfl) T.b_len PySem.boot_len (pa_cons (pv 3) pa_nil)) pa_nil)) (blkOk_by (own := [("_law_k", 10)]) (N := ["_law_script", "_law_d", "_law_turn", "_law_rows_here", "_law_handed_here", "_law_old", "_law_remote", "_law_calls", "_law_call", "_law_late", "_law_k", "_law_bad"]) (sc := defScope s_law) (by decide +kernel)) (fun _ _ _ _ _ => (pg_name (i := 10) sc_law.nd rfl (Or.inl rfl))) (fun _ _ _ _ _ => (pts_one (PW.pt (pw_and (pt_cmpR op_eq (pe_ix (ixtK (K := K) rfl) (pe_ix (ixlK (K := K) rfl) (pv 3) (pv 10) (fun _ _ => rfl)) pe_int (fun _ _ => rfl)) pe_str (nomark _)) (pw_and1 (pt_cmpR op_gt (pe_op op_add (pe_ix (ixtK (K := K) rfl) (pe_ix (ixlK (K := K) rfl) (pv 3) (pv 10) (fun _ _ => rfl)) pe_int (fun _ _ => rfl)) (pe_ix (ixtK (K := K) rfl) (pe_ix (ixlK (K := K) rfl) (pv 3) (pv 10) (fun _ _ => rfl)) pe_int (fun _ _ => rfl))) (pe_callB (lenK (K := K) rfl) (by rfl) T.b_len PySem.boot_len (pa_cons (pv 5) pa_nil)) (nomark _))))))) (fun _ _ _ _ _ => (pv 10))) (pss_cons 
      (ps_set (i := 7) sc_law.nd rfl (Or.inl rfl) (pe_lst (pa_cons (pe_lamD (k := 8) (T := [(PL, lamQ)]) (la := "_law_f") (i := 0) TB rfl (List.mem_singleton.mpr rfl) (fun p hp _ => by rw [List.mem_singleton.mp hp]; rfl) (lamG_by (show lamGB (defScope s_law) _ ["_law_f"] = true from by decide +kernel)) (show ("_law_f" : Str) ∉ (["_law_script", "_law_d", "_law_turn", "_law_rows_here", "_law_handed_here", "_law_old", "_law_remote", "_law_calls", "_law_call", "_law_late", "_law_k", "_law_bad"] : List Str) from by decide +kernel) rfl rfl (fun ql clos T0 doc pm cv ctv tk0 s1 h => BindsTo.of_defaults rfl h rfl rfl rfl) (fun A outer s H E f c' hr' => (pe_call GX_done (hr'.mono (by decide)) rfl T.d_done.m T.d_done.F.kp T.d_done.b .nil (passes_call (takes_of rfl rfl rfl rfl) fun _ _ _ _ h => h) (pa_cons (pv 4) (pa_cons (pe_call G_bytes_of (hr'.mono (by decide)) rfl T.d_bytes_of.m T.d_bytes_of.F.kp T.d_bytes_of.b .nil pass0 (pa_cons (pv 5) pa_nil)) pa_nil))))) (pa_cons (pe_lamD (k := 8) (T := [(PL, lamQ)]) (la := "_law_g") (i := 0) TB rfl (List.mem_singleton.mpr rfl) (fun p hp _ => by rw [List.mem_singleton.mp hp]; rfl) (lamG_by (show lamGB (defScope s_law) _ ["_law_g"] = true from by decide +kernel)) (show ("_law_g" : Str) ∉ (["_law_script", "_law_d", "_law_turn", "_law_rows_here", "_law_handed_here", "_law_old", "_law_remote", "_law_calls", "_law_call", "_law_late", "_law_k", "_law_bad"] : List Str) from by decide +kernel) rfl rfl (fun ql clos T0 doc pm cv ctv tk0 s1 h => BindsTo.of_defaults rfl h rfl rfl rfl) (fun A outer s H E f c' hr' => (pe_call GX_brought (hr'.mono (by decide)) rfl T.d_brought.m T.d_brought.F.kp T.d_brought.b .nil (passes_call (takes_of rfl rfl rfl rfl) fun _ _ _ _ h => h) (pa_cons (pv 4) (pa_cons (pe_lst pa_nil) (pa_cons (pe_call G_bytes_of (hr'.mono (by decide)) rfl T.d_bytes_of.m T.d_bytes_of.F.kp T.d_bytes_of.b .nil pass0 (pa_cons (pv 5) pa_nil)) pa_nil)))))) pa_nil)))) (pss_cons 
      (ps_expr (pe_bm PySem.F.plainAttrs_list PySem.F.slot_list_append PySem.F.type_list_append mt_append (pv 7) (pa_cons (pe_lamD (k := 8) (T := [(PL, lamQ)]) (la := "_law_h") (i := 0) TB rfl (List.mem_singleton.mpr rfl) (fun p hp _ => by rw [List.mem_singleton.mp hp]; rfl) (lamG_by (show lamGB (defScope s_law) _ ["_law_h"] = true from by decide +kernel)) (show ("_law_h" : Str) ∉ (["_law_script", "_law_d", "_law_turn", "_law_rows_here", "_law_handed_here", "_law_old", "_law_remote", "_law_calls", "_law_call", "_law_late", "_law_k", "_law_bad"] : List Str) from by decide +kernel) rfl rfl (fun ql clos T0 doc pm cv ctv tk0 s1 h => BindsTo.of_defaults rfl h rfl rfl rfl) (fun A outer s H E f c' hr' => (pe_meth (pe_make T.mk_Device G_Device_init (hr'.mono (by decide)) rfl T.m_Device T.d_Device_init.b .nil pass0 (pa_cons (pe_call G_bytes_of (hr'.mono (by decide)) rfl T.d_bytes_of.m T.d_bytes_of.F.kp T.d_bytes_of.b .nil pass0 (pa_cons (pv 5) pa_nil)) pa_nil)) T.cl_Device T.d_Device_begin.mt GX_Device_begin (hr'.mono (by decide)) T.d_Device_begin.b .nil (passes_call (takes_of rfl rfl rfl rfl) fun _ _ _ _ h => h) (pa_cons (pv 4) pa_nil)))) pa_nil))) (pss_cons 
      (ps_expr (pe_bm PySem.F.plainAttrs_list PySem.F.slot_list_append PySem.F.type_list_append mt_append (pv 7) (pa_cons (pe_lamD (k := 8) (T := [(PL, lamQ)]) (la := "_law_i") (i := 0) TB rfl (List.mem_singleton.mpr rfl) (fun p hp _ => by rw [List.mem_singleton.mp hp]; rfl) (lamG_by (show lamGB (defScope s_law) _ ["_law_i"] = true from by decide +kernel)) (show ("_law_i" : Str) ∉ (["_law_script", "_law_d", "_law_turn", "_law_rows_here", "_law_handed_here", "_law_old", "_law_remote", "_law_calls", "_law_call", "_law_late", "_law_k", "_law_bad"] : List Str) from by decide +kernel) rfl rfl (fun ql clos T0 doc pm cv ctv tk0 s1 h => BindsTo.of_defaults rfl h rfl rfl rfl) (fun A outer s H E f c' hr' => (pe_call GX_histories (hr'.mono (by decide)) rfl T.d_histories.m T.d_histories.F.kp T.d_histories.b .nil (passes_call (takes_of rfl rfl rfl rfl) fun _ _ _ _ h => h) (pa_cons (pe_call G_bytes_of (hr'.mono (by decide)) rfl T.d_bytes_of.m T.d_bytes_of.F.kp T.d_bytes_of.b .nil pass0 (pa_cons (pv 5) pa_nil)) (pa_cons (pv 4) pa_nil))))) pa_nil))) (pss_cons (ps_join 
      (ps_if (PW.pt (pw_and (pt_cmpR (op_neD hr.units) (pv 9) (pe_lst pa_nil) (nomark _)) (pw_and1 (pt_cmpR (op_neS hr.units) (pe_lcI (own := [("_law_call", 8)]) (g := gName 8) rfl sc_law.nd (pi_list (pv 7)) (blkOk_by (own := [("_law_call", 8)]) (N := ["_law_script", "_law_d", "_law_turn", "_law_rows_here", "_law_handed_here", "_law_old", "_law_remote", "_law_calls", "_law_call", "_law_late", "_law_k", "_law_bad"]) (sc := defScope s_law) (by decide +kernel)) (fun _ _ _ _ _ => (pg_name (i := 8) sc_law.nd rfl (Or.inl rfl))) (fun pins σ s3 H3 C cl fp I3 hfp => pe_lamV I3 hfp (EE := fun Q cls d H' => TellR T cls d H' Q) (k := 8) (j := 8) rfl T.d_law_told.m T.d_law_told.F.kp lkT hcT bT sc_law_told rfl (Or.inl rfl) (fun q => told_g (X := L2.Cx.blk (cxOf CX0 P w K mg base _ "law" (defScope s_law) f (.ref cL) A outer s H E).nox s3 H3 _ _ fp) T) (hr.mono (by decide)) rfl (Or.inl rfl))) (pe_op op_rep (pe_lst (pa_cons (pe_tup (pa_cons pe_str (pa_cons pe_str (pa_cons (pe_ix ix_list (pv 9) pe_int (fun _ _ => rfl)) pa_nil)))) pa_nil)) pe_int) (nomark _))))) (pss_one 
      (ps_ret pe_bl)) pss_nil)) (pss_cons (ps_join 
      (ps_if (PW.pt (pw_and (pt_cmpR (op_eqD hr.units) (pv 9) (pe_lst pa_nil) (nomark _)) (pw_and1 (pt_cmpR (op_neD hr.units) (pe_call G_numbers_of (hr.mono (by decide)) rfl T.d_numbers_of.m T.d_numbers_of.F.kp T.d_numbers_of.b .nil pass0 (pa_cons (pe_call G_done (hr.mono (by decide)) rfl T.d_done.m T.d_done.F.kp T.d_done.b .nil pass0 (pa_cons (pv 4) (pa_cons (pe_call G_bytes_of (hr.mono (by decide)) rfl T.d_bytes_of.m T.d_bytes_of.F.kp T.d_bytes_of.b .nil pass0 (pa_cons (pv 5) pa_nil)) pa_nil))) pa_nil)) (pe_call G_law_new (hr.mono (by decide)) rfl T.d_law_new.m T.d_law_new.F.kp T.d_law_new.b .nil pass0 (pa_cons (pv 3) (pa_cons (pv 5) pa_nil))) (nomark _))))) (pss_one 
      (ps_ret pe_bl)) pss_nil)) (pss_cons 
      (ps_set (i := 11) sc_law.nd rfl (Or.inr rfl) (pe_op op_cat (pe_op op_cat (pv 5) (pe_lst (pa_cons (pe_call G_law_pick (hr.mono (by decide)) rfl T.d_law_pick.m T.d_law_pick.F.kp T.d_law_pick.b .nil pass0 (pa_cons (pv 1) (pa_cons (pe_lst (pa_cons pe_int (pa_cons (pe_un un_neg pe_int) pa_nil))) pa_nil))) pa_nil))) (pv 5))) (pss_one 
      (ps_if (pt_cmpR (op_neS hr.units) (pe_lamcallDC (k := 8) (T := [(PL, lamQ)]) (TT := TToldG T) (la := "_law_j") (i := 0) rfl T.d_law_told.m T.d_law_told.F.kp lkT hcT bT sc_law_told rfl (Or.inl rfl) (told_g (X := (cxOf CX0 P w K mg base _ "law" (defScope s_law) f (.ref cL) A outer s H E).nox) T) TB rfl (List.mem_singleton.mpr rfl) (fun p hp _ => by rw [List.mem_singleton.mp hp]; rfl) (hr.mono (by decide)) (lamSD_by (show lamSDB (defScope s_law) _ _ = true from by decide +kernel)) (show ("_law_j" : Str) ∉ (["_law_script", "_law_d", "_law_turn", "_law_rows_here", "_law_handed_here", "_law_old", "_law_remote", "_law_calls", "_law_call", "_law_late", "_law_k", "_law_bad"] : List Str) from by decide +kernel) rfl rfl
        (fun ql clos T0 doc pm cv ctv tk0 s1 h => BindsTo.of_defaults rfl h rfl rfl rfl) (fun A outer s H E f c' hr' => (pe_call GX_bytes_of (hr'.mono (by decide)) rfl T.d_bytes_of.m T.d_bytes_of.F.kp T.d_bytes_of.b .nil (passes_call (takes_of rfl rfl rfl rfl) fun _ _ _ _ h => h) (pa_cons (pv 11) pa_nil)))) (pe_tup (pa_cons pe_str (pa_cons pe_str pa_nil))) (nomark _)) (pss_one 
      (ps_ret pe_bl)) pss_nil)))))))))))))))) (pss_one 
      (ps_ret (pe_cmpR (op_eqD hr.units) (pe_call G_numbers_of (hr.mono (by decide)) rfl T.d_numbers_of.m T.d_numbers_of.F.kp T.d_numbers_of.b .nil pass0 (pa_cons (pe_call G_bytes_of (hr.mono (by decide)) rfl T.d_bytes_of.m T.d_bytes_of.F.kp T.d_bytes_of.b .nil pass0 (pa_cons (pe_lst (pa_cons pe_int (pa_cons pe_int (pa_cons pe_int pa_nil)))) pa_nil)) pa_nil)) (pe_lst (pa_cons pe_int (pa_cons pe_int (pa_cons pe_int pa_nil)))) (nomark _)))))), ?_⟩
    have tb0 : LamX.Tabs [(PL, lamQ)] H := fun p hp => by
      rw [List.mem_singleton.mp hp]
      exact LamX.TabS.nil hP
    refine ⟨_, rfl, a, ns, rfl, hS, hl, fun H1 d s1 hd D1 => ?_⟩
    refine ⟨4, rfl, by decide, by decide, for_range (lo := 0) (n := 4) (fun i σ H2 => ∃ v2 v3 v4 v5 v6 v7 v8 v9 v10 v11 : Option V, σ = [some (.ref a), some (.ref d), v2, v3, v4, v5, v6, v7, v8, v9, v10, v11] ∧ Dice K a ns H2 d ∧ LamX.Tabs [(PL, lamQ)] H2)
      ⟨none, none, none, none, none, none, none, none, none, none, rfl, D1, Tabs.same tb0 s1⟩ ?_ ?_⟩
    · rintro i σ H2 hi ⟨v2, v3, v4, v5, v6, v7, v8, v9, v10, v11, rfl, D2, tb2⟩
      obtain ⟨_, eD2⟩ := D2.is
      -- the rows, the patch, the old edition
      refine ⟨_, rfl, a, ns, d, 60, 40, rfl, D2, by decide, by decide, by decide, by decide, fun H3 p rows b3 D3 hp hR hok htot => ?_⟩
      have tb3 := Tabs.but tb2 eD2 b3
      obtain ⟨_, eD3⟩ := D3.is
      have rl := len_le_total hok
      have pd : p ≠ d := D2.ne hp
      refine ⟨_, rfl, p, rows, 60, rfl, hR, hok, by omega, fun H4 v s4 hP => ?_⟩
      have D4 := D3.same s4
      have tb4 := Tabs.same tb3 s4
      obtain ⟨_, eD4⟩ := D4.is
      refine ⟨_, rfl, a, ns, d, 60, rfl, D4, by decide, by decide, fun H5 o es b5 D5 ho hob b8 bl => ?_⟩
      have e60 : es.length ≤ 60 := by omega
      have od : o ≠ d := D4.ne ho
      have tb5 := Tabs.but tb4 eD4 b5
      have hR5 := (hR.same s4).but D4 b5 pd
      have hP5 := hP.tups (b5.tups D4)
      refine ⟨sizeS (by show 2 ≤ 100000; decide), fun t0 ht0 => ⟨t0, _, rfl, SqT.of upd_same, rfl, _, _, rfl, _, _, rfl, rfl, ?_⟩⟩
      have s6 := Same.new (o := .tup [v, .ref o]) ht0
      have D6 := D5.same s6
      have tb6 := Tabs.same tb5 s6
      have hR6 := hR5.same s6
      have hP6 := hP5.tups (Same.tups s6)
      have ho6 := s6 _ _ hob
      generalize upd H5 t0 (.tup [v, .ref o]) = H6 at D6 tb6 hR6 hP6 ho6 ⊢
      clear hR5 hP5 hob tb5 tb4 tb3 hR
      obtain ⟨_, eD6⟩ := D6.is
      -- what is too long
      refine ⟨sizeS (by show 1 ≤ 100000; decide), fun l0 hl0 => ⟨_, rfl, a, ns, d, 9, rfl, D6.same (Same.new hl0), by decide, by decide, fun H7 r b7 D7 r0 r1 => ?_⟩⟩
      have s60 := Same.new (o := .lst [V.int 0]) hl0
      have l0d : l0 ≠ d := D6.ne hl0
      have D60 := D6.same s60
      obtain ⟨_, eD60⟩ := D60.is
      have hl07 : H7 l0 = some (.lst [V.int 0]) := b7 _ _ l0d upd_same
      have tb7 := Tabs.but (Tabs.same tb6 s60) eD60 b7
      have hR7 := (hR6.same s60).but D60 b7 pd
      have hP7 := (hP6.tups (Same.tups s60)).tups (b7.tups D60)
      have ho7 : H7 o = some (.lst (List.map V.int es)) := b7 _ _ od (s60 _ _ ho6)
      refine ⟨_, _, rfl, rfl, l0, 201 + r, _, rfl, rfl, hl07, by omega, by omega, sizeS (by show 1 * _ ≤ 100000; omega), fun l1 hl1 => ?_⟩
      rw [rep_ints]
      refine ⟨l1, List.replicate (201 + r).toNat (0 : Int), rfl, SqL.of upd_same, fun z hz => by rw [List.eq_of_mem_replicate hz]; decide, ?_⟩
      have s8 := Same.new (o := .lst ((List.replicate (201 + r).toNat (0 : Int)).map V.int)) hl1
      have D8 := D7.same s8
      have tb8 := Tabs.same tb7 s8
      have hR8 := hR7.same s8
      have hP8 := hP7.tups (Same.tups s8)
      have ho8 := s8 _ _ ho7
      obtain ⟨zr, hzr⟩ : ∃ zr, List.replicate (201 + r).toNat (0 : Int) = zr := ⟨_, rfl⟩
      have zr1 : 200 < zr.length := by rw [← hzr, List.length_replicate]; omega
      have zr2 : zr.length ≤ 100000 := by rw [← hzr, List.length_replicate]; omega
      rw [hzr] at s8 D8 tb8 hR8 hP8 ho8 ⊢
      generalize upd H7 l1 (.lst (zr.map V.int)) = H8 at D8 tb8 hR8 hP8 ho8 ⊢
      clear hR7 hP7 ho7 tb7 hR6 hP6 ho6 tb6 s8 hl1 hzr
      -- five that are handed it
      refine ⟨tb8, fun Ha f1 ea ta nf1 L1 => ⟨ta, fun Hb f2 eb tb nf2 L2 => ⟨tb, fun Hc f3 ec tc nf3 L3 => ⟨sizeS (by show 3 ≤ 100000; decide), fun l3 hl3 => ?_⟩⟩⟩⟩
      have x1 := Same.new (o := .lst [.ref f1, .ref f2, .ref f3]) hl3
      refine ⟨_, rfl, Tabs.same tc x1, fun Hd f4 ed td nf4 L4 => ⟨td, fun He f5 ee te nf5 L5 => ⟨sizeS (by show 2 ≤ 100000; decide), fun l4 hl4 => ?_⟩⟩⟩
      have x2 := Same.new (o := .lst [.ref f4, .ref f5]) hl4
      have hl3e := x2 _ _ (ee _ _ (ed _ _ (upd_same (H := Hc) (a := l3) (o := .lst [.ref f1, .ref f2, .ref f3])) (fun ps z => by cases z)) (fun ps z => by cases z))
      refine ⟨l3, l4, _, _, rfl, rfl, hl3e, upd_same, sizeS (by show 3 + 2 ≤ 100000; decide), fun l5 hl5 => ?_⟩
      have x3 := Same.new (o := .lst ([.ref f1, .ref f2, .ref f3] ++ [.ref f4, .ref f5])) hl5
      have eA : LamX.ExtN H8 (upd (upd He l4 (.lst [.ref f4, .ref f5])) l5 (.lst ([.ref f1, .ref f2, .ref f3] ++ [.ref f4, .ref f5]))) := ((((ea.trans (eb.trans ec)).trans (LamX.ExtN.of x1)).trans ed).trans ee).trans (LamX.ExtN.of (x2.trans x3))
      have e4 := (ee.trans (LamX.ExtN.of (x2.trans x3)))
      have e3 := ((LamX.ExtN.of x1).trans ed).trans e4
      have M1 := L1.ext (eb.trans (ec.trans e3))
      have M2 := L2.ext (ec.trans e3)
      have M3 := L3.ext e3
      have M4 := L4.ext e4
      have M5 := L5.same (x2.trans x3)
      have t9 := Tabs.same te (x2.trans x3)
      have hl59 := upd_same (H := upd He l4 (.lst [.ref f4, .ref f5])) (a := l5) (o := .lst ([.ref f1, .ref f2, .ref f3] ++ [.ref f4, .ref f5]))
      generalize upd (upd He l4 (.lst [.ref f4, .ref f5])) l5 (.lst ([.ref f1, .ref f2, .ref f3] ++ [.ref f4, .ref f5])) = H9 at eA M1 M2 M3 M4 M5 t9 hl59 ⊢
      clear L1 L2 L3 L4 L5 e3 e4 hl3e x1 x2 x3 hl3 hl4 hl5 nf1 nf2 nf3 nf4 nf5
      have D9 := D8.ext eA
      have hP9 := hP8.tups (Tups.ext eA)
      have hR9 := rows_ext hR8 eA
      have ho9 : H9 o = some (.lst (List.map V.int es)) := eA _ _ ho8 (fun ps z => by cases z)
      clear hR8 hP8 ho8 tb8 D8 tc ta tb td te ea eb ec ed ee
      refine ⟨fun σ H => σ = [some (.ref a), some (.ref d), some (.int (0 + (i : Int))), some (.ref p), some v, some (.ref o), some (.byt (byteArr zr)), some (.ref l5), v8, v9, v10, v11] ∧ Same H9 H, ?_, ?_⟩
      · refine ⟨_, rfl, l5, rfl, ⟨_, SqL.of hl59⟩, fun Z hZ => lc_list (K := K) (a := l5) (xs := [.ref f1, .ref f2, .ref f3] ++ [.ref f4, .ref f5]) (Pl H9 Z [.str "refused", .str "BadEdition"]) (Pl.zero hZ) (fun j G _ q => SqL.of (q.1 _ _ hl59)) ?_ ?_⟩
        · rintro j x G hj q
          have told : ∀ G', Same G G' → Plain G' T.k_BadEdition (fun cls d H' => TellR T cls d H' fun y H4 => ∃ acc, H4 Z = some (.lst acc) ∧ acc.length < sizeLine ∧ Pl H9 Z [.str "refused", .str "BadEdition"] (j + 1) (upd H4 Z (.lst (acc ++ [y])))) := fun G' sg G2 sg2 =>
            ⟨5, T.k_BadEdition, rfl, by decide, TC5, .inr ⟨rfl, rfl, fun G3 pz sg3 _ hpz => q.next hZ ((sg.trans sg2).trans sg3) hpz (by have := (List.getElem?_eq_some_iff.mp hj).1; show j < 1000; simp at this; omega)⟩⟩
          refine ⟨rfl, ?_⟩
          match j, hj with
          | 0, hj =>
            cases hj
            exact ⟨f1, _, rfl, M1.same q.1, _, rfl, _, rfl, zr, zr, rfl, zr2, zr2, .inl zr1, told _ (Same.refl _)⟩
          | 1, hj =>
            cases hj
            refine ⟨f2, _, rfl, M2.same q.1, sizeS (by show 0 ≤ 100000; decide), fun e0 he0 => ⟨e0, [], rfl, SqL.of upd_same, (fun z hz => nomatch hz), _, rfl, [], zr, rfl, by decide, zr2, .inr zr1, told _ (Same.new he0)⟩⟩
          | 2, hj =>
            cases hj
            refine ⟨f3, _, rfl, M3.same q.1, _, rfl, fun x0 dx0 nx0 ndx0 nex0 => ⟨x0, zr, rfl, zr1, zr2, told _ ((Same.new ndx0).trans (Same.new (by rw [upd_ne nex0.symm]; exact nx0)))⟩⟩
          | 3, hj =>
            cases hj
            refine ⟨f4, _, rfl, M4.same q.1, _, rfl, sizeS (by show 1 ≤ 100000; decide), fun e0 he0 => ⟨_, zr, rfl, .inl ⟨zr1, zr2, told _ (Same.new he0)⟩⟩⟩
          | 4, hj =>
            cases hj
            refine ⟨f5, _, rfl, M5.same q.1, _, rfl, sizeS (by show 1 ≤ 100000; decide), fun e0 he0 => ⟨(1 : Int), rfl, sizeS (by show 1 ≤ 100000; decide), fun e1 he1 => ⟨_, _, zr, rfl, zr1, zr2, told _ ((Same.new he0).trans (Same.new he1))⟩⟩⟩
          | j + 5, hj => simp at hj
        · rintro G q
          refine ⟨sizeS (by show 2 ≤ 100000; decide), fun t7 ht7 => ⟨sizeS (by show 1 ≤ 100000; decide), fun l7 hl7 => ⟨l7, 5, _, rfl, rfl, upd_same, by decide, by decide, sizeS (by show 1 * 5 ≤ 100000; decide), fun l8 hl8 => ?_⟩⟩⟩
          have z1 := Same.new (o := .tup [.str "refused", .str "BadEdition"]) ht7
          have z2 := Same.new (o := .lst [.ref t7]) hl7
          have z3 := Same.new (o := .lst (List.replicate (5 : Int).toNat [V.ref t7]).flatten) hl8
          obtain ⟨acc, hacc, pacc⟩ := q.sd (K := K) ((z1.trans z2).trans z3) ((z2.trans z3) _ _ upd_same) (fl2 _)
          refine ⟨Z, l8, acc, List.replicate 5 (.ref t7), rfl, rfl, .inr ⟨SqL.of hacc, SqL.of upd_same⟩, pacc, _, rfl, (if_neg (fun z => nomatch z)).mpr ?_⟩
          exact ⟨rfl, ((q.1.trans z1).trans z2).trans z3⟩
      rintro σ H10 ⟨rfl, s10⟩
      have D10 := D9.same s10
      have hP10 := hP9.tups (Same.tups s10)
      have hR10 := hR9.same s10
      have ho10 := s10 _ _ ho9
      have t10 := Tabs.same t9 s10
      clear D9 hP9 hR9 ho9 t9 M1 M2 M3 M4 M5 hl59 s10
      -- the pieces that copy beyond
      obtain ⟨rvs, hrv, prv⟩ := hR10
      have rvl := Paired.length prv
      refine ⟨_, rfl, _, rows.length, rfl, .inl ⟨_, SqL.of hrv, rvl.symm⟩, rows.length, rfl, by omega, by omega, fun Z hZ => lc_range (lo := 0) (n := rows.length) (fun j G => Same H10 G ∧ G Z = some (.lst ((lateF es.length (rows.take j) 0).map fun n : Nat => V.int (n : Int)))) ⟨Same.new hZ, upd_same⟩ ?_ ?_⟩
      · rintro j G hj ⟨sG, hZG⟩
        refine ⟨rfl, ?_⟩
        have hr := List.getElem?_eq_getElem hj
        obtain ⟨x, hx, hv⟩ := pairedAt' prv hr
        have lt := lateF_take (c := (es.length : Int)) hr
        have hrvG := sG _ _ hrv
        have keep : ∀ {o' : HO}, Same H10 (upd G Z o') := fun {o'} b o e => by rw [upd_ne (ne_of_none e hZ)]; exact sG _ _ e
        have ll : (lateF es.length (rows.take j) 0).length ≤ j := by
          have := lateF_len es.length (rows.take j) 0
          rw [List.length_take] at this
          omega
        generalize rows[j] = r9 at hr hv lt
        have no : lateB es.length r9 = false → Same H10 G ∧ G Z = some (.lst ((lateF es.length (rows.take (j + 1)) 0).map fun n : Nat => V.int (n : Int))) := fun hb => by
          rw [lt, hb, if_neg (fun z => nomatch z), List.append_nil]
          exact ⟨sG, hZG⟩
        cases r9 with
        | copy b n =>
          obtain ⟨pt, rfl, ht⟩ := hv
          have htG := sG _ _ ht
          have hat : atI rvs (0 + (j : Int)) = some (.ref pt) := at_of (j := j) (by omega) hx
          refine ⟨_, rfl, _, rfl, p, _, _, _, rfl, rfl, SqL.of hrvG, hat, pt, _, _, _, rfl, rfl, SqT.of htG, rfl, rfl, _, rfl, ite2 (fun _ => ?_) fun h => absurd (by decide) h⟩
          refine ⟨_, rfl, _, rfl, p, _, _, _, rfl, rfl, SqL.of hrvG, hat, pt, _, _, _, rfl, rfl, SqT.of htG, rfl, _, rfl, _, rfl, p, _, _, _, rfl, rfl, SqL.of hrvG, hat, pt, _, _, _, rfl, rfl, SqT.of htG, rfl, _, _, rfl, rfl, _, rfl, _, es.length, rfl, .inl ⟨_, SqL.of (sG _ _ ho10), by rw [List.length_map]⟩, _, _, rfl, rfl, _, rfl, ?_⟩
          refine ite2 (fun h => ?_) fun h => ?_
          · rw [show lateB es.length (.copy b n) = true from h, if_pos rfl] at lt
            refine ⟨_, rfl, _, hZG, sizeL (by rw [List.length_map]; omega), keep, ?_⟩
            rw [upd_same, lt, List.map_append, Int.zero_add]
            rfl
          · exact no (Bool.not_eq_true _ ▸ h)
        | run b n =>
          obtain ⟨pt, rfl, ht⟩ := hv
          have htG := sG _ _ ht
          have hat : atI rvs (0 + (j : Int)) = some (.ref pt) := at_of (j := j) (by omega) hx
          refine ⟨_, rfl, _, rfl, p, _, _, _, rfl, rfl, SqL.of hrvG, hat, pt, _, _, _, rfl, rfl, SqT.of htG, rfl, rfl, _, rfl, ite2 (fun h => absurd h (by decide)) fun _ => ?_⟩
          exact no rfl
        | bring bs =>
          obtain ⟨pt, q, rfl, ht, _⟩ := hv
          have htG := sG _ _ ht
          have hat : atI rvs (0 + (j : Int)) = some (.ref pt) := at_of (j := j) (by omega) hx
          refine ⟨_, rfl, _, rfl, p, _, _, _, rfl, rfl, SqL.of hrvG, hat, pt, _, _, _, rfl, rfl, SqT.of htG, rfl, rfl, _, rfl, ite2 (fun h => absurd h (by decide)) fun _ => ?_⟩
          exact no rfl
      · rintro G ⟨sG, hZG⟩
        rw [List.take_length] at hZG
        have hRG : RowsAt G p rows := (show RowsAt H10 p rows from ⟨rvs, hrv, prv⟩).same sG
        have DG := D10.same sG
        have hPG := hP10.tups (Same.tups sG)
        have hoG := sG _ _ ho10
        have tG := Tabs.same t10 sG
        have Zl := hZG
        obtain ⟨late, hlate⟩ : ∃ late, lateF es.length rows 0 = late := ⟨_, rfl⟩
        rw [hlate] at hZG
        have llen : late.length ≤ 200 := by rw [← hlate]; exact Nat.le_trans (lateF_len _ _ _) (by omega)
        have good : Good rows := ⟨fun r hr => Row.ok_mono (by decide) (hok r hr), by omega⟩
        rw [ints_nats] at hZG
        clear D10 hP10 hrv prv ho10 t10 sG Zl
        -- four that copy beyond
        refine ⟨tG, fun Ha f1 ea ta nf1 L1 => ⟨ta, fun Hb f2 eb tb nf2 L2 => ⟨sizeS (by show 2 ≤ 100000; decide), fun l3 hl3 => ?_⟩⟩⟩
        have x1 := Same.new (o := .lst [.ref f1, .ref f2]) hl3
        have nl3 : ∀ o, G l3 = some o → ∃ ps, o = .tbl ps := fun o9 e => by
          cases o9 with
          | tbl ps => exact ⟨ps, rfl⟩
          | _ => rw [(ea.trans eb) _ _ e (fun ps z => by cases z)] at hl3; cases hl3
        have hc3 := upd_same (H := Hb) (a := l3) (o := .lst [.ref f1, .ref f2])
        refine ⟨_, rfl, .inl ⟨rfl, _, SqL.of hc3⟩, Tabs.same tb x1, fun Hc f3 ec tc nf3 L3 => ⟨l3, _, _, rfl, rfl, ec _ _ hc3 (fun ps z => by cases z), sizeL (by show 2 ≤ 100000; decide), ?_⟩⟩
        have hd3 := ec _ _ hc3 (fun ps z => by cases z)
        have he3 := upd_same (H := Hc) (a := l3) (o := .lst ([.ref f1, .ref f2] ++ [.ref f3]))
        refine ⟨_, rfl, .inl ⟨rfl, _, SqL.of he3⟩, Tabs.but tc hd3 But.put, fun Hd f4 ed td nf4 L4 => ⟨l3, _, _, rfl, rfl, ed _ _ he3 (fun ps z => by cases z), sizeL (by show 3 ≤ 100000; decide), ?_⟩⟩
        have hf3 := ed _ _ he3 (fun ps z => by cases z)
        have eA : LamX.ExtN G (upd Hd l3 (.lst ([.ref f1, .ref f2] ++ [.ref f3] ++ [.ref f4]))) := ext_put ((ext_put (((ea.trans eb).trans (LamX.ExtN.of x1)).trans ec) nl3).trans ed) nl3
        have M1 := ((((L1.ext eb).same x1).ext ec).put hd3 (o := .lst ([.ref f1, .ref f2] ++ [.ref f3]))).ext ed |>.put hf3 (o := .lst ([.ref f1, .ref f2] ++ [.ref f3] ++ [.ref f4]))
        have M2 := (((L2.same x1).ext ec).put hd3 (o := .lst ([.ref f1, .ref f2] ++ [.ref f3]))).ext ed |>.put hf3 (o := .lst ([.ref f1, .ref f2] ++ [.ref f3] ++ [.ref f4]))
        have M3 := (L3.put hd3 (o := .lst ([.ref f1, .ref f2] ++ [.ref f3]))).ext ed |>.put hf3 (o := .lst ([.ref f1, .ref f2] ++ [.ref f3] ++ [.ref f4]))
        have M4 := L4.put hf3 (o := .lst ([.ref f1, .ref f2] ++ [.ref f3] ++ [.ref f4]))
        have tA := Tabs.but td hf3 (But.put (o := .lst ([.ref f1, .ref f2] ++ [.ref f3] ++ [.ref f4])))
        have hl39 := upd_same (H := Hd) (a := l3) (o := .lst ([.ref f1, .ref f2] ++ [.ref f3] ++ [.ref f4]))
        generalize upd Hd l3 (.lst ([.ref f1, .ref f2] ++ [.ref f3] ++ [.ref f4])) = HA at eA M1 M2 M3 M4 tA hl39 ⊢
        clear L1 L2 L3 L4 hf3 hd3 he3 hc3 x1 nl3 hl3 nf1 nf2 nf3 nf4 td tc tb ta ea eb ec ed
        have DA := DG.ext eA
        have hPA := hPG.tups (Tups.ext eA)
        have hRA := rows_ext hRG eA
        have hoA : HA o = some (.lst (List.map V.int es)) := eA _ _ hoG (fun ps z => by cases z)
        have hZA : HA Z = some (.lst (List.map V.int (late.map fun n : Nat => (n : Int)))) := eA _ _ hZG (fun ps z => by cases z)
        clear eA DG hPG hRG hoG hZG tG
        refine ⟨fun σ H => σ = [some (.ref a), some (.ref d), some (.int (0 + (i : Int))), some (.ref p), some v, some (.ref o), some (.byt (byteArr zr)), some (.ref l3), v8, some (.ref Z), v10, v11] ∧ Same HA H, ?_, ?_⟩
        · refine ⟨_, rfl, sizeS (by show 0 ≤ 100000; decide), fun e0 he0 => ?_⟩
          have z0 := Same.new (o := .lst []) he0
          refine ⟨_, _, dp_ints (z0 _ _ hZA), dp_ints (ns := []) upd_same, PySem.W.ke_shaped_ints _, PySem.W.ke_shaped_ints _, _, rfl, ?_⟩
          rcases late with _ | ⟨i9, l9⟩
          · exact (if_neg (by rw [late_nil]; exact fun z => nomatch z)).mpr ((if_neg (fun z => nomatch z)).mpr ⟨rfl, z0⟩)
          · refine (if_pos (by rw [late_cons]; rfl)).mpr ?_
            refine ⟨_, rfl, l3, rfl, ⟨_, SqL.of (z0 _ _ hl39)⟩, fun Y hY => lc_list (K := K) (a := l3) (xs := [.ref f1, .ref f2] ++ [.ref f3] ++ [.ref f4]) (Pl (upd HA e0 (.lst [])) Y [.str "refused", .str "Beyond", .int (i9 : Int)]) (Pl.zero hY) (fun j G _ q => SqL.of (q.1 _ _ (z0 _ _ hl39))) ?_ ?_⟩
            · rintro j x G hj q
              have told : ∀ G', Same G G' → AtP G' CB (fun cls d H' => TellR T cls d H' fun y H4 => ∃ acc, H4 Y = some (.lst acc) ∧ acc.length < sizeLine ∧ Pl (upd HA e0 (.lst [])) Y [.str "refused", .str "Beyond", .int (i9 : Int)] (j + 1) (upd H4 Y (.lst (acc ++ [y])))) (i9 : Int) := fun G' sg G2 d9 sg2 hd9 =>
                ⟨1, CB, rfl, by decide, TC1, .inl ⟨"piece", d9, _, rfl, O_Beyond.noN, rfl, upd_same, fun G3 pz sg3 _ hpz => q.next hY (((sg.trans sg2).trans (Same.new hd9)).trans sg3) hpz (by have := (List.getElem?_eq_some_iff.mp hj).1; show j < 1000; simp at this; omega)⟩⟩
              have sG := z0.trans q.1
              have hoG := sG _ _ hoA
              have hPG := hPA.tups (Same.tups sG)
              refine ⟨rfl, ?_⟩
              match j, hj with
              | 0, hj =>
                cases hj
                exact ⟨f1, _, rfl, M1.same sG, _, rfl, _, rfl, o, es, rfl, SqL.of hoG, b8, v, rows, es, i9, l9, rfl, hPG, good, by omega, hlate, told _ (Same.refl _)⟩
              | 1, hj =>
                cases hj
                refine ⟨f2, _, rfl, M2.same sG, _, rfl, sizeS (by show 0 ≤ 100000; decide), fun e1 he1 => ?_⟩
                have z1 := Same.new (o := .lst []) he1
                exact ⟨_, rfl, o, es, rfl, SqL.of (z1 _ _ hoG), b8, v, e1, rows, es, i9, l9, rfl, upd_same, hPG.tups (Same.tups z1), good, by omega, hlate, told _ z1⟩
              | 2, hj =>
                cases hj
                refine ⟨f3, _, rfl, M3.same sG, _, rfl, o, es, rfl, SqL.of hoG, b8, fun x0 dx0 nx0 ndx0 nex0 => ⟨x0, dx0, es, rfl, upd_same, b8, by omega, fun G1 n1 DL => ?_⟩⟩
                have s1 : Same G G1 := fun b o e => n1 b o (ne_of_none e nx0) (by rw [upd_ne (ne_of_none e nx0), upd_ne (ne_of_none e ndx0)]; exact e)
                obtain ⟨dx1, cA, fs, h0, h1, h2, h3, h4, h5, h6, h7⟩ := DL.is
                exact ⟨rfl, x0, dx1, fs, rfl, h0, h5, _, rfl, x0, v, es, rows, i9, l9, rfl, DL, b8, by omega, hPG.tups (Same.tups s1), good, hlate, told _ s1⟩
              | 3, hj =>
                cases hj
                exact ⟨f4, _, rfl, M4.same sG, _, rfl, o, es, rfl, SqL.of hoG, b8, _, rfl, v, es, rfl, .inr ⟨by omega, b8, rows, i9, l9, hPG, good, hlate, told _ (Same.refl _)⟩⟩
              | j + 4, hj => simp at hj
            · rintro G q
              have sG := z0.trans q.1
              refine ⟨_, rfl, Z, _, _, _, rfl, rfl, SqL.of (sG _ _ hZA), at_of (j := 0) rfl rfl, sizeS (by show 3 ≤ 100000; decide), fun t7 ht7 => ⟨sizeS (by show 1 ≤ 100000; decide), fun l7 hl7 => ⟨l7, 4, _, rfl, rfl, upd_same, by decide, by decide, sizeS (by show 1 * 4 ≤ 100000; decide), fun l8 hl8 => ?_⟩⟩⟩
              have z1 := Same.new (o := .tup [.str "refused", .str "Beyond", .int (i9 : Int)]) ht7
              have z2 := Same.new (o := .lst [.ref t7]) hl7
              have z3 := Same.new (o := .lst (List.replicate (4 : Int).toNat [V.ref t7]).flatten) hl8
              obtain ⟨acc, hacc, pacc⟩ := q.sd (K := K) ((z1.trans z2).trans z3) ((z2.trans z3) _ _ upd_same) (fl3 _ _)
              refine ⟨Y, l8, acc, List.replicate 4 (.ref t7), rfl, rfl, .inr ⟨SqL.of hacc, SqL.of upd_same⟩, pacc, _, rfl, (if_neg (fun z => nomatch z)).mpr ?_⟩
              exact ⟨rfl, ((sG.trans z1).trans z2).trans z3⟩
        rintro σ HB ⟨rfl, sB⟩
        have DB := DA.same sB
        have hPB := hPA.tups (Same.tups sB)
        have hRB := hRA.same sB
        have hoB := sB _ _ hoA
        have hZB := sB _ _ hZA
        have tB := Tabs.same tA sB
        clear DA hPA hRA hoA hZA tA M1 M2 M3 M4 hl39 sB
        refine ⟨fun σ H => σ = [some (.ref a), some (.ref d), some (.int (0 + (i : Int))), some (.ref p), some v, some (.ref o), some (.byt (byteArr zr)), some (.ref l3), v8, some (.ref Z), v10, v11] ∧ Same HB H, ?_, ?_⟩
        · refine ⟨_, rfl, sizeS (by show 0 ≤ 100000; decide), fun e0 he0 => ?_⟩
          have z0 := Same.new (o := .lst []) he0
          refine ⟨_, _, dp_ints (z0 _ _ hZB), dp_ints (ns := []) upd_same, PySem.W.ke_shaped_ints _, PySem.W.ke_shaped_ints _, _, rfl, ?_⟩
          rcases late with _ | ⟨i9, l9⟩
          · refine (if_pos (by rw [late_nil])).mpr ?_
            have hok2 : ∀ r ∈ rows, r.ok es.length := fun r hr => by
              have h1 := hok r hr
              have h2 := lateF_nil hlate r hr
              cases r with
              | copy b n => exact ⟨h1.1, h1.2.1, by have : ¬ ((es.length : Int) < b + n) := of_decide_eq_false h2; omega⟩
              | run b n => exact h1
              | bring bs => exact h1
            have hdl := done_len es hok2
            refine ⟨_, rfl, _, rfl, o, es, rfl, SqL.of (z0 _ _ hoB), b8, v, rows, es, rfl, hPB.tups (Same.tups z0), good, hok2, b8, by omega, fun H6 s6 => ⟨doneOf rows es, rfl, done_B8 hok2 b8, by omega, fun u hu => ?_⟩⟩
            have s56 := (z0.trans s6).trans (Same.new (o := .lst (List.map V.int (doneOf rows es))) hu)
            refine ⟨_, rfl, _, rfl, p, o, rows, es, rfl, hRB.same s56, hok2, s56 _ _ hoB, by omega, by omega, fun H7 y s7 hy hy7 => ?_⟩
            refine ⟨_, _, dp_ints (s7 _ _ upd_same), dp_ints hy7, PySem.W.ke_shaped_ints _, PySem.W.ke_shaped_ints _, ?_⟩
            rw [eqv_ints]
            exact ⟨_, rfl, (if_neg (fun z => nomatch z)).mpr ⟨rfl, s56.trans s7⟩⟩
          · exact (if_neg (by rw [late_cons]; exact fun z => nomatch z)).mpr ((if_neg (fun z => nomatch z)).mpr ⟨rfl, z0⟩)
        rintro σ HC ⟨rfl, sC⟩
        have DC := DB.same sC
        have hoC := sC _ _ hoB
        have tC := Tabs.same tB sC
        clear DB hPB hRB hoB hZB tB sC
        -- counts that can't be
        obtain ⟨_, eDC⟩ := DC.is
        refine ⟨_, rfl, _, rfl, (1 : Int), rfl, sizeS (by show 2 ≤ 100000; decide), fun q3 hq3 => ?_⟩
        have z3 := Same.new (o := .lst [V.int 256, V.int (-1)]) hq3
        have D3' := DC.same z3
        obtain ⟨_, e3⟩ := D3'.is
        refine ⟨a, ns, d, q3, _, rfl, D3', DC.ne hq3, upd_same, by show 0 < 2; decide, by show 2 ≤ 1000; decide, fun HD z bD DD hz => ?_⟩
        obtain ⟨zi, rfl, zb, zn⟩ : ∃ zi : Int, z = .int zi ∧ (-1000 ≤ zi ∧ zi ≤ 1000) ∧ ¬ (0 ≤ zi ∧ zi ≤ 255) := by
          rcases List.mem_cons.mp hz with rfl | hz
          · exact ⟨256, rfl, by decide, by decide⟩
          · rw [List.mem_singleton.mp hz]
            exact ⟨-1, rfl, by decide, by decide⟩
        have hoD := bD _ _ od (z3 _ _ hoC)
        have tD := Tabs.but (Tabs.same tC z3) e3 bD
        refine ⟨sizeS (by show 1 ≤ 100000; decide), fun q4 hq4 => ⟨o, q4, _, _, rfl, rfl, Same.new hq4 _ _ hoD, upd_same, sizeS (by rw [List.length_map]; show es.length + 1 ≤ 100000; omega), fun q5 hq5 => ?_⟩⟩
        have z4 := Same.new (o := .lst [V.int zi]) hq4
        have z5 := Same.new (o := .lst (List.map V.int es ++ [V.int zi])) hq5
        refine ⟨_, rfl, q5, o, _, _, rfl, rfl, upd_same, (z4.trans z5) _ _ hoD, sizeS (by rw [List.length_append, List.length_map]; show es.length + 1 + es.length ≤ 100000; omega), fun q6 hq6 => ?_⟩
        have z6 := Same.new (o := .lst (List.map V.int es ++ [V.int zi] ++ List.map V.int es)) hq6
        have z46 := (z4.trans z5).trans z6
        refine ⟨Tabs.same tD z46, fun HE eE tE => ?_⟩
        have h6 : HE q6 = some (.lst (List.map V.int (es ++ [zi] ++ es))) := by
          have := eE _ _ (upd_same (H := upd (upd HD q4 (.lst [V.int zi])) q5 (.lst (List.map V.int es ++ [V.int zi]))) (a := q6) (o := .lst (List.map V.int es ++ [V.int zi] ++ List.map V.int es))) (fun ps z => by cases z)
          rw [this, List.map_append, List.map_append]
          rfl
        refine ⟨_, rfl, q6, es ++ [zi] ++ es, rfl, h6, fun y hy => ?_, ⟨zi, List.mem_append_left _ (List.mem_append_right _ (List.mem_singleton.mpr rfl)), zn⟩, fun HF sF => ?_⟩
        · rcases List.mem_append.mp hy with hy | hy
          · rcases List.mem_append.mp hy with hy | hy
            · have := b8 y hy; omega
            · rw [List.mem_singleton.mp hy]; exact zb
          · have := b8 y hy; omega
        refine ⟨6, T.k_BadCount, rfl, by decide, TC6, .inr ⟨rfl, rfl, fun HG pe se _ hpe => ⟨sizeS (by show 2 ≤ 100000; decide), fun q8 hq8 => ?_⟩⟩⟩
        have s8 := Same.new (o := .tup [.str "refused", .str "BadCount"]) hq8
        refine ⟨pe, q8, _, _, rfl, rfl, .inl ⟨SqT.of (s8 _ _ hpe), SqT.of upd_same⟩, Sd.flat (fl2 _), _, rfl, (if_neg (fun z => nomatch z)).mpr ?_⟩
        have sEnd := (sF.trans se).trans s8
        exact ⟨_, _, _, _, _, _, _, _, _, _, rfl, ((DD.same z46).ext eE).same sEnd, Tabs.same tE sEnd⟩
    · rintro σ H2 ⟨v2, v3, v4, v5, v6, v7, v8, v9, v10, v11, rfl, D2, tb2⟩
      refine ⟨sizeS (by show 3 ≤ 100000; decide), fun l hl => ⟨l, [0, 255, 7], rfl, SqL.of upd_same, b8_three, [0, 255, 7], rfl, b8_three, by decide, fun u hu => ⟨sizeS (by show 3 ≤ 100000; decide), fun y hy => ?_⟩⟩⟩
      refine ⟨_, _, dp_ints (Same.new hy _ _ upd_same), dp_ints (ns := [0, 255, 7]) upd_same, PySem.W.ke_shaped_ints _, PySem.W.ke_shaped_ints _, ?_⟩
      rw [eqv_ints]
      exact k _
end
theorem tab_at {K : PySem.W.Frag} {x : Str} {f c P : Addr} {oc : Value} {od : Option Addr} {fd : FuncData} {sl : Array (Option Value)} {cl : Value} {cd : Option Addr} {vs : Array Value} {cs : Array (Option Value)} (a : PySem.W.nsIn K mainGlobals x = some (some (.ref f))) (l : K.lookup f = some ⟨oc, od, .func fd, sl⟩)
    (hc : fd.code = .ref c) (lc : K.lookup c = some ⟨cl, cd, .fields vs, cs⟩) (hp : vs[11]? = some (.ref P)) : PySem.W.tabIn K x = some (c, P) := by
  unfold PySem.W.tabIn
  rw [a]; dsimp only; rw [l]; dsimp only; rw [hc]; dsimp only; rw [lc]; dsimp only; rw [hp]
theorem all_mk {l : PySem.W.OpenLaw} {w : World} {K : PySem.W.Frag} {h : Heap} {mg : Str → Option Value} {fa f0 f1 f2 f3 f4 f5 f6 f7 f8 f9 f10 f11 f12 f13 f14 f15 f16 f17 f18 f19 f20 f21 f22 f23 f24 f25 f26 f27 f28 f29 f30 f31 f32 f33 f34 f35 f36 f37 f38 f39 f40 f41 f42 f43 f44 f45 f46 f47 f48 f49 f50 f51 f52 f53 f54 f55 f56 f57 k_PatchError k_BadEdition k_BadPatch k_Beyond k_BadCount k_BadMeet k_BadCode k_TooMany k_BadPieces k_BadOrder k_BadMarks k_Underway k_Asleep k_Awake k_BadCell cL PL : Addr} (X : K.In h) (G : h.Ns mainGlobals mg) (hfa : mg "law" = some (.ref fa))
    {od0 an0 od1 an1 od2 an2 od3 an3 od4 an4 od5 an5 od6 an6 od7 an7 od8 an8 od9 an9 od10 an10 od11 an11 od12 an12 od13 an13 od14 an14 od15 an15 od16 an16 od17 an17 od18 an18 od19 an19 od20 an20 od21 an21 od22 an22 od23 an23 od24 an24 od25 an25 od26 an26 od27 an27 od28 an28 od29 an29 od30 an30 od31 an31 od32 an32 od33 an33 od34 an34 od35 an35 od36 an36 od37 an37 od38 an38 od39 an39 od40 an40 od41 an41 od42 an42 od43 an43 od44 an44 od45 an45 od46 an46 od47 an47 od48 an48 od49 an49 od50 an50 od51 an51 od52 an52 od53 an53 od54 an54 od55 an55 od56 an56 od57 an57 : Option Addr} {sl0 sl1 sl2 sl3 sl4 sl5 sl6 sl7 sl8 sl9 sl10 sl11 sl12 sl13 sl14 sl15 sl16 sl17 sl18 sl19 sl20 sl21 sl22 sl23 sl24 sl25 sl26 sl27 sl28 sl29 sl30 sl31 sl32 sl33 sl34 sl35 sl36 sl37 sl38 sl39 sl40 sl41 sl42 sl43 sl44 sl45 sl46 sl47 sl48 sl49 sl50 sl51 sl52 sl53 sl54 sl55 sl56 sl57 : Array (Option Value)} {oc0 kV0 dc0 pm0 ct0 cd0 oc1 kV1 dc1 pm1 ct1 cd1 oc2 kV2 dc2 pm2 ct2 cd2 oc3 kV3 dc3 pm3 ct3 cd3 oc4 kV4 dc4 pm4 ct4 cd4 oc5 kV5 dc5 pm5 ct5 cd5 oc6 kV6 dc6 pm6 ct6 cd6 oc7 kV7 dc7 pm7 ct7 cd7 oc8 kV8 dc8 pm8 ct8 cd8 oc9 kV9 dc9 pm9 ct9 cd9 oc10 kV10 dc10 pm10 ct10 cd10 oc11 kV11 dc11 pm11 ct11 cd11 oc12 kV12 dc12 pm12 ct12 cd12 oc13 kV13 dc13 pm13 ct13 cd13 oc14 kV14 dc14 pm14 ct14 cd14 oc15 kV15 dc15 pm15 ct15 cd15 oc16 kV16 dc16 pm16 ct16 cd16 oc17 kV17 dc17 pm17 ct17 cd17 oc18 kV18 dc18 pm18 ct18 cd18 oc19 kV19 dc19 pm19 ct19 cd19 oc20 kV20 dc20 pm20 ct20 cd20 oc21 kV21 dc21 pm21 ct21 cd21 oc22 kV22 dc22 pm22 ct22 cd22 oc23 kV23 dc23 pm23 ct23 cd23 oc24 kV24 dc24 pm24 ct24 cd24 oc25 kV25 dc25 pm25 ct25 cd25 oc26 kV26 dc26 pm26 ct26 cd26 oc27 kV27 dc27 pm27 ct27 cd27 oc28 kV28 dc28 pm28 ct28 cd28 oc29 kV29 dc29 pm29 ct29 cd29 oc30 kV30 dc30 pm30 ct30 cd30 oc31 kV31 dc31 pm31 ct31 cd31 oc32 kV32 dc32 pm32 ct32 cd32 oc33 kV33 dc33 pm33 ct33 cd33 oc34 kV34 dc34 pm34 ct34 cd34 oc35 kV35 dc35 pm35 ct35 cd35 oc36 kV36 dc36 pm36 ct36 cd36 oc37 kV37 dc37 pm37 ct37 cd37 oc38 kV38 dc38 pm38 ct38 cd38 oc39 kV39 dc39 pm39 ct39 cd39 oc40 kV40 dc40 pm40 ct40 cd40 oc41 kV41 dc41 pm41 ct41 cd41 oc42 kV42 dc42 pm42 ct42 cd42 oc43 kV43 dc43 pm43 ct43 cd43 oc44 kV44 dc44 pm44 ct44 cd44 oc45 kV45 dc45 pm45 ct45 cd45 oc46 kV46 dc46 pm46 ct46 cd46 oc47 kV47 dc47 pm47 ct47 cd47 oc48 kV48 dc48 pm48 ct48 cd48 oc49 kV49 dc49 pm49 ct49 cd49 oc50 kV50 dc50 pm50 ct50 cd50 oc51 kV51 dc51 pm51 ct51 cd51 oc52 kV52 dc52 pm52 ct52 cd52 oc53 kV53 dc53 pm53 ct53 cd53 oc54 kV54 dc54 pm54 ct54 cd54 oc55 kV55 dc55 pm55 ct55 cd55 oc56 kV56 dc56 pm56 ct56 cd56 oc57 kV57 dc57 pm57 ct57 : Value}
    {clL : Value} {cdL : Option Addr} {csL : Array (Option Value)} {vsL : Array Value}
    (a0 : PySem.W.nsIn K mainGlobals "_wall" = some (some (.ref f0)))
    (l0 : K.lookup f0 = some ⟨oc0, od0, .func (PySem.W.fnOf "_wall" "_wall" (defArgs s_wall) (defBody s_wall) (defScope s_wall) .none kV0 dc0 pm0 an0 cd0 ct0), sl0⟩)
    (c0 : PySem.W.codeIn K cd0 "_wall" = true) (k0 : PySem.W.keepIn K (.ref f0) = true)
    (a1 : PySem.W.nsIn K mainGlobals "bytes_of" = some (some (.ref f1)))
    (l1 : K.lookup f1 = some ⟨oc1, od1, .func (PySem.W.fnOf "bytes_of" "bytes_of" (defArgs s_bytes_of) (defBody s_bytes_of) (defScope s_bytes_of) .none kV1 dc1 pm1 an1 cd1 ct1), sl1⟩)
    (c1 : PySem.W.codeIn K cd1 "bytes_of" = true) (k1 : PySem.W.keepIn K (.ref f1) = true)
    (a2 : PySem.W.nsIn K mainGlobals "numbers_of" = some (some (.ref f2)))
    (l2 : K.lookup f2 = some ⟨oc2, od2, .func (PySem.W.fnOf "numbers_of" "numbers_of" (defArgs s_numbers_of) (defBody s_numbers_of) (defScope s_numbers_of) .none kV2 dc2 pm2 an2 cd2 ct2), sl2⟩)
    (c2 : PySem.W.codeIn K cd2 "numbers_of" = true) (k2 : PySem.W.keepIn K (.ref f2) = true)
    (a3 : PySem.W.nsIn K mainGlobals "is_number" = some (some (.ref f3)))
    (l3 : K.lookup f3 = some ⟨oc3, od3, .func (PySem.W.fnOf "is_number" "is_number" (defArgs s_is_number) (defBody s_is_number) (defScope s_is_number) .none kV3 dc3 pm3 an3 cd3 ct3), sl3⟩)
    (c3 : PySem.W.codeIn K cd3 "is_number" = true) (k3 : PySem.W.keepIn K (.ref f3) = true)
    (a4 : PySem.W.nsIn K mainGlobals "can_be" = some (some (.ref f4)))
    (l4 : K.lookup f4 = some ⟨oc4, od4, .func (PySem.W.fnOf "can_be" "can_be" (defArgs s_can_be) (defBody s_can_be) (defScope s_can_be) .none kV4 dc4 pm4 an4 cd4 ct4), sl4⟩)
    (c4 : PySem.W.codeIn K cd4 "can_be" = true) (k4 : PySem.W.keepIn K (.ref f4) = true)
    (a5 : PySem.W.nsIn K mainGlobals "length_of" = some (some (.ref f5)))
    (l5 : K.lookup f5 = some ⟨oc5, od5, .func (PySem.W.fnOf "length_of" "length_of" (defArgs s_length_of) (defBody s_length_of) (defScope s_length_of) .none kV5 dc5 pm5 an5 cd5 ct5), sl5⟩)
    (c5 : PySem.W.codeIn K cd5 "length_of" = true) (k5 : PySem.W.keepIn K (.ref f5) = true)
    (a6 : PySem.W.nsIn K mainGlobals "cells_of" = some (some (.ref f6)))
    (l6 : K.lookup f6 = some ⟨oc6, od6, .func (PySem.W.fnOf "cells_of" "cells_of" (defArgs s_cells_of) (defBody s_cells_of) (defScope s_cells_of) .none kV6 dc6 pm6 an6 cd6 ct6), sl6⟩)
    (c6 : PySem.W.codeIn K cd6 "cells_of" = true) (k6 : PySem.W.keepIn K (.ref f6) = true)
    (a7 : PySem.W.nsIn K mainGlobals "check_edition" = some (some (.ref f7)))
    (l7 : K.lookup f7 = some ⟨oc7, od7, .func (PySem.W.fnOf "check_edition" "check_edition" (defArgs s_check_edition) (defBody s_check_edition) (defScope s_check_edition) .none kV7 dc7 pm7 an7 cd7 ct7), sl7⟩)
    (c7 : PySem.W.codeIn K cd7 "check_edition" = true) (k7 : PySem.W.keepIn K (.ref f7) = true)
    (a8 : PySem.W.nsIn K mainGlobals "check_patch" = some (some (.ref f8)))
    (l8 : K.lookup f8 = some ⟨oc8, od8, .func (PySem.W.fnOf "check_patch" "check_patch" (defArgs s_check_patch) (defBody s_check_patch) (defScope s_check_patch) .none kV8 dc8 pm8 an8 cd8 ct8), sl8⟩)
    (c8 : PySem.W.codeIn K cd8 "check_patch" = true) (k8 : PySem.W.keepIn K (.ref f8) = true)
    (a9 : PySem.W.nsIn K mainGlobals "check_reach" = some (some (.ref f9)))
    (l9 : K.lookup f9 = some ⟨oc9, od9, .func (PySem.W.fnOf "check_reach" "check_reach" (defArgs s_check_reach) (defBody s_check_reach) (defScope s_check_reach) .none kV9 dc9 pm9 an9 cd9 ct9), sl9⟩)
    (c9 : PySem.W.codeIn K cd9 "check_reach" = true) (k9 : PySem.W.keepIn K (.ref f9) = true)
    (a10 : PySem.W.nsIn K mainGlobals "done" = some (some (.ref f10)))
    (l10 : K.lookup f10 = some ⟨oc10, od10, .func (PySem.W.fnOf "done" "done" (defArgs s_done) (defBody s_done) (defScope s_done) .none kV10 dc10 pm10 an10 cd10 ct10), sl10⟩)
    (c10 : PySem.W.codeIn K cd10 "done" = true) (k10 : PySem.W.keepIn K (.ref f10) = true)
    (a11 : PySem.W.nsIn K mainGlobals "makes" = some (some (.ref f11)))
    (l11 : K.lookup f11 = some ⟨oc11, od11, .func (PySem.W.fnOf "makes" "makes" (defArgs s_makes) (defBody s_makes) (defScope s_makes) .none kV11 dc11 pm11 an11 cd11 ct11), sl11⟩)
    (c11 : PySem.W.codeIn K cd11 "makes" = true) (k11 : PySem.W.keepIn K (.ref f11) = true)
    (a12 : PySem.W.nsIn K mainGlobals "cells" = some (some (.ref f12)))
    (l12 : K.lookup f12 = some ⟨oc12, od12, .func (PySem.W.fnOf "cells" "cells" (defArgs s_cells) (defBody s_cells) (defScope s_cells) .none kV12 dc12 pm12 an12 cd12 ct12), sl12⟩)
    (c12 : PySem.W.codeIn K cd12 "cells" = true) (k12 : PySem.W.keepIn K (.ref f12) = true)
    (a13 : PySem.W.nsIn K mainGlobals "hangs" = some (some (.ref f13)))
    (l13 : K.lookup f13 = some ⟨oc13, od13, .func (PySem.W.fnOf "hangs" "hangs" (defArgs s_hangs) (defBody s_hangs) (defScope s_hangs) .none kV13 dc13 pm13 an13 cd13 ct13), sl13⟩)
    (c13 : PySem.W.codeIn K cd13 "hangs" = true) (k13 : PySem.W.keepIn K (.ref f13) = true)
    (a14 : PySem.W.nsIn K mainGlobals "order" = some (some (.ref f14)))
    (l14 : K.lookup f14 = some ⟨oc14, od14, .func (PySem.W.fnOf "order" "order" (defArgs s_order) (defBody s_order) (defScope s_order) .none kV14 dc14 pm14 an14 cd14 ct14), sl14⟩)
    (c14 : PySem.W.codeIn K cd14 "order" = true) (k14 : PySem.W.keepIn K (.ref f14) = true)
    (a15 : PySem.W.nsIn K mainGlobals "starts" = some (some (.ref f15)))
    (l15 : K.lookup f15 = some ⟨oc15, od15, .func (PySem.W.fnOf "starts" "starts" (defArgs s_starts) (defBody s_starts) (defScope s_starts) .none kV15 dc15 pm15 an15 cd15 ct15), sl15⟩)
    (c15 : PySem.W.codeIn K cd15 "starts" = true) (k15 : PySem.W.keepIn K (.ref f15) = true)
    (a16 : PySem.W.nsIn K mainGlobals "moving" = some (some (.ref f16)))
    (l16 : K.lookup f16 = some ⟨oc16, od16, .func (PySem.W.fnOf "moving" "moving" (defArgs s_moving) (defBody s_moving) (defScope s_moving) .none kV16 dc16 pm16 an16 cd16 ct16), sl16⟩)
    (c16 : PySem.W.codeIn K cd16 "moving" = true) (k16 : PySem.W.keepIn K (.ref f16) = true)
    (a17 : PySem.W.nsIn K mainGlobals "writers_of" = some (some (.ref f17)))
    (l17 : K.lookup f17 = some ⟨oc17, od17, .func (PySem.W.fnOf "writers_of" "writers_of" (defArgs s_writers_of) (defBody s_writers_of) (defScope s_writers_of) .none kV17 dc17 pm17 an17 cd17 ct17), sl17⟩)
    (c17 : PySem.W.codeIn K cd17 "writers_of" = true) (k17 : PySem.W.keepIn K (.ref f17) = true)
    (a18 : PySem.W.nsIn K mainGlobals "cells_read" = some (some (.ref f18)))
    (l18 : K.lookup f18 = some ⟨oc18, od18, .func (PySem.W.fnOf "cells_read" "cells_read" (defArgs s_cells_read) (defBody s_cells_read) (defScope s_cells_read) .none kV18 dc18 pm18 an18 cd18 ct18), sl18⟩)
    (c18 : PySem.W.codeIn K cd18 "cells_read" = true) (k18 : PySem.W.keepIn K (.ref f18) = true)
    (a19 : PySem.W.nsIn K mainGlobals "hung_from" = some (some (.ref f19)))
    (l19 : K.lookup f19 = some ⟨oc19, od19, .func (PySem.W.fnOf "hung_from" "hung_from" (defArgs s_hung_from) (defBody s_hung_from) (defScope s_hung_from) .none kV19 dc19 pm19 an19 cd19 ct19), sl19⟩)
    (c19 : PySem.W.codeIn K cd19 "hung_from" = true) (k19 : PySem.W.keepIn K (.ref f19) = true)
    (a20 : PySem.W.nsIn K mainGlobals "lightest" = some (some (.ref f20)))
    (l20 : K.lookup f20 = some ⟨oc20, od20, .func (PySem.W.fnOf "lightest" "lightest" (defArgs s_lightest) (defBody s_lightest) (defScope s_lightest) .none kV20 dc20 pm20 an20 cd20 ct20), sl20⟩)
    (c20 : PySem.W.codeIn K cd20 "lightest" = true) (k20 : PySem.W.keepIn K (.ref f20) = true)
    (a21 : PySem.W.nsIn K mainGlobals "brought" = some (some (.ref f21)))
    (l21 : K.lookup f21 = some ⟨oc21, od21, .func (PySem.W.fnOf "brought" "brought" (defArgs s_brought) (defBody s_brought) (defScope s_brought) .none kV21 dc21 pm21 an21 cd21 ct21), sl21⟩)
    (c21 : PySem.W.codeIn K cd21 "brought" = true) (k21 : PySem.W.keepIn K (.ref f21) = true)
    (a22 : PySem.W.nsIn K mainGlobals "as_done" = some (some (.ref f22)))
    (l22 : K.lookup f22 = some ⟨oc22, od22, .func (PySem.W.fnOf "as_done" "as_done" (defArgs s_as_done) (defBody s_as_done) (defScope s_as_done) .none kV22 dc22 pm22 an22 cd22 ct22), sl22⟩)
    (c22 : PySem.W.codeIn K cd22 "as_done" = true) (k22 : PySem.W.keepIn K (.ref f22) = true)
    (a23 : PySem.W.nsIn K mainGlobals "check_copies" = some (some (.ref f23)))
    (l23 : K.lookup f23 = some ⟨oc23, od23, .func (PySem.W.fnOf "check_copies" "check_copies" (defArgs s_check_copies) (defBody s_check_copies) (defScope s_check_copies) .none kV23 dc23 pm23 an23 cd23 ct23), sl23⟩)
    (c23 : PySem.W.codeIn K cd23 "check_copies" = true) (k23 : PySem.W.keepIn K (.ref f23) = true)
    (a24 : PySem.W.nsIn K mainGlobals "as_brought" = some (some (.ref f24)))
    (l24 : K.lookup f24 = some ⟨oc24, od24, .func (PySem.W.fnOf "as_brought" "as_brought" (defArgs s_as_brought) (defBody s_as_brought) (defScope s_as_brought) .none kV24 dc24 pm24 an24 cd24 ct24), sl24⟩)
    (c24 : PySem.W.codeIn K cd24 "as_brought" = true) (k24 : PySem.W.keepIn K (.ref f24) = true)
    (a25 : PySem.W.nsIn K mainGlobals "knots" = some (some (.ref f25)))
    (l25 : K.lookup f25 = some ⟨oc25, od25, .func (PySem.W.fnOf "knots" "knots" (defArgs s_knots) (defBody s_knots) (defScope s_knots) .none kV25 dc25 pm25 an25 cd25 ct25), sl25⟩)
    (c25 : PySem.W.codeIn K cd25 "knots" = true) (k25 : PySem.W.keepIn K (.ref f25) = true)
    (a26 : PySem.W.nsIn K mainGlobals "reached" = some (some (.ref f26)))
    (l26 : K.lookup f26 = some ⟨oc26, od26, .func (PySem.W.fnOf "reached" "reached" (defArgs s_reached) (defBody s_reached) (defScope s_reached) .none kV26 dc26 pm26 an26 cd26 ct26), sl26⟩)
    (c26 : PySem.W.codeIn K cd26 "reached" = true) (k26 : PySem.W.keepIn K (.ref f26) = true)
    (a27 : PySem.W.nsIn K mainGlobals "lightest_of" = some (some (.ref f27)))
    (l27 : K.lookup f27 = some ⟨oc27, od27, .func (PySem.W.fnOf "lightest_of" "lightest_of" (defArgs s_lightest_of) (defBody s_lightest_of) (defScope s_lightest_of) .none kV27 dc27 pm27 an27 cd27 ct27), sl27⟩)
    (c27 : PySem.W.codeIn K cd27 "lightest_of" = true) (k27 : PySem.W.keepIn K (.ref f27) = true)
    (a28 : PySem.W.nsIn K mainGlobals "bits_of" = some (some (.ref f28)))
    (l28 : K.lookup f28 = some ⟨oc28, od28, .func (PySem.W.fnOf "bits_of" "bits_of" (defArgs s_bits_of) (defBody s_bits_of) (defScope s_bits_of) .none kV28 dc28 pm28 an28 cd28 ct28), sl28⟩)
    (c28 : PySem.W.codeIn K cd28 "bits_of" = true) (k28 : PySem.W.keepIn K (.ref f28) = true)
    (a29 : PySem.W.nsIn K mainGlobals "lots_without_rings" = some (some (.ref f29)))
    (l29 : K.lookup f29 = some ⟨oc29, od29, .func (PySem.W.fnOf "lots_without_rings" "lots_without_rings" (defArgs s_lots_without_rings) (defBody s_lots_without_rings) (defScope s_lots_without_rings) .none kV29 dc29 pm29 an29 cd29 ct29), sl29⟩)
    (c29 : PySem.W.codeIn K cd29 "lots_without_rings" = true) (k29 : PySem.W.keepIn K (.ref f29) = true)
    (a30 : PySem.W.nsIn K mainGlobals "is_free" = some (some (.ref f30)))
    (l30 : K.lookup f30 = some ⟨oc30, od30, .func (PySem.W.fnOf "is_free" "is_free" (defArgs s_is_free) (defBody s_is_free) (defScope s_is_free) .none kV30 dc30 pm30 an30 cd30 ct30), sl30⟩)
    (c30 : PySem.W.codeIn K cd30 "is_free" = true) (k30 : PySem.W.keepIn K (.ref f30) = true)
    (a31 : PySem.W.nsIn K mainGlobals "steps" = some (some (.ref f31)))
    (l31 : K.lookup f31 = some ⟨oc31, od31, .func (PySem.W.fnOf "steps" "steps" (defArgs s_steps) (defBody s_steps) (defScope s_steps) .none kV31 dc31 pm31 an31 cd31 ct31), sl31⟩)
    (c31 : PySem.W.codeIn K cd31 "steps" = true) (k31 : PySem.W.keepIn K (.ref f31) = true)
    (a32 : PySem.W.nsIn K mainGlobals "marks" = some (some (.ref f32)))
    (l32 : K.lookup f32 = some ⟨oc32, od32, .func (PySem.W.fnOf "marks" "marks" (defArgs s_marks) (defBody s_marks) (defScope s_marks) .none kV32 dc32 pm32 an32 cd32 ct32), sl32⟩)
    (c32 : PySem.W.codeIn K cd32 "marks" = true) (k32 : PySem.W.keepIn K (.ref f32) = true)
    (a33 : PySem.W.nsIn K mainGlobals "check_order" = some (some (.ref f33)))
    (l33 : K.lookup f33 = some ⟨oc33, od33, .func (PySem.W.fnOf "check_order" "check_order" (defArgs s_check_order) (defBody s_check_order) (defScope s_check_order) .none kV33 dc33 pm33 an33 cd33 ct33), sl33⟩)
    (c33 : PySem.W.codeIn K cd33 "check_order" = true) (k33 : PySem.W.keepIn K (.ref f33) = true)
    (a34 : PySem.W.nsIn K mainGlobals "may_stand" = some (some (.ref f34)))
    (l34 : K.lookup f34 = some ⟨oc34, od34, .func (PySem.W.fnOf "may_stand" "may_stand" (defArgs s_may_stand) (defBody s_may_stand) (defScope s_may_stand) .none kV34 dc34 pm34 an34 cd34 ct34), sl34⟩)
    (c34 : PySem.W.codeIn K cd34 "may_stand" = true) (k34 : PySem.W.keepIn K (.ref f34) = true)
    (a35 : PySem.W.nsIn K mainGlobals "piece_steps" = some (some (.ref f35)))
    (l35 : K.lookup f35 = some ⟨oc35, od35, .func (PySem.W.fnOf "piece_steps" "piece_steps" (defArgs s_piece_steps) (defBody s_piece_steps) (defScope s_piece_steps) .none kV35 dc35 pm35 an35 cd35 ct35), sl35⟩)
    (c35 : PySem.W.codeIn K cd35 "piece_steps" = true) (k35 : PySem.W.keepIn K (.ref f35) = true)
    (a36 : PySem.W.nsIn K mainGlobals "histories" = some (some (.ref f36)))
    (l36 : K.lookup f36 = some ⟨oc36, od36, .func (PySem.W.fnOf "histories" "histories" (defArgs s_histories) (defBody s_histories) (defScope s_histories) .none kV36 dc36 pm36 an36 cd36 ct36), sl36⟩)
    (c36 : PySem.W.codeIn K cd36 "histories" = true) (k36 : PySem.W.keepIn K (.ref f36) = true)
    (a37 : PySem.W.nsIn K mainGlobals "all_end" = some (some (.ref f37)))
    (l37 : K.lookup f37 = some ⟨oc37, od37, .func (PySem.W.fnOf "all_end" "all_end" (defArgs s_all_end) (defBody s_all_end) (defScope s_all_end) .none kV37 dc37 pm37 an37 cd37 ct37), sl37⟩)
    (c37 : PySem.W.codeIn K cd37 "all_end" = true) (k37 : PySem.W.keepIn K (.ref f37) = true)
    (a38 : PySem.W.nsIn K mainGlobals "begun" = some (some (.ref f38)))
    (l38 : K.lookup f38 = some ⟨oc38, od38, .func (PySem.W.fnOf "begun" "begun" (defArgs s_begun) (defBody s_begun) (defScope s_begun) .none kV38 dc38 pm38 an38 cd38 ct38), sl38⟩)
    (c38 : PySem.W.codeIn K cd38 "begun" = true) (k38 : PySem.W.keepIn K (.ref f38) = true)
    (a39 : PySem.W.nsIn K mainGlobals "from_cut_to_end" = some (some (.ref f39)))
    (l39 : K.lookup f39 = some ⟨oc39, od39, .func (PySem.W.fnOf "from_cut_to_end" "from_cut_to_end" (defArgs s_from_cut_to_end) (defBody s_from_cut_to_end) (defScope s_from_cut_to_end) .none kV39 dc39 pm39 an39 cd39 ct39), sl39⟩)
    (c39 : PySem.W.codeIn K cd39 "from_cut_to_end" = true) (k39 : PySem.W.keepIn K (.ref f39) = true)
    (a40 : PySem.W.nsIn K mainGlobals "number_size" = some (some (.ref f40)))
    (l40 : K.lookup f40 = some ⟨oc40, od40, .func (PySem.W.fnOf "number_size" "number_size" (defArgs s_number_size) (defBody s_number_size) (defScope s_number_size) .none kV40 dc40 pm40 an40 cd40 ct40), sl40⟩)
    (c40 : PySem.W.codeIn K cd40 "number_size" = true) (k40 : PySem.W.keepIn K (.ref f40) = true)
    (a41 : PySem.W.nsIn K mainGlobals "first_number" = some (some (.ref f41)))
    (l41 : K.lookup f41 = some ⟨oc41, od41, .func (PySem.W.fnOf "first_number" "first_number" (defArgs s_first_number) (defBody s_first_number) (defScope s_first_number) .none kV41 dc41 pm41 an41 cd41 ct41), sl41⟩)
    (c41 : PySem.W.codeIn K cd41 "first_number" = true) (k41 : PySem.W.keepIn K (.ref f41) = true)
    (a42 : PySem.W.nsIn K mainGlobals "piece_size" = some (some (.ref f42)))
    (l42 : K.lookup f42 = some ⟨oc42, od42, .func (PySem.W.fnOf "piece_size" "piece_size" (defArgs s_piece_size) (defBody s_piece_size) (defScope s_piece_size) .none kV42 dc42 pm42 an42 cd42 ct42), sl42⟩)
    (c42 : PySem.W.codeIn K cd42 "piece_size" = true) (k42 : PySem.W.keepIn K (.ref f42) = true)
    (a43 : PySem.W.nsIn K mainGlobals "least" = some (some (.ref f43)))
    (l43 : K.lookup f43 = some ⟨oc43, od43, .func (PySem.W.fnOf "least" "least" (defArgs s_least) (defBody s_least) (defScope s_least) .none kV43 dc43 pm43 an43 cd43 ct43), sl43⟩)
    (c43 : PySem.W.codeIn K cd43 "least" = true) (k43 : PySem.W.keepIn K (.ref f43) = true)
    (a44 : PySem.W.nsIn K mainGlobals "one_behind_the_other" = some (some (.ref f44)))
    (l44 : K.lookup f44 = some ⟨oc44, od44, .func (PySem.W.fnOf "one_behind_the_other" "one_behind_the_other" (defArgs s_one_behind_the_other) (defBody s_one_behind_the_other) (defScope s_one_behind_the_other) .none kV44 dc44 pm44 an44 cd44 ct44), sl44⟩)
    (c44 : PySem.W.codeIn K cd44 "one_behind_the_other" = true) (k44 : PySem.W.keepIn K (.ref f44) = true)
    (a45 : PySem.W.nsIn K mainGlobals "next_pieces" = some (some (.ref f45)))
    (l45 : K.lookup f45 = some ⟨oc45, od45, .func (PySem.W.fnOf "next_pieces" "next_pieces" (defArgs s_next_pieces) (defBody s_next_pieces) (defScope s_next_pieces) .none kV45 dc45 pm45 an45 cd45 ct45), sl45⟩)
    (c45 : PySem.W.codeIn K cd45 "next_pieces" = true) (k45 : PySem.W.keepIn K (.ref f45) = true)
    (a46 : PySem.W.nsIn K mainGlobals "next_copies" = some (some (.ref f46)))
    (l46 : K.lookup f46 = some ⟨oc46, od46, .func (PySem.W.fnOf "next_copies" "next_copies" (defArgs s_next_copies) (defBody s_next_copies) (defScope s_next_copies) .none kV46 dc46 pm46 an46 cd46 ct46), sl46⟩)
    (c46 : PySem.W.codeIn K cd46 "next_copies" = true) (k46 : PySem.W.keepIn K (.ref f46) = true)
    (a47 : PySem.W.nsIn K mainGlobals "next_runs" = some (some (.ref f47)))
    (l47 : K.lookup f47 = some ⟨oc47, od47, .func (PySem.W.fnOf "next_runs" "next_runs" (defArgs s_next_runs) (defBody s_next_runs) (defScope s_next_runs) .none kV47 dc47 pm47 an47 cd47 ct47), sl47⟩)
    (c47 : PySem.W.codeIn K cd47 "next_runs" = true) (k47 : PySem.W.keepIn K (.ref f47) = true)
    (a48 : PySem.W.nsIn K mainGlobals "_law_dice" = some (some (.ref f48)))
    (l48 : K.lookup f48 = some ⟨oc48, od48, .func (PySem.W.fnOf "_law_dice" "_law_dice" (defArgs s_law_dice) (defBody s_law_dice) (defScope s_law_dice) .none kV48 dc48 pm48 an48 cd48 ct48), sl48⟩)
    (c48 : PySem.W.codeIn K cd48 "_law_dice" = true) (k48 : PySem.W.keepIn K (.ref f48) = true)
    (a49 : PySem.W.nsIn K mainGlobals "_law_next" = some (some (.ref f49)))
    (l49 : K.lookup f49 = some ⟨oc49, od49, .func (PySem.W.fnOf "_law_next" "_law_next" (defArgs s_law_next) (defBody s_law_next) (defScope s_law_next) .none kV49 dc49 pm49 an49 cd49 ct49), sl49⟩)
    (c49 : PySem.W.codeIn K cd49 "_law_next" = true) (k49 : PySem.W.keepIn K (.ref f49) = true)
    (a50 : PySem.W.nsIn K mainGlobals "_law_pick" = some (some (.ref f50)))
    (l50 : K.lookup f50 = some ⟨oc50, od50, .func (PySem.W.fnOf "_law_pick" "_law_pick" (defArgs s_law_pick) (defBody s_law_pick) (defScope s_law_pick) .none kV50 dc50 pm50 an50 cd50 ct50), sl50⟩)
    (c50 : PySem.W.codeIn K cd50 "_law_pick" = true) (k50 : PySem.W.keepIn K (.ref f50) = true)
    (a51 : PySem.W.nsIn K mainGlobals "_law_told" = some (some (.ref f51)))
    (l51 : K.lookup f51 = some ⟨oc51, od51, .func (PySem.W.fnOf "_law_told" "_law_told" (defArgs s_law_told) (defBody s_law_told) (defScope s_law_told) .none kV51 dc51 pm51 an51 cd51 ct51), sl51⟩)
    (c51 : PySem.W.codeIn K cd51 "_law_told" = true) (k51 : PySem.W.keepIn K (.ref f51) = true)
    (a52 : PySem.W.nsIn K mainGlobals "_law_bytes" = some (some (.ref f52)))
    (l52 : K.lookup f52 = some ⟨oc52, od52, .func (PySem.W.fnOf "_law_bytes" "_law_bytes" (defArgs s_law_bytes) (defBody s_law_bytes) (defScope s_law_bytes) .none kV52 dc52 pm52 an52 cd52 ct52), sl52⟩)
    (c52 : PySem.W.codeIn K cd52 "_law_bytes" = true) (k52 : PySem.W.keepIn K (.ref f52) = true)
    (a53 : PySem.W.nsIn K mainGlobals "_law_rows" = some (some (.ref f53)))
    (l53 : K.lookup f53 = some ⟨oc53, od53, .func (PySem.W.fnOf "_law_rows" "_law_rows" (defArgs s_law_rows) (defBody s_law_rows) (defScope s_law_rows) .none kV53 dc53 pm53 an53 cd53 ct53), sl53⟩)
    (c53 : PySem.W.codeIn K cd53 "_law_rows" = true) (k53 : PySem.W.keepIn K (.ref f53) = true)
    (a54 : PySem.W.nsIn K mainGlobals "_law_handed" = some (some (.ref f54)))
    (l54 : K.lookup f54 = some ⟨oc54, od54, .func (PySem.W.fnOf "_law_handed" "_law_handed" (defArgs s_law_handed) (defBody s_law_handed) (defScope s_law_handed) .none kV54 dc54 pm54 an54 cd54 ct54), sl54⟩)
    (c54 : PySem.W.codeIn K cd54 "_law_handed" = true) (k54 : PySem.W.keepIn K (.ref f54) = true)
    (a55 : PySem.W.nsIn K mainGlobals "_law_cells" = some (some (.ref f55)))
    (l55 : K.lookup f55 = some ⟨oc55, od55, .func (PySem.W.fnOf "_law_cells" "_law_cells" (defArgs s_law_cells) (defBody s_law_cells) (defScope s_law_cells) .none kV55 dc55 pm55 an55 cd55 ct55), sl55⟩)
    (c55 : PySem.W.codeIn K cd55 "_law_cells" = true) (k55 : PySem.W.keepIn K (.ref f55) = true)
    (a56 : PySem.W.nsIn K mainGlobals "_law_new" = some (some (.ref f56)))
    (l56 : K.lookup f56 = some ⟨oc56, od56, .func (PySem.W.fnOf "_law_new" "_law_new" (defArgs s_law_new) (defBody s_law_new) (defScope s_law_new) .none kV56 dc56 pm56 an56 cd56 ct56), sl56⟩)
    (c56 : PySem.W.codeIn K cd56 "_law_new" = true) (k56 : PySem.W.keepIn K (.ref f56) = true)
    (a57 : PySem.W.nsIn K mainGlobals "law" = some (some (.ref f57)))
    (l57 : K.lookup f57 = some ⟨oc57, od57, .func (PySem.W.fnOf "law" "law" (defArgs s_law) (defBody s_law) (defScope s_law) .none kV57 dc57 pm57 an57 (.ref cL) ct57), sl57⟩)
    (c57 : PySem.W.codeIn K (.ref cL) "law" = true) (k57 : PySem.W.keepIn K (.ref f57) = true)
    {t0 : Tok} (z0 : PySem.W.nsIn K mainGlobals "MOST" = some (some (.int 200 t0)))
    {t1 : Tok} (z1 : PySem.W.nsIn K mainGlobals "LAST_BYTE" = some (some (.int 255 t1)))
    {t2 : Tok} (z2 : PySem.W.nsIn K mainGlobals "MOST_IN_KNOT" = some (some (.int 14 t2)))
    {t3 : Tok} (z3 : PySem.W.nsIn K mainGlobals "CELLS" = some (some (.int 200 t3)))
    {t4 : Tok} (z4 : PySem.W.nsIn K mainGlobals "PLACES" = some (some (.int 2 t4)))
    {t5 : Tok} (z5 : PySem.W.nsIn K mainGlobals "MOST_WRITES" = some (some (.int 10000 t5)))
    {a_6 : Addr} {its_6 : Array Value} {n_6 : Nat} {sl_6 : Array (Option Value)} {t6_0 t6_1 t6_2 : Tok}
    (z6 : PySem.W.nsIn K mainGlobals "WORDS" = some (some (.ref a_6)))
    (y6 : K.lookup a_6 = some ⟨.type "tuple", none, .seq its_6 n_6, sl_6⟩)
    (x6 : its_6 = #[.str "copy" t6_0, .str "bring" t6_1, .str "run" t6_2])
    {t7 : Tok} (z7 : PySem.W.nsIn K mainGlobals "SEVENS" = some (some (.int 128 t7)))
    {t8 : Tok} (z8 : PySem.W.nsIn K mainGlobals "MOST_SEVENS" = some (some (.int 2 t8)))
    {kc_Work f_Work_init : Addr}
    {od_Work_init an_Work_init : Option Addr} {sl_Work_init : Array (Option Value)} {oc_Work_init kV_Work_init dc_Work_init pm_Work_init cd_Work_init ct_Work_init : Value}
    (zc_Work : PySem.W.nsIn K mainGlobals "Work" = some (some (.ref kc_Work)))
    (zp_Work : PySem.W.plainGet K kc_Work Str.empty = true)
    (zh_Work : PySem.W.hasDictIn K kc_Work = true)
    (zo_Work : PySem.W.plainOver K kc_Work = true)
    (zs_Work : PySem.W.findIn K (.ref kc_Work) "__setattr__" = some (some (.builtin "object.__setattr__")))
    (zm_Work : PySem.W.makesIn K kc_Work = true)
    (zk_Work : PySem.W.keepIn K (.ref kc_Work) = true)
    (zn_Work_before : PySem.W.findIn K (.ref kc_Work) "before" = some none)
    (zn_Work_patch : PySem.W.findIn K (.ref kc_Work) "patch" = some none)
    (zn_Work_steps : PySem.W.findIn K (.ref kc_Work) "steps" = some none)
    (zn_Work_marks : PySem.W.findIn K (.ref kc_Work) "marks" = some none)
    (a_Work_init : PySem.W.findIn K (.ref kc_Work) "__init__" = some (some (.ref f_Work_init)))
    (i_Work_init : PySem.W.isFn K (.ref f_Work_init) = true)
    (l_Work_init : K.lookup f_Work_init = some ⟨oc_Work_init, od_Work_init, .func (PySem.W.fnOf "__init__" "Work.__init__" (defArgs s_Work_init) (defBody s_Work_init) (defScope s_Work_init) .none kV_Work_init dc_Work_init pm_Work_init an_Work_init cd_Work_init ct_Work_init), sl_Work_init⟩)
    (c_Work_init : PySem.W.codeIn K cd_Work_init "Work.__init__" = true)
    (k_Work_init : PySem.W.keepIn K (.ref f_Work_init) = true)
    {kc_Device f_Device_init f_Device_begin f_Device_go f_Device_cut f_Device_wake f_Device_edition f_Device_old f_Device_stands f_Device_places f_Device_twin f_Device_mark f_Device_go_on_from_mark f_Device_end_if_done f_Device_write f_Device_write_step f_Device_write_mark f_Device_next_place : Addr}
    {od_Device_init an_Device_init od_Device_begin an_Device_begin od_Device_go an_Device_go od_Device_cut an_Device_cut od_Device_wake an_Device_wake od_Device_edition an_Device_edition od_Device_old an_Device_old od_Device_stands an_Device_stands od_Device_places an_Device_places od_Device_twin an_Device_twin od_Device_mark an_Device_mark od_Device_go_on_from_mark an_Device_go_on_from_mark od_Device_end_if_done an_Device_end_if_done od_Device_write an_Device_write od_Device_write_step an_Device_write_step od_Device_write_mark an_Device_write_mark od_Device_next_place an_Device_next_place : Option Addr} {sl_Device_init sl_Device_begin sl_Device_go sl_Device_cut sl_Device_wake sl_Device_edition sl_Device_old sl_Device_stands sl_Device_places sl_Device_twin sl_Device_mark sl_Device_go_on_from_mark sl_Device_end_if_done sl_Device_write sl_Device_write_step sl_Device_write_mark sl_Device_next_place : Array (Option Value)} {oc_Device_init kV_Device_init dc_Device_init pm_Device_init cd_Device_init ct_Device_init oc_Device_begin kV_Device_begin dc_Device_begin pm_Device_begin cd_Device_begin ct_Device_begin oc_Device_go kV_Device_go dc_Device_go pm_Device_go cd_Device_go ct_Device_go oc_Device_cut kV_Device_cut dc_Device_cut pm_Device_cut cd_Device_cut ct_Device_cut oc_Device_wake kV_Device_wake dc_Device_wake pm_Device_wake cd_Device_wake ct_Device_wake oc_Device_edition kV_Device_edition dc_Device_edition pm_Device_edition cd_Device_edition ct_Device_edition oc_Device_old kV_Device_old dc_Device_old pm_Device_old cd_Device_old ct_Device_old oc_Device_stands kV_Device_stands dc_Device_stands pm_Device_stands cd_Device_stands ct_Device_stands oc_Device_places kV_Device_places dc_Device_places pm_Device_places cd_Device_places ct_Device_places oc_Device_twin kV_Device_twin dc_Device_twin pm_Device_twin cd_Device_twin ct_Device_twin oc_Device_mark kV_Device_mark dc_Device_mark pm_Device_mark cd_Device_mark ct_Device_mark oc_Device_go_on_from_mark kV_Device_go_on_from_mark dc_Device_go_on_from_mark pm_Device_go_on_from_mark cd_Device_go_on_from_mark ct_Device_go_on_from_mark oc_Device_end_if_done kV_Device_end_if_done dc_Device_end_if_done pm_Device_end_if_done cd_Device_end_if_done ct_Device_end_if_done oc_Device_write kV_Device_write dc_Device_write pm_Device_write cd_Device_write ct_Device_write oc_Device_write_step kV_Device_write_step dc_Device_write_step pm_Device_write_step cd_Device_write_step ct_Device_write_step oc_Device_write_mark kV_Device_write_mark dc_Device_write_mark pm_Device_write_mark cd_Device_write_mark ct_Device_write_mark oc_Device_next_place kV_Device_next_place dc_Device_next_place pm_Device_next_place cd_Device_next_place ct_Device_next_place : Value}
    (zc_Device : PySem.W.nsIn K mainGlobals "Device" = some (some (.ref kc_Device)))
    (zp_Device : PySem.W.plainGet K kc_Device Str.empty = true)
    (zh_Device : PySem.W.hasDictIn K kc_Device = true)
    (zo_Device : PySem.W.plainOver K kc_Device = true)
    (zs_Device : PySem.W.findIn K (.ref kc_Device) "__setattr__" = some (some (.builtin "object.__setattr__")))
    (zm_Device : PySem.W.makesIn K kc_Device = true)
    (zk_Device : PySem.W.keepIn K (.ref kc_Device) = true)
    (zn_Device_cells : PySem.W.findIn K (.ref kc_Device) "_cells" = some none)
    (zn_Device_wear : PySem.W.findIn K (.ref kc_Device) "_wear" = some none)
    (zn_Device_places : PySem.W.findIn K (.ref kc_Device) "_places" = some none)
    (zn_Device_places_worn : PySem.W.findIn K (.ref kc_Device) "_places_worn" = some none)
    (zn_Device_many : PySem.W.findIn K (.ref kc_Device) "_many" = some none)
    (zn_Device_work : PySem.W.findIn K (.ref kc_Device) "_work" = some none)
    (zn_Device_done : PySem.W.findIn K (.ref kc_Device) "_done" = some none)
    (zn_Device_marked : PySem.W.findIn K (.ref kc_Device) "_marked" = some none)
    (zn_Device_part : PySem.W.findIn K (.ref kc_Device) "_part" = some none)
    (zn_Device_asleep : PySem.W.findIn K (.ref kc_Device) "_asleep" = some none)
    (a_Device_init : PySem.W.findIn K (.ref kc_Device) "__init__" = some (some (.ref f_Device_init)))
    (i_Device_init : PySem.W.isFn K (.ref f_Device_init) = true)
    (l_Device_init : K.lookup f_Device_init = some ⟨oc_Device_init, od_Device_init, .func (PySem.W.fnOf "__init__" "Device.__init__" (defArgs s_Device_init) (defBody s_Device_init) (defScope s_Device_init) .none kV_Device_init dc_Device_init pm_Device_init an_Device_init cd_Device_init ct_Device_init), sl_Device_init⟩)
    (c_Device_init : PySem.W.codeIn K cd_Device_init "Device.__init__" = true)
    (k_Device_init : PySem.W.keepIn K (.ref f_Device_init) = true)
    (a_Device_begin : PySem.W.findIn K (.ref kc_Device) "begin" = some (some (.ref f_Device_begin)))
    (i_Device_begin : PySem.W.isFn K (.ref f_Device_begin) = true)
    (l_Device_begin : K.lookup f_Device_begin = some ⟨oc_Device_begin, od_Device_begin, .func (PySem.W.fnOf "begin" "Device.begin" (defArgs s_Device_begin) (defBody s_Device_begin) (defScope s_Device_begin) .none kV_Device_begin dc_Device_begin pm_Device_begin an_Device_begin cd_Device_begin ct_Device_begin), sl_Device_begin⟩)
    (c_Device_begin : PySem.W.codeIn K cd_Device_begin "Device.begin" = true)
    (k_Device_begin : PySem.W.keepIn K (.ref f_Device_begin) = true)
    (a_Device_go : PySem.W.findIn K (.ref kc_Device) "go" = some (some (.ref f_Device_go)))
    (i_Device_go : PySem.W.isFn K (.ref f_Device_go) = true)
    (l_Device_go : K.lookup f_Device_go = some ⟨oc_Device_go, od_Device_go, .func (PySem.W.fnOf "go" "Device.go" (defArgs s_Device_go) (defBody s_Device_go) (defScope s_Device_go) .none kV_Device_go dc_Device_go pm_Device_go an_Device_go cd_Device_go ct_Device_go), sl_Device_go⟩)
    (c_Device_go : PySem.W.codeIn K cd_Device_go "Device.go" = true)
    (k_Device_go : PySem.W.keepIn K (.ref f_Device_go) = true)
    (a_Device_cut : PySem.W.findIn K (.ref kc_Device) "cut" = some (some (.ref f_Device_cut)))
    (i_Device_cut : PySem.W.isFn K (.ref f_Device_cut) = true)
    (l_Device_cut : K.lookup f_Device_cut = some ⟨oc_Device_cut, od_Device_cut, .func (PySem.W.fnOf "cut" "Device.cut" (defArgs s_Device_cut) (defBody s_Device_cut) (defScope s_Device_cut) .none kV_Device_cut dc_Device_cut pm_Device_cut an_Device_cut cd_Device_cut ct_Device_cut), sl_Device_cut⟩)
    (c_Device_cut : PySem.W.codeIn K cd_Device_cut "Device.cut" = true)
    (k_Device_cut : PySem.W.keepIn K (.ref f_Device_cut) = true)
    (a_Device_wake : PySem.W.findIn K (.ref kc_Device) "wake" = some (some (.ref f_Device_wake)))
    (i_Device_wake : PySem.W.isFn K (.ref f_Device_wake) = true)
    (l_Device_wake : K.lookup f_Device_wake = some ⟨oc_Device_wake, od_Device_wake, .func (PySem.W.fnOf "wake" "Device.wake" (defArgs s_Device_wake) (defBody s_Device_wake) (defScope s_Device_wake) .none kV_Device_wake dc_Device_wake pm_Device_wake an_Device_wake cd_Device_wake ct_Device_wake), sl_Device_wake⟩)
    (c_Device_wake : PySem.W.codeIn K cd_Device_wake "Device.wake" = true)
    (k_Device_wake : PySem.W.keepIn K (.ref f_Device_wake) = true)
    (a_Device_edition : PySem.W.findIn K (.ref kc_Device) "edition" = some (some (.ref f_Device_edition)))
    (i_Device_edition : PySem.W.isFn K (.ref f_Device_edition) = true)
    (l_Device_edition : K.lookup f_Device_edition = some ⟨oc_Device_edition, od_Device_edition, .func (PySem.W.fnOf "edition" "Device.edition" (defArgs s_Device_edition) (defBody s_Device_edition) (defScope s_Device_edition) .none kV_Device_edition dc_Device_edition pm_Device_edition an_Device_edition cd_Device_edition ct_Device_edition), sl_Device_edition⟩)
    (c_Device_edition : PySem.W.codeIn K cd_Device_edition "Device.edition" = true)
    (k_Device_edition : PySem.W.keepIn K (.ref f_Device_edition) = true)
    (a_Device_old : PySem.W.findIn K (.ref kc_Device) "old" = some (some (.ref f_Device_old)))
    (i_Device_old : PySem.W.isFn K (.ref f_Device_old) = true)
    (l_Device_old : K.lookup f_Device_old = some ⟨oc_Device_old, od_Device_old, .func (PySem.W.fnOf "old" "Device.old" (defArgs s_Device_old) (defBody s_Device_old) (defScope s_Device_old) .none kV_Device_old dc_Device_old pm_Device_old an_Device_old cd_Device_old ct_Device_old), sl_Device_old⟩)
    (c_Device_old : PySem.W.codeIn K cd_Device_old "Device.old" = true)
    (k_Device_old : PySem.W.keepIn K (.ref f_Device_old) = true)
    (a_Device_stands : PySem.W.findIn K (.ref kc_Device) "stands" = some (some (.ref f_Device_stands)))
    (i_Device_stands : PySem.W.isFn K (.ref f_Device_stands) = true)
    (l_Device_stands : K.lookup f_Device_stands = some ⟨oc_Device_stands, od_Device_stands, .func (PySem.W.fnOf "stands" "Device.stands" (defArgs s_Device_stands) (defBody s_Device_stands) (defScope s_Device_stands) .none kV_Device_stands dc_Device_stands pm_Device_stands an_Device_stands cd_Device_stands ct_Device_stands), sl_Device_stands⟩)
    (c_Device_stands : PySem.W.codeIn K cd_Device_stands "Device.stands" = true)
    (k_Device_stands : PySem.W.keepIn K (.ref f_Device_stands) = true)
    (a_Device_places : PySem.W.findIn K (.ref kc_Device) "places" = some (some (.ref f_Device_places)))
    (i_Device_places : PySem.W.isFn K (.ref f_Device_places) = true)
    (l_Device_places : K.lookup f_Device_places = some ⟨oc_Device_places, od_Device_places, .func (PySem.W.fnOf "places" "Device.places" (defArgs s_Device_places) (defBody s_Device_places) (defScope s_Device_places) .none kV_Device_places dc_Device_places pm_Device_places an_Device_places cd_Device_places ct_Device_places), sl_Device_places⟩)
    (c_Device_places : PySem.W.codeIn K cd_Device_places "Device.places" = true)
    (k_Device_places : PySem.W.keepIn K (.ref f_Device_places) = true)
    (a_Device_twin : PySem.W.findIn K (.ref kc_Device) "twin" = some (some (.ref f_Device_twin)))
    (i_Device_twin : PySem.W.isFn K (.ref f_Device_twin) = true)
    (l_Device_twin : K.lookup f_Device_twin = some ⟨oc_Device_twin, od_Device_twin, .func (PySem.W.fnOf "twin" "Device.twin" (defArgs s_Device_twin) (defBody s_Device_twin) (defScope s_Device_twin) .none kV_Device_twin dc_Device_twin pm_Device_twin an_Device_twin cd_Device_twin ct_Device_twin), sl_Device_twin⟩)
    (c_Device_twin : PySem.W.codeIn K cd_Device_twin "Device.twin" = true)
    (k_Device_twin : PySem.W.keepIn K (.ref f_Device_twin) = true)
    (a_Device_mark : PySem.W.findIn K (.ref kc_Device) "_mark" = some (some (.ref f_Device_mark)))
    (i_Device_mark : PySem.W.isFn K (.ref f_Device_mark) = true)
    (l_Device_mark : K.lookup f_Device_mark = some ⟨oc_Device_mark, od_Device_mark, .func (PySem.W.fnOf "_mark" "Device._mark" (defArgs s_Device_mark) (defBody s_Device_mark) (defScope s_Device_mark) .none kV_Device_mark dc_Device_mark pm_Device_mark an_Device_mark cd_Device_mark ct_Device_mark), sl_Device_mark⟩)
    (c_Device_mark : PySem.W.codeIn K cd_Device_mark "Device._mark" = true)
    (k_Device_mark : PySem.W.keepIn K (.ref f_Device_mark) = true)
    (a_Device_go_on_from_mark : PySem.W.findIn K (.ref kc_Device) "_go_on_from_mark" = some (some (.ref f_Device_go_on_from_mark)))
    (i_Device_go_on_from_mark : PySem.W.isFn K (.ref f_Device_go_on_from_mark) = true)
    (l_Device_go_on_from_mark : K.lookup f_Device_go_on_from_mark = some ⟨oc_Device_go_on_from_mark, od_Device_go_on_from_mark, .func (PySem.W.fnOf "_go_on_from_mark" "Device._go_on_from_mark" (defArgs s_Device_go_on_from_mark) (defBody s_Device_go_on_from_mark) (defScope s_Device_go_on_from_mark) .none kV_Device_go_on_from_mark dc_Device_go_on_from_mark pm_Device_go_on_from_mark an_Device_go_on_from_mark cd_Device_go_on_from_mark ct_Device_go_on_from_mark), sl_Device_go_on_from_mark⟩)
    (c_Device_go_on_from_mark : PySem.W.codeIn K cd_Device_go_on_from_mark "Device._go_on_from_mark" = true)
    (k_Device_go_on_from_mark : PySem.W.keepIn K (.ref f_Device_go_on_from_mark) = true)
    (a_Device_end_if_done : PySem.W.findIn K (.ref kc_Device) "_end_if_done" = some (some (.ref f_Device_end_if_done)))
    (i_Device_end_if_done : PySem.W.isFn K (.ref f_Device_end_if_done) = true)
    (l_Device_end_if_done : K.lookup f_Device_end_if_done = some ⟨oc_Device_end_if_done, od_Device_end_if_done, .func (PySem.W.fnOf "_end_if_done" "Device._end_if_done" (defArgs s_Device_end_if_done) (defBody s_Device_end_if_done) (defScope s_Device_end_if_done) .none kV_Device_end_if_done dc_Device_end_if_done pm_Device_end_if_done an_Device_end_if_done cd_Device_end_if_done ct_Device_end_if_done), sl_Device_end_if_done⟩)
    (c_Device_end_if_done : PySem.W.codeIn K cd_Device_end_if_done "Device._end_if_done" = true)
    (k_Device_end_if_done : PySem.W.keepIn K (.ref f_Device_end_if_done) = true)
    (a_Device_write : PySem.W.findIn K (.ref kc_Device) "_write" = some (some (.ref f_Device_write)))
    (i_Device_write : PySem.W.isFn K (.ref f_Device_write) = true)
    (l_Device_write : K.lookup f_Device_write = some ⟨oc_Device_write, od_Device_write, .func (PySem.W.fnOf "_write" "Device._write" (defArgs s_Device_write) (defBody s_Device_write) (defScope s_Device_write) .none kV_Device_write dc_Device_write pm_Device_write an_Device_write cd_Device_write ct_Device_write), sl_Device_write⟩)
    (c_Device_write : PySem.W.codeIn K cd_Device_write "Device._write" = true)
    (k_Device_write : PySem.W.keepIn K (.ref f_Device_write) = true)
    (a_Device_write_step : PySem.W.findIn K (.ref kc_Device) "_write_step" = some (some (.ref f_Device_write_step)))
    (i_Device_write_step : PySem.W.isFn K (.ref f_Device_write_step) = true)
    (l_Device_write_step : K.lookup f_Device_write_step = some ⟨oc_Device_write_step, od_Device_write_step, .func (PySem.W.fnOf "_write_step" "Device._write_step" (defArgs s_Device_write_step) (defBody s_Device_write_step) (defScope s_Device_write_step) .none kV_Device_write_step dc_Device_write_step pm_Device_write_step an_Device_write_step cd_Device_write_step ct_Device_write_step), sl_Device_write_step⟩)
    (c_Device_write_step : PySem.W.codeIn K cd_Device_write_step "Device._write_step" = true)
    (k_Device_write_step : PySem.W.keepIn K (.ref f_Device_write_step) = true)
    (a_Device_write_mark : PySem.W.findIn K (.ref kc_Device) "_write_mark" = some (some (.ref f_Device_write_mark)))
    (i_Device_write_mark : PySem.W.isFn K (.ref f_Device_write_mark) = true)
    (l_Device_write_mark : K.lookup f_Device_write_mark = some ⟨oc_Device_write_mark, od_Device_write_mark, .func (PySem.W.fnOf "_write_mark" "Device._write_mark" (defArgs s_Device_write_mark) (defBody s_Device_write_mark) (defScope s_Device_write_mark) .none kV_Device_write_mark dc_Device_write_mark pm_Device_write_mark an_Device_write_mark cd_Device_write_mark ct_Device_write_mark), sl_Device_write_mark⟩)
    (c_Device_write_mark : PySem.W.codeIn K cd_Device_write_mark "Device._write_mark" = true)
    (k_Device_write_mark : PySem.W.keepIn K (.ref f_Device_write_mark) = true)
    (a_Device_next_place : PySem.W.findIn K (.ref kc_Device) "_next_place" = some (some (.ref f_Device_next_place)))
    (i_Device_next_place : PySem.W.isFn K (.ref f_Device_next_place) = true)
    (l_Device_next_place : K.lookup f_Device_next_place = some ⟨oc_Device_next_place, od_Device_next_place, .func (PySem.W.fnOf "_next_place" "Device._next_place" (defArgs s_Device_next_place) (defBody s_Device_next_place) (defScope s_Device_next_place) .none kV_Device_next_place dc_Device_next_place pm_Device_next_place an_Device_next_place cd_Device_next_place ct_Device_next_place), sl_Device_next_place⟩)
    (c_Device_next_place : PySem.W.codeIn K cd_Device_next_place "Device._next_place" = true)
    (k_Device_next_place : PySem.W.keepIn K (.ref f_Device_next_place) = true)
    (h_PatchError : PySem.W.nsIn K mainGlobals "PatchError" = some (some (.ref k_PatchError)))
    (h_BadEdition : PySem.W.nsIn K mainGlobals "BadEdition" = some (some (.ref k_BadEdition)))
    (h_BadPatch : PySem.W.nsIn K mainGlobals "BadPatch" = some (some (.ref k_BadPatch)))
    (h_Beyond : PySem.W.nsIn K mainGlobals "Beyond" = some (some (.ref k_Beyond)))
    (h_BadCount : PySem.W.nsIn K mainGlobals "BadCount" = some (some (.ref k_BadCount)))
    (h_BadMeet : PySem.W.nsIn K mainGlobals "BadMeet" = some (some (.ref k_BadMeet)))
    (h_BadCode : PySem.W.nsIn K mainGlobals "BadCode" = some (some (.ref k_BadCode)))
    (h_TooMany : PySem.W.nsIn K mainGlobals "TooMany" = some (some (.ref k_TooMany)))
    (h_BadPieces : PySem.W.nsIn K mainGlobals "BadPieces" = some (some (.ref k_BadPieces)))
    (h_BadOrder : PySem.W.nsIn K mainGlobals "BadOrder" = some (some (.ref k_BadOrder)))
    (h_BadMarks : PySem.W.nsIn K mainGlobals "BadMarks" = some (some (.ref k_BadMarks)))
    (h_Underway : PySem.W.nsIn K mainGlobals "Underway" = some (some (.ref k_Underway)))
    (h_Asleep : PySem.W.nsIn K mainGlobals "Asleep" = some (some (.ref k_Asleep)))
    (h_Awake : PySem.W.nsIn K mainGlobals "Awake" = some (some (.ref k_Awake)))
    (h_BadCell : PySem.W.nsIn K mainGlobals "BadCell" = some (some (.ref k_BadCell)))
    (y_all : PySem.W.nsIn K mainGlobals "all" = some none)
    (y_bool : PySem.W.nsIn K mainGlobals "bool" = some none)
    (y_bytes : PySem.W.nsIn K mainGlobals "bytes" = some none)
    (y_enumerate : PySem.W.nsIn K mainGlobals "enumerate" = some none)
    (y_int : PySem.W.nsIn K mainGlobals "int" = some none)
    (y_isinstance : PySem.W.nsIn K mainGlobals "isinstance" = some none)
    (y_len : PySem.W.nsIn K mainGlobals "len" = some none)
    (y_list : PySem.W.nsIn K mainGlobals "list" = some none)
    (y_max : PySem.W.nsIn K mainGlobals "max" = some none)
    (y_min : PySem.W.nsIn K mainGlobals "min" = some none)
    (y_range : PySem.W.nsIn K mainGlobals "range" = some none)
    (y_reversed : PySem.W.nsIn K mainGlobals "reversed" = some none)
    (y_set : PySem.W.nsIn K mainGlobals "set" = some none)
    (y_sorted : PySem.W.nsIn K mainGlobals "sorted" = some none)
    (y_sum : PySem.W.nsIn K mainGlobals "sum" = some none)
    (y_tuple : PySem.W.nsIn K mainGlobals "tuple" = some none)
    (y_zip : PySem.W.nsIn K mainGlobals "zip" = some none)
    {fI_Beyond cda_Beyond ccI_Beyond : Addr} {nmC_Beyond qC_Beyond : Str} {NC_Beyond : Addr} {bsC_Beyond bmC_Beyond : List Value} {snC_Beyond : List Str} {subC_Beyond : List Value} {abC_Beyond : Bool} {colC_Beyond : Option Bool} {ddC_Beyond : Option Addr} {m0_Beyond m1_Beyond m2_Beyond m3_Beyond m5_Beyond : Option Value} {ocI_Beyond dcI_Beyond pmI_Beyond ctI_Beyond ccl_Beyond clI_Beyond : Value} {odI_Beyond anI_Beyond cdd_Beyond cldI_Beyond : Option Addr} {slI_Beyond ccs_Beyond cslI_Beyond : Array (Option Value)} {vsI_Beyond : Array Value} {file_Beyond : Str} {tf_Beyond : Tok}
    (o_cls_Beyond : K.lookup k_Beyond = some (excClassObj nmC_Beyond qC_Beyond k_Beyond NC_Beyond bsC_Beyond bmC_Beyond true snC_Beyond subC_Beyond abC_Beyond colC_Beyond ddC_Beyond m0_Beyond m1_Beyond m2_Beyond m3_Beyond m5_Beyond "ValueError.__new__"))
    (o_bm_Beyond : PySem.HandSPX.refsVE bmC_Beyond = true)
    (o_sa_Beyond : PySem.W.findIn K (.ref k_Beyond) "__setattr__" = some (some (.builtin "object.__setattr__")))
    (o_noN_Beyond : PySem.W.findIn K (.ref k_Beyond) "piece" = some none)
    (o_iC_Beyond : PySem.W.findIn K (.ref k_Beyond) "__init__" = some (some (.ref fI_Beyond)))
    (o_tC_Beyond : PySem.W.typeIn K (.ref fI_Beyond) = some (.type "function"))
    (o_kC_Beyond : PySem.W.keepIn K (.ref k_Beyond) = true)
    (o_exC_Beyond : PySem.W.subIn K (.ref k_Beyond) (.type "BaseException") = some true)
    (o_tyC_Beyond : PySem.W.typeIn K (.ref k_Beyond) = some (.type "type"))
    (o_sup_Beyond : PySem.W.ks_superIn K k_Beyond k_Beyond "__init__" = some (some (.builtin "ValueError.__init__")))
    (o_subV_Beyond : PySem.W.subIn K (.ref k_Beyond) (.type "ValueError") = some true)
    (o_mroC_Beyond : PySem.W.mroIn K k_Beyond (.ref k_Beyond) = some true)
    (o_any_Beyond : PySem.W.nsIn K cStatics "thirdparty.any" = some none)
    (o_mS_Beyond : PySem.W.nsIn K mainGlobals "super" = some none)
    (o_fn_Beyond : K.lookup fI_Beyond = some ⟨ocI_Beyond, odI_Beyond, .func (PySem.W.ksFn "__init__" "Beyond.__init__" (defArgs N_Beyond.iniSt) (defBody N_Beyond.iniSt) (defScope N_Beyond.iniSt) .none .none dcI_Beyond pmI_Beyond anI_Beyond (.ref cda_Beyond) ctI_Beyond ccI_Beyond), slI_Beyond⟩)
    (o_cI_Beyond : PySem.W.codeIn K (.ref cda_Beyond) "Beyond.__init__" = true)
    (o_cd_Beyond : K.lookup cda_Beyond = some ⟨ccl_Beyond, cdd_Beyond, .fields vsI_Beyond, ccs_Beyond⟩)
    (o_vs_Beyond : vsI_Beyond[2]? = some (.str file_Beyond tf_Beyond))
    (o_file_Beyond : ((l.prog.main.file : Str) == file_Beyond) = true)
    (o_cc_Beyond : K.lookup ccI_Beyond = some ⟨clI_Beyond, cldI_Beyond, .cell (some (.ref k_Beyond)), cslI_Beyond⟩)
    (o_top_Beyond : (l.prog.main.scope.names.lookup ("super" : Str)).isSome = false)
    (e_hn : PySem.W.specialIn K (.builtin "object.__class__") "__get__" = some (some (.builtin "getset_descriptor.__get__")))
    (e_ht : PySem.W.takesIn K (.builtin "object.__class__") = some true)
    (p_ex : PySem.W.subIn K (.ref k_PatchError) (.type "BaseException") = some true)
    (p_hd : PySem.W.hasDictIn K k_PatchError = true)
    (p_ty : PySem.W.typeIn K (.ref k_PatchError) = some (.type "type"))
    (o_xC_BadEdition : PySem.W.excIn K k_BadEdition [.type "ValueError", .type "Exception", .type "BaseException", .type "object"] "ValueError.__new__" = true)
    (o_kC_BadEdition : PySem.W.keepIn K (.ref k_BadEdition) = true)
    (o_exC_BadEdition : PySem.W.subIn K (.ref k_BadEdition) (.type "BaseException") = some true)
    (o_tyC_BadEdition : PySem.W.typeIn K (.ref k_BadEdition) = some (.type "type"))
    (o_ga_BadEdition : PySem.W.findIn K (.ref k_BadEdition) "__getattribute__" = some (some (.builtin "BaseException.__getattribute__")))
    (o_gg_BadEdition : PySem.W.findIn K (.ref k_BadEdition) "__getattr__" = some none)
    (o_hdC_BadEdition : PySem.W.hasDictIn K k_BadEdition = true)
    (e_ha_BadEdition : PySem.W.findIn K (.ref k_BadEdition) "__class__" = some (some (.builtin "object.__class__")))
    (o_mroO_BadEdition : PySem.W.mroIn K k_BadEdition (.type "object") = some true)
    (p_sub_BadEdition : PySem.W.subIn K (.ref k_BadEdition) (.ref k_PatchError) = some true)
    (i_BadPatch_BadEdition : PySem.W.kitOne K (.ref k_BadEdition) (.ref k_BadPatch) = some (decide (5 = 0)))
    (i_Beyond_BadEdition : PySem.W.kitOne K (.ref k_BadEdition) (.ref k_Beyond) = some (decide (5 = 1)))
    (i_BadMeet_BadEdition : PySem.W.kitOne K (.ref k_BadEdition) (.ref k_BadMeet) = some (decide (5 = 2)))
    (i_BadCode_BadEdition : PySem.W.kitOne K (.ref k_BadEdition) (.ref k_BadCode) = some (decide (5 = 3)))
    (i_BadOrder_BadEdition : PySem.W.kitOne K (.ref k_BadEdition) (.ref k_BadOrder) = some (decide (5 = 4)))
    (i_BadEdition_BadEdition : PySem.W.kitOne K (.ref k_BadEdition) (.ref k_BadEdition) = some (decide (5 = 5)))
    (i_BadCount_BadEdition : PySem.W.kitOne K (.ref k_BadEdition) (.ref k_BadCount) = some (decide (5 = 6)))
    (i_TooMany_BadEdition : PySem.W.kitOne K (.ref k_BadEdition) (.ref k_TooMany) = some (decide (5 = 7)))
    (i_BadPieces_BadEdition : PySem.W.kitOne K (.ref k_BadEdition) (.ref k_BadPieces) = some (decide (5 = 8)))
    (i_BadMarks_BadEdition : PySem.W.kitOne K (.ref k_BadEdition) (.ref k_BadMarks) = some (decide (5 = 9)))
    (i_Underway_BadEdition : PySem.W.kitOne K (.ref k_BadEdition) (.ref k_Underway) = some (decide (5 = 10)))
    (i_Asleep_BadEdition : PySem.W.kitOne K (.ref k_BadEdition) (.ref k_Asleep) = some (decide (5 = 11)))
    (i_Awake_BadEdition : PySem.W.kitOne K (.ref k_BadEdition) (.ref k_Awake) = some (decide (5 = 12)))
    (i_BadCell_BadEdition : PySem.W.kitOne K (.ref k_BadEdition) (.ref k_BadCell) = some (decide (5 = 13)))
    (o_ga_Beyond : PySem.W.findIn K (.ref k_Beyond) "__getattribute__" = some (some (.builtin "BaseException.__getattribute__")))
    (o_gg_Beyond : PySem.W.findIn K (.ref k_Beyond) "__getattr__" = some none)
    (o_hdC_Beyond : PySem.W.hasDictIn K k_Beyond = true)
    (e_ha_Beyond : PySem.W.findIn K (.ref k_Beyond) "__class__" = some (some (.builtin "object.__class__")))
    (o_mroO_Beyond : PySem.W.mroIn K k_Beyond (.type "object") = some true)
    (p_sub_Beyond : PySem.W.subIn K (.ref k_Beyond) (.ref k_PatchError) = some true)
    (i_BadPatch_Beyond : PySem.W.kitOne K (.ref k_Beyond) (.ref k_BadPatch) = some (decide (1 = 0)))
    (i_Beyond_Beyond : PySem.W.kitOne K (.ref k_Beyond) (.ref k_Beyond) = some (decide (1 = 1)))
    (i_BadMeet_Beyond : PySem.W.kitOne K (.ref k_Beyond) (.ref k_BadMeet) = some (decide (1 = 2)))
    (i_BadCode_Beyond : PySem.W.kitOne K (.ref k_Beyond) (.ref k_BadCode) = some (decide (1 = 3)))
    (i_BadOrder_Beyond : PySem.W.kitOne K (.ref k_Beyond) (.ref k_BadOrder) = some (decide (1 = 4)))
    (i_BadEdition_Beyond : PySem.W.kitOne K (.ref k_Beyond) (.ref k_BadEdition) = some (decide (1 = 5)))
    (i_BadCount_Beyond : PySem.W.kitOne K (.ref k_Beyond) (.ref k_BadCount) = some (decide (1 = 6)))
    (i_TooMany_Beyond : PySem.W.kitOne K (.ref k_Beyond) (.ref k_TooMany) = some (decide (1 = 7)))
    (i_BadPieces_Beyond : PySem.W.kitOne K (.ref k_Beyond) (.ref k_BadPieces) = some (decide (1 = 8)))
    (i_BadMarks_Beyond : PySem.W.kitOne K (.ref k_Beyond) (.ref k_BadMarks) = some (decide (1 = 9)))
    (i_Underway_Beyond : PySem.W.kitOne K (.ref k_Beyond) (.ref k_Underway) = some (decide (1 = 10)))
    (i_Asleep_Beyond : PySem.W.kitOne K (.ref k_Beyond) (.ref k_Asleep) = some (decide (1 = 11)))
    (i_Awake_Beyond : PySem.W.kitOne K (.ref k_Beyond) (.ref k_Awake) = some (decide (1 = 12)))
    (i_BadCell_Beyond : PySem.W.kitOne K (.ref k_Beyond) (.ref k_BadCell) = some (decide (1 = 13)))
    (o_xC_BadCount : PySem.W.excIn K k_BadCount [.type "ValueError", .type "Exception", .type "BaseException", .type "object"] "ValueError.__new__" = true)
    (o_kC_BadCount : PySem.W.keepIn K (.ref k_BadCount) = true)
    (o_exC_BadCount : PySem.W.subIn K (.ref k_BadCount) (.type "BaseException") = some true)
    (o_tyC_BadCount : PySem.W.typeIn K (.ref k_BadCount) = some (.type "type"))
    (o_ga_BadCount : PySem.W.findIn K (.ref k_BadCount) "__getattribute__" = some (some (.builtin "BaseException.__getattribute__")))
    (o_gg_BadCount : PySem.W.findIn K (.ref k_BadCount) "__getattr__" = some none)
    (o_hdC_BadCount : PySem.W.hasDictIn K k_BadCount = true)
    (e_ha_BadCount : PySem.W.findIn K (.ref k_BadCount) "__class__" = some (some (.builtin "object.__class__")))
    (o_mroO_BadCount : PySem.W.mroIn K k_BadCount (.type "object") = some true)
    (p_sub_BadCount : PySem.W.subIn K (.ref k_BadCount) (.ref k_PatchError) = some true)
    (i_BadPatch_BadCount : PySem.W.kitOne K (.ref k_BadCount) (.ref k_BadPatch) = some (decide (6 = 0)))
    (i_Beyond_BadCount : PySem.W.kitOne K (.ref k_BadCount) (.ref k_Beyond) = some (decide (6 = 1)))
    (i_BadMeet_BadCount : PySem.W.kitOne K (.ref k_BadCount) (.ref k_BadMeet) = some (decide (6 = 2)))
    (i_BadCode_BadCount : PySem.W.kitOne K (.ref k_BadCount) (.ref k_BadCode) = some (decide (6 = 3)))
    (i_BadOrder_BadCount : PySem.W.kitOne K (.ref k_BadCount) (.ref k_BadOrder) = some (decide (6 = 4)))
    (i_BadEdition_BadCount : PySem.W.kitOne K (.ref k_BadCount) (.ref k_BadEdition) = some (decide (6 = 5)))
    (i_BadCount_BadCount : PySem.W.kitOne K (.ref k_BadCount) (.ref k_BadCount) = some (decide (6 = 6)))
    (i_TooMany_BadCount : PySem.W.kitOne K (.ref k_BadCount) (.ref k_TooMany) = some (decide (6 = 7)))
    (i_BadPieces_BadCount : PySem.W.kitOne K (.ref k_BadCount) (.ref k_BadPieces) = some (decide (6 = 8)))
    (i_BadMarks_BadCount : PySem.W.kitOne K (.ref k_BadCount) (.ref k_BadMarks) = some (decide (6 = 9)))
    (i_Underway_BadCount : PySem.W.kitOne K (.ref k_BadCount) (.ref k_Underway) = some (decide (6 = 10)))
    (i_Asleep_BadCount : PySem.W.kitOne K (.ref k_BadCount) (.ref k_Asleep) = some (decide (6 = 11)))
    (i_Awake_BadCount : PySem.W.kitOne K (.ref k_BadCount) (.ref k_Awake) = some (decide (6 = 12)))
    (i_BadCell_BadCount : PySem.W.kitOne K (.ref k_BadCount) (.ref k_BadCell) = some (decide (6 = 13)))
    (t_cd : K.lookup cL = some ⟨clL, cdL, .fields vsL, csL⟩)
    (t_p : vsL[11]? = some (.ref PL))
    (t_n : K.lookup PL = none)
    : ∃ (fd : FuncData) (cL PL : Addr), PySem.W.tabIn K "law" = some (cL, PL) ∧ K.lookup PL = none ∧ (∀ (s : Shared) (v : Value), BindsTo s fd ⟨[v], []⟩ [("_law_script", v)]) ∧ ∀ base : Heap, K.In base → base.Ns mainGlobals mg → LamX.TabB base mg cL PL → FnOk l.prog w K mg base CX0 11 fa fd ["_law_script"] (spLawT K PL) := by
  have e := hfa.symm.trans (PySem.W.mg_of X G a57)
  cases e
  have F0 := fun_mk (st := s_wall) l0 c0 k0
  have b0 := F0.binds (ps := ["k"]) fun _ _ _ _ _ _ us hl => match us, hl with | [_], _ => rfl
  have F1 := fun_mk (st := s_bytes_of) l1 c1 k1
  have b1 := F1.binds (ps := ["numbers"]) fun _ _ _ _ _ _ us hl => match us, hl with | [_], _ => rfl
  have F2 := fun_mk (st := s_numbers_of) l2 c2 k2
  have b2 := F2.binds (ps := ["some"]) fun _ _ _ _ _ _ us hl => match us, hl with | [_], _ => rfl
  have F3 := fun_mk (st := s_is_number) l3 c3 k3
  have b3 := F3.binds (ps := ["what", "least", "most"]) fun _ _ _ _ _ _ us hl => match us, hl with | [_, _, _], _ => rfl
  have F4 := fun_mk (st := s_can_be) l4 c4 k4
  have b4 := F4.binds (ps := ["piece"]) fun _ _ _ _ _ _ us hl => match us, hl with | [_], _ => rfl
  have F5 := fun_mk (st := s_length_of) l5 c5 k5
  have b5 := F5.binds (ps := ["piece"]) fun _ _ _ _ _ _ us hl => match us, hl with | [_], _ => rfl
  have F6 := fun_mk (st := s_cells_of) l6 c6 k6
  have b6 := F6.binds (ps := ["piece"]) fun _ _ _ _ _ _ us hl => match us, hl with | [_], _ => rfl
  have F7 := fun_mk (st := s_check_edition) l7 c7 k7
  have b7 := F7.binds (ps := ["edition"]) fun _ _ _ _ _ _ us hl => match us, hl with | [_], _ => rfl
  have F8 := fun_mk (st := s_check_patch) l8 c8 k8
  have b8 := F8.binds (ps := ["patch"]) fun _ _ _ _ _ _ us hl => match us, hl with | [_], _ => rfl
  have F9 := fun_mk (st := s_check_reach) l9 c9 k9
  have b9 := F9.binds (ps := ["patch", "edition"]) fun _ _ _ _ _ _ us hl => match us, hl with | [_, _], _ => rfl
  have F10 := fun_mk (st := s_done) l10 c10 k10
  have b10 := F10.binds (ps := ["patch", "edition"]) fun _ _ _ _ _ _ us hl => match us, hl with | [_, _], _ => rfl
  have F11 := fun_mk (st := s_makes) l11 c11 k11
  have b11 := F11.binds (ps := ["patch"]) fun _ _ _ _ _ _ us hl => match us, hl with | [_], _ => rfl
  have F12 := fun_mk (st := s_cells) l12 c12 k12
  have b12 := F12.binds (ps := ["patch"]) fun _ _ _ _ _ _ us hl => match us, hl with | [_], _ => rfl
  have F13 := fun_mk (st := s_hangs) l13 c13 k13
  have b13 := F13.binds (ps := ["patch"]) fun _ _ _ _ _ _ us hl => match us, hl with | [_], _ => rfl
  have F14 := fun_mk (st := s_order) l14 c14 k14
  have b14 := F14.binds (ps := ["patch"]) fun _ _ _ _ _ _ us hl => match us, hl with | [_], _ => rfl
  have F15 := fun_mk (st := s_starts) l15 c15 k15
  have b15 := F15.binds (ps := ["patch"]) fun _ _ _ _ _ _ us hl => match us, hl with | [_], _ => rfl
  have F16 := fun_mk (st := s_moving) l16 c16 k16
  have b16 := F16.binds (ps := ["patch"]) fun _ _ _ _ _ _ us hl => match us, hl with | [_], _ => rfl
  have F17 := fun_mk (st := s_writers_of) l17 c17 k17
  have b17 := F17.binds (ps := ["patch"]) fun _ _ _ _ _ _ us hl => match us, hl with | [_], _ => rfl
  have F18 := fun_mk (st := s_cells_read) l18 c18 k18
  have b18 := F18.binds (ps := ["piece"]) fun _ _ _ _ _ _ us hl => match us, hl with | [_], _ => rfl
  have F19 := fun_mk (st := s_hung_from) l19 c19 k19
  have b19 := F19.binds (ps := ["patch"]) fun _ _ _ _ _ _ us hl => match us, hl with | [_], _ => rfl
  have F20 := fun_mk (st := s_lightest) l20 c20 k20
  have b20 := F20.binds (ps := ["patch"]) fun _ _ _ _ _ _ us hl => match us, hl with | [_], _ => rfl
  have F21 := fun_mk (st := s_brought) l21 c21 k21
  have b21 := F21.binds (ps := ["patch", "pieces", "edition"]) fun _ _ _ _ _ _ us hl => match us, hl with | [_, _, _], _ => rfl
  have F22 := fun_mk (st := s_as_done) l22 c22 k22
  have b22 := F22.binds (ps := ["patch", "edition"]) fun _ _ _ _ _ _ us hl => match us, hl with | [_, _], _ => rfl
  have F23 := fun_mk (st := s_check_copies) l23 c23 k23
  have b23 := F23.binds (ps := ["patch", "pieces"]) fun _ _ _ _ _ _ us hl => match us, hl with | [_, _], _ => rfl
  have F24 := fun_mk (st := s_as_brought) l24 c24 k24
  have b24 := F24.binds (ps := ["piece", "edition"]) fun _ _ _ _ _ _ us hl => match us, hl with | [_, _], _ => rfl
  have F25 := fun_mk (st := s_knots) l25 c25 k25
  have b25 := F25.binds (ps := ["others"]) fun _ _ _ _ _ _ us hl => match us, hl with | [_], _ => rfl
  have F26 := fun_mk (st := s_reached) l26 c26 k26
  have b26 := F26.binds (ps := ["others", "first"]) fun _ _ _ _ _ _ us hl => match us, hl with | [_, _], _ => rfl
  have F27 := fun_mk (st := s_lightest_of) l27 c27 k27
  have b27 := F27.binds (ps := ["knot", "others", "weights"]) fun _ _ _ _ _ _ us hl => match us, hl with | [_, _, _], _ => rfl
  have F28 := fun_mk (st := s_bits_of) l28 c28 k28
  have b28 := F28.binds (ps := ["knot", "pieces"]) fun _ _ _ _ _ _ us hl => match us, hl with | [_, _], _ => rfl
  have F29 := fun_mk (st := s_lots_without_rings) l29 c29 k29
  have b29 := F29.binds (ps := ["nexts"]) fun _ _ _ _ _ _ us hl => match us, hl with | [_], _ => rfl
  have F30 := fun_mk (st := s_is_free) l30 c30 k30
  have b30 := F30.binds (ps := ["lot", "nexts", "free"]) fun _ _ _ _ _ _ us hl => match us, hl with | [_, _, _], _ => rfl
  have F31 := fun_mk (st := s_steps) l31 c31 k31
  have b31 := F31.binds (ps := ["patch", "order"]) fun _ _ _ _ _ _ us hl => match us, hl with | [_, _], _ => rfl
  have F32 := fun_mk (st := s_marks) l32 c32 k32
  have b32 := F32.binds (ps := ["steps"]) fun _ _ _ _ _ _ us hl => match us, hl with | [_], _ => rfl
  have F33 := fun_mk (st := s_check_order) l33 c33 k33
  have b33 := F33.binds (ps := ["patch", "turn"]) fun _ _ _ _ _ _ us hl => match us, hl with | [_, _], _ => rfl
  have F34 := fun_mk (st := s_may_stand) l34 c34 k34
  have b34 := F34.binds (ps := ["piece", "ahead", "stood"]) fun _ _ _ _ _ _ us hl => match us, hl with | [_, _, _], _ => rfl
  have F35 := fun_mk (st := s_piece_steps) l35 c35 k35
  have b35 := F35.binds (ps := ["piece", "start"]) fun _ _ _ _ _ _ us hl => match us, hl with | [_, _], _ => rfl
  have F36 := fun_mk (st := s_histories) l36 c36 k36
  have b36 := F36.binds (ps := ["edition", "patch"]) fun _ _ _ _ _ _ us hl => match us, hl with | [_, _], _ => rfl
  have F37 := fun_mk (st := s_all_end) l37 c37 k37
  have b37 := F37.binds (ps := ["edition", "patch", "cuts"]) fun _ _ _ _ _ _ us hl => match us, hl with | [_, _, _], _ => rfl
  have F38 := fun_mk (st := s_begun) l38 c38 k38
  have b38 := F38.binds (ps := ["edition", "patch"]) fun _ _ _ _ _ _ us hl => match us, hl with | [_, _], _ => rfl
  have F39 := fun_mk (st := s_from_cut_to_end) l39 c39 k39
  have b39 := F39.binds (ps := ["device"]) fun _ _ _ _ _ _ us hl => match us, hl with | [_], _ => rfl
  have F40 := fun_mk (st := s_number_size) l40 c40 k40
  have b40 := F40.binds (ps := ["number"]) fun _ _ _ _ _ _ us hl => match us, hl with | [_], _ => rfl
  have F41 := fun_mk (st := s_first_number) l41 c41 k41
  have b41 := F41.binds (ps := ["piece"]) fun _ _ _ _ _ _ us hl => match us, hl with | [_], _ => rfl
  have F42 := fun_mk (st := s_piece_size) l42 c42 k42
  have b42 := F42.binds (ps := ["piece"]) fun _ _ _ _ _ _ us hl => match us, hl with | [_], _ => rfl
  have F43 := fun_mk (st := s_least) l43 c43 k43
  have b43 := F43.binds (ps := ["old", "new"]) fun _ _ _ _ _ _ us hl => match us, hl with | [_, _], _ => rfl
  have F44 := fun_mk (st := s_one_behind_the_other) l44 c44 k44
  have b44 := F44.binds (ps := ["firsts"]) fun _ _ _ _ _ _ us hl => match us, hl with | [_], _ => rfl
  have F45 := fun_mk (st := s_next_pieces) l45 c45 k45
  have b45 := F45.binds (ps := ["old", "new", "at"]) fun _ _ _ _ _ _ us hl => match us, hl with | [_, _, _], _ => rfl
  have F46 := fun_mk (st := s_next_copies) l46 c46 k46
  have b46 := F46.binds (ps := ["old", "new", "at"]) fun _ _ _ _ _ _ us hl => match us, hl with | [_, _, _], _ => rfl
  have F47 := fun_mk (st := s_next_runs) l47 c47 k47
  have b47 := F47.binds (ps := ["new", "at"]) fun _ _ _ _ _ _ us hl => match us, hl with | [_, _], _ => rfl
  have F48 := fun_mk (st := s_law_dice) l48 c48 k48
  have b48 := F48.binds (ps := ["_law_script"]) fun _ _ _ _ _ _ us hl => match us, hl with | [_], _ => rfl
  have F49 := fun_mk (st := s_law_next) l49 c49 k49
  have b49 := F49.binds (ps := ["_law_dice_here", "_law_many"]) fun _ _ _ _ _ _ us hl => match us, hl with | [_, _], _ => rfl
  have F50 := fun_mk (st := s_law_pick) l50 c50 k50
  have b50 := F50.binds (ps := ["_law_d", "_law_some"]) fun _ _ _ _ _ _ us hl => match us, hl with | [_, _], _ => rfl
  have F51 := fun_mk (st := s_law_told) l51 c51 k51
  have b51 := F51.binds (ps := ["_law_work"]) fun _ _ _ _ _ _ us hl => match us, hl with | [_], _ => rfl
  have F52 := fun_mk (st := s_law_bytes) l52 c52 k52
  have b52 := F52.binds (ps := ["_law_d", "_law_most"]) fun _ _ _ _ _ _ us hl => match us, hl with | [_, _], _ => rfl
  have F53 := fun_mk (st := s_law_rows) l53 c53 k53
  have b53 := F53.binds (ps := ["_law_d", "_law_count", "_law_most"]) fun _ _ _ _ _ _ us hl => match us, hl with | [_, _, _], _ => rfl
  have F54 := fun_mk (st := s_law_handed) l54 c54 k54
  have b54 := F54.binds (ps := ["_law_rows_here"]) fun _ _ _ _ _ _ us hl => match us, hl with | [_], _ => rfl
  have F55 := fun_mk (st := s_law_cells) l55 c55 k55
  have b55 := F55.binds (ps := ["_law_rows_here"]) fun _ _ _ _ _ _ us hl => match us, hl with | [_], _ => rfl
  have F56 := fun_mk (st := s_law_new) l56 c56 k56
  have b56 := F56.binds (ps := ["_law_rows_here", "_law_old"]) fun _ _ _ _ _ _ us hl => match us, hl with | [_, _], _ => rfl
  have F_Work_init := fun_mk (st := s_Work_init) l_Work_init c_Work_init k_Work_init
  have b_Work_init := F_Work_init.binds (ps := ["self", "before", "patch"]) fun _ _ _ _ _ _ us hl => match us, hl with | [_, _, _], _ => rfl
  have F_Device_init := fun_mk (st := s_Device_init) l_Device_init c_Device_init k_Device_init
  have b_Device_init := F_Device_init.binds (ps := ["self", "edition"]) fun _ _ _ _ _ _ us hl => match us, hl with | [_, _], _ => rfl
  have F_Device_begin := fun_mk (st := s_Device_begin) l_Device_begin c_Device_begin k_Device_begin
  have b_Device_begin := F_Device_begin.binds (ps := ["self", "patch"]) fun _ _ _ _ _ _ us hl => match us, hl with | [_, _], _ => rfl
  have F_Device_go := fun_mk (st := s_Device_go) l_Device_go c_Device_go k_Device_go
  have b_Device_go := F_Device_go.binds (ps := ["self", "many"]) fun _ _ _ _ _ _ us hl => match us, hl with | [_, _], _ => rfl
  have F_Device_cut := fun_mk (st := s_Device_cut) l_Device_cut c_Device_cut k_Device_cut
  have b_Device_cut := F_Device_cut.binds (ps := ["self"]) fun _ _ _ _ _ _ us hl => match us, hl with | [_], _ => rfl
  have F_Device_wake := fun_mk (st := s_Device_wake) l_Device_wake c_Device_wake k_Device_wake
  have b_Device_wake := F_Device_wake.binds (ps := ["self"]) fun _ _ _ _ _ _ us hl => match us, hl with | [_], _ => rfl
  have F_Device_edition := fun_mk (st := s_Device_edition) l_Device_edition c_Device_edition k_Device_edition
  have b_Device_edition := F_Device_edition.binds (ps := ["self"]) fun _ _ _ _ _ _ us hl => match us, hl with | [_], _ => rfl
  have F_Device_old := fun_mk (st := s_Device_old) l_Device_old c_Device_old k_Device_old
  have b_Device_old := F_Device_old.binds (ps := ["self"]) fun _ _ _ _ _ _ us hl => match us, hl with | [_], _ => rfl
  have F_Device_stands := fun_mk (st := s_Device_stands) l_Device_stands c_Device_stands k_Device_stands
  have b_Device_stands := F_Device_stands.binds (ps := ["self"]) fun _ _ _ _ _ _ us hl => match us, hl with | [_], _ => rfl
  have F_Device_places := fun_mk (st := s_Device_places) l_Device_places c_Device_places k_Device_places
  have b_Device_places := F_Device_places.binds (ps := ["self"]) fun _ _ _ _ _ _ us hl => match us, hl with | [_], _ => rfl
  have F_Device_twin := fun_mk (st := s_Device_twin) l_Device_twin c_Device_twin k_Device_twin
  have b_Device_twin := F_Device_twin.binds (ps := ["self"]) fun _ _ _ _ _ _ us hl => match us, hl with | [_], _ => rfl
  have F_Device_mark := fun_mk (st := s_Device_mark) l_Device_mark c_Device_mark k_Device_mark
  have b_Device_mark := F_Device_mark.binds (ps := ["self"]) fun _ _ _ _ _ _ us hl => match us, hl with | [_], _ => rfl
  have F_Device_go_on_from_mark := fun_mk (st := s_Device_go_on_from_mark) l_Device_go_on_from_mark c_Device_go_on_from_mark k_Device_go_on_from_mark
  have b_Device_go_on_from_mark := F_Device_go_on_from_mark.binds (ps := ["self"]) fun _ _ _ _ _ _ us hl => match us, hl with | [_], _ => rfl
  have F_Device_end_if_done := fun_mk (st := s_Device_end_if_done) l_Device_end_if_done c_Device_end_if_done k_Device_end_if_done
  have b_Device_end_if_done := F_Device_end_if_done.binds (ps := ["self"]) fun _ _ _ _ _ _ us hl => match us, hl with | [_], _ => rfl
  have F_Device_write := fun_mk (st := s_Device_write) l_Device_write c_Device_write k_Device_write
  have b_Device_write := F_Device_write.binds (ps := ["self"]) fun _ _ _ _ _ _ us hl => match us, hl with | [_], _ => rfl
  have F_Device_write_step := fun_mk (st := s_Device_write_step) l_Device_write_step c_Device_write_step k_Device_write_step
  have b_Device_write_step := F_Device_write_step.binds (ps := ["self"]) fun _ _ _ _ _ _ us hl => match us, hl with | [_], _ => rfl
  have F_Device_write_mark := fun_mk (st := s_Device_write_mark) l_Device_write_mark c_Device_write_mark k_Device_write_mark
  have b_Device_write_mark := F_Device_write_mark.binds (ps := ["self"]) fun _ _ _ _ _ _ us hl => match us, hl with | [_], _ => rfl
  have F_Device_next_place := fun_mk (st := s_Device_next_place) l_Device_next_place c_Device_next_place k_Device_next_place
  have b_Device_next_place := F_Device_next_place.binds (ps := ["self"]) fun _ _ _ _ _ _ us hl => match us, hl with | [_], _ => rfl
  let T : All K mg := ⟨⟨f0, _, F0, PySem.W.mg_of X G a0, b0⟩, ⟨f1, _, F1, PySem.W.mg_of X G a1, b1⟩, ⟨f2, _, F2, PySem.W.mg_of X G a2, b2⟩, ⟨f3, _, F3, PySem.W.mg_of X G a3, b3⟩, ⟨f4, _, F4, PySem.W.mg_of X G a4, b4⟩, ⟨f5, _, F5, PySem.W.mg_of X G a5, b5⟩, ⟨f6, _, F6, PySem.W.mg_of X G a6, b6⟩, ⟨f7, _, F7, PySem.W.mg_of X G a7, b7⟩, ⟨f8, _, F8, PySem.W.mg_of X G a8, b8⟩, ⟨f9, _, F9, PySem.W.mg_of X G a9, b9⟩, ⟨f10, _, F10, PySem.W.mg_of X G a10, b10⟩, ⟨f11, _, F11, PySem.W.mg_of X G a11, b11⟩, ⟨f12, _, F12, PySem.W.mg_of X G a12, b12⟩, ⟨f13, _, F13, PySem.W.mg_of X G a13, b13⟩, ⟨f14, _, F14, PySem.W.mg_of X G a14, b14⟩, ⟨f15, _, F15, PySem.W.mg_of X G a15, b15⟩, ⟨f16, _, F16, PySem.W.mg_of X G a16, b16⟩, ⟨f17, _, F17, PySem.W.mg_of X G a17, b17⟩, ⟨f18, _, F18, PySem.W.mg_of X G a18, b18⟩, ⟨f19, _, F19, PySem.W.mg_of X G a19, b19⟩, ⟨f20, _, F20, PySem.W.mg_of X G a20, b20⟩, ⟨f21, _, F21, PySem.W.mg_of X G a21, b21⟩, ⟨f22, _, F22, PySem.W.mg_of X G a22, b22⟩, ⟨f23, _, F23, PySem.W.mg_of X G a23, b23⟩, ⟨f24, _, F24, PySem.W.mg_of X G a24, b24⟩, ⟨f25, _, F25, PySem.W.mg_of X G a25, b25⟩, ⟨f26, _, F26, PySem.W.mg_of X G a26, b26⟩, ⟨f27, _, F27, PySem.W.mg_of X G a27, b27⟩, ⟨f28, _, F28, PySem.W.mg_of X G a28, b28⟩, ⟨f29, _, F29, PySem.W.mg_of X G a29, b29⟩, ⟨f30, _, F30, PySem.W.mg_of X G a30, b30⟩, ⟨f31, _, F31, PySem.W.mg_of X G a31, b31⟩, ⟨f32, _, F32, PySem.W.mg_of X G a32, b32⟩, ⟨f33, _, F33, PySem.W.mg_of X G a33, b33⟩, ⟨f34, _, F34, PySem.W.mg_of X G a34, b34⟩, ⟨f35, _, F35, PySem.W.mg_of X G a35, b35⟩, ⟨f36, _, F36, PySem.W.mg_of X G a36, b36⟩, ⟨f37, _, F37, PySem.W.mg_of X G a37, b37⟩, ⟨f38, _, F38, PySem.W.mg_of X G a38, b38⟩, ⟨f39, _, F39, PySem.W.mg_of X G a39, b39⟩, ⟨f40, _, F40, PySem.W.mg_of X G a40, b40⟩, ⟨f41, _, F41, PySem.W.mg_of X G a41, b41⟩, ⟨f42, _, F42, PySem.W.mg_of X G a42, b42⟩, ⟨f43, _, F43, PySem.W.mg_of X G a43, b43⟩, ⟨f44, _, F44, PySem.W.mg_of X G a44, b44⟩, ⟨f45, _, F45, PySem.W.mg_of X G a45, b45⟩, ⟨f46, _, F46, PySem.W.mg_of X G a46, b46⟩, ⟨f47, _, F47, PySem.W.mg_of X G a47, b47⟩, ⟨f48, _, F48, PySem.W.mg_of X G a48, b48⟩, ⟨f49, _, F49, PySem.W.mg_of X G a49, b49⟩, ⟨f50, _, F50, PySem.W.mg_of X G a50, b50⟩, ⟨f51, _, F51, PySem.W.mg_of X G a51, b51⟩, ⟨f52, _, F52, PySem.W.mg_of X G a52, b52⟩, ⟨f53, _, F53, PySem.W.mg_of X G a53, b53⟩, ⟨f54, _, F54, PySem.W.mg_of X G a54, b54⟩, ⟨f55, _, F55, PySem.W.mg_of X G a55, b55⟩, ⟨f56, _, F56, PySem.W.mg_of X G a56, b56⟩, t0, PySem.W.mg_of X G z0, t1, PySem.W.mg_of X G z1, t2, PySem.W.mg_of X G z2, t3, PySem.W.mg_of X G z3, t4, PySem.W.mg_of X G z4, t5, PySem.W.mg_of X G z5, a_6, PySem.W.mg_of X G z6, fun H => .inr ⟨_, its_6, n_6, y6, rfl, rfl, by subst x6; (show 3 ≤ sizeLine; rw [sizeLine_eq]; decide), by subst x6; exact (.cons ⟨_, rfl⟩ (.cons ⟨_, rfl⟩ (.cons ⟨_, rfl⟩ .nil)))⟩, ⟨_, y6, rfl, rfl⟩, t7, PySem.W.mg_of X G z7, t8, PySem.W.mg_of X G z8, kc_Work, PySem.W.mg_of X G zc_Work, ⟨zp_Work, zh_Work, zo_Work, zs_Work⟩, zn_Work_before, zn_Work_patch, zn_Work_steps, zn_Work_marks, ⟨f_Work_init, _, F_Work_init, ⟨a_Work_init, i_Work_init, k_Work_init⟩, b_Work_init⟩, ⟨zm_Work, a_Work_init, i_Work_init, zk_Work⟩, kc_Device, PySem.W.mg_of X G zc_Device, ⟨zp_Device, zh_Device, zo_Device, zs_Device⟩, zn_Device_cells, zn_Device_wear, zn_Device_places, zn_Device_places_worn, zn_Device_many, zn_Device_work, zn_Device_done, zn_Device_marked, zn_Device_part, zn_Device_asleep, ⟨f_Device_init, _, F_Device_init, ⟨a_Device_init, i_Device_init, k_Device_init⟩, b_Device_init⟩, ⟨f_Device_begin, _, F_Device_begin, ⟨a_Device_begin, i_Device_begin, k_Device_begin⟩, b_Device_begin⟩, ⟨f_Device_go, _, F_Device_go, ⟨a_Device_go, i_Device_go, k_Device_go⟩, b_Device_go⟩, ⟨f_Device_cut, _, F_Device_cut, ⟨a_Device_cut, i_Device_cut, k_Device_cut⟩, b_Device_cut⟩, ⟨f_Device_wake, _, F_Device_wake, ⟨a_Device_wake, i_Device_wake, k_Device_wake⟩, b_Device_wake⟩, ⟨f_Device_edition, _, F_Device_edition, ⟨a_Device_edition, i_Device_edition, k_Device_edition⟩, b_Device_edition⟩, ⟨f_Device_old, _, F_Device_old, ⟨a_Device_old, i_Device_old, k_Device_old⟩, b_Device_old⟩, ⟨f_Device_stands, _, F_Device_stands, ⟨a_Device_stands, i_Device_stands, k_Device_stands⟩, b_Device_stands⟩, ⟨f_Device_places, _, F_Device_places, ⟨a_Device_places, i_Device_places, k_Device_places⟩, b_Device_places⟩, ⟨f_Device_twin, _, F_Device_twin, ⟨a_Device_twin, i_Device_twin, k_Device_twin⟩, b_Device_twin⟩, ⟨f_Device_mark, _, F_Device_mark, ⟨a_Device_mark, i_Device_mark, k_Device_mark⟩, b_Device_mark⟩, ⟨f_Device_go_on_from_mark, _, F_Device_go_on_from_mark, ⟨a_Device_go_on_from_mark, i_Device_go_on_from_mark, k_Device_go_on_from_mark⟩, b_Device_go_on_from_mark⟩, ⟨f_Device_end_if_done, _, F_Device_end_if_done, ⟨a_Device_end_if_done, i_Device_end_if_done, k_Device_end_if_done⟩, b_Device_end_if_done⟩, ⟨f_Device_write, _, F_Device_write, ⟨a_Device_write, i_Device_write, k_Device_write⟩, b_Device_write⟩, ⟨f_Device_write_step, _, F_Device_write_step, ⟨a_Device_write_step, i_Device_write_step, k_Device_write_step⟩, b_Device_write_step⟩, ⟨f_Device_write_mark, _, F_Device_write_mark, ⟨a_Device_write_mark, i_Device_write_mark, k_Device_write_mark⟩, b_Device_write_mark⟩, ⟨f_Device_next_place, _, F_Device_next_place, ⟨a_Device_next_place, i_Device_next_place, k_Device_next_place⟩, b_Device_next_place⟩, ⟨zm_Device, a_Device_init, i_Device_init, zk_Device⟩, k_PatchError, PySem.W.mg_of X G h_PatchError, k_BadEdition, PySem.W.mg_of X G h_BadEdition, k_BadPatch, PySem.W.mg_of X G h_BadPatch, k_Beyond, PySem.W.mg_of X G h_Beyond, k_BadCount, PySem.W.mg_of X G h_BadCount, k_BadMeet, PySem.W.mg_of X G h_BadMeet, k_BadCode, PySem.W.mg_of X G h_BadCode, k_TooMany, PySem.W.mg_of X G h_TooMany, k_BadPieces, PySem.W.mg_of X G h_BadPieces, k_BadOrder, PySem.W.mg_of X G h_BadOrder, k_BadMarks, PySem.W.mg_of X G h_BadMarks, k_Underway, PySem.W.mg_of X G h_Underway, k_Asleep, PySem.W.mg_of X G h_Asleep, k_Awake, PySem.W.mg_of X G h_Awake, k_BadCell, PySem.W.mg_of X G h_BadCell, PySem.W.mg_none_of X G y_all, PySem.W.mg_none_of X G y_bool, PySem.W.mg_none_of X G y_bytes, PySem.W.mg_none_of X G y_enumerate, PySem.W.mg_none_of X G y_int, PySem.W.mg_none_of X G y_isinstance, PySem.W.mg_none_of X G y_len, PySem.W.mg_none_of X G y_list, PySem.W.mg_none_of X G y_max, PySem.W.mg_none_of X G y_min, PySem.W.mg_none_of X G y_range, PySem.W.mg_none_of X G y_reversed, PySem.W.mg_none_of X G y_set, PySem.W.mg_none_of X G y_sorted, PySem.W.mg_none_of X G y_sum, PySem.W.mg_none_of X G y_tuple, PySem.W.mg_none_of X G y_zip⟩
  have O_Beyond : N_Beyond.OwnErr l.prog K mg k_Beyond fI_Beyond :=
    { gC := PySem.W.mg_of X G h_Beyond, cls := ⟨_, _, _, _, _, _, _, _, _, _, _, _, _, _, _, o_cls_Beyond, o_bm_Beyond⟩, sa := o_sa_Beyond, noN := o_noN_Beyond, iC := o_iC_Beyond, tC := o_tC_Beyond, kC := o_kC_Beyond, exC := o_exC_Beyond, tyC := o_tyC_Beyond, sup := o_sup_Beyond, subV := o_subV_Beyond, mroC := o_mroC_Beyond, noAny := o_any_Beyond, mS := PySem.W.mg_none_of X G o_mS_Beyond, top := o_top_Beyond,
      fn := ⟨_, _, _, _, _, _, _, _, _, o_fn_Beyond, o_cI_Beyond, ⟨_, _, _, _, _, _, o_cd_Beyond, o_vs_Beyond, o_file_Beyond⟩, _, _, _, o_cc_Beyond⟩ }
  have TC_BadEdition : ToldC T k_BadEdition 5 :=
    { ec := ⟨o_ga_BadEdition, o_gg_BadEdition, o_exC_BadEdition, o_hdC_BadEdition, e_ha_BadEdition, e_hn, e_ht, o_mroO_BadEdition⟩, xf := ⟨o_ga_BadEdition, o_gg_BadEdition, o_exC_BadEdition, o_hdC_BadEdition⟩, exm := PySem.W.exm_ref p_ex p_hd p_ty p_sub_BadEdition, i_BadPatch := i_BadPatch_BadEdition, i_Beyond := i_Beyond_BadEdition, i_BadMeet := i_BadMeet_BadEdition, i_BadCode := i_BadCode_BadEdition, i_BadOrder := i_BadOrder_BadEdition, i_BadEdition := i_BadEdition_BadEdition, i_BadCount := i_BadCount_BadEdition, i_TooMany := i_TooMany_BadEdition, i_BadPieces := i_BadPieces_BadEdition, i_BadMarks := i_BadMarks_BadEdition, i_Underway := i_Underway_BadEdition, i_Asleep := i_Asleep_BadEdition, i_Awake := i_Awake_BadEdition, i_BadCell := i_BadCell_BadEdition }
  have O_BadEdition : PlainErr K k_BadEdition := ⟨o_xC_BadEdition, o_kC_BadEdition, o_exC_BadEdition, o_tyC_BadEdition⟩
  have TC_Beyond : ToldC T k_Beyond 1 :=
    { ec := ⟨o_ga_Beyond, o_gg_Beyond, o_exC_Beyond, o_hdC_Beyond, e_ha_Beyond, e_hn, e_ht, o_mroO_Beyond⟩, xf := ⟨o_ga_Beyond, o_gg_Beyond, o_exC_Beyond, o_hdC_Beyond⟩, exm := PySem.W.exm_ref p_ex p_hd p_ty p_sub_Beyond, i_BadPatch := i_BadPatch_Beyond, i_Beyond := i_Beyond_Beyond, i_BadMeet := i_BadMeet_Beyond, i_BadCode := i_BadCode_Beyond, i_BadOrder := i_BadOrder_Beyond, i_BadEdition := i_BadEdition_Beyond, i_BadCount := i_BadCount_Beyond, i_TooMany := i_TooMany_Beyond, i_BadPieces := i_BadPieces_Beyond, i_BadMarks := i_BadMarks_Beyond, i_Underway := i_Underway_Beyond, i_Asleep := i_Asleep_Beyond, i_Awake := i_Awake_Beyond, i_BadCell := i_BadCell_Beyond }
  have TC_BadCount : ToldC T k_BadCount 6 :=
    { ec := ⟨o_ga_BadCount, o_gg_BadCount, o_exC_BadCount, o_hdC_BadCount, e_ha_BadCount, e_hn, e_ht, o_mroO_BadCount⟩, xf := ⟨o_ga_BadCount, o_gg_BadCount, o_exC_BadCount, o_hdC_BadCount⟩, exm := PySem.W.exm_ref p_ex p_hd p_ty p_sub_BadCount, i_BadPatch := i_BadPatch_BadCount, i_Beyond := i_Beyond_BadCount, i_BadMeet := i_BadMeet_BadCount, i_BadCode := i_BadCode_BadCount, i_BadOrder := i_BadOrder_BadCount, i_BadEdition := i_BadEdition_BadCount, i_BadCount := i_BadCount_BadCount, i_TooMany := i_TooMany_BadCount, i_BadPieces := i_BadPieces_BadCount, i_BadMarks := i_BadMarks_BadCount, i_Underway := i_Underway_BadCount, i_Asleep := i_Asleep_BadCount, i_Awake := i_Awake_BadCount, i_BadCell := i_BadCell_BadCount }
  have O_BadCount : PlainErr K k_BadCount := ⟨o_xC_BadCount, o_kC_BadCount, o_exC_BadCount, o_tyC_BadCount⟩
  exact ⟨_, cL, PL, tab_at a57 l57 rfl t_cd t_p, t_n, fun s v => .of_eq rfl, fun base _ _ TB => lawT_ok T O_BadEdition TC_BadEdition O_Beyond TC_Beyond O_BadCount TC_BadCount l57 c57 TB⟩
theorem walk {l : PySem.W.OpenLaw} {q : Program} {loose : List Str} {XP : (Str → Option Value) → Heap → Prop} {YP : World → Heap → Prop} {d : DefRec} {K : Params → PySem.W.Frag} (hn : l.most = some 63) (hdf : d.params.defaults = [])
    (hY : ∀ (w : World) (h : Heap), YP w h → (K w.params).In h) (hrec : (recsOf q).find? (fun e => e.name == ("law" : Str)) = some d)
    (F : ∀ (w : World) (mg : Str → Option Value) (fa : Addr) (h : Heap), (K w.params).In h → h.Ns mainGlobals mg → mg d.name = some (.ref fa) →
      ∃ (fd : FuncData) (cL PL : Addr), PySem.W.tabIn (K w.params) "law" = some (cL, PL) ∧ (K w.params).lookup PL = none ∧ (∀ (s : Shared) (u : Value), BindsTo s fd ⟨[u], []⟩ [("_law_script", u)]) ∧
        ∀ base : Heap, (K w.params).In base → base.Ns mainGlobals mg → LamX.TabB base mg cL PL → FnOk l.prog w (K w.params) mg base CX0 11 fa fd ["_law_script"] (spLawT (K w.params) PL)) :
    PySem.W.WalkO q loose XP YP l.row.toRowW d [] (fun f vs => PySem.call f vs) := by
  refine Att.attach_callB hn hdf fun w s₀ s₁ mg mb fa o pm cd doc a vs ns G Y ho hd hcd hmg hobj hints hlen hbits hg => ?_
  have KX := hY w _ Y
  obtain ⟨fd, cL, PL, ht, nT, hb, hF⟩ := F w mg fa _ KX G.T.g hmg
  obtain ⟨C, hP⟩ := PySem.W.tab_of G.T KX hrec ht
  have one : ∀ {Pq : Addr × Addr → Prop}, Pq (cL, PL) → ∀ p ∈ [(cL, PL)], Pq p := fun {Pq} hq p hp => by rw [List.mem_singleton.mp hp]; exact hq
  exact LamX.law_callTs (CX := CX0) (k := 11) (x := "_law_script") (cs := [(cL, PL)]) (fd := fd) (sp := spLawT (K w.params) PL) KX G.T.g G.T.b G.T.builtins G.T.nolimit hg (one (Pq := fun p => s₁.heap.get? p.2 = _) hP) (one (Pq := fun p => (K w.params).lookup p.2 = none) nT) (one (Pq := fun p => PySem.W.CodeHd s₁.heap p.1 p.2) C) G.T.bmain hobj hints (Nat.le_trans hlen (by decide)) ⟨rfl, by decide, by decide⟩
    (fun base h1 h2 h3 => hF base h1 h2 (h3 _ (List.mem_singleton.mpr rfl))) hb (fun H hH hS => ⟨a, ns, rfl, hS, hlen, hH _ (List.mem_singleton.mpr rfl), fun _ => rfl⟩) fun H e s' z => z
end My
open PySem PySem.W PyProof.Rows
set_option maxRecDepth 100000 in
set_option maxHeartbeats 0 in
theorem PySem.Challenge.cw_patchover_k02_editions_refused_holds : PySem.Challenge.rw_patchover_k02_editions_refused.Holds := by
  w_on; o_law; k_head; (case hw => w_witness2)
  k_fill
  first | refine My.walk (l := PySem.Challenge.rw_patchover_k02_editions_refused) rfl rfl (fun w h Y => PySem.W.km_in_of Y) (by first | rfl | kernel_rfl | decide +kernel) ?F | refine My.walk (l := PySem.Challenge.rw_patchover_k02_editions_refused) rfl rfl (fun w h Y => PySem.W.kIn_of Y) (by first | rfl | kernel_rfl | decide +kernel) ?F
  case F =>
    intro w mg fa h KX G hmg
    refine' My.all_mk KX G hmg ?a0 ?l0 ?c0 ?k0 ?a1 ?l1 ?c1 ?k1 ?a2 ?l2 ?c2 ?k2 ?a3 ?l3 ?c3 ?k3 ?a4 ?l4 ?c4 ?k4 ?a5 ?l5 ?c5 ?k5 ?a6 ?l6 ?c6 ?k6 ?a7 ?l7 ?c7 ?k7 ?a8 ?l8 ?c8 ?k8 ?a9 ?l9 ?c9 ?k9 ?a10 ?l10 ?c10 ?k10 ?a11 ?l11 ?c11 ?k11 ?a12 ?l12 ?c12 ?k12 ?a13 ?l13 ?c13 ?k13 ?a14 ?l14 ?c14 ?k14 ?a15 ?l15 ?c15 ?k15 ?a16 ?l16 ?c16 ?k16 ?a17 ?l17 ?c17 ?k17 ?a18 ?l18 ?c18 ?k18 ?a19 ?l19 ?c19 ?k19 ?a20 ?l20 ?c20 ?k20 ?a21 ?l21 ?c21 ?k21 ?a22 ?l22 ?c22 ?k22 ?a23 ?l23 ?c23 ?k23 ?a24 ?l24 ?c24 ?k24 ?a25 ?l25 ?c25 ?k25 ?a26 ?l26 ?c26 ?k26 ?a27 ?l27 ?c27 ?k27 ?a28 ?l28 ?c28 ?k28 ?a29 ?l29 ?c29 ?k29 ?a30 ?l30 ?c30 ?k30 ?a31 ?l31 ?c31 ?k31 ?a32 ?l32 ?c32 ?k32 ?a33 ?l33 ?c33 ?k33 ?a34 ?l34 ?c34 ?k34 ?a35 ?l35 ?c35 ?k35 ?a36 ?l36 ?c36 ?k36 ?a37 ?l37 ?c37 ?k37 ?a38 ?l38 ?c38 ?k38 ?a39 ?l39 ?c39 ?k39 ?a40 ?l40 ?c40 ?k40 ?a41 ?l41 ?c41 ?k41 ?a42 ?l42 ?c42 ?k42 ?a43 ?l43 ?c43 ?k43 ?a44 ?l44 ?c44 ?k44 ?a45 ?l45 ?c45 ?k45 ?a46 ?l46 ?c46 ?k46 ?a47 ?l47 ?c47 ?k47 ?a48 ?l48 ?c48 ?k48 ?a49 ?l49 ?c49 ?k49 ?a50 ?l50 ?c50 ?k50 ?a51 ?l51 ?c51 ?k51 ?a52 ?l52 ?c52 ?k52 ?a53 ?l53 ?c53 ?k53 ?a54 ?l54 ?c54 ?k54 ?a55 ?l55 ?c55 ?k55 ?a56 ?l56 ?c56 ?k56 ?a57 ?l57 ?c57 ?k57 ?z0 ?z1 ?z2 ?z3 ?z4 ?z5 ?z6 ?y6 ?x6 ?z7 ?z8 ?zc_Work ?zp_Work ?zh_Work ?zo_Work ?zs_Work ?zm_Work ?zk_Work ?zn_Work_before ?zn_Work_patch ?zn_Work_steps ?zn_Work_marks ?a_Work_init ?i_Work_init ?l_Work_init ?c_Work_init ?k_Work_init ?zc_Device ?zp_Device ?zh_Device ?zo_Device ?zs_Device ?zm_Device ?zk_Device ?zn_Device_cells ?zn_Device_wear ?zn_Device_places ?zn_Device_places_worn ?zn_Device_many ?zn_Device_work ?zn_Device_done ?zn_Device_marked ?zn_Device_part ?zn_Device_asleep ?a_Device_init ?i_Device_init ?l_Device_init ?c_Device_init ?k_Device_init ?a_Device_begin ?i_Device_begin ?l_Device_begin ?c_Device_begin ?k_Device_begin ?a_Device_go ?i_Device_go ?l_Device_go ?c_Device_go ?k_Device_go ?a_Device_cut ?i_Device_cut ?l_Device_cut ?c_Device_cut ?k_Device_cut ?a_Device_wake ?i_Device_wake ?l_Device_wake ?c_Device_wake ?k_Device_wake ?a_Device_edition ?i_Device_edition ?l_Device_edition ?c_Device_edition ?k_Device_edition ?a_Device_old ?i_Device_old ?l_Device_old ?c_Device_old ?k_Device_old ?a_Device_stands ?i_Device_stands ?l_Device_stands ?c_Device_stands ?k_Device_stands ?a_Device_places ?i_Device_places ?l_Device_places ?c_Device_places ?k_Device_places ?a_Device_twin ?i_Device_twin ?l_Device_twin ?c_Device_twin ?k_Device_twin ?a_Device_mark ?i_Device_mark ?l_Device_mark ?c_Device_mark ?k_Device_mark ?a_Device_go_on_from_mark ?i_Device_go_on_from_mark ?l_Device_go_on_from_mark ?c_Device_go_on_from_mark ?k_Device_go_on_from_mark ?a_Device_end_if_done ?i_Device_end_if_done ?l_Device_end_if_done ?c_Device_end_if_done ?k_Device_end_if_done ?a_Device_write ?i_Device_write ?l_Device_write ?c_Device_write ?k_Device_write ?a_Device_write_step ?i_Device_write_step ?l_Device_write_step ?c_Device_write_step ?k_Device_write_step ?a_Device_write_mark ?i_Device_write_mark ?l_Device_write_mark ?c_Device_write_mark ?k_Device_write_mark ?a_Device_next_place ?i_Device_next_place ?l_Device_next_place ?c_Device_next_place ?k_Device_next_place ?h_PatchError ?h_BadEdition ?h_BadPatch ?h_Beyond ?h_BadCount ?h_BadMeet ?h_BadCode ?h_TooMany ?h_BadPieces ?h_BadOrder ?h_BadMarks ?h_Underway ?h_Asleep ?h_Awake ?h_BadCell ?y_all ?y_bool ?y_bytes ?y_enumerate ?y_int ?y_isinstance ?y_len ?y_list ?y_max ?y_min ?y_range ?y_reversed ?y_set ?y_sorted ?y_sum ?y_tuple ?y_zip ?o_cls_Beyond ?o_bm_Beyond ?o_sa_Beyond ?o_noN_Beyond ?o_iC_Beyond ?o_tC_Beyond ?o_kC_Beyond ?o_exC_Beyond ?o_tyC_Beyond ?o_sup_Beyond ?o_subV_Beyond ?o_mroC_Beyond ?o_any_Beyond ?o_mS_Beyond ?o_fn_Beyond ?o_cI_Beyond ?o_cd_Beyond ?o_vs_Beyond ?o_file_Beyond ?o_cc_Beyond ?o_top_Beyond ?e_hn ?e_ht ?p_ex ?p_hd ?p_ty ?o_xC_BadEdition ?o_kC_BadEdition ?o_exC_BadEdition ?o_tyC_BadEdition ?o_ga_BadEdition ?o_gg_BadEdition ?o_hdC_BadEdition ?e_ha_BadEdition ?o_mroO_BadEdition ?p_sub_BadEdition ?i_BadPatch_BadEdition ?i_Beyond_BadEdition ?i_BadMeet_BadEdition ?i_BadCode_BadEdition ?i_BadOrder_BadEdition ?i_BadEdition_BadEdition ?i_BadCount_BadEdition ?i_TooMany_BadEdition ?i_BadPieces_BadEdition ?i_BadMarks_BadEdition ?i_Underway_BadEdition ?i_Asleep_BadEdition ?i_Awake_BadEdition ?i_BadCell_BadEdition ?o_ga_Beyond ?o_gg_Beyond ?o_hdC_Beyond ?e_ha_Beyond ?o_mroO_Beyond ?p_sub_Beyond ?i_BadPatch_Beyond ?i_Beyond_Beyond ?i_BadMeet_Beyond ?i_BadCode_Beyond ?i_BadOrder_Beyond ?i_BadEdition_Beyond ?i_BadCount_Beyond ?i_TooMany_Beyond ?i_BadPieces_Beyond ?i_BadMarks_Beyond ?i_Underway_Beyond ?i_Asleep_Beyond ?i_Awake_Beyond ?i_BadCell_Beyond ?o_xC_BadCount ?o_kC_BadCount ?o_exC_BadCount ?o_tyC_BadCount ?o_ga_BadCount ?o_gg_BadCount ?o_hdC_BadCount ?e_ha_BadCount ?o_mroO_BadCount ?p_sub_BadCount ?i_BadPatch_BadCount ?i_Beyond_BadCount ?i_BadMeet_BadCount ?i_BadCode_BadCount ?i_BadOrder_BadCount ?i_BadEdition_BadCount ?i_BadCount_BadCount ?i_TooMany_BadCount ?i_BadPieces_BadCount ?i_BadMarks_BadCount ?i_Underway_BadCount ?i_Asleep_BadCount ?i_Awake_BadCount ?i_BadCell_BadCount ?t_cd ?t_p ?t_n
    (case a0 => k_is)
    (case l0 => k_is)
    (case c0 => k_is)
    (case k0 => k_is)
    (case a1 => k_is)
    (case l1 => k_is)
    (case c1 => k_is)
    (case k1 => k_is)
    (case a2 => k_is)
    (case l2 => k_is)
    (case c2 => k_is)
    (case k2 => k_is)
    (case a3 => k_is)
    (case l3 => k_is)
    (case c3 => k_is)
    (case k3 => k_is)
    (case a4 => k_is)
    (case l4 => k_is)
    (case c4 => k_is)
    (case k4 => k_is)
    (case a5 => k_is)
    (case l5 => k_is)
    (case c5 => k_is)
    (case k5 => k_is)
    (case a6 => k_is)
    (case l6 => k_is)
    (case c6 => k_is)
    (case k6 => k_is)
    (case a7 => k_is)
    (case l7 => k_is)
    (case c7 => k_is)
    (case k7 => k_is)
    (case a8 => k_is)
    (case l8 => k_is)
    (case c8 => k_is)
    (case k8 => k_is)
    (case a9 => k_is)
    (case l9 => k_is)
    (case c9 => k_is)
    (case k9 => k_is)
    (case a10 => k_is)
    (case l10 => k_is)
    (case c10 => k_is)
    (case k10 => k_is)
    (case a11 => k_is)
    (case l11 => k_is)
    (case c11 => k_is)
    (case k11 => k_is)
    (case a12 => k_is)
    (case l12 => k_is)
    (case c12 => k_is)
    (case k12 => k_is)
    (case a13 => k_is)
    (case l13 => k_is)
    (case c13 => k_is)
    (case k13 => k_is)
    (case a14 => k_is)
    (case l14 => k_is)
    (case c14 => k_is)
    (case k14 => k_is)
    (case a15 => k_is)
    (case l15 => k_is)
    (case c15 => k_is)
    (case k15 => k_is)
    (case a16 => k_is)
    (case l16 => k_is)
    (case c16 => k_is)
    (case k16 => k_is)
    (case a17 => k_is)
    (case l17 => k_is)
    (case c17 => k_is)
    (case k17 => k_is)
    (case a18 => k_is)
    (case l18 => k_is)
    (case c18 => k_is)
    (case k18 => k_is)
    (case a19 => k_is)
    (case l19 => k_is)
    (case c19 => k_is)
    (case k19 => k_is)
    (case a20 => k_is)
    (case l20 => k_is)
    (case c20 => k_is)
    (case k20 => k_is)
    (case a21 => k_is)
    (case l21 => k_is)
    (case c21 => k_is)
    (case k21 => k_is)
    (case a22 => k_is)
    (case l22 => k_is)
    (case c22 => k_is)
    (case k22 => k_is)
    (case a23 => k_is)
    (case l23 => k_is)
    (case c23 => k_is)
    (case k23 => k_is)
    (case a24 => k_is)
    (case l24 => k_is)
    (case c24 => k_is)
    (case k24 => k_is)
    (case a25 => k_is)
    (case l25 => k_is)
    (case c25 => k_is)
    (case k25 => k_is)
    (case a26 => k_is)
    (case l26 => k_is)
    (case c26 => k_is)
    (case k26 => k_is)
    (case a27 => k_is)
    (case l27 => k_is)
    (case c27 => k_is)
    (case k27 => k_is)
    (case a28 => k_is)
    (case l28 => k_is)
    (case c28 => k_is)
    (case k28 => k_is)
    (case a29 => k_is)
    (case l29 => k_is)
    (case c29 => k_is)
    (case k29 => k_is)
    (case a30 => k_is)
    (case l30 => k_is)
    (case c30 => k_is)
    (case k30 => k_is)
    (case a31 => k_is)
    (case l31 => k_is)
    (case c31 => k_is)
    (case k31 => k_is)
    (case a32 => k_is)
    (case l32 => k_is)
    (case c32 => k_is)
    (case k32 => k_is)
    (case a33 => k_is)
    (case l33 => k_is)
    (case c33 => k_is)
    (case k33 => k_is)
    (case a34 => k_is)
    (case l34 => k_is)
    (case c34 => k_is)
    (case k34 => k_is)
    (case a35 => k_is)
    (case l35 => k_is)
    (case c35 => k_is)
    (case k35 => k_is)
    (case a36 => k_is)
    (case l36 => k_is)
    (case c36 => k_is)
    (case k36 => k_is)
    (case a37 => k_is)
    (case l37 => k_is)
    (case c37 => k_is)
    (case k37 => k_is)
    (case a38 => k_is)
    (case l38 => k_is)
    (case c38 => k_is)
    (case k38 => k_is)
    (case a39 => k_is)
    (case l39 => k_is)
    (case c39 => k_is)
    (case k39 => k_is)
    (case a40 => k_is)
    (case l40 => k_is)
    (case c40 => k_is)
    (case k40 => k_is)
    (case a41 => k_is)
    (case l41 => k_is)
    (case c41 => k_is)
    (case k41 => k_is)
    (case a42 => k_is)
    (case l42 => k_is)
    (case c42 => k_is)
    (case k42 => k_is)
    (case a43 => k_is)
    (case l43 => k_is)
    (case c43 => k_is)
    (case k43 => k_is)
    (case a44 => k_is)
    (case l44 => k_is)
    (case c44 => k_is)
    (case k44 => k_is)
    (case a45 => k_is)
    (case l45 => k_is)
    (case c45 => k_is)
    (case k45 => k_is)
    (case a46 => k_is)
    (case l46 => k_is)
    (case c46 => k_is)
    (case k46 => k_is)
    (case a47 => k_is)
    (case l47 => k_is)
    (case c47 => k_is)
    (case k47 => k_is)
    (case a48 => k_is)
    (case l48 => k_is)
    (case c48 => k_is)
    (case k48 => k_is)
    (case a49 => k_is)
    (case l49 => k_is)
    (case c49 => k_is)
    (case k49 => k_is)
    (case a50 => k_is)
    (case l50 => k_is)
    (case c50 => k_is)
    (case k50 => k_is)
    (case a51 => k_is)
    (case l51 => k_is)
    (case c51 => k_is)
    (case k51 => k_is)
    (case a52 => k_is)
    (case l52 => k_is)
    (case c52 => k_is)
    (case k52 => k_is)
    (case a53 => k_is)
    (case l53 => k_is)
    (case c53 => k_is)
    (case k53 => k_is)
    (case a54 => k_is)
    (case l54 => k_is)
    (case c54 => k_is)
    (case k54 => k_is)
    (case a55 => k_is)
    (case l55 => k_is)
    (case c55 => k_is)
    (case k55 => k_is)
    (case a56 => k_is)
    (case l56 => k_is)
    (case c56 => k_is)
    (case k56 => k_is)
    (case a57 => k_is)
    (case l57 => k_is)
    (case c57 => k_is)
    (case k57 => k_is)
    (case z0 => k_is)
    (case z1 => k_is)
    (case z2 => k_is)
    (case z3 => k_is)
    (case z4 => k_is)
    (case z5 => k_is)
    (case z6 => k_is)
    (case y6 => k_is)
    (case x6 => first | rfl | kernel_rfl)
    (case z7 => k_is)
    (case z8 => k_is)
    (case zc_Work => k_is)
    (case zp_Work => k_is)
    (case zh_Work => k_is)
    (case zo_Work => k_is)
    (case zs_Work => k_is)
    (case zm_Work => k_is)
    (case zk_Work => k_is)
    (case zn_Work_before => k_is)
    (case zn_Work_patch => k_is)
    (case zn_Work_steps => k_is)
    (case zn_Work_marks => k_is)
    (case a_Work_init => k_is)
    (case i_Work_init => k_is)
    (case l_Work_init => k_is)
    (case c_Work_init => k_is)
    (case k_Work_init => k_is)
    (case zc_Device => k_is)
    (case zp_Device => k_is)
    (case zh_Device => k_is)
    (case zo_Device => k_is)
    (case zs_Device => k_is)
    (case zm_Device => k_is)
    (case zk_Device => k_is)
    (case zn_Device_cells => k_is)
    (case zn_Device_wear => k_is)
    (case zn_Device_places => k_is)
    (case zn_Device_places_worn => k_is)
    (case zn_Device_many => k_is)
    (case zn_Device_work => k_is)
    (case zn_Device_done => k_is)
    (case zn_Device_marked => k_is)
    (case zn_Device_part => k_is)
    (case zn_Device_asleep => k_is)
    (case a_Device_init => k_is)
    (case i_Device_init => k_is)
    (case l_Device_init => k_is)
    (case c_Device_init => k_is)
    (case k_Device_init => k_is)
    (case a_Device_begin => k_is)
    (case i_Device_begin => k_is)
    (case l_Device_begin => k_is)
    (case c_Device_begin => k_is)
    (case k_Device_begin => k_is)
    (case a_Device_go => k_is)
    (case i_Device_go => k_is)
    (case l_Device_go => k_is)
    (case c_Device_go => k_is)
    (case k_Device_go => k_is)
    (case a_Device_cut => k_is)
    (case i_Device_cut => k_is)
    (case l_Device_cut => k_is)
    (case c_Device_cut => k_is)
    (case k_Device_cut => k_is)
    (case a_Device_wake => k_is)
    (case i_Device_wake => k_is)
    (case l_Device_wake => k_is)
    (case c_Device_wake => k_is)
    (case k_Device_wake => k_is)
    (case a_Device_edition => k_is)
    (case i_Device_edition => k_is)
    (case l_Device_edition => k_is)
    (case c_Device_edition => k_is)
    (case k_Device_edition => k_is)
    (case a_Device_old => k_is)
    (case i_Device_old => k_is)
    (case l_Device_old => k_is)
    (case c_Device_old => k_is)
    (case k_Device_old => k_is)
    (case a_Device_stands => k_is)
    (case i_Device_stands => k_is)
    (case l_Device_stands => k_is)
    (case c_Device_stands => k_is)
    (case k_Device_stands => k_is)
    (case a_Device_places => k_is)
    (case i_Device_places => k_is)
    (case l_Device_places => k_is)
    (case c_Device_places => k_is)
    (case k_Device_places => k_is)
    (case a_Device_twin => k_is)
    (case i_Device_twin => k_is)
    (case l_Device_twin => k_is)
    (case c_Device_twin => k_is)
    (case k_Device_twin => k_is)
    (case a_Device_mark => k_is)
    (case i_Device_mark => k_is)
    (case l_Device_mark => k_is)
    (case c_Device_mark => k_is)
    (case k_Device_mark => k_is)
    (case a_Device_go_on_from_mark => k_is)
    (case i_Device_go_on_from_mark => k_is)
    (case l_Device_go_on_from_mark => k_is)
    (case c_Device_go_on_from_mark => k_is)
    (case k_Device_go_on_from_mark => k_is)
    (case a_Device_end_if_done => k_is)
    (case i_Device_end_if_done => k_is)
    (case l_Device_end_if_done => k_is)
    (case c_Device_end_if_done => k_is)
    (case k_Device_end_if_done => k_is)
    (case a_Device_write => k_is)
    (case i_Device_write => k_is)
    (case l_Device_write => k_is)
    (case c_Device_write => k_is)
    (case k_Device_write => k_is)
    (case a_Device_write_step => k_is)
    (case i_Device_write_step => k_is)
    (case l_Device_write_step => k_is)
    (case c_Device_write_step => k_is)
    (case k_Device_write_step => k_is)
    (case a_Device_write_mark => k_is)
    (case i_Device_write_mark => k_is)
    (case l_Device_write_mark => k_is)
    (case c_Device_write_mark => k_is)
    (case k_Device_write_mark => k_is)
    (case a_Device_next_place => k_is)
    (case i_Device_next_place => k_is)
    (case l_Device_next_place => k_is)
    (case c_Device_next_place => k_is)
    (case k_Device_next_place => k_is)
    (case h_PatchError => k_is)
    (case h_BadEdition => k_is)
    (case h_BadPatch => k_is)
    (case h_Beyond => k_is)
    (case h_BadCount => k_is)
    (case h_BadMeet => k_is)
    (case h_BadCode => k_is)
    (case h_TooMany => k_is)
    (case h_BadPieces => k_is)
    (case h_BadOrder => k_is)
    (case h_BadMarks => k_is)
    (case h_Underway => k_is)
    (case h_Asleep => k_is)
    (case h_Awake => k_is)
    (case h_BadCell => k_is)
    (case y_all => k_is)
    (case y_bool => k_is)
    (case y_bytes => k_is)
    (case y_enumerate => k_is)
    (case y_int => k_is)
    (case y_isinstance => k_is)
    (case y_len => k_is)
    (case y_list => k_is)
    (case y_max => k_is)
    (case y_min => k_is)
    (case y_range => k_is)
    (case y_reversed => k_is)
    (case y_set => k_is)
    (case y_sorted => k_is)
    (case y_sum => k_is)
    (case y_tuple => k_is)
    (case y_zip => k_is)
    (case o_cls_Beyond => k_is)
    (case o_bm_Beyond => first | rfl | decide +kernel | kernel_rfl)
    (case o_sa_Beyond => k_is)
    (case o_noN_Beyond => k_is)
    (case o_iC_Beyond => k_is)
    (case o_tC_Beyond => k_is)
    (case o_kC_Beyond => k_is)
    (case o_exC_Beyond => k_is)
    (case o_tyC_Beyond => k_is)
    (case o_sup_Beyond => ks_is)
    (case o_subV_Beyond => k_is)
    (case o_mroC_Beyond => k_is)
    (case o_any_Beyond => k_is)
    (case o_mS_Beyond => k_is)
    (case o_fn_Beyond => k_is)
    (case o_cI_Beyond => k_is)
    (case o_cd_Beyond => k_is)
    (case o_vs_Beyond => first | rfl | kernel_rfl)
    (case o_file_Beyond => first | rfl | decide +kernel | kernel_rfl)
    (case o_cc_Beyond => k_is)
    (case o_top_Beyond => first | rfl | decide +kernel | kernel_rfl)
    (case e_hn => k_is)
    (case e_ht => k_is)
    (case p_ex => k_is)
    (case p_hd => k_is)
    (case p_ty => k_is)
    (case o_xC_BadEdition => first | k_exc | kernel_rfl)
    (case o_kC_BadEdition => k_is)
    (case o_exC_BadEdition => k_is)
    (case o_tyC_BadEdition => k_is)
    (case o_ga_BadEdition => k_is)
    (case o_gg_BadEdition => k_is)
    (case o_hdC_BadEdition => k_is)
    (case e_ha_BadEdition => k_is)
    (case o_mroO_BadEdition => k_is)
    (case p_sub_BadEdition => k_is)
    (case i_BadPatch_BadEdition => first | kit_is | kernel_rfl)
    (case i_Beyond_BadEdition => first | kit_is | kernel_rfl)
    (case i_BadMeet_BadEdition => first | kit_is | kernel_rfl)
    (case i_BadCode_BadEdition => first | kit_is | kernel_rfl)
    (case i_BadOrder_BadEdition => first | kit_is | kernel_rfl)
    (case i_BadEdition_BadEdition => first | kit_is | kernel_rfl)
    (case i_BadCount_BadEdition => first | kit_is | kernel_rfl)
    (case i_TooMany_BadEdition => first | kit_is | kernel_rfl)
    (case i_BadPieces_BadEdition => first | kit_is | kernel_rfl)
    (case i_BadMarks_BadEdition => first | kit_is | kernel_rfl)
    (case i_Underway_BadEdition => first | kit_is | kernel_rfl)
    (case i_Asleep_BadEdition => first | kit_is | kernel_rfl)
    (case i_Awake_BadEdition => first | kit_is | kernel_rfl)
    (case i_BadCell_BadEdition => first | kit_is | kernel_rfl)
    (case o_ga_Beyond => k_is)
    (case o_gg_Beyond => k_is)
    (case o_hdC_Beyond => k_is)
    (case e_ha_Beyond => k_is)
    (case o_mroO_Beyond => k_is)
    (case p_sub_Beyond => k_is)
    (case i_BadPatch_Beyond => first | kit_is | kernel_rfl)
    (case i_Beyond_Beyond => first | kit_is | kernel_rfl)
    (case i_BadMeet_Beyond => first | kit_is | kernel_rfl)
    (case i_BadCode_Beyond => first | kit_is | kernel_rfl)
    (case i_BadOrder_Beyond => first | kit_is | kernel_rfl)
    (case i_BadEdition_Beyond => first | kit_is | kernel_rfl)
    (case i_BadCount_Beyond => first | kit_is | kernel_rfl)
    (case i_TooMany_Beyond => first | kit_is | kernel_rfl)
    (case i_BadPieces_Beyond => first | kit_is | kernel_rfl)
    (case i_BadMarks_Beyond => first | kit_is | kernel_rfl)
    (case i_Underway_Beyond => first | kit_is | kernel_rfl)
    (case i_Asleep_Beyond => first | kit_is | kernel_rfl)
    (case i_Awake_Beyond => first | kit_is | kernel_rfl)
    (case i_BadCell_Beyond => first | kit_is | kernel_rfl)
    (case o_xC_BadCount => first | k_exc | kernel_rfl)
    (case o_kC_BadCount => k_is)
    (case o_exC_BadCount => k_is)
    (case o_tyC_BadCount => k_is)
    (case o_ga_BadCount => k_is)
    (case o_gg_BadCount => k_is)
    (case o_hdC_BadCount => k_is)
    (case e_ha_BadCount => k_is)
    (case o_mroO_BadCount => k_is)
    (case p_sub_BadCount => k_is)
    (case i_BadPatch_BadCount => first | kit_is | kernel_rfl)
    (case i_Beyond_BadCount => first | kit_is | kernel_rfl)
    (case i_BadMeet_BadCount => first | kit_is | kernel_rfl)
    (case i_BadCode_BadCount => first | kit_is | kernel_rfl)
    (case i_BadOrder_BadCount => first | kit_is | kernel_rfl)
    (case i_BadEdition_BadCount => first | kit_is | kernel_rfl)
    (case i_BadCount_BadCount => first | kit_is | kernel_rfl)
    (case i_TooMany_BadCount => first | kit_is | kernel_rfl)
    (case i_BadPieces_BadCount => first | kit_is | kernel_rfl)
    (case i_BadMarks_BadCount => first | kit_is | kernel_rfl)
    (case i_Underway_BadCount => first | kit_is | kernel_rfl)
    (case i_Asleep_BadCount => first | kit_is | kernel_rfl)
    (case i_Awake_BadCount => first | kit_is | kernel_rfl)
    (case i_BadCell_BadCount => first | kit_is | kernel_rfl)
    (case t_cd => k_is)
    (case t_p => first | rfl | kernel_rfl)
    (case t_n => first | k_is | kernel_rfl)
