import PyProof.Rows.All
import Wide.All
import OpenK.AllK
import Wide.FinOn
import PyProof.EqAt
import PyProof.EqKinds
import PyProof.TupleCall
import Open.SpecLaws
import KE.OsHead
import KE.OsGo
import PyProof.StationsW
import PyProof.ExcArgsOwn
import PyProof.RulesAs
import PyProof.PassesOwn
import PyProof.ExcInit
import PyProof.InstStoreFacts
import PyProof.ExcAttrAll.ValueError
import KE.BitLaws
import PyProof.Draws
import PyProof.EnumMake
import PySem.Challenge.RW_shieldwords_s03_draw
set_option Elab.async false
set_option linter.all false
set_option maxRecDepth 100000
set_option maxHeartbeats 2000000
set_option genSizeOfSpec false
namespace PySem.W.Fast
noncomputable abbrev tw12169870132745404842 := 0
noncomputable abbrev tw1856482314049151377 := 0
noncomputable abbrev tw3424355780562144983 := 0
noncomputable abbrev tw10902712803409450854 := 0
noncomputable abbrev tw13981417426775208277 := 0
noncomputable abbrev tw8588375440885244768 := 0
noncomputable abbrev tw10068041932370256587 := 0
noncomputable abbrev tw11113900421424977832 := 0
noncomputable abbrev tw10069722215580015202 := 0
noncomputable abbrev tw17582626419422406495 := 0
noncomputable abbrev tw17738162180724748621 := 0
noncomputable abbrev tw4685670927688370264 := 0
noncomputable abbrev tw2748613271387307923 := 0
noncomputable abbrev tw16374620155027577818 := 0
noncomputable abbrev tw13495760273807823699 := 0
noncomputable abbrev tw13113270242427058521 := 0
noncomputable abbrev tw10944134355621058969 := 0
noncomputable abbrev tw15021251013238249662 := 0
noncomputable abbrev tw3274304968372550817 := 0
noncomputable abbrev tw13366261558629274280 := 0
noncomputable abbrev tw1423507443504584631 := 0
noncomputable abbrev tw13294607214511103465 := 0
noncomputable abbrev tw5575898995035516783 := 0
noncomputable abbrev tw3013423315837675820 := 0
noncomputable abbrev tw4432519264359014662 := 0
noncomputable abbrev tw11968158691266714264 := 0
noncomputable abbrev tw7939724356444443841 := 0
noncomputable abbrev tw13051065421568070661 := 0
noncomputable abbrev tw16783398722311850323 := 0
noncomputable abbrev tw13096623114589560142 := 0
noncomputable abbrev tw10378015013108159037 := 0
noncomputable abbrev tw9432045394599276276 := 0
noncomputable abbrev tw8906632000369263833 := 0
noncomputable abbrev tw2380003168791521892 := 0
noncomputable abbrev tw5678608573693746489 := 0
noncomputable abbrev tw2222055920008773312 := 0
noncomputable abbrev tw11140693686333997089 := 0
noncomputable abbrev tw17498869515297044403 := 0
noncomputable abbrev tw14088518356336633409 := 0
noncomputable abbrev tw16869680186785168198 := 0
noncomputable abbrev tw3310206819026869130 := 0
noncomputable abbrev tw18326082992927294312 := 0
noncomputable abbrev tw6035398268112369353 := 0
noncomputable abbrev tw17685789381059370690 := 0
noncomputable abbrev tw9009779827816193629 := 0
noncomputable abbrev tw743615719370976172 := 0
noncomputable abbrev tw8034445813877940297 := 0
noncomputable abbrev tw1160486807032736494 := 0
noncomputable abbrev tw18240379165849132617 := 0
noncomputable abbrev tw5515091209809154212 := 0
noncomputable abbrev tw15323788607090945263 := 0
noncomputable abbrev tw3928831408917713108 := 0
noncomputable abbrev tw14990859512477414014 := 0
noncomputable abbrev tw10813749965868806460 := 0
noncomputable abbrev tw10968333625738624049 := 0
noncomputable abbrev tw15688761856704205294 := 0
noncomputable abbrev tw13136772247023119629 := 0
noncomputable abbrev tw6043723493711962160 := 0
noncomputable abbrev tw7101179494847876677 := 0
noncomputable abbrev tw5746507692270083984 := 0
noncomputable abbrev tw3063974775631118448 := 0
noncomputable abbrev tw12305349765738457714 := 0
noncomputable abbrev tw10139110800768189368 := 0
noncomputable abbrev tw7549957694533251879 := 0
noncomputable abbrev tw1823814080355009555 := 0
noncomputable abbrev tw14761248658076897736 := 0
noncomputable abbrev tw13514360039805881417 := 0
noncomputable abbrev tw971421180349853971 := 0
noncomputable abbrev tw6114756962429572275 := 0
noncomputable abbrev tw2674320228837466516 := 0
noncomputable abbrev tw12457751263935216119 := 0
noncomputable abbrev tw582981574366459067 := 0
noncomputable abbrev tw3243872718239411811 := 0
noncomputable abbrev tw11084797432801035227 := 0
noncomputable abbrev tw4088483139523879606 := 0
noncomputable abbrev tw15638768511256470190 := 0
noncomputable abbrev tw17515802006272727444 := 0
noncomputable abbrev tw12339632004282522623 := 0
noncomputable abbrev tw17738705452174364635 := 0
noncomputable abbrev tw15488942319786652629 := 0
noncomputable abbrev tw4791927414371762334 := 0
noncomputable abbrev tw4636487494487894903 := 0
noncomputable abbrev tw2777449385937103628 := 0
noncomputable abbrev tw8589292387622373064 := 0
noncomputable abbrev tw4680094375208010123 := 0
noncomputable abbrev tw7244162815643919406 := 0
noncomputable abbrev tw6523206862422752107 := 0
noncomputable abbrev tw7036274084209372767 := 0
noncomputable abbrev tw6822329836155784653 := 0
noncomputable abbrev tw11943285774512036412 := 0
noncomputable abbrev tw13899727210518371978 := 0
noncomputable abbrev tw3797508807916671086 := 0
noncomputable abbrev tw18292785647849577625 := 0
noncomputable abbrev tw5839143066220059287 := 0
noncomputable abbrev tw6817387573238944744 := 0
noncomputable abbrev tw18364202404185705839 := 0
noncomputable abbrev tw502240521303433303 := 0
noncomputable abbrev tw15981387211140548364 := 0
noncomputable abbrev tw9063945199555730231 := 0
noncomputable abbrev tw3355982013746139095 := 0
noncomputable abbrev tw1314001451349304829 := 0
noncomputable abbrev tw15349607868127555093 := 0
noncomputable abbrev tw2226244960043372284 := 0
noncomputable abbrev tw18178643035544775499 := 0
noncomputable abbrev tw10268504173389560755 := 0
noncomputable abbrev tw12101324219055751795 := 0
noncomputable abbrev tw7732073559367857756 := 0
noncomputable abbrev tw1357409873132376755 := 0
noncomputable abbrev tw8442153071120942284 := 0
noncomputable abbrev tw14564902576603594555 := 0
noncomputable abbrev tw6771509652109829334 := 0
noncomputable abbrev tw14977482345912274234 := 0
noncomputable abbrev tw13678446892487932081 := 0
noncomputable abbrev tw10265727185159999671 := 0
noncomputable abbrev tw5094856017186618121 := 0
noncomputable abbrev tw1545022632160471215 := 0
noncomputable abbrev tw12873262223881435151 := 0
noncomputable abbrev tw5759204743953222585 := 0
noncomputable abbrev tw7637787169665159036 := 0
noncomputable abbrev tw4018111951100252391 := 0
noncomputable abbrev tw4776337458223449157 := 0
noncomputable abbrev tw2902361483576213493 := 0
noncomputable abbrev tw13033737748302554679 := 0
noncomputable abbrev tw8128915790251244944 := 0
noncomputable abbrev tw296329615047713789 := 0
noncomputable abbrev tw9225289851280660037 := 0
noncomputable abbrev tw18231953047098756480 := 0
noncomputable abbrev tw9886398262614699055 := 0
noncomputable abbrev tw11844205202569917734 := 0
noncomputable abbrev tw17205684842875916817 := 0
noncomputable abbrev tw3374729363095884571 := 0
noncomputable abbrev tw16685849333098824844 := 0
noncomputable abbrev tw2298784300601128186 := 0
noncomputable abbrev tw7926008794642021453 := 0
noncomputable abbrev tw16795136327835317889 := 0
noncomputable abbrev tw3437398959730455404 := 0
noncomputable abbrev tw7963471149690593105 := 0
noncomputable abbrev tw164665777031124794 := 0
noncomputable abbrev tw18197592827457210879 := 0
noncomputable abbrev tw15087992113229053559 := 0
noncomputable abbrev tw3841276167802481030 := 0
noncomputable abbrev tw11814372236581288920 := 0
noncomputable abbrev tw7524427617667109739 := 0
noncomputable abbrev tw17915960471653449940 := 0
noncomputable abbrev tw10866655589631347385 := 0
noncomputable abbrev tw11451560193425261418 := 0
noncomputable abbrev tw1558293085769041959 := 0
noncomputable abbrev tw17122403608299131527 := 0
noncomputable abbrev tw7069733226826614166 := 0
noncomputable abbrev tw2681775596177860404 := 0
noncomputable abbrev tw6941345514277726991 := 0
noncomputable abbrev tw4594338204306267463 := 0
noncomputable abbrev tw611619746616294359 := 0
noncomputable abbrev tw5653627383404964629 := 0
noncomputable abbrev tw4397008786298735613 := 0
noncomputable abbrev tw18343889599366824826 := 0
noncomputable abbrev tw3587659324498593525 := 0
noncomputable abbrev tw7160450599974899279 := 0
noncomputable abbrev tw13225703187389782269 := 0
noncomputable abbrev tw14275553968341611734 := 0
noncomputable abbrev tw16464447396801277824 := 0
noncomputable abbrev tw17803827919378432477 := 0
noncomputable abbrev tw14223639822240548248 := 0
noncomputable abbrev tw1229480413394648466 := 0
noncomputable abbrev tw607651070529068516 := 0
noncomputable abbrev tw11961423677433268327 := 0
noncomputable abbrev tw17955108257204158326 := 0
noncomputable abbrev tw3379415057262416889 := 0
noncomputable abbrev tw11436944010001969671 := 0
noncomputable abbrev tw696898085713898008 := 0
noncomputable abbrev tw7566056022284521737 := 0
noncomputable abbrev tw3071886047429944192 := 0
noncomputable abbrev tw14464274912244470919 := 0
noncomputable abbrev tw14744346577985180430 := 0
noncomputable abbrev tw13101872275650110159 := 0
noncomputable abbrev tw16756678399463685916 := 0
noncomputable abbrev tw323163575061266903 := 0
noncomputable abbrev tw625044451153576656 := 0
noncomputable abbrev tw17629132311166396383 := 0
noncomputable abbrev tw17873861822379899978 := 0
noncomputable abbrev tw6392435649416212701 := 0
noncomputable abbrev tw8526906103136455820 := 0
noncomputable abbrev tw2323676962972877372 := 0
noncomputable abbrev tw10512337028158018080 := 0
noncomputable abbrev tw15286681996643643470 := 0
noncomputable abbrev tw13718957472561842642 := 0
noncomputable abbrev tw4799681431939616852 := 0
noncomputable abbrev tw10116022970052667548 := 0
noncomputable abbrev tw3257302814526844003 := 0
noncomputable abbrev tw6058314350225292543 := 0
noncomputable abbrev tw14844050400974872958 := 0
noncomputable abbrev tw9734051809668539588 := 0
noncomputable abbrev tw5128398327728118894 := 0
noncomputable abbrev tw1485526604693508152 := 0
noncomputable abbrev tw3914070269898715171 := 0
noncomputable abbrev tw2360523107328718900 := 0
noncomputable abbrev tw14006348025493059367 := 0
noncomputable abbrev tw6340957139839472111 := 0
noncomputable abbrev tw4082208034235923389 := 0
noncomputable abbrev tw16797200847103706709 := 0
noncomputable abbrev tw13058853724094747816 := 0
noncomputable abbrev tw13405905691556342729 := 0
noncomputable abbrev tw10655070552793164326 := 0
noncomputable abbrev tw15054543509249618995 := 0
noncomputable abbrev tw14939937751305111081 := 0
noncomputable abbrev tw15598726506427484227 := 0
noncomputable abbrev tw11593019310142243552 := 0
noncomputable abbrev tw3934911577708726503 := 0
noncomputable abbrev tw3499635659891709451 := 0
noncomputable abbrev tw11266939954414037869 := 0
noncomputable abbrev tw3438647477613393755 := 0
noncomputable abbrev tw9477516787712663537 := 0
noncomputable abbrev tw15639579903889775777 := 0
noncomputable abbrev tw11760127168459868062 := 0
noncomputable abbrev tw17331000845788419271 := 0
noncomputable abbrev tw4409454926983117377 := 0
noncomputable abbrev tw17968703159148052305 := 0
noncomputable abbrev tw14228218321621610846 := 0
noncomputable abbrev tw15406876309067427493 := 0
noncomputable abbrev tw6151677875065574341 := 0
noncomputable abbrev tw6287598503239090002 := 0
noncomputable abbrev tw3867783956814386490 := 0
noncomputable abbrev tw14598505817918098709 := 0
noncomputable abbrev tw1067643414787724849 := 0
noncomputable abbrev tw4579603914018577799 := 0
noncomputable abbrev tw6314797348690239075 := 0
noncomputable abbrev tw7387747479890825025 := 0
noncomputable abbrev tw13344626051386602083 := 0
noncomputable abbrev tw1147784101268697003 := 0
noncomputable abbrev tw12445611277323323996 := 0
noncomputable abbrev tw4623510246090340742 := 0
noncomputable abbrev tw4703017634345426915 := 0
noncomputable abbrev tw16636854579108314847 := 0
noncomputable abbrev tw17297499705501358054 := 0
noncomputable abbrev tw6020844342075028275 := 0
noncomputable abbrev tw8772654521487906333 := 0
noncomputable abbrev tw4842097602853615772 := 0
noncomputable abbrev tw15225549560922521386 := 0
noncomputable abbrev tw8430853071035902693 := 0
noncomputable abbrev tw6561691433299127046 := 0
noncomputable abbrev tw7093477637471711948 := 0
noncomputable abbrev tw17294087842085302453 := 0
noncomputable abbrev tw15828698770580104828 := 0
noncomputable abbrev tw7533104950365777265 := 0
noncomputable abbrev tw95994092201242101 := 0
noncomputable abbrev tw10857412150643419715 := 0
noncomputable abbrev tw2572062774999844704 := 0
noncomputable abbrev tw11001645897444482981 := 0
noncomputable abbrev tw16988578231883732010 := 0
noncomputable abbrev tw976075624518010933 := 0
noncomputable abbrev tw13356303249159311886 := 0
noncomputable abbrev tw11731980212293048722 := 0
noncomputable abbrev tw14410331539711994242 := 0
noncomputable abbrev tw17943887785959731170 := 0
noncomputable abbrev tw10234311833119075328 := 0
noncomputable abbrev tw7470057590671342289 := 0
noncomputable abbrev tw1765570812056165089 := 0
noncomputable abbrev tw642815680460503174 := 0
noncomputable abbrev tw7606426458398341136 := 0
noncomputable abbrev tw14271163420650083053 := 0
noncomputable abbrev tw16457174547651735991 := 0
noncomputable abbrev tw185426042637058331 := 0
noncomputable abbrev tw12316936458930528151 := 0
noncomputable abbrev tw12344887714242245000 := 0
noncomputable abbrev tw5899350853646668209 := 0
noncomputable abbrev tw15364558394908540406 := 0
noncomputable abbrev tw1432931979861040148 := 0
noncomputable abbrev tw16953970548716933288 := 0
noncomputable abbrev tw13793135237624688585 := 0
noncomputable abbrev tw5929795644189163122 := 0
noncomputable abbrev tw991311725712795026 := 0
noncomputable abbrev tw16558793111671965461 := 0
noncomputable abbrev tw16761622178463972209 := 0
noncomputable abbrev tw1825696494610426940 := 0
noncomputable abbrev tw4706520161720036130 := 0
noncomputable abbrev tw4489994165228705667 := 0
noncomputable abbrev tw8438283915903988895 := 0
noncomputable abbrev tw6607791887097301779 := 0
noncomputable abbrev tw17989396248582614579 := 0
noncomputable abbrev tw12568891963092037312 := 0
noncomputable abbrev tw9511106084005056884 := 0
noncomputable abbrev tw15999614509925289359 := 0
noncomputable abbrev tw13330734497776082116 := 0
noncomputable abbrev tw7765874127445278987 := 0
noncomputable abbrev tw11398276248235433790 := 0
noncomputable abbrev tw13436827990742760275 := 0
noncomputable abbrev tw15370464459249076305 := 0
noncomputable abbrev tw3308109305421249094 := 0
noncomputable abbrev tw17794069528543991210 := 0
noncomputable abbrev tw15701706762241084338 := 0
noncomputable abbrev tw7927206824938986540 := 0
noncomputable abbrev tw12526472830318021730 := 0
noncomputable abbrev tw9275161201302851444 := 0
noncomputable abbrev tw4217395916483787759 := 0
noncomputable abbrev tw4977185119709752252 := 0
noncomputable abbrev tw2286514177128686789 := 0
noncomputable abbrev tw8732030398166894041 := 0
noncomputable abbrev tw7722399312017410530 := 0
noncomputable abbrev tw3752983517521197906 := 0
noncomputable abbrev tw8254331830706487317 := 0
noncomputable abbrev tw1292823628374625352 := 0
noncomputable abbrev tw719634818861674138 := 0
noncomputable abbrev tw13572595896650211192 := 0
noncomputable abbrev tw10719657861160369794 := 0
noncomputable abbrev tw2828079602905560642 := 0
noncomputable abbrev tw6288612017967293331 := 0
noncomputable abbrev tw7235452285341075132 := 0
noncomputable abbrev tw14122400222851204431 := 0
noncomputable abbrev tw632504357478020459 := 0
noncomputable abbrev tw235980767732109527 := 0
noncomputable abbrev tw15551547828808509045 := 0
noncomputable abbrev tw1906227991118619068 := 0
noncomputable abbrev tw7066143896956497228 := 0
noncomputable abbrev tw2544987817900071010 := 0
noncomputable abbrev tw707397808722320881 := 0
noncomputable abbrev tw4363198440644390980 := 0
noncomputable abbrev tw3781350082815522549 := 0
noncomputable abbrev tw16779301130872775805 := 0
noncomputable abbrev tw10627504460763443502 := 0
noncomputable abbrev tw13056979605447669598 := 0
noncomputable abbrev tw4642289835471822403 := 0
noncomputable abbrev tw13220781246701217977 := 0
noncomputable abbrev tw2192557254191015386 := 0
noncomputable abbrev tw15433534004610721789 := 0
noncomputable abbrev tw10800654619969104814 := 0
noncomputable abbrev tw14452476526775600488 := 0
noncomputable abbrev tw14174637463505173609 := 0
noncomputable abbrev tw1491552462070104928 := 0
noncomputable abbrev tw4795356674268378108 := 0
noncomputable abbrev tw13855409264423804974 := 0
noncomputable abbrev tw536715553222598122 := 0
noncomputable abbrev tw5295243337334508494 := 0
noncomputable abbrev tw5457373687893835722 := 0
noncomputable abbrev tw525458737792204760 := 0
noncomputable abbrev tw18353155019316638405 := 0
noncomputable abbrev tw1206287434726510140 := 0
noncomputable abbrev tw8711261607499192948 := 0
noncomputable abbrev tw4123344306041494445 := 0
noncomputable abbrev tw11653055725907521791 := 0
noncomputable abbrev tw6424545558669343116 := 0
noncomputable abbrev tw6354985120942965771 := 0
noncomputable abbrev tw113010185532888365 := 0
noncomputable abbrev tw17132372412336394525 := 0
noncomputable abbrev tw11737670188508442094 := 0
noncomputable abbrev tw14882132115527112973 := 0
noncomputable abbrev tw18220553426878066220 := 0
noncomputable abbrev tw6479860139513518353 := 0
noncomputable abbrev tw11263475829298740317 := 0
noncomputable abbrev tw5387380509873942047 := 0
noncomputable abbrev tw618770967282713925 := 0
noncomputable abbrev tw10330427906730231390 := 0
noncomputable abbrev tw1381779154539721347 := 0
noncomputable abbrev tw12883628576128102837 := 0
noncomputable abbrev tw10486788167830471168 := 0
noncomputable abbrev tw7268976841925366705 := 0
noncomputable abbrev tw2361214594988966385 := 0
noncomputable abbrev tw13893248717705440658 := 0
noncomputable abbrev tw4318827314103861204 := 0
noncomputable abbrev tw3951795848170757288 := 0
noncomputable abbrev tw7264610370088816547 := 0
noncomputable abbrev tw8003442422135267414 := 0
noncomputable abbrev tw4433671863015484321 := 0
noncomputable abbrev tw616962026743298402 := 0
noncomputable abbrev tw10157238192381815617 := 0
noncomputable abbrev tw2147491218481607797 := 0
noncomputable abbrev tw9750732128043261996 := 0
noncomputable abbrev tw1910140018977789004 := 0
noncomputable abbrev tw7803607528810713474 := 0
noncomputable abbrev tw13585966415363574264 := 0
noncomputable abbrev tw1273846460730605957 := 0
noncomputable abbrev tw13571269880821931059 := 0
noncomputable abbrev tw11762030626814573724 := 0
noncomputable abbrev tw15716444230658752146 := 0
noncomputable abbrev tw14980734757980557685 := 0
noncomputable abbrev tw17381840231728327644 := 0
noncomputable abbrev tw5567809433919792712 := 0
noncomputable abbrev tw118728629354634523 := 0
noncomputable abbrev tw14887473029617038100 := 0
noncomputable abbrev tw12896133995087377587 := 0
noncomputable abbrev tw170102789576185107 := 0
noncomputable abbrev tw4946516844262583034 := 0
noncomputable abbrev tw16663438576714210682 := 0
noncomputable abbrev tw17147525632264468850 := 0
noncomputable abbrev tw3239973366448901097 := 0
noncomputable abbrev tw3202355878127872612 := 0
noncomputable abbrev tw15354401460006315954 := 0
noncomputable abbrev tw2710522683504591558 := 0
noncomputable abbrev tw1480198810173663003 := 0
noncomputable abbrev tw10468040093017154567 := 0
noncomputable abbrev tw5585023408780793111 := 0
noncomputable abbrev tw16557202764910076541 := 0
noncomputable abbrev tw8220420448247822941 := 0
noncomputable abbrev tw15850601361355215497 := 0
noncomputable abbrev tw17396851309367583436 := 0
noncomputable abbrev tw7200318213771480640 := 0
noncomputable abbrev tw11929351705084326915 := 0
noncomputable abbrev tw6223562804738552816 := 0
noncomputable abbrev tw12567382083497032422 := 0
noncomputable abbrev tw2081732735662733795 := 0
noncomputable abbrev tw9627032513316916334 := 0
noncomputable abbrev tw14960328794894038925 := 0
noncomputable abbrev tw9915611707226429406 := 0
noncomputable abbrev tw11572574736963402027 := 0
noncomputable abbrev tw16392438062323074364 := 0
noncomputable abbrev tw15341336705099266006 := 0
noncomputable abbrev tw12800389365223544303 := 0
noncomputable abbrev tw15346735552400609043 := 0
noncomputable abbrev tw5576500536914424964 := 0
noncomputable abbrev tw12755400652208876593 := 0
noncomputable abbrev tw13452103224267406673 := 0
noncomputable abbrev tw4886798564596883373 := 0
noncomputable abbrev tw5636835971855261838 := 0
noncomputable abbrev tw14772239707390480171 := 0
noncomputable abbrev tw13920624697053595318 := 0
noncomputable abbrev tw6394205558641727159 := 0
noncomputable abbrev tw3027710008225517734 := 0
noncomputable abbrev tw1156781625675682338 := 0
noncomputable abbrev tw2708750670209988792 := 0
noncomputable abbrev tw3130358110394728846 := 0
noncomputable abbrev tw16664087203566826343 := 0
noncomputable abbrev tw2680572275569218839 := 0
noncomputable abbrev tw14821729885291448104 := 0
noncomputable abbrev tw9679337444234811545 := 0
noncomputable abbrev tw4119021684193709993 := 0
noncomputable abbrev tw16543214104341909102 := 0
noncomputable abbrev tw17130698323927285567 := 0
noncomputable abbrev tw886772341992818407 := 0
noncomputable abbrev tw11339192907587608985 := 0
noncomputable abbrev tw9915038880730374506 := 0
noncomputable abbrev tw9217242243612583027 := 0
noncomputable abbrev tw14547563183519873821 := 0
noncomputable abbrev tw3691537500656766130 := 0
noncomputable abbrev tw18166674164129418418 := 0
noncomputable abbrev tw13509573522952106233 := 0
noncomputable abbrev tw412267624794021131 := 0
noncomputable abbrev tw16823500844430026925 := 0
noncomputable abbrev tw4676213099738817764 := 0
noncomputable abbrev tw8743887474801103830 := 0
noncomputable abbrev tw4382663119729198812 := 0
noncomputable abbrev tw13144177536446593969 := 0
noncomputable abbrev tw2013160412129660132 := 0
noncomputable abbrev tw2888984514391335640 := 0
noncomputable abbrev tw5920654709865334566 := 0
noncomputable abbrev tw6544895318395285490 := 0
noncomputable abbrev tw4133778855496494540 := 0
noncomputable abbrev tw7868382175461815660 := 0
noncomputable abbrev tw7160976461596741206 := 0
noncomputable abbrev tw4842549101804025573 := 0
noncomputable abbrev tw12207390296806130678 := 0
noncomputable abbrev tw13484277601166969125 := 0
noncomputable abbrev tw13328925589950576963 := 0
noncomputable abbrev tw1713223107535372067 := 0
noncomputable abbrev tw4390250145603738178 := 0
noncomputable abbrev tw8694217966292294562 := 0
noncomputable abbrev tw4927583148674219546 := 0
noncomputable abbrev tw5446574696820246754 := 0
noncomputable abbrev tw17833527158799507712 := 0
noncomputable abbrev tw6459448530162994577 := 0
noncomputable abbrev tw16704073752354449423 := 0
noncomputable abbrev tw14098241546308524233 := 0
noncomputable abbrev tw1631580778604305258 := 0
noncomputable abbrev tw5861941247841014472 := 0
noncomputable abbrev tw17105840969736605456 := 0
noncomputable abbrev tw13251798469577016585 := 0
noncomputable abbrev tw763844500970925839 := 0
noncomputable abbrev tw11327547913617588530 := 0
noncomputable abbrev tw6774811279002839090 := 0
noncomputable abbrev tw9455945836637923699 := 0
noncomputable abbrev tw3849410974171975364 := 0
noncomputable abbrev tw1234553833452484625 := 0
noncomputable abbrev tw6703139692407751464 := 0
noncomputable abbrev tw5574667217751226569 := 0
noncomputable abbrev tw15703401163273970532 := 0
noncomputable abbrev tw18354397257043251680 := 0
noncomputable abbrev tw17446297273414339011 := 0
noncomputable abbrev tw1277598517587033191 := 0
noncomputable abbrev tw6159571875106435871 := 0
noncomputable abbrev tw13608817663700255670 := 0
noncomputable abbrev tw7347258326856462432 := 0
noncomputable abbrev tw1031919040193209783 := 0
noncomputable abbrev tw12533324061509494405 := 0
noncomputable abbrev tw764166171283583990 := 0
noncomputable abbrev tw12712248845642488940 := 0
noncomputable abbrev tw12649640533433155478 := 0
noncomputable abbrev tw13438757187514250485 := 0
noncomputable abbrev tw5157479761537285772 := 0
noncomputable abbrev tw10348572491770264892 := 0
noncomputable abbrev tw7000005344562777436 := 0
noncomputable abbrev tw12282675365307060998 := 0
noncomputable abbrev tw3527297548627511645 := 0
noncomputable abbrev tw14375736244915354525 := 0
noncomputable abbrev tw2411176139810607855 := 0
noncomputable abbrev tw8803567011280539538 := 0
noncomputable abbrev tw7742922288954327780 := 0
noncomputable abbrev tw6890150497488192055 := 0
noncomputable abbrev tw4174427874399790338 := 0
noncomputable abbrev tw8154470852168927680 := 0
noncomputable abbrev tw4748970495729834362 := 0
noncomputable abbrev tw10904026735192376678 := 0
noncomputable abbrev tw13641645011571189005 := 0
noncomputable abbrev tw1523420999901603714 := 0
noncomputable abbrev tw12659265028854574797 := 0
noncomputable abbrev tw5212075108187817096 := 0
noncomputable abbrev tw6466257220047772781 := 0
noncomputable abbrev tw15896726126298972339 := 0
noncomputable abbrev tw10061184624728015183 := 0
noncomputable abbrev tw1510336019167208877 := 0
noncomputable abbrev tw9017798947801962187 := 0
noncomputable abbrev tw15338235459004456130 := 0
noncomputable abbrev tw13739167463398972064 := 0
noncomputable abbrev tw12507087831869222538 := 0
noncomputable abbrev tw15306502586458425245 := 0
noncomputable abbrev tw6140084685186253972 := 0
noncomputable abbrev tw13001606103317100709 := 0
noncomputable abbrev tw1265586298812909624 := 0
noncomputable abbrev tw606472535756625080 := 0
noncomputable abbrev tw12302626796084415438 := 0
noncomputable abbrev tw503920057671258402 := 0
noncomputable abbrev tw16040422500535289255 := 0
noncomputable abbrev tw2734018838364715574 := 0
noncomputable abbrev tw1705980137332917220 := 0
noncomputable abbrev tw13380203406772456530 := 0
noncomputable abbrev tw6928898773362423618 := 0
noncomputable abbrev tw17342505307984615784 := 0
noncomputable abbrev tw6772491165393254354 := 0
noncomputable abbrev tw7298598125464811137 := 0
noncomputable abbrev tw4048421572062491836 := 0
noncomputable abbrev tw10218809121907291229 := 0
noncomputable abbrev tw12387753938097033807 := 0
noncomputable abbrev tw9381099107481512729 := 0
noncomputable abbrev tw5044592188755378355 := 0
noncomputable abbrev tw4625031014883666085 := 0
noncomputable abbrev tw6526502412452528493 := 0
noncomputable abbrev tw15115975054986785656 := 0
noncomputable abbrev tw3132700908399605754 := 0
noncomputable abbrev tw56655473279986540 := 0
noncomputable abbrev tw1085075926541200304 := 0
noncomputable abbrev tw11929851817208741013 := 0
noncomputable abbrev tw6765697717020128353 := 0
noncomputable abbrev tw17405408608268608333 := 0
noncomputable abbrev tw12385816749997294419 := 0
noncomputable abbrev tw18161821319107085540 := 0
noncomputable abbrev tw4827083837060076250 := 0
noncomputable abbrev tw6255005160642197302 := 0
noncomputable abbrev tw13988966142441830404 := 0
noncomputable abbrev tw800979499541721104 := 0
noncomputable abbrev tw10044252786345240558 := 0
noncomputable abbrev tw8528795058437102257 := 0
noncomputable abbrev tw7752610311856456512 := 0
noncomputable abbrev tw581119221222718580 := 0
noncomputable abbrev tw15107850042073892907 := 0
noncomputable abbrev tw17055989159634897884 := 0
noncomputable abbrev tw11438190716917723498 := 0
noncomputable abbrev tw12100460000314532708 := 0
noncomputable abbrev tw1039532056929113832 := 0
noncomputable abbrev tw17496284843762708926 := 0
noncomputable abbrev tw7935756461038166513 := 0
noncomputable abbrev tw17427461622208962978 := 0
noncomputable abbrev tw10716699180176571852 := 0
noncomputable abbrev tw8735557272413106962 := 0
noncomputable abbrev tw4155782912844129719 := 0
noncomputable abbrev tw11333856610983558436 := 0
noncomputable abbrev tw3635262505886872550 := 0
noncomputable abbrev tw15559794488382616115 := 0
noncomputable abbrev tw16033296742593600368 := 0
noncomputable abbrev tw14272140903254993326 := 0
noncomputable abbrev tw11745630586944605287 := 0
noncomputable abbrev tw3843729973673800794 := 0
noncomputable abbrev tw17279086957706763782 := 0
noncomputable abbrev tw11437149085450437306 := 0
noncomputable abbrev tw5785957271054262859 := 0
noncomputable abbrev tw10530912302531580066 := 0
noncomputable abbrev tw11971349193314248809 := 0
noncomputable abbrev tw14737653677467701073 := 0
noncomputable abbrev tw17793608306073276829 := 0
noncomputable abbrev tw15771112714787029436 := 0
noncomputable abbrev tw7703296348056468329 := 0
noncomputable abbrev tw17600418118882036573 := 0
noncomputable abbrev tw13787812791073883652 := 0
noncomputable abbrev tw8320780487919823841 := 0
noncomputable abbrev tw10021057364216803572 := 0
noncomputable abbrev tw11353488093436903005 := 0
noncomputable abbrev tw15922304295145796517 := 0
noncomputable abbrev tw16127165742853962341 := 0
noncomputable abbrev tw2605207691914242751 := 0
noncomputable abbrev tw11502079158599942324 := 0
noncomputable abbrev tw9803508087305925288 := 0
noncomputable abbrev tw7268407937549844796 := 0
noncomputable abbrev tw10651786872920567376 := 0
noncomputable abbrev tw17314743234497555724 := 0
noncomputable abbrev tw17062433694224757802 := 0
noncomputable abbrev tw6245121986917623352 := 0
noncomputable abbrev tw18257022331239729269 := 0
noncomputable abbrev tw2140018020307730818 := 0
noncomputable abbrev tw10423394267439734920 := 0
noncomputable abbrev tw15527361888849693295 := 0
noncomputable abbrev tw286105654939852356 := 0
noncomputable abbrev tw16376206687137455567 := 0
noncomputable abbrev tw18003034419587091427 := 0
noncomputable abbrev tw6422644074164901569 := 0
noncomputable abbrev tw12623802612682382337 := 0
noncomputable abbrev tw1814862859292667981 := 0
noncomputable abbrev tw14150257381116878317 := 0
noncomputable abbrev tw1047620392260717821 := 0
noncomputable abbrev tw14352714584029149643 := 0
noncomputable abbrev tw2930821729992364117 := 0
noncomputable abbrev tw14002702938508738881 := 0
noncomputable abbrev tw12773222464084922254 := 0
noncomputable abbrev tw7639898449597232890 := 0
noncomputable abbrev tw3188345375420012926 := 0
noncomputable abbrev tw8512396981408263498 := 0
noncomputable abbrev tw249666465220361953 := 0
noncomputable abbrev tw12269522041791074121 := 0
noncomputable abbrev tw12211095823489483342 := 0
noncomputable abbrev tw12608146823285072504 := 0
noncomputable abbrev tw16984528846896967700 := 0
noncomputable abbrev tw10194164396302917423 := 0
noncomputable abbrev tw10335533390039471495 := 0
noncomputable abbrev tw8341089325742221009 := 0
noncomputable abbrev tw116705175717547809 := 0
noncomputable abbrev tw2530626704610457743 := 0
noncomputable abbrev tw8083188921453740320 := 0
noncomputable abbrev tw14013928017307743032 := 0
noncomputable abbrev tw5424396904260657518 := 0
noncomputable abbrev tw7983988945709628353 := 0
noncomputable abbrev tw11442609021134750907 := 0
noncomputable abbrev tw9621339497708903129 := 0
noncomputable abbrev tw16622323512064162240 := 0
noncomputable abbrev tw9501715923043624397 := 0
noncomputable abbrev tw1669785103961768929 := 0
noncomputable abbrev tw10770594845250676420 := 0
noncomputable abbrev tw5506448403473580742 := 0
noncomputable abbrev tw12784552078119861862 := 0
noncomputable abbrev tw11571391614730317443 := 0
noncomputable abbrev tw7037648262565081116 := 0
noncomputable abbrev tw8491446772181397564 := 0
noncomputable abbrev tw16692429115935830642 := 0
noncomputable abbrev tw17822468778086808982 := 0
noncomputable abbrev tw8894914454170982812 := 0
noncomputable abbrev tw5233931634603554929 := 0
noncomputable abbrev tw11779320896440503872 := 0
noncomputable abbrev tw9575710312010336204 := 0
noncomputable abbrev tw4825822353110938586 := 0
noncomputable abbrev tw17258689883110174995 := 0
noncomputable abbrev tw8801162681224012333 := 0
noncomputable abbrev tw10935817360463503421 := 0
noncomputable abbrev tw2324338340640006165 := 0
noncomputable abbrev tw9930250353450475149 := 0
noncomputable abbrev tw164503154069488913 := 0
noncomputable abbrev tw16823715297028853067 := 0
noncomputable abbrev tw5838659494717556805 := 0
noncomputable abbrev tw15933684535639557694 := 0
noncomputable abbrev tw11263414887136566440 := 0
noncomputable abbrev tw2969623361824211529 := 0
noncomputable abbrev tw4682866198981276340 := 0
noncomputable abbrev tw3630372587913581079 := 0
noncomputable abbrev tw8006320094649028679 := 0
noncomputable abbrev tw1302340668638734691 := 0
noncomputable abbrev tw8758458666401489682 := 0
noncomputable abbrev tw16728826893576155130 := 0
noncomputable abbrev tw280322299067105104 := 0
noncomputable abbrev tw2492331437228048028 := 0
noncomputable abbrev tw2697264734888444446 := 0
noncomputable abbrev tw10267719357240410449 := 0
noncomputable abbrev tw16588191065175972455 := 0
noncomputable abbrev tw15731806973895964240 := 0
noncomputable abbrev tw11659641375714421551 := 0
noncomputable abbrev tw2207931952608613402 := 0
noncomputable abbrev tw9682237617681423271 := 0
noncomputable abbrev tw3508333505366435627 := 0
noncomputable abbrev tw16693986418825884042 := 0
noncomputable abbrev tw7736055682057969809 := 0
noncomputable abbrev tw11186317631746691229 := 0
noncomputable abbrev tw3019941052407445804 := 0
noncomputable abbrev tw3910331305755247753 := 0
noncomputable abbrev tw6117625669591534774 := 0
noncomputable abbrev tw12373473757170813612 := 0
noncomputable abbrev tw17127671380208325416 := 0
noncomputable abbrev tw12700211397996192636 := 0
noncomputable abbrev tw929544878207169219 := 0
noncomputable abbrev tw963361365095976121 := 0
noncomputable abbrev tw8349919424654812868 := 0
noncomputable abbrev tw9909613580091912207 := 0
noncomputable abbrev tw9058027374204194667 := 0
noncomputable abbrev tw1962894944411413951 := 0
noncomputable abbrev tw14940259185087304358 := 0
noncomputable abbrev tw3807033492426516282 := 0
noncomputable abbrev tw3886438658580683651 := 0
noncomputable abbrev tw9394386193750986460 := 0
noncomputable abbrev tw757497621005643462 := 0
noncomputable abbrev tw11271889594017770759 := 0
noncomputable abbrev tw10106904412557067654 := 0
noncomputable abbrev tw9863223014751588913 := 0
noncomputable abbrev tw14425029045401075805 := 0
noncomputable abbrev tw11172847860397115395 := 0
noncomputable abbrev tw16547937108041646266 := 0
noncomputable abbrev tw10686706449251041348 := 0
noncomputable abbrev tw5449048085211391911 := 0
noncomputable abbrev tw14912640781467403114 := 0
noncomputable abbrev tw5166325635986233212 := 0
noncomputable abbrev tw15390175050308173730 := 0
noncomputable abbrev tw178936690518514388 := 0
noncomputable abbrev tw6180804900731723323 := 0
noncomputable abbrev tw10686482569821266588 := 0
noncomputable abbrev tw9291942056597126994 := 0
noncomputable abbrev tw8377839486946400944 := 0
noncomputable abbrev tw11874861269270382415 := 0
noncomputable abbrev tw14886097110069666263 := 0
noncomputable abbrev tw6954830044065666744 := 0
noncomputable abbrev tw12461154576247092259 := 0
noncomputable abbrev tw12181517803500569818 := 0
noncomputable abbrev tw1321278392837954138 := 0
noncomputable abbrev tw12203909817303616702 := 0
noncomputable abbrev tw10375613288060277653 := 0
noncomputable abbrev tw15434814451796121969 := 0
noncomputable abbrev tw1979799951590774551 := 0
noncomputable abbrev tw12449170121502999039 := 0
noncomputable abbrev tw7770967208583084706 := 0
noncomputable abbrev tw3458310180565229550 := 0
noncomputable abbrev tw3946091582578207806 := 0
noncomputable abbrev tw8658084807436083056 := 0
noncomputable abbrev tw648715837528142738 := 0
noncomputable abbrev tw15177951467043509418 := 0
noncomputable abbrev tw13340089286640135299 := 0
noncomputable abbrev tw15804502950707074539 := 0
noncomputable abbrev tw12313972261318645241 := 0
noncomputable abbrev tw14943045630394742689 := 0
noncomputable abbrev tw12250762939014166948 := 0
noncomputable abbrev tw9821593813140222672 := 0
noncomputable abbrev tw17312601727439049933 := 0
noncomputable abbrev tw6979601482395222345 := 0
noncomputable abbrev tw13918586553736509532 := 0
noncomputable abbrev tw16865615327738183489 := 0
noncomputable abbrev tw6198642982850061137 := 0
noncomputable abbrev tw5137390727270606389 := 0
noncomputable abbrev tw3199012776021231521 := 0
noncomputable abbrev tw4216994353589512180 := 0
noncomputable abbrev tw6793717014078667172 := 0
noncomputable abbrev tw7490592945717183297 := 0
noncomputable abbrev tw7536188707466353037 := 0
noncomputable abbrev tw3146645433457737576 := 0
noncomputable abbrev tw7629846308873370619 := 0
noncomputable abbrev tw6231911337982399842 := 0
noncomputable abbrev tw12093924247247847493 := 0
noncomputable abbrev tw3123978768442762992 := 0
noncomputable abbrev tw18227181000396627029 := 0
noncomputable abbrev tw3594060732137614568 := 0
noncomputable abbrev tw3534526294401412333 := 0
noncomputable abbrev tw13444529914042536124 := 0
noncomputable abbrev tw505365138809650834 := 0
noncomputable abbrev tw4367788166226603733 := 0
noncomputable abbrev tw7864356623913939870 := 0
noncomputable abbrev tw3840217965953590534 := 0
noncomputable abbrev tw1588091501080324673 := 0
noncomputable abbrev tw11832212741195649210 := 0
noncomputable abbrev tw15296928599275648816 := 0
noncomputable abbrev tw1025981704795758066 := 0
noncomputable abbrev tw17747046358507031423 := 0
noncomputable abbrev tw1029971408393167857 := 0
noncomputable abbrev tw12911745660578968495 := 0
noncomputable abbrev tw5332748812906895444 := 0
noncomputable abbrev tw17689172115364127589 := 0
noncomputable abbrev tw5073448527134235327 := 0
noncomputable abbrev tw3986094355564709811 := 0
noncomputable abbrev tw18171496394661385440 := 0
noncomputable abbrev tw829693883979498477 := 0
noncomputable abbrev tw9755758029965425953 := 0
noncomputable abbrev tw2399027431812866716 := 0
noncomputable abbrev tw10868036316682627792 := 0
noncomputable abbrev tw11893612125547232461 := 0
noncomputable abbrev tw15957530631049893770 := 0
noncomputable abbrev tw18379040807858781945 := 0
noncomputable abbrev tw12759108307904988792 := 0
noncomputable abbrev tw10081593796303015501 := 0
noncomputable abbrev tw16934483023238163998 := 0
noncomputable abbrev tw7855845661460915457 := 0
noncomputable abbrev tw1846004294801936692 := 0
noncomputable abbrev tw4084342834773547617 := 0
noncomputable abbrev tw2668524676216703299 := 0
noncomputable abbrev tw14942491528628697408 := 0
noncomputable abbrev tw2386083014806044538 := 0
noncomputable abbrev tw2442583271475090638 := 0
noncomputable abbrev tw12356790138932702230 := 0
noncomputable abbrev tw3497112723856486979 := 0
end PySem.W.Fast
section
open PySem PySem.W PyProof.Rows
local macro_rules
  | `(tactic| o_law) => `(tactic| skip)
local macro_rules
  | `(tactic| k_head) => `(tactic| k_headS)
local macro_rules
  | `(tactic| w_witness2) => `(tactic| exact ⟨[.list []], by decide +kernel, by decide +kernel⟩)
set_option maxRecDepth 100000 in
set_option maxHeartbeats 0 in
open_top PySem.Challenge.hd_s03_draw for PySem.Challenge.rw_shieldwords_s03_draw
end
section
set_option Elab.async false
set_option linter.all false
set_option maxRecDepth 100000
namespace L2
open PySem PySem.Spec PyProof.Rows

noncomputable abbrev Key := Sum Int Str
noncomputable def keyIs : Key → Value → Bool
  | .inl k, v => Value.isInt k v
  | .inr x, v => Value.isStrOf x v
noncomputable def keyH (w : World) : Key → Int
  | .inl k => hashInt k
  | .inr x => hashStr w x
theorem keyIs_shape : ∀ {k : Key} {v : Value}, keyIs k v = true → (∃ i t, k = Sum.inl i ∧ v = Value.int i t) ∨ (∃ x t, k = Sum.inr x ∧ v = Value.str x t)
  | .inl i, v, h => by
    obtain ⟨t, e⟩ := Value.isInt_shape (k := i) (v := v) h
    exact .inl ⟨i, t, rfl, e⟩
  | .inr x, v, h => by
    obtain ⟨t, e⟩ := Value.isStrOf_shape (x := x) (v := v) h
    exact .inr ⟨x, t, rfl, e⟩
theorem key_ll (a b : Int) : decide ((Sum.inl a : Key) = Sum.inl b) = (a == b) := by
  by_cases e : a = b
  · subst e; simp
  · have h : ¬ (Sum.inl a : Key) = Sum.inl b := fun q => e (Sum.inl.inj q)
    rw [decide_eq_false h]
    exact (beq_eq_false_iff_ne.mpr e).symm
theorem key_rr (a b : Str) : decide ((Sum.inr a : Key) = Sum.inr b) = decide (a = b) := by
  by_cases e : a = b
  · subst e; simp
  · have h : ¬ (Sum.inr a : Key) = Sum.inr b := fun q => e (Sum.inr.inj q)
    rw [decide_eq_false h, decide_eq_false e]
theorem key_lr (a : Int) (b : Str) : decide ((Sum.inl a : Key) = Sum.inr b) = false := decide_eq_false (fun q => nomatch q)
theorem key_rl (a : Str) (b : Int) : decide ((Sum.inr a : Key) = Sum.inl b) = false := decide_eq_false (fun q => nomatch q)

noncomputable def mixKind (prog : Program) (w : World) : PySem.KeyKind prog w Key where
  is := keyIs
  hash := keyH w
  inj := fun v a b ha hb => by
    rcases keyIs_shape ha with ⟨i, t, rfl, rfl⟩ | ⟨x, t, rfl, rfl⟩
    · rcases keyIs_shape hb with ⟨j, u, rfl, e⟩ | ⟨y, u, rfl, e⟩
      · injection e with e1 _; rw [e1]
      · exact nomatch e
    · rcases keyIs_shape hb with ⟨j, u, rfl, e⟩ | ⟨y, u, rfl, e⟩
      · exact nomatch e
      · injection e with e1 _; rw [e1]
  byValue := fun k v h => by
    rcases keyIs_shape h with ⟨i, t, rfl, rfl⟩ | ⟨x, t, rfl, rfl⟩ <;> rfl
  pyHash := fun hv h => by
    rcases keyIs_shape hv with ⟨i, t, rfl, rfl⟩ | ⟨x, t, rfl, rfl⟩
    · exact wpAny_pyHash_int h
    · exact wpAny_pyHash_str h
  eqBool := fun hu hv h => by
    rcases keyIs_shape hu with ⟨i, t, rfl, rfl⟩ | ⟨x, t, rfl, rfl⟩
    · rcases keyIs_shape hv with ⟨j, u, rfl, rfl⟩ | ⟨y, u, rfl, rfl⟩
      · rw [key_ll] at h; exact wpAny_eqBool_int h
      · rw [key_lr] at h; exact SeqAt.EqAt.int_str i t y u _ _ _ _ h
    · rcases keyIs_shape hv with ⟨j, u, rfl, rfl⟩ | ⟨y, u, rfl, rfl⟩
      · rw [key_rl] at h; exact SeqAt.EqAt.str_int x t j u _ _ _ _ h
      · rw [key_rr] at h; exact wpAny_eqBool_str h
  «strs» := fun k x t v h => by
    rcases keyIs_shape h with ⟨i, u, rfl, e⟩ | ⟨y, u, rfl, e⟩
    · exact nomatch e
    · injection e with e1 _
      subst e1
      cases v <;> rfl

end L2

namespace L2
open PySem PySem.Spec PyProof.Rows

inductive V where
  | non | bl (b : Bool) | int (i : Int) | str (x : Str) | byt (b : Array UInt8) | flt (b : UInt64) | ref (a : Addr) | ty (n : String)
  deriving DecidableEq

noncomputable def RelV : V → Value → Prop
  | .non, u => u = Value.none
  | .bl b, u => u = Value.bool b
  | .int i, u => ∃ t, u = Value.int i t
  | .str x, u => ∃ t, u = Value.str x t
  | .byt b, u => ∃ t, u = Value.bytes b t
  | .flt b, u => ∃ t, u = Value.float b t
  | .ref a, u => u = Value.ref a
  | .ty n, u => u = Value.type n

noncomputable abbrev Vals : List V → List Value → Prop := Paired RelV
theorem Vals.length {xs : List V} {us : List Value} (r : Vals xs us) : xs.length = us.length := Paired.length r
theorem Vals.get : ∀ {xs : List V} {us : List Value} {i : Nat} {x : V}, Vals xs us → xs[i]? = some x → ∃ u, us[i]? = some u ∧ RelV x u
  | _, _, _, _, .nil, e => by simp at e
  | _, _, 0, _, .cons r _, e => by simp at e; subst e; exact ⟨_, rfl, r⟩
  | _, _, i + 1, x, .cons _ t, e => by
    obtain ⟨u, h1, h2⟩ := Vals.get (i := i) (x := x) t (by simpa using e)
    exact ⟨u, by simpa using h1, h2⟩
theorem Vals.append : ∀ {xs ys : List V} {us ws : List Value}, Vals xs us → Vals ys ws → Vals (xs ++ ys) (us ++ ws)
  | _, _, _, _, .nil, s => s
  | _, _, _, _, .cons r t, s => .cons r (Vals.append t s)
theorem Vals.take : ∀ {xs : List V} {us : List Value} (n : Nat), Vals xs us → Vals (xs.take n) (us.take n)
  | _, _, 0, _ => .nil
  | _, _, _ + 1, .nil => .nil
  | _, _, n + 1, .cons r t => .cons r (Vals.take n t)
theorem Vals.drop : ∀ {xs : List V} {us : List Value} (n : Nat), Vals xs us → Vals (xs.drop n) (us.drop n)
  | _, _, 0, r => r
  | _, _, _ + 1, .nil => .nil
  | _, _, n + 1, .cons _ t => Vals.drop n t
noncomputable def RelO : Option V → Option Value → Prop
  | some v, some u => RelV v u
  | none, none => True
  | _, _ => False
noncomputable def KV {κ : Type} : List (κ × V) → List (κ × Value) → Prop := Paired fun (p : κ × V) (q : κ × Value) => p.1 = q.1 ∧ RelV p.2 q.2

noncomputable def kV : Key → V
  | .inl i => .int i
  | .inr x => .str x

inductive HO where
  /-- a list -/
  | lst (xs : List V)
  /-- a tuple (never changes) -/
  | tup (xs : List V)
  /-- a dict whose keys are ints and texts; one whose keys are tuples of ints and texts (the empty one is both) -/
  | dK (kvs : List (Key × V)) | dT (kvs : List (List Key × V))
  /-- a set of ints: its members, its size -/
  | set (S : Int → Bool) (n : Nat)
  /-- an instance of the class at C, its dict at dx, its attributes -/
  | ins (C dx : Addr) (fs : List (Str × V))
  /-- the dict of the instance at x -/
  | own (x : Addr)
  /-- the dict of an exception -/
  | xd (fs : List (Str × V))
  /-- a bound method, f of x -/
  | met (f x : Addr)
  /-- a range object lo, lo + 1, .. below hi -/
  | rng (lo hi : Int)
  /-- a thing that is known to the object (the script; a dict while a loop walks it): read, never written while it is so -/
  | frz (o : Obj) (u : HO)
  /-- a code object's table -/
  | tbl (ps : Array Value)
  /-- any other thing, by what is true of its one object (a def of one's own: SetO a S n := HO.ext fun h => ..) -/
  | ext (φ : Heap → Prop)

noncomputable abbrev Hp := Addr → Option HO
noncomputable def upd (H : Hp) (a : Addr) (o : HO) : Hp := fun b => if b = a then some o else H b
theorem upd_same {H : Hp} {a : Addr} {o : HO} : upd H a o a = some o := by unfold upd; rw [if_pos rfl]
theorem upd_ne {H : Hp} {a b : Addr} {o : HO} (h : b ≠ a) : upd H a o b = H b := by unfold upd; rw [if_neg h]
theorem upd_upd {H : Hp} {a : Addr} {o u : HO} : upd (upd H a o) a u = upd H a u := by
  funext b; unfold upd; split <;> rfl
theorem ne_of {H : Hp} {a b : Addr} {o u : HO} (h : H a = some o) (h' : H b = some u) (d : o ≠ u) : a ≠ b := by
  intro e; subst e; rw [h] at h'; exact d (Option.some.inj h')
theorem ne_of_none {H : Hp} {a b : Addr} {o : HO} (h : H a = some o) (h' : H b = none) : a ≠ b := by
  intro e; subst e; rw [h] at h'; cases h'

section
variable (P : Program) (w : World)
noncomputable def ObjOk (H : Hp) (h : Heap) (a : Addr) : HO → Prop
  | .lst xs => xs.length ≤ sizeLine ∧ ∃ (its : List Value) (n : Nat), Vals xs its ∧ h.get? a = some { cls := .type "list", data := .seq its.toArray n }
  | .tup xs => xs.length ≤ sizeLine ∧ ∃ its : List Value, Vals xs its ∧ IsTup h a its.toArray
  | .dK kvs => kvs.length ≤ sizeLine ∧ (a == sysModules) = false ∧ ∃ vs, KV kvs vs ∧ h.DictOf (mixKind P w) a vs
  | .dT kvs => kvs.length ≤ sizeLine ∧ (a == sysModules) = false ∧ ∃ xs : List (List Key × Addr × Value),
      Paired (fun (p : List Key × V) (q : List Key × Addr × Value) => p.1 = q.1 ∧ H q.2.1 = some (.tup (p.1.map kV)) ∧ RelV p.2 q.2.2) kvs xs ∧
      ∃ o es ep, h.get? a = some o ∧ o.ExactDict ∧ o.data = .dict es ep ∧ es.toList = xs.map (entryOfKey (tupleKind (mixKind P w))) ∧ (xs.map (·.1)).Nodup
  | .set S n => h.SetOf (intKind P w) a S n
  | .ins C dx fs => H dx = some (.own a) ∧ fs.length ≤ 1000 ∧ dx ≠ a ∧ h.get? a = some (PySem.W.instObj C dx) ∧
      ∃ mA, h.Ns1 dx mA ∧ (∀ f, RelO (fs.lookup f) (mA f)) ∧ PySem.Within mA (fs.map (·.1))
  | .own _ => ∃ o, h.get? a = some o
  | .xd fs => ∃ mA, h.Ns1 a mA ∧ ∀ f, RelO (fs.lookup f) (mA f)
  | .rng lo hi => ∃ t u v, h.get? a = some { cls := .type "range", data := .fields #[.int lo t, .int hi u, .int 1 v] }
  | .frz o u => h.get? a = some o ∧ ObjOk H h a u
  | .tbl ps => h.get? a = some { cls := .none, data := .fields ps }
  | .met f x => h.get? a = some (PySem.W.methodObj (.ref f) (.ref x))
  | .ext φ => φ h ∧ (∃ o, h.get? a = some o) ∧ ∀ h1 h2 : Heap, φ h1 → (∀ o, h1.get? a = some o → h2.get? a = some o) → φ h2
noncomputable def HOk (H : Hp) (h : Heap) : Prop := ∀ a o, H a = some o → ObjOk P w H h a o
end

section
variable {P : Program} {w : World} {H H' : Hp} {h h' : Heap} {a : Addr} {o : HO}
theorem ObjOk.lt (x : ObjOk P w H h a o) : a < h.objs.size := by
  cases o with
  | lst xs => obtain ⟨_, _, _, _, e⟩ := x; exact Heap.lt_size e
  | tup xs => obtain ⟨_, _, _, p⟩ := x; exact p.lt
  | dK kvs => obtain ⟨_, _, _, _, o, _, _, e, _⟩ := x; exact Heap.lt_size e
  | dT kvs => obtain ⟨_, _, _, _, o, _, _, e, _⟩ := x; exact Heap.lt_size e
  | set S n => obtain ⟨o, _, _, _, e, _⟩ := x; exact Heap.lt_size e
  | ins C dx fs => obtain ⟨_, _, _, e, _⟩ := x; exact Heap.lt_size e
  | own y => obtain ⟨_, e⟩ := x; exact Heap.lt_size e
  | xd fs => obtain ⟨_, ⟨_, _, _, e, _⟩, _⟩ := x; exact Heap.lt_size e
  | rng lo hi => obtain ⟨_, _, _, e⟩ := x; exact Heap.lt_size e
  | frz ob u => obtain ⟨e, _⟩ := x; exact Heap.lt_size e
  | tbl ps => exact Heap.lt_size (show h.get? a = some _ from x)
  | met f y => exact Heap.lt_size (show h.get? a = some _ from x)
  | ext φ => obtain ⟨_, ⟨_, e⟩, _⟩ := x; exact Heap.lt_size e
theorem Paired.mapP {α β : Type} {F G : α → β → Prop} : ∀ {l₁ : List α} {l₂ : List β}, Paired F l₁ l₂ → (∀ a b, F a b → G a b) → Paired G l₁ l₂
  | _, _, .nil, _ => .nil
  | _, _, .cons r t, f => .cons (f _ _ r) (Paired.mapP t f)
theorem ObjOk.stay (x : ObjOk P w H h a o) (k : ∀ b u, (b = a ∨ H b = some (.own a)) → h.get? b = some u → h'.get? b = some u)
    (ho : ∀ b, H b = some (.own a) → H' b = some (.own a)) (ht : ∀ b xs, H b = some (.tup xs) → H' b = some (.tup xs)) : ObjOk P w H' h' a o := by
  induction o with
  | lst xs => obtain ⟨z, its, n, r, e⟩ := x; exact ⟨z, its, n, r, k _ _ (.inl rfl) e⟩
  | tup xs => obtain ⟨z, its, r, ob, e, c⟩ := x; exact ⟨z, its, r, ob, k _ _ (.inl rfl) e, c⟩
  | dK kvs => obtain ⟨z, y, vs, r, ob, es, ep, e, c⟩ := x; exact ⟨z, y, vs, r, ob, es, ep, k _ _ (.inl rfl) e, c⟩
  | dT kvs =>
    obtain ⟨z, y, xs, r, ob, es, ep, e, c⟩ := x
    exact ⟨z, y, xs, Paired.mapP r fun p q z => ⟨z.1, ht _ _ z.2.1, z.2.2⟩, ob, es, ep, k _ _ (.inl rfl) e, c⟩
  | set S n => obtain ⟨ob, es, ep, t, e, c⟩ := x; exact ⟨ob, es, ep, t, k _ _ (.inl rfl) e, c⟩
  | ins C dx fs =>
    obtain ⟨d, z, ne, e, mA, ⟨od, es, ep, e2, c⟩, r⟩ := x
    exact ⟨ho _ d, z, ne, k _ _ (.inl rfl) e, mA, ⟨od, es, ep, k _ _ (.inr d) e2, c⟩, r⟩
  | own y => obtain ⟨ob, e⟩ := x; exact ⟨ob, k _ _ (.inl rfl) e⟩
  | xd fs => obtain ⟨mA, ⟨od, es, ep, e, c⟩, r⟩ := x; exact ⟨mA, ⟨od, es, ep, k _ _ (.inl rfl) e, c⟩, r⟩
  | rng lo hi => obtain ⟨t, u, v, e⟩ := x; exact ⟨t, u, v, k _ _ (.inl rfl) e⟩
  | frz ob u ih => obtain ⟨e, q⟩ := x; exact ⟨k _ _ (.inl rfl) e, ih q⟩
  | tbl ps =>
    have e : h.get? a = some { cls := .none, data := .fields ps } := x
    show h'.get? a = some { cls := .none, data := .fields ps }
    exact k a _ (.inl rfl) e
  | met f y =>
    have e : h.get? a = some (PySem.W.methodObj (.ref f) (.ref y)) := x
    show h'.get? a = some (PySem.W.methodObj (.ref f) (.ref y))
    exact k a _ (.inl rfl) e
  | ext φ => obtain ⟨p, ⟨o, e⟩, st⟩ := x; exact ⟨st _ _ p fun o q => k _ _ (.inl rfl) q, ⟨o, k _ _ (.inl rfl) e⟩, st⟩
theorem HOk.lt (x : HOk P w H h) (e : H a = some o) : a < h.objs.size := (x a o e).lt
theorem HOk.fresh (x : HOk P w H h) (e : h.objs.size ≤ a) : H a = none := by
  cases q : H a with
  | none => rfl
  | some u => exact absurd (Nat.lt_of_lt_of_le (x.lt q) e) (Nat.lt_irrefl _)
theorem HOk.kept (x : HOk P w H h) (k : ∀ b u, h.get? b = some u → h'.get? b = some u) : HOk P w H h' := fun a o e =>
  (x a o e).stay (fun b u _ q => k b u q) (fun _ q => q) fun _ _ q => q
theorem HOk.laid (x : HOk P w H h) (k : ∀ b u, h.get? b = some u → h'.get? b = some u) (hp : h.objs.size ≤ a) (new : ObjOk P w (upd H a o) h' a o) : HOk P w (upd H a o) h' := fun b u e => by
  have hn := x.fresh hp
  by_cases hb : b = a
  · subst hb; rw [upd_same] at e; cases e; exact new
  · rw [upd_ne hb] at e
    exact (x b u e).stay (fun c v _ q => k c v q) (fun c q => by rw [upd_ne (ne_of_none q hn)]; exact q) fun c xs q => by rw [upd_ne (ne_of_none q hn)]; exact q
end

noncomputable def Rd (H : Hp) (a : Addr) (u : HO) : Prop := H a = some u ∨ ∃ o, H a = some (.frz o u)
theorem Rd.ok {P : Program} {w : World} {H : Hp} {h : Heap} {a : Addr} {u : HO} (r : Rd H a u) (x : HOk P w H h) : ObjOk P w H h a u := by
  rcases r with r | ⟨o, r⟩
  · exact x a u r
  · obtain ⟨_, q⟩ := x a _ r
    exact q
noncomputable def Mut : Option HO → Prop
  | some (.lst _) => True
  | some (.dK _) => True
  | some (.dT _) => True
  | some (.set _ _) => True
  | some (.ins _ _ _) => True
  | some (.ext _) => True
  | _ => False
section
variable {P : Program} {w : World} {H : Hp} {h h' : Heap} {x e : Addr} {o' : HO}
theorem HOk.write (ok : HOk P w H h) (mu : Mut (H x)) (he : e = x ∨ H e = some (.own x)) (k : ∀ b u, b ≠ e → h.get? b = some u → h'.get? b = some u) (heo : ∃ u, h'.get? e = some u)
    (new : ObjOk P w (upd H x o') h' x o') : HOk P w (upd H x o') h' := fun b u q => by
  have nown : ∀ c y, H c = some (.own y) → c ≠ x := fun c y r z => by subst z; rw [r] at mu; exact mu
  have ntup : ∀ c xs, H c = some (.tup xs) → c ≠ x := fun c xs r z => by subst z; rw [r] at mu; exact mu
  by_cases hb : b = x
  · subst hb; rw [upd_same] at q; cases q; exact new
  · rw [upd_ne hb] at q
    by_cases hbe : b = e
    · have q' : H b = some (.own x) := by
        rcases he with z | z
        · exact absurd (hbe.trans z) hb
        · rw [hbe]; exact z
      rw [q] at q'; cases q'
      obtain ⟨v, hv⟩ := heo
      exact ⟨v, by rw [hbe]; exact hv⟩
    · refine (ok b u q).stay (fun c v hc r => k c v ?_ r) (fun c r => by rw [upd_ne (nown c b r)]; exact r) fun c xs r => by rw [upd_ne (ntup c xs r)]; exact r
      rcases hc with rfl | hc
      · exact hbe
      · rintro rfl
        rcases he with z | z
        · exact nown c b hc z
        · rw [hc] at z; cases z; exact hb rfl
end

structure Un (fs ex : List Addr) (H H' : Hp) (h h' : Heap) : Prop where
  keep : ∀ b o, h.get? b = some o → H b = none → b ∉ fs → b ∉ ex → h'.get? b = some o
  slot : ∀ b o, h.get? b = some o → H b = none → b ∈ fs → b ∉ ex → ∃ sl, h'.get? b = some { o with slots := sl }
  free : ∀ b o, h.get? b = some o → H b = none → b ∉ ex → H' b = none
  there : ∀ b o, h.get? b = some o → b ∉ ex → ∃ o', h'.get? b = some o'
  tups : ∀ b xs, H b = some (.tup xs) → H' b = some (.tup xs)
  frzs : ∀ b o u, H b = some (.frz o u) → H' b = some (.frz o u)
  tbls : ∀ b ps, H b = some (.tbl ps) → ∃ more, H' b = some (.tbl (ps ++ more))
section
variable {fs fs' ex ex' : List Addr} {H H1 H2 : Hp} {h h1 h2 h' : Heap} {a x e : Addr} {o : HO}
theorem Un.any (u : Un fs ex H H1 h h1) {b : Addr} {ob : Obj} (q : h.get? b = some ob) (n : H b = none) (hx : b ∉ ex) : ∃ sl, h1.get? b = some { ob with slots := sl } := by
  by_cases hb : b ∈ fs
  · exact u.slot b ob q n hb hx
  · exact ⟨ob.slots, u.keep b ob q n hb hx⟩
theorem Un.kept (k : ∀ b u, h.get? b = some u → h'.get? b = some u) : Un fs ex H H h h' :=
  ⟨fun b ob q _ _ _ => k b ob q, fun b ob q _ _ _ => ⟨ob.slots, k b ob q⟩, fun _ _ _ n _ => n, fun b ob q _ => ⟨ob, k b ob q⟩, fun _ _ q => q, fun _ _ _ q => q, fun _ ps q => ⟨#[], by rw [q]; simp⟩⟩
theorem Un.refl : Un fs ex H H h h := Un.kept fun _ _ q => q
theorem Un.laid (k : ∀ b u, h.get? b = some u → h'.get? b = some u) (hp : h.objs.size ≤ a) (hn : H a = none) : Un fs ex H (upd H a o) h h' where
  keep := fun b u q _ _ _ => k b u q
  slot := fun b u q _ _ _ => ⟨u.slots, k b u q⟩
  free := fun b u q n _ => by rw [upd_ne (Nat.ne_of_lt (Nat.lt_of_lt_of_le (Heap.lt_size q) hp))]; exact n
  there := fun b u q _ => ⟨u, k b u q⟩
  tups := fun b xs q => by rw [upd_ne (ne_of_none q hn)]; exact q
  frzs := fun b u xs q => by rw [upd_ne (ne_of_none q hn)]; exact q
  tbls := fun b ps q => ⟨#[], by rw [upd_ne (ne_of_none q hn), q]; simp⟩
theorem Un.write (mu : Mut (H x)) (he : e = x ∨ H e = some (.own x)) (k : ∀ b u, b ≠ e → h.get? b = some u → h'.get? b = some u) (heo : ∃ u, h'.get? e = some u) : Un fs ex H (upd H x o) h h' := by
  have hx : ∀ b, H b = none → b ≠ x := fun b n z => by subst z; rw [n] at mu; exact mu
  have hb : ∀ b, H b = none → b ≠ e := fun b n z => by
    subst z
    rcases he with r | r
    · exact hx b n r
    · rw [n] at r; cases r
  have hm : ∀ b u, H b = some u → ¬ Mut (some u) → b ≠ x := fun b u q nm z => by subst z; rw [q] at mu; exact nm mu
  refine ⟨fun b u q n _ _ => k b u (hb b n) q, fun b u q n _ _ => ⟨u.slots, k b u (hb b n) q⟩, fun b u q n _ => by rw [upd_ne (hx b n)]; exact n, fun b u q _ => ?_,
    fun b xs q => by rw [upd_ne (hm b _ q fun z => z)]; exact q, fun b u xs q => by rw [upd_ne (hm b _ q fun z => z)]; exact q, fun b ps q => ⟨#[], by rw [upd_ne (hm b _ q fun z => z), q]; simp⟩⟩
  by_cases hbe : b = e
  · subst hbe; exact heo
  · exact ⟨u, k b u hbe q⟩
end

noncomputable def trk (h : Heap) (H : Hp) : List Addr := (List.range h.objs.size).filter fun a => (H a).isSome
noncomputable def hidT (h : Heap) (H : Hp) : Heap := PySem.W.hideAll h (trk h H)
theorem hidT_size (h : Heap) (H : Hp) : (hidT h H).objs.size = h.objs.size := PySem.W.hideAll_size _ _
theorem hidT_get {h : Heap} {H : Hp} {b : Addr} {o : Obj} (e : h.get? b = some o) (n : H b = none) : (hidT h H).get? b = some o :=
  PySem.W.hideAll_get _ e fun hm => by
    have q : (H b).isSome = true := (List.mem_filter.mp hm).2
    rw [n] at q; simp at q
theorem of_hidT {h : Heap} {H : Hp} {b : Addr} {o : Obj} (e : (hidT h H).get? b = some o) : h.get? b = some o ∧ H b = none := by
  have e' : h.get? b = some o := PySem.W.of_hideAll (trk h H) e
  refine ⟨e', ?_⟩
  cases q : H b with
  | none => rfl
  | some x =>
    have hm : b ∈ trk h H := List.mem_filter.mpr ⟨List.mem_range.mpr (Heap.lt_size e'), by simp [q]⟩
    have z : (hidT h H).get? b = none := PySem.W.hideAll_none (trk h H) hm
    rw [z] at e; cases e

noncomputable def allNews (g h : Heap) (L : Addr) : List (Addr × Obj) := (List.range h.objs.size).filterMap fun a => if a = L ∨ (g.get? a).isSome = true then none else (h.get? a).map fun o => (a, o)
noncomputable def rest (g h : Heap) (L d : Addr) : List (Addr × Obj) := (allNews g h L).filter fun p => decide (p.1 ≠ d)
end L2

namespace L2
open PySem PySem.Spec PyProof.Rows

structure Mod (K : PySem.W.Frag) (mg : Str → Option Value) (base : Heap) : Prop where
  kin : K.In base
  glob : base.Ns mainGlobals mg
  blt : ∃ mb, base.Ns builtinsNs mb ∧ ∀ x : Str, x ≠ "__name__" → mb x = bootBuiltins x
  nolimit : base.NoLimit

structure Cx where
  prog : Program
  w : World
  K : PySem.W.Frag
  mg : Str → Option Value
  base : Heap
  A : Around
  N : List Str
  s_0 : Shared
  H_0 : Hp
  env : Env
  outer : List Env
  stack : List Env
  ex : List Addr
  fn : Str → Bool
  calm : Bool
  pn : List (Addr × Obj)
  xe : Value → Shared → Prop
noncomputable def frs (l : List Env) : List Addr := l.filterMap (·.frame)
noncomputable abbrev Cx.fs (X : Cx) : List Addr := frs X.outer

noncomputable def Vis (sc : Scope) (x : Str) : Prop := sc.names.lookup x = some .local ∨ sc.names.lookup x = some .cell ∨ sc.names.lookup x = some .free
noncomputable def Loc (sc : Scope) (x : Str) : Prop := sc.names.lookup x = some .local ∨ sc.names.lookup x = some .cell
noncomputable def Look (env : Env) (h : Heap) (m : Str → Option Value) (x : Str) (u : Value) : Prop :=
  (env.kindOf x = some .local ∧ m x = some u) ∨ ((env.kindOf x = some .cell ∨ env.kindOf x = some .free) ∧ ∃ c, env.cells.lookup x = some c ∧ h.IsCell c (some u))

structure Cx.Ok (X : Cx) : Prop where
  mod : Mod X.K X.mg X.base
  kind : X.env.scope.kind = .function
  glob : X.env.globals = mainGlobals
  blt : X.env.builtins = builtinsNs
  above : X.s_0.heap.objs.size ≤ X.env.locals
  inj : ∀ x y c, X.env.cells.lookup x = some c → X.env.cells.lookup y = some c → x = y
  has : ∀ x, (X.env.kindOf x = some .cell ∨ X.env.kindOf x = some .free) → ∃ c, X.env.cells.lookup x = some c
  cab : ∀ x c, X.fn x = true → X.env.cells.lookup x = some c → X.s_0.heap.objs.size ≤ c
  hd : X.calm = true → X.A.handled = none
  frames : X.A.frames = some X.stack
  stk : X.stack = X.outer ∨ (X.stack = X.env :: X.outer ∧ X.env.frame = some X.env.locals)
  exf : ∀ b ∈ X.ex, b ≠ X.env.locals ∧ ∀ x c, X.env.cells.lookup x = some c → c ≠ b
  bs : ∀ b o, X.base.get? b = some o → X.s_0.heap.get? b = some o ∧ X.H_0 b = none
  bsz : X.base.objs.size ≤ X.s_0.heap.objs.size
  noex : ∀ b o, X.base.get? b = some o → b ∉ X.ex
  exfs : ∀ b ∈ X.ex, b ∉ X.fs
  funs : X.s_0.heap.FunFrames X.base X.outer
  frf : ∀ b ∈ X.fs, X.H_0 b = none

structure Inv (X : Cx) (pins : List (Addr × Obj)) (σ : List (Option V)) (H : Hp) (s : Shared) : Prop where
  ok : X.Ok
  os : s.os = X.s_0.os
  bare : AllBare s.gens
  base : Un X.fs X.ex X.H_0 H X.s_0.heap s.heap
  loc : ∃ m, s.heap.Ns X.env.locals m ∧ ∀ (i : Nat) (x : Str) (v : V), X.N[i]? = some x → σ[i]? = some (some v) → Vis X.env.scope x → ∃ u, RelV v u ∧ Look X.env s.heap m x u
  cell : ∀ x c, X.env.cells.lookup x = some c → ∃ v, s.heap.IsCell c v
  free : H X.env.locals = none
  freeC : ∀ x c, X.env.cells.lookup x = some c → H c = none
  pin : ∀ p ∈ X.pn ++ pins, s.heap.get? p.1 = some p.2 ∧ H p.1 = none ∧ p.1 ≠ X.env.locals ∧ p.1 ∉ X.fs ∧ ∀ v, p.2.data ≠ .cell v
  hok : HOk X.prog X.w H s.heap
  len : σ.length = X.N.length

section
variable {X : Cx} {pins : List (Addr × Obj)} {σ : List (Option V)} {H H' : Hp} {s : Shared} {h' : Heap}

theorem Cx.Ok.nofr (ok : X.Ok) {b : Addr} {o : Obj} (e : X.base.get? b = some o) : b ∉ X.fs := fun hb => by
  have := (ok.funs.mem hb).1
  rw [e] at this; cases this
theorem Inv.bs (I : Inv X pins σ H s) : ∀ b o, X.base.get? b = some o → s.heap.get? b = some o ∧ H b = none := fun b o e =>
  ⟨I.base.keep b o (I.ok.bs b o e).1 (I.ok.bs b o e).2 (I.ok.nofr e) (I.ok.noex b o e), I.base.free b o (I.ok.bs b o e).1 (I.ok.bs b o e).2 (I.ok.noex b o e)⟩
theorem Inv.bk (I : Inv X pins σ H s) : ∀ b o, X.base.get? b = some o → s.heap.get? b = some o := fun b o e => (I.bs b o e).1
theorem Inv.mod (I : Inv X pins σ H s) : Mod X.K X.mg X.base := I.ok.mod
theorem Inv.kIn (I : Inv X pins σ H s) : X.K.In s.heap := I.ok.mod.kin.keeps I.bk
theorem Inv.fr (I : Inv X pins σ H s) : ∃ m, Fr X.base X.env.locals s.heap m :=
  let ⟨m, hn, _⟩ := I.loc
  ⟨m, hn, I.bk, Nat.le_trans I.ok.bsz I.ok.above⟩
theorem Inv.lt (I : Inv X pins σ H s) : X.env.locals < s.heap.objs.size := let ⟨_, hn, _⟩ := I.loc; hn.lt
theorem Inv.sz (I : Inv X pins σ H s) : X.s_0.heap.objs.size ≤ s.heap.objs.size := Nat.le_trans I.ok.above (Nat.le_of_lt I.lt)
theorem Inv.nofs (I : Inv X pins σ H s) {a : Addr} (h : s.heap.objs.size ≤ a) : a ∉ X.fs := fun hb => by
  obtain ⟨_, o, ho, _⟩ := I.ok.funs.mem hb
  exact absurd (Nat.lt_of_lt_of_le (Heap.lt_size ho) (Nat.le_trans I.sz h)) (Nat.lt_irrefl _)
theorem Inv.cne (I : Inv X pins σ H s) : ∀ x c, X.env.cells.lookup x = some c → c ≠ X.env.locals := fun x c e z => by
  obtain ⟨v, o, ho, hd⟩ := I.cell x c e
  obtain ⟨m, ⟨o', es, ep, ho', hd', _⟩, _⟩ := I.loc
  rw [z, ho'] at ho; cases ho; rw [hd'] at hd; cases hd
theorem Inv.funs (I : Inv X pins σ H s) : s.heap.FunFrames X.base X.outer := by
  have all : ∀ (l : List Env), (∀ b ∈ frs l, b ∈ X.fs) → X.s_0.heap.FunFrames X.base l → s.heap.FunFrames X.base l := by
    intro l
    induction l with
    | nil => intro _ _; trivial
    | cons env r ih =>
      intro hs hl
      obtain ⟨hk, ⟨L, o, hf, hn, ho, hd⟩, hr⟩ := hl
      have hL : L ∈ X.fs := hs L (by unfold frs; rw [List.filterMap_cons, hf]; exact List.mem_cons_self)
      obtain ⟨sl, e⟩ := I.base.slot L o ho (I.ok.frf L hL) hL fun z => I.ok.exfs L z hL
      exact ⟨hk, ⟨L, _, hf, hn, e, hd⟩, ih (fun b hb => hs b (by unfold frs; rw [List.filterMap_cons, hf]; exact List.mem_cons_of_mem _ hb)) hr⟩
  exact all X.outer (fun _ hb => hb) I.ok.funs

theorem Inv.stack (I : Inv X pins σ H s) : s.heap.FunFrames X.base X.stack := by
  rcases I.ok.stk with e | ⟨e, hf⟩
  · rw [e]; exact I.funs
  · rw [e]
    obtain ⟨m, hn, _⟩ := I.loc
    refine .cons (by rw [I.ok.kind]; decide) hf hn ?_ I.funs
    exact Heap.get?_none_of_le (Nat.le_trans I.ok.bsz I.ok.above)
theorem Inv.stkSub (I : Inv X pins σ H s) : ∀ b ∈ frs X.stack, b ∈ X.env.locals :: X.fs := fun b hb => by
  rcases I.ok.stk with e | ⟨e, hf⟩
  · rw [e] at hb; exact List.mem_cons_of_mem _ hb
  · rw [e] at hb
    unfold frs at hb
    rw [List.filterMap_cons, hf] at hb
    exact hb
theorem Inv.stkFree (I : Inv X pins σ H s) : ∀ b ∈ frs X.stack, H b = none := fun b hb => by
  rcases List.mem_cons.mp (I.stkSub b hb) with e | hb
  · rw [e]; exact I.free
  · obtain ⟨_, o, ho, _⟩ := I.ok.funs.mem hb
    exact I.base.free b o ho (I.ok.frf b hb) fun z => I.ok.exfs b z hb

theorem Inv.step {g' : Array GenState} {t' : Nat} {d' : Drawn} {ch : List Addr} (I : Inv X pins σ H s)
    (hch : ∀ b ∈ ch, (b ∈ X.ex ∨ X.s_0.heap.objs.size ≤ b) ∧ b ≠ X.env.locals ∧ (∀ x c, X.env.cells.lookup x = some c → c ≠ b) ∧ ∀ p ∈ X.pn ++ pins, p.1 ≠ b)
    (keep : ∀ b o, b ≠ X.env.locals → b ∉ X.fs → b ∉ ch → s.heap.get? b = some o → H b = none → h'.get? b = some o)
    (slot : ∀ b o, b ≠ X.env.locals → b ∈ X.fs → b ∉ ch → s.heap.get? b = some o → H b = none → ∃ sl, h'.get? b = some { o with slots := sl }) (free : ∀ b o, b ∉ ch → s.heap.get? b = some o → H b = none → H' b = none)
    (there : ∀ b o, b ∉ ch → s.heap.get? b = some o → ∃ o', h'.get? b = some o')
    (tups : ∀ b xs, H b = some (.tup xs) → H' b = some (.tup xs)) (frzs : ∀ b o u, H b = some (.frz o u) → H' b = some (.frz o u)) (tbls : ∀ b ps, H b = some (.tbl ps) → ∃ more, H' b = some (.tbl (ps ++ more)))
    (ns : ∀ m, s.heap.Ns X.env.locals m → h'.Ns X.env.locals m) (hok : HOk X.prog X.w H' h') (hg : AllBare g') :
    Inv X pins σ H' { s with heap := h', gens := g', drawn := d', toks := t' } := by
  have neL : ∀ b o, X.s_0.heap.get? b = some o → b ≠ X.env.locals := fun b o e => Nat.ne_of_lt (Nat.lt_of_lt_of_le (Heap.lt_size e) I.ok.above)
  have neC : ∀ b o, X.s_0.heap.get? b = some o → b ∉ X.ex → b ∉ ch := fun b o e hx hb => by
    rcases (hch b hb).1 with z | z
    · exact hx z
    · exact absurd (Nat.lt_of_lt_of_le (Heap.lt_size e) z) (Nat.lt_irrefl _)
  have cellK : ∀ x c, X.env.cells.lookup x = some c → ∀ v, s.heap.IsCell c v → h'.IsCell c v := fun x c e v ⟨o, ho, hd⟩ => by
    have nch : c ∉ ch := fun z => (hch c z).2.2.1 x c e rfl
    by_cases hc : c ∈ X.fs
    · obtain ⟨sl, q⟩ := slot c o (I.cne x c e) hc nch ho (I.freeC x c e)
      exact ⟨_, q, hd⟩
    · exact ⟨o, keep c o (I.cne x c e) hc nch ho (I.freeC x c e), hd⟩
  refine ⟨I.ok, I.os, hg, ⟨fun b o e n hb hx => ?_, fun b o e n hb hx => ?_, fun b o e n hx => ?_, fun b o e hx => ?_, fun b xs e => tups b xs (I.base.tups b xs e), fun b o xs e => frzs b o xs (I.base.frzs b o xs e), fun b ps e => ?_⟩, ?_, fun x c e => ?_, ?_, fun x c e => ?_, fun p hp => ?_, hok, I.len⟩
  · exact keep b o (neL b o e) hb (neC b o e hx) (I.base.keep b o e n hb hx) (I.base.free b o e n hx)
  · obtain ⟨sl, e1⟩ := I.base.slot b o e n hb hx
    obtain ⟨sl', e2⟩ := slot b _ (neL b o e) hb (neC b o e hx) e1 (I.base.free b o e n hx)
    exact ⟨sl', e2⟩
  · obtain ⟨o', e1⟩ := I.base.there b o e hx
    exact free b o' (neC b o e hx) e1 (I.base.free b o e n hx)
  · obtain ⟨o', e1⟩ := I.base.there b o e hx
    exact there b o' (neC b o e hx) e1
  · obtain ⟨m1, e1⟩ := I.base.tbls b ps e
    obtain ⟨m2, e2⟩ := tbls b _ e1
    exact ⟨m1 ++ m2, by rw [e2, Array.append_assoc]⟩
  · obtain ⟨m, hn, hl⟩ := I.loc
    refine ⟨m, ns m hn, fun i x v e1 e2 e3 => ?_⟩
    obtain ⟨u, r, l⟩ := hl i x v e1 e2 e3
    refine ⟨u, r, ?_⟩
    rcases l with l | ⟨k, c, e, z⟩
    · exact .inl l
    · exact .inr ⟨k, c, e, cellK x c e _ z⟩
  · obtain ⟨v, z⟩ := I.cell x c e
    exact ⟨v, cellK x c e v z⟩
  · obtain ⟨m, ⟨o, _, _, ho, _⟩, _⟩ := I.loc
    exact free _ o (fun z => (hch _ z).2.1 rfl) ho I.free
  · obtain ⟨v, o, ho, hd⟩ := I.cell x c e
    exact free c o (fun z => (hch c z).2.2.1 x c e rfl) ho (I.freeC x c e)
  · obtain ⟨e, n, ne, nf, d⟩ := I.pin p hp
    have nch : p.1 ∉ ch := fun z => (hch p.1 z).2.2.2 p hp rfl
    exact ⟨keep p.1 p.2 ne nf nch e n, free p.1 p.2 nch e n, ne, nf, d⟩
theorem Inv.un {t' : Nat} (I : Inv X pins σ H s) (u : Un X.fs [] H H' s.heap h') (hok : HOk X.prog X.w H' h') : Inv X pins σ H' { s with heap := h', toks := t' } := by
  obtain ⟨m, ⟨o, es, ep, ho, r⟩, _⟩ := id I.loc
  obtain ⟨sl, hL⟩ := u.any ho I.free (by simp)
  exact I.step (g' := s.gens) (d' := s.drawn) (ch := []) (fun _ z => nomatch z) (fun b o _ hb _ e n => u.keep b o e n hb (by simp)) (fun b o _ hb _ e n => u.slot b o e n hb (by simp)) (fun b o _ e n => u.free b o e n (by simp)) (fun b o _ e => u.there b o e (by simp)) u.tups u.frzs u.tbls (fun m' hm => by
    obtain ⟨o', es', ep', ho', r'⟩ := hm
    rw [ho] at ho'; cases ho'
    exact ⟨_, es', ep', hL, r'⟩) hok I.bare
theorem Inv.call {g' : Array GenState} {t' : Nat} {d' : Drawn} {ch : List Addr} (I : Inv X pins σ H s) (u : Un (frs X.stack) ch H H' s.heap h') (hok : HOk X.prog X.w H' h') (hg : AllBare g')
    (hch : ∀ b ∈ ch, (b ∈ X.ex ∨ X.s_0.heap.objs.size ≤ b) ∧ b ≠ X.env.locals ∧ (∀ x c, X.env.cells.lookup x = some c → c ≠ b) ∧ ∀ p ∈ X.pn ++ pins, p.1 ≠ b) :
    Inv X pins σ H' { s with heap := h', gens := g', drawn := d', toks := t' } := by
  obtain ⟨m, ⟨o, es, ep, ho, r⟩, _⟩ := id I.loc
  obtain ⟨sl, hL⟩ := u.any ho I.free fun z => (hch _ z).2.1 rfl
  exact I.step (ch := ch) hch (fun b o hL hb hc e n => u.keep b o e n (fun z => (List.mem_cons.mp (I.stkSub b z)).elim hL hb) hc) (fun b o _ _ hc e n => u.any e n hc) (fun b o hc e n => u.free b o e n hc) (fun b o hc e => u.there b o e hc) u.tups u.frzs u.tbls (fun m' hm => by
    obtain ⟨o', es', ep', ho', r'⟩ := hm
    rw [ho] at ho'; cases ho'
    exact ⟨_, es', ep', hL, r'⟩) hok hg
theorem Inv.turned {t' : Nat} {it : Addr} (I : Inv X pins σ H s) (k : ∀ b o, b ≠ it → s.heap.get? b = some o → h'.get? b = some o) (hn : H it = none) (hL : it ≠ X.env.locals)
    (h1 : it ∈ X.ex ∨ X.s_0.heap.objs.size ≤ it) (h2 : ∀ x c, X.env.cells.lookup x = some c → c ≠ it) (h3 : ∀ p ∈ X.pn ++ pins, p.1 ≠ it) : Inv X pins σ H { s with heap := h', toks := t' } := by
  have nit : ∀ b u, H b = some u → b ≠ it := fun b u e z => by rw [z, hn] at e; cases e
  refine I.step (g' := s.gens) (d' := s.drawn) (ch := [it]) (fun b hb => ?_) (fun b o _ _ hc e _ => k b o (fun z => hc (by simp [z])) e) (fun b o _ _ hc e _ => ⟨o.slots, k b o (fun z => hc (by simp [z])) e⟩) (fun _ _ _ _ n => n)
    (fun b o hc e => ⟨o, k b o (fun z => hc (by simp [z])) e⟩) (fun _ _ e => e) (fun _ _ _ e => e) (fun b ps e => ⟨#[], by rw [e]; simp⟩) (fun m hm => ?_) (fun b u e => ?_) I.bare
  · have e : b = it := by simpa using hb
    subst e
    exact ⟨h1, hL, h2, h3⟩
  · obtain ⟨o, es, ep, ho, r⟩ := hm
    exact ⟨o, es, ep, k _ o (Ne.symm hL) ho, r⟩
  · refine (I.hok b u e).stay (fun c v hc q => k c v ?_ q) (fun _ q => q) fun _ _ q => q
    rcases hc with z | z
    · rw [z]; exact nit b u e
    · exact nit c _ z
theorem Inv.tok (I : Inv X pins σ H s) (t : Nat) : Inv X pins σ H { s with toks := t } := I.un (h' := s.heap) (t' := t) Un.refl I.hok
theorem Inv.kept {t' : Nat} (I : Inv X pins σ H s) (k : ∀ b u, s.heap.get? b = some u → h'.get? b = some u) : Inv X pins σ H { s with heap := h', toks := t' } := I.un (Un.kept k) (I.hok.kept k)
theorem Inv.laid {a : Addr} {o : HO} {t' : Nat} (I : Inv X pins σ H s) (k : ∀ b u, s.heap.get? b = some u → h'.get? b = some u) (hp : s.heap.objs.size ≤ a) (new : ObjOk X.prog X.w (upd H a o) h' a o) :
    Inv X pins σ (upd H a o) { s with heap := h', toks := t' } := I.un (Un.laid k hp (I.hok.fresh hp)) (I.hok.laid k hp new)
theorem Inv.write {x e : Addr} {o : HO} {t' : Nat} (I : Inv X pins σ H s) (mu : Mut (H x)) (he : e = x ∨ H e = some (.own x)) (k : ∀ b u, b ≠ e → s.heap.get? b = some u → h'.get? b = some u) (heo : ∃ u, h'.get? e = some u)
    (new : ObjOk X.prog X.w (upd H x o) h' x o) : Inv X pins σ (upd H x o) { s with heap := h', toks := t' } := I.un (Un.write mu he k heo) (I.hok.write mu he k heo new)
theorem Inv.weak {σ' : List (Option V)} (I : Inv X pins σ H s) (hl : σ'.length = σ.length) (w : ∀ (i : Nat) v, σ'[i]? = some (some v) → σ[i]? = some (some v)) : Inv X pins σ' H s :=
  ⟨I.ok, I.os, I.bare, I.base, let ⟨m, hn, hl'⟩ := I.loc; ⟨m, hn, fun i x v e1 e2 e3 => hl' i x v e1 (w i v e2) e3⟩, I.cell, I.free, I.freeC, I.pin, I.hok, hl.trans I.len⟩
theorem Inv.pins_of {pins' : List (Addr × Obj)} (I : Inv X pins σ H s) (h : ∀ p ∈ pins', s.heap.get? p.1 = some p.2 ∧ H p.1 = none ∧ p.1 ≠ X.env.locals ∧ p.1 ∉ X.fs ∧ ∀ v, p.2.data ≠ .cell v) : Inv X pins' σ H s :=
  ⟨I.ok, I.os, I.bare, I.base, I.loc, I.cell, I.free, I.freeC, fun p hp => (List.mem_append.mp hp).elim (fun z => I.pin p (List.mem_append_left _ z)) (h p), I.hok, I.len⟩

theorem nodup_ix {N : List Str} (hN : N.Nodup) {i j : Nat} {x : Str} (a : N[i]? = some x) (b : N[j]? = some x) : i = j := by
  obtain ⟨h1, e1⟩ := List.getElem?_eq_some_iff.mp a
  obtain ⟨h2, e2⟩ := List.getElem?_eq_some_iff.mp b
  exact (List.getElem_inj hN).mp (e1.trans e2.symm)

theorem store_ok2 {M : Model} {A : Around} {E : Value → Shared → Prop} {i : Nat} {x : Str} {v : V} {u : Value} {Q : Unit → Shared → Prop} (I : Inv X pins σ H s) (hN : X.N.Nodup) (hi : X.N[i]? = some x) (hx : Loc X.env.scope x) (r : RelV v u)
    (h : ∀ s', Inv X pins (σ.set i (some v)) H s' → (∃ a, Heap.SameBut a s.heap s'.heap ∧ (a = X.env.locals ∨ X.env.cells.lookup x = some a)) → Q () s') (hf : X.fn x = true ∨ X.env.scope.names.lookup x = some .local := by first | exact .inl rfl | exact .inr rfl | assumption) : wpAny M A (storeName X.env x u) Q E s := by
  obtain ⟨m, hn, hl⟩ := id I.loc
  have hcls : (X.env.scope.kind == .class || (X.env.scope.kind == .module && X.env.locals != X.env.globals)) = false := by rw [I.ok.kind]; rfl
  have hiσ : i < σ.length := by rw [I.len]; exact (List.getElem?_eq_some_iff.mp hi).1
  have cne := I.cne
  have tracked : ∀ {a : Addr} {h' : Heap}, (∃ o, s.heap.get? a = some o ∧ H a = none) → Heap.SameBut a s.heap h' → HOk X.prog X.w H h' := fun {a h'} ha hs b ob e => by
    obtain ⟨_, _, hfree⟩ := ha
    refine (I.hok b ob e).stay (fun c w' hc q => (hs.2 c ?_).trans q) (fun _ q => q) fun _ _ q => q
    rintro rfl
    rcases hc with rfl | hc
    · rw [hfree] at e; cases e
    · rw [hfree] at hc; cases hc
  rcases hx with hk | hk
  · refine wpAny_storeName_local hk hn (fun h' hn' hs => ?_) hcls
    obtain ⟨oL, _, _, hoL, _⟩ := id hn
    refine h _ ⟨I.ok, I.os, I.bare, ⟨fun b o e n hb hx => ?_, fun b o e n hb hx => ?_, I.base.free, fun b o e hx => ?_, I.base.tups, I.base.frzs, I.base.tbls⟩, ⟨_, hn', fun j y v' e1 e2 e3 => ?_⟩, fun y c e => ?_, I.free, I.freeC, fun p hp => ?_, tracked ⟨oL, hoL, I.free⟩ hs, by simpa using I.len⟩ ⟨_, hs, .inl rfl⟩
    · exact (hs.2 b (Nat.ne_of_lt (Nat.lt_of_lt_of_le (Heap.lt_size e) I.ok.above))).trans (I.base.keep b o e n hb hx)
    · obtain ⟨sl, e1⟩ := I.base.slot b o e n hb hx
      exact ⟨sl, (hs.2 b (Nat.ne_of_lt (Nat.lt_of_lt_of_le (Heap.lt_size e) I.ok.above))).trans e1⟩
    · obtain ⟨o', e1⟩ := I.base.there b o e hx
      exact ⟨o', (hs.2 b (Nat.ne_of_lt (Nat.lt_of_lt_of_le (Heap.lt_size e) I.ok.above))).trans e1⟩
    · by_cases hj : j = i
      · subst hj
        rw [hi] at e1; cases e1
        rw [List.getElem?_set_self hiσ] at e2
        cases e2
        exact ⟨u, r, .inl ⟨hk, by simp⟩⟩
      · rw [List.getElem?_set_ne (Ne.symm hj)] at e2
        obtain ⟨u', r', q⟩ := hl j y v' e1 e2 e3
        refine ⟨u', r', ?_⟩
        rcases q with ⟨k, e⟩ | ⟨k, c, e, z⟩
        · refine .inl ⟨k, ?_⟩
          have : y ≠ x := fun e => hj (nodup_ix hN e1 (e ▸ hi))
          simp [this, e]
        · exact .inr ⟨k, c, e, z.sameBut hs (cne y c e)⟩
    · obtain ⟨w', z⟩ := I.cell y c e
      exact ⟨w', z.sameBut hs (cne y c e)⟩
    · obtain ⟨e, n, ne, nf, d⟩ := I.pin p hp
      exact ⟨(hs.2 p.1 ne).trans e, n, ne, nf, d⟩
  · have hfn : X.fn x = true := by
      rcases hf with z | z
      · exact z
      · rw [z] at hk; cases hk
    obtain ⟨c, hc⟩ := I.ok.has x (.inl hk)
    obtain ⟨w', z⟩ := I.cell x c hc
    refine wpAny_storeName_cell I.ok.kind hk hc z (fun h' hc' hs => ?_)
    obtain ⟨oc, hoc, hocd⟩ := id z
    refine h { s with heap := h' } ⟨I.ok, I.os, I.bare, ⟨fun b o e n hb hx => ?_, fun b o e n hb hx => ?_, I.base.free, fun b o e hx => ?_, I.base.tups, I.base.frzs, I.base.tbls⟩, ⟨m, hn.sameBut hs (Ne.symm (cne x c hc)), fun j y v' e1 e2 e3 => ?_⟩, fun y c' e => ?_, I.free, I.freeC, fun p hp => ?_, tracked ⟨oc, hoc, I.freeC x c hc⟩ hs, by simpa using I.len⟩ ⟨c, hs, .inr hc⟩
    · exact (hs.2 b (Nat.ne_of_lt (Nat.lt_of_lt_of_le (Heap.lt_size e) (I.ok.cab x c hfn hc)))).trans (I.base.keep b o e n hb hx)
    · obtain ⟨sl, e1⟩ := I.base.slot b o e n hb hx
      exact ⟨sl, (hs.2 b (Nat.ne_of_lt (Nat.lt_of_lt_of_le (Heap.lt_size e) (I.ok.cab x c hfn hc)))).trans e1⟩
    · obtain ⟨o', e1⟩ := I.base.there b o e hx
      exact ⟨o', (hs.2 b (Nat.ne_of_lt (Nat.lt_of_lt_of_le (Heap.lt_size e) (I.ok.cab x c hfn hc)))).trans e1⟩
    · by_cases hj : j = i
      · subst hj
        rw [hi] at e1; cases e1
        rw [List.getElem?_set_self hiσ] at e2
        cases e2
        exact ⟨u, r, .inr ⟨.inl hk, c, hc, hc'⟩⟩
      · rw [List.getElem?_set_ne (Ne.symm hj)] at e2
        obtain ⟨u', r', q⟩ := hl j y v' e1 e2 e3
        refine ⟨u', r', ?_⟩
        rcases q with q | ⟨k, c', e, z'⟩
        · exact .inl q
        · refine .inr ⟨k, c', e, z'.sameBut hs ?_⟩
          rintro rfl
          exact hj (nodup_ix hN e1 (I.ok.inj _ _ _ e hc ▸ hi))
    · by_cases hcc : c' = c
      · subst hcc; exact ⟨_, hc'⟩
      · obtain ⟨w2, z2⟩ := I.cell y c' e
        exact ⟨w2, z2.sameBut hs hcc⟩
    · obtain ⟨e, n, ne, nf, d⟩ := I.pin p hp
      refine ⟨(hs.2 p.1 ?_).trans e, n, ne, nf, d⟩
      intro q
      rw [q, hoc] at e
      have q' : oc = p.2 := Option.some.inj e
      exact d w' (by rw [← q']; exact hocd)
theorem store_ok {M : Model} {A : Around} {E : Value → Shared → Prop} {i : Nat} {x : Str} {v : V} {u : Value} {Q : Unit → Shared → Prop} (I : Inv X pins σ H s) (hN : X.N.Nodup) (hi : X.N[i]? = some x) (hx : Loc X.env.scope x) (r : RelV v u)
    (h : ∀ s', Inv X pins (σ.set i (some v)) H s' → Q () s') (hf : X.fn x = true ∨ X.env.scope.names.lookup x = some .local := by first | exact .inl rfl | exact .inr rfl | assumption) : wpAny M A (storeName X.env x u) Q E s :=
  store_ok2 I hN hi hx r (fun s' I' _ => h s' I') hf
theorem Inv.call' {s' : Shared} {ch : List Addr} (I : Inv X pins σ H s) (ho : s'.os = s.os) (u : Un (frs X.stack) ch H H' s.heap s'.heap) (hok : HOk X.prog X.w H' s'.heap) (hg : AllBare s'.gens)
    (hch : ∀ b ∈ ch, (b ∈ X.ex ∨ X.s_0.heap.objs.size ≤ b) ∧ b ≠ X.env.locals ∧ (∀ x c, X.env.cells.lookup x = some c → c ≠ b) ∧ ∀ p ∈ X.pn ++ pins, p.1 ≠ b) : Inv X pins σ H' s' := by
  obtain ⟨h', g', d', t', o'⟩ := s'
  have e : o' = s.os := ho
  subst e
  exact I.call (g' := g') (t' := t') (d' := d') u hok hg hch
end

noncomputable abbrev XK := Value → Option Addr → Hp → Prop
noncomputable abbrev St := List (Option V)
noncomputable abbrev VK := V → Hp → Prop
noncomputable abbrev TE := St → Hp → VK → Prop
noncomputable abbrev TT := St → Hp → (Bool → Hp → Prop) → Prop
noncomputable abbrev TA := St → Hp → (List V → Hp → Prop) → Prop
structure Ends where
  nx : St → Hp → Prop
  rt : VK
  bk : St → Hp → Prop := fun _ _ => False
  ct : St → Hp → Prop := fun _ _ => False
noncomputable abbrev TS := Ends → St → Hp → Prop

noncomputable def EP (X : Cx) (pins : List (Addr × Obj)) (σ : St) (Q : VK) (u : Value) (s' : Shared) : Prop := ∃ v H', Inv X pins σ H' s' ∧ RelV v u ∧ Q v H'
noncomputable def TP (X : Cx) (pins : List (Addr × Obj)) (σ : St) (Q : Bool → Hp → Prop) (b : Bool) (s' : Shared) : Prop := ∃ H', Inv X pins σ H' s' ∧ Q b H'
noncomputable def AP (X : Cx) (pins : List (Addr × Obj)) (σ : St) (Q : List V → Hp → Prop) (us : List Value) (s' : Shared) : Prop := ∃ vs H', Inv X pins σ H' s' ∧ Vals vs us ∧ Q vs H'
noncomputable def SP (X : Cx) (pins : List (Addr × Obj)) (D : Ends) (f : Flow) (s' : Shared) : Prop :=
  match f with
  | .next => ∃ σ' H', Inv X pins σ' H' s' ∧ D.nx σ' H'
  | .brk => ∃ σ' H', Inv X pins σ' H' s' ∧ D.bk σ' H'
  | .cont => ∃ σ' H', Inv X pins σ' H' s' ∧ D.ct σ' H'
  | .ret u => ∃ v σ' H', Inv X pins σ' H' s' ∧ RelV v u ∧ D.rt v H'

noncomputable def PE (X : Cx) (e : Expr) (t : TE) : Prop :=
  ∀ (pins : List (Addr × Obj)) (s : Shared) (σ : St) (H : Hp) (Q : VK), Inv X pins σ H s → t σ H Q → wpAny (model X.prog X.w) X.A (eval e X.env) (EP X pins σ Q) X.xe s
noncomputable def PT (X : Cx) (e : Expr) (t : TT) : Prop :=
  ∀ (pins : List (Addr × Obj)) (s : Shared) (σ : St) (H : Hp) (Q : Bool → Hp → Prop), Inv X pins σ H s → t σ H Q → wpAny (model X.prog X.w) X.A (isTrue e X.env (eval e X.env)) (TP X pins σ Q) X.xe s
noncomputable def PW (X : Cx) (e : Expr) (t : TT) : Prop :=
  ∀ (whole : Sem Value) (pins : List (Addr × Obj)) (s : Shared) (σ : St) (H : Hp) (Q : Bool → Hp → Prop), Inv X pins σ H s → t σ H Q → wpAny (model X.prog X.w) X.A (isTrue e X.env whole) (TP X pins σ Q) X.xe s
theorem PW.pt {X : Cx} {e : Expr} {t : TT} (h : PW X e t) : PT X e t := h _
noncomputable def PA (X : Cx) (es : List Expr) (t : TA) : Prop :=
  ∀ (pos : Pos) (pins : List (Addr × Obj)) (s : Shared) (σ : St) (H : Hp) (Q : List V → Hp → Prop), Inv X pins σ H s → t σ H Q → wpAny (model X.prog X.w) X.A (spliced (backTo pos (starEach es X.env))) (AP X pins σ Q) X.xe s
noncomputable def PS (X : Cx) (st : Stmt) (t : TS) : Prop :=
  ∀ (pins : List (Addr × Obj)) (s : Shared) (σ : St) (H : Hp) (D : Ends), Inv X pins σ H s → t D σ H → wpAny (model X.prog X.w) X.A (exec st X.env) (SP X pins D) X.xe s
noncomputable def PSs (X : Cx) (st : List Stmt) (t : TS) : Prop :=
  ∀ (pins : List (Addr × Obj)) (s : Shared) (σ : St) (H : Hp) (D : Ends), Inv X pins σ H s → t D σ H → wpAny (model X.prog X.w) X.A (execs st X.env) (SP X pins D) X.xe s
theorem thn {α : Type} {t : Sem α} {Q Q' : α → Shared → Prop} {M : Model} {A : Around} {E : Value → Shared → Prop} {s : Shared} (h : wpAny M A t Q E s) (hQ : ∀ a s, Q a s → Q' a s) : wpAny M A t Q' E s := wpAny_mono h hQ fun _ _ x => x
end L2

namespace L2
open PySem PySem.Spec PyProof.Rows
section
variable {X : Cx}

noncomputable def tVar (i : Nat) : TE := fun σ H Q => ∃ v, σ[i]? = some (some v) ∧ Q v H
noncomputable def tC (v : V) : TE := fun _ H Q => Q v H
theorem pe_var {i : Nat} {x : Str} {pos : Pos} (hN : X.N[i]? = some x) (hv : Vis X.env.scope x) (hd : (x == ("__debug__" : Str)) = false := by decide) (hcd : (x == ("__classdict__" : Str)) = false := by decide) : PE X (.Name x pos) (tVar i) := by
  intro pins s σ H Q I h
  obtain ⟨v, e, h⟩ := h
  obtain ⟨m, hn, hl⟩ := I.loc
  obtain ⟨u, r, l⟩ := hl i x v hN e hv
  have fin : EP X pins σ Q u s := ⟨v, H, I, r, h⟩
  rcases l with ⟨hk, hm⟩ | ⟨hk, c, hc, hcell⟩
  · exact wpAny_Name (wpAny_loadName_local I.ok.kind hk hn hm fin) hd
  · rcases hk with hk | hk
    · exact wpAny_Name (wpAny_loadName_cell I.ok.kind hk hc hcell fin) hd
    · exact wpAny_Name (wpAny_loadName_free I.ok.kind hk hc hcell fin hcd) hd
theorem pe_int {i j pos} : PE X (.Constant (.int i) j pos) (tC (.int i)) := fun _ _ _ H _ I h => wpAny_Constant_int ⟨.int i, H, I.tok _, ⟨_, rfl⟩, h⟩
theorem pe_bl {b j pos} : PE X (.Constant (.bool b) j pos) (tC (.bl b)) := fun _ _ _ H _ I h => Constant_bool ⟨.bl b, H, I, rfl, h⟩
theorem pe_non {j pos} : PE X (.Constant .none j pos) (tC .non) := fun _ _ _ H _ I h => Constant_none ⟨.non, H, I, rfl, h⟩
noncomputable def Gl (X : Cx) (x : Str) : Prop := X.env.kindOf x = some .globalImplicit
theorem ld_glob {E : Value → Shared → Prop} {pins : List (Addr × Obj)} {s : Shared} {σ : St} {H : Hp} {x : Str} {u : Value} {pos : Pos} {Q : Value → Shared → Prop} (I : Inv X pins σ H s) (hg : Gl X x) (hm : X.mg x = some u) (h : Q u s)
    (hd : (x == ("__debug__" : Str)) = false := by decide) : wpAny (model X.prog X.w) X.A (eval (.Name x pos) X.env) Q E s :=
  Calls.Name_function_global I.ok.kind hg (Calls.loadGlobal_global (by rw [I.ok.glob]; exact I.mod.glob.keeps I.bk) hm h) hd
theorem ld_blt {E : Value → Shared → Prop} {pins : List (Addr × Obj)} {s : Shared} {σ : St} {H : Hp} {x : Str} {u : Value} {pos : Pos} {Q : Value → Shared → Prop} (I : Inv X pins σ H s) (hg : Gl X x) (hm : X.mg x = none) (hv : bootBuiltins x = some u) (h : Q u s)
    (hn : x ≠ "__name__" := by decide) (hd : (x == ("__debug__" : Str)) = false := by decide) : wpAny (model X.prog X.w) X.A (eval (.Name x pos) X.env) Q E s := by
  obtain ⟨mb, h1, h2⟩ := I.mod.blt
  exact Calls.Name_function_global I.ok.kind hg (Calls.loadGlobal_builtin (by rw [I.ok.glob]; exact I.mod.glob.keeps I.bk) hm (by rw [I.ok.blt]; exact h1.keeps I.bk) ((h2 x hn).trans hv) h) hd
theorem pe_glob {x : Str} {v : V} {u : Value} {pos : Pos} (hg : Gl X x) (hm : X.mg x = some u) (r : RelV v u) (hd : (x == ("__debug__" : Str)) = false := by decide) : PE X (.Name x pos) (tC v) :=
  fun _ _ _ H _ I h => ld_glob I hg hm ⟨v, H, I, r, h⟩ hd
variable {a b : Expr} {ta tb : TE} {pos : Pos}
noncomputable def tB (t : TE) : TT := fun σ H Q => t σ H fun x H1 => ∃ c, x = .bl c ∧ Q c H1
theorem pt_val {e : Expr} {t : TE} (h : PE X e t) (he : ∀ whole, isTrue e X.env whole = (do let v ← whole; standAt e.pos; holding [v] (truthy v)) := by intro _; rfl) : PT X e (tB t) := by
  intro pins s σ H Q I hw
  refine isTrue_plain (thn (h pins s σ H _ I hw) fun v s1 ⟨x, H1, I1, r1, q1⟩ => ?_) (he _)
  obtain ⟨d, rfl, q⟩ := q1
  cases r1
  exact wpAny_truthy_bool ⟨H1, I1, q⟩

variable {tA tB' : TT} {rest : List Expr}
noncomputable def tOr (t u : TT) : TT := fun σ H Q => t σ H fun c H1 => if c = true then Q true H1 else u σ H1 Q
theorem pw_or1 (ha : PT X a tA) : PW X (.BoolOp .Or [a] pos) tA := by
  intro wh pins s σ H Q I h
  refine isTrue_or (thn (ha pins s σ H Q I h) fun c s1 e => ?_)
  cases c with
  | false => exact isTrue_or_nil e
  | true => exact e
theorem pw_or (ha : PT X a tA) (hb : PW X (.BoolOp .Or (b :: rest) pos) tB') : PW X (.BoolOp .Or (a :: b :: rest) pos) (tOr tA tB') := by
  intro wh pins s σ H Q I h
  refine isTrue_or (thn (ha pins s σ H _ I h) fun c s1 ⟨H1, I1, q1⟩ => ?_)
  cases c with
  | true => exact ⟨H1, I1, q1⟩
  | false => exact hb wh pins s1 σ H1 Q I1 q1
noncomputable def tAndV (ta tb : TE) : TE := fun σ H Q => ta σ H fun x H1 => ∃ c, x = .bl c ∧ if c = true then tb σ H1 Q else Q (.bl false) H1
noncomputable def tOrV (ta tb : TE) : TE := fun σ H Q => ta σ H fun x H1 => ∃ c, x = .bl c ∧ if c = true then Q (.bl true) H1 else tb σ H1 Q
theorem pe_one {op} {t : TE} (h : PE X a t) : PE X (.BoolOp op [a] pos) t := fun pins s σ H Q I hw => BoolOp_one (h pins s σ H Q I hw)
theorem pe_and (ha : PE X a ta) (hb : PE X (.BoolOp .And (b :: rest) pos) tb) : PE X (.BoolOp .And (a :: b :: rest) pos) (tAndV ta tb) := by
  intro pins s σ H Q I h
  refine BoolOp_and (thn (ha pins s σ H _ I h) fun v s1 ⟨x, H1, I1, r1, q1⟩ => ?_)
  obtain ⟨c, rfl, q1⟩ := q1
  cases r1
  refine wpAny_truthy_bool ?_
  cases c with
  | true => exact hb pins s1 σ H1 Q I1 q1
  | false => exact ⟨.bl false, H1, I1, rfl, q1⟩
theorem pe_or (ha : PE X a ta) (hb : PE X (.BoolOp .Or (b :: rest) pos) tb) : PE X (.BoolOp .Or (a :: b :: rest) pos) (tOrV ta tb) := by
  intro pins s σ H Q I h
  refine BoolOp_or (thn (ha pins s σ H _ I h) fun v s1 ⟨x, H1, I1, r1, q1⟩ => ?_)
  obtain ⟨c, rfl, q1⟩ := q1
  cases r1
  refine wpAny_truthy_bool ?_
  cases c with
  | false => exact hb pins s1 σ H1 Q I1 q1
  | true => exact ⟨.bl true, H1, I1, rfl, q1⟩
noncomputable def tIf (t : TT) (ta tb : TE) : TE := fun σ H Q => t σ H fun c H1 => if c = true then ta σ H1 Q else tb σ H1 Q
theorem pe_ifExp {c : Expr} (hc : PT X c tA) (ha : PE X a ta) (hb : PE X b tb) : PE X (.IfExp c a b pos) (tIf tA ta tb) := by
  intro pins s σ H Q I h
  refine wpAny_IfExp (thn (hc pins s σ H _ I h) fun d s1 ⟨H1, I1, q1⟩ => ?_)
  cases d with
  | true => exact ha pins s1 σ H1 Q I1 q1
  | false => exact hb pins s1 σ H1 Q I1 q1
end
end L2

namespace L2
open PySem PySem.Spec PyProof.Rows

noncomputable def SqL (K : PySem.W.Frag) (H : Hp) (a : Addr) (xs : List V) : Prop :=
  Rd H a (.lst xs) ∨
    ∃ (o : Obj) (its : Array Value) (n : Nat), K.lookup a = some o ∧ o.cls = .type "list" ∧ o.dict = none ∧ o.data = .seq its n ∧ its.size ≤ sizeLine ∧ Vals xs its.toList
noncomputable def SqT (K : PySem.W.Frag) (H : Hp) (a : Addr) (xs : List V) : Prop :=
  Rd H a (.tup xs) ∨
    ∃ (o : Obj) (its : Array Value) (n : Nat), K.lookup a = some o ∧ o.cls = .type "tuple" ∧ o.data = .seq its n ∧ its.size ≤ sizeLine ∧ Vals xs its.toList
noncomputable def absV : Value → Option V
  | .none => some .non
  | .bool b => some (.bl b)
  | .int i _ => some (.int i)
  | .str x _ => some (.str x)
  | .bytes b _ => some (.byt b)
  | .float b _ => some (.flt b)
  | .ref a => some (.ref a)
  | .type n => some (.ty n)
  | _ => none
theorem RelV.abs {x : V} {u : Value} (r : RelV x u) : absV u = some x := by
  cases x with
  | non => cases r; rfl
  | bl _ => cases r; rfl
  | int _ => obtain ⟨t, rfl⟩ := r; rfl
  | str _ => obtain ⟨t, rfl⟩ := r; rfl
  | byt _ => obtain ⟨t, rfl⟩ := r; rfl
  | flt _ => obtain ⟨t, rfl⟩ := r; rfl
  | ref _ => cases r; rfl
  | ty _ => cases r; rfl
theorem RelV.inj {x y : V} {u : Value} (r : RelV x u) (q : RelV y u) : x = y := Option.some.inj (r.abs.symm.trans q.abs)
theorem Vals.inj : ∀ {xs ys : List V} {us : List Value}, Vals xs us → Vals ys us → xs = ys
  | _, _, _, .nil, .nil => rfl
  | _, _, _, .cons r t, .cons r' t' => by rw [r.inj r', Vals.inj t t']
section
variable {X : Cx} {pins : List (Addr × Obj)} {σ : St} {H : Hp} {s : Shared} {a : Addr} {xs ys : List V}
theorem SqL.of {K : PySem.W.Frag} (h : H a = some (.lst xs)) : SqL K H a xs := .inl (.inl h)
theorem SqT.of {K : PySem.W.Frag} (h : H a = some (.tup xs)) : SqT K H a xs := .inl (.inl h)
theorem Inv.list (I : Inv X pins σ H s) (h : SqL X.K H a xs) : ∃ its : List Value, Vals xs its ∧ PlainL s.heap a its.toArray ∧ xs.length ≤ sizeLine := by
  rcases h with h | ⟨o, its, n, hk, hc, hd, hs, hz, r⟩
  · obtain ⟨z, its, n, r, e⟩ := h.ok I.hok
    exact ⟨its, r, ⟨_, n, e, rfl, rfl, rfl⟩, z⟩
  · refine ⟨its.toList, r, ⟨o, n, I.kIn a o hk, hc, hd, by simpa using hs⟩, ?_⟩
    have e := r.length
    simp only [Array.length_toList] at e
    omega
theorem Inv.tuple (I : Inv X pins σ H s) (h : SqT X.K H a xs) : ∃ its : List Value, Vals xs its ∧ IsTup s.heap a its.toArray ∧ xs.length ≤ sizeLine := by
  rcases h with h | ⟨o, its, n, hk, hc, hs, hz, r⟩
  · obtain ⟨z, its, r, p⟩ := h.ok I.hok
    exact ⟨its, r, p, z⟩
  · refine ⟨its.toList, r, ⟨o, I.kIn a o hk, hc, n, by simpa using hs⟩, ?_⟩
    have e := r.length
    simp only [Array.length_toList] at e
    omega
theorem Inv.list_inj (I : Inv X pins σ H s) (h : SqL X.K H a xs) (h' : SqL X.K H a ys) : xs = ys := by
  obtain ⟨its, r, ⟨o, n, e, _, _, d⟩, _⟩ := I.list h
  obtain ⟨its', r', ⟨o', n', e', _, _, d'⟩, _⟩ := I.list h'
  rw [e] at e'; cases e'
  rw [d] at d'
  injection d' with d1 _
  have : its = its' := by simpa using congrArg Array.toList d1
  subst this
  exact r.inj r'
theorem Inv.tuple_inj (I : Inv X pins σ H s) (h : SqT X.K H a xs) (h' : SqT X.K H a ys) : xs = ys := by
  obtain ⟨its, r, ⟨o, e, _, n, d⟩, _⟩ := I.tuple h
  obtain ⟨its', r', ⟨o', e', _, n', d'⟩, _⟩ := I.tuple h'
  rw [e] at e'; cases e'
  rw [d] at d'
  injection d' with d1 _
  have : its = its' := by simpa using congrArg Array.toList d1
  subst this
  exact r.inj r'
end

noncomputable abbrev Cx.wish (X : Cx) (E : Value → Shared → Prop) : Cx := { X with xe := E }
section
variable {X : Cx} {pins : List (Addr × Obj)} {σ : St} {H : Hp} {s : Shared} {E : Value → Shared → Prop}
end

section
variable {X : Cx} {st : Stmt} {rest : List Stmt} {t u : TS} {e : Expr} {te : TE} {pos : Pos}
noncomputable def tNext : TS := fun D σ H => D.nx σ H
noncomputable def tSeq (t u : TS) : TS := fun D σ H => t { D with nx := u D } σ H
theorem pss_nil : PSs X [] tNext := fun _ _ σ H _ I h => wpAny_execs_nil ⟨σ, H, I, h⟩
theorem pss_cons (h1 : PS X st t) (h2 : PSs X rest u) : PSs X (st :: rest) (tSeq t u) := by
  intro pins s σ H D I h
  refine wpAny_execs_cons (thn (h1 pins s σ H { D with nx := u D } I h) fun f s1 q => ?_)
  cases f with
  | next =>
    obtain ⟨σ', H', I', q⟩ := q
    exact h2 pins s1 σ' H' D I' q
  | ret v => exact q
  | brk => exact q
  | cont => exact q
theorem pss_one (h1 : PS X st t) : PSs X [st] t := by
  intro pins s σ H D I h
  refine wpAny_execs_cons (thn (h1 pins s σ H D I h) fun f s1 q => ?_)
  cases f with
  | next => exact wpAny_execs_nil q
  | ret v => exact q
  | brk => exact q
  | cont => exact q
theorem Inv.quiet {pins : List (Addr × Obj)} {σ : St} {H : Hp} {s : Shared} (I : Inv X pins σ H s) : interactive X.env = false := by simp [interactive, I.ok.kind]
noncomputable def tDrop (te : TE) : TS := fun D σ H => te σ H fun _ H1 => D.nx σ H1
theorem ps_expr (he : PE X e te) (hs : swapsWith e none pos.line X.env = pure false := by rfl) : PS X (.Expr e pos) (tDrop te) := by
  intro pins s σ H D I h
  exact wpAny_Expr_any (thn (he pins s σ H _ I h) fun v s1 ⟨x, H1, I1, r1, q1⟩ => ⟨σ, H1, I1, q1⟩) I.quiet hs
noncomputable def tRet (te : TE) : TS := fun D σ H => te σ H D.rt
theorem ps_ret (he : PE X e te) : PS X (.Return (some e) pos) (tRet te) := by
  intro pins s σ H D I h
  exact wpAny_Return_some (thn (he pins s σ H _ I h) fun v s1 ⟨x, H1, I1, r1, q1⟩ => ⟨x, σ, H1, I1, r1, q1⟩)
noncomputable def tIfS (c : TT) (t u : TS) : TS := fun D σ H => c σ H fun b H1 => if b = true then t D σ H1 else u D σ H1
theorem ps_if {c : Expr} {a b : List Stmt} {tc : TT} (hc : PT X c tc) (ha : PSs X a t) (hb : PSs X b u) : PS X (.If c a b pos) (tIfS tc t u) := by
  intro pins s σ H D I h
  refine wpAny_If (thn (hc pins s σ H _ I h) fun d s1 ⟨H1, I1, q1⟩ => ?_)
  cases d with
  | true => exact ha pins s1 σ H1 D I1 q1
  | false => exact hb pins s1 σ H1 D I1 q1
end

noncomputable abbrev TG := V → St → Hp → (St → Hp → Prop) → Prop
noncomputable abbrev TGs := List V → St → Hp → (St → Hp → Prop) → Prop
noncomputable def PG (X : Cx) (target : Expr) (t : TG) : Prop :=
  ∀ (pins : List (Addr × Obj)) (s : Shared) (σ : St) (H : Hp) (v : V) (u : Value) (Q : St → Hp → Prop), Inv X pins σ H s → RelV v u → t v σ H Q →
    wpAny (model X.prog X.w) X.A (assign target X.env u) (fun _ s' => ∃ σ' H', Inv X pins σ' H' s' ∧ Q σ' H') X.xe s
noncomputable def PGs (X : Cx) (ts : List Expr) (t : TGs) : Prop :=
  ∀ (pins : List (Addr × Obj)) (s : Shared) (σ : St) (H : Hp) (vs : List V) (us : List Value) (Q : St → Hp → Prop), Inv X pins σ H s → Vals vs us → t vs σ H Q →
    wpAny (model X.prog X.w) X.A (assignInOrder ((assignEach ts X.env).map (·.2)) us) (fun _ s' => ∃ σ' H', Inv X pins σ' H' s' ∧ Q σ' H') X.xe s
section
variable {X : Cx} {pos : Pos}
noncomputable def gName (i : Nat) : TG := fun v σ H Q => Q (σ.set i (some v)) H
theorem pg_name {i : Nat} {x : Str} (hN : X.N.Nodup) (hi : X.N[i]? = some x) (hx : Loc X.env.scope x) (hf : X.fn x = true ∨ X.env.scope.names.lookup x = some .local := by first | exact .inl rfl | exact .inr rfl | assumption) : PG X (.Name x pos) (gName i) := by
  intro pins s σ H v u Q I r h
  exact wpAny_assign_Name (store_ok I hN hi hx r (fun s' I' => ⟨_, H, I', h⟩) hf)
noncomputable def gNil : TGs := fun vs σ H Q => vs = [] ∧ Q σ H
noncomputable def gCons (t : TG) (u : TGs) : TGs := fun vs σ H Q => ∃ v r, vs = v :: r ∧ t v σ H fun σ' H' => u r σ' H' Q
theorem pgs_nil : PGs X [] gNil := by
  intro pins s σ H vs us Q I r h
  obtain ⟨e, h⟩ := h
  subst e
  cases r
  exact assignInOrder_nil ⟨σ, H, I, h⟩
theorem pgs_cons {e : Expr} {es : List Expr} {t : TG} {u : TGs} (h1 : PG X e t) (h2 : PGs X es u)
    (hs : (assignEach (e :: es) X.env).map (·.2) = assign e X.env :: (assignEach es X.env).map (·.2) := by rfl) : PGs X (e :: es) (gCons t u) := by
  intro pins s σ H vs us Q I r h
  obtain ⟨v, vr, e1, h⟩ := h
  subst e1
  cases r with
  | cons r rr =>
    rw [hs]
    refine assignInOrder_cons (thn (h1 pins s σ H _ _ _ I r h) fun _ s1 ⟨σ1, H1, I1, q1⟩ => ?_)
    exact h2 pins s1 σ1 H1 _ _ Q I1 rr q1
noncomputable def gTup (K : PySem.W.Frag) (n : Nat) (t : TGs) : TG := fun v σ H Q => ∃ a xs, v = .ref a ∧ SqT K H a xs ∧ xs.length = n ∧ t xs σ H Q
theorem pg_tup {es : List Expr} {k : Nat} {t : TGs} {n : Nat} (hc : X.calm = true) (h : PGs X es t)
    (hn : (assignEach es X.env).length = n := by rfl) (hst : (assignEach es X.env).findIdx? (·.1) = none := by rfl) : PG X (.Tuple es k pos) (gTup X.K n t) := by
  intro pins s σ H v u Q I r hw
  obtain ⟨a, xs, e1, hq, hl, hw⟩ := hw
  subst e1
  cases r
  obtain ⟨its, rv, ht, hz⟩ := I.tuple hq
  refine assign_Tuple_tuple (I.ok.hd hc) ht (by simp [hn, ← hl, rv.length]) hst fun h' hx => ?_
  have I1 : Inv X pins σ H { s with heap := h' } := I.kept (t' := s.toks) fun b o e => hx b o (Nat.ne_of_lt (Heap.lt_size e)) e
  exact h pins _ σ H xs _ Q I1 (by simpa using rv) hw
noncomputable def tAsg (te : TE) (g : TG) : TS := fun D σ H => te σ H fun x H1 => g x σ H1 D.nx
theorem ps_set {i : Nat} {x : Str} {e : Expr} {te : TE} {pos' : Pos} (hN : X.N.Nodup) (hi : X.N[i]? = some x) (hx : Loc X.env.scope x) (he : PE X e te) (hs : swapsWith e (some (.Name x pos')) pos.line X.env = pure false := by rfl) (hf : X.fn x = true ∨ X.env.scope.names.lookup x = some .local := by first | exact .inl rfl | exact .inr rfl | assumption) :
    PS X (.Assign [.Name x pos'] e pos) (tAsg te (gName i)) := by
  intro pins s σ H D I h
  refine wpAny_Assign_Name (thn (he pins s σ H _ I h) fun v s1 ⟨y, H1, I1, r1, q1⟩ => ?_) hs
  exact store_ok I1 hN hi hx r1 (fun s2 I2 => ⟨_, H1, I2, q1⟩) hf
end

section
variable {X : Cx} {pos : Pos}
end

structure It where
  go : Nat → Hp → Prop
  yld : Nat → Hp → V → Hp → Prop
  stop : Nat → Hp → Prop
noncomputable def FpOk (X : Cx) (pins : List (Addr × Obj)) (H : Hp) (b : Addr) : Prop :=
  H b = none ∧ b ≠ X.env.locals ∧ b ∉ X.fs ∧ (b ∈ X.ex ∨ X.s_0.heap.objs.size ≤ b) ∧ (∀ x c, X.env.cells.lookup x = some c → c ≠ b) ∧ ∀ p ∈ X.pn ++ pins, p.1 ≠ b
theorem Inv.fpOk {X : Cx} {pins : List (Addr × Obj)} {σ : St} {H H' : Hp} {s : Shared} {b : Addr} (I : Inv X pins σ H s) (hb : s.heap.objs.size ≤ b) (hn : H' b = none) : FpOk X pins H' b := by
  refine ⟨hn, Nat.ne_of_gt (Nat.lt_of_lt_of_le I.lt hb), I.nofs hb, .inr (Nat.le_trans I.sz hb), fun x c e z => ?_, fun p hp z => ?_⟩
  · obtain ⟨v, q⟩ := I.cell x c e
    exact absurd (Nat.lt_of_lt_of_le q.lt (by rw [z]; exact hb)) (Nat.lt_irrefl _)
  · exact absurd (Nat.lt_of_lt_of_le (Heap.lt_size (I.pin p hp).1) (by rw [z]; exact hb)) (Nat.lt_irrefl _)
structure Turn (P : Program) (w : World) (K : PySem.W.Frag) (tg : Expr) (J : It) (fp : List Addr) (it : Addr) (tn : Nat → Heap → Prop) : Prop where
  mem : it ∈ fp
  obj : ∀ i h, tn i h → ∀ b ∈ fp, ∃ o, h.get? b = some o ∧ ∀ v, o.data ≠ .cell v
  keep : ∀ i h h', tn i h → (∀ b ∈ fp, ∀ o, h.get? b = some o → h'.get? b = some o) → tn i h'
  item : ∀ (X : Cx), X.prog = P → X.w = w → X.K = K → X.calm = true → ∀ (i : Nat) (pins : List (Addr × Obj)) (s : Shared) (σ : St) (H : Hp) (E : Value → Shared → Prop), Inv X pins σ H s → (∀ b ∈ fp, FpOk X pins H b) → tn i s.heap → J.go i H →
    wpAny (model P w) X.A (pyNext (.ref it)) (fun r s1 => ∃ u, r = some u ∧
      wpAny (model P w) X.A (letOwnedTupleGo tg (.ref it) u) (fun _ s2 => ∃ x H', Inv X pins σ H' s2 ∧ RelV x u ∧ J.yld i H x H' ∧ tn (i + 1) s2.heap ∧ ∀ b ∈ fp, H' b = none) E s1) E s
  done : ∀ (X : Cx), X.prog = P → X.w = w → X.K = K → X.calm = true → ∀ (i : Nat) (pins : List (Addr × Obj)) (s : Shared) (σ : St) (H : Hp) (E : Value → Shared → Prop), Inv X pins σ H s → (∀ b ∈ fp, FpOk X pins H b) → tn i s.heap → J.stop i H →
    wpAny (model P w) X.A (pyNext (.ref it)) (fun r s1 => r = none ∧ Inv X pins σ H s1) E s
  self : ∀ (A : Around) (i : Nat) (s : Shared) (Q : Value → Shared → Prop) (E : Value → Shared → Prop), tn i s.heap → Q (.ref it) s → wpAny (model P w) A (pyIter (.ref it)) Q E s
noncomputable abbrev TI := St → Hp → (It → Hp → Prop) → Prop
noncomputable def PIE (X : Cx) (pins : List (Addr × Obj)) (σ : St) (tg : Expr) (R : It → Hp → Prop) (itv : Value) (s2 : Shared) : Prop :=
  ∃ (it : Addr) (fp : List Addr) (tn : Nat → Heap → Prop) (J : It) (H' : Hp), itv = .ref it ∧ Inv X pins σ H' s2 ∧ Turn X.prog X.w X.K tg J fp it tn ∧ tn 0 s2.heap ∧ (∀ b ∈ fp, FpOk X pins H' b) ∧ R J H'
noncomputable def PI (X : Cx) (tg iter : Expr) (wi : TI) : Prop :=
  ∀ (pins : List (Addr × Obj)) (s : Shared) (σ : St) (H : Hp) (R : It → Hp → Prop), Inv X pins σ H s → wi σ H R →
    wpAny (model X.prog X.w) X.A (eval iter X.env) (fun v s1 => wpAny (model X.prog X.w) X.A (pyIter v) (PIE X pins σ tg R) X.xe s1) X.xe s

theorem go_of {M : Model} {A : Around} {E : Value → Shared → Prop} {s : Shared} {tg : Expr} {it : Addr} {u : Value} {o : Obj} {n : String} {vs : Array Value} {Q : Unit → Shared → Prop} (ho : s.heap.get? it = some o) (hc : o.cls = .type n) (hd : o.data = .fields vs)
    (hn : ["enumerate", "zip", "dict_itemiterator", "dict_reverseitemiterator", "odict_iterator", "itertools.zip_longest", "itertools.pairwise"].contains n = false) (hQ : Q () s) : wpAny M A (letOwnedTupleGo tg (.ref it) u) Q E s := by
  unfold letOwnedTupleGo
  cases tg <;> first
    | exact wpAny_pure hQ
    | (cases u <;> first
        | exact wpAny_pure hQ
        | (refine wpAny_bind (wpAny_load ho ?_)
           rw [hc, hd]
           show wpAny M A (if (["enumerate", "zip", "dict_itemiterator", "dict_reverseitemiterator", "odict_iterator", "itertools.zip_longest", "itertools.pairwise"].contains n && vs[0]? == some (rawInt _)) = true then _ else _) Q E s
           rw [if_neg (by intro h; rw [hn, Bool.false_and] at h; cases h)]
           exact wpAny_pure hQ))

noncomputable def Itl (K : PySem.W.Frag) (a : Addr) : It :=
  ⟨fun i H => ∃ xs x, SqL K H a xs ∧ xs[i]? = some x, fun i H x H' => H' = H ∧ ∀ xs, SqL K H a xs → xs[i]? = some x, fun i H => ∃ xs, SqL K H a xs ∧ xs.length ≤ i⟩
noncomputable def Itr (lo : Int) (n : Nat) : It := ⟨fun i _ => i < n, fun i H x H' => H' = H ∧ x = .int (lo + i), fun i _ => n ≤ i⟩
theorem turn_list {P : Program} {w : World} {K : PySem.W.Frag} {tg : Expr} (a it : Addr) : Turn P w K tg (Itl K a) [it] it (fun i h => h.IsListIter it a i) where
  mem := by simp
  obj := fun i h st b hb => by
    have e : b = it := by simpa using hb
    subst e
    obtain ⟨o, e, c, d⟩ := st
    exact ⟨o, e, fun v z => by rw [d] at z; cases z⟩
  keep := fun i h h' st k => st.at fun o e => k it (by simp) o e
  item := by
    intro X hP hw hK hc i pins s σ H E I hf st hg
    subst hP hw hK
    obtain ⟨xs, x, hq, hx⟩ := hg
    obtain ⟨its, rv, p, hz⟩ := I.list hq
    obtain ⟨u, hu, ru⟩ := rv.get hx
    obtain ⟨f0, f1, f2, f3, f4, f5⟩ := hf it (by simp)
    refine wpAny_pyNext_list_item st p.isList (x := u) (by simpa using hu) fun h' st' sb => ?_
    have I1 : Inv X pins σ H { s with heap := h' } := I.turned (t' := s.toks) (fun b o hb e => (sb.2 b hb).trans e) f0 f1 f3 f4 f5
    obtain ⟨o, e, c, d⟩ := id st'
    exact ⟨u, rfl, go_of (s := { s with heap := h' }) e c d (by decide) ⟨x, H, I1, ru, ⟨rfl, fun ys hy => by rw [I.list_inj hy hq]; exact hx⟩, st', fun b hb => (hf b hb).1⟩⟩
  done := by
    intro X hP hw hK hc i pins s σ H E I hf st hg
    subst hP hw hK
    obtain ⟨xs, hq, hx⟩ := hg
    obtain ⟨its, rv, p, hz⟩ := I.list hq
    obtain ⟨f0, f1, f2, f3, f4, f5⟩ := hf it (by simp)
    have hl := rv.length
    exact wpAny_pyNext_list_end (I.ok.hd hc) st p.isList (by simp; omega) fun h' eb => ⟨rfl, I.turned (t' := s.toks) (fun b o hb e => eb b o hb e) f0 f1 f3 f4 f5⟩
  self := fun _ _ _ _ _ st h => wpAny_pyIter_listiter st h
theorem turn_range {P : Program} {w : World} {K : PySem.W.Frag} {tg : Expr} (it : Addr) (lo : Int) (n : Nat) : Turn P w K tg (Itr lo n) [it] it (fun i h => IsRangeIter h it (lo + (i : Nat) * 1) ((n : Int) - (i : Nat)) 1) where
  mem := by simp
  obj := fun i h st b hb => by
    have e : b = it := by simpa using hb
    subst e
    exact ⟨_, st, fun v z => by
      have z' : Data.fields _ = Data.cell v := z
      cases z'⟩
  keep := fun i h h' st k => k it (by simp) _ st
  item := by
    intro X hP hw hK hc i pins s σ H E I hf st hg
    subst hP hw hK
    obtain ⟨f0, f1, f2, f3, f4, f5⟩ := hf it (by simp)
    have W := Walks.range (prog := X.prog) (w := X.w) (I.ok.hd hc) it lo 1 n
    refine W.item i s _ _ hg st fun v h' tk hv st' kk => ?_
    obtain ⟨t, rfl⟩ := hv
    have I1 : Inv X pins σ H { s with heap := h', toks := tk } := I.turned (fun b o hb e => kk b o (by simpa using hb) e) f0 f1 f3 f4 f5
    refine ⟨_, rfl, go_of (s := { s with heap := h', toks := tk }) (n := "range_iterator") st' rfl rfl (by decide) ⟨.int (lo + i), H, I1, ⟨t, ?_⟩, ⟨rfl, rfl⟩, st', fun b hb => (hf b hb).1⟩⟩
    rw [Int.mul_one]
  done := by
    intro X hP hw hK hc i pins s σ H E I hf st hg
    subst hP hw hK
    obtain ⟨f0, f1, f2, f3, f4, f5⟩ := hf it (by simp)
    exact wpAny_pyNext_range_end (I.ok.hd hc) st (by have : n ≤ i := hg; omega) fun h' eb => ⟨rfl, I.turned (t' := s.toks) (fun b o hb e => eb b o hb e) f0 f1 f3 f4 f5⟩
  self := fun _ _ _ _ _ st h => wpAny_pyIter_rangeiter st h
end L2

namespace L2
open PySem PySem.Spec PyProof.Rows
section
variable {X : Cx} {tg : Expr}
noncomputable def iList (K : PySem.W.Frag) (tl : TE) : TI := fun σ H R => tl σ H fun x H1 => ∃ a, x = .ref a ∧ (∃ xs, SqL K H1 a xs) ∧ R (Itl K a) H1
theorem pi_list {l : Expr} {tl : TE} (hl : PE X l tl) : PI X tg l (iList X.K tl) := by
  intro pins s σ H R I h
  refine thn (hl pins s σ H _ I h) fun v s1 ⟨x, H1, I1, r1, q1⟩ => ?_
  obtain ⟨a, e, ⟨xs, hq⟩, q⟩ := q1
  subst e
  cases r1
  obtain ⟨its, rv, p, hz⟩ := I1.list hq
  refine wpAny_pyIter_list p.isList ?_
  refine ⟨s1.heap.objs.size, [s1.heap.objs.size], _, _, H1, rfl, I1.kept (t' := s1.toks) fun b o e => Heap.get?_push_of_some _ e, turn_list a _, ⟨_, Heap.get?_push_size _ rfl, rfl, rfl⟩, fun b hb => ?_, q⟩
  have e : b = s1.heap.objs.size := by simpa using hb
  subst e
  exact I1.fpOk (Nat.le_refl _) (I1.hok.fresh (Nat.le_refl _))
theorem range_it {pins : List (Addr × Obj)} {σ : St} {H : Hp} {s : Shared} {R : It → Hp → Prop} {E : Value → Shared → Prop} {lo hi : Int} {t u v : Tok} {tk : Nat} (I : Inv X pins σ H s) (h1 : -(2 ^ 62) ≤ lo) (h2 : lo < 2 ^ 62) (h3 : -(2 ^ 62) ≤ hi) (h4 : hi < 2 ^ 62)
    (q : R (Itr lo (hi - lo).toNat) H) : wpAny (model X.prog X.w) X.A (pyIter (.ref s.heap.objs.size)) (PIE X pins σ tg R) E { s with heap := s.heap.push { cls := .type "range", data := .fields #[.int lo t, .int hi u, .int 1 v] }, toks := tk } := by
  refine wpAny_pyIter_range (IsRange.new ..) (small_one h1 h2 h3 h4) ?_
  have I1 : Inv X pins σ H { s with heap := s.heap.push { cls := .type "range", data := .fields #[.int lo t, .int hi u, .int 1 v] }, toks := tk } := I.kept fun b o e => Heap.get?_push_of_some _ e
  refine ⟨(s.heap.push { cls := .type "range", data := .fields #[.int lo t, .int hi u, .int 1 v] }).objs.size, [(s.heap.push { cls := .type "range", data := .fields #[.int lo t, .int hi u, .int 1 v] }).objs.size], _, _, H, rfl,
    I1.kept (t' := tk) fun b o e => Heap.get?_push_of_some _ e, turn_range _ lo (hi - lo).toNat, ?_, fun b hb => ?_, q⟩
  · have e1 : lo + ((0 : Nat) : Int) * 1 = lo := by simp
    have e2 : (((hi - lo).toNat : Nat) : Int) - ((0 : Nat) : Int) = Builtin.Range.rangeSize lo hi 1 := by rw [rangeSize_one]; split <;> omega
    show IsRangeIter _ _ (lo + ((0 : Nat) : Int) * 1) ((((hi - lo).toNat : Nat) : Int) - ((0 : Nat) : Int)) 1
    rw [e1, e2]
    exact Heap.get?_push_size _ rfl
  · have e : b = (s.heap.push { cls := .type "range", data := .fields #[.int lo t, .int hi u, .int 1 v] }).objs.size := by simpa using hb
    subst e
    exact I1.fpOk (Nat.le_refl _) (I1.hok.fresh (Nat.le_refl _))
noncomputable def iRng1 (ta : TA) : TI := fun σ H R => ta σ H fun vs H1 => ∃ j : Int, vs = [.int j] ∧ -(2 ^ 62) ≤ j ∧ j < 2 ^ 62 ∧ R (Itr 0 j.toNat) H1
theorem pi_range1 {a : Expr} {ta : TA} {p pos : Pos} (hg : Gl X "range") (hm : X.mg "range" = none) (ha : PA X [a] ta) (hs : starEach [a] X.env = [(false, eval a X.env)] := by rfl) : PI X tg (.Call (.Name "range" p) [a] [] pos) (iRng1 ta) := by
  intro pins s σ H R I h
  refine Call_ (ld_blt I hg hm boot_range (PyProof.Rows.callWith_type1 (thn (ha pos pins s σ H _ I h) fun us s1 ⟨vs, H1, I1, r1, q1⟩ => ?_) hs rfl))
  obtain ⟨j, e, q1, q2, q⟩ := q1
  subst e
  cases r1 with
  | cons r rr =>
    cases rr
    obtain ⟨t, rfl⟩ := r
    exact call_range_1 (range_it I1 (by omega) (by omega) q1 q2 (by simpa using q))
noncomputable def tFor (wi : TI) (g : TG) (tb : TS) : TS := fun D σ H => wi σ H fun J H1 => ∃ W : Nat → Nat → St → Hp → Prop, (∃ m, W 0 m σ H1) ∧ ∀ i m σ H, W i m σ H →
  (J.stop i H ∧ D.nx σ H) ∨ (J.go i H ∧ ∃ N : St → Hp → Prop, (∀ σ' H', N σ' H' → ∃ m', m' < m ∧ W (i + 1) m' σ' H') ∧ ∀ x H', J.yld i H x H' → g x σ H' fun σ2 H2 => tb { D with nx := N, ct := N, bk := D.nx } σ2 H2)
noncomputable def pinsAt (fp : List Addr) (h : Heap) : List (Addr × Obj) := fp.filterMap fun b => (h.get? b).map fun o => (b, o)
theorem mem_pinsAt {fp : List Addr} {h : Heap} {b : Addr} {o : Obj} (hb : b ∈ fp) (e : h.get? b = some o) : (b, o) ∈ pinsAt fp h := List.mem_filterMap.mpr ⟨b, hb, by rw [e]; rfl⟩
theorem of_pinsAt {fp : List Addr} {h : Heap} {p : Addr × Obj} (hp : p ∈ pinsAt fp h) : p.1 ∈ fp ∧ h.get? p.1 = some p.2 := by
  obtain ⟨b, hb, e⟩ := List.mem_filterMap.mp hp
  cases q : h.get? b with
  | none => rw [q] at e; cases e
  | some o =>
    rw [q] at e
    have e' : (b, o) = p := Option.some.inj e
    subst e'
    exact ⟨hb, q⟩
theorem Inv.pinned {pins : List (Addr × Obj)} {σ : St} {H : Hp} {s : Shared} {fp : List Addr} (I : Inv X pins σ H s) (hf : ∀ b ∈ fp, FpOk X pins H b) (ho : ∀ b ∈ fp, ∃ o, s.heap.get? b = some o ∧ ∀ v, o.data ≠ .cell v) : Inv X (pins ++ pinsAt fp s.heap) σ H s :=
  I.pins_of fun p hp => (List.mem_append.mp hp).elim (fun z => I.pin p (List.mem_append_right _ z)) fun z => by
    obtain ⟨hb, e⟩ := of_pinsAt z
    obtain ⟨f0, f1, f2, _⟩ := hf p.1 hb
    obtain ⟨o, e', d⟩ := ho p.1 hb
    rw [e] at e'; cases e'
    exact ⟨e, f0, f1, f2, d⟩
theorem Inv.unpinned {pins pl : List (Addr × Obj)} {σ : St} {H : Hp} {s : Shared} (I : Inv X (pins ++ pl) σ H s) : Inv X pins σ H s := I.pins_of fun p hp => I.pin p (List.mem_append_right _ (List.mem_append_left _ hp))
theorem ps_for {iter : Expr} {body : List Stmt} {wi : TI} {g : TG} {tb : TS} {pos : Pos} (hp : PassesOwn (model X.prog X.w) X.A X.env X.xe) (hc : X.calm = true) (hi : PI X tg iter wi) (hg : PG X tg g) (hb : PSs X body tb)
    (hs : ∀ x, foldedSetIterable iter X.env x = pure x := by intro _; rfl) : PS X (.For tg iter body [] pos) (tFor wi g tb) := by
  intro pins s σ H D I h
  refine wpAny_For (thn (hi pins s σ H _ I h) fun v s1 h1 => thn h1 fun itv s2 h2 => ?_) hs
  obtain ⟨it, fp, tn, J, H2, e, I2, T, st2, f2, W, ⟨m0, w0⟩, turn⟩ := h2
  subst e
  -- what stays true of the iterator's objects through the loop
  have stat : ∀ {H' : Hp}, (∀ b ∈ fp, H' b = none) → ∀ b ∈ fp, FpOk X pins H' b := fun hn b hb => ⟨hn b hb, (f2 b hb).2⟩
  refine codeAny_forLoop_any (fun n s' => ∃ i σ' H', Inv X pins σ' H' s' ∧ tn i s'.heap ∧ (∀ b ∈ fp, H' b = none) ∧ W i n σ' H') ?_ m0 ⟨0, σ, H2, I2, st2, fun b hb => (f2 b hb).1, w0⟩
  rintro n s3 ⟨i, σ3, H3, I3, st3, fr3, w3⟩
  rcases turn i n σ3 H3 w3 with ⟨stop, qn⟩ | ⟨go, N, hN, step⟩
  · refine wpAny_passesOwn hp (thn (T.done X rfl rfl rfl hc i pins s3 σ3 H3 X.xe I3 (stat fr3) st3 stop) fun r s4 ⟨hr, I4⟩ => ?_)
    subst hr
    exact wpAny_execs_nil ⟨σ3, H3, I4, qn⟩
  · refine wpAny_passesOwn hp (thn (T.item X rfl rfl rfl hc i pins s3 σ3 H3 X.xe I3 (stat fr3) st3 go) fun r s4 ⟨u, hr, h4⟩ => ?_)
    subst hr
    refine wpAny_passesOwn hp (thn h4 fun _ s5 ⟨x, H5, I5, r5, y5, st5, fr5⟩ => ?_)
    have I5' := I5.pinned (stat fr5) (T.obj _ _ st5)
    refine wpAny_passesOwn hp (thn (hg _ s5 σ3 H5 x u _ I5' r5 (step x H5 y5)) fun _ s6 ⟨σ6, H6, I6, q6⟩ => ?_)
    refine wpAny_passesOwn hp (thn (hb _ s6 σ6 H6 _ I6 q6) fun f s7 q7 => ?_)
    have again : ∀ {σ7 : St} {H7 : Hp}, Inv X (pins ++ pinsAt fp s5.heap) σ7 H7 s7 → N σ7 H7 → ∃ m, m < n ∧ ∃ i σ' H', Inv X pins σ' H' s7 ∧ tn i s7.heap ∧ (∀ b ∈ fp, H' b = none) ∧ W i m σ' H' := fun {σ7 H7} I7 n7 => by
      obtain ⟨m', hm, w7⟩ := hN σ7 H7 n7
      refine ⟨m', hm, i + 1, σ7, H7, I7.unpinned, T.keep _ _ _ st5 fun b hb o e => (I7.pin (b, o) (List.mem_append_right _ (List.mem_append_right _ (mem_pinsAt hb e)))).1, fun b hb => ?_, w7⟩
      obtain ⟨o, e, d⟩ := T.obj _ _ st5 b hb
      exact (I7.pin (b, o) (List.mem_append_right _ (List.mem_append_right _ (mem_pinsAt hb e)))).2.1
    cases f with
    | next => obtain ⟨σ7, H7, I7, n7⟩ := q7; exact again I7 n7
    | cont => obtain ⟨σ7, H7, I7, n7⟩ := q7; exact again I7 n7
    | brk => obtain ⟨σ7, H7, I7, q7⟩ := q7; exact ⟨σ7, H7, I7.unpinned, q7⟩
    | ret v => obtain ⟨x7, σ7, H7, I7, r7, q7⟩ := q7; exact ⟨x7, σ7, H7, I7.unpinned, r7, q7⟩
end

theorem for_list {K : PySem.W.Frag} {a : Addr} {xs : List V} {g : TG} {tb : TS} {D : Ends} {σ : St} {H : Hp} (Pv : Nat → St → Hp → Prop) (h0 : Pv 0 σ H) (hl : ∀ i σ H, i ≤ xs.length → Pv i σ H → SqL K H a xs)
    (hs : ∀ i x σ H, xs[i]? = some x → Pv i σ H → g x σ H fun σ2 H2 => tb { D with nx := Pv (i + 1), ct := Pv (i + 1), bk := D.nx } σ2 H2) (hd : ∀ σ H, Pv xs.length σ H → D.nx σ H) :
    ∃ W : Nat → Nat → St → Hp → Prop, (∃ m, W 0 m σ H) ∧ ∀ i m σ H, W i m σ H →
      ((Itl K a).stop i H ∧ D.nx σ H) ∨ ((Itl K a).go i H ∧ ∃ N : St → Hp → Prop, (∀ σ' H', N σ' H' → ∃ m', m' < m ∧ W (i + 1) m' σ' H') ∧ ∀ x H', (Itl K a).yld i H x H' → g x σ H' fun σ2 H2 => tb { D with nx := N, ct := N, bk := D.nx } σ2 H2) := by
  refine ⟨fun i m σ H => m = xs.length - i ∧ i ≤ xs.length ∧ Pv i σ H, ⟨xs.length, by simp, Nat.zero_le _, h0⟩, ?_⟩
  rintro i m σ H ⟨rfl, hi, p⟩
  have q := hl i σ H hi p
  by_cases hlt : i < xs.length
  · refine .inr ⟨⟨xs, xs[i], q, by simp [hlt]⟩, Pv (i + 1), fun σ' H' p' => ⟨xs.length - (i + 1), by omega, rfl, hlt, p'⟩, fun x H' y => ?_⟩
    obtain ⟨e, y⟩ := y
    subst e
    exact hs i x σ _ (y xs q) p
  · have e : i = xs.length := by omega
    subst e
    exact .inl ⟨⟨xs, q, Nat.le_refl _⟩, hd σ H p⟩
theorem for_range {lo : Int} {n : Nat} {g : TG} {tb : TS} {D : Ends} {σ : St} {H : Hp} (Pv : Nat → St → Hp → Prop) (h0 : Pv 0 σ H)
    (hs : ∀ i σ H, i < n → Pv i σ H → g (.int (lo + i)) σ H fun σ2 H2 => tb { D with nx := Pv (i + 1), ct := Pv (i + 1), bk := D.nx } σ2 H2) (hd : ∀ σ H, Pv n σ H → D.nx σ H) :
    ∃ W : Nat → Nat → St → Hp → Prop, (∃ m, W 0 m σ H) ∧ ∀ i m σ H, W i m σ H →
      ((Itr lo n).stop i H ∧ D.nx σ H) ∨ ((Itr lo n).go i H ∧ ∃ N : St → Hp → Prop, (∀ σ' H', N σ' H' → ∃ m', m' < m ∧ W (i + 1) m' σ' H') ∧ ∀ x H', (Itr lo n).yld i H x H' → g x σ H' fun σ2 H2 => tb { D with nx := N, ct := N, bk := D.nx } σ2 H2) := by
  refine ⟨fun i m σ H => m = n - i ∧ i ≤ n ∧ Pv i σ H, ⟨n, by simp, Nat.zero_le _, h0⟩, ?_⟩
  rintro i m σ H ⟨rfl, hi, p⟩
  by_cases hlt : i < n
  · refine .inr ⟨hlt, Pv (i + 1), fun σ' H' p' => ⟨n - (i + 1), by omega, rfl, hlt, p'⟩, fun x H' y => ?_⟩
    obtain ⟨e, y⟩ := y
    subst e y
    exact hs i σ _ hlt p
  · have e : i = n := by omega
    subst e
    exact .inl ⟨Nat.le_refl _, hd σ H p⟩
end L2

namespace L2
open PySem PySem.Spec PyProof.Rows

noncomputable abbrev R2 := V → V → Hp → VK → Prop
noncomputable def OpR (X : Cx) (f : Value → Value → Sem Value) (r : R2) : Prop :=
  ∀ (pins : List (Addr × Obj)) (s : Shared) (σ : St) (H : Hp) (x y : V) (v u : Value) (Q : VK), Inv X pins σ H s → RelV x v → RelV y u → r x y H Q →
    wpAny (model X.prog X.w) X.A (f v u) (EP X pins σ Q) X.xe s
noncomputable def UnR (X : Cx) (f : Value → Sem Value) (r : V → Hp → VK → Prop) : Prop :=
  ∀ (pins : List (Addr × Obj)) (s : Shared) (σ : St) (H : Hp) (x : V) (v : Value) (Q : VK), Inv X pins σ H s → RelV x v → r x H Q →
    wpAny (model X.prog X.w) X.A (f v) (EP X pins σ Q) X.xe s
noncomputable def CallR (X : Cx) (f : Value) (r : List V → Hp → VK → Prop) : Prop :=
  ∀ (pins : List (Addr × Obj)) (s : Shared) (σ : St) (H : Hp) (xs : List V) (us : List Value) (Q : VK), Inv X pins σ H s → Vals xs us → r xs H Q →
    wpAny (model X.prog X.w) X.A (call f us) (EP X pins σ Q) X.xe s
noncomputable def tOp (r : R2) (ta tb : TE) : TE := fun σ H Q => ta σ H fun x H1 => tb σ H1 fun y H2 => r x y H2 Q
noncomputable def tUn (r : V → Hp → VK → Prop) (ta : TE) : TE := fun σ H Q => ta σ H fun x H1 => r x H1 Q
noncomputable def rI (C : Int → Int → Prop) (g : Int → Int → V) : R2 := fun x y H Q => ∃ i j, x = .int i ∧ y = .int j ∧ C i j ∧ Q (g i j) H
noncomputable def rI0 (g : Int → Int → V) : R2 := fun x y H Q => ∃ i j, x = .int i ∧ y = .int j ∧ Q (g i j) H
noncomputable def rU (g : Int → V) : V → Hp → VK → Prop := fun x H Q => ∃ i, x = .int i ∧ Q (g i) H

section
variable {X : Cx} {a b c : Expr} {ta tb tc : TE} {pos : Pos}

theorem binT (ha : PE X a ta) (hb : PE X b tb) {pins : List (Addr × Obj)} {s : Shared} {σ : St} {H : Hp} {R : V → V → Hp → Prop} (I : Inv X pins σ H s)
    (h : ta σ H fun x H1 => tb σ H1 fun y H2 => R x y H2) {Q : Value → Shared → Prop} {f : Value → Value → Sem Value}
    (hf : ∀ v u s2 x y H2, Inv X pins σ H2 s2 → RelV x v → RelV y u → R x y H2 → wpAny (model X.prog X.w) X.A (f v u) Q X.xe s2) :
    wpAny (model X.prog X.w) X.A (eval a X.env) (fun v s₁ => wpAny (model X.prog X.w) X.A (eval b X.env) (fun u s₂ => wpAny (model X.prog X.w) X.A (f v u) Q X.xe s₂) X.xe s₁) X.xe s := by
  refine thn (ha pins s σ H _ I h) fun v s1 ⟨x, H1, I1, r1, q1⟩ => ?_
  refine thn (hb pins s1 σ H1 _ I1 q1) fun u s2 ⟨y, H2, I2, r2, q2⟩ => ?_
  exact hf v u s2 x y H2 I2 r1 r2 q2

theorem pe_op {op : Operator} {r : R2} (ho : OpR X (binaryOp op) r) (ha : PE X a ta) (hb : PE X b tb) : PE X (.BinOp a op b pos) (tOp r ta tb) := by
  intro pins s σ H Q I h
  exact wpAny_BinOp (binT ha hb I h fun v u s2 x y H2 I2 rx ry q => ho pins s2 σ H2 x y v u Q I2 rx ry q)
theorem pe_un {op : UnaryOp} {r : V → Hp → VK → Prop} (ho : UnR X (unaryOp op) r) (ha : PE X a ta) : PE X (.UnaryOp op a pos) (tUn r ta) := by
  intro pins s σ H Q I h
  exact UnaryOp_ (thn (ha pins s σ H _ I h) fun v s1 ⟨x, H1, I1, r1, q1⟩ => ho pins s1 σ H1 x v Q I1 r1 q1)
theorem opI {f : Value → Value → Sem Value} {C : Int → Int → Prop} {g : Int → Int → Int}
    (rule : ∀ (i j : Int) (t u : Tok) (s : Shared) (Q : Value → Shared → Prop) (E : Value → Shared → Prop), C i j → Q (.int (g i j) s.toks) { s with toks := s.toks + 1 } → wpAny (model X.prog X.w) X.A (f (.int i t) (.int j u)) Q E s) :
    OpR X f (rI C fun i j => .int (g i j)) := by
  intro pins s σ H x y v u Q I rx ry h
  obtain ⟨i, j, rfl, rfl, hc, q⟩ := h
  obtain ⟨t, rfl⟩ := rx
  obtain ⟨t', rfl⟩ := ry
  exact rule i j t t' s _ _ hc ⟨.int (g i j), H, I.tok _, ⟨_, rfl⟩, q⟩
theorem opI0 {f : Value → Value → Sem Value} {g : Int → Int → Int}
    (rule : ∀ (i j : Int) (t u : Tok) (s : Shared) (Q : Value → Shared → Prop) (E : Value → Shared → Prop), Q (.int (g i j) s.toks) { s with toks := s.toks + 1 } → wpAny (model X.prog X.w) X.A (f (.int i t) (.int j u)) Q E s) :
    OpR X f (rI0 fun i j => .int (g i j)) := by
  intro pins s σ H x y v u Q I rx ry h
  obtain ⟨i, j, rfl, rfl, q⟩ := h
  obtain ⟨t, rfl⟩ := rx
  obtain ⟨t', rfl⟩ := ry
  exact rule i j t t' s _ _ ⟨.int (g i j), H, I.tok _, ⟨_, rfl⟩, q⟩
theorem opB0 {f : Value → Value → Sem Value} {g : Int → Int → Bool}
    (rule : ∀ (i j : Int) (t u : Tok) (s : Shared) (Q : Value → Shared → Prop) (E : Value → Shared → Prop), Q (.bool (g i j)) s → wpAny (model X.prog X.w) X.A (f (.int i t) (.int j u)) Q E s) :
    OpR X f (rI0 fun i j => .bl (g i j)) := by
  intro pins s σ H x y v u Q I rx ry h
  obtain ⟨i, j, rfl, rfl, q⟩ := h
  obtain ⟨t, rfl⟩ := rx
  obtain ⟨t', rfl⟩ := ry
  exact rule i j t t' s _ _ ⟨.bl (g i j), H, I, rfl, q⟩

noncomputable def CDiv (i j : Int) : Prop := 0 < j ∧ j < 1073741824
noncomputable def CMul (i j : Int) : Prop := (-(2 ^ 64) < i ∧ i < 2 ^ 64) ∨ (-(2 ^ 64) < j ∧ j < 2 ^ 64)
theorem CMul.ok {i j : Int} (h : CMul i j) : IntMulOk i j := by
  rcases h with ⟨h1, h2⟩ | ⟨h1, h2⟩
  · exact .of_left (intBits_le_64 h1 h2)
  · exact .of_right (intBits_le_64 h1 h2)
theorem op_add : OpR X (binaryOp .Add) (rI0 fun i j => .int (i + j)) := opI0 fun _ _ _ _ _ _ _ q => add_int q
theorem op_sub : OpR X (binaryOp .Sub) (rI0 fun i j => .int (i - j)) := opI0 fun _ _ _ _ _ _ _ q => sub_int q
theorem op_mul : OpR X (binaryOp .Mult) (rI CMul fun i j => .int (i * j)) := opI fun _ _ _ _ _ _ _ hc q => mul_int q hc.ok
theorem op_fdiv : OpR X (binaryOp .FloorDiv) (rI CDiv fun i j => .int (i / j)) := opI fun i j _ _ _ _ _ hc q => by
  have h1 : (0 : Int) < j := hc.1
  have h2 : j < 1073741824 := hc.2
  exact floordiv_int (by omega) (by rw [Int.fdiv_eq_ediv_of_nonneg i (by omega)]; exact q) (.inl (PyProof.noPylong_small (by omega)))
theorem op_mod : OpR X (binaryOp .Mod) (rI (fun _ j => 0 < j) fun i j => .int (i % j)) := opI fun i j _ _ _ _ _ hc q => by
  have h1 : (0 : Int) < j := hc
  exact mod_int' (by omega) (by rw [Int.fmod_eq_emod_of_nonneg i (by omega)]; exact q)
theorem unI {f : Value → Sem Value} {g : Int → Int}
    (rule : ∀ (i : Int) (t : Tok) (s : Shared) (Q : Value → Shared → Prop) (E : Value → Shared → Prop), Q (.int (g i) s.toks) { s with toks := s.toks + 1 } → wpAny (model X.prog X.w) X.A (f (.int i t)) Q E s) :
    UnR X f (rU fun i => .int (g i)) := by
  intro pins s σ H x v Q I rx h
  obtain ⟨i, rfl, q⟩ := h
  obtain ⟨t, rfl⟩ := rx
  exact rule i t s _ _ ⟨.int (g i), H, I.tok _, ⟨_, rfl⟩, q⟩
theorem un_neg : UnR X (unaryOp .USub) (rU fun i => .int (-i)) := unI fun _ _ _ _ _ q => neg_int q
end

noncomputable def scal : V → V → Bool
  | .non, .non => true | .non, .int _ => true | .int _, .non => true | .non, .bl _ => true | .bl _, .non => true | .non, .str _ => true | .str _, .non => true
  | .int _, .int _ => true | .bl _, .bl _ => true | .str _, .str _ => true | .byt _, .byt _ => true
  | .int _, .str _ => true | .str _, .int _ => true | .bl _, .str _ => true | .str _, .bl _ => true
  | _, _ => false
noncomputable def rEq : R2 := fun x y H Q => scal x y = true ∧ Q (.bl (decide (x = y))) H
noncomputable def rNe : R2 := fun x y H Q => scal x y = true ∧ Q (.bl (!decide (x = y))) H

theorem dec_int {i j : Int} : decide (V.int i = V.int j) = (i == j) := by
  rw [Bool.eq_iff_iff]
  simp
theorem dec_bl {i j : Bool} : decide (V.bl i = V.bl j) = (i == j) := by
  rw [Bool.eq_iff_iff]
  simp
theorem dec_str {i j : Str} : decide (V.str i = V.str j) = (i == j) := by
  rw [Bool.eq_iff_iff]
  simp
theorem dec_byt {i j : Array UInt8} : decide (V.byt i = V.byt j) = (i.toList == j.toList) := by
  rw [Bool.eq_iff_iff]
  cases i
  cases j
  simp

section
variable {X : Cx} {a b c : Expr} {ta tb tc : TE} {pos : Pos}
theorem fin_bl {pins : List (Addr × Obj)} {σ : St} {H : Hp} {s : Shared} {Q : VK} {k k' : Bool} (I : Inv X pins σ H s) (q : Q (.bl k) H) (e : k = k') : EP X pins σ Q (.bool k') s := by
  subst e
  exact ⟨.bl k, H, I, rfl, q⟩
theorem op_eq : OpR X (compareOp .Eq) rEq := by
  intro pins s σ H x y v u Q I rx ry h
  obtain ⟨hs, q⟩ := h
  cases x with
  | non =>
    cases rx
    cases y with
    | non => cases ry; exact PySem.EqNone.eq_none_none (fin_bl I q (by simp))
    | bl j => cases ry; exact PySem.EqNone.eq_none_bool (fin_bl I q (by simp))
    | int j => obtain ⟨t', rfl⟩ := ry; exact PySem.EqNone.eq_none_int (fin_bl I q (by simp))
    | str j => obtain ⟨t', rfl⟩ := ry; exact PySem.EqNone.eq_none_str (fin_bl I q (by simp))
    | _ => exact absurd (show false = true from hs) Bool.false_ne_true
  | bl i =>
    cases rx
    cases y with
    | non => cases ry; exact PySem.EqNone.eq_bool_none (fin_bl I q (by simp))
    | bl j => cases ry; exact eq_bool (fin_bl I q dec_bl)
    | str j => obtain ⟨t', rfl⟩ := ry; exact PySem.EqMixed.eq_bool_str (fin_bl I q (by simp))
    | _ => exact absurd (show false = true from hs) Bool.false_ne_true
  | int i =>
    obtain ⟨t, rfl⟩ := rx
    cases y with
    | non => cases ry; exact PySem.EqNone.eq_int_none (fin_bl I q (by simp))
    | int j => obtain ⟨t', rfl⟩ := ry; exact eq_int (fin_bl I q dec_int)
    | str j => obtain ⟨t', rfl⟩ := ry; exact PySem.EqMixed.eq_int_str (fin_bl I q (by simp))
    | _ => exact absurd (show false = true from hs) Bool.false_ne_true
  | str i =>
    obtain ⟨t, rfl⟩ := rx
    cases y with
    | non => cases ry; exact PySem.EqNone.eq_str_none (fin_bl I q (by simp))
    | bl j => cases ry; exact PySem.EqMixed.eq_str_bool (fin_bl I q (by simp))
    | int j => obtain ⟨t', rfl⟩ := ry; exact PySem.EqMixed.eq_str_int (fin_bl I q (by simp))
    | str j => obtain ⟨t', rfl⟩ := ry; exact eq_str (fin_bl I q dec_str)
    | _ => exact absurd (show false = true from hs) Bool.false_ne_true
  | byt i =>
    obtain ⟨t, rfl⟩ := rx
    cases y with
    | byt j => obtain ⟨t', rfl⟩ := ry; exact PySem.W.eq_bytes (fin_bl I q dec_byt)
    | _ => exact absurd (show false = true from hs) Bool.false_ne_true
  | _ => cases y <;> exact absurd (show false = true from hs) Bool.false_ne_true
theorem op_ne : OpR X (compareOp .NotEq) rNe := by
  intro pins s σ H x y v u Q I rx ry h
  obtain ⟨hs, q⟩ := h
  cases x with
  | non =>
    cases rx
    cases y with
    | non => cases ry; exact PySem.EqNone.ne_none_none (fin_bl I q (by simp))
    | bl j => cases ry; exact PySem.EqNone.ne_none_bool (fin_bl I q (by simp))
    | int j => obtain ⟨t', rfl⟩ := ry; exact PySem.EqNone.ne_none_int (fin_bl I q (by simp))
    | str j => obtain ⟨t', rfl⟩ := ry; exact PySem.EqNone.ne_none_str (fin_bl I q (by simp))
    | _ => exact absurd (show false = true from hs) Bool.false_ne_true
  | bl i =>
    cases rx
    cases y with
    | non => cases ry; exact PySem.EqNone.ne_bool_none (fin_bl I q (by simp))
    | bl j => cases ry; exact ne_bool (fin_bl I q (congrArg not dec_bl))
    | str j => obtain ⟨t', rfl⟩ := ry; exact PySem.EqMixed.ne_bool_str (fin_bl I q (by simp))
    | _ => exact absurd (show false = true from hs) Bool.false_ne_true
  | int i =>
    obtain ⟨t, rfl⟩ := rx
    cases y with
    | non => cases ry; exact PySem.EqNone.ne_int_none (fin_bl I q (by simp))
    | int j => obtain ⟨t', rfl⟩ := ry; exact ne_int (fin_bl I q (congrArg not dec_int))
    | str j => obtain ⟨t', rfl⟩ := ry; exact PySem.EqMixed.ne_int_str (fin_bl I q (by simp))
    | _ => exact absurd (show false = true from hs) Bool.false_ne_true
  | str i =>
    obtain ⟨t, rfl⟩ := rx
    cases y with
    | non => cases ry; exact PySem.EqNone.ne_str_none (fin_bl I q (by simp))
    | bl j => cases ry; exact PySem.EqMixed.ne_str_bool (fin_bl I q (by simp))
    | int j => obtain ⟨t', rfl⟩ := ry; exact PySem.EqMixed.ne_str_int (fin_bl I q (by simp))
    | str j => obtain ⟨t', rfl⟩ := ry; exact ne_str (fin_bl I q (congrArg not dec_str))
    | _ => exact absurd (show false = true from hs) Bool.false_ne_true
  | byt i =>
    obtain ⟨t, rfl⟩ := rx
    cases y with
    | byt j => obtain ⟨t', rfl⟩ := ry; exact PySem.W.ne_bytes (fin_bl I q (congrArg not dec_byt))
    | _ => exact absurd (show false = true from hs) Bool.false_ne_true
  | _ => cases y <;> exact absurd (show false = true from hs) Bool.false_ne_true

theorem op_lt : OpR X (compareOp .Lt) (rI0 fun i j => .bl (decide (i < j))) := opB0 fun _ _ _ _ _ _ _ q => lt_int q
theorem op_le : OpR X (compareOp .LtE) (rI0 fun i j => .bl (decide (i ≤ j))) := opB0 fun _ _ _ _ _ _ _ q => le_int q
theorem op_gt : OpR X (compareOp .Gt) (rI0 fun i j => .bl (decide (j < i))) := opB0 fun _ _ _ _ _ _ _ q => gt_int q
theorem op_ge : OpR X (compareOp .GtE) (rI0 fun i j => .bl (decide (j ≤ i))) := opB0 fun _ _ _ _ _ _ _ q => ge_int q
theorem op_isN : OpR X (compareOp .Is) (fun x y H Q => y = .non ∧ Q (.bl (decide (x = .non))) H) := by
  intro pins s σ H x y v u Q I rx ry h
  obtain ⟨rfl, q⟩ := h
  cases ry
  refine is_none_gen (fin_bl I q ?_)
  cases x <;> first
    | (cases rx; rfl)
    | (obtain ⟨t, rfl⟩ := rx; rfl)
theorem nomark (b : Expr) {op : CmpOp} (h : op ≠ .In := by decide) (h2 : op ≠ .NotIn := by decide) : behindInMarks op b = false := by
  have e1 : (op == CmpOp.In) = false := by cases op <;> first | rfl | exact absurd rfl h
  have e2 : (op == CmpOp.NotIn) = false := by cases op <;> first | rfl | exact absurd rfl h2
  cases b <;> simp [behindInMarks, e1, e2]
theorem pe_cmpR {op : CmpOp} {r : R2} (ho : OpR X (compareOp op) r) (ha : PE X a ta) (hb : PE X b tb) (hm : behindInMarks op b = false) : PE X (.Compare a [op] [b] pos) (tOp r ta tb) := by
  intro pins s σ H Q I h
  exact wpAny_Compare1 (binT ha hb I h fun v u s2 x y H2 I2 rx ry q => ho pins s2 σ H2 x y v u Q I2 rx ry q) hm
noncomputable def tTest (t : TE) : TT := fun σ H Q => t σ H fun x H' => ∃ k, x = .bl k ∧ Q k H'
theorem pt_cmpR {op : CmpOp} {r : R2} (ho : OpR X (compareOp op) r) (ha : PE X a ta) (hb : PE X b tb) (hm : behindInMarks op b = false) : PT X (.Compare a [op] [b] pos) (tTest (tOp r ta tb)) := by
  intro pins s σ H Q I h
  refine wpAny_isTrue_Compare1 (thn (ha pins s σ H _ I h) fun v s1 ⟨x, H1, I1, r1, q1⟩ => thn (hb pins s1 σ H1 _ I1 q1) fun u s2 ⟨y, H2, I2, r2, q2⟩ =>
    thn (ho pins s2 σ H2 x y v u _ I2 r1 r2 q2) fun c s3 ⟨z, H3, I3, r3, k, e, q3⟩ => ?_) hm
  subst e
  cases r3
  exact wpAny_truthy_bool ⟨H3, I3, q3⟩
noncomputable def tChain (r r' : R2) (ta tb tc : TE) : TE := fun σ H Q => ta σ H fun x H1 => tb σ H1 fun y H2 => r x y H2 fun z H3 => ∃ k, z = .bl k ∧
  (if k = true then tc σ H3 fun w' H4 => r' y w' H4 Q else Q (.bl false) H3)
theorem pe_chain {op op' : CmpOp} {r r' : R2} (ho : OpR X (compareOp op) r) (ho' : OpR X (compareOp op') r') (ha : PE X a ta) (hb : PE X b tb) (hc : PE X c tc)
    (hm : lastMarks [op, op'] [b, c] = false := by with_unfolding_all rfl) : PE X (.Compare a [op, op'] [b, c] pos) (tChain r r' ta tb tc) := by
  intro pins s σ H Q I h
  refine Compare_chain (thn (ha pins s σ H _ I h) fun v s1 ⟨x, H1, I1, r1, q1⟩ => chain_link (thn (hb pins s1 σ H1 _ I1 q1) fun u s2 ⟨y, H2, I2, r2, q2⟩ =>
    thn (ho pins s2 σ H2 x y v u _ I2 r1 r2 q2) fun d s3 ⟨z, H3, I3, r3, k, e, q3⟩ => ?_)) hm
  subst e
  cases r3
  refine wpAny_truthy_bool ?_
  cases k with
  | false => exact ite_ff ⟨.bl false, H3, I3, rfl, q3⟩
  | true => exact ite_tt (chain_last (thn (hc pins s3 σ H3 _ I3 q3) fun w' s4 ⟨z', H4, I4, r4, q4⟩ => ho' pins s4 σ H4 y z' u w' Q I4 r2 r4 q4))
theorem line63 : (sizeLine : Nat) < 2 ^ 63 := by rw [sizeLine_eq]; decide
theorem vals1 {x : V} {us : List Value} (r : Vals [x] us) : ∃ u, us = [u] ∧ RelV x u := by
  cases r with
  | cons r1 r2 => cases r2; exact ⟨_, rfl, r1⟩
theorem vals2 {x y : V} {us : List Value} (r : Vals [x, y] us) : ∃ u w', us = [u, w'] ∧ RelV x u ∧ RelV y w' := by
  cases r with
  | cons r1 r2 =>
    cases r2 with
    | cons r3 r4 => cases r4; exact ⟨_, _, rfl, r1, r3⟩
theorem call_abs : CallR X (.builtin "abs") (fun xs H Q => ∃ i, xs = [.int i] ∧ Q (.int (if i < 0 then -i else i)) H) := by
  intro pins s σ H xs us Q I r h
  obtain ⟨i, rfl, q⟩ := h
  obtain ⟨u, rfl, t, rfl⟩ := vals1 r
  exact call_abs_int fun u tk => ⟨.int (if i < 0 then -i else i), H, I.tok _, ⟨_, rfl⟩, q⟩
theorem call_min2 (hc : X.calm = true) : CallR X (.builtin "min") (fun xs H Q => ∃ i j, xs = [.int i, .int j] ∧ Q (.int (if j < i then j else i)) H) := by
  intro pins s σ H xs us Q I r h
  obtain ⟨i, j, rfl, q⟩ := h
  obtain ⟨u, w', rfl, ⟨t, rfl⟩, ⟨t', rfl⟩⟩ := vals2 r
  refine min_two_ints (I.ok.hd hc) fun h' tk k => ⟨_, H, I.kept k, ?_, q⟩
  by_cases hj : j < i
  · rw [if_pos hj, if_pos hj]; exact ⟨_, rfl⟩
  · rw [if_neg hj, if_neg hj]; exact ⟨_, rfl⟩
end
end L2

namespace L2
open PySem PySem.Spec PyProof.Rows

structure ObjM (h : Heap) (x dx C : Addr) (mA : Str → Option Value) : Prop where
  obj : h.get? x = some (PySem.W.instObj C dx)
  ns : h.Ns1 dx mA
  ne : dx ≠ x

theorem lookIn_ns {h : Heap} {dx : Addr} {mA : Str → Option Value} (n : h.Ns1 dx mA) : ∃ od, h.get? dx = some od ∧ ∀ name, PySem.W.lookIn name od = some (mA name) := by
  obtain ⟨o, es, ep, ho, hd, hk, _, hm⟩ := n
  refine ⟨o, ho, fun name => ?_⟩
  have e := hm name
  unfold nsFind findBy at e
  rw [← Array.find?_toList] at e
  unfold PySem.W.lookIn
  rw [hd]
  dsimp only
  split
  · rename_i y q
    rw [q] at e
    exact congrArg some e
  · rename_i q
    rw [q] at e
    have a : es.toList.any (·.refKey) = false := by
      rw [List.any_eq_false]
      intro y hy
      obtain ⟨z, t, hkey⟩ := hk y (Array.mem_toList_iff.mp hy)
      simp [DictEntry.refKey, hkey]
    have a' : ¬ es.toList.any (·.refKey) = true := by rw [a]; exact Bool.false_ne_true
    rw [if_neg a']
    exact congrArg some e

theorem ObjM.look {h : Heap} {x dx C : Addr} {mA : Str → Option Value} (I : ObjM h x dx C mA) : ∃ od, PySem.W.InstAt h x (PySem.W.instObj C dx) C (some od) ∧ ∀ name, PySem.W.lookIn name od = some (mA name) :=
  let ⟨od, ho, hl⟩ := lookIn_ns I.ns
  ⟨od, ⟨I.obj, rfl, rfl, ho⟩, hl⟩

section
variable {prog : Program} {w : World} {A : Around} {E : Value → Shared → Prop} {s : Shared} {K : PySem.W.Frag} {x dx C f : Addr} {mA : Str → Option Value} {name : Str} {v : Value}

theorem get_map {expr : Bool} {Q : Value → Shared → Prop} (X : K.In s.heap) (I : ObjM s.heap x dx C mA) (hg : PySem.W.plainGet K C name = true) (hh : PySem.W.hasDictIn K C = true)
    (ha : PySem.W.findIn K (.ref C) name = some none) (hv : mA name = some v) (hv' : PySem.W.handedIn v = true) (h : Q v { s with toks := s.toks + 1 }) :
    wpAny (model prog w) A (getAttr (.ref x) name expr) Q E s := by
  obtain ⟨od, J, hl⟩ := I.look
  exact PySem.W.get_value X J (PySem.W.plainGet_of hg).1 (PySem.W.findObj_own hh ha rfl (by rw [hl, hv])) hv' h

theorem get_meth {pl : Sem Bool} {Q : Value × List Value → Shared → Prop} (X : K.In s.heap) (I : ObjM s.heap x dx C mA) (hg : PySem.W.plainGet K C name = true)
    (hf : PySem.W.findIn K (.ref C) name = some (some (.ref f))) (ht : PySem.W.isFn K (.ref f) = true) (hv : mA name = none) (h : Q (.ref f, [.ref x]) s) :
    wpAny (model prog w) A (getMethod (.ref x) name pl) Q E s := by
  obtain ⟨od, J, hl⟩ := I.look
  exact PySem.W.method_fn X J (PySem.W.plainGet_of hg).1 (PySem.W.plainGet_of hg).2 hf (beq_iff_eq.mp ht) (by show (PySem.W.lookIn name od).map (·.isSome) = some false; rw [hl, hv]; rfl) h

theorem set_map {ns : List Str} {Q : Unit → Shared → Prop} (X : K.In s.heap) (I : ObjM s.heap x dx C mA)
    (hs : PySem.W.findIn K (.ref C) "__setattr__" = some (some (.builtin "object.__setattr__"))) (hp : PySem.W.plainOver K C = true) (ht : PySem.W.takerIn K C name = some none) (hh : PySem.W.hasDictIn K C = true)
    (hw : PySem.Within mA ns) (hsz : ns.length ≤ sizeLine)
    (h : ∀ h', ObjM h' x dx C (fun y => if y = name then some v else mA y) → Heap.SameBut dx s.heap h' → Q () { s with heap := h', toks := s.toks + 2 }) :
    wpAny (model prog w) A (setAttr (.ref x) name v) Q E s := by
  obtain ⟨od, J, hl⟩ := I.look
  refine PySem.W.set_plain X J hs (PySem.W.osa_open (s := { s with toks := s.toks + 1 }) (r := none) X J hp ht fun b => ?_)
  obtain ⟨cd, hc, hd'⟩ := PySem.W.any_some hh
  have hx : s.heap.get? x = some ⟨.ref C, some dx, .plain, #[]⟩ := I.obj
  refine wpAny_bind (wpAny_pure (wpAny_bind (wpAny_bind (wpAny_loadPart hx (wpAny_bind (PySem.W.Looks.here (s := { s with toks := s.toks + 1 }) (PySem.W.looks_clsIn X hc) ?_))))))
  rw [hd']
  refine wpAny_pure (a := some dx) (wpAny_bind (wpAny_pure (wpAny_bind ?_)))
  refine wpAny_nsSet1 (s := { s with toks := s.toks + 1 }) I.ns fun h' hn2 hs2 => ?_
  obtain ⟨oD, esD, epD, hoD, hdD, hcD⟩ := hn2.count (PySem.Within.cons name v hw)
  refine wpAny_bind (wpAny_lookBehind hoD (by rw [hdD]; exact pastItsLine_dict (Nat.le_trans hcD (by rw [List.length_cons]; omega))) ?_)
  exact wpAny_pure (h _ ⟨(hs2.2 _ (Ne.symm I.ne)).trans I.obj, hn2, I.ne⟩ hs2)

theorem make_map {R : Result → Shared → Prop} {vs : List Value} {kw : List (Str × Value)} (X : K.In s.heap) (hm : PySem.W.makesIn K C = true)
    (hi : PySem.W.findIn K (.ref C) "__init__" = some (some (.ref f))) (hf : PySem.W.typeIn K (.ref f) = some (.type "function"))
    (h : codeAny (model prog w) (A.under (.builtin "type.__call__" ⟨.ref C :: vs, kw⟩)) (.call (.ref f) ⟨.ref (s.heap.objs.size + 1) :: vs, kw⟩) (PySem.W.InitBack (s.heap.objs.size + 1) R)
      { s with heap := (s.heap.push PySem.W.emptyDict).push (PySem.W.instObj C s.heap.objs.size) }) :
    codeAny (model prog w) A (.call (.ref C) ⟨vs, kw⟩) R s := by
  obtain ⟨hh, g, d, t, os⟩ := s
  exact PySem.W.make_core (PySem.W.makes_of X hm) (PySem.W.looks_findIn X hi) (fun self => PySem.W.bind_fn X self hf) (.inl rfl) h
end

noncomputable def putF (f : Str) (v : V) : List (Str × V) → List (Str × V)
  | [] => [(f, v)]
  | (g, x) :: r => if g = f then (g, v) :: r else (g, x) :: putF f v r
theorem lookup_putF (f g : Str) (v : V) : ∀ fs : List (Str × V), (putF f v fs).lookup g = if g = f then some v else fs.lookup g
  | [] => by
    show List.lookup g [(f, v)] = _
    by_cases h : g = f
    · have hb : (g == f) = true := beq_iff_eq.mpr h
      simp only [List.lookup, hb, if_pos h]
    · have hb : (g == f) = false := beq_eq_false_iff_ne.mpr h
      simp only [List.lookup, hb, if_neg h]
  | (k, x) :: r => by
    have ih := lookup_putF f g v r
    rw [show putF f v ((k, x) :: r) = (if k = f then (k, v) :: r else (k, x) :: putF f v r) from rfl]
    by_cases hk : k = f
    · rw [if_pos hk]
      by_cases h : g = k
      · have hb : (g == k) = true := beq_iff_eq.mpr h
        simp only [List.lookup, hb, if_pos (h.trans hk)]
      · have hb : (g == k) = false := beq_eq_false_iff_ne.mpr h
        simp only [List.lookup, hb, if_neg (fun e : g = f => h (e.trans hk.symm))]
    · rw [if_neg hk]
      by_cases h : g = k
      · have hb : (g == k) = true := beq_iff_eq.mpr h
        simp only [List.lookup, hb, if_neg (fun e : g = f => hk (h.symm.trans e))]
      · have hb : (g == k) = false := beq_eq_false_iff_ne.mpr h
        simp only [List.lookup, hb]
        exact ih
theorem keys_putF (f : Str) (v : V) : ∀ fs : List (Str × V), f ∈ (putF f v fs).map (·.1) ∧ ∀ g, g ∈ fs.map (·.1) → g ∈ (putF f v fs).map (·.1)
  | [] => ⟨by simp [putF], fun g h => by simp at h⟩
  | (k, x) :: r => by
    obtain ⟨i1, i2⟩ := keys_putF f v r
    rw [show putF f v ((k, x) :: r) = (if k = f then (k, v) :: r else (k, x) :: putF f v r) from rfl]
    by_cases hk : k = f
    · rw [if_pos hk]
      subst hk
      exact ⟨by simp, fun g h => by simpa using h⟩
    · rw [if_neg hk]
      refine ⟨?_, fun g h => ?_⟩
      · rw [List.map_cons]
        exact List.mem_cons_of_mem _ i1
      · rw [List.map_cons] at h ⊢
        rcases List.mem_cons.mp h with e | e
        · exact List.mem_cons.mpr (.inl e)
        · exact List.mem_cons_of_mem _ (i2 g e)
theorem length_putF (f : Str) (v : V) : ∀ fs : List (Str × V), (putF f v fs).length ≤ fs.length + 1
  | [] => by simp [putF]
  | (k, x) :: r => by
    have ih := length_putF f v r
    rw [show putF f v ((k, x) :: r) = (if k = f then (k, v) :: r else (k, x) :: putF f v r) from rfl]
    by_cases hk : k = f
    · rw [if_pos hk, List.length_cons, List.length_cons]; omega
    · rw [if_neg hk, List.length_cons, List.length_cons]; omega

theorem RelO.some_of {v : V} {o : Option Value} (r : RelO (some v) o) : ∃ u, o = some u ∧ RelV v u := by
  cases o with
  | none => exact (show False from r).elim
  | some u => exact ⟨u, rfl, r⟩
theorem RelO.none_of {o : Option Value} (r : RelO none o) : o = none := by
  cases o with
  | none => rfl
  | some u => exact (show False from r).elim
theorem handed_of {v : V} {u : Value} (r : RelV v u) : PySem.W.handedIn u = true := by
  cases v with
  | non => cases (show u = Value.none from r); rfl
  | bl b => cases (show u = Value.bool b from r); rfl
  | int i => obtain ⟨t, e⟩ := (show ∃ t, u = Value.int i t from r); cases e; rfl
  | str x => obtain ⟨t, e⟩ := (show ∃ t, u = Value.str x t from r); cases e; rfl
  | byt b => obtain ⟨t, e⟩ := (show ∃ t, u = Value.bytes b t from r); cases e; rfl
  | flt b => obtain ⟨t, e⟩ := (show ∃ t, u = Value.float b t from r); cases e; rfl
  | ref a => cases (show u = Value.ref a from r); rfl
  | ty n => cases (show u = Value.type n from r); rfl

section
variable {P : Program} {w : World} {H H' : Hp} {h h' : Heap} {a C dx : Addr} {fs fs' : List (Str × V)}
theorem ins_get (hok : HOk P w H h) (e : H a = some (.ins C dx fs)) : ∃ mA, ObjM h a dx C mA ∧ (∀ f, RelO (fs.lookup f) (mA f)) ∧ PySem.Within mA (fs.map (·.1)) ∧ fs.length ≤ 1000 ∧ H dx = some (.own a) := by
  obtain ⟨d, z, ne, ob, mA, n, r, q⟩ := (show ObjOk P w H h a (.ins C dx fs) from hok a _ e)
  exact ⟨mA, ⟨ob, n, ne⟩, r, q, z, d⟩
end

structure Cls (K : PySem.W.Frag) (C : Addr) : Prop where
  pg : PySem.W.plainGet K C Str.empty = true
  hd : PySem.W.hasDictIn K C = true
  po : PySem.W.plainOver K C = true
  sa : PySem.W.findIn K (.ref C) "__setattr__" = some (some (.builtin "object.__setattr__"))
theorem Cls.get {K : PySem.W.Frag} {C : Addr} (c : Cls K C) (f : Str) : PySem.W.plainGet K C f = true := c.pg
noncomputable def NoAttr (K : PySem.W.Frag) (C : Addr) (f : Str) : Prop := PySem.W.findIn K (.ref C) f = some none
theorem NoAttr.taker {K : PySem.W.Frag} {C : Addr} {f : Str} (n : NoAttr K C f) : PySem.W.takerIn K C f = some none := by
  unfold PySem.W.takerIn
  rw [show PySem.W.findIn K (.ref C) f = some none from n]
  rfl
structure Con (K : PySem.W.Frag) (C : Addr) (f : Str) (v : V) (u : Value) : Prop where
  at_ : PySem.W.findIn K (.ref C) f = some (some u)
  rel : RelV v u
  get : PySem.W.specialIn K u "__get__" = some none
  cp : PySem.W.copiedNames.contains f = false
structure Meth (K : PySem.W.Frag) (C : Addr) (m : Str) (f : Addr) : Prop where
  at_ : PySem.W.findIn K (.ref C) m = some (some (.ref f))
  fn : PySem.W.isFn K (.ref f) = true
  kp : PySem.W.keepIn K (.ref f) = true

section
variable {X : Cx} {pins : List (Addr × Obj)} {σ : St} {H : Hp} {s : Shared} {a C dx : Addr} {fs : List (Str × V)} {f : Str} {v : V} {A : Around} {E : Value → Shared → Prop}

theorem getattr_ok {b : Bool} {Q : Value → Shared → Prop} (I : Inv X pins σ H s) (e : H a = some (.ins C dx fs)) (c : Cls X.K C) (n : NoAttr X.K C f) (l : fs.lookup f = some v)
    (h : ∀ u s', Inv X pins σ H s' → RelV v u → Q u s') : wpAny (model X.prog X.w) A (getAttr (.ref a) f b) Q E s := by
  obtain ⟨mA, O, r, _, _, _⟩ := ins_get I.hok e
  obtain ⟨u, hu, ru⟩ := RelO.some_of (v := v) (o := mA f) (by rw [← l]; exact r f)
  exact get_map I.kIn O (c.get f) c.hd n hu (handed_of ru) (h u _ (I.tok _) ru)

theorem getmeth_ok {m : Str} {g : Addr} {pl : Sem Bool} {Q : Value × List Value → Shared → Prop} (I : Inv X pins σ H s) (e : H a = some (.ins C dx fs)) (c : Cls X.K C) (k : Meth X.K C m g) (l : fs.lookup m = none)
    (h : Q (.ref g, [.ref a]) s) : wpAny (model X.prog X.w) A (getMethod (.ref a) m pl) Q E s := by
  obtain ⟨mA, O, r, _, _, _⟩ := ins_get I.hok e
  have hn : mA m = none := RelO.none_of (by rw [← l]; exact r m)
  exact get_meth I.kIn O (c.get m) k.at_ k.fn hn h

theorem setattr_ok {y : V} {u : Value} {Q : Unit → Shared → Prop} (I : Inv X pins σ H s) (e : H a = some (.ins C dx fs)) (c : Cls X.K C) (n : NoAttr X.K C f) (hl : fs.length < 1000) (ry : RelV y u)
    (h : ∀ s', Inv X pins σ (upd H a (.ins C dx (putF f y fs))) s' → Q () s') : wpAny (model X.prog X.w) A (setAttr (.ref a) f u) Q E s := by
  obtain ⟨mA, O, r, wi, _, ho⟩ := ins_get I.hok e
  have hz : (fs.map (·.1)).length ≤ sizeLine := by rw [List.length_map, sizeLine_eq]; omega
  refine set_map I.kIn O c.sa c.po n.taker c.hd wi hz fun h' O' sb => h _ ?_
  have hd : ∃ o, h'.get? dx = some o := let ⟨o, _, _, e', _⟩ := O'.ns; ⟨o, e'⟩
  refine I.write (x := a) (e := dx) (by rw [e]; exact True.intro) (.inr ho) (fun b q hb z => (sb.2 b hb).trans z) hd ?_
  refine ⟨by rw [upd_ne O.ne]; exact ho, ?_, O.ne, O'.obj, _, O'.ns, fun g => ?_, fun g hg => ?_⟩
  · have := length_putF f y fs; omega
  · show RelO ((putF f y fs).lookup g) (if g = f then some u else mA g)
    rw [lookup_putF]
    by_cases q : g = f
    · rw [if_pos q, if_pos q]; exact ry
    · rw [if_neg q, if_neg q]; exact r g
  · by_cases q : g = f
    · rw [q]; exact (keys_putF f y fs).1
    · refine (keys_putF f y fs).2 g (wi g fun z => hg ?_)
      show (if g = f then some u else mA g) = none
      rw [if_neg q]; exact z

theorem Inv.made (I : Inv X pins σ H s) : Inv X pins σ (upd (upd H s.heap.objs.size (.own (s.heap.objs.size + 1))) (s.heap.objs.size + 1) (.ins C s.heap.objs.size []))
    { s with heap := (s.heap.push PySem.W.emptyDict).push (PySem.W.instObj C s.heap.objs.size) } := by
  have e1 : (s.heap.push PySem.W.emptyDict).get? s.heap.objs.size = some PySem.W.emptyDict := Heap.get?_push_size s.heap rfl
  have e2 : ((s.heap.push PySem.W.emptyDict).push (PySem.W.instObj C s.heap.objs.size)).get? (s.heap.objs.size + 1) = some (PySem.W.instObj C s.heap.objs.size) := by
    have := Heap.get?_push_size (s.heap.push PySem.W.emptyDict) (o := PySem.W.instObj C s.heap.objs.size) rfl
    rwa [Heap.size_push] at this
  have e3 : (s.heap.push PySem.W.emptyDict).Ns s.heap.objs.size (fun _ => none) := ⟨PySem.W.emptyDict, #[], _, e1, rfl, (fun e he => absurd he (by simp)), fun _ => rfl⟩
  have I1 := I.laid (a := s.heap.objs.size) (o := .own (s.heap.objs.size + 1)) (h' := s.heap.push PySem.W.emptyDict) (t' := s.toks) (fun b u q => Heap.get?_push_of_some _ q) (Nat.le_refl _) ⟨_, e1⟩
  refine I1.laid (a := s.heap.objs.size + 1) (o := .ins C s.heap.objs.size []) (t' := s.toks) (fun b u q => Heap.get?_push_of_some _ q) (Nat.le_of_eq (Heap.size_push _ _)) ?_
  have ne : s.heap.objs.size ≠ s.heap.objs.size + 1 := Nat.ne_of_lt (Nat.lt_succ_self _)
  refine ⟨by rw [upd_ne ne, upd_same], Nat.zero_le _, ne, e2, fun _ => none, (Heap.Ns1.of_empty e3).at fun o q => Heap.get?_push_of_some _ q, fun _ => True.intro, fun y hy => absurd rfl hy⟩

theorem attr_of {prog : Program} {w : World} {env : Env} {e : Expr} {f : Str} {pos : Pos} {s : Shared} {Q : Value → Shared → Prop} (hb : attributeBase e f env (eval e env) = eval e env)
    (h : wpAny (model prog w) A (eval e env) (fun o s₁ => wpAny (model prog w) A (getAttr o f true) Q E s₁) E s) : wpAny (model prog w) A (eval (.Attribute e f pos) env) Q E s :=
  Attribute_any_ h (by rw [arm_eval_Attribute, hb])
end

noncomputable def tFld (K : PySem.W.Frag) (ta : TE) (f : Str) : TE := fun σ H Q => ta σ H fun x H1 => ∃ a C dx fs v, x = .ref a ∧ H1 a = some (.ins C dx fs) ∧ Cls K C ∧ NoAttr K C f ∧ fs.lookup f = some v ∧ Q v H1
noncomputable def sFld (K : PySem.W.Frag) (ta tv : TE) (f : Str) : TS := fun D σ H => tv σ H fun y H1 => ta σ H1 fun x H2 => ∃ a C dx fs, x = .ref a ∧ H2 a = some (.ins C dx fs) ∧ Cls K C ∧ NoAttr K C f ∧ fs.length < 1000 ∧
  D.nx σ (upd H2 a (.ins C dx (putF f y fs)))
section
variable {X : Cx} {o e value : Expr} {f : Str} {pos pos' tpos : Pos} {ta tv : TE}
theorem pe_fld (he : PE X e ta) (hb : attributeBase e f X.env (eval e X.env) = eval e X.env) : PE X (.Attribute e f pos) (tFld X.K ta f) := by
  intro pins s σ H Q I h
  refine attr_of hb (thn (he pins s σ H _ I h) fun u s1 ⟨x, H1, I1, rx, a, C, dx, fs, v, ex, ea, c, n, l, q⟩ => ?_)
  subst ex
  obtain rfl : u = Value.ref a := rx
  exact getattr_ok I1 ea c n l fun u' s2 I2 ru => ⟨v, H1, I2, ru, q⟩
theorem ps_fld (ha : PE X o ta) (hv : PE X value tv) (hs : swapsWith value (some (.Attribute o f pos')) pos.line X.env = pure false) : PS X (.Assign [.Attribute o f pos'] value pos) (sFld X.K ta tv f) := by
  intro pins s σ H D I h
  refine plainObj_wpAny_Assign_Attribute (thn (hv pins s σ H _ I h) fun u s1 ⟨y, H1, I1, ry, q⟩ => thn (ha pins s1 σ H1 _ I1 q) fun ov s2 ⟨x, H2, I2, rx, a, C, dx, fs, ex, ea, c, n, l, q2⟩ => ?_) hs
  subst ex
  obtain rfl : ov = Value.ref a := rx
  exact setattr_ok I2 ea c n l ry fun s3 I3 => ⟨σ, _, I3, q2⟩
end

section
variable {X : Cx} {pins : List (Addr × Obj)} {σ : St} {H : Hp} {s : Shared} {A : Around} {E : Value → Shared → Prop} {Q : Value → Shared → Prop} {c : Value} {b : Bool}
inductive TyOf (K : PySem.W.Frag) (H : Hp) : V → Value → Prop where
  | non : TyOf K H .non (.type "NoneType")
  | bl (x : Bool) : TyOf K H (.bl x) (.type "bool")
  | int (i : Int) : TyOf K H (.int i) (.type "int")
  | str (x : Str) : TyOf K H (.str x) (.type "str")
  | flt (x : UInt64) : TyOf K H (.flt x) (.type "float")
  | lst {a : Addr} {xs : List V} (e : H a = some (.lst xs)) : TyOf K H (.ref a) (.type "list")
  | frz {a : Addr} {o : Obj} {xs : List V} (e : H a = some (.frz o (.lst xs))) : TyOf K H (.ref a) (.type "list")
  | tup {a : Addr} {xs : List V} (e : H a = some (.tup xs)) : TyOf K H (.ref a) (.type "tuple")
  | dK {a : Addr} {kvs : List (Key × V)} (e : H a = some (.dK kvs)) : TyOf K H (.ref a) (.type "dict")
  | dT {a : Addr} {kvs : List (List Key × V)} (e : H a = some (.dT kvs)) : TyOf K H (.ref a) (.type "dict")
  | ins {a C dx : Addr} {fs : List (Str × V)} (e : H a = some (.ins C dx fs)) (cl : Cls K C) (ha : PySem.W.findIn K (.ref C) "__class__" = some (some (.builtin "object.__class__")))
      (hn : PySem.W.specialIn K (.builtin "object.__class__") "__get__" = some (some (.builtin "getset_descriptor.__get__"))) (htk : PySem.W.takesIn K (.builtin "object.__class__") = some true)
      (hm : PySem.W.mroIn K C (.type "object") = some true) : TyOf K H (.ref a) (.ref C)
theorem isinst_ok {x : V} {u t : Value} (I : Inv X pins σ H s) (rx : RelV x u) (ty : TyOf X.K H x t) (e : PySem.W.kitOne X.K t c = some b) (h : ∀ tk, Q (.bool b) { s with toks := tk }) :
    wpAny (model X.prog X.w) A (call (.builtin "isinstance") [u, c]) Q E s := by
  cases ty with
  | non => cases (show u = Value.none from rx); exact PySem.W.kia_one PySem.W.kitx_none I.kIn True.intro e (fun z => nomatch z) h
  | bl y => cases (show u = Value.bool y from rx); exact PySem.W.kia_one PySem.W.kitx_bool I.kIn True.intro e (fun z => nomatch z) h
  | int i => obtain ⟨t, q⟩ := (show ∃ t, u = Value.int i t from rx); cases q; exact PySem.W.kia_one PySem.W.kitx_int I.kIn True.intro e (fun z => nomatch z) h
  | str y => obtain ⟨t, q⟩ := (show ∃ t, u = Value.str y t from rx); cases q; exact PySem.W.kia_one PySem.W.kitx_str I.kIn True.intro e (fun z => nomatch z) h
  | flt y => obtain ⟨t, q⟩ := (show ∃ t, u = Value.float y t from rx); cases q; exact PySem.W.kia_one PySem.W.kitx_float I.kIn True.intro e (fun z => nomatch z) h
  | @lst a xs ea =>
    cases (show u = Value.ref a from rx)
    obtain ⟨_, _, n, _, h1⟩ := (show ObjOk X.prog X.w H s.heap a (.lst xs) from I.hok a _ ea)
    exact PySem.W.kia_one PySem.W.kitx_list I.kIn ⟨_, h1, rfl⟩ e (fun z => nomatch z) h
  | @frz a ob xs ea =>
    cases (show u = Value.ref a from rx)
    obtain ⟨_, _, _, n, _, h1⟩ := (show ObjOk X.prog X.w H s.heap a (.frz ob (.lst xs)) from I.hok a _ ea)
    exact PySem.W.kia_one PySem.W.kitx_list I.kIn ⟨_, h1, rfl⟩ e (fun z => nomatch z) h
  | @tup a xs ea =>
    cases (show u = Value.ref a from rx)
    obtain ⟨_, _, _, p⟩ := (show ObjOk X.prog X.w H s.heap a (.tup xs) from I.hok a _ ea)
    obtain ⟨o, h1, h2, _⟩ := p
    exact PySem.W.kia_one PySem.W.kitx_tuple I.kIn ⟨o, h1, h2⟩ e (fun z => nomatch z) h
  | @dK a kvs ea =>
    cases (show u = Value.ref a from rx)
    obtain ⟨_, _, vs, _, p⟩ := (show ObjOk X.prog X.w H s.heap a (.dK kvs) from I.hok a _ ea)
    obtain ⟨o, es, ep, h1, h2, _⟩ := p
    exact PySem.W.kia_one PySem.W.kitx_dict I.kIn ⟨o, h1, h2.1⟩ e (fun z => nomatch z) h
  | @dT a kvs ea =>
    cases (show u = Value.ref a from rx)
    obtain ⟨_, _, xs, _, o, es, ep, h1, h2, _⟩ := (show ObjOk X.prog X.w H s.heap a (.dT kvs) from I.hok a _ ea)
    exact PySem.W.kia_one PySem.W.kitx_dict I.kIn ⟨o, h1, h2.1⟩ e (fun z => nomatch z) h
  | @ins a C dx fs ea cl ha hn htk hm =>
    cases (show u = Value.ref a from rx)
    obtain ⟨mA, O, _⟩ := ins_get I.hok ea
    obtain ⟨od, J, _⟩ := O.look
    exact PySem.W.kia_one (PySem.W.kitx_own (cl.get _) cl.hd ha hn htk hm) I.kIn J e (fun z => nomatch z) h
end
end L2

namespace L2
open PySem PySem.Spec PyProof.Rows

structure Room (k : Nat) (A : Around) : Prop where
  hd : A.handled = none
  dp : A.depth + 3 * k + 5 < recursionLimit
  un : A.units + 16 * k + 200 < cLine
theorem Room.mono {j k : Nat} {A : Around} (r : Room k A) (h : j ≤ k) : Room j A := ⟨r.hd, by have := r.dp; omega, by have := r.un; omega⟩
theorem Room.deeper {k : Nat} {A : Around} (r : Room (k + 1) A) (env : Env) : Room k (A.deeper env) :=
  ⟨r.hd, by have := r.dp; show A.depth + 1 + 3 * k + 5 < _; omega, by have := r.un; show A.units + 3 + 16 * k + 200 < _; omega⟩
theorem make_depth {A : Around} {C : Addr} {us : List Value} {kw : List (Str × Value)} : (A.under (.builtin "type.__call__" ⟨.ref C :: us, kw⟩)).depth = A.depth + 1 := by
  first | rfl | simp [Around.under, Code.weight, Code.isCreation, Code.isGuard, Code.isCaller, Code.frames, Code.isFrame, guardIds]
theorem make_units {A : Around} {C : Addr} {us : List Value} {kw : List (Str × Value)} : (A.under (.builtin "type.__call__" ⟨.ref C :: us, kw⟩)).units = A.units + 1 := by
  first | rfl | simp [Around.under, Code.cUnits, Code.frames, Code.isFrame]
theorem Room.make {k : Nat} {A : Around} (r : Room (k + 1) A) (C : Addr) (us : List Value) (kw : List (Str × Value)) : Room k (A.under (.builtin "type.__call__" ⟨.ref C :: us, kw⟩)) :=
  ⟨r.hd, by have := r.dp; rw [make_depth]; omega, by have := r.un; rw [make_units]; omega⟩
theorem Room.depth {k : Nat} {A : Around} (r : Room k A) : A.depth < recursionLimit := by have := r.dp; omega
noncomputable def tNil : TA := fun _ H Q => Q [] H
noncomputable def tCons (ta : TE) (tr : TA) : TA := fun σ H Q => ta σ H fun x H1 => tr σ H1 fun xs H2 => Q (x :: xs) H2
section
variable {X : Cx} {e : Expr} {es : List Expr} {te : TE} {t : TA} {pos : Pos}
theorem pa_nil : PA X [] tNil := fun _ _ _ _ H Q I h => Calls.spliced_nil ⟨[], H, I, .nil, h⟩
theorem pa_cons (ha : PE X e te) (hr : PA X es t) (hs : starEach (e :: es) X.env = (false, eval e X.env) :: starEach es X.env := by rfl) : PA X (e :: es) (tCons te t) := by
  intro pos pins s σ H Q I h
  rw [hs]
  show wpAny _ _ (spliced ((false, eval e X.env) :: backTo pos (starEach es X.env))) _ _ s
  refine Calls.spliced_cons (thn (ha pins s σ H _ I h) fun u s1 ⟨x, H1, I1, r1, q1⟩ => ?_)
  exact thn (hr pos pins s1 σ H1 _ I1 q1) fun us s2 ⟨xs, H2, I2, r2, q2⟩ => ⟨x :: xs, H2, I2, .cons r1 r2, q2⟩

noncomputable def tTup (t : TA) : TE := fun σ H Q => t σ H fun xs H1 => xs.length ≤ sizeLine ∧ ∀ p, H1 p = none → Q (.ref p) (upd H1 p (.tup xs))
noncomputable def tLst (t : TA) : TE := fun σ H Q => t σ H fun xs H1 => xs.length ≤ sizeLine ∧ ∀ p, H1 p = none → Q (.ref p) (upd H1 p (.lst xs))
theorem pe_tup {x1} (h : PA X es t) : PE X (.Tuple es x1 pos) (tTup t) := by
  intro pins s σ H Q I hq
  refine wpAny_Tuple_spliced (thn (h pos pins s σ H _ I hq) fun us s1 ⟨xs, H1, I1, r, z, q⟩ => ⟨by rw [← r.length]; exact z, ?_⟩)
  have hf : H1 s1.heap.objs.size = none := I1.hok.fresh (Nat.le_refl _)
  refine ⟨.ref s1.heap.objs.size, upd H1 s1.heap.objs.size (.tup xs), I1.laid (t' := s1.toks) (fun b u e => Heap.get?_push_of_some _ e) (Nat.le_refl _) ?_, rfl, q _ hf⟩
  exact ⟨z, us, r, ⟨_, Heap.get?_push_size _ rfl, rfl, _, rfl⟩⟩
theorem pe_lst (h : PA X es t) : PE X (.List es pos) (tLst t) := by
  intro pins s σ H Q I hq
  refine wpAny_List_spliced (thn (h pos pins s σ H _ I hq) fun us s1 ⟨xs, H1, I1, r, z, q⟩ => ⟨by rw [← r.length]; exact z, ?_⟩)
  have hf : H1 s1.heap.objs.size = none := I1.hok.fresh (Nat.le_refl _)
  refine ⟨.ref s1.heap.objs.size, upd H1 s1.heap.objs.size (.lst xs), I1.laid (t' := s1.toks) (fun b u e => Heap.get?_push_of_some _ e) (Nat.le_refl _) ?_, rfl, q _ hf⟩
  exact ⟨z, us, 0, r, Heap.get?_push_size _ rfl⟩
end

noncomputable abbrev Sp := List V → Hp → VK → XK → Prop
noncomputable abbrev CXT := List Env → Hp → Shared → XK → Value → Shared → Prop

structure Env0 (P : Program) (w : World) (K : PySem.W.Frag) (mg : Str → Option Value) (base : Heap) (A : Around) (outer : List Env) (s : Shared) (H : Hp) : Prop where
  frames : A.frames = some outer
  mod : Mod K mg base
  bs : ∀ b o, base.get? b = some o → s.heap.get? b = some o ∧ H b = none
  bsz : base.objs.size ≤ s.heap.objs.size
  funs : s.heap.FunFrames base outer
  frf : ∀ b ∈ frs outer, H b = none
  hok : HOk P w H s.heap
  bare : AllBare s.gens
noncomputable def CE (outer : List Env) (P : Program) (w : World) (H : Hp) (s : Shared) (Q : VK) (u : Value) (s' : Shared) : Prop :=
  ∃ v H', s'.os = s.os ∧ AllBare s'.gens ∧ Un (frs outer) [] H H' s.heap s'.heap ∧ HOk P w H' s'.heap ∧ RelV v u ∧ Q v H'
noncomputable def CR (CX : CXT) (outer : List Env) (P : Program) (w : World) (H : Hp) (s : Shared) (Q : VK) (E : XK) (r : Result) (s' : Shared) : Prop :=
  match r with
  | .ok (.ret u) => CE outer P w H s Q u s'
  | .ok _ => False
  | .error e => CX outer H s E e s'
structure FnOk (P : Program) (w : World) (K : PySem.W.Frag) (mg : Str → Option Value) (base : Heap) (CX : CXT) (k : Nat) (f : Addr) (fd : FuncData) (ps : List Str) (sp : Sp) : Prop where
  len : ∀ vs H Q E, sp vs H Q E → vs.length = ps.length
  run : ∀ (A : Around) (outer : List Env) (s : Shared) (H : Hp) (args : Args) (us : List Value) (vs : List V) (Q : VK) (E : XK), Room k A → Env0 P w K mg base A outer s H → BindsTo s fd args (ps.zip us) → Vals vs us → sp vs H Q E →
    codeAny (model P w) A (.call (.ref f) args) (CR CX outer P w H s Q E) s
theorem FnOk.mono {P : Program} {w : World} {K : PySem.W.Frag} {mg : Str → Option Value} {base : Heap} {CX : CXT} {j k : Nat} {f : Addr} {fd : FuncData} {ps : List Str} {sp : Sp} (F : FnOk P w K mg base CX j f fd ps sp) (h : j ≤ k) :
    FnOk P w K mg base CX k f fd ps sp := ⟨F.len, fun A outer s H args us vs Q E hr => F.run A outer s H args us vs Q E (hr.mono h)⟩
theorem FnOk.imp {P : Program} {w : World} {K : PySem.W.Frag} {mg : Str → Option Value} {base : Heap} {CX : CXT} {k : Nat} {f : Addr} {fd : FuncData} {ps : List Str} {sp sp' : Sp} (F : FnOk P w K mg base CX k f fd ps sp)
    (h : ∀ vs H Q E, sp' vs H Q E → sp vs H Q E) : FnOk P w K mg base CX k f fd ps sp' :=
  ⟨fun vs H Q E q => F.len vs H Q E (h _ _ _ _ q), fun A outer s H args us vs Q E hr he hb hv hs => F.run A outer s H args us vs Q E hr he hb hv (h _ _ _ _ hs)⟩

theorem Env0.make {P : Program} {w : World} {K : PySem.W.Frag} {mg : Str → Option Value} {base : Heap} {A : Around} {outer : List Env} {s : Shared} {H : Hp} (e : Env0 P w K mg base A outer s H) (C : Addr) (us : List Value) (kw : List (Str × Value)) :
    Env0 P w K mg base (A.under (.builtin "type.__call__" ⟨.ref C :: us, kw⟩)) outer s H := ⟨by first | exact e.frames | (simpa [Around.under, Code.envs, Code.isFrame, pushEnvs] using e.frames), e.mod, e.bs, e.bsz, e.funs, e.frf, e.hok, e.bare⟩
section
variable {X : Cx} {pins : List (Addr × Obj)} {σ : St} {H : Hp} {s s' : Shared}
theorem Inv.env0 (I : Inv X pins σ H s) : Env0 X.prog X.w X.K X.mg X.base X.A X.stack s H :=
  ⟨I.ok.frames, I.ok.mod, I.bs, Nat.le_trans I.ok.bsz I.sz, I.stack, I.stkFree, I.hok, I.bare⟩
theorem Inv.after {Q : VK} {u : Value} (I : Inv X pins σ H s) (h : CE X.stack X.prog X.w H s Q u s') : EP X pins σ Q u s' := by
  obtain ⟨v, H', os, bare, un, hok, r, q⟩ := h
  obtain ⟨hh, g, d, t, os'⟩ := s'
  obtain rfl : os' = s.os := os
  exact ⟨v, H', I.call (h' := hh) (g' := g) (d' := d) (t' := t) (ch := []) un hok bare (fun b z => absurd z (by simp)), r, q⟩
end

noncomputable def tCall (sp : Sp) (dvs : List V) (E : XK) (t : TA) : TE := fun σ H Q => t σ H fun vs H1 => sp (vs ++ dvs) H1 Q E
noncomputable def tMeth (C : Addr) (m : Str) (sp : Sp) (dvs : List V) (E : XK) (ta : TE) (t : TA) : TE := fun σ H Q => ta σ H fun x H1 => ∃ a dx fs, x = .ref a ∧ H1 a = some (.ins C dx fs) ∧ fs.lookup m = none ∧
  t σ H1 fun vs H2 => sp (x :: (vs ++ dvs)) H2 Q E
noncomputable def tMake (C : Addr) (sp : Sp) (dvs : List V) (E : XK) (t : TA) : TE := fun σ H Q => t σ H fun vs H1 => ∀ x dx, H1 x = none → H1 dx = none → dx ≠ x →
  sp (.ref x :: (vs ++ dvs)) (upd (upd H1 dx (.own x)) x (.ins C dx [])) (fun v H2 => v = .non ∧ Q (.ref x) H2) E

noncomputable def Binds (K : PySem.W.Frag) (fd : FuncData) (ps : List Str) (ds : List Value) : Prop :=
  ∀ (s : Shared) (us : List Value), K.In s.heap → (us ++ ds).length = ps.length → BindsTo s fd ⟨us, []⟩ (ps.zip (us ++ ds))
theorem Binds.all {K : PySem.W.Frag} {fd : FuncData} {ps : List Str} (h : ∀ us : List Value, us.length = ps.length → bindArgs fd ⟨us, []⟩ = pure (ps.zip us)) : Binds K fd ps [] := fun s us _ hl => by
  rw [List.append_nil] at hl ⊢
  exact .of_eq (h us hl)

noncomputable def Passes (CX : CXT) (X : Cx) (E : XK) : Prop := ∀ (pins : List (Addr × Obj)) (σ : St) (H : Hp) (s : Shared) (e : Value) (s' : Shared), Inv X pins σ H s → CX X.stack H s E e s' → X.xe e s'

section
variable {X : Cx} {CX : CXT} {k : Nat} {f C : Addr} {fd : FuncData} {ps : List Str} {sp : Sp} {dvs : List V} {ds : List Value} {E : XK} {x m : Str} {p pos apos : Pos} {e o : Expr} {es : List Expr} {ta : TE} {t : TA}

theorem run_fn {pins : List (Addr × Obj)} {σ : St} {H : Hp} {s : Shared} {Q : VK} {us : List Value} {vs : List V} (F : FnOk X.prog X.w X.K X.mg X.base CX k f fd ps sp) (hr : Room k X.A) (hb : Binds X.K fd ps ds) (hd : Vals dvs ds) (hx : Passes CX X E)
    (I : Inv X pins σ H s) (r : Vals vs us) (h : sp (vs ++ dvs) H Q E) : wpAny (model X.prog X.w) X.A (call (.ref f) us) (EP X pins σ Q) X.xe s := by
  have r2 : Vals (vs ++ dvs) (us ++ ds) := r.append hd
  have hl : (us ++ ds).length = ps.length := by rw [← r2.length]; exact F.len _ _ _ _ h
  refine wpAny_call (codeAny_mono (F.run X.A X.stack s H ⟨us, []⟩ (us ++ ds) (vs ++ dvs) Q E hr I.env0 (hb s us I.kIn hl) r2 h) fun r s' hq => ?_)
  cases r with
  | error e => exact hx pins σ H s e s' I hq
  | ok fl =>
    cases fl with
    | ret u => exact I.after hq
    | next => exact False.elim hq
    | brk => exact False.elim hq
    | cont => exact False.elim hq

theorem pe_call (F : FnOk X.prog X.w X.K X.mg X.base CX k f fd ps sp) (hr : Room k X.A) (hg : Gl X x) (hm : X.mg x = some (.ref f)) (hk : PySem.W.keepIn X.K (.ref f) = true) (hb : Binds X.K fd ps ds) (hd : Vals dvs ds) (hx : Passes CX X E)
    (ha : PA X (e :: es) t) (hdb : (x == ("__debug__" : Str)) = false := by decide) (he : starEach (e :: es) X.env = (false, eval e X.env) :: starEach es X.env := by rfl) (hpl : (backTo pos (starEach es X.env)).any (·.1) = false := by rfl) :
    PE X (.Call (.Name x p) (e :: es) [] pos) (tCall sp dvs E t) := by
  intro pins s σ H Q I h
  refine wpAny_Call_Name_kw (ld_glob I hg hm ?_ hdb)
  refine PySem.W.callWith_K (h₀ := X.base) I.ok.mod.kin hk (thn (ha pos pins s σ H _ I h) fun us s1 ⟨vs, H1, I1, r, q⟩ => ⟨I1.kIn, ?_⟩) he hpl
  exact run_fn F hr hb hd hx I1 r q
theorem pe_call0 (F : FnOk X.prog X.w X.K X.mg X.base CX k f fd ps sp) (hr : Room k X.A) (hg : Gl X x) (hm : X.mg x = some (.ref f)) (hk : PySem.W.keepIn X.K (.ref f) = true) (hb : Binds X.K fd ps ds) (hd : Vals dvs ds) (hx : Passes CX X E)
    (hdb : (x == ("__debug__" : Str)) = false := by decide) : PE X (.Call (.Name x p) [] [] pos) (tCall sp dvs E tNil) := by
  intro pins s σ H Q I h
  refine wpAny_Call_Name_kw (ld_glob I hg hm ?_ hdb)
  exact PySem.W.callWith_K0 I.kIn hk (run_fn (us := []) F hr hb hd hx I .nil h)

theorem pe_meth {pl : Sem Bool} (he : PE X o ta) (c : Cls X.K C) (hm : Meth X.K C m f) (F : FnOk X.prog X.w X.K X.mg X.base CX k f fd ps sp) (hr : Room k X.A) (hb : Binds X.K fd ps ds) (hd : Vals dvs ds) (hx : Passes CX X E) (ha : PA X (e :: es) t)
    (hst : starEach (e :: es) X.env = (false, eval e X.env) :: starEach es X.env := by rfl) (hpl : (backTo pos (starEach es X.env)).any (·.1) = false := by rfl)
    (ht : eval (.Call (.Attribute o m apos) (e :: es) [] pos) X.env = (do
      let ov ← eval o X.env
      standAt apos.atName
      let (f, first) ← holding [ov] (getMethod ov m pl)
      callWith pos f first (backTo pos (starEach (e :: es) X.env)) (backToKw pos (keywordEach [] X.env))) := by rfl) :
    PE X (.Call (.Attribute o m apos) (e :: es) [] pos) (tMeth C m sp dvs E ta t) := by
  intro pins s σ H Q I h
  refine PySem.W.methodCall_KW (pl := pl) (thn (he pins s σ H _ I h) fun u s1 ⟨x, H1, I1, rx, a, dx, fs, ex, ea, l, q⟩ => ?_) ht
  subst ex
  obtain rfl : u = Value.ref a := rx
  refine getmeth_ok I1 ea c hm l ?_
  refine PySem.W.callWith_K (first := [.ref a]) (h₀ := X.base) I.ok.mod.kin hm.kp (thn (ha pos pins s1 σ H1 _ I1 q) fun us s2 ⟨vs, H2, I2, r, q2⟩ => ⟨I2.kIn, ?_⟩) hst hpl
  exact run_fn (us := .ref a :: us) (vs := .ref a :: vs) F hr hb hd hx I2 (.cons rfl r) q2
theorem pe_meth0 {pl : Sem Bool} (he : PE X o ta) (c : Cls X.K C) (hm : Meth X.K C m f) (F : FnOk X.prog X.w X.K X.mg X.base CX k f fd ps sp) (hr : Room k X.A) (hb : Binds X.K fd ps ds) (hd : Vals dvs ds) (hx : Passes CX X E)
    (ht : eval (.Call (.Attribute o m apos) [] [] pos) X.env = (do
      let ov ← eval o X.env
      standAt apos.atName
      let (f, first) ← holding [ov] (getMethod ov m pl)
      callWith pos f first (backTo pos (starEach [] X.env)) (backToKw pos (keywordEach [] X.env))) := by rfl) :
    PE X (.Call (.Attribute o m apos) [] [] pos) (tMeth C m sp dvs E ta tNil) := by
  intro pins s σ H Q I h
  refine PySem.W.methodCall_KW (pl := pl) (thn (he pins s σ H _ I h) fun u s1 ⟨x, H1, I1, rx, a, dx, fs, ex, ea, l, q⟩ => ?_) ht
  subst ex
  obtain rfl : u = Value.ref a := rx
  refine getmeth_ok I1 ea c hm l ?_
  exact PySem.W.callWith_K0 (first := [.ref a]) I1.kIn hm.kp (run_fn (us := [.ref a]) (vs := [.ref a]) F hr hb hd hx I1 (.cons rfl .nil) q)

structure Mk (K : PySem.W.Frag) (C f : Addr) : Prop where
  makes : PySem.W.makesIn K C = true
  init : PySem.W.findIn K (.ref C) "__init__" = some (some (.ref f))
  fn : PySem.W.isFn K (.ref f) = true
  kp : PySem.W.keepIn K (.ref C) = true

theorem run_make {pins : List (Addr × Obj)} {σ : St} {H : Hp} {s : Shared} {Q : VK} {us : List Value} {vs : List V} (M : Mk X.K C f) (F : FnOk X.prog X.w X.K X.mg X.base CX k f fd ps sp) (hr : Room (k + 1) X.A) (hb : Binds X.K fd ps ds) (hd : Vals dvs ds)
    (hx : Passes CX X E) (I : Inv X pins σ H s) (r : Vals vs us)
    (h : ∀ x dx, H x = none → H dx = none → dx ≠ x → sp (.ref x :: (vs ++ dvs)) (upd (upd H dx (.own x)) x (.ins C dx [])) (fun v H2 => v = .non ∧ Q (.ref x) H2) E) :
    wpAny (model X.prog X.w) X.A (call (.ref C) us) (EP X pins σ Q) X.xe s := by
  have hq := h (s.heap.objs.size + 1) s.heap.objs.size (I.hok.fresh (Nat.le_succ _)) (I.hok.fresh (Nat.le_refl _)) (Nat.ne_of_lt (Nat.lt_succ_self _))
  have I2 := Inv.made (C := C) I
  have r2 : Vals (V.ref (s.heap.objs.size + 1) :: (vs ++ dvs)) (Value.ref (s.heap.objs.size + 1) :: (us ++ ds)) := .cons rfl (r.append hd)
  have hl : (Value.ref (s.heap.objs.size + 1) :: us ++ ds).length = ps.length := by
    have e := r2.length
    rw [F.len _ _ _ _ hq] at e
    exact e.symm
  refine wpAny_call (make_map (f := f) I.kIn M.makes M.init (beq_iff_eq.mp M.fn) (codeAny_mono (F.run _ X.stack _ _ ⟨Value.ref (s.heap.objs.size + 1) :: us, []⟩ (Value.ref (s.heap.objs.size + 1) :: (us ++ ds)) _ _ E (hr.make C us [])
    (I2.env0.make C us []) (hb _ (Value.ref (s.heap.objs.size + 1) :: us) I2.kIn hl) r2 hq) fun r s' hq' => ?_))
  cases r with
  | error e => exact hx pins σ _ _ e s' I2 hq'
  | ok fl =>
    cases fl with
    | ret u =>
      obtain ⟨v, H', I3, rv, ev, q3⟩ := I2.after hq'
      subst ev
      exact ⟨rv, ⟨V.ref (s.heap.objs.size + 1), H', I3, rfl, q3⟩⟩
    | next => exact False.elim hq'
    | brk => exact False.elim hq'
    | cont => exact False.elim hq'
theorem pe_make (M : Mk X.K C f) (F : FnOk X.prog X.w X.K X.mg X.base CX k f fd ps sp) (hr : Room (k + 1) X.A) (hg : Gl X x) (hm : X.mg x = some (.ref C)) (hb : Binds X.K fd ps ds) (hd : Vals dvs ds) (hx : Passes CX X E)
    (ha : PA X (e :: es) t) (hdb : (x == ("__debug__" : Str)) = false := by decide) (he : starEach (e :: es) X.env = (false, eval e X.env) :: starEach es X.env := by rfl) (hpl : (backTo pos (starEach es X.env)).any (·.1) = false := by rfl) :
    PE X (.Call (.Name x p) (e :: es) [] pos) (tMake C sp dvs E t) := by
  intro pins s σ H Q I h
  refine wpAny_Call_Name_kw (ld_glob I hg hm ?_ hdb)
  refine PySem.W.callWith_K (h₀ := X.base) I.ok.mod.kin M.kp (thn (ha pos pins s σ H _ I h) fun us s1 ⟨vs, H1, I1, r, q⟩ => ⟨I1.kIn, ?_⟩) he hpl
  exact run_make M F hr hb hd hx I1 r q
end

section
variable {X : Cx} {CX : CXT} {k : Nat} {f C : Addr} {fd : FuncData} {ps ks : List Str} {sp : Sp} {E : XK} {x m : Str} {p pos apos kpos : Pos} {e o : Expr} {es : List Expr} {kws : List Keyword} {te ta : TE} {t tk : TA} {nm : Option Str}
structure KBinds (K : PySem.W.Frag) (fd : FuncData) (ps ks : List Str) (g : List Value → List Value → List Value) (gV : List V → List V → List V) : Prop where
  to : ∀ (s : Shared) (us ws : List Value), K.In s.heap → (g us ws).length = ps.length → BindsTo s fd ⟨us, ks.zip ws⟩ (ps.zip (g us ws))
  rel : ∀ {vs : List V} {us : List Value} {zs : List V} {ws : List Value}, Vals vs us → Vals zs ws → Vals (gV vs zs) (g us ws)
variable {g : List Value → List Value → List Value} {gV : List V → List V → List V}
end

structure FnScope (N P : List Str) (sc : Scope) : Prop where
  kind : sc.kind = .function
  co : sc.isCoroutine = false
  gen : sc.isGenerator = false
  nd : N.Nodup
  pre : N.take P.length = P
  par : ∀ x ∈ P, sc.names.lookup x = some .local ∨ sc.names.lookup x = some .cell
  nofree : ∀ y ∈ sc.names, y.2 ≠ .free

theorem bindL_out {kindOf : Str → Option NameKind} {x : Str} : ∀ {binds : List (Str × Value)} {m : Str → Option Value}, (∀ v, (x, v) ∉ binds) → bindL kindOf binds m x = m x
  | [], _, _ => rfl
  | (n, v) :: r, m, h => by
    unfold bindL
    rw [bindL_out fun w hw => h w (List.mem_cons_of_mem _ hw)]
    split
    · have : x ≠ n := by rintro rfl; exact h v List.mem_cons_self
      simp [this]
    · rfl
theorem bindC_out {kindOf : Str → Option NameKind} {x : Str} : ∀ {binds : List (Str × Value)} {m : Str → Option Value}, (∀ v, (x, v) ∉ binds) → bindC kindOf binds m x = m x
  | [], _, _ => rfl
  | (n, v) :: r, m, h => by
    unfold bindC
    rw [bindC_out fun w hw => h w (List.mem_cons_of_mem _ hw)]
    split
    · rfl
    · have : x ≠ n := by rintro rfl; exact h v List.mem_cons_self
      simp [this]
theorem bindL_get {kindOf : Str → Option NameKind} {x : Str} {v : Value} : ∀ {P : List Str} {vs : List Value} {i : Nat} {m : Str → Option Value}, P.Nodup → P[i]? = some x → vs[i]? = some v → kindOf x = some .local →
    bindL kindOf (P.zip vs) m x = some v
  | [], _, _, _, _, h, _, _ => by simp at h
  | _ :: _, [], _, _, _, _, h, _ => by simp at h
  | p :: P, w :: vs, 0, m, nd, h1, h2, hk => by
    simp at h1 h2; subst h1; subst h2
    show bindL kindOf ((p, w) :: P.zip vs) m p = _
    unfold bindL
    rw [bindL_out fun v hv => (List.nodup_cons.mp nd).1 (List.of_mem_zip hv).1, if_pos hk]
    simp
  | p :: P, w :: vs, i + 1, m, nd, h1, h2, hk => by
    show bindL kindOf ((p, w) :: P.zip vs) m x = _
    unfold bindL
    exact bindL_get (i := i) (List.nodup_cons.mp nd).2 (by simpa using h1) (by simpa using h2) hk
theorem bindC_get {kindOf : Str → Option NameKind} {x : Str} {v : Value} : ∀ {P : List Str} {vs : List Value} {i : Nat} {m : Str → Option Value}, P.Nodup → P[i]? = some x → vs[i]? = some v → kindOf x ≠ some .local →
    bindC kindOf (P.zip vs) m x = some v
  | [], _, _, _, _, h, _, _ => by simp at h
  | _ :: _, [], _, _, _, _, h, _ => by simp at h
  | p :: P, w :: vs, 0, m, nd, h1, h2, hk => by
    simp at h1 h2; subst h1; subst h2
    show bindC kindOf ((p, w) :: P.zip vs) m p = _
    unfold bindC
    rw [bindC_out fun v hv => (List.nodup_cons.mp nd).1 (List.of_mem_zip hv).1, if_neg hk]
    simp
  | p :: P, w :: vs, i + 1, m, nd, h1, h2, hk => by
    show bindC kindOf ((p, w) :: P.zip vs) m x = _
    unfold bindC
    exact bindC_get (i := i) (List.nodup_cons.mp nd).2 (by simpa using h1) (by simpa using h2) hk

noncomputable def start (N : List Str) (vs : List V) : St := vs.map some ++ List.replicate (N.length - vs.length) none

noncomputable def cxOf (CX : CXT) (P : Program) (w : World) (K : PySem.W.Frag) (mg : Str → Option Value) (base : Heap) (N : List Str) (qual : Str) (scope : Scope) (f : Addr) (cd : Value) (A : Around) (outer : List Env) (s : Shared) (H : Hp) (E : XK) : Cx where
  prog := P
  w := w
  K := K
  mg := mg
  base := base
  A := A.deeper (envOfC qual scope s.heap.objs.size f cd)
  N := N
  s_0 := s
  H_0 := H
  env := envOfC qual scope s.heap.objs.size f cd
  outer := outer
  stack := envOfC qual scope s.heap.objs.size f cd :: outer
  ex := []
  calm := true
  fn := fun _ => true
  pn := []
  xe := fun e s' => wpAny (model P w) (A.deeper (envOfC qual scope s.heap.objs.size f cd)) (leaving (envOfC qual scope s.heap.objs.size f cd) e) (fun _ s'' => CX outer H s E e s'') (fun e' s'' => CX outer H s E e' s'') s'

theorem cell_has {sc : Scope} {n : Nat} {x : Str} (h : sc.names.lookup x = some .cell) : ∃ c, (cellsFrom n sc.names []).lookup x = some c := by
  have q := PySem.W.cellsFrom_some sc.names n [] (.inl h)
  exact Option.isSome_iff_exists.mp q

theorem inv_start {CX : CXT} {P : Program} {w : World} {K : PySem.W.Frag} {mg : Str → Option Value} {base : Heap} {N ps : List Str} {qual : Str} {scope : Scope} {f : Addr} {cd : Value} {A : Around} {outer : List Env} {s s1 : Shared} {H : Hp} {E : XK} {us : List Value} {vs : List V}
    (S : FnScope N ps scope) (hd : A.handled = none) (e0 : Env0 P w K mg base A outer s H) (hl : vs.length = ps.length) (r : Vals vs us)
    (x : InCallC s s.heap.objs.size (bindL (envOfC qual scope s.heap.objs.size f cd).kindOf (ps.zip us) fun _ => none) (cellsFrom (s.heap.objs.size + 1) scope.names []) (bindC (envOfC qual scope s.heap.objs.size f cd).kindOf (ps.zip us) fun _ => none) s1) :
    Inv (cxOf CX P w K mg base N qual scope f cd A outer s H E) [] (start N vs) H s1 := by
  have hpl : ps.length ≤ N.length := by have := congrArg List.length S.pre; rw [List.length_take] at this; omega
  obtain ⟨h1, tk, rfl, hk⟩ := x.done
  have noA : ∀ b : Addr, b ∉ (cxOf CX P w K mg base N qual scope f cd A outer s H E).ex := fun b z => absurd (show b ∈ ([] : List Addr) from z) (by simp)
  refine ⟨⟨e0.mod, S.kind, rfl, rfl, Nat.le_refl _, fun y z c h1 h2 => ?_, fun y hy => ?_, fun y c _ h => ?_, fun _ => hd, Around.frames_deeper e0.frames, .inr ⟨rfl, rfl⟩, fun b z => absurd z (noA b), e0.bs, e0.bsz, fun b _ _ => noA b, fun b z => absurd z (noA b), e0.funs, e0.frf⟩,
    rfl, e0.bare, Un.kept hk, ⟨_, x.toInCall.ns, fun i y v h1 h2 h3 => ?_⟩, fun y c h => ⟨_, x.cell y c h⟩, e0.hok.fresh (Nat.le_refl _), fun y c h => ?_, fun p hp => absurd (show p ∈ ([] : List (Addr × Obj)) from hp) (by simp), e0.hok.kept hk, ?_⟩
  · exact name_of_addr x.apart (PySem.mem_of_lookup h1) (PySem.mem_of_lookup h2)
  · have hy : scope.names.lookup y = some .cell ∨ scope.names.lookup y = some .free := hy
    rcases hy with hy | hy
    · exact cell_has hy
    · exact absurd rfl (S.nofree _ (PySem.mem_of_lookup hy))
  · exact Nat.le_of_lt (x.above y c (PySem.mem_of_lookup h))
  · have hi : i < vs.length := by
      unfold start at h2
      by_cases hi : i < vs.length
      · exact hi
      · rw [List.getElem?_append_right (by simpa using hi)] at h2
        rw [List.getElem?_replicate] at h2
        split at h2 <;> cases h2
    have ha : vs[i]? = some v := by
      unfold start at h2
      rw [List.getElem?_append_left (by simpa using hi), List.getElem?_map] at h2
      cases e : vs[i]? with
      | none => rw [e] at h2; cases h2
      | some a => rw [e] at h2; cases h2; rfl
    obtain ⟨u, hu, rv⟩ := r.get ha
    have hp : ps[i]? = some y := by
      rw [← S.pre, List.getElem?_take_of_lt (by omega)]; exact h1
    have ndP : ps.Nodup := by rw [← S.pre]; exact S.nd.sublist (List.take_sublist _ _)
    refine ⟨u, rv, ?_⟩
    rcases S.par y (List.mem_of_getElem? hp) with k | k
    · exact .inl ⟨k, bindL_get ndP hp hu k⟩
    · obtain ⟨c, e⟩ := cell_has (n := s.heap.objs.size + 1) k
      refine .inr ⟨.inl k, c, e, ?_⟩
      have q := x.cell y c e
      rw [bindC_get ndP hp hu (by show scope.names.lookup y ≠ _; rw [k]; decide)] at q
      exact q
  · exact e0.hok.fresh (Nat.le_of_lt (x.above y c (PySem.mem_of_lookup h)))
  · unfold start
    show _ = N.length
    rw [List.length_append, List.length_map, List.length_replicate]
    omega

theorem fn_of {CX : CXT} {P : Program} {w : World} {K : PySem.W.Frag} {mg : Str → Option Value} {base : Heap} {k : Nat} {f : Addr} {name qual : Str} {params : Arguments} {body : List Stmt} {scope : Scope} {dV kV doc pm cdv ct oc : Value} {an od : Option Addr}
    {osl : Array (Option Value)} {N ps : List Str} {sp : Sp} (lk : K.lookup f = some ⟨oc, od, .func (PySem.W.fnOf name qual params body scope dV kV doc pm an cdv ct), osl⟩) (hcd : PySem.W.codeIn K cdv qual = true) (S : FnScope N ps scope)
    (len : ∀ vs H Q E, sp vs H Q E → vs.length = ps.length)
    (hbody : ∀ (A : Around) (outer : List Env) (s : Shared) (H : Hp) (vs : List V) (Q : VK) (E : XK), Room k (A.deeper (envOfC qual scope s.heap.objs.size f cdv)) → sp vs H Q E →
      ∃ t, PSs (cxOf CX P w K mg base N qual scope f cdv A outer s H E) body t ∧ t { nx := fun _ H' => Q .non H', rt := Q } (start N vs) H) :
    FnOk P w K mg base CX (k + 1) f (PySem.W.fnOf name qual params body scope dV kV doc pm an cdv ct) ps sp := by
  refine ⟨len, fun A outer s H args us vs Q E hr e0 hb r hsp => ?_⟩
  have hl := len _ _ _ _ hsp
  have KX : K.In s.heap := e0.mod.kin.keeps fun b o e => (e0.bs b o e).1
  have lim : s.heap.NoLimit := e0.mod.nolimit.keeps fun b o e => (e0.bs b o e).1
  have hkind : ∀ y ∈ ps.zip us, scope.names.lookup y.1 = some .local ∨ (scope.names.lookup y.1 = some .cell ∧ ((cellsFrom (s.heap.objs.size + 1) scope.names []).lookup y.1).isSome = true) := fun ⟨n, v⟩ hy => by
    rcases S.par n (List.of_mem_zip hy).1 with q | q
    · exact .inl q
    · exact .inr ⟨q, PySem.W.cellsFrom_some _ _ _ (.inl q)⟩
  refine codeAny_call_function hr.depth (KX _ _ lk) rfl S.co S.gen rfl (PySem.W.codeRec_of KX hcd) (hb _ _ _ _ ?_)
  refine wpAny_newFunctionEnv_cells S.kind hkind fun env he s1 x => ?_
  subst he
  refine ⟨lim.keeps x.toInCall.keep, codeAny_func ?_⟩
  obtain ⟨t, ht, hq⟩ := hbody A outer s H vs Q E (hr.deeper _) hsp
  have I : Inv (cxOf CX P w K mg base N qual scope f cdv A outer s H E) [] (start N vs) H s1 := inv_start S hr.hd e0 hl r x
  refine wpAny_mono (ht [] s1 (start N vs) H _ I hq) (fun fl s' hs => ?_) fun e s' hs => hs
  have fin : ∀ {σ' : St} {H' : Hp} {v : V} {u : Value}, Inv (cxOf CX P w K mg base N qual scope f cdv A outer s H E) [] σ' H' s' → RelV v u → Q v H' → CE outer P w H s Q u s' :=
    fun {σ' H' v u} J rv q => ⟨v, H', J.os, J.bare, J.base, J.hok, rv, q⟩
  cases fl with
  | ret u =>
    obtain ⟨v, σ', H', J, rv, q⟩ := hs
    exact fin J rv q
  | next =>
    obtain ⟨σ', H', J, q⟩ := hs
    exact fin (v := V.non) (u := Value.none) J rfl q
  | brk =>
    obtain ⟨_, _, _, q⟩ := hs
    exact False.elim q
  | cont =>
    obtain ⟨_, _, _, q⟩ := hs
    exact False.elim q
end L2

namespace L2
open PySem PySem.Spec PyProof.Rows
section
variable {X : Cx} {x : Str} {p pos : Pos} {e : Expr} {es : List Expr} {t : TA} {id T : String} {r : List V → Hp → VK → Prop}

noncomputable def tCB (r : List V → Hp → VK → Prop) (t : TA) : TE := fun σ H Q => t σ H fun vs H1 => r vs H1 Q
theorem pe_callB (hc : CallR X (.builtin id) r) (hg : Gl X x) (hm : X.mg x = none) (hv : bootBuiltins x = some (.builtin id)) (ha : PA X (e :: es) t) (hn : x ≠ "__name__" := by decide) (hdb : (x == ("__debug__" : Str)) = false := by decide)
    (he : starEach (e :: es) X.env = (false, eval e X.env) :: starEach es X.env := by rfl) (hpl : (backTo pos (starEach es X.env)).any (·.1) = false := by rfl) : PE X (.Call (.Name x p) (e :: es) [] pos) (tCB r t) := by
  intro pins s σ H Q I h
  refine wpAny_Call_Name_kw (ld_blt I hg hm hv ?_ hn hdb)
  exact PyProof.Rows.callWith_builtin1 (thn (ha pos pins s σ H _ I h) fun us s1 ⟨vs, H1, I1, r1, q1⟩ => hc pins s1 σ H1 vs us Q I1 r1 q1) he hpl
theorem pe_callTy (hc : CallR X (.type T) r) (hg : Gl X x) (hm : X.mg x = none) (hv : bootBuiltins x = some (.type T)) (ha : PA X (e :: es) t) (hn : x ≠ "__name__" := by decide) (hdb : (x == ("__debug__" : Str)) = false := by decide)
    (he : starEach (e :: es) X.env = (false, eval e X.env) :: starEach es X.env := by rfl) (hpl : (backTo pos (starEach es X.env)).any (·.1) = false := by rfl) : PE X (.Call (.Name x p) (e :: es) [] pos) (tCB r t) := by
  intro pins s σ H Q I h
  refine wpAny_Call_Name_kw (ld_blt I hg hm hv ?_ hn hdb)
  exact PyProof.Rows.callWith_type1 (thn (ha pos pins s σ H _ I h) fun us s1 ⟨vs, H1, I1, r1, q1⟩ => hc pins s1 σ H1 vs us Q I1 r1 q1) he hpl
end
end L2

namespace HT
open PySem PyProof.Rows

section
open PySem.SeqAt
open PySem.AutoSeq1 (wpAny_loadPart')
open PySem.MeetsSeq PySem.MeetsSeq2 PySem.MeetsSeq3

end

section
variable {prog : Program} {w : World} {A : Around} {E : Value → Shared → Prop} {s : Shared}

noncomputable def sIx (n d : Nat) : Option Int → Nat
  | none => d
  | some v => if v < 0 then (v + (n : Int)).toNat else min v.toNat n
end
end HT

namespace L2
open PySem PySem.Spec PyProof.Rows

noncomputable abbrev TO := St → Hp → (Option Int → Hp → Prop) → Prop
noncomputable def PO (X : Cx) (e : Option Expr) (t : TO) : Prop :=
  ∀ (pins : List (Addr × Obj)) (s : Shared) (σ : St) (H : Hp) (Q : Option Int → Hp → Prop), Inv X pins σ H s → t σ H Q →
    wpAny (model X.prog X.w) X.A (evalPart e X.env) (fun u s' => ∃ o H', Inv X pins σ H' s' ∧ IsPart u o ∧ Q o H') X.xe s
noncomputable def tPart (t : TE) : TO := fun σ H Q => t σ H fun x H1 => ∃ i, x = .int i ∧ Q (some i) H1

section
variable {X : Cx} {e : Expr} {te : TE} {lo hi : Option Expr} {tl th : TO} {pos p2 : Pos}

theorem po_some (h : PE X e te) : PO X (some e) (tPart te) := by
  intro pins s σ H Q I hw
  rw [evalPart_some]
  refine thn (h pins s σ H _ I hw) fun u s1 ⟨x, H1, I1, r1, q1⟩ => ?_
  obtain ⟨i, rfl, q⟩ := q1
  obtain ⟨t, rfl⟩ := r1
  exact ⟨some i, H1, I1, .int i t, q⟩

noncomputable def SlR (X : Cx) (r : V → Option Int → Option Int → Hp → VK → Prop) : Prop :=
  ∀ (pins : List (Addr × Obj)) (s : Shared) (σ : St) (H : Hp) (x : V) (v vl vu : Value) (lo hi : Option Int) (sl : Addr) (Q : VK), Inv X pins σ H s → RelV x v → s.heap.IsSliceOf sl vl vu .none → IsPart vl lo → IsPart vu hi → r x lo hi H Q →
    ∃ T id, typeLookup (.type T) "__getitem__" = pure (some (.builtin id)) ∧ s.TypeIs v T ∧ wpAny (model X.prog X.w) X.A (getItem v (.ref sl)) (EP X pins σ Q) X.xe s
noncomputable def tSl (r : V → Option Int → Option Int → Hp → VK → Prop) (te : TE) (tl th : TO) : TE := fun σ H Q => te σ H fun x H1 => tl σ H1 fun l H2 => th σ H2 fun u H3 => r x l u H3 Q
theorem pe_slice {r : V → Option Int → Option Int → Hp → VK → Prop} (hr : SlR X r) (he : PE X e te) (hl : PO X lo tl) (hu : PO X hi th) : PE X (.Subscript e (.Slice lo hi none p2) pos) (tSl r te tl th) := by
  intro pins s σ H Q I h
  refine Subscript_ (thn (he pins s σ H _ I h) fun v s1 ⟨x, H1, I1, r1, q1⟩ => ?_)
  refine wpAny_Slice (thn (hl pins s1 σ H1 _ I1 q1) fun vl s2 ⟨l, H2, I2, pl, q2⟩ => thn (hu pins s2 σ H2 _ I2 q2) fun vu s3 ⟨u, H3, I3, pu, q3⟩ => ?_)
  rw [evalPart_none]
  refine wpAny_pure ?_
  have I4 : Inv X pins σ H3 { s3 with heap := s3.heap.push { cls := .type "slice", data := .fields #[vl, vu, .none] } } := I3.kept (t' := s3.toks) fun b ob q => Heap.get?_push_of_some _ q
  obtain ⟨T, id, hT, ht, hg⟩ := hr pins { s3 with heap := s3.heap.push { cls := .type "slice", data := .fields #[vl, vu, .none] } } σ H3 x v vl vu l u s3.heap.objs.size Q I4 r1 (Heap.IsSliceOf.new ..) pl pu q3
  show wpAny (model X.prog X.w) X.A (subscriptTail e (.Slice lo hi none p2) v (.ref s3.heap.objs.size)) (EP X pins σ Q) X.xe { s3 with heap := s3.heap.push { cls := .type "slice", data := .fields #[vl, vu, .none] } }
  exact tail_any (ops := [.ref s3.heap.objs.size, v]) ht hT hg (by with_unfolding_all rfl)

noncomputable def cutV (xs : List V) (lo hi : Option Int) : List V := (xs.drop (HT.sIx xs.length 0 lo)).take (HT.sIx xs.length xs.length hi - HT.sIx xs.length 0 lo)
theorem cutV_length (xs : List V) (lo hi : Option Int) : (cutV xs lo hi).length ≤ xs.length := by
  unfold cutV
  rw [List.length_take, List.length_drop]
  omega
end
end L2

namespace L2
open PySem PySem.Spec PyProof.Rows

noncomputable def ixN (n : Nat) (i : Int) : Option Nat := if 0 ≤ i then (if i < n then some i.toNat else none) else if -(n : Int) ≤ i then some (i + n).toNat else none
noncomputable def atI {α : Type} (xs : List α) (i : Int) : Option α := (ixN xs.length i).bind fun j => xs[j]?
theorem ixN_seq {n : Nat} {i : Int} {j : Nat} (h : ixN n i = some j) : seqIndex? i n = some j ∧ j < n ∧ -(n : Int) ≤ i ∧ i < n := by
  unfold ixN at h
  by_cases h0 : 0 ≤ i
  · rw [if_pos h0] at h
    by_cases h1 : i < n
    · rw [if_pos h1] at h
      have e : i.toNat = j := Option.some.inj h
      exact ⟨by rw [seqIndex_of h0 h1, e], by omega, by omega, h1⟩
    · rw [if_neg h1] at h; cases h
  · rw [if_neg h0] at h
    by_cases h1 : -(n : Int) ≤ i
    · rw [if_pos h1] at h
      have e : (i + n).toNat = j := Option.some.inj h
      exact ⟨by rw [seqIndex_neg (by omega) h1, e], by omega, h1, by omega⟩
    · rw [if_neg h1] at h; cases h
theorem atI_get {α : Type} {xs : List α} {i : Int} {v : α} (h : atI xs i = some v) : ∃ j, seqIndex? i xs.length = some j ∧ xs[j]? = some v ∧ j < xs.length ∧ -(xs.length : Int) ≤ i ∧ i < xs.length := by
  unfold atI at h
  cases e : ixN xs.length i with
  | none => rw [e] at h; cases h
  | some j =>
    rw [e] at h
    obtain ⟨h1, h2, h3, h4⟩ := ixN_seq e
    exact ⟨j, h1, h, h2, h3, h4⟩
theorem atI_nat {α : Type} {xs : List α} {j : Nat} {v : α} (h : xs[j]? = some v) : atI xs (j : Int) = some v := by
  have hj : j < xs.length := (List.getElem?_eq_some_iff.mp h).1
  have e : ixN xs.length (j : Int) = some j := by
    unfold ixN
    rw [if_pos (by omega), if_pos (by omega)]; simp
  unfold atI; rw [e]; exact h
noncomputable def PlainIx (b : Expr) : Prop := ∀ o i, subscripted b false o i = operate [o, i] (getItem o i)
noncomputable def IxR (X : Cx) (r : R2) : Prop :=
  ∀ (value slice : Expr) (pins : List (Addr × Obj)) (s : Shared) (σ : St) (H : Hp) (x y : V) (v u : Value) (Q : VK), Inv X pins σ H s → RelV x v → RelV y u → r x y H Q →
    subscripted slice false v u = operate [v, u] (getItem v u) → wpAny (model X.prog X.w) X.A (subscriptTail value slice v u) (EP X pins σ Q) X.xe s
noncomputable def MtR (X : Cx) (id : String) (r : V → List V → Hp → VK → Prop) : Prop :=
  ∀ (pins : List (Addr × Obj)) (s : Shared) (σ : St) (H : Hp) (x : V) (xs : List V) (v : Value) (us : List Value) (Q : VK), Inv X pins σ H s → RelV x v → Vals xs us → r x xs H Q →
    wpAny (model X.prog X.w) X.A (call (.builtin id) (v :: us)) (EP X pins σ Q) X.xe s
section
variable {X : Cx} {a b : Expr} {ta tb : TE} {pos : Pos}
theorem pe_ix {r : R2} (hr : IxR X r) (ha : PE X a ta) (hb : PE X b tb) (hs : PlainIx b) : PE X (.Subscript a b pos) (tOp r ta tb) := by
  intro pins s σ H Q I h
  exact Subscript_ (binT ha hb I h fun v u s2 x y H2 I2 rx ry q => hr a b pins s2 σ H2 x y v u Q I2 rx ry q (hs _ _))

noncomputable def rIxL (K : PySem.W.Frag) : R2 := fun x y H Q => ∃ p xs i v, x = .ref p ∧ y = .int i ∧ SqL K H p xs ∧ atI xs i = some v ∧ Q v H
noncomputable def rIxT (K : PySem.W.Frag) : R2 := fun x y H Q => ∃ p xs i v, x = .ref p ∧ y = .int i ∧ SqT K H p xs ∧ atI xs i = some v ∧ Q v H
theorem ix_list : IxR X (rIxL X.K) := by
  intro value slice pins s σ H x y v u Q I rx ry h hs
  obtain ⟨p, xs, i, z, rfl, rfl, hq, he, q⟩ := h
  cases rx
  obtain ⟨t, rfl⟩ := ry
  obtain ⟨its, r, pl, hz⟩ := I.list hq
  obtain ⟨j, h1, h2, h3, h4, h5⟩ := atI_get he
  obtain ⟨w, ew, rw'⟩ := r.get h2
  have hl := r.length
  have hn := line63
  have fin : EP X pins σ Q w s := ⟨z, H, I, rw', q⟩
  by_cases h0 : 0 ≤ i
  · have hj : i.toNat = j := by
      rw [seqIndex_of h0 h5] at h1
      exact Option.some.inj h1
    exact item_listR pl.isList h0 (by omega) (by rw [hj]; simpa using ew) fin hs
  · have hj : (i + (its.toArray.size : Int)).toNat = j := by
      rw [seqIndex_neg (by omega) h4] at h1
      rw [List.size_toArray, ← hl]
      exact Option.some.inj h1
    exact subscriptTail_builtinR (x := w) pl.isList.typeIs slot_list_getitem.lookup
      (wpAny_getItem_list_neg (Q := fun r s' => r = w ∧ EP X pins σ Q r s') pl.isList (by omega) (by rw [List.size_toArray] <;> omega) (by omega) (by rw [hj]; simpa using ew) ⟨rfl, fin⟩) hs
theorem ix_tup : IxR X (rIxT X.K) := by
  intro value slice pins s σ H x y v u Q I rx ry h hs
  obtain ⟨p, xs, i, z, rfl, rfl, hq, he, q⟩ := h
  cases rx
  obtain ⟨t, rfl⟩ := ry
  obtain ⟨its, r, pl, hz⟩ := I.tuple hq
  obtain ⟨j, h1, h2, h3, h4, h5⟩ := atI_get he
  obtain ⟨w, ew, rw'⟩ := r.get h2
  have hl := r.length
  have hn := line63
  have fin : EP X pins σ Q w s := ⟨z, H, I, rw', q⟩
  exact subscriptTail_builtinR (x := w) pl.typeIs slot_tuple_getitem.lookup
    (getItem_tuple (j := j) (Q := fun r s' => r = w ∧ EP X pins σ Q r s') pl (by omega) (by omega) (by rw [List.size_toArray, ← hl]; exact h1) (by simpa using ew) ⟨rfl, fin⟩) hs
theorem slice_bounds (lo hi : Option Int) (n : Nat) : (sliceBounds lo hi none n).1 = ((HT.sIx n 0 lo : Nat) : Int) ∧ (sliceBounds lo hi none n).2.1 = ((HT.sIx n n hi : Nat) : Int) ∧ (sliceBounds lo hi none n).2.2 = 1 := by
  refine ⟨?_, ?_, rfl⟩
  · cases lo with
    | none => simp [sliceBounds, HT.sIx]
    | some i =>
      simp only [sliceBounds, HT.sIx, Option.getD_none, show (1 : Int) > 0 by decide, if_true]
      by_cases h : i < 0
      · simp only [h, if_true] <;> omega
      · simp only [h, if_false] <;> omega
  · cases hi with
    | none => simp [sliceBounds, HT.sIx]
    | some i =>
      simp only [sliceBounds, HT.sIx, Option.getD_none, show (1 : Int) > 0 by decide, if_true]
      by_cases h : i < 0
      · simp only [h, if_true] <;> omega
      · simp only [h, if_false] <;> omega
theorem slicePick_cut (its : List Value) (lo hi : Option Int) : slicePick its.toArray lo hi none = ((its.drop (HT.sIx its.length 0 lo)).take (HT.sIx its.length its.length hi - HT.sIx its.length 0 lo)).toArray := by
  obtain ⟨h1, h2, h3⟩ := slice_bounds lo hi its.toArray.size
  unfold slicePick
  rw [h1, h2, h3]
  simp only [sliceRange_one, pick_run, List.size_toArray] <;> rfl
noncomputable def rSlL (K : PySem.W.Frag) : V → Option Int → Option Int → Hp → VK → Prop := fun x lo hi H Q => ∃ a xs, x = .ref a ∧ SqL K H a xs ∧ ∀ p, H p = none → Q (.ref p) (upd H p (.lst (cutV xs lo hi)))
theorem sl_list : SlR X (rSlL X.K) := by
  intro pins s σ H x v vl vu lo hi sl Q I rx hs pl pu h
  obtain ⟨a, xs, rfl, hx, q⟩ := h
  cases rx
  obtain ⟨its, r, ht, hz⟩ := I.list hx
  have hlen := r.length
  refine ⟨"list", _, slot_list_getitem.lookup, ht.isList.typeIs, ?_⟩
  refine wpAny_getItem_list_slice ht.isList hs pl pu .none (by simp) ?_ (by rw [List.size_toArray] <;> omega)
  rw [slicePick_cut, ← hlen]
  refine ⟨.ref s.heap.objs.size, _, I.laid (t' := s.toks) (o := .lst (cutV xs lo hi)) (fun b ob q => Heap.get?_push_of_some _ q) (Nat.le_refl _) ?_, rfl, q _ (I.hok.fresh (Nat.le_refl _))⟩
  exact ⟨Nat.le_trans (cutV_length xs lo hi) hz, _, 0, (r.drop (HT.sIx xs.length 0 lo)).take (HT.sIx xs.length xs.length hi - HT.sIx xs.length 0 lo), Heap.get?_push_size _ rfl⟩

theorem call_len_seq : CallR X (.builtin "len") (fun xs H Q => ∃ p ys, xs = [.ref p] ∧ (SqL X.K H p ys ∨ SqT X.K H p ys) ∧ Q (.int ys.length) H) := by
  intro pins s σ H xs us Q I r h
  obtain ⟨p, ys, rfl, hq, q⟩ := h
  obtain ⟨u, rfl, rx⟩ := vals1 r
  cases rx
  have hn := line63
  rcases hq with hq | hq
  · obtain ⟨its, r', pl, hz⟩ := I.list hq
    have hlen := r'.length
    exact Calls.call_len_list pl.isList (by simp only [List.size_toArray] <;> omega) ⟨.int ys.length, H, I.tok _, ⟨s.toks + 1, by rw [List.size_toArray, hlen]⟩, q⟩
  · obtain ⟨its, r', pl, hz⟩ := I.tuple hq
    have hlen := r'.length
    exact len_tuple pl (by simp only [List.size_toArray] <;> omega) ⟨.int ys.length, H, I.tok _, ⟨s.toks + 1, by rw [List.size_toArray, hlen]⟩, q⟩
theorem call_list_of : CallR X (.type "list") (fun xs H Q => ∃ p ys, xs = [.ref p] ∧ (SqL X.K H p ys ∨ SqT X.K H p ys) ∧ ∀ l, H l = none → Q (.ref l) (upd H l (.lst ys))) := by
  intro pins s σ H xs us Q I r h
  obtain ⟨p, ys, rfl, hq, q⟩ := h
  obtain ⟨u, rfl, rx⟩ := vals1 r
  cases rx
  have fin : ∀ (its : List Value), Vals ys its → ys.length ≤ sizeLine → ∀ (h' : Heap) (c' : Nat), (∀ b o', s.heap.get? b = some o' → h'.get? b = some o') →
      h'.get? s.heap.objs.size = some { cls := .type "list", dict := none, data := .seq its.toArray c', slots := #[] } → EP X pins σ Q (.ref s.heap.objs.size) { s with heap := h' } := fun its r' hz h' c' kp e =>
    ⟨.ref s.heap.objs.size, _, I.laid (t' := s.toks) kp (Nat.le_refl _) (show ObjOk X.prog X.w _ h' _ (.lst ys) from ⟨hz, its, c', r', e⟩), rfl, q _ (I.hok.fresh (Nat.le_refl _))⟩
  rcases hq with hq | hq
  · obtain ⟨its, r', pl, hz⟩ := I.list hq
    have hlen := r'.length
    obtain ⟨o, ho, hc, n, hd⟩ := pl.isList
    exact call_list_seq p (.inl rfl) ho hc hd (fun h' c' kp e => fin its r' hz h' c' kp e) (by simp only [List.size_toArray] <;> omega)
  · obtain ⟨its, r', pl, hz⟩ := I.tuple hq
    have hlen := r'.length
    obtain ⟨o, ho, hc, n, hd⟩ := pl
    exact call_list_seq p (.inr rfl) ho hc hd (fun h' c' kp e => fin its r' hz h' c' kp e) (by simp only [List.size_toArray] <;> omega)
noncomputable def tyV (K : PySem.W.Frag) (T : String) (x : V) (H : Hp) : Prop := match x with
  | .str _ => T = "str"
  | .int _ => T = "int"
  | .ref p => (T = "list" ∧ ∃ xs, SqL K H p xs) ∨ (T = "tuple" ∧ ∃ o, K.lookup p = some o ∧ o.cls = .type "tuple" ∧ o.dict = none) ∨
      (T = "dict" ∧ ((∃ kvs, H p = some (.dK kvs)) ∨ ∃ kvs, H p = some (.dT kvs))) ∨ (T = "set" ∧ ∃ S n, H p = some (.set S n))
  | _ => False
theorem tyV_is {pins : List (Addr × Obj)} {σ : St} {H : Hp} {s : Shared} {T : String} {x : V} {v : Value} (I : Inv X pins σ H s) (r : RelV x v) (ty : tyV X.K T x H) :
    s.TypeIs v T ∧ ∀ a, v = .ref a → ∃ ob, s.heap.get? a = some ob ∧ ob.dict = none := by
  cases x with
  | str z =>
    obtain ⟨t, rfl⟩ := r
    cases (show T = "str" from ty)
    exact ⟨typeIs_str s z t, fun _ e => nomatch e⟩
  | int i =>
    obtain ⟨t, rfl⟩ := r
    cases (show T = "int" from ty)
    exact ⟨typeIs_int s i t, fun _ e => nomatch e⟩
  | ref p =>
    cases r
    rcases ty with ⟨rfl, xs, hq⟩ | ⟨rfl, o, hk, hc, hd⟩ | ⟨rfl, hk⟩ | ⟨rfl, S, n, hk⟩
    · obtain ⟨its, _, pl, _⟩ := I.list hq
      refine ⟨pl.isList.typeIs, fun a e => ?_⟩
      cases e
      obtain ⟨o, n, e, c, hd, _⟩ := pl
      exact ⟨o, e, hd⟩
    · refine ⟨⟨o, I.kIn p o hk, hc⟩, fun a e => ?_⟩
      cases e
      exact ⟨o, I.kIn _ o hk, hd⟩
    · have z : ∃ o, s.heap.get? p = some o ∧ o.ExactDict := by
        rcases hk with ⟨kvs, hk⟩ | ⟨kvs, hk⟩
        · obtain ⟨_, _, _, _, o, _, _, e, ex, _⟩ := I.hok p _ hk
          exact ⟨o, e, ex⟩
        · obtain ⟨_, _, _, _, o, _, _, e, ex, _⟩ := I.hok p _ hk
          exact ⟨o, e, ex⟩
      obtain ⟨o, e, ex⟩ := z
      refine ⟨⟨o, e, ex.1⟩, fun a e2 => ?_⟩
      cases e2
      exact ⟨o, e, ex.2.1⟩
    · obtain ⟨o, _, _, _, e, ex, _⟩ := I.hok p _ hk
      refine ⟨⟨o, e, ex.1⟩, fun a e2 => ?_⟩
      cases e2
      exact ⟨o, e, ex.2.1⟩
  | _ => exact False.elim ty
noncomputable def tBM (K : PySem.W.Frag) (T : String) (r : V → List V → Hp → VK → Prop) (to : TE) (t : TA) : TE := fun σ H Q => to σ H fun x H1 => tyV K T x H1 ∧ t σ H1 fun xs H2 => r x xs H2 Q
variable {o e : Expr} {es : List Expr} {to : TE} {t : TA} {name : Str} {apos cpos : Pos} {T id : String} {r : V → List V → Hp → VK → Prop}
theorem pe_bm (pa : PlainAttrs T) (slot : Slot T name id) (hty : typeOf (.builtin id) = pure (.type "method_descriptor")) (hm : MtR X id r) (ho : PE X o to) (ha : PA X (e :: es) t)
    (hbase : attributeBase o name X.env (eval o X.env) = eval o X.env := by rfl)
    (hfew : ((backTo cpos (starEach (e :: es) X.env)).all (fun x => !x.1) && (backToKw cpos (keywordEach [] X.env)).all (fun x => x.1.isSome)
      && decide ((e :: es).length + ([] : List Keyword).length + (if ([] : List Keyword).isEmpty then 0 else 1) < 30)) = true := by rfl)
    (hline : (apos.endLine == cpos.line) = true := by rfl) (hs : starEach (e :: es) X.env = (false, eval e X.env) :: starEach es X.env := by rfl) (hplain : (backTo cpos (starEach es X.env)).any (·.1) = false := by rfl) :
    PE X (.Call (.Attribute o name apos) (e :: es) [] cpos) (tBM X.K T r to t) := by
  intro pins s σ H Q I h
  refine wpAny_Call_method_late hbase hfew hline rfl (thn (ho pins s σ H _ I h) fun v s1 ⟨x, H1, I1, r1, ty, q1⟩ => ?_)
  obtain ⟨h1, h2⟩ := tyV_is I1 r1 ty
  refine ⟨T, id, pa, slot, hty, h1, h2, ?_⟩
  have hA := ha cpos pins s1 σ H1 _ I1 q1
  rw [hs] at hA ⊢
  refine Calls.callWith_builtin (by show (false || (backTo cpos (starEach es X.env)).any (·.1)) = false; rw [hplain] <;> rfl) (Calls.evalArgs_plain ?_)
  exact thn hA fun us s2 ⟨vs, H2, I2, r2, q2⟩ => hm pins s2 σ H2 x vs v us Q I2 r1 r2 q2
/- xs.append(e), list.index on a module's tuple .. are MtR facts of 06m -/
end
end L2

namespace L2
open PySem PySem.Spec PyProof.Rows

noncomputable def MtM (X : Cx) (id : String) (r : V → List V → Hp → VK → Prop) : Prop :=
  ∀ (pins : List (Addr × Obj)) (s : Shared) (σ : St) (H : Hp) (x : V) (xs : List V) (v : Value) (us : List Value) (Q : VK), Inv X pins σ H s → RelV x v → Vals xs us → r x xs H Q →
    wpAny (model X.prog X.w) X.A (call (.builtin id) (v :: us)) (EP X pins σ Q) X.xe s

theorem Vals.one : ∀ {x : V} {us : List Value}, Vals [x] us → ∃ u, us = [u] ∧ RelV x u
  | _, _, .cons r .nil => ⟨_, rfl, r⟩
section
variable {X : Cx} {pins : List (Addr × Obj)} {σ : St} {H : Hp} {s : Shared} {l b : Addr} {xs ys zs : List V}

theorem Inv.lset {its its' : List Value} {n : Nat} {f : Array Value → Array Value} {t' : Nat} (I : Inv X pins σ H s) (hH : H l = some (.lst xs))
    (e : s.heap.get? l = some { cls := .type "list", data := .seq its.toArray n }) (hf : f its.toArray = its'.toArray) (hv : Vals ys its') (hz : ys.length ≤ sizeLine) :
    Inv X pins σ (upd H l (.lst ys)) { s with heap := s.heap.update l (Obj.mapSeq f), toks := t' } := by
  have q := PySem.IsL.update e f
  rw [hf] at q
  refine I.write (x := l) (e := l) (by rw [hH]; exact trivial) (.inl rfl) (fun b' u hb hu => (Heap.get?_update_other s.heap (Obj.mapSeq f) (Ne.symm hb)).trans hu) ⟨_, q⟩ ?_
  exact ⟨hz, its', _, hv, q⟩
theorem Inv.lnew {its : List Value} {t' : Nat} (I : Inv X pins σ H s) (hv : Vals ys its) (hz : ys.length ≤ sizeLine) :
    Inv X pins σ (upd H s.heap.objs.size (.lst ys)) { s with heap := s.heap.push { cls := .type "list", data := .seq its.toArray }, toks := t' } :=
  I.laid (fun _ _ q => Heap.get?_push_of_some _ q) (Nat.le_refl _) ⟨hz, its, 0, hv, Heap.get?_push_size _ rfl⟩
theorem Inv.fresh (I : Inv X pins σ H s) : H s.heap.objs.size = none := I.hok.fresh (Nat.le_refl _)
theorem Inv.lstM (I : Inv X pins σ H s) (hH : H l = some (.lst xs)) : xs.length ≤ sizeLine ∧ ∃ (its : List Value) (n : Nat), Vals xs its ∧ xs.length = its.length ∧ s.heap.get? l = some { cls := .type "list", data := .seq its.toArray n } := by
  obtain ⟨z, its, n, r, e⟩ := I.hok l _ hH
  exact ⟨z, its, n, r, r.length, e⟩

theorem notLongL {n : Nat} (h : n ≤ sizeLine) : Builtin.List.listTooLong n = false := by
  unfold Builtin.List.listTooLong
  exact decide_eq_false (by omega)
end

section
variable {X : Cx}

noncomputable def rAppend : V → List V → Hp → VK → Prop := fun x vs H Q => ∃ l xs y, x = .ref l ∧ vs = [y] ∧ H l = some (.lst xs) ∧ xs.length < sizeLine ∧ Q .non (upd H l (.lst (xs ++ [y])))
theorem mt_append : MtM X "list.append" rAppend := by
  intro pins s σ H x vs v us Q I rx rv h
  obtain ⟨l, xs, y, rfl, rfl, hH, hz, q⟩ := h
  cases rx
  obtain ⟨u, rfl, ru⟩ := rv.one
  obtain ⟨z, its, n, r, hl, e⟩ := I.lstM hH
  refine call_meets F.slot_list_append ⟨_, e, rfl⟩ F.entry_list_append (F.args_list_append_2 _ _) (PySem.list_append l its.toArray n u (by rw [List.size_toArray]; omega)) ⟨e, ?_⟩
  refine ⟨.non, _, I.lset (its' := its ++ [u]) hH e (by simp) (r.append (.cons ru .nil)) ?_, rfl, q⟩
  rw [List.length_append, List.length_singleton]
  omega

noncomputable def rExtend : V → List V → Hp → VK → Prop := fun x vs H Q => ∃ l b xs zs, x = .ref l ∧ vs = [.ref b] ∧ H l = some (.lst xs) ∧ H b = some (.lst zs) ∧ xs.length + zs.length ≤ sizeLine ∧ Q .non (upd H l (.lst (xs ++ zs)))
theorem mt_extend : MtM X "list.extend" rExtend := by
  intro pins s σ H x vs v us Q I rx rv h
  obtain ⟨l, b, xs, zs, rfl, rfl, hH, hB, hz, q⟩ := h
  cases rx
  obtain ⟨u, rfl, ru⟩ := rv.one
  cases ru
  obtain ⟨z, its, n, r, hl, e⟩ := I.lstM hH
  obtain ⟨z2, its2, n2, r2, hl2, e2⟩ := I.lstM hB
  have hsz : its.toArray.size + its2.toArray.size ≤ sizeLine := by rw [List.size_toArray, List.size_toArray]; omega
  have hlong : ¬ (!its.toArray.isEmpty && Builtin.List.listTooLong (its.toArray.size + its2.toArray.size)) = true := by
    rw [notLongL hsz, Bool.and_false]
    exact Bool.false_ne_true
  refine call_meets F.slot_list_extend ⟨_, e, rfl⟩ F.entry_list_extend (F.args_list_extend_2 _ _)
    (AutoSeq1.list_extend_list_list_0 l its.toArray n b its2.toArray n2 hlong (by rw [List.size_toArray]; omega) (by omega)) ⟨e, e2, ?_⟩
  refine ⟨.non, _, I.lset (its' := its ++ its2) hH e (by simp) (r.append r2) ?_, rfl, q⟩
  rw [List.length_append]
  omega

noncomputable def rCat : R2 := fun x y H Q => ∃ l b xs zs, x = .ref l ∧ y = .ref b ∧ H l = some (.lst xs) ∧ H b = some (.lst zs) ∧ xs.length + zs.length ≤ sizeLine ∧ ∀ p, H p = none → Q (.ref p) (upd H p (.lst (xs ++ zs)))
theorem op_cat : OpR X (binaryOp .Add) rCat := by
  intro pins s σ H x y v u Q I rx ry h
  obtain ⟨l, b, xs, zs, rfl, rfl, hH, hB, hz, q⟩ := h
  cases rx
  cases ry
  obtain ⟨z, its, n, r, hl, e⟩ := I.lstM hH
  obtain ⟨z2, its2, n2, r2, hl2, e2⟩ := I.lstM hB
  refine PySem.P.add_list e e2 ?_ (by rw [List.size_toArray, List.size_toArray]; omega)
  have ea : its.toArray ++ its2.toArray = (its ++ its2).toArray := by simp
  rw [ea]
  exact ⟨.ref _, _, I.lnew (t' := s.toks) (r.append r2) (by rw [List.length_append]; omega), rfl, q _ I.fresh⟩
end

section
variable {prog : Program} {w : World} {A : Around} {E : Value → Shared → Prop} {s : Shared}
set_option maxRecDepth 100000 in
end

section
variable {X : Cx}
end
end L2

namespace L2
open PySem PySem.Spec PyProof.Rows

section
variable {prog : Program} {w : World} {A : Around} {E : Value → Shared → Prop} {s : Shared} {l : Addr} {its : List Value} {ns : List Int} {Q : Value → Shared → Prop}
end

section
variable {X : Cx}
end

section
variable {X : Cx}
end

section
variable {X : Cx}
end

section
variable {X : Cx}
end

mutual
inductive Dp (K : PySem.W.Frag) (H : Hp) : V → PyData → Prop
  | non : Dp K H .non .none
  | bl (b : Bool) : Dp K H (.bl b) (.bool b)
  | int (i : Int) : Dp K H (.int i) (.int i)
  | str (x : Str) : Dp K H (.str x) (.str x)
  | lst {a : Addr} {xs : List V} {ds : List PyData} : SqL K H a xs → DpAll K H xs ds → Dp K H (.ref a) (.list ds)
  | tup {a : Addr} {xs : List V} {ds : List PyData} : SqT K H a xs → DpAll K H xs ds → Dp K H (.ref a) (.tuple ds)
inductive DpAll (K : PySem.W.Frag) (H : Hp) : List V → List PyData → Prop
  | nil : DpAll K H [] []
  | cons {v : V} {vs : List V} {d : PyData} {ds : List PyData} : Dp K H v d → DpAll K H vs ds → DpAll K H (v :: vs) (d :: ds)
end
section
variable {X : Cx} {pins : List (Addr × Obj)} {σ : St} {H : Hp} {s : Shared}
mutual
theorem Dp.reads (I : Inv X pins σ H s) : ∀ (d : PyData) (v : V) (u : Value), Dp X.K H v d → RelV v u → ∃ as, Reads s.heap u d as
  | .none, _, _, h, r => by
    cases h
    cases r
    exact ⟨_, Reads.none⟩
  | .bool b, _, _, h, r => by
    cases h
    cases r
    exact ⟨_, Reads.bool b⟩
  | .int i, _, _, h, r => by
    cases h
    obtain ⟨t, rfl⟩ := r
    exact ⟨_, Reads.int i t⟩
  | .str x, _, _, h, r => by
    cases h
    obtain ⟨t, rfl⟩ := r
    exact ⟨_, Reads.str x t⟩
  | .list ds, _, _, h, r => by
    cases h with
    | lst hs ha =>
      cases r
      obtain ⟨its, rv, ⟨o, n, ho, hc, _, hd⟩, _⟩ := I.list hs
      obtain ⟨as, hr⟩ := Dp.readsAll I ds _ its ha rv
      exact ⟨_, Reads.list ho hc hd hr⟩
  | .tuple ds, _, _, h, r => by
    cases h with
    | tup hs ha =>
      cases r
      obtain ⟨its, rv, ⟨o, ho, hc, n, hd⟩, _⟩ := I.tuple hs
      obtain ⟨as, hr⟩ := Dp.readsAll I ds _ its ha rv
      exact ⟨_, Reads.tuple ho hc hd hr⟩
  | .dict _, _, _, h, _ => by cases h
theorem Dp.readsAll (I : Inv X pins σ H s) : ∀ (ds : List PyData) (vs : List V) (us : List Value), DpAll X.K H vs ds → Vals vs us → ∃ as, ReadsAll s.heap us ds as
  | [], _, _, h, r => by
    cases h
    cases r
    exact ⟨_, ReadsAll.nil⟩
  | d :: ds, _, _, h, r => by
    cases h with
    | cons h1 h2 =>
      cases r with
      | cons r1 r2 =>
        obtain ⟨as, q1⟩ := Dp.reads I d _ _ h1 r1
        obtain ⟨bs, q2⟩ := Dp.readsAll I ds _ _ h2 r2
        exact ⟨_, ReadsAll.cons q1 q2⟩
end
end
section
variable {X : Cx}
end
end L2

namespace L2
open PySem PySem.Spec PyProof.Rows
noncomputable abbrev CellAt (h : Heap) (c : Addr) (v : Option Value) : Prop := h.IsCell c v
noncomputable def relS (scope sc : Scope) : Scope :=
  { scope with names := scope.names.map fun (n, k) => if (k == .free && sc.kind == .function && sc.names.lookup n == some .cell) then (n, .cell) else (n, k) }

noncomputable def cloFrom (cells : List (Str × Addr)) : List (Str × NameKind) → List (Str × Addr) → List (Str × Addr)
  | [], acc => acc
  | (n, k) :: r, acc => if k == .free then cloFrom cells r ((n, (cells.lookup n).getD 0) :: acc) else cloFrom cells r acc

theorem closure_loop (env : Env) (f : Str × NameKind → List (Str × Addr) → Sem (ForInStep (List (Str × Addr))))
    (hf : ∀ n k c, f (n, k) c = if k == .free then (do let a ← cellOf env n; pure (.yield ((n, a) :: c))) else pure (.yield c)) :
    ∀ (names : List (Str × NameKind)) (acc : List (Str × Addr)), (∀ y ∈ names, y.2 = .free → ∃ c, env.cells.lookup y.1 = some c) → forIn names acc f = pure (cloFrom env.cells names acc)
  | [], acc, _ => by rw [List.forIn_nil]; rfl
  | (n, k) :: r, acc, h => by
    rw [List.forIn_cons, hf]
    have ih := fun acc => closure_loop env f hf r acc fun y hy => h y (List.mem_cons_of_mem _ hy)
    unfold cloFrom
    by_cases hk : (k == NameKind.free) = true
    · rw [if_pos hk, if_pos hk]
      obtain ⟨c, hc⟩ := h (n, k) List.mem_cons_self (by simpa using hk)
      have e : cellOf env n = pure c := by unfold cellOf; rw [hc]
      rw [e]
      have e2 : (env.cells.lookup n).getD 0 = c := by rw [hc]; rfl
      rw [e2]
      exact ih _
    · rw [if_neg hk, if_neg hk]
      exact ih _
theorem closure_ok {scope : Scope} {env : Env} (h : ∀ y ∈ scope.names, y.2 = .free → ∃ c, env.cells.lookup y.1 = some c) : closureFor scope env = pure (cloFrom env.cells scope.names []) := by
  simp only [closureFor]
  rw [closure_loop env _ (fun n k c => rfl) scope.names [] h]
  rfl

theorem mem_lookup {α : Type} : ∀ {l : List (Str × α)} {n : Str} {c : α}, (n, c) ∈ l → ∃ c', l.lookup n = some c'
  | (k, v) :: r, n, c, h => by
    rw [List.lookup_cons]
    cases hb : n == k with
    | true => exact ⟨_, rfl⟩
    | false =>
      rcases List.mem_cons.mp h with e | h
      · cases e; simp at hb
      · exact mem_lookup h

theorem cloFrom_mem {cells : List (Str × Addr)} : ∀ {names : List (Str × NameKind)} {acc : List (Str × Addr)} {n : Str} {c : Addr}, (n, c) ∈ cloFrom cells names acc → (n, c) ∈ acc ∨ ((n, .free) ∈ names ∧ c = (cells.lookup n).getD 0)
  | [], _, _, _, h => .inl h
  | (m, k) :: r, acc, n, c, h => by
    unfold cloFrom at h
    split at h
    · rename_i hk
      have hk : k = .free := by simpa using hk
      rcases cloFrom_mem h with h | ⟨h1, h2⟩
      · rcases List.mem_cons.mp h with e | h
        · cases e; exact .inr ⟨hk ▸ List.mem_cons_self, rfl⟩
        · exact .inl h
      · exact .inr ⟨List.mem_cons_of_mem _ h1, h2⟩
    · rcases cloFrom_mem h with h | ⟨h1, h2⟩
      · exact .inl h
      · exact .inr ⟨List.mem_cons_of_mem _ h1, h2⟩
theorem cloFrom_acc {cells : List (Str × Addr)} : ∀ {names : List (Str × NameKind)} {acc : List (Str × Addr)} {p : Str × Addr}, p ∈ acc → p ∈ cloFrom cells names acc
  | [], _, _, h => h
  | (m, k) :: r, acc, p, h => by
    unfold cloFrom
    split
    · exact cloFrom_acc (List.mem_cons_of_mem _ h)
    · exact cloFrom_acc h
theorem cloFrom_has {cells : List (Str × Addr)} : ∀ {names : List (Str × NameKind)} {acc : List (Str × Addr)} {n : Str}, (n, .free) ∈ names → (n, (cells.lookup n).getD 0) ∈ cloFrom cells names acc
  | (m, k) :: r, acc, n, h => by
    unfold cloFrom
    rcases List.mem_cons.mp h with e | h
    · cases e
      exact cloFrom_acc List.mem_cons_self
    · split
      · exact cloFrom_has h
      · exact cloFrom_has h

theorem cells_mem : ∀ {names : List (Str × NameKind)} {h : Heap} {acc : List (Str × Addr)} {x : Str} {c : Addr}, (x, c) ∈ cellsFrom h.objs.size names acc →
    (x, c) ∈ acc ∨ ((x, .cell) ∈ names ∧ h.objs.size ≤ c ∧ CellAt (pushCells h names) c none)
  | [], _, _, _, _, h => .inl h
  | (n, k) :: r, h, acc, x, c, hm => by
    unfold cellsFrom at hm
    unfold pushCells
    split at hm
    · rename_i hk
      rw [if_pos hk]
      have hk : k = .cell := by simpa using hk
      rw [← Heap.size_push h { cls := .type "cell", data := .cell none }] at hm
      rcases cells_mem hm with hm | ⟨h1, h2, h3⟩
      · rcases List.mem_cons.mp hm with e | hm
        · cases e
          exact .inr ⟨hk ▸ List.mem_cons_self, Nat.le_refl _, _, pushCells_keeps r _ _ _ (Heap.get?_push_size _ rfl), rfl⟩
        · exact .inl hm
      · rw [Heap.size_push] at h2
        exact .inr ⟨List.mem_cons_of_mem _ h1, Nat.le_of_succ_le h2, h3⟩
    · rename_i hk
      rw [if_neg hk]
      rcases cells_mem hm with hm | ⟨h1, h2, h3⟩
      · exact .inl hm
      · exact .inr ⟨List.mem_cons_of_mem _ h1, h2, h3⟩
theorem cells_acc : ∀ {names : List (Str × NameKind)} {n : Nat} {acc : List (Str × Addr)} {p : Str × Addr}, p ∈ acc → p ∈ cellsFrom n names acc
  | [], _, _, _, h => h
  | (m, k) :: r, n, acc, p, h => by
    unfold cellsFrom
    split
    · exact cells_acc (List.mem_cons_of_mem _ h)
    · exact cells_acc h
theorem cells_has : ∀ {names : List (Str × NameKind)} {n : Nat} {acc : List (Str × Addr)} {x : Str}, (x, .cell) ∈ names → ∃ c, (x, c) ∈ cellsFrom n names acc
  | (m, k) :: r, n, acc, x, h => by
    unfold cellsFrom
    rcases List.mem_cons.mp h with e | h
    · cases e
      exact ⟨n, cells_acc List.mem_cons_self⟩
    · split
      · exact cells_has h
      · exact cells_has h
theorem cells_inj : ∀ {names : List (Str × NameKind)} {h : Heap} {acc : List (Str × Addr)} {x y : Str} {c : Addr}, (∀ p ∈ acc, p.2 < h.objs.size) → (∀ x y c, (x, c) ∈ acc → (y, c) ∈ acc → x = y) →
    (x, c) ∈ cellsFrom h.objs.size names acc → (y, c) ∈ cellsFrom h.objs.size names acc → x = y
  | [], _, _, _, _, _, _, hi, h1, h2 => hi _ _ _ h1 h2
  | (n, k) :: r, h, acc, x, y, c, hl, hi, h1, h2 => by
    unfold cellsFrom at h1 h2
    split at h1
    · rename_i hk
      rw [if_pos hk] at h2
      rw [← Heap.size_push h { cls := .type "cell", data := .cell none }] at h1 h2
      refine cells_inj (h := h.push _) (fun p hp => ?_) (fun x y c a b => ?_) h1 h2
      · rw [Heap.size_push]
        rcases List.mem_cons.mp hp with rfl | hp
        · exact Nat.lt_succ_self _
        · exact Nat.lt_succ_of_lt (hl p hp)
      · rcases List.mem_cons.mp a with e | a <;> rcases List.mem_cons.mp b with e' | b
        · cases e; cases e'; rfl
        · cases e; exact absurd (hl _ b) (Nat.lt_irrefl _)
        · cases e'; exact absurd (hl _ a) (Nat.lt_irrefl _)
        · exact hi _ _ _ a b
    · rename_i hk
      rw [if_neg hk] at h2
      exact cells_inj hl hi h1 h2

theorem newEnv_comp {M : Model} {A : Around} {E : Value → Shared → Prop} {s : Shared} {scope : Scope} {globals : Addr} {closure : List (Str × Addr)} {qual : Str} {func : Option Addr} {code : Value} {around : Env} {builtins : Addr} {Q : Env → Shared → Prop}
    (h : Q (newEnv scope s.heap.objs.size globals (cellsFrom (s.heap.objs.size + 1) scope.names closure) qual func code (some around) builtins)
      { s with heap := pushCells (s.heap.push { cls := .type "dict", data := .dict #[] }) scope.names }) :
    wpAny M A (newFunctionEnv scope globals closure [] qual func code (some around) builtins) Q E s := by
  simp only [newFunctionEnv, Option.isSome_some, if_true]
  refine wpAny_bind (wpAny_alloc ?_)
  refine wpAny_bind (wpAny_layCells _ (fun n k c => rfl) scope.names closure _ _ ?_)
  rw [show ({ s with heap := s.heap.push { cls := .type "dict", data := .dict #[] } } : Shared).heap.objs.size = s.heap.objs.size + 1 from Heap.size_push ..]
  rw [List.forIn_nil]
  exact wpAny_bind (wpAny_pure (wpAny_pure h))

theorem lookup_relS {sc : Scope} : ∀ {names : List (Str × NameKind)} {x : Str} {k : NameKind},
    (names.map fun (n, k) => if (k == NameKind.free && sc.kind == .function && sc.names.lookup n == some .cell) then (n, NameKind.cell) else (n, k)).lookup x = some k →
    ∃ k', names.lookup x = some k' ∧ (k = k' ∨ (k' = .free ∧ k = .cell))
  | [], _, _, h => by simp at h
  | (n, k₀) :: r, x, k, h => by
    have ih := @lookup_relS sc r x k
    have h' : List.lookup x ((if (k₀ == NameKind.free && sc.kind == .function && sc.names.lookup n == some .cell) = true then (n, NameKind.cell) else (n, k₀)) :: (r.map _)) = some k := h
    cases hx : x == n with
    | true =>
      simp only [List.lookup_cons, hx]
      by_cases hc : (k₀ == NameKind.free && sc.kind == .function && sc.names.lookup n == some .cell) = true
      · rw [if_pos hc] at h'
        simp only [List.lookup_cons, hx] at h'
        cases h'
        simp only [Bool.and_eq_true, beq_iff_eq] at hc
        exact ⟨k₀, rfl, .inr ⟨hc.1.1, rfl⟩⟩
      · rw [if_neg hc] at h'
        simp only [List.lookup_cons, hx] at h'
        cases h'
        exact ⟨_, rfl, .inl rfl⟩
    | false =>
      simp only [List.lookup_cons, hx]
      by_cases hc : (k₀ == NameKind.free && sc.kind == .function && sc.names.lookup n == some .cell) = true
      · rw [if_pos hc] at h'
        simp only [List.lookup_cons, hx] at h'
        exact ih h'
      · rw [if_neg hc] at h'
        simp only [List.lookup_cons, hx] at h'
        exact ih h'
structure BlkOk (N : List Str) (sc scope : Scope) (own : List (Str × Nat)) : Prop where
  kind : scope.kind = .function
  uniq : ∀ y ∈ scope.names, scope.names.lookup y.1 = some y.2
  ix : ∀ p ∈ own, N[p.2]? = some p.1
  free : ∀ y ∈ scope.names, y.2 = .free → sc.names.lookup y.1 = some .cell ∨ sc.names.lookup y.1 = some .free
  own : ∀ y ∈ scope.names, y.2 = .local ∨ y.2 = .cell → y.1 ∈ own.map (·.1) ∨ y.1 ∉ N
noncomputable def wipe (σ : St) : List Nat → St
  | [] => σ
  | v :: vs => (wipe σ vs).set v none
theorem wipe_length (σ : St) : ∀ vs : List Nat, (wipe σ vs).length = σ.length
  | [] => rfl
  | v :: vs => by unfold wipe; rw [List.length_set, wipe_length σ vs]
theorem wipe_some {σ : St} {i : Nat} {x : V} : ∀ {vs : List Nat}, (wipe σ vs)[i]? = some (some x) → σ[i]? = some (some x) ∧ i ∉ vs
  | [], h => ⟨h, by simp⟩
  | v :: vs, h => by
    unfold wipe at h
    by_cases hi : v = i
    · subst hi
      by_cases hv : v < (wipe σ vs).length
      · rw [List.getElem?_set_self hv] at h; cases h
      · rw [List.getElem?_eq_none (by simpa using hv)] at h; cases h
    · rw [List.getElem?_set_ne hi] at h
      obtain ⟨h1, h2⟩ := wipe_some h
      exact ⟨h1, by simp only [List.mem_cons, not_or]; exact ⟨fun e => hi e.symm, h2⟩⟩

noncomputable abbrev Cx.blk (X : Cx) (s : Shared) (H : Hp) (scope : Scope) (cenv : Env) (fp : List Addr) : Cx := { X with s_0 := s, H_0 := H, env := cenv, outer := X.stack, ex := fp, fn := fun x => scope.names.lookup x == some .cell, pn := [], xe := fun _ _ => False }
section
variable {X : Cx} {pins : List (Addr × Obj)} {σ : St} {H : Hp} {s : Shared}
theorem block_start {scope : Scope} {own : List (Str × Nat)} {fp : List Addr} (I : Inv X pins σ H s) (ok : BlkOk X.N X.env.scope scope own) (hN : X.N.Nodup) (hfp : ∀ b ∈ fp, FpOk X pins H b ∧ b < s.heap.objs.size) :
    Inv (X.blk s H scope (compEnvC scope (cellsFrom (s.heap.objs.size + 1) scope.names (cloFrom X.env.cells scope.names [])) s.heap.objs.size X.env) fp) [] (wipe σ (own.map (·.2))) H { s with heap := pushCells (s.heap.push { cls := .type "dict", data := .dict #[] }) scope.names } := by
  have hfree : ∀ y ∈ scope.names, y.2 = .free → ∃ c, X.env.cells.lookup y.1 = some c := fun y hy e => by
    rcases ok.free y hy e with k | k
    · exact I.ok.has _ (.inl k)
    · exact I.ok.has _ (.inr k)
  generalize hcenv : compEnvC scope (cellsFrom (s.heap.objs.size + 1) scope.names (cloFrom X.env.cells scope.names [])) s.heap.objs.size X.env = cenv
  have kp : ∀ b o, s.heap.get? b = some o → (pushCells (s.heap.push { cls := .type "dict", data := .dict #[] }) scope.names).get? b = some o := fun b o e => pushCells_keeps _ _ _ _ (Heap.get?_push_of_some _ e)
  have hL : cenv.locals = s.heap.objs.size := by rw [← hcenv]; rfl
  have hcl : cenv.cells = cellsFrom (s.heap.objs.size + 1) scope.names (cloFrom X.env.cells scope.names []) := by rw [← hcenv]; rfl
  have hsc : cenv.scope = relS scope X.env.scope := by rw [← hcenv]; rfl
  rw [← Heap.size_push s.heap { cls := .type "dict", data := .dict #[] }] at hcl
  have cm : ∀ {y c}, (y, c) ∈ cloFrom X.env.cells scope.names [] → X.env.cells.lookup y = some c ∧ c < s.heap.objs.size := fun {y c} hm => by
    rcases cloFrom_mem hm with hm | ⟨h1, rfl⟩
    · cases hm
    · obtain ⟨c, hc⟩ := hfree _ h1 rfl
      rw [hc]
      obtain ⟨w, z⟩ := I.cell _ _ hc
      exact ⟨rfl, z.lt⟩
  have mem : ∀ {y c}, cenv.cells.lookup y = some c → (X.env.cells.lookup y = some c ∧ c < s.heap.objs.size) ∨ (s.heap.objs.size + 1 ≤ c ∧ CellAt (pushCells (s.heap.push { cls := .type "dict", data := .dict #[] }) scope.names) c none) := fun {y c} e => by
    rw [hcl] at e
    rcases cells_mem (PySem.mem_of_lookup e) with hm | ⟨_, h2, h3⟩
    · exact .inl (cm hm)
    · rw [Heap.size_push] at h2; exact .inr ⟨h2, h3⟩
  have look : ∀ {y}, scope.names.lookup y = some .free → ∃ c, cenv.cells.lookup y = some c ∧ X.env.cells.lookup y = some c := fun {y} hl => by
    have hy : (y, NameKind.free) ∈ scope.names := PySem.mem_of_lookup hl
    obtain ⟨c', e'⟩ := mem_lookup (cells_acc (names := scope.names) (n := (s.heap.push { cls := .type "dict", data := .dict #[] }).objs.size) (cloFrom_has (cells := X.env.cells) (acc := []) hy))
    rw [← hcl] at e'
    refine ⟨c', e', ?_⟩
    rw [hcl] at e'
    rcases cells_mem (PySem.mem_of_lookup e') with hm | ⟨h1, _, _⟩
    · exact (cm hm).1
    · have := ok.uniq _ h1
      rw [hl] at this; cases this
  have okB : (X.blk s H scope cenv fp).Ok := by
    refine ⟨I.ok.mod, by show cenv.scope.kind = _; rw [hsc]; exact ok.kind, by show cenv.globals = _; rw [← hcenv]; exact I.ok.glob, by show cenv.builtins = _; rw [← hcenv]; exact I.ok.blt, by show s.heap.objs.size ≤ cenv.locals; rw [hL]; exact Nat.le_refl _,
      fun y z c e1 e2 => ?_, fun y hy => ?_, fun y c z e => ?_, I.ok.hd, I.ok.frames, .inl rfl, fun b hb => ⟨?_, fun y c e z => ?_⟩, I.bs, Nat.le_trans I.ok.bsz I.sz, fun b o e hb => ?_, fun b hb z => ?_, I.stack, I.stkFree⟩
    · have e1 : cenv.cells.lookup y = some c := e1
      have e2 : cenv.cells.lookup z = some c := e2
      rw [hcl] at e1 e2
      refine cells_inj (fun p hp => ?_) (fun y z c a b => I.ok.inj y z c (cm a).1 (cm b).1) (PySem.mem_of_lookup e1) (PySem.mem_of_lookup e2)
      rw [Heap.size_push]
      exact Nat.lt_succ_of_lt (cm (y := p.1) (c := p.2) hp).2
    · show ∃ c, cenv.cells.lookup y = some c
      have key : ∀ k, cenv.kindOf y = some k → (k = .cell ∨ k = .free) → ∃ c, cenv.cells.lookup y = some c := fun k hk hk' => by
        unfold Env.kindOf at hk
        rw [hsc] at hk
        obtain ⟨k', e, r⟩ := lookup_relS hk
        have : k' = .cell ∨ k' = .free := by
          rcases r with rfl | ⟨rfl, _⟩
          · exact hk'
          · exact .inr rfl
        rcases this with rfl | rfl
        · obtain ⟨c, hm⟩ := cells_has (n := (s.heap.push { cls := .type "dict", data := .dict #[] }).objs.size) (acc := cloFrom X.env.cells scope.names []) (PySem.mem_of_lookup e)
          obtain ⟨c', e'⟩ := mem_lookup hm
          exact ⟨c', by rw [hcl]; exact e'⟩
        · obtain ⟨c, h1, _⟩ := look e
          exact ⟨c, h1⟩
      rcases hy with hy | hy
      · exact key _ hy (.inl rfl)
      · exact key _ hy (.inr rfl)
    · have z : (scope.names.lookup y == some NameKind.cell) = true := z
      have z : scope.names.lookup y = some .cell := by simpa using z
      have e : cenv.cells.lookup y = some c := e
      rw [hcl] at e
      rcases cells_mem (PySem.mem_of_lookup e) with hm | ⟨_, h2, _⟩
      · rcases cloFrom_mem hm with hm | ⟨h1, _⟩
        · cases hm
        · have q := ok.uniq _ h1
          rw [z] at q; cases q
      · rw [Heap.size_push] at h2
        exact Nat.le_of_succ_le h2
    · show b ≠ cenv.locals
      rw [hL]; exact Nat.ne_of_lt (hfp b hb).2
    · have e : cenv.cells.lookup y = some c := e
      rcases mem e with ⟨h1, _⟩ | ⟨h1, _⟩
      · exact (hfp b hb).1.2.2.2.2.1 y c h1 z
      · have h2 : s.heap.objs.size + 1 ≤ b := by rw [← z]; exact h1
        exact absurd (Nat.lt_of_lt_of_le (hfp b hb).2 (Nat.le_of_succ_le h2)) (Nat.lt_irrefl _)
    · rcases (hfp b hb).1.2.2.2.1 with z | z
      · exact I.ok.noex b o e z
      · exact absurd (Nat.lt_of_lt_of_le (Heap.lt_size e) (Nat.le_trans I.ok.bsz z)) (Nat.lt_irrefl _)
    · rcases List.mem_cons.mp (I.stkSub b z) with z | z
      · exact (hfp b hb).1.2.1 z
      · exact (hfp b hb).1.2.2.1 z
  refine ⟨okB, rfl, I.bare, Un.kept kp, ⟨fun _ => none, ?_, fun i y av e1 e2 e3 => ?_⟩, fun y c e => ?_, ?_, fun y c e => ?_, fun p hp => ?_, I.hok.kept kp, by rw [wipe_length]; exact I.len⟩
  · show Heap.Ns _ cenv.locals _
    rw [hL]
    exact Heap.Ns.keeps (Heap.Ns.new ..) fun b o e => pushCells_keeps _ _ _ _ e
  · obtain ⟨e2, hne⟩ := wipe_some e2
    have hfr : scope.names.lookup y = some .free ∧ (cenv.kindOf y = some .cell ∨ cenv.kindOf y = some .free) := by
      have key : ∀ k, cenv.scope.names.lookup y = some k → k = .local ∨ k = .cell ∨ k = .free → scope.names.lookup y = some .free ∧ (cenv.kindOf y = some .cell ∨ cenv.kindOf y = some .free) := fun k hk hk' => by
        have hk0 := hk
        rw [hsc] at hk
        obtain ⟨k', e, r⟩ := lookup_relS hk
        have no : ¬ (k' = .local ∨ k' = .cell) := fun hh => by
          rcases ok.own _ (PySem.mem_of_lookup e) hh with e' | e'
          · obtain ⟨p, hp, hpy⟩ := List.mem_map.mp e'
            have e3 := ok.ix p hp
            have : p.1 = y := hpy
            rw [this] at e3
            exact hne (List.mem_map.mpr ⟨p, hp, nodup_ix hN e3 e1⟩)
          · exact e' (List.mem_of_getElem? e1)
        rcases r with rfl | ⟨rfl, rfl⟩
        · rcases hk' with rfl | rfl | rfl
          · exact absurd (.inl rfl) no
          · exact absurd (.inr rfl) no
          · exact ⟨e, .inr hk0⟩
        · exact ⟨e, .inl hk0⟩
      have e3 : Vis cenv.scope y := e3
      rcases e3 with e3 | e3 | e3
      · exact key _ e3 (.inl rfl)
      · exact key _ e3 (.inr (.inl rfl))
      · exact key _ e3 (.inr (.inr rfl))
    obtain ⟨m, hn, hl⟩ := I.loc
    have hvis : Vis X.env.scope y := (ok.free _ (PySem.mem_of_lookup hfr.1) rfl).elim (fun k => .inr (.inl k)) (fun k => .inr (.inr k))
    obtain ⟨w, r, q⟩ := hl i y av e1 e2 hvis
    refine ⟨w, r, .inr ⟨hfr.2, ?_⟩⟩
    obtain ⟨c, h1, h2⟩ := look hfr.1
    rcases q with ⟨k, _⟩ | ⟨_, c', e', z⟩
    · have k : X.env.scope.names.lookup y = some .local := k
      rcases ok.free _ (PySem.mem_of_lookup hfr.1) rfl with k' | k' <;> rw [show X.env.scope.names.lookup y = _ from k'] at k <;> cases k
    · rw [h2] at e'; cases e'
      exact ⟨c, h1, z.keeps kp⟩
  · have e : cenv.cells.lookup y = some c := e
    rcases mem e with ⟨h1, _⟩ | ⟨_, z⟩
    · obtain ⟨w, z⟩ := I.cell y c h1
      exact ⟨w, z.keeps kp⟩
    · exact ⟨_, z⟩
  · show H cenv.locals = none
    rw [hL]; exact I.hok.fresh (Nat.le_refl _)
  · have e : cenv.cells.lookup y = some c := e
    rcases mem e with ⟨h1, _⟩ | ⟨h1, _⟩
    · exact I.freeC y c h1
    · exact I.hok.fresh (Nat.le_of_succ_le h1)
  · exact absurd (show p ∈ ([] : List (Addr × Obj)) ++ [] from hp) (by simp)

theorem app_ok {E : Value → Shared → Prop} {D : Addr} {xs : List V} {y : V} {v : Value} {Q : Value → Shared → Prop} (I : Inv X pins σ H s) (hD : H D = some (.lst xs)) (hz : xs.length < sizeLine) (r : RelV y v)
    (h : ∀ s', Inv X pins σ (upd H D (.lst (xs ++ [y]))) s' → Q .none s') : wpAny (model X.prog X.w) X.A (call (.builtin "list.append") [.ref D, v]) Q E s := by
  obtain ⟨hz', its, n, ri, e⟩ := I.hok D _ hD
  have hl := ri.length
  refine append_at (hsz := by rw [List.size_toArray]; omega) e fun h' sb ho' => ?_
  refine h { s with heap := h' } (I.write (t' := s.toks) (by rw [hD]; trivial) (.inl rfl) (fun b u hb q => (sb.2 b hb).trans q) ⟨_, ho'⟩ ⟨by rw [List.length_append]; exact hz, its ++ [v], n + 1, ri.append (.cons r .nil), ?_⟩)
  rw [ho']
  simp

noncomputable def PTs (X : Cx) (ifs : List Expr) (t : TT) : Prop :=
  ∀ (pins : List (Addr × Obj)) (s : Shared) (σ : St) (H : Hp) (Q : Bool → Hp → Prop), Inv X pins σ H s → t σ H Q →
    wpAny (model X.prog X.w) X.A (forIn ifs true fun c r => if r = true then do let ok ← isTrue c X.env (eval c X.env); pure (ForInStep.yield ok) else pure (ForInStep.yield r)) (TP X pins σ Q) X.xe s
noncomputable def tYes : TT := fun _ H Q => Q true H
theorem pts_nil : PTs X [] tYes := fun _ _ _ H _ I h => wpAny_tests_nil ⟨H, I, h⟩
end

theorem thnF {α : Type} {t : Sem α} {Q Q' : α → Shared → Prop} {M : Model} {A : Around} {E : Value → Shared → Prop} {s : Shared} (h : wpAny M A t Q (fun _ _ => False) s) (hQ : ∀ a s, Q a s → Q' a s) : wpAny M A t Q' E s := wpAny_mono h hQ fun _ _ z => False.elim z

theorem compLoop_any {prog : Program} {w : World} {A : Around} {R : Result → Shared → Prop} {s : Shared} {elt target iter : Expr} {ifs : List Expr} {scope : Scope} {pos : Pos} {it acc : Value} {env : Env} (I : Nat → Shared → Prop)
    (turn : ∀ n s, I n s → wpAny (model prog w) A (pyNext it) (fun r s₁ => match r with
      | none => R (.ok .next) s₁
      | some v => wpAny (model prog w) A (letOwnedTupleGo target it v) (fun _ s₁' => wpAny (model prog w) A (assign target env v) (fun _ s₂ =>
          wpAny (model prog w) A (forIn ifs true fun c r => if r = true then do let ok ← isTrue c env (eval c env); pure (ForInStep.yield ok) else pure (ForInStep.yield r)) (fun ok s₃ =>
            if ok = true then wpAny (model prog w) A (eval elt env) (fun x s₄ =>
              wpAny (model prog w) A (call (.builtin "list.append") [acc, x]) (fun _ s₅ => ∃ m, m < n ∧ I m s₅) (notedBy (model prog w) A env fun e s' => R (.error e) s') s₄) (notedBy (model prog w) A env fun e s' => R (.error e) s') s₃
            else ∃ m, m < n ∧ I m s₃) (notedBy (model prog w) A env fun e s' => R (.error e) s') s₂) (notedBy (model prog w) A env fun e s' => R (.error e) s') s₁') (notedBy (model prog w) A env fun e s' => R (.error e) s') s₁) (notedBy (model prog w) A env fun e s' => R (.error e) s') s)
    (n : Nat) (h : I n s) :
    codeAny (model prog w) A (.compLoop (.ListComp elt [⟨target, iter, ifs, 0⟩] scope pos) 0 it acc env) R s := by
  refine codeAny_loop rfl I (fun n s hI => ?_) n h
  show wpAny _ A ((compTurn (.ListComp elt [⟨target, iter, ifs, 0⟩] scope pos) 0 it acc env).onRaise (fun x => do noteFrame x env; theTreesLotGoes x)) _ _ s
  refine wpAny_noted ?_
  rw [compTurn_list]
  refine wpAny_bind (wpAny_standAt (wpAny_bind (wpAny_mono (turn n s hI) (fun r s₁ h₁ => ?_) fun _ _ h' => h')))
  cases r with
  | none => exact wpAny_pure h₁
  | some v =>
    refine wpAny_bind (wpAny_mono h₁ (fun _ s₁' h₁' => ?_) fun _ _ h' => h')
    refine wpAny_bind (wpAny_mono h₁' (fun _ s₂ h₂ => wpAny_bind (wpAny_mono h₂ (fun ok s₃ h₃ => ?_) fun _ _ h' => h')) fun _ _ h' => h')
    cases ok with
    | false => exact wpAny_pure ⟨rfl, h₃⟩
    | true =>
      exact wpAny_bind (wpAny_bind (wpAny_mono h₃ (fun x s₄ h₄ => wpAny_bind (wpAny_mono h₄ (fun _ s₅ h₅ => wpAny_pure (wpAny_pure ⟨rfl, h₅⟩)) fun _ _ h' => h')) fun _ _ h' => h'))

section
variable {X : Cx}
noncomputable def tLc (wi : TI) (g : TG) (tt : TT) (te : TE) (vs : List Nat) : TE := fun σ H Q => wi σ H fun J H1 => ∀ D, H1 D = none → ∃ W : Nat → Nat → Hp → Prop, (∃ m, W 0 m (upd H1 D (.lst []))) ∧ ∀ i m H, W i m H →
  (J.stop i H ∧ Q (.ref D) H) ∨ (J.go i H ∧ ∃ Nx : Hp → Prop, (∀ H', Nx H' → ∃ m', m' < m ∧ W (i + 1) m' H') ∧ ∀ x H', J.yld i H x H' → g x (wipe σ vs) H' fun σ2 H2 => wipe σ2 vs = wipe σ vs ∧ tt σ2 H2 fun b H3 =>
    if b = true then te σ2 H3 fun y H4 => ∃ acc, H4 D = some (.lst acc) ∧ acc.length < sizeLine ∧ Nx (upd H4 D (.lst (acc ++ [y]))) else Nx H3)
theorem lc_core {pins : List (Addr × Obj)} {s : Shared} {σ : St} {H : Hp} {Q : VK} {elt tg iter : Expr} {ifs : List Expr} {scope : Scope} {own : List (Str × Nat)} {pos pos' : Pos} {wi : TI} {g : TG} {tt : TT} {te : TE} {use : Option (Value → Sem Unit)} {Qf : Value → Shared → Prop}
    (hc : X.calm = true) (hN : X.N.Nodup) (I : Inv X pins σ H s) (hi : PI X tg iter wi) (ok : BlkOk X.N X.env.scope scope own)
    (hg : ∀ (s : Shared) (H : Hp) (C : Addr) (cl : List (Str × Addr)) (fp : List Addr), PG (X.blk s H scope (compEnvC scope cl C X.env) fp) tg g) (ht : ∀ (s : Shared) (H : Hp) (C : Addr) (cl : List (Str × Addr)) (fp : List Addr), PTs (X.blk s H scope (compEnvC scope cl C X.env) fp) ifs tt)
    (he : ∀ (s : Shared) (H : Hp) (C : Addr) (cl : List (Str × Addr)) (fp : List Addr), PE (X.blk s H scope (compEnvC scope cl C X.env) fp) elt te) (hs : ∀ x, foldedSetIterable iter X.env x = pure x)
    (h : tLc wi g tt te (own.map (·.2)) σ H Q)
    (hRR : ∀ D C s' m H', Inv X pins σ H' s' → Q (.ref D) H' → s'.heap.Ns C m → FpOk X pins H' C → compPost (model X.prog X.w) X.A X.xe use Qf (.ref D) C (.ok .next) s') :
    wpAny (model X.prog X.w) X.A (comprehension (.ListComp elt [⟨tg, iter, ifs, 0⟩] scope pos) scope X.env pos' (newList []) false (eval iter X.env) use) Qf X.xe s := by
  have hfree : ∀ y ∈ scope.names, y.2 = .free → ∃ c, X.env.cells.lookup y.1 = some c := fun y hy e => by
    rcases ok.free y hy e with k | k
    · exact I.ok.has _ (.inl k)
    · exact I.ok.has _ (.inr k)
  refine wpAny_comprehension_free (use := use) rfl hs (closure_ok hfree) ok.kind (fun y hy e => by rw [ok.uniq y hy, e])
    (thn (hi pins s σ H _ I h) fun xv s1 hx => thn hx fun itv s2 h2 => ?_)
  obtain ⟨it, fp, tn, J, H2, e, I2, T, st2, f2, q⟩ := h2
  subst e
  refine wpAny_newObj_type (newEnv_comp ?_) (by show 0 ≤ sizeLine; decide)
  generalize hD : s2.heap.objs.size = D
  have hDn : H2 D = none := I2.hok.fresh (Nat.le_of_eq hD)
  obtain ⟨W, ⟨m0, w0⟩, turn⟩ := q D hDn
  -- the new list
  generalize hs3 : ({ s2 with heap := s2.heap.push { cls := .type "list", data := .seq ([] : List Value).toArray } } : Shared) = s3
  have I3 : Inv X pins σ (upd H2 D (.lst [])) s3 := by
    rw [← hs3]
    refine I2.laid (t' := s2.toks) (fun b o e => Heap.get?_push_of_some _ e) (Nat.le_of_eq hD) ⟨Nat.zero_le _, [], 0, .nil, ?_⟩
    rw [← hD]
    exact Heap.get?_push_size _ rfl
  have h3 : s3.heap = s2.heap.push { cls := .type "list", data := .seq ([] : List Value).toArray } := by rw [← hs3]
  have sz : ∀ b ∈ fp, b < s2.heap.objs.size := fun b hb => by
    obtain ⟨o, e, _⟩ := T.obj _ _ st2 b hb
    exact Heap.lt_size e
  have f3 : ∀ b ∈ fp, FpOk X pins (upd H2 D (.lst [])) b ∧ b < s3.heap.objs.size := fun b hb => by
    have hlt := sz b hb
    refine ⟨⟨?_, (f2 b hb).2⟩, by rw [h3, Heap.size_push]; exact Nat.lt_succ_of_lt hlt⟩
    rw [upd_ne (by rw [← hD]; exact Nat.ne_of_lt hlt)]
    exact (f2 b hb).1
  have st3 : tn 0 s3.heap := T.keep _ _ _ st2 fun b _ o e => by rw [h3]; exact Heap.get?_push_of_some _ e
  have I4 := block_start I3 ok hN f3
  have pg := hg s3 (upd H2 D (.lst [])) s3.heap.objs.size (cellsFrom (s3.heap.objs.size + 1) scope.names (cloFrom X.env.cells scope.names [])) fp
  have pt := ht s3 (upd H2 D (.lst [])) s3.heap.objs.size (cellsFrom (s3.heap.objs.size + 1) scope.names (cloFrom X.env.cells scope.names [])) fp
  have pe := he s3 (upd H2 D (.lst [])) s3.heap.objs.size (cellsFrom (s3.heap.objs.size + 1) scope.names (cloFrom X.env.cells scope.names [])) fp
  show codeAny _ _ (.compStart (.ListComp elt [⟨tg, iter, ifs, 0⟩] scope pos) 0 (.ref it) (.ref D) (compEnvC scope (cellsFrom (s3.heap.objs.size + 1) scope.names (cloFrom X.env.cells scope.names [])) s3.heap.objs.size X.env)) (compPost (model X.prog X.w) X.A X.xe use Qf (.ref D) s3.heap.objs.size) { s3 with heap := pushCells (s3.heap.push { cls := .type "dict", data := .dict #[] }) scope.names }
  have nfp : ∀ b ∈ fp, (upd H2 D (.lst [])) b = none := fun b hb => (f3 b hb).1.1
  generalize hce : compEnvC scope (cellsFrom (s3.heap.objs.size + 1) scope.names (cloFrom X.env.cells scope.names [])) s3.heap.objs.size X.env = ce at I4 pg pt pe ⊢
  have cL : ce.locals = s3.heap.objs.size := by subst hce; rfl
  generalize hH3 : upd H2 D (.lst []) = H3 at I3 I4 pg pt pe w0 nfp f3
  generalize hs4 : ({ s3 with heap := pushCells (s3.heap.push { cls := .type "dict", data := .dict #[] }) scope.names } : Shared) = s4 at I4 ⊢
  have st4 : tn 0 s4.heap := T.keep _ _ _ st3 fun b _ o e => by rw [← hs4]; exact pushCells_keeps _ _ _ _ (Heap.get?_push_of_some _ e)
  have stat : ∀ {σ' : St} {H' : Hp} {s' : Shared}, Inv (X.blk s3 H3 scope ce fp) [] σ' H' s' → (∀ b ∈ fp, H' b = none) → ∀ b ∈ fp, FpOk (X.blk s3 H3 scope ce fp) [] H' b := fun {σ' H' s'} I' hn b hb =>
    ⟨hn b hb, (I'.ok.exf b hb).1, I'.ok.exfs b hb, .inl hb, fun x c e => (I'.ok.exf b hb).2 x c e, fun p hp => absurd (show p ∈ ([] : List (Addr × Obj)) ++ [] from hp) (by simp)⟩
  have loop : codeAny (model X.prog X.w) X.A (.compLoop (.ListComp elt [⟨tg, iter, ifs, 0⟩] scope pos) 0 (.ref it) (.ref D) ce) (compPost (model X.prog X.w) X.A X.xe use Qf (.ref D) s3.heap.objs.size) s4 := by
    refine compLoop_any (fun n s' => ∃ i H', Inv (X.blk s3 H3 scope ce fp) [] (wipe σ (own.map (·.2))) H' s' ∧ tn i s'.heap ∧ (∀ b ∈ fp, H' b = none) ∧ W i n H') ?_ m0 ⟨0, H3, I4, st4, nfp, w0⟩
    rintro n s5 ⟨i, H5, I5, st5, n5, w5⟩
    rcases turn i n H5 w5 with ⟨stop, qq⟩ | ⟨go, Nx, hNx, step⟩
    · have td := T.done (X.blk s3 H3 scope ce fp) rfl rfl rfl hc i [] s5 _ H5 (fun _ _ => False) I5 (stat I5 n5) st5 stop
      refine thnF td fun r s6 ⟨hr, I6⟩ => ?_
      subst hr
      -- back in the def's context
      have I7 : Inv X pins σ H5 s6 := I3.call' (ch := fp) I6.os I6.base I6.hok I6.bare fun b hb => ⟨(f3 b hb).1.2.2.2.1, (f3 b hb).1.2.1, (f3 b hb).1.2.2.2.2.1, (f3 b hb).1.2.2.2.2.2⟩
      have nC : H5 s3.heap.objs.size = none := by
        have z : H5 ce.locals = none := I6.free
        rw [cL] at z
        exact z
      obtain ⟨m, hn, _⟩ := I6.loc
      have hn : s6.heap.Ns ce.locals m := hn
      rw [cL] at hn
      exact hRR D s3.heap.objs.size s6 m H5 I7 qq hn (I3.fpOk (Nat.le_refl _) nC)
    · have ti := T.item (X.blk s3 H3 scope ce fp) rfl rfl rfl hc i [] s5 _ H5 (fun _ _ => False) I5 (stat I5 n5) st5 go
      refine thnF ti fun r s6 ⟨u, hr, h6⟩ => ?_
      subst hr
      refine thnF h6 fun _ s7 ⟨x, H7, I7, r7, y7, st7, n7⟩ => ?_
      have I7' := I7.pinned (stat I7 n7) (T.obj _ _ st7)
      refine thnF (pg _ s7 _ H7 x u _ I7' r7 (step x H7 y7)) fun _ s8 ⟨σ8, H8, I8, hw8, q8⟩ => ?_
      refine thnF (pt _ s8 σ8 H8 _ I8 q8) fun b s9 ⟨H9, I9, q9⟩ => ?_
      -- the turn's end
      have fin : ∀ {s' : Shared} {H' : Hp}, Inv (X.blk s3 H3 scope ce fp) ([] ++ pinsAt fp s7.heap) σ8 H' s' → Nx H' → ∃ m, m < n ∧ ∃ i H', Inv (X.blk s3 H3 scope ce fp) [] (wipe σ (own.map (·.2))) H' s' ∧ tn i s'.heap ∧ (∀ b ∈ fp, H' b = none) ∧ W i m H' := fun {s' H'} I' nx => by
        obtain ⟨m', hm, w'⟩ := hNx H' nx
        have pin' : ∀ b ∈ fp, ∀ o, s7.heap.get? b = some o → s'.heap.get? b = some o ∧ H' b = none := fun b hb o e =>
          let z := I'.pin (b, o) (List.mem_append_right _ (List.mem_append_right _ (mem_pinsAt hb e)))
          ⟨z.1, z.2.1⟩
        have hl : (wipe σ (own.map (·.2))).length = σ8.length := by rw [← hw8, wipe_length]
        refine ⟨m', hm, i + 1, H', (I'.unpinned (pins := [])).weak hl (fun j v e => ?_), T.keep _ _ _ st7 fun b hb o e => (pin' b hb o e).1, fun b hb => ?_, w'⟩
        · rw [← hw8] at e
          exact (wipe_some e).1
        · obtain ⟨o, e, _⟩ := T.obj _ _ st7 b hb
          exact (pin' b hb o e).2
      cases b with
      | false =>
        simp only [Bool.false_eq_true, if_false] at q9 ⊢
        exact fin I9 q9
      | true =>
        simp only [if_true] at q9 ⊢
        refine thnF (pe _ s9 σ8 H9 _ I9 q9) fun z s10 ⟨yv, H10, I10, r10, acc, hD10, hz10, nx⟩ => ?_
        exact app_ok (X := X.blk s3 H3 scope ce fp) I10 hD10 hz10 r10 fun s11 I11 => fin I11 nx
  exact codeAny_compStart_list loop (T.self X.A 0 _ _ _ st4 loop)
theorem pe_lc {elt tg iter : Expr} {ifs : List Expr} {scope : Scope} {own : List (Str × Nat)} {pos : Pos} {wi : TI} {g : TG} {tt : TT} {te : TE} (hc : X.calm = true) (hN : X.N.Nodup) (hi : PI X tg iter wi) (ok : BlkOk X.N X.env.scope scope own)
    (hg : ∀ (s : Shared) (H : Hp) (C : Addr) (cl : List (Str × Addr)) (fp : List Addr), PG (X.blk s H scope (compEnvC scope cl C X.env) fp) tg g) (ht : ∀ (s : Shared) (H : Hp) (C : Addr) (cl : List (Str × Addr)) (fp : List Addr), PTs (X.blk s H scope (compEnvC scope cl C X.env) fp) ifs tt)
    (he : ∀ (s : Shared) (H : Hp) (C : Addr) (cl : List (Str × Addr)) (fp : List Addr), PE (X.blk s H scope (compEnvC scope cl C X.env) fp) elt te) (hs : ∀ x, foldedSetIterable iter X.env x = pure x := by intro _; rfl) :
    PE X (.ListComp elt [⟨tg, iter, ifs, 0⟩] scope pos) (tLc wi g tt te (own.map (·.2))) := by
  intro pins s σ H Q I h
  rw [eval_ListComp]
  refine lc_core hc hN I hi ok hg ht he hs h fun D C s' m H' I' q hn f => ⟨m, hn, fun h'' sb => ?_⟩
  obtain ⟨f0, f1, f2, f3, f4, f5⟩ := f
  exact ⟨.ref D, H', I'.turned (t' := s'.toks) (fun b o hb e => (sb.2 b hb).trans e) f0 f1 f3 f4 f5, rfl, q⟩
end

theorem lc_range {lo : Int} {n : Nat} {g : TG} {tt : TT} {te : TE} {vs : List Nat} {σ : St} {H1 : Hp} {D : Addr} {Qd : Hp → Prop} (Pv : Nat → Hp → Prop) (h0 : Pv 0 (upd H1 D (.lst [])))
    (hs : ∀ i H, i < n → Pv i H → g (.int (lo + i)) (wipe σ vs) H fun σ2 H2 => wipe σ2 vs = wipe σ vs ∧ tt σ2 H2 fun b H3 =>
      if b = true then te σ2 H3 fun y H4 => ∃ acc, H4 D = some (.lst acc) ∧ acc.length < sizeLine ∧ Pv (i + 1) (upd H4 D (.lst (acc ++ [y]))) else Pv (i + 1) H3) (hd : ∀ H, Pv n H → Qd H) :
    ∃ W : Nat → Nat → Hp → Prop, (∃ m, W 0 m (upd H1 D (.lst []))) ∧ ∀ i m H, W i m H →
      ((Itr lo n).stop i H ∧ Qd H) ∨ ((Itr lo n).go i H ∧ ∃ Nx : Hp → Prop, (∀ H', Nx H' → ∃ m', m' < m ∧ W (i + 1) m' H') ∧ ∀ x H', (Itr lo n).yld i H x H' → g x (wipe σ vs) H' fun σ2 H2 => wipe σ2 vs = wipe σ vs ∧ tt σ2 H2 fun b H3 =>
        if b = true then te σ2 H3 fun y H4 => ∃ acc, H4 D = some (.lst acc) ∧ acc.length < sizeLine ∧ Nx (upd H4 D (.lst (acc ++ [y]))) else Nx H3) := by
  refine ⟨fun i m H => m = n - i ∧ i ≤ n ∧ Pv i H, ⟨n, by simp, Nat.zero_le _, h0⟩, ?_⟩
  rintro i m H ⟨rfl, hi, p⟩
  by_cases hlt : i < n
  · refine .inr ⟨hlt, Pv (i + 1), fun H' p' => ⟨n - (i + 1), by omega, rfl, hlt, p'⟩, fun x H' y => ?_⟩
    obtain ⟨e, y⟩ := y
    subst e y
    exact hs i _ hlt p
  · have e : i = n := by omega
    subst e
    exact .inl ⟨Nat.le_refl _, hd H p⟩
theorem lc_list {K : PySem.W.Frag} {a : Addr} {xs : List V} {g : TG} {tt : TT} {te : TE} {vs : List Nat} {σ : St} {H1 : Hp} {D : Addr} {Qd : Hp → Prop} (Pv : Nat → Hp → Prop) (h0 : Pv 0 (upd H1 D (.lst []))) (hl : ∀ i H, i ≤ xs.length → Pv i H → SqL K H a xs)
    (hs : ∀ i x H, xs[i]? = some x → Pv i H → g x (wipe σ vs) H fun σ2 H2 => wipe σ2 vs = wipe σ vs ∧ tt σ2 H2 fun b H3 =>
      if b = true then te σ2 H3 fun y H4 => ∃ acc, H4 D = some (.lst acc) ∧ acc.length < sizeLine ∧ Pv (i + 1) (upd H4 D (.lst (acc ++ [y]))) else Pv (i + 1) H3) (hd : ∀ H, Pv xs.length H → Qd H) :
    ∃ W : Nat → Nat → Hp → Prop, (∃ m, W 0 m (upd H1 D (.lst []))) ∧ ∀ i m H, W i m H →
      ((Itl K a).stop i H ∧ Qd H) ∨ ((Itl K a).go i H ∧ ∃ Nx : Hp → Prop, (∀ H', Nx H' → ∃ m', m' < m ∧ W (i + 1) m' H') ∧ ∀ x H', (Itl K a).yld i H x H' → g x (wipe σ vs) H' fun σ2 H2 => wipe σ2 vs = wipe σ vs ∧ tt σ2 H2 fun b H3 =>
        if b = true then te σ2 H3 fun y H4 => ∃ acc, H4 D = some (.lst acc) ∧ acc.length < sizeLine ∧ Nx (upd H4 D (.lst (acc ++ [y]))) else Nx H3) := by
  refine ⟨fun i m H => m = xs.length - i ∧ i ≤ xs.length ∧ Pv i H, ⟨xs.length, by simp, Nat.zero_le _, h0⟩, ?_⟩
  rintro i m H ⟨rfl, hi, p⟩
  have q := hl i H hi p
  by_cases hlt : i < xs.length
  · refine .inr ⟨⟨xs, xs[i], q, by simp [hlt]⟩, Pv (i + 1), fun H' p' => ⟨xs.length - (i + 1), by omega, rfl, hlt, p'⟩, fun x H' y => ?_⟩
    obtain ⟨e, y⟩ := y
    subst e
    exact hs i x _ (y xs q) p
  · have e : i = xs.length := by omega
    subst e
    exact .inl ⟨⟨xs, q, Nat.le_refl _⟩, hd H p⟩
noncomputable def blkC (N : List Str) (sc scope : Scope) (own : List (Str × Nat)) : Bool :=
  (match scope.kind with | .function => true | _ => false) && (scope.names.all fun y => decide (scope.names.lookup y.1 = some y.2)) && (own.all fun p => decide (N[p.2]? = some p.1)) &&
    (scope.names.all fun y => match y.2 with
      | .free => (match sc.names.lookup y.1 with | some .cell => true | some .free => true | _ => false)
      | .local => decide (y.1 ∈ own.map (·.1)) || decide (y.1 ∉ N)
      | .cell => decide (y.1 ∈ own.map (·.1)) || decide (y.1 ∉ N)
      | _ => true)
theorem blkOk_by {N : List Str} {sc scope : Scope} {own : List (Str × Nat)} (h : blkC N sc scope own = true) : BlkOk N sc scope own := by
  unfold blkC at h
  simp only [Bool.and_eq_true, List.all_eq_true, decide_eq_true_eq] at h
  obtain ⟨⟨⟨h1, h2⟩, h3⟩, h4⟩ := h
  refine ⟨?_, h2, h3, fun y hy e => ?_, fun y hy e => ?_⟩
  · split at h1
    · assumption
    · cases h1
  · have q := h4 y hy
    simp only [e] at q
    split at q <;> first | exact .inl (by assumption) | exact .inr (by assumption) | cases q
  · have q := h4 y hy
    rcases e with e | e <;> (simp only [e, Bool.or_eq_true, decide_eq_true_eq] at q; exact q)
end L2

namespace L2
open PySem PySem.Spec PyProof.Rows

section
variable {prog : Program} {w : World} {A : Around} {R : Result → Shared → Prop} {s : Shared} {elt t0 i0 t1 i1 : Expr} {ifs0 ifs1 : List Expr} {scope : Scope} {pos : Pos} {it acc : Value} {env : Env}
end

section
variable {X : Cx}
end
end L2

namespace L2
open PySem PySem.Spec PyProof.Rows

section
variable {κ : Type} [DecidableEq κ]
end


section
variable {P : Program} {w : World} {H : Hp} {h : Heap} {a : Addr}
end

section
variable {X : Cx} {pins : List (Addr × Obj)} {σ : St} {H : Hp} {s : Shared} {a : Addr} {y v : V} {u r : Value} {o : Option V} {A : Around} {E : Value → Shared → Prop}

end

section
variable {X : Cx} {pins : List (Addr × Obj)} {σ : St} {H : Hp} {s : Shared} {a : Addr} {kvs : List (Key × V)} {k : Key} {u : Value} {A : Around} {E : Value → Shared → Prop}
end


section
variable {X : Cx} {o i e value : Expr} {pos pos' tpos : Pos} {td ty tv : TE}
end


section
variable {X : Cx} {pos : Pos}
end

structure M1 (X : Cx) (o : Expr) (m : Str) (apos : Pos) (e : Expr) (cpos : Pos) : Prop where
  base : attributeBase o m X.env (eval o X.env) = eval o X.env
  few : ((backTo cpos (starEach [e] X.env)).all (fun x => !x.1) && (backToKw cpos (keywordEach [] X.env)).all (fun x => x.1.isSome)
    && decide (([e] : List Expr).length + ([] : List Keyword).length + (if ([] : List Keyword).isEmpty then 0 else 1) < 30)) = true
  line : (apos.endLine == cpos.line) = true
  trees : backTo cpos (starEach [e] X.env) = [(false, eval e X.env)]
structure M2 (X : Cx) (o : Expr) (m : Str) (apos : Pos) (e f : Expr) (cpos : Pos) : Prop where
  base : attributeBase o m X.env (eval o X.env) = eval o X.env
  few : ((backTo cpos (starEach [e, f] X.env)).all (fun x => !x.1) && (backToKw cpos (keywordEach [] X.env)).all (fun x => x.1.isSome)
    && decide (([e, f] : List Expr).length + ([] : List Keyword).length + (if ([] : List Keyword).isEmpty then 0 else 1) < 30)) = true
  line : (apos.endLine == cpos.line) = true
  trees : backTo cpos (starEach [e, f] X.env) = [(false, eval e X.env), (false, eval f X.env)]

section
variable {X : Cx} {pins : List (Addr × Obj)} {σ : St} {H : Hp} {s : Shared} {a : Addr} {y d : V} {u r : Value} {o : Option V} {A : Around} {E : Value → Shared → Prop}
end

section
variable {X : Cx} {o e f : Expr} {apos cpos : Pos} {td ty tx : TE}
end

section
variable {X : Cx} {pins : List (Addr × Obj)} {σ : St} {H : Hp} {s : Shared} {a : Addr} {kvs : List (Key × V)} {A : Around} {E : Value → Shared → Prop}
end


section
variable {X : Cx} {pins : List (Addr × Obj)} {σ : St} {H : Hp} {s : Shared} {a : Addr} {y : V} {u : Value} {A : Around} {E : Value → Shared → Prop}
end
end L2

namespace L2
open PySem PySem.Spec PyProof.Rows

section
variable {prog : Program} {w : World} {A : Around} {E : Value → Shared → Prop}
end

section
variable {X : Cx}
end
end L2

namespace L2
open PySem PySem.Spec PyProof.Rows

section
variable {X : Cx} {pins : List (Addr × Obj)} {σ : St} {H : Hp} {s : Shared} {h' : Heap}
theorem Inv.turnedL {t' : Nat} {ch : List Addr} (I : Inv X pins σ H s) (k : ∀ b o, b ∉ ch → s.heap.get? b = some o → h'.get? b = some o) (hf : ∀ b ∈ ch, FpOk X pins H b) : Inv X pins σ H { s with heap := h', toks := t' } := by
  have nit : ∀ b u, H b = some u → b ∉ ch := fun b u e z => by
    have q := (hf b z).1
    rw [q] at e; cases e
  refine I.step (g' := s.gens) (d' := s.drawn) (ch := ch) (fun b hb => ⟨(hf b hb).2.2.2.1, (hf b hb).2.1, (hf b hb).2.2.2.2.1, (hf b hb).2.2.2.2.2⟩) (fun b o _ _ hc e _ => k b o hc e) (fun b o _ _ hc e _ => ⟨o.slots, k b o hc e⟩)
    (fun _ _ _ _ n => n) (fun b o hc e => ⟨o, k b o hc e⟩) (fun _ _ e => e) (fun _ _ _ e => e) (fun b ps e => ⟨#[], by rw [e]; simp⟩) (fun m hm => ?_) (fun b u e => ?_) I.bare
  · obtain ⟨o, es, ep, ho, r⟩ := hm
    exact ⟨o, es, ep, k _ o (fun z => (hf _ z).2.1 rfl) ho, r⟩
  · refine (I.hok b u e).stay (fun c v hc q => k c v ?_ q) (fun _ q => q) fun _ _ q => q
    rcases hc with z | z
    · rw [z]; exact nit b u e
    · exact nit c _ z
theorem Inv.turnedNew {t' : Nat} {ch : List Addr} {T : Addr} {ob : HO} (I : Inv X pins σ H s) (k : ∀ b o, b ∉ ch → s.heap.get? b = some o → h'.get? b = some o) (hf : ∀ b ∈ ch, FpOk X pins H b) (hT : s.heap.objs.size ≤ T)
    (new : ObjOk X.prog X.w (upd H T ob) h' T ob) : Inv X pins σ (upd H T ob) { s with heap := h', toks := t' } := by
  have hn : H T = none := I.hok.fresh hT
  have nit : ∀ b u, H b = some u → b ∉ ch := fun b u e z => by
    have q := (hf b z).1
    rw [q] at e; cases e
  refine I.step (g' := s.gens) (d' := s.drawn) (ch := ch) (fun b hb => ⟨(hf b hb).2.2.2.1, (hf b hb).2.1, (hf b hb).2.2.2.2.1, (hf b hb).2.2.2.2.2⟩) (fun b o _ _ hc e _ => k b o hc e) (fun b o _ _ hc e _ => ⟨o.slots, k b o hc e⟩)
    (fun b o _ e n => ?_) (fun b o hc e => ⟨o, k b o hc e⟩) (fun b xs e => ?_) (fun b o u e => ?_) (fun b ps e => ⟨#[], ?_⟩) (fun m hm => ?_) (fun b u e => ?_) I.bare
  · rw [upd_ne (Nat.ne_of_lt (Nat.lt_of_lt_of_le (Heap.lt_size e) hT))]; exact n
  · rw [upd_ne (ne_of_none e hn)]; exact e
  · rw [upd_ne (ne_of_none e hn)]; exact e
  · rw [upd_ne (ne_of_none e hn), e]; simp
  · obtain ⟨o, es, ep, ho, r⟩ := hm
    exact ⟨o, es, ep, k _ o (fun z => (hf _ z).2.1 rfl) ho, r⟩
  · by_cases hb : b = T
    · subst hb
      rw [upd_same] at e
      cases e
      exact new
    · rw [upd_ne hb] at e
      refine (I.hok b u e).stay (fun c v hc q => k c v ?_ q) (fun c q => by rw [upd_ne (ne_of_none q hn)]; exact q) fun c xs q => by rw [upd_ne (ne_of_none q hn)]; exact q
      rcases hc with z | z
      · rw [z]; exact nit b u e
      · exact nit c _ z

end
noncomputable def tLock (t : TS) : TS := fun D σ H => ∃ d u, H d = some u ∧ Mut (some u) ∧ ∀ od, t ⟨fun σ' H' => H' d = some (.frz od u) ∧ D.nx σ' (upd H' d u), fun v H' => H' d = some (.frz od u) ∧ D.rt v (upd H' d u), fun σ' H' => H' d = some (.frz od u) ∧ D.bk σ' (upd H' d u), fun σ' H' => H' d = some (.frz od u) ∧ D.ct σ' (upd H' d u)⟩ σ (upd H d (.frz od u))
section
variable {X : Cx}
end

section
variable {X : Cx} {tg : Expr}
end
section
variable {X : Cx} {tg : Expr}
end

section
variable {prog : Program} {w : World} {A : Around} {E : Value → Shared → Prop} {s : Shared}
end

section
variable {X : Cx} {pins : List (Addr × Obj)} {σ : St} {H : Hp} {s : Shared} {d : Addr} {o : Obj}
end

section
variable {P : Program} {w : World} {K : PySem.W.Frag} {tg : Expr} {d : Addr} {o : Obj} {es : Array DictEntry} {ep : Nat}
end

section
variable {X : Cx} {tg e : Expr} {td : TE} {apos cpos : Pos}
end

noncomputable def Ite (K : PySem.W.Frag) (a : Addr) : It :=
  ⟨fun i H => ∃ (xs : List V) (x : V), SqL K H a xs ∧ xs[i]? = some x, fun i H v H' => ∃ T x, v = .ref T ∧ H T = none ∧ H' = upd H T (.tup [.int (i : Nat), x]) ∧ ∀ xs, SqL K H a xs → xs[i]? = some x, fun i H => ∃ xs : List V, SqL K H a xs ∧ xs.length ≤ i⟩
theorem turn_enum {P : Program} {w : World} {K : PySem.W.Frag} {elts : List Expr} {kk : Nat} {tpos : Pos} (a e it : Addr) :
    Turn P w K (.Tuple elts kk tpos) (Ite K a) [e, it] e (fun i h => (∃ old, IsEnum h e it ((i : Nat) : Int) old) ∧ h.IsListIter it a i ∧ e ≠ it) where
  mem := by simp
  obj := fun i h st b hb => by
    obtain ⟨⟨old, he⟩, ⟨o, ho, hc, hd⟩, _⟩ := st
    have e' : b = e ∨ b = it := by simpa using hb
    rcases e' with z | z
    · rw [z]; exact ⟨_, he, fun v q => nomatch q⟩
    · rw [z]; exact ⟨o, ho, fun v q => by rw [hd] at q; cases q⟩
  keep := fun i h h' st k => let ⟨⟨old, he⟩, hi, hne⟩ := st; ⟨⟨old, k e (by simp) _ he⟩, hi.at fun o q => k it (by simp) o q, hne⟩
  item := by
    intro X hP hw hK hc i pins s σ H E I hf st hg
    subst hP hw hK
    obtain ⟨⟨old, he⟩, hit, hne⟩ := st
    obtain ⟨xs, x, hq, hx⟩ := hg
    obtain ⟨its, rv, p, hz⟩ := I.list hq
    obtain ⟨u, hu, ru⟩ := rv.get hx
    have hel : e < s.heap.objs.size := Heap.lt_size he
    have hil : it < s.heap.objs.size := by obtain ⟨_, q, _⟩ := hit; exact Heap.lt_size q
    refine wpAny_pyNext_enum_item he hit p.isList (x := u) (by simpa using hu) hne fun h' ho hit' hT hsz hk => ?_
    refine ⟨_, rfl, wpAny_letOwnedTupleGo_enum (s := { s with heap := h', toks := s.toks + 1 }) ho fun h'' he' sb => ?_⟩
    have hT2 : h''.get? s.heap.objs.size = some { cls := .type "tuple", data := .seq #[.int i s.toks, u] } := (sb.2 _ (Nat.ne_of_gt hel)).trans hT
    have new : ObjOk X.prog X.w (upd H s.heap.objs.size (.tup [.int (i : Nat), x])) h'' s.heap.objs.size (.tup [.int (i : Nat), x]) :=
      ⟨by show 2 ≤ sizeLine; decide, [.int i s.toks, u], .cons ⟨_, rfl⟩ (.cons ru .nil), ⟨_, hT2, rfl, _, rfl⟩⟩
    have I1 : Inv X pins σ (upd H s.heap.objs.size (.tup [.int (i : Nat), x])) { s with heap := h'', toks := s.toks + 1 } :=
      I.turnedNew (ch := [e, it]) (fun b ob hb q => (sb.2 b (fun z => hb (by simp [z]))).trans (hk b ob (fun z => hb (by simp [z])) (fun z => hb (by simp [z])) q)) hf (Nat.le_refl _) new
    refine ⟨.ref s.heap.objs.size, _, I1, rfl, ⟨_, x, rfl, I.hok.fresh (Nat.le_refl _), rfl, fun ys hy => by rw [I.list_inj hy hq]; exact hx⟩, ⟨⟨u, ?_⟩, hit'.at fun o q => (sb.2 it (Ne.symm hne)).trans q, hne⟩, fun b hb => ?_⟩
    · have e1 : ((i + 1 : Nat) : Int) = (i : Int) + 1 := by omega
      rw [e1]; exact he'
    · have hb' : b < s.heap.objs.size := by
        have e' : b = e ∨ b = it := by simpa using hb
        rcases e' with z | z
        · rw [z]; exact hel
        · rw [z]; exact hil
      rw [upd_ne (Nat.ne_of_lt hb')]
      exact (hf b hb).1
  done := by
    intro X hP hw hK hc i pins s σ H E I hf st hg
    subst hP hw hK
    obtain ⟨⟨old, he⟩, hit, hne⟩ := st
    obtain ⟨xs, hq, hx⟩ := hg
    obtain ⟨its, rv, p, hz⟩ := I.list hq
    obtain ⟨f0, f1, f2, f3, f4, f5⟩ := hf it (by simp)
    have hl := rv.length
    exact wpAny_pyNext_enum_end (I.ok.hd hc) he hit p.isList (by simp; omega) fun h' eb => ⟨rfl, I.turned (t' := s.toks) (fun b o hb q => eb b o hb q) f0 f1 f3 f4 f5⟩
  self := fun A i s Q E st h => let ⟨⟨_, he⟩, _⟩ := st; wpAny_pyIter_enum he h
noncomputable def iEnum (K : PySem.W.Frag) (ta : TA) : TI := fun σ H R => ta σ H fun vs H1 => ∃ a xs, vs = [.ref a] ∧ SqL K H1 a xs ∧ R (Ite K a) H1
theorem pi_enum {X : Cx} {e : Expr} {ta : TA} {p pos tpos : Pos} {elts : List Expr} {kk : Nat} (hg : Gl X "enumerate") (hm : X.mg "enumerate" = none) (ha : PA X [e] ta) (hs : starEach [e] X.env = [(false, eval e X.env)] := by rfl) :
    PI X (.Tuple elts kk tpos) (.Call (.Name "enumerate" p) [e] [] pos) (iEnum X.K ta) := by
  intro pins s σ H R I h
  refine Call_ (ld_blt I hg hm boot_enumerate (PyProof.Rows.callWith_type1 (thn (ha pos pins s σ H _ I h) fun us s1 ⟨vs, H1, I1, r1, q1⟩ => ?_) hs rfl))
  obtain ⟨a, xs, ex, hq, q⟩ := q1
  subst ex
  cases r1 with
  | cons r rr =>
    cases rr
    cases r
    obtain ⟨its, rv, p', hz⟩ := I1.list hq
    refine call_enumerate_list p'.isList fun h' he hit hsz hk => wpAny_pyIter_enum he ?_
    have I2 : Inv X pins σ H1 { s1 with heap := h' } := I1.kept (t' := s1.toks) hk
    refine ⟨s1.heap.objs.size + 1, [s1.heap.objs.size + 1, s1.heap.objs.size], _, _, H1, rfl, I2, turn_enum a (s1.heap.objs.size + 1) s1.heap.objs.size, ⟨⟨.none, he⟩, hit, Nat.succ_ne_self _⟩, fun b hb => ?_, q⟩
    have e' : b = s1.heap.objs.size + 1 ∨ b = s1.heap.objs.size := by simpa using hb
    have hle : s1.heap.objs.size ≤ b := by
      rcases e' with z | z
      · rw [z]; exact Nat.le_add_right _ _
      · rw [z]; exact Nat.le_refl _
    exact I1.fpOk hle (I1.hok.fresh hle)
theorem boot_zip5 : bootBuiltins "zip" = some (.type "zip") := by decide +kernel
noncomputable def Itz (K : PySem.W.Frag) (a b : Addr) : It :=
  ⟨fun i H => ∃ (xs ys : List V) (x y : V), SqL K H a xs ∧ SqL K H b ys ∧ xs[i]? = some x ∧ ys[i]? = some y,
    fun i H v H' => ∃ T x y, v = .ref T ∧ H T = none ∧ H' = upd H T (.tup [x, y]) ∧ (∀ xs, SqL K H a xs → xs[i]? = some x) ∧ ∀ ys, SqL K H b ys → ys[i]? = some y,
    fun i H => ∃ xs ys : List V, SqL K H a xs ∧ SqL K H b ys ∧ (xs.length ≤ i ∨ ys.length ≤ i)⟩
theorem turn_zip {P : Program} {w : World} {K : PySem.W.Frag} {elts : List Expr} {kk : Nat} {tpos : Pos} {a b z TI TO i1 i2 : Addr} (D : ZipApart z TI TO i1 i2 a b) :
    Turn P w K (.Tuple elts kk tpos) (Itz K a b) [z, TI, TO, i1, i2] z (fun i h => IsZip h z TI TO .none ∧ IsPair h TI (.ref i1) (.ref i2) ∧ (∃ x y, IsPair h TO x y) ∧ h.IsListIter i1 a i ∧ h.IsListIter i2 b i) where
  mem := by simp
  obj := fun i h st c hc => by
    obtain ⟨hz, hTI, ⟨x, y, hTO⟩, ⟨o1, e1, _, d1⟩, ⟨o2, e2, _, d2⟩⟩ := st
    have e' : c = z ∨ c = TI ∨ c = TO ∨ c = i1 ∨ c = i2 := by simpa using hc
    rcases e' with q | q | q | q | q
    · rw [q]; exact ⟨_, hz, fun v q => nomatch q⟩
    · rw [q]; exact ⟨_, hTI, fun v q => nomatch q⟩
    · rw [q]; exact ⟨_, hTO, fun v q => nomatch q⟩
    · rw [q]; exact ⟨o1, e1, fun v q => by rw [d1] at q; cases q⟩
    · rw [q]; exact ⟨o2, e2, fun v q => by rw [d2] at q; cases q⟩
  keep := fun i h h' st k => by
    obtain ⟨hz, hTI, ⟨x, y, hTO⟩, h1, h2⟩ := st
    exact ⟨k z (by simp) _ hz, k TI (by simp) _ hTI, ⟨x, y, k TO (by simp) _ hTO⟩, h1.at fun o q => k i1 (by simp) o q, h2.at fun o q => k i2 (by simp) o q⟩
  item := by
    intro X hP hw hK hc i pins s σ H E I hf st hg
    subst hP hw hK
    obtain ⟨hz, hTI, ⟨x0, y0, hTO⟩, h1, h2⟩ := st
    obtain ⟨xs, ys, x, y, hqx, hqy, hx, hy⟩ := hg
    obtain ⟨its, rv, p, _⟩ := I.list hqx
    obtain ⟨its2, rv2, p2, _⟩ := I.list hqy
    obtain ⟨u, hu, ru⟩ := rv.get hx
    obtain ⟨u2, hu2, ru2⟩ := rv2.get hy
    have hzl : z < s.heap.objs.size := Heap.lt_size hz
    refine wpAny_pyNext_zip_item D hz hTI hTO h1 h2 p.isList p2.isList (x := u) (y := u2) (by simpa using hu) (by simpa using hu2) fun h' z' TO' h1' h2' hT hsz hk => ?_
    refine ⟨_, rfl, wpAny_letOwnedTupleGo_zip (s := { s with heap := h' }) z' fun h'' z'' sb => ?_⟩
    have hT2 : h''.get? s.heap.objs.size = some { cls := .type "tuple", data := .seq #[u, u2] } := (sb.2 _ (Nat.ne_of_gt hzl)).trans hT
    have new : ObjOk X.prog X.w (upd H s.heap.objs.size (.tup [x, y])) h'' s.heap.objs.size (.tup [x, y]) :=
      ⟨by show 2 ≤ sizeLine; decide, [u, u2], .cons ru (.cons ru2 .nil), ⟨_, hT2, rfl, _, rfl⟩⟩
    have I1 : Inv X pins σ (upd H s.heap.objs.size (.tup [x, y])) { s with heap := h'' } :=
      I.turnedNew (t' := s.toks) (ch := [z, TI, TO, i1, i2]) (fun c o hb q => (sb.2 c (fun q' => hb (by simp [q']))).trans (hk c o (fun q' => hb (by simp [q'])) (fun q' => hb (by simp [q'])) (fun q' => hb (by simp [q'])) (fun q' => hb (by simp [q'])) q)) hf (Nat.le_refl _) new
    refine ⟨.ref s.heap.objs.size, _, I1, rfl, ⟨_, x, y, rfl, I.hok.fresh (Nat.le_refl _), rfl, fun l hl => by rw [I.list_inj hl hqx]; exact hx, fun l hl => by rw [I.list_inj hl hqy]; exact hy⟩, ⟨z'', ?_, ⟨u, u2, ?_⟩, ?_, ?_⟩, fun c hcm => ?_⟩
    · exact (sb.2 _ D.TIz).trans (hk _ _ D.TIz D.TITO D.TIi1 D.TIi2 hTI)
    · exact (sb.2 _ D.TOz).trans TO'
    · exact h1'.at fun o q => (sb.2 _ D.i1z).trans q
    · exact h2'.at fun o q => (sb.2 _ D.i2z).trans q
    · have hlt : c < s.heap.objs.size := by
        have e' : c = z ∨ c = TI ∨ c = TO ∨ c = i1 ∨ c = i2 := by simpa using hcm
        rcases e' with q | q | q | q | q
        · rw [q]; exact hzl
        · rw [q]; exact Heap.lt_size hTI
        · rw [q]; exact Heap.lt_size hTO
        · rw [q]; obtain ⟨_, e1, _⟩ := h1; exact Heap.lt_size e1
        · rw [q]; obtain ⟨_, e2, _⟩ := h2; exact Heap.lt_size e2
      rw [upd_ne (Nat.ne_of_lt hlt)]
      exact (hf c hcm).1
  done := by
    intro X hP hw hK hc i pins s σ H E I hf st hg
    subst hP hw hK
    obtain ⟨hz, hTI, ⟨x0, y0, hTO⟩, h1, h2⟩ := st
    obtain ⟨xs, ys, hqx, hqy, hend⟩ := hg
    obtain ⟨its, rv, p, _⟩ := I.list hqx
    obtain ⟨its2, rv2, p2, _⟩ := I.list hqy
    have l1 := rv.length
    have l2 := rv2.length
    have he : its.toArray[i]? = none ∨ its2.toArray[i]? = none := by
      rcases hend with q | q
      · exact .inl (by simp; omega)
      · exact .inr (by simp; omega)
    exact wpAny_pyNext_zip_end (I.ok.hd hc) D hz hTI hTO h1 h2 p.isList p2.isList he fun h' hk => ⟨rfl, I.turnedL (t' := s.toks) (ch := [z, TI, TO, i1, i2]) (fun c o hb q =>
      hk c o (fun q' => hb (by simp [q'])) (fun q' => hb (by simp [q'])) (fun q' => hb (by simp [q'])) (fun q' => hb (by simp [q'])) q) hf⟩
  self := fun A i s Q E st h => wpAny_pyIter_zip st.1 h
noncomputable def iZip (K : PySem.W.Frag) (ta : TA) : TI := fun σ H R => ta σ H fun vs H1 => ∃ a b xs ys, vs = [.ref a, .ref b] ∧ SqL K H1 a xs ∧ SqL K H1 b ys ∧ R (Itz K a b) H1
theorem pi_zip {X : Cx} {e e2 : Expr} {ta : TA} {p pos tpos : Pos} {elts : List Expr} {kk : Nat} (hg : Gl X "zip") (hm : X.mg "zip" = none) (ha : PA X [e, e2] ta)
    (hs : starEach [e, e2] X.env = (false, eval e X.env) :: starEach [e2] X.env := by rfl) (hpl : (backTo pos (starEach [e2] X.env)).any (·.1) = false := by rfl) :
    PI X (.Tuple elts kk tpos) (.Call (.Name "zip" p) [e, e2] [] pos) (iZip X.K ta) := by
  intro pins s σ H R I h
  refine Call_ (ld_blt I hg hm boot_zip5 (PyProof.Rows.callWith_type1 (thn (ha pos pins s σ H _ I h) fun us s1 ⟨vs, H1, I1, r1, q1⟩ => ?_) hs hpl))
  obtain ⟨a, b, xs, ys, ex, hqx, hqy, q⟩ := q1
  subst ex
  cases r1 with
  | cons r rr =>
    cases rr with
    | cons r' rr =>
      cases rr
      cases r
      cases r'
      obtain ⟨its, rv, p1, _⟩ := I1.list hqx
      obtain ⟨its2, rv2, p2, _⟩ := I1.list hqy
      have la : a < s1.heap.objs.size := p1.lt
      have lb : b < s1.heap.objs.size := p2.lt
      refine call_zip_2 p1.isList p2.isList fun h' hz hTI hTO h1 h2 hsz hk => wpAny_pyIter_zip hz ?_
      have I2 : Inv X pins σ H1 { s1 with heap := h' } := I1.kept (t' := s1.toks) hk
      refine ⟨s1.heap.objs.size + 4, [s1.heap.objs.size + 4, s1.heap.objs.size + 2, s1.heap.objs.size + 3, s1.heap.objs.size, s1.heap.objs.size + 1], _, _, H1, rfl, I2, turn_zip (PySem.W.ktu_apart s1.heap.objs.size a b la lb), ⟨hz, hTI, ⟨_, _, hTO⟩, h1, h2⟩, fun c hcm => ?_, q⟩
      have e' : c = s1.heap.objs.size + 4 ∨ c = s1.heap.objs.size + 2 ∨ c = s1.heap.objs.size + 3 ∨ c = s1.heap.objs.size ∨ c = s1.heap.objs.size + 1 := by simpa using hcm
      have hle : s1.heap.objs.size ≤ c := by
        rcases e' with z | z | z | z | z
        · rw [z]; exact Nat.le_add_right _ _
        · rw [z]; exact Nat.le_add_right _ _
        · rw [z]; exact Nat.le_add_right _ _
        · rw [z]; exact Nat.le_refl _
        · rw [z]; exact Nat.le_add_right _ _
      exact I1.fpOk hle (I1.hok.fresh hle)
end L2

section 
namespace Bits
open PySem PyProof.Rows

end Bits
end 

section 
namespace TL
open PySem PySem.Builtin PySem.Builtin.Str PySem.StrLaws

noncomputable abbrev tl (x : Str) : List Nat := x.cps.toList
noncomputable def pre (S l : List Nat) : Bool := l.take S.length == S
noncomputable def spl (S : List Nat) : Nat → List Nat → List Nat → List (List Nat)
  | _, acc, [] => [acc]
  | 0, acc, c :: r => if pre S (c :: r) = true then acc :: spl S (S.length - 1) [] r else spl S 0 (acc ++ [c]) r
  | k + 1, acc, _ :: r => spl S k acc r
noncomputable def par (S : List Nat) : List Nat → List Nat → Option (List Nat × List Nat)
  | _, [] => none
  | acc, c :: r => if pre S (c :: r) = true then some (acc, (c :: r).drop S.length) else par S (acc ++ [c]) r

end TL
end 

namespace L2
open PySem PySem.Spec PyProof.Rows

section
variable {X : Cx} {pins : List (Addr × Obj)} {σ : St} {H : Hp} {s : Shared} {Q : VK}
end

section
variable {X : Cx}

end

section
variable {X : Cx} {o e : Expr} {to te : TE}
end
end L2

namespace L2
open PySem PySem.Spec PyProof.Rows

section
variable {X : Cx}
end

end L2

namespace Att
open PySem PySem.W PySem.Calls PyProof.Rows

section
variable {prog : Program} {w : World} {A : Around} {E : Value → Shared → Prop} {s : Shared} {K : Frag}

noncomputable def ledger (h : Heap) (L d : Addr) : List (Addr × Obj) := (List.range h.objs.size).filterMap fun a => if a = L ∨ a = d then none else (h.get? a).map fun o => (a, o)
end
end Att

namespace L2
open PySem PySem.Spec PyProof.Rows

end L2

namespace L2
open PySem PySem.Spec PyProof.Rows

end L2



namespace L2
open PySem PySem.Spec PyProof.Rows

noncomputable def inClass (s : Stmt) (j : Nat) : Stmt := match s with
  | .ClassDef _ _ _ body _ _ _ _ _ _ _ => body.getD j (.Pass ⟨0, 0, 0, 0⟩)
  | _ => .Pass ⟨0, 0, 0, 0⟩
noncomputable def defArgs (s : Stmt) : Arguments := match s with
  | .FunctionDef _ a _ _ _ _ _ _ _ _ => a
  | _ => { posonlyargs := [], args := [], vararg := none, kwonlyargs := [], kw_defaults := [], kwarg := none, defaults := [] }
noncomputable def defBody (s : Stmt) : List Stmt := match s with
  | .FunctionDef _ _ b _ _ _ _ _ _ _ => b
  | _ => []
noncomputable def defScope (s : Stmt) : Scope := match s with
  | .FunctionDef _ _ _ _ _ _ sc _ _ _ => sc
  | _ => { kind := .function, names := [], isGenerator := false, isCoroutine := false }

noncomputable abbrev E0 : XK := fun _ _ _ => False
structure Fun (K : PySem.W.Frag) (x qual : Str) (st : Stmt) (f : Addr) (fd : FuncData) : Prop where
  ex : ∃ (oc : Value) (od : Option Addr) (kV doc pm : Value) (an : Option Addr) (cdv ct : Value) (osl : Array (Option Value)),
    fd = PySem.W.fnOf x qual (defArgs st) (defBody st) (defScope st) .none kV doc pm an cdv ct ∧ K.lookup f = some ⟨oc, od, .func fd, osl⟩ ∧ PySem.W.codeIn K cdv qual = true
  kp : PySem.W.keepIn K (.ref f) = true
section
variable {P : Program} {w : World} {K : PySem.W.Frag} {mg : Str → Option Value} {base : Heap}
theorem Fun.binds {x qual : Str} {st : Stmt} {f : Addr} {fd : FuncData} {ps : List Str} (F : Fun K x qual st f fd)
    (h : ∀ (kV doc pm : Value) (an : Option Addr) (cdv ct : Value) (us : List Value), us.length = ps.length → bindArgs (PySem.W.fnOf x qual (defArgs st) (defBody st) (defScope st) .none kV doc pm an cdv ct) ⟨us, []⟩ = pure (ps.zip us)) : Binds K fd ps [] := by
  obtain ⟨oc, od, kV, doc, pm, an, cdv, ct, osl, rfl, lk, hcd⟩ := F.ex
  exact .all (h kV doc pm an cdv ct)
theorem fun_mk {x qual : Str} {st : Stmt} {f : Addr} {oc : Value} {od an : Option Addr} {osl : Array (Option Value)} {kV doc pm cdv ct : Value} (l : K.lookup f = some ⟨oc, od, .func (PySem.W.fnOf x qual (defArgs st) (defBody st) (defScope st) .none kV doc pm an cdv ct), osl⟩)
    (c : PySem.W.codeIn K cdv qual = true) (k : PySem.W.keepIn K (.ref f) = true) : Fun K x qual st f (PySem.W.fnOf x qual (defArgs st) (defBody st) (defScope st) .none kV doc pm an cdv ct) := ⟨⟨oc, od, kV, doc, pm, an, cdv, ct, osl, rfl, l, c⟩, k⟩
end
section
variable {X : Cx}
theorem pv (i : Nat) {x : Str} {pos : Pos} (hN : X.N[i]? = some x := by rfl) (hv : Vis X.env.scope x := by first | exact Or.inl rfl | exact Or.inr (Or.inl rfl) | exact Or.inr (Or.inr rfl)) (hd : (x == ("__debug__" : Str)) = false := by decide)
    (hcd : (x == ("__classdict__" : Str)) = false := by decide) : PE X (.Name x pos) (tVar i) := pe_var hN hv hd hcd
end

noncomputable def Same (H H' : Hp) : Prop := ∀ b o, H b = some o → H' b = some o
theorem Same.trans {H H1 H2 : Hp} (a : Same H H1) (b : Same H1 H2) : Same H H2 := fun c o h => b c o (a c o h)
theorem Same.free {H H' : Hp} (e : Same H H') {l : Addr} (h : H' l = Option.none) : H l = Option.none := by
  cases q : H l with
  | none => rfl
  | some o =>
    rw [e l o q] at h
    cases h
section
variable {κ : Type} [DecidableEq κ]
end
theorem at_of {xs : List V} {z : Int} {j : Nat} {v : V} (e : z = (j : Int)) (h : xs[j]? = some v) : atI xs z = some v := by
  rw [e]
  exact atI_nat h
theorem Same.made {H H1 : Hp} {x dx C : Addr} (nx : H x = Option.none) (nd : H dx = Option.none) (k : ∀ b o, (upd (upd H dx (.own x)) x (.ins C dx [])) b = some o → b ≠ x → H1 b = some o) : Same H H1 := fun b o e =>
  k b o (by rw [upd_ne (ne_of_none e nx), upd_ne (ne_of_none e nd)]; exact e) (ne_of_none e nx)
end L2

end
section
set_option Elab.async false
set_option linter.all false
set_option maxRecDepth 100000
set_option maxHeartbeats 2000000
namespace L2
open PySem PySem.Spec PyProof.Rows
open PySem.W (WData Codec OpenSpec Well WellAll ReadsW ReadsAllW)
mutual
inductive Dw (K : PySem.W.Frag) (H : Hp) : V → WData → Prop
  | non : Dw K H .non .none
  | bl (b : Bool) : Dw K H (.bl b) (.bool b)
  | int (i : Int) : Dw K H (.int i) (.int i)
  | str (x : Str) : Dw K H (.str x) (.str x)
  | byt (b : Array UInt8) : Dw K H (.byt b) (.bytes b.toList)
  | lst {a : Addr} {xs : List V} {ds : List WData} : SqL K H a xs → DwAll K H xs ds → Dw K H (.ref a) (.list ds)
  | tup {a : Addr} {xs : List V} {ds : List WData} : SqT K H a xs → DwAll K H xs ds → Dw K H (.ref a) (.tuple ds)
inductive DwAll (K : PySem.W.Frag) (H : Hp) : List V → List WData → Prop
  | nil : DwAll K H [] []
  | cons {v : V} {vs : List V} {d : WData} {ds : List WData} : Dw K H v d → DwAll K H vs ds → DwAll K H (v :: vs) (d :: ds)
end
theorem dw_ints {K : PySem.W.Frag} {H : Hp} : ∀ ns : List Int, DwAll K H (ns.map V.int) (ns.map WData.int)
  | [] => .nil
  | n :: r => .cons (.int n) (dw_ints r)
theorem ints_dw {K : PySem.W.Frag} {H : Hp} : ∀ (ns : List Int) (xs : List V), DwAll K H xs (ns.map WData.int) → xs = ns.map V.int
  | [], xs, h => by
    cases h
    rfl
  | n :: r, xs, h => by
    cases h with
    | cons h1 h2 =>
      cases h1
      rw [ints_dw r _ h2] <;> rfl
section
variable {P : Program} {w : World} {K : PySem.W.Frag} {H : Hp} {h : Heap} {R : PySem.W.WRecords} {cl : Str → Option Addr}
theorem sqL_at {a : Addr} {xs : List V} (hok : HOk P w H h) (KX : K.In h) (q : SqL K H a xs) : ∃ (its : List Value) (o : Obj) (n : Nat), Vals xs its ∧ h.get? a = some o ∧ o.cls = .type "list" ∧ o.data = .seq its.toArray n := by
  rcases q with q | ⟨o, its, n, e, hc, _, hd, _, hv⟩
  · obtain ⟨_, its, n, hv, e⟩ := (show ObjOk P w H h a (.lst xs) from q.ok hok)
    exact ⟨its, _, n, hv, e, rfl, rfl⟩
  · exact ⟨its.toList, o, n, hv, KX _ _ e, hc, by simp [hd]⟩
theorem sqT_at {a : Addr} {xs : List V} (hok : HOk P w H h) (KX : K.In h) (q : SqT K H a xs) : ∃ (its : List Value) (o : Obj) (n : Nat), Vals xs its ∧ h.get? a = some o ∧ o.cls = .type "tuple" ∧ o.data = .seq its.toArray n := by
  rcases q with q | ⟨o, its, n, e, hc, hd, _, hv⟩
  · obtain ⟨_, its, hv, o, e, hc, n, hd⟩ := (show ObjOk P w H h a (.tup xs) from q.ok hok)
    exact ⟨its, o, n, hv, e, hc, hd⟩
  · exact ⟨its.toList, o, n, hv, KX _ _ e, hc, by simp [hd]⟩
mutual
theorem Dw.reads (hok : HOk P w H h) (KX : K.In h) : ∀ (d : WData) (v : V) (u : Value), Dw K H v d → RelV v u → ∃ as, ReadsW R cl h u d as
  | .none, _, _, x, r => by
    cases x
    cases r
    exact ⟨_, ReadsW.none⟩
  | .bool b, _, _, x, r => by
    cases x
    cases r
    exact ⟨_, ReadsW.bool b⟩
  | .int i, _, _, x, r => by
    cases x
    obtain ⟨t, rfl⟩ := r
    exact ⟨_, ReadsW.int i t⟩
  | .str s, _, _, x, r => by
    cases x
    obtain ⟨t, rfl⟩ := r
    exact ⟨_, ReadsW.str s t⟩
  | .bytes b, _, _, x, r => by
    cases x
    obtain ⟨t, rfl⟩ := r
    exact ⟨_, ReadsW.bytes _ t⟩
  | .list ds, _, _, x, r => by
    cases x with
    | lst hs ha =>
      cases r
      obtain ⟨its, o, n, rv, ho, hc, hd⟩ := sqL_at hok KX hs
      obtain ⟨as, hr⟩ := Dw.readsAll hok KX ds _ its ha rv
      exact ⟨_, ReadsW.list ho hc hd hr⟩
  | .tuple ds, _, _, x, r => by
    cases x with
    | tup hs ha =>
      cases r
      obtain ⟨its, o, n, rv, ho, hc, hd⟩ := sqT_at hok KX hs
      obtain ⟨as, hr⟩ := Dw.readsAll hok KX ds _ its ha rv
      exact ⟨_, ReadsW.tuple ho hc hd hr⟩
  | .float _, _, _, x, _ => by cases x
  | .dict _, _, _, x, _ => by cases x
  | .bytearray _, _, _, x, _ => by cases x
  | .set _, _, _, x, _ => by cases x
  | .frozenset _, _, _, x, _ => by cases x
  | .obj _ _, _, _, x, _ => by cases x
theorem Dw.readsAll (hok : HOk P w H h) (KX : K.In h) : ∀ (ds : List WData) (vs : List V) (us : List Value), DwAll K H vs ds → Vals vs us → ∃ as, ReadsAllW R cl h us ds as
  | [], _, _, x, r => by
    cases x
    cases r
    exact ⟨_, ReadsAllW.nil⟩
  | d :: ds, _, _, x, r => by
    cases x with
    | cons h1 h2 =>
      cases r with
      | cons r1 r2 =>
        obtain ⟨as, q1⟩ := Dw.reads hok KX d _ _ h1 r1
        obtain ⟨bs, q2⟩ := Dw.readsAll hok KX ds _ _ h2 r2
        exact ⟨_, ReadsAllW.cons q1 q2⟩
end
end
mutual
noncomputable def plW : WData → Bool
  | .none => true
  | .bool _ => true
  | .int _ => true
  | .str _ => true
  | .bytes _ => true
  | .list xs => plWs xs
  | .tuple xs => plWs xs
  | _ => false
noncomputable def plWs : List WData → Bool
  | [] => true
  | x :: r => plW x && plWs r
end
theorem plWs_map {α : Type} {f : α → WData} (h : ∀ a, plW (f a) = true) : ∀ l : List α, plWs (l.map f) = true
  | [] => rfl
  | x :: r => by
    show (plW (f x) && plWs (r.map f)) = true
    rw [h x, plWs_map h r] <;> rfl
theorem pl_enc : ∀ (c : Codec) (a : c.denote), plW (c.enc a) = true
  | .unit, _ => rfl
  | .bool, _ => rfl
  | .int _ _, _ => rfl
  | .nat _ _, _ => rfl
  | .u8, _ => rfl
  | .bytes _ _, _ => rfl
  | .text _ _ _ _, _ => rfl
  | .list _ _ c, a => plWs_map (fun x => pl_enc c x) a
  | .pair c d, a => by
    show (plW (c.enc a.1) && (plW (d.enc a.2) && true)) = true
    rw [pl_enc c a.1, pl_enc d a.2] <;> rfl
  | .triple c d e, a => by
    show (plW (c.enc a.1) && (plW (d.enc a.2.1) && (plW (e.enc a.2.2) && true))) = true
    rw [pl_enc c a.1, pl_enc d a.2.1, pl_enc e a.2.2] <;> rfl
  | .option c, none => rfl
  | .option c, some x => pl_enc c x
theorem pl_encAll : ∀ (cs : List Codec) (a : Codec.denoteAll cs), plWs (Codec.encAll cs a) = true
  | [], _ => rfl
  | c :: cs, a => by
    show (plW (c.enc a.1) && plWs (Codec.encAll cs a.2)) = true
    rw [pl_enc c a.1, pl_encAll cs a.2] <;> rfl
theorem weight_mem : ∀ {xs : List WData} {d : WData}, d ∈ xs → d.weight ≤ WData.weightAll xs
  | [], d, h => absurd h (by simp)
  | x :: r, d, h => by
    show d.weight ≤ x.weight + 1 + WData.weightAll r
    rcases List.mem_cons.mp h with e | m
    · rw [e]
      omega
    · have z := weight_mem m
      omega
noncomputable def toV : Value → V
  | .none => .non
  | .bool b => .bl b
  | .int i _ => .int i
  | .str x _ => .str x
  | .bytes b _ => .byt b
  | .ref a => .ref a
  | _ => .non
noncomputable def OkU (A : List Addr) : Value → Prop
  | .none => True
  | .bool _ => True
  | .int _ _ => True
  | .str _ _ => True
  | .bytes _ _ => True
  | .ref a => a ∈ A
  | _ => False
theorem OkU.mono {A B : List Addr} (h : ∀ a ∈ A, a ∈ B) : ∀ {u : Value}, OkU A u → OkU B u := fun {u} x => by
  cases u with
  | ref a => exact h a x
  | none => trivial
  | bool b => trivial
  | int i t => trivial
  | str s t => trivial
  | bytes b t => trivial
  | _ => exact False.elim x
theorem relV_toV {A : List Addr} {u : Value} (x : OkU A u) : RelV (toV u) u := by
  cases u with
  | ref a => rfl
  | none => rfl
  | bool b => rfl
  | int i t => exact ⟨t, rfl⟩
  | str s t => exact ⟨t, rfl⟩
  | bytes b t => exact ⟨t, rfl⟩
  | _ => exact False.elim x
theorem vals_toV {A : List Addr} : ∀ {vs : List Value}, (∀ u ∈ vs, OkU A u) → Vals (vs.map toV) vs
  | [], _ => .nil
  | u :: r, h => .cons (relV_toV (h u (List.mem_cons_self ..))) (vals_toV fun x hx => h x (List.mem_cons_of_mem _ hx))
noncomputable def ArgOb (h : Heap) (A : List Addr) (a : Addr) : Prop := ∃ vs : List Value, vs.length ≤ sizeLine ∧ (∀ u ∈ vs, OkU A u) ∧
  (h.get? a = some { cls := .type "list", data := .seq vs.toArray } ∨ h.get? a = some { cls := .type "tuple", data := .seq vs.toArray })
theorem ArgOb.mono {h : Heap} {A B : List Addr} {a : Addr} (k : ∀ a ∈ A, a ∈ B) (x : ArgOb h A a) : ArgOb h B a := by
  obtain ⟨vs, h1, h2, h3⟩ := x
  exact ⟨vs, h1, fun u hu => (h2 u hu).mono k, h3⟩
theorem wellAll_len {P : Params} {h : Heap} : ∀ {vs : List Value} {ds : List WData}, WellAll P h vs ds → vs.length = ds.length
  | _, _, .nil => rfl
  | _, _, .cons _ b => by
    show _ + 1 = _ + 1
    rw [wellAll_len b]
theorem well_list {P : Params} {h : Heap} {v : Value} {ds : List WData} (x : Well P h v (.list ds)) : ∃ (a : Addr) (vs : List Value), v = .ref a ∧ h.get? a = some { cls := .type "list", data := .seq vs.toArray } ∧ WellAll P h vs ds := by
  cases x with
  | list ho hall => exact ⟨_, _, rfl, ho, hall⟩
theorem well_tuple {P : Params} {h : Heap} {v : Value} {ds : List WData} (x : Well P h v (.tuple ds)) : ∃ (a : Addr) (vs : List Value), v = .ref a ∧ h.get? a = some { cls := .type "tuple", data := .seq vs.toArray } ∧ WellAll P h vs ds := by
  cases x with
  | tuple ho hall => exact ⟨_, _, rfl, ho, hall⟩
theorem well_cons {P : Params} {h : Heap} {us : List Value} {d : WData} {ds : List WData} (x : WellAll P h us (d :: ds)) : ∃ (v : Value) (vs : List Value), us = v :: vs ∧ Well P h v d ∧ WellAll P h vs ds := by
  cases x with
  | cons a b => exact ⟨_, _, rfl, a, b⟩
theorem line_of {n : Nat} (h : n ≤ 1048576) : n ≤ sizeLine := Nat.le_trans h (by decide)
section
variable {P : Params} {h : Heap}
mutual
theorem area_one : ∀ (d : WData) (v : Value), Well P h v d → plW d = true → d.weight ≤ 1048576 → ∃ A : List Addr, OkU A v ∧ ∀ a ∈ A, ArgOb h A a
  | .none, _, x, _, _ => by
    cases x
    exact ⟨[], trivial, fun a m => absurd m (by simp)⟩
  | .bool b, _, x, _, _ => by
    cases x
    exact ⟨[], trivial, fun a m => absurd m (by simp)⟩
  | .int i, _, x, _, _ => by
    cases x
    exact ⟨[], trivial, fun a m => absurd m (by simp)⟩
  | .str s, _, x, _, _ => by
    cases x
    exact ⟨[], trivial, fun a m => absurd m (by simp)⟩
  | .bytes b, _, x, _, _ => by
    cases x
    exact ⟨[], trivial, fun a m => absurd m (by simp)⟩
  | .list ds, _, x, p, z => by
    obtain ⟨a, vs, rfl, ho, hall⟩ := well_list x
    have z2 : WData.weightAll ds ≤ 1048576 := z
    obtain ⟨A, h1, h2⟩ := area_all ds _ hall p fun d hd => Nat.le_trans (weight_mem hd) z2
    have k : ∀ b ∈ A, b ∈ a :: A := fun b hb => List.mem_cons_of_mem _ hb
    refine ⟨a :: A, List.mem_cons_self .., fun b hb => ?_⟩
    rcases List.mem_cons.mp hb with e | m
    · rw [e]
      exact ⟨vs, line_of (by rw [wellAll_len hall]; exact Nat.le_trans (PySem.W.length_le_weightAllW ds) z2), fun u hu => (h1 u hu).mono k, .inl ho⟩
    · exact (h2 b m).mono k
  | .tuple ds, _, x, p, z => by
    obtain ⟨a, vs, rfl, ho, hall⟩ := well_tuple x
    have z2 : WData.weightAll ds ≤ 1048576 := z
    obtain ⟨A, h1, h2⟩ := area_all ds _ hall p fun d hd => Nat.le_trans (weight_mem hd) z2
    have k : ∀ b ∈ A, b ∈ a :: A := fun b hb => List.mem_cons_of_mem _ hb
    refine ⟨a :: A, List.mem_cons_self .., fun b hb => ?_⟩
    rcases List.mem_cons.mp hb with e | m
    · rw [e]
      exact ⟨vs, line_of (by rw [wellAll_len hall]; exact Nat.le_trans (PySem.W.length_le_weightAllW ds) z2), fun u hu => (h1 u hu).mono k, .inr ho⟩
    · exact (h2 b m).mono k
  | .float _, _, _, p, _ => Bool.noConfusion (show false = true from p)
  | .dict _, _, _, p, _ => Bool.noConfusion (show false = true from p)
  | .bytearray _, _, _, p, _ => Bool.noConfusion (show false = true from p)
  | .set _, _, _, p, _ => Bool.noConfusion (show false = true from p)
  | .frozenset _, _, _, p, _ => Bool.noConfusion (show false = true from p)
  | .obj _ _, _, _, p, _ => Bool.noConfusion (show false = true from p)
theorem area_all : ∀ (ds : List WData) (vs : List Value), WellAll P h vs ds → plWs ds = true → (∀ d ∈ ds, d.weight ≤ 1048576) → ∃ A : List Addr, (∀ u ∈ vs, OkU A u) ∧ ∀ a ∈ A, ArgOb h A a
  | [], _, x, _, _ => by
    cases x
    exact ⟨[], fun u m => absurd m (by simp), fun a m => absurd m (by simp)⟩
  | d :: ds, _, x, p, z => by
    obtain ⟨v, vs, rfl, x1, x2⟩ := well_cons x
    have q : plW d = true ∧ plWs ds = true := Bool.and_eq_true_iff.mp p
    obtain ⟨A, a1, a2⟩ := area_one d v x1 q.1 (z d (List.mem_cons_self ..))
    obtain ⟨B, b1, b2⟩ := area_all ds vs x2 q.2 fun e he => z e (List.mem_cons_of_mem _ he)
    have kA : ∀ b ∈ A, b ∈ A ++ B := fun b hb => List.mem_append.mpr (.inl hb)
    have kB : ∀ b ∈ B, b ∈ A ++ B := fun b hb => List.mem_append.mpr (.inr hb)
    refine ⟨A ++ B, fun u hu => ?_, fun b hb => ?_⟩
    · rcases List.mem_cons.mp hu with e | m
      · rw [e]
        exact a1.mono kA
      · exact (b1 u m).mono kB
    · rcases List.mem_append.mp hb with m | m
      · exact (a2 b m).mono kA
      · exact (b2 b m).mono kB
end
end
noncomputable def hoOf (o : Obj) : Option HO := match o.data with
  | .seq vs _ => if (o.cls == Value.type "list") = true then some (.frz o (.lst (vs.toList.map toV))) else some (.frz o (.tup (vs.toList.map toV)))
  | _ => none
noncomputable def argH (K : PySem.W.Frag) (h : Heap) (A : List Addr) : Hp := fun b => if b ∈ A then (if (K.lookup b).isNone = true then (h.get? b).bind hoOf else none) else none
noncomputable def OnlyF (H : Hp) : Prop := ∀ b, H b = none ∨ ∃ o u, H b = some (.frz o u)
theorem hoOf_lst (vs : List Value) : hoOf { cls := .type "list", data := .seq vs.toArray } = some (.frz { cls := .type "list", data := .seq vs.toArray } (.lst (vs.map toV))) := by
  show (if (Value.type "list" == Value.type "list") = true then some (HO.frz { cls := .type "list", data := .seq vs.toArray } (.lst (vs.toArray.toList.map toV))) else some (HO.frz { cls := .type "list", data := .seq vs.toArray } (.tup (vs.toArray.toList.map toV)))) = _
  rw [if_pos (beq_self_eq_true _)]
theorem hoOf_tup (vs : List Value) : hoOf { cls := .type "tuple", data := .seq vs.toArray } = some (.frz { cls := .type "tuple", data := .seq vs.toArray } (.tup (vs.map toV))) := by
  show (if (Value.type "tuple" == Value.type "list") = true then some (HO.frz { cls := .type "tuple", data := .seq vs.toArray } (.lst (vs.toArray.toList.map toV))) else some (HO.frz { cls := .type "tuple", data := .seq vs.toArray } (.tup (vs.toArray.toList.map toV)))) = _
  rw [if_neg (by decide)]
section
variable {P : Program} {w : World} {K : PySem.W.Frag} {h : Heap} {A : List Addr}
theorem argH_at {b : Addr} {o : Obj} (hb : b ∈ A) (hk : K.lookup b = none) (e : h.get? b = some o) : argH K h A b = hoOf o := by
  unfold argH
  rw [if_pos hb, hk, if_pos (show (none : Option Obj).isNone = true from rfl), e] <;> rfl
theorem of_argH {b : Addr} {u : HO} (q : argH K h A b = some u) : b ∈ A ∧ K.lookup b = none := by
  unfold argH at q
  by_cases hb : b ∈ A
  · rw [if_pos hb] at q
    cases hk : K.lookup b with
    | none => exact ⟨hb, rfl⟩
    | some o =>
      rw [hk, if_neg (by simp)] at q
      cases q
  · rw [if_neg hb] at q
    cases q
theorem argH_is (ar : ∀ a ∈ A, ArgOb h A a) {b : Addr} {u : HO} (q : argH K h A b = some u) : K.lookup b = none ∧ ∃ vs : List Value, vs.length ≤ sizeLine ∧ (∀ u ∈ vs, OkU A u) ∧
    ((h.get? b = some { cls := .type "list", data := .seq vs.toArray } ∧ u = .frz { cls := .type "list", data := .seq vs.toArray } (.lst (vs.map toV))) ∨
     (h.get? b = some { cls := .type "tuple", data := .seq vs.toArray } ∧ u = .frz { cls := .type "tuple", data := .seq vs.toArray } (.tup (vs.map toV)))) := by
  obtain ⟨hb, hk⟩ := of_argH q
  obtain ⟨vs, h1, h2, h3⟩ := ar b hb
  refine ⟨hk, vs, h1, h2, ?_⟩
  rcases h3 with e | e
  · rw [argH_at hb hk e, hoOf_lst] at q
    exact .inl ⟨e, (Option.some.inj q).symm⟩
  · rw [argH_at hb hk e, hoOf_tup] at q
    exact .inr ⟨e, (Option.some.inj q).symm⟩
theorem argH_only (ar : ∀ a ∈ A, ArgOb h A a) : OnlyF (argH K h A) := fun b => by
  cases q : argH K h A b with
  | none => exact .inl rfl
  | some u =>
    obtain ⟨_, vs, _, _, ⟨_, e⟩ | ⟨_, e⟩⟩ := argH_is ar q
    · exact .inr ⟨_, _, by rw [e]⟩
    · exact .inr ⟨_, _, by rw [e]⟩
theorem argH_ok (ar : ∀ a ∈ A, ArgOb h A a) : HOk P w (argH K h A) h := fun b u q => by
  obtain ⟨_, vs, h1, h2, ⟨e, rfl⟩ | ⟨e, rfl⟩⟩ := argH_is ar q
  · exact ⟨e, by rw [List.length_map]; exact h1, vs, _, vals_toV h2, e⟩
  · exact ⟨e, by rw [List.length_map]; exact h1, vs, vals_toV h2, _, e, rfl, _, rfl⟩
theorem seq_inj {c c' : Value} {vs us : List Value} (e : (some { cls := c, data := .seq vs.toArray } : Option Obj) = some { cls := c', data := .seq us.toArray }) : c = c' ∧ vs = us := by
  have e1 := Option.some.inj e
  have e2 : c = c' := congrArg Obj.cls e1
  have e3 : Data.seq vs.toArray = Data.seq us.toArray := congrArg Obj.data e1
  injection e3 with e4
  refine ⟨e2, ?_⟩
  have e5 := congrArg Array.toList e4
  simpa using e5
theorem argL (KX : K.In h) (ar : ∀ a ∈ A, ArgOb h A a) {a : Addr} {vs : List Value} (ha : a ∈ A) (e : h.get? a = some { cls := .type "list", data := .seq vs.toArray }) : (∀ u ∈ vs, OkU A u) ∧ SqL K (argH K h A) a (vs.map toV) := by
  obtain ⟨us, h1, h2, h3⟩ := ar a ha
  have hu : us = vs := by
    rcases h3 with q | q
    · rw [e] at q
      exact (seq_inj q).2.symm
    · rw [e] at q
      exact absurd (Value.type.inj (seq_inj q).1) (by decide)
  subst hu
  refine ⟨h2, ?_⟩
  cases hk : K.lookup a with
  | none => exact .inl (.inr ⟨_, by rw [argH_at ha hk e, hoOf_lst]⟩)
  | some o =>
    have e2 := KX a o hk
    rw [e] at e2
    obtain rfl := Option.some.inj e2
    exact .inr ⟨_, us.toArray, _, hk, rfl, rfl, rfl, by rw [List.size_toArray]; exact h1, by simpa using vals_toV h2⟩
theorem argT (KX : K.In h) (ar : ∀ a ∈ A, ArgOb h A a) {a : Addr} {vs : List Value} (ha : a ∈ A) (e : h.get? a = some { cls := .type "tuple", data := .seq vs.toArray }) : (∀ u ∈ vs, OkU A u) ∧ SqT K (argH K h A) a (vs.map toV) := by
  obtain ⟨us, h1, h2, h3⟩ := ar a ha
  have hu : us = vs := by
    rcases h3 with q | q
    · rw [e] at q
      exact absurd (Value.type.inj (seq_inj q).1) (by decide)
    · rw [e] at q
      exact (seq_inj q).2.symm
  subst hu
  refine ⟨h2, ?_⟩
  cases hk : K.lookup a with
  | none => exact .inl (.inr ⟨_, by rw [argH_at ha hk e, hoOf_tup]⟩)
  | some o =>
    have e2 := KX a o hk
    rw [e] at e2
    obtain rfl := Option.some.inj e2
    exact .inr ⟨_, us.toArray, _, hk, rfl, rfl, by rw [List.size_toArray]; exact h1, by simpa using vals_toV h2⟩
mutual
theorem dw_one {Pm : Params} (KX : K.In h) (ar : ∀ a ∈ A, ArgOb h A a) : ∀ (d : WData) (v : Value), Well Pm h v d → plW d = true → OkU A v → Dw K (argH K h A) (toV v) d
  | .none, _, x, _, _ => by
    cases x
    exact .non
  | .bool b, _, x, _, _ => by
    cases x
    exact .bl b
  | .int i, _, x, _, _ => by
    cases x
    exact .int i
  | .str s, _, x, _, _ => by
    cases x
    exact .str s
  | .bytes b, _, x, _, _ => by
    cases x
    have z := Dw.byt (K := K) (H := argH K h A) b.toArray
    exact z
  | .list ds, _, x, p, hu => by
    obtain ⟨a, vs, rfl, ho, hall⟩ := well_list x
    obtain ⟨h2, hs⟩ := argL KX ar hu ho
    exact .lst hs (dw_all KX ar ds _ hall p h2)
  | .tuple ds, _, x, p, hu => by
    obtain ⟨a, vs, rfl, ho, hall⟩ := well_tuple x
    obtain ⟨h2, hs⟩ := argT KX ar hu ho
    exact .tup hs (dw_all KX ar ds _ hall p h2)
  | .float _, _, _, p, _ => Bool.noConfusion (show false = true from p)
  | .dict _, _, _, p, _ => Bool.noConfusion (show false = true from p)
  | .bytearray _, _, _, p, _ => Bool.noConfusion (show false = true from p)
  | .set _, _, _, p, _ => Bool.noConfusion (show false = true from p)
  | .frozenset _, _, _, p, _ => Bool.noConfusion (show false = true from p)
  | .obj _ _, _, _, p, _ => Bool.noConfusion (show false = true from p)
theorem dw_all {Pm : Params} (KX : K.In h) (ar : ∀ a ∈ A, ArgOb h A a) : ∀ (ds : List WData) (vs : List Value), WellAll Pm h vs ds → plWs ds = true → (∀ u ∈ vs, OkU A u) → DwAll K (argH K h A) (vs.map toV) ds
  | [], _, x, _, _ => by
    cases x
    exact .nil
  | d :: ds, _, x, p, hu => by
    obtain ⟨v, vs, rfl, x1, x2⟩ := well_cons x
    have q : plW d = true ∧ plWs ds = true := Bool.and_eq_true_iff.mp p
    exact .cons (dw_one KX ar d v x1 q.1 (hu _ (List.mem_cons_self ..))) (dw_all KX ar ds vs x2 q.2 fun u m => hu u (List.mem_cons_of_mem _ m))
end
end
theorem spec_call {P : Program} {w : World} {K : PySem.W.Frag} {mg mb : Str → Option Value} {CX : CXT} {k : Nat} {fa : Addr} {fd : FuncData} {ps : List Str} {sp : Sp} {s₁ : Shared} {vals : List Value} {ds : List WData} {R : PySem.W.WRecords} {cl : Str → Option Addr} {d0 : WData}
    (KX : K.In s₁.heap) (hns : s₁.heap.Ns mainGlobals mg) (hb : s₁.heap.Ns builtinsNs mb) (hbb : ∀ x : Str, x ≠ "__name__" → mb x = bootBuiltins x) (hlim : s₁.heap.NoLimit) (hg : s₁.gens = #[])
    (hwl : WellAll w.params s₁.heap vals ds) (hpl : plWs ds = true) (hwt : ∀ d ∈ ds, d.weight ≤ 1048576) (hr : Room k callerA)
    (F : ∀ base : Heap, K.In base → base.Ns mainGlobals mg → FnOk P w K mg base CX k fa fd ps sp) (hbind : ∀ (s : Shared) (us : List Value), us.length = ps.length → BindsTo s fd ⟨us, []⟩ (ps.zip us)) (hlen : ds.length = ps.length)
    (hsp : ∀ (H : Hp) (xs : List V), OnlyF H → DwAll K H xs ds → sp xs H (fun v H' => Dw K H' v d0) fun _ _ _ => False)
    (hCX : ∀ H e s', CX [] H s₁ (fun _ _ _ => False) e s' → False) :
    codeAny (model P w) callerA (.call (.ref fa) ⟨vals, []⟩) (fun r s' => ∃ u as, r = .ok (.ret u) ∧ ReadsW R cl s'.heap u d0 as ∧ OldK s₁.heap s'.heap ∧ s'.os = s₁.os ∧ AllBare s'.gens) s₁ := by
  obtain ⟨A, ho, ar⟩ := area_all ds vals hwl hpl hwt
  have hO : OnlyF (argH K s₁.heap A) := argH_only ar
  have hok : HOk P w (argH K s₁.heap A) s₁.heap := argH_ok ar
  have hS := dw_all KX ar ds vals hwl hpl ho
  have hV := vals_toV ho
  have hK : ∀ b u, argH K s₁.heap A b = some u → K.lookup b = none := fun b u q => (argH_is ar q).1
  have noA : ∀ {b : Addr} {o : Obj} {es : Array DictEntry} {ep : Nat}, s₁.heap.get? b = some o → o.data = .dict es ep → argH K s₁.heap A b = none := fun {b o es ep} e d => by
    cases q : argH K s₁.heap A b with
    | none => rfl
    | some u =>
      obtain ⟨_, vs, _, _, ⟨e2, _⟩ | ⟨e2, _⟩⟩ := argH_is ar q
      · rw [e2] at e
        cases e
        have d' : Data.seq vs.toArray _ = Data.dict es ep := d
        cases d'
      · rw [e2] at e
        cases e
        have d' : Data.seq vs.toArray _ = Data.dict es ep := d
        cases d'
  generalize argH K s₁.heap A = H at hO hok hS hK noA
  have base_of : ∀ {b : Addr} {o : Obj}, s₁.heap.get? b = some o → H b = none → (hidT s₁.heap H).get? b = some o := fun e n => hidT_get e n
  have nsK : ∀ {b : Addr} {m : Str → Option Value}, s₁.heap.Ns b m → (hidT s₁.heap H).Ns b m := fun {b m} ⟨o, es, ep, e, d, r⟩ => ⟨o, es, ep, base_of e (noA e d), d, r⟩
  have nK : ∀ b o, K.lookup b = some o → H b = none := fun b o e => by
    cases q : H b with
    | none => rfl
    | some u =>
      rw [hK b u q] at e
      cases e
  have hKb : K.In (hidT s₁.heap H) := fun b o e => base_of (KX b o e) (nK b o e)
  have hM : Mod K mg (hidT s₁.heap H) := ⟨hKb, nsK hns, ⟨mb, nsK hb, hbb⟩, let ⟨mc, h1, h2⟩ := hlim; ⟨mc, nsK h1, h2⟩⟩
  have e0 : Env0 P w K mg (hidT s₁.heap H) callerA [] s₁ H := ⟨rfl, hM, fun b o e => of_hidT e, Nat.le_of_eq (hidT_size _ _), trivial, fun b hb => absurd (show b ∈ ([] : List Addr) from hb) (by simp), hok, .of_eq hg⟩
  have hl : vals.length = ps.length := by rw [wellAll_len hwl]; exact hlen
  refine codeAny_mono ((F _ hKb (nsK hns)).run callerA [] s₁ H ⟨vals, []⟩ vals (vals.map toV) _ _ hr e0 (hbind s₁ vals hl) hV (hsp H _ hO hS)) fun r s' x => ?_
  cases r with
  | error e => exact (hCX H e s' x).elim
  | ok fl =>
    cases fl with
    | next => exact False.elim x
    | brk => exact False.elim x
    | cont => exact False.elim x
    | ret u =>
      obtain ⟨v, H', os, bare, un, hok', r', q⟩ := x
      have kept : ∀ b o, s₁.heap.get? b = some o → s'.heap.get? b = some o := fun b o e => by
        cases q2 : H b with
        | none => exact un.keep b o e q2 (by intro z; exact absurd (show b ∈ ([] : List Addr) from z) (by simp)) (by simp)
        | some u2 =>
          rcases hO b with z | ⟨ob, u3, z⟩
          · rw [q2] at z
            cases z
          · have z2 := un.frzs b ob _ z
            obtain ⟨e1, _⟩ := hok b _ z
            obtain ⟨e2, _⟩ := hok' b _ z2
            rw [e] at e1
            cases e1
            exact e2
      have KX' : K.In s'.heap := fun b o e => kept b o (KX b o e)
      obtain ⟨as, hrd⟩ := Dw.reads (R := R) (cl := cl) hok' KX' d0 v u q r'
      exact ⟨u, as, rfl, hrd, OldK.of_keep kept, os, bare⟩
theorem layable_weight {ds : List WData} (h : WData.layableAll ds = true) : ∀ d ∈ ds, d.weight ≤ 1048576 := fun d hd =>
  (PySem.W.layableW_iff.mp (List.all_eq_true.mp h d hd)).2.2
theorem encAll_len : ∀ (cs : List Codec) (a : Codec.denoteAll cs), (Codec.encAll cs a).length = cs.length
  | [], _ => rfl
  | c :: cs, a => by
    show (Codec.encAll cs a.2).length + 1 = cs.length + 1
    rw [encAll_len cs a.2]
theorem walk_spec {r : OpenSpec} {k : Nat} {q : Program} {loose : List Str} {XP : (Str → Option Value) → Heap → Prop} {YP : World → Heap → Prop} {d : DefRec} {K : Params → PySem.W.Frag} {CX : World → CXT} {ps : List Str} {sp : World → Sp}
    (hwell : r.wellSaid = true) (hdf : d.params.defaults = []) (hlen : r.args.length = ps.length) (hr : Room k callerA)
    (hY : ∀ (w : World) (h : Heap), YP w h → (K w.params).In h)
    (F : ∀ (w : World) (mg : Str → Option Value) (fa : Addr) (h : Heap), YP w h → (K w.params).In h → h.Ns mainGlobals mg → mg d.name = some (.ref fa) →
      ∃ fd : FuncData, (∀ (s : Shared) (us : List Value), us.length = ps.length → BindsTo s fd ⟨us, []⟩ (ps.zip us)) ∧
        ∀ base : Heap, (K w.params).In base → base.Ns mainGlobals mg → FnOk r.prog w (K w.params) mg base (CX w) k fa fd ps (sp w))
    (hsp : ∀ (w : World) (H : Hp) (xs : List V) (a : Codec.denoteAll r.args), OnlyF H → Codec.withinAll r.args a = true → Codec.app r.args r.asked a = true → DwAll (K w.params) H xs (Codec.encAll r.args a) →
      sp w xs H (fun v H' => Dw (K w.params) H' v (r.ret.enc (Codec.app r.args r.f a))) fun _ _ _ => False)
    (hCX : ∀ (w : World) (H : Hp) (s : Shared) (e : Value) (s' : Shared), CX w [] H s (fun _ _ _ => False) e s' → False) :
    PySem.W.WalkOS q loose XP YP r d [] (fun f vs => PySem.call f vs) := by
  intro w s_0 s₁ mg mb G Y fa o pm cd doc dV kV ho hd hcd hD hmg hg args vals as hpre hlay hrd hwl hlo
  obtain ⟨a, e1, e2⟩ := PySem.W.os_pre_some hpre
  obtain ⟨e3, hwi⟩ := Codec.encAll_of_decAll r.args args a e1
  subst e3
  have KX := hY w _ Y
  obtain ⟨fd, hb, hF⟩ := F w mg fa _ Y KX G.T.g hmg
  refine PySem.W.enter_call (codeAny_mono (spec_call (R := []) (cl := classAt s_0.heap) (d0 := r.ret.enc (Codec.app r.args r.f a)) KX G.T.g G.T.b G.T.builtins G.T.nolimit hg hwl (pl_encAll _ _) (layable_weight hlay) hr hF hb (by rw [encAll_len]; exact hlen)
    (fun H xs hO hS => hsp w H xs a hO hwi e2 hS) fun H e s' => hCX w H s₁ e s') fun r' s' hq => ?_)
  obtain ⟨u, as', rfl, h1, h2, h3, h4⟩ := hq
  exact ⟨.inl ⟨u, _, as', rfl, fun _ => rfl, h1, (OpenSpec.post_iff hwell hwi _ _).mpr rfl, fun z => Bool.noConfusion (show false = true from z)⟩, h2, h3, h4⟩
end L2
-- rests on (row put in by the clerk, for the bench that shows a file only what it spells): KE.SpHead KE.OsShapes

namespace L2
open PySem PySem.Spec PyProof.Rows
open PySem.W (WData Codec OpenSpec Well WellAll ReadsW ReadsAllW)
theorem walk_specX {r : OpenSpec} {k : Nat} {q : Program} {loose : List Str} {XP : (Str → Option Value) → Heap → Prop} {YP : World → Heap → Prop} {d : DefRec} {K : Params → PySem.W.Frag} {CX : World → CXT} {ps : List Str} {sp : PySem.W.Frag → Sp}
    (hwell : r.wellSaid = true) (hdf : d.params.defaults = []) (hlen : r.args.length = ps.length) (hr : Room k callerA)
    (hY : ∀ (w : World) (h : Heap), YP w h → (K w.params).In h)
    (F : ∀ (w : World) (mg : Str → Option Value) (fa : Addr) (h : Heap), YP w h → (K w.params).In h → h.Ns mainGlobals mg → mg d.name = some (.ref fa) →
      ∃ fd : FuncData, (∀ (s : Shared) (us : List Value), us.length = ps.length → BindsTo s fd ⟨us, []⟩ (ps.zip us)) ∧
        ∀ base : Heap, (K w.params).In base → base.Ns mainGlobals mg → FnOk r.prog w (K w.params) mg base (CX w) k fa fd ps (sp (K w.params)))
    (hsp : ∀ (K : PySem.W.Frag) (H : Hp) (xs : List V) (a : Codec.denoteAll r.args), OnlyF H → Codec.withinAll r.args a = true → Codec.app r.args r.asked a = true → DwAll K H xs (Codec.encAll r.args a) →
      sp K xs H (fun v H' => Dw K H' v (r.ret.enc (Codec.app r.args r.f a))) fun _ _ _ => False)
    (hCX : ∀ (w : World) (H : Hp) (s : Shared) (e : Value) (s' : Shared), CX w [] H s (fun _ _ _ => False) e s' → False) :
    PySem.W.WalkOS q loose XP YP r d [] (fun f vs => PySem.call f vs) :=
  walk_spec (K := K) (CX := CX) (sp := fun w => sp (K w.params)) hwell hdf hlen hr hY F (fun w H xs a h1 h2 h3 h4 => hsp (K w.params) H xs a h1 h2 h3 h4) fun w H s e s' => hCX w H s e s'
end L2

end
section
set_option Elab.async false
set_option linter.all false
set_option maxRecDepth 100000
namespace Xc
open PySem

noncomputable def HeadOk (h : Heap) (x : Addr) (head : Value) : Prop :=
  head = .none ∨ ∃ T oT ts, head = .ref T ∧ T ≠ x ∧ h.get? T = some oT ∧ oT.data = .fields ts ∧ ts[3]? = some Value.none

section
variable {M : Model} {A : Around} {E : Value → Shared → Prop} {s : Shared}

theorem xnew {base : Heap} {env : Env} {outer : List Env} {L x : Addr} {oe : Obj} {vs : Array Value} {head : Value} {hn : Bool} {Q : Unit → Shared → Prop}
    (hfr : A.frames = some (env :: outer)) (hl : s.heap.FunFrames base (env :: outer)) (hf : env.frame = some L)
    (he : s.heap.get? x = some oe) (hd : oe.data = .fields vs) (hz : 1 < vs.size)
    (hQ : ∀ (h' : Heap) (T' : Addr) (oT : Obj) (ts : Array Value), s.heap.get? T' = none → T' ≠ x → s.heap.objs.size ≤ T' → h'.get? x = some (oe.mapFields (·.setIfInBounds 1 (.ref T'))) →
      h'.get? T' = some oT → oT.data = .fields ts → ts[3]? = some (rawInt L) →
      (∀ b o, b ≠ x → b ∉ (env :: outer).filterMap (·.frame) → s.heap.get? b = some o → h'.get? b = some o) →
      (∀ b o, b ∈ (env :: outer).filterMap (·.frame) → s.heap.get? b = some o → ∃ sl, h'.get? b = some { o with slots := sl }) → Q () { s with heap := h' }) :
    wpAny M A (do let a ← frameOf env; let pl ← entryPlaceOf L hn; let b ← EntryCells.newEntry head a .none (rawInt L) .none pl; setField (.ref x) 1 b) Q E s := by
  have nx : x ∉ (env :: outer).filterMap (·.frame) := fun hm => by
    obtain ⟨_, o, ho, nf⟩ := hl.mem hm
    exact nf vs (by rw [he] at ho; cases ho; exact hd)
  refine wpAny_bind (wpAny_frameOf_fun hfr hl hf fun h1 k1 => wpAny_bind (wpAny_entryPlaceOf fun pl hpl => ?_))
  have e1 : h1.get? x = some oe := (k1.2.1 x nx).trans he
  unfold EntryCells.newEntry newFields
  refine wpAny_bind (wpAny_newObj_type ?_ (hpl.sizeOk5 _ _ _ _ _))
  generalize hob : ({ cls := .type "traceback", dict := none, data := .fields ([head, .ref L, .none, rawInt L, .none] ++ (if pl.isEmpty then List.replicate 6 Value.none else pl)).toArray } : Obj) = ob
  have e2 : (h1.push ob).get? x = some oe := Heap.get?_push_of_some _ e1
  refine wpAny_setField e2 hd hz ?_
  have nT : h1.objs.size ≠ x := Nat.ne_of_gt (Heap.lt_size e1)
  have sz : h1.objs.size = s.heap.objs.size := k1.1
  have dd := Obj.data_mapFields hd (·.setIfInBounds 1 (Value.ref h1.objs.size))
  have hobf : ob.isFreed = false := by rw [← hob]; rfl
  have eT : ((h1.push ob).update x (Obj.mapFields (·.setIfInBounds 1 (Value.ref h1.objs.size)))).get? h1.objs.size = some ob :=
    (Heap.get?_update_other _ _ (Ne.symm nT)).trans (Heap.get?_push_size h1 hobf)
  refine hQ _ h1.objs.size ob ([head, .ref L, .none, rawInt L, .none] ++ (if pl.isEmpty then List.replicate 6 Value.none else pl)).toArray ?_ nT (Nat.le_of_eq sz.symm) ?_ eT (by rw [← hob]) (by simp) ?_ ?_
  · exact Heap.get?_none_of_le (Nat.le_of_eq sz.symm)
  · exact Heap.get?_update_self _ e2 (Obj.isFreed_of_fields dd)
  · intro b o hb hnf ho
    rw [Heap.get?_update_other _ _ (Ne.symm hb)]
    exact Heap.get?_push_of_some _ ((k1.2.1 b hnf).trans ho)
  · intro b o hbf ho
    obtain ⟨sl, hs⟩ := k1.2.2 b o ho
    have hb : b ≠ x := fun q => nx (q ▸ hbf)
    exact ⟨sl, by rw [Heap.get?_update_other _ _ (Ne.symm hb)]; exact Heap.get?_push_of_some _ hs⟩

theorem xnote {base : Heap} {env : Env} {outer : List Env} {L x : Addr} {oe : Obj} {vs : Array Value} {head : Value} {Q : Unit → Shared → Prop}
    (hfr : A.frames = some (env :: outer)) (hl : s.heap.FunFrames base (env :: outer)) (hf : env.frame = some L)
    (he : s.heap.get? x = some oe) (hd : oe.data = .fields vs) (h1 : vs[1]? = some head) (hh : HeadOk s.heap x head)
    (hQ : ∀ (h' : Heap) (T' : Addr) (oT : Obj) (ts : Array Value), s.heap.get? T' = none → T' ≠ x → s.heap.objs.size ≤ T' → h'.get? x = some (oe.mapFields (·.setIfInBounds 1 (.ref T'))) →
      h'.get? T' = some oT → oT.data = .fields ts → ts[3]? = some (rawInt L) →
      (∀ b o, b ≠ x → b ∉ (env :: outer).filterMap (·.frame) → s.heap.get? b = some o → h'.get? b = some o) →
      (∀ b o, b ∈ (env :: outer).filterMap (·.frame) → s.heap.get? b = some o → ∃ sl, h'.get? b = some { o with slots := sl }) →
      (∀ b o, s.heap.get? b = some o → ∃ o', h'.get? b = some o') → Q () { s with heap := h' }) :
    wpAny M A (noteFrame (.ref x) env) Q E s := by
  have hz : 1 < vs.size := (Array.getElem?_eq_some_iff.mp h1).1
  unfold noteFrame
  simp only [hf]
  refine wpAny_bind (wpAny_field he hd h1 ?_)
  rcases hh with rfl | ⟨T, oT, ts, rfl, hTx, hT, hTd, hT3⟩
  · rw [if_neg (by decide)]
    refine xnew hfr hl hf he hd hz fun h' T' oT ts a1 a2 a3 a4 a5 a6 a7 a8 a9 => hQ h' T' oT ts a1 a2 a3 a4 a5 a6 a7 a8 a9 fun b o e => ?_
    by_cases hb : b = x
    · subst hb; exact ⟨_, a4⟩
    · by_cases hm : b ∈ (env :: outer).filterMap (·.frame)
      · obtain ⟨sl, q⟩ := a9 b o hm e; exact ⟨_, q⟩
      · exact ⟨o, a8 b o hb hm e⟩
  · rw [if_pos (show (Value.ref T != Value.none) = true from by simp)]
    refine wpAny_bind (wpAny_field hT hTd hT3 ?_)
    rw [if_neg (show ¬ ((Value.none == rawInt L) = true) from by simp [rawInt])]
    refine wpAny_bind (wpAny_setField hT hTd (Array.getElem?_eq_some_iff.mp hT3).1 ?_)
    rw [Heap.update_setField_same s.heap T oT ts 3 Value.none hT hTd hT3]
    refine xnew hfr hl hf he hd hz fun h' T' oT' ts' a1 a2 a3 a4 a5 a6 a7 a8 a9 => hQ h' T' oT' ts' a1 a2 a3 a4 a5 a6 a7 a8 a9 fun b o e => ?_
    by_cases hb : b = x
    · subst hb; exact ⟨_, a4⟩
    · by_cases hm : b ∈ (env :: outer).filterMap (·.frame)
      · obtain ⟨sl, q⟩ := a9 b o hm e; exact ⟨_, q⟩
      · exact ⟨o, a8 b o hb hm e⟩
theorem xland {x T : Addr} {oe oT : Obj} {vs ts : Array Value} {fl : Value} {Q : Unit → Shared → Prop} (he : s.heap.get? x = some oe) (hd : oe.data = .fields vs) (h1 : vs[1]? = some (.ref T)) (hT : s.heap.get? T = some oT) (hTd : oT.data = .fields ts) (h3 : ts[3]? = some fl)
    (hQ : ∀ (h' : Heap) (oT' : Obj) (ts' : Array Value), h'.get? T = some oT' → oT'.data = .fields ts' → ts'[3]? = some .none → (∀ b, b ≠ T → h'.get? b = s.heap.get? b) → Q () { s with heap := h' }) :
    wpAny M A (setFlight (.ref x) none) Q E s := by
  have hz : 3 < ts.size := (Array.getElem?_eq_some_iff.mp h3).1
  unfold setFlight
  refine wpAny_bind (wpAny_field he hd h1 ?_)
  rw [if_pos (show (Value.ref T != Value.none) = true from by simp)]
  refine wpAny_setField hT hTd hz (hQ _ _ _ (Heap.get?_update_self _ hT (Obj.isFreed_of_fields (Obj.data_mapFields hTd _))) (Obj.data_mapFields hTd _) (by simp [hz]) fun b hb => Heap.get?_update_other _ _ (Ne.symm hb))
end
end Xc
namespace Xc
open PySem
open Builtin Builtin.ObjectAttr
noncomputable abbrev bmV : List Value := [.type "ValueError", .type "Exception", .type "BaseException", .type "object"]
noncomputable abbrev xobj (C : Addr) (dict : Option Addr) (t : Addr) : Obj := { cls := .ref C, dict := dict, data := .fields #[.ref t, .none, .none, .none, .bool false, .none] }
section
variable {prog : Program} {w : World} {A : Around} {E : Value → Shared → Prop} {h : Heap} {g : Array GenState} {d : Drawn} {t : Nat} {os : OsState}
variable {nm q : Str} {C N x : Addr} {bs : List Value} {sn : List Str} {sub : List Value} {ab : Bool} {col : Option Bool} {dd : Option Addr} {k0 k1 k2 k3 k5 : Option Value}
  {mN : Str → Option Value} {name : Str} {v : Value}

theorem xstore_entry {tk : Tok} {a0 : Addr} {Q : Fin → Shared → Prop} (hC : h.get? C = some (excClassObj nm q C N bs bmV true sn sub ab col dd k0 k1 k2 k3 k5 "ValueError.__new__")) (hn : h.Ns N mN) (hna : mN name = none)
    (hB : typeLookup (.type "ValueError") name = pure none) (hx : h.get? x = some (xobj C none a0))
    (hq : ∀ h' tk' dx, h.objs.size ≤ dx → dx ≠ x → h'.get? x = some (xobj C (some dx) a0) → h'.Ns1 dx (fun y => if y = name then some v else none) →
      (∀ b o, b ≠ x → h.get? b = some o → h'.get? b = some o) → Q (.done (.ret .none)) ⟨h', g, d, tk', os⟩) :
    wpAny (model prog w) A (Builtin.«object.__setattr__» ⟨[.ref x, .str name tk, v], []⟩) Q E ⟨h, g, d, t, os⟩ := by
  have SF := F.store_ValueError
  have pass := SF.passes (.ref x)
  have hxs : x ≠ h.objs.size := Nat.ne_of_lt (Heap.lt_size hx)
  have hx1 : (h.push { cls := .type "dict", data := .dict #[] }).get? x = some (xobj C none a0) := Heap.get?_push_of_some _ hx
  generalize hg1 : ((h.push { cls := .type "dict", data := .dict #[] }).update x fun o => { cls := o.cls, dict := some h.objs.size, data := o.data, slots := o.slots }) = h1 at *
  have e1 : h1.get? h.objs.size = some { cls := .type "dict", data := .dict #[] } := by rw [← hg1]; exact (Heap.get?_update_ne _ _ _ _ hxs.symm).trans (Heap.get?_push_at rfl rfl)
  have e2 : h1.get? x = some (xobj C (some h.objs.size) a0) := by rw [← hg1]; exact Heap.get?_update_self _ hx1 rfl
  have e3 : ∀ b o, b ≠ x → h.get? b = some o → h1.get? b = some o := fun b o hb ho => by rw [← hg1]; exact (Heap.get?_update_ne _ _ _ _ hb).trans (Heap.get?_push_of_some _ ho)
  have e4 : h1.Ns1 h.objs.size (fun _ => none) := Heap.Ns1.of_empty ⟨_, #[], _, e1, rfl, fun e he => absurd he (by simp), fun _ => rfl⟩
  unfold Builtin.«object.__setattr__»
  repeat (first | with_reducible refine wpAny_nsSet1 (s := ⟨h1, g, d, t, os⟩) e4 ?_ | rw [hg1] | rw [refuse_eq] | (rw [refuseLoop_ref, pass]) | with_reducible refine wpAny_loadPart_at hx ?_ | with_reducible refine wpAny_mroOf_exc hC ?_ | (with_reducible refine wpAny_typeLookup_exc hC hn SF.mro hB ?_; rw [hna]) | wp_step)
  intro h' hn' hs
  obtain ⟨oD, esD, epD, hoD, hdD, hcD⟩ := hn'.count (Within.cons name v Within.nil)
  refine wpAny_bind (wpAny_lookBehind hoD (by rw [hdD]; exact pastItsLine_dict (Nat.le_trans hcD (by rw [List.length_cons, List.length_nil, sizeLine_eq]; omega))) (wpAny_pure ?_))
  exact hq h' _ h.objs.size (Nat.le_refl _) hxs.symm ((hs.2 x hxs).trans e2) hn' fun b o hb ho => (hs.2 b (Nat.ne_of_lt (Heap.lt_size ho))).trans (e3 b o hb ho)

theorem xstore_call {sa owner : String} {tk : Tok} {a0 : Addr} {R : Result → Shared → Prop} (SF : StoreFacts "ValueError" bmV sa owner) (hC : h.get? C = some (excClassObj nm q C N bs bmV true sn sub ab col dd k0 k1 k2 k3 k5 "ValueError.__new__")) (hn : h.Ns N mN) (hna : mN name = none)
    (hB : typeLookup (.type "ValueError") name = pure none) (hx : h.get? x = some (xobj C none a0))
    (hq : ∀ h' tk' dx, h.objs.size ≤ dx → dx ≠ x → h'.get? x = some (xobj C (some dx) a0) → h'.Ns1 dx (fun y => if y = name then some v else none) →
      (∀ b o, b ≠ x → h.get? b = some o → h'.get? b = some o) → R (.ok (.ret .none)) ⟨h', g, d, tk', os⟩) :
    codeAny (model prog w) A (.call (.builtin sa) ⟨[.ref x, .str name tk, v], []⟩) R ⟨h, g, d, t, os⟩ := by
  have ho : ∃ o, h.get? x = some o ∧ o.cls = .ref C := ⟨_, hx, rfl⟩
  obtain ⟨o, ho, hc⟩ := ho
  exact codeAny_call_builtin SF.slot.plain SF.entry (wpAny_check_sa SF hC ho hc (xstore_entry hC hn hna hB hx hq))
theorem xstore_by {sa owner : String} {a0 : Addr} {Q : Unit → Shared → Prop} (SF : StoreFacts "ValueError" bmV sa owner) (hC : h.get? C = some (excClassObj nm q C N bs bmV true sn sub ab col dd k0 k1 k2 k3 k5 "ValueError.__new__")) (hn : h.Ns N mN) (hns : mN "__setattr__" = none) (hna : mN name = none)
    (hB : typeLookup (.type "ValueError") name = pure none) (hx : h.get? x = some (xobj C none a0))
    (hq : ∀ h' tk' dx, h.objs.size ≤ dx → dx ≠ x → h'.get? x = some (xobj C (some dx) a0) → h'.Ns1 dx (fun y => if y = name then some v else none) →
      (∀ b o, b ≠ x → h.get? b = some o → h'.get? b = some o) → Q () ⟨h', g, d, tk', os⟩) :
    wpAny (model prog w) A (setAttr (.ref x) name v) Q E ⟨h, g, d, t, os⟩ := by
  have bnd := SF.slot.bind (.ref x)
  have hx0 : ∃ o, h.get? x = some o ∧ o.cls = .ref C := ⟨_, hx, rfl⟩
  obtain ⟨o, ho, hc⟩ := hx0
  unfold setAttr callSpecial? specialOf
  repeat (first | (with_reducible refine wpAny_loadPart_at ho ?_; rw [hc]) | (with_reducible refine wpAny_typeLookup_exc hC hn SF.mro SF.slot.lookup ?_; rw [hns]) | (with_reducible refine wpAny_of_eq bnd ?_) | wp_step)
  refine xstore_call SF hC hn hna hB hx fun h' tk' dx a1 a2 a3 a4 a5 => ?_
  exact wpAny_pure (wpAny_pure (hq h' tk' dx a1 a2 a3 a4 a5))
theorem xstore {a0 : Addr} {Q : Unit → Shared → Prop} (hC : h.get? C = some (excClassObj nm q C N bs bmV true sn sub ab col dd k0 k1 k2 k3 k5 "ValueError.__new__")) (hn : h.Ns N mN) (hns : mN "__setattr__" = none) (hna : mN name = none)
    (hB : typeLookup (.type "ValueError") name = pure none) (hx : h.get? x = some (xobj C none a0))
    (hq : ∀ h' tk' dx, h.objs.size ≤ dx → dx ≠ x → h'.get? x = some (xobj C (some dx) a0) → h'.Ns1 dx (fun y => if y = name then some v else none) →
      (∀ b o, b ≠ x → h.get? b = some o → h'.get? b = some o) → Q () ⟨h', g, d, tk', os⟩) :
    wpAny (model prog w) A (setAttr (.ref x) name v) Q E ⟨h, g, d, t, os⟩ := xstore_by F.store_ValueError hC hn hns hna hB hx hq

theorem xraise {env : Env} {s : Shared} {y : Sem Value} {Q : Flow → Shared → Prop} (hh : A.handled = none)
    (hy : wpAny (model prog w) A y (fun v s1 => ∃ x nm q C N bs sn sub ab col dd k0 k1 k2 k3 k5 dx t, v = .ref x ∧ s1.heap.get? C = some (excClassObj nm q C N bs bmV true sn sub ab col dd k0 k1 k2 k3 k5 "ValueError.__new__") ∧
      s1.heap.get? x = some (xobj C dx t) ∧ E (.ref x) s1) E s) : wpAny (model prog w) A (raiseStmt env (some y) none) Q E s := by
  unfold raiseStmt
  refine wpAny_bind (wpAny_mono hy (fun v s1 h1 => ?_) fun _ _ z => z)
  obtain ⟨x, nm, q, C, N, bs, sn, sub, ab, col, dd, k0, k1, k2, k3, k5, dx, t, rfl, hC, hx, hE⟩ := h1
  obtain ⟨hp, g, d, tk, os⟩ := s1
  have hcB : (Value.ref C :: bmV).contains (.type "BaseException") = true := by rw [List.contains_cons, F.excBase_ValueError.hasBase, Bool.or_true]
  repeat (first | with_reducible refine wpAny_loadPart_at hx ?_ | with_reducible refine wpAny_loadPart_at hC ?_ | (with_reducible refine wpAny_isSubtype_exc hC ?_; rw [hcB]) | wp_step)
  exact wpAny_raiseNew_none hh hE

theorem xinit {dx : Option Addr} {a0 : Addr} {rest : List Value} {Q : Value → Shared → Prop} (hC : h.get? C = some (excClassObj nm q C N bs bmV true sn sub ab col dd k0 k1 k2 k3 k5 "ValueError.__new__"))
    (hx : h.get? x = some (xobj C dx a0)) (hz : rest.length ≤ sizeLine)
    (hq : ∀ h' a1, h'.get? x = some (xobj C dx a1) → (∀ b o, b ≠ x → h.get? b = some o → h'.get? b = some o) → Q .none ⟨h', g, d, t, os⟩) :
    wpAny (model prog w) A (call (.builtin "ValueError.__init__") (.ref x :: rest)) Q E ⟨h, g, d, t, os⟩ := by
  have F := F.excBase_ValueError
  refine wpAny_call (codeAny_call_builtin F.init.plain F.initEntry (wpAny_check_init_sub F hC hx rfl ?_))
  unfold Builtin.«BaseException.__init__»
  wp_walk
  refine hq _ h.objs.size ?_ fun b o hb ho => ?_
  · exact (Heap.get?_update_self _ (Heap.get?_push_of_some _ hx) rfl).trans rfl
  · exact (Heap.get?_update_ne _ _ _ _ hb).trans (Heap.get?_push_of_some _ ho)

theorem xload_entry {dx : Addr} {tk : Tok} {oe : Obj} {vs : Array Value} {mA : Str → Option Value} {Q : Fin → Shared → Prop} (hC : h.get? C = some (excClassObj nm q C N bs bmV true sn sub ab col dd k0 k1 k2 k3 k5 "ValueError.__new__")) (hn : h.Ns N mN)
    (hna : mN name = none) (hB : typeLookup (.type "ValueError") name = pure none) (hx : h.get? x = some oe) (hc : oe.cls = .ref C) (hd : oe.dict = some dx) (hv' : oe.data = .fields vs) (hA : h.Ns1 dx mA) (hv : mA name = some v)
    (hq : Q (.done (.ret v)) ⟨h, g, d, t, os⟩) : wpAny (model prog w) A (Builtin.«object.__getattribute__» ⟨[.ref x, .str name tk], []⟩) Q E ⟨h, g, d, t, os⟩ := by
  have SF := F.store_ValueError
  unfold Builtin.«object.__getattribute__»
  repeat (first | (with_reducible refine wpAny_loadPart_at hx ?_; rw [hc]) | (with_reducible refine wpAny_typeLookup_exc hC hn SF.mro hB ?_; rw [hna]) | wp_step)
  rw [hv']
  unfold instanceDict
  repeat (first | (with_reducible refine wpAny_loadPart_at hx ?_; rw [hc]) | with_reducible refine wpAny_loadPart_at hC ?_ | wp_step)
  rw [hd]
  repeat (first | (with_reducible refine wpAny_nsGet hA.ns ?_; rw [hv]) | wp_step)
  exact hq
theorem xcheck_ga {M : Model} {nameV : Value} {oe : Obj} {Q : Unit → Shared → Prop} (hC : h.get? C = some (excClassObj nm q C N bs bmV true sn sub ab col dd k0 k1 k2 k3 k5 "ValueError.__new__")) (hx : h.get? x = some oe) (hc : oe.cls = .ref C)
    (hq : Q () ⟨h, g, d, t, os⟩) : wpAny M A (checkBuiltinCall "BaseException.__getattribute__" ⟨[.ref x, nameV], []⟩) Q E ⟨h, g, d, t, os⟩ := by
  have e1 : builtinKind "BaseException.__getattribute__" = some .slot := by decide +kernel
  have e2 : splitId "BaseException.__getattribute__" = some ("BaseException", "__getattribute__") := by decide +kernel
  have e3 : (Value.ref C :: bmV).contains (.type "BaseException") = true := by rw [List.contains_cons, F.excBase_ValueError.hasBase, Bool.or_true]
  have e4 := F.args_bexc_ga (.ref x) nameV
  simp only [checkBuiltinCall, e1, e2]
  refine wpAny_bind ?_
  unfold isInstance
  repeat (first | (with_reducible refine wpAny_loadPart_at hx ?_; rw [hc]) | (with_reducible refine wpAny_isSubtype_exc hC ?_; rw [e3]) | wp_step)
  exact hq
theorem xload_call {dx : Addr} {tk : Tok} {oe : Obj} {vs : Array Value} {mA : Str → Option Value} {R : Result → Shared → Prop} (FB : ExcAttrBase "ValueError" bmV) (hC : h.get? C = some (excClassObj nm q C N bs bmV true sn sub ab col dd k0 k1 k2 k3 k5 "ValueError.__new__")) (hn : h.Ns N mN)
    (hna : mN name = none) (hB : typeLookup (.type "ValueError") name = pure none) (hx : h.get? x = some oe) (hc : oe.cls = .ref C) (hd : oe.dict = some dx) (hv' : oe.data = .fields vs) (hA : h.Ns1 dx mA) (hv : mA name = some v)
    (hq : R (.ok (.ret v)) ⟨h, g, d, t, os⟩) : codeAny (model prog w) A (.call (.builtin "BaseException.__getattribute__") ⟨[.ref x, .str name tk], []⟩) R ⟨h, g, d, t, os⟩ :=
  codeAny_call_builtin FB.ga.plain F.entry_bexc_ga (xcheck_ga hC hx hc (xload_entry hC hn hna hB hx hc hd hv' hA hv hq))
theorem xload {dx : Addr} {oe : Obj} {vs : Array Value} {mA : Str → Option Value} {expr : Bool} {Q : Value → Shared → Prop} (hC : h.get? C = some (excClassObj nm q C N bs bmV true sn sub ab col dd k0 k1 k2 k3 k5 "ValueError.__new__")) (hn : h.Ns N mN)
    (hng : mN "__getattribute__" = none) (hnh : mN "__getattr__" = none) (hna : mN name = none) (hB : typeLookup (.type "ValueError") name = pure none) (hx : h.get? x = some oe) (hc : oe.cls = .ref C) (hd : oe.dict = some dx) (hv' : oe.data = .fields vs) (hA : h.Ns1 dx mA) (hv : mA name = some v)
    (hh : handedOut v = pure v) (hq : Q v ⟨h, g, d, t + 1, os⟩) : wpAny (model prog w) A (getAttr (.ref x) name expr) Q E ⟨h, g, d, t, os⟩ := by
  have FB := F.attrBase_ValueError
  have f3 := FB.ga.bind (.ref x)
  have hx0 : (expr && onTheHeap (Value.builtin "BaseException.__getattribute__")) = false := by cases expr <;> rfl
  have hx2 : (Value.builtin "BaseException.__getattribute__" == Value.builtin "object.__getattribute__") = false := by decide +kernel
  have hx1 : (onTheHeap (Value.ref C) && Value.builtin "BaseException.__getattribute__" == Value.builtin "object.__getattribute__") = false := by rw [hx2]; rfl
  unfold getAttr
  repeat (any_goals (first | assumption | (with_reducible refine wpAny_loadPart_at hx ?_; rw [hc]) | (with_reducible refine wpAny_typeLookup_exc hC hn FB.mro FB.ga.lookup ?_; rw [hng]) | (with_reducible refine wpAny_typeLookup_exc hC hn FB.mro FB.noGetattr ?_; rw [hnh]) | wp_step))
  refine xload_call FB hC hn hna hB hx hc hd hv' hA hv ?_
  show wpAny _ _ (handedOut v) _ _ _
  rw [hh]
  exact wpAny_pure hq
end
end Xc

end
section
set_option Elab.async false
set_option linter.all false
set_option maxRecDepth 100000
set_option maxHeartbeats 2000000
namespace L2
open PySem PySem.Spec PyProof.Rows
section
variable {P : Program} {w : World} {H : Hp} {h h' : Heap} {a : Addr} {o : HO} {fs ex : List Addr}
theorem ObjOk.there (x : ObjOk P w H h a o) : ∃ u, h.get? a = some u := by
  cases o with
  | lst xs => obtain ⟨_, _, _, _, e⟩ := x; exact ⟨_, e⟩
  | tup xs => obtain ⟨_, _, _, ob, e, _⟩ := x; exact ⟨_, e⟩
  | dK kvs => obtain ⟨_, _, _, _, o, _, _, e, _⟩ := x; exact ⟨_, e⟩
  | dT kvs => obtain ⟨_, _, _, _, o, _, _, e, _⟩ := x; exact ⟨_, e⟩
  | set S n => obtain ⟨o, _, _, _, e, _⟩ := x; exact ⟨_, e⟩
  | ins C dx fs => obtain ⟨_, _, _, e, _⟩ := x; exact ⟨_, e⟩
  | own y => obtain ⟨_, e⟩ := x; exact ⟨_, e⟩
  | xd fs => obtain ⟨_, ⟨_, _, _, e, _⟩, _⟩ := x; exact ⟨_, e⟩
  | rng lo hi => obtain ⟨_, _, _, e⟩ := x; exact ⟨_, e⟩
  | frz ob u => obtain ⟨e, _⟩ := x; exact ⟨_, e⟩
  | tbl ps => exact ⟨_, (show h.get? a = some _ from x)⟩
  | met f y => exact ⟨_, (show h.get? a = some _ from x)⟩
  | ext φ => obtain ⟨_, e, _⟩ := x; exact e
theorem HOk.freeN (x : HOk P w H h) (e : h.get? a = none) : H a = none := by
  cases q : H a with
  | none => rfl
  | some u =>
    obtain ⟨v, hv⟩ := (x a u q).there
    rw [e] at hv; cases hv
theorem Un.laidN (k : ∀ b u, h.get? b = some u → h'.get? b = some u) (hp : h.get? a = none) (hn : H a = none) : Un fs ex H (upd H a o) h h' where
  keep := fun b u q _ _ _ => k b u q
  slot := fun b u q _ _ _ => ⟨u.slots, k b u q⟩
  free := fun b u q n _ => by rw [upd_ne (fun z => by subst z; rw [hp] at q; cases q)]; exact n
  there := fun b u q _ => ⟨u, k b u q⟩
  tups := fun b xs q => by rw [upd_ne (ne_of_none q hn)]; exact q
  frzs := fun b u xs q => by rw [upd_ne (ne_of_none q hn)]; exact q
  tbls := fun b ps q => ⟨#[], by rw [upd_ne (ne_of_none q hn), q]; simp⟩
theorem HOk.laidN (x : HOk P w H h) (k : ∀ b u, h.get? b = some u → h'.get? b = some u) (hn : H a = none) (new : ObjOk P w (upd H a o) h' a o) : HOk P w (upd H a o) h' := fun b u e => by
  by_cases hb : b = a
  · subst hb; rw [upd_same] at e; cases e; exact new
  · rw [upd_ne hb] at e
    exact (x b u e).stay (fun c v _ q => k c v q) (fun c q => by rw [upd_ne (ne_of_none q hn)]; exact q) fun c xs q => by rw [upd_ne (ne_of_none q hn)]; exact q
theorem upd_id {H : Hp} {a : Addr} {o : HO} (e : H a = some o) : upd H a o = H := by
  funext b; unfold upd; split
  · rename_i q; subst q; exact e.symm
  · rfl
end
theorem Inv.laidN {X : Cx} {pins : List (Addr × Obj)} {σ : St} {H : Hp} {s : Shared} {h' : Heap} {a : Addr} {o : HO} {t' : Nat} (I : Inv X pins σ H s) (k : ∀ b u, s.heap.get? b = some u → h'.get? b = some u) (hp : s.heap.get? a = none)
    (new : ObjOk X.prog X.w (upd H a o) h' a o) : Inv X pins σ (upd H a o) { s with heap := h', toks := t' } := I.un (Un.laidN k hp (I.hok.freeN hp)) (I.hok.laidN k (I.hok.freeN hp) new)

noncomputable def xnP (x C : Addr) (d : Option Addr) : Heap → Prop := fun h => ∃ a0, h.get? x = some (Xc.xobj C d a0)
noncomputable def xoP (x C d : Addr) : Heap → Prop := fun h => ∃ oe vs, h.get? x = some oe ∧ oe.cls = .ref C ∧ oe.dict = some d ∧ oe.data = .fields vs
noncomputable abbrev xn (x C : Addr) (d : Option Addr) : HO := .ext (xnP x C d)
noncomputable abbrev xo (x C d : Addr) : HO := .ext (xoP x C d)
section
variable {P : Program} {w : World} {H : Hp} {h : Heap} {x C a0 d : Addr} {dd : Option Addr}
theorem xn_ok (e : h.get? x = some (Xc.xobj C dd a0)) : ObjOk P w H h x (xn x C dd) := ⟨⟨a0, e⟩, ⟨_, e⟩, fun _ _ ⟨a, q⟩ k => ⟨a, k _ q⟩⟩
theorem xo_ok {oe : Obj} {vs : Array Value} (e : h.get? x = some oe) (e1 : oe.cls = .ref C) (e2 : oe.dict = some d) (e3 : oe.data = .fields vs) : ObjOk P w H h x (xo x C d) :=
  ⟨⟨oe, vs, e, e1, e2, e3⟩, ⟨_, e⟩, fun _ _ ⟨oe, vs, q, r⟩ k => ⟨oe, vs, k _ q, r⟩⟩
theorem xn_get (hok : HOk P w H h) (e : H x = some (xn x C dd)) : ∃ a0, h.get? x = some (Xc.xobj C dd a0) := (show ObjOk P w H h x (xn x C dd) from hok x _ e).1
theorem xo_get (hok : HOk P w H h) (e : H x = some (xo x C d)) : ∃ oe vs, h.get? x = some oe ∧ oe.cls = .ref C ∧ oe.dict = some d ∧ oe.data = .fields vs := (show ObjOk P w H h x (xo x C d) from hok x _ e).1
end
noncomputable def HdOk (h : Heap) (x : Addr) : Prop := ∃ oe vs hd, h.get? x = some oe ∧ oe.data = .fields vs ∧ vs[1]? = some hd ∧ Xc.HeadOk h x hd
theorem Obj.dict_map {o : Obj} {vs : Array Value} (hd : o.data = .fields vs) (f : Array Value → Array Value) : (o.mapFields f).dict = o.dict := by
  obtain ⟨c, d, dt, sl⟩ := o
  obtain rfl : dt = .fields vs := hd
  rfl

section
variable {X : Cx} {pins : List (Addr × Obj)} {σ : St} {H : Hp} {s : Shared} {x C d : Addr} {E : Value → Shared → Prop} {A : Around} {M : Model}
theorem xfly {Q : Unit → Shared → Prop} (I : Inv X pins σ H s) (hfr : A.frames = some X.stack) (hst : X.stack = X.env :: X.outer) (hf : X.env.frame = some X.env.locals) (hx : H x = some (xo x C d)) (hh : HdOk s.heap x)
    (hQ : ∀ h', Inv X pins σ H { s with heap := h' } → HdOk h' x → Q () { s with heap := h' }) :
    wpAny M A (noteFrame (.ref x) X.env) (fun _ s1 => wpAny M A (setFlight (.ref x) none) Q E s1) E s := by
  obtain ⟨oe, vs, hd, he, hdat, h1, hhd⟩ := hh
  obtain ⟨oe', vs', he', hc, hdi, hdat'⟩ := xo_get I.hok hx
  rw [he] at he'; cases he'
  have hz : 1 < vs.size := (Array.getElem?_eq_some_iff.mp h1).1
  have stk := I.stack
  rw [hst] at stk
  refine Xc.xnote (base := X.base) (hfr.trans (congrArg some hst)) stk hf he hdat h1 hhd fun h' T' oT ts nT ne sz hx' hT hTd hT3 keep slot there => ?_
  have hd2 := Obj.data_mapFields hdat (·.setIfInBounds 1 (Value.ref T'))
  refine Xc.xland hx' hd2 (by simp [hz]) hT hTd hT3 fun h'' oT' ts' hT' hTd' h3' keep' => ?_
  have nold : ∀ b o, s.heap.get? b = some o → b ≠ T' := fun b o e z => by rw [z, nT] at e; cases e
  have hxx := (keep' x (Ne.symm ne)).trans hx'
  have kp : ∀ b o, b ≠ x → b ∉ frs (X.env :: X.outer) → s.heap.get? b = some o → h''.get? b = some o := fun b o n1 n2 e => (keep' b (nold b o e)).trans (keep b o n1 n2 e)
  have sl : ∀ b o, b ∈ frs (X.env :: X.outer) → s.heap.get? b = some o → ∃ sl, h''.get? b = some { o with slots := sl } := fun b o hb e => by
    obtain ⟨q, hq⟩ := slot b o hb e
    exact ⟨q, (keep' b (nold b o e)).trans hq⟩
  have nfr : ∀ b o, H b = some o → b ∉ frs (X.env :: X.outer) := fun b o e z => by
    have := I.stkFree b (by rw [hst]; exact z)
    rw [e] at this; cases this
  have hok' : HOk X.prog X.w H h'' := fun b u e => by
    by_cases hb : b = x
    · subst hb
      rw [hx] at e; cases e
      exact xo_ok hxx ((Obj.cls_mapFields _ _).trans hc) ((Obj.dict_map hdat _).trans hdi) hd2
    · refine (I.hok b u e).stay (fun c v hcc q => kp c v ?_ ?_ q) (fun _ q => q) fun _ _ q => q
      · rcases hcc with z | z
        · rw [z]; exact hb
        · intro y; subst y; rw [hx] at z; cases z
      · rcases hcc with z | z
        · rw [z]; exact nfr b u e
        · exact nfr c _ z
  have un : Un (frs X.stack) [] H H s.heap h'' := by
    rw [hst]
    refine ⟨fun b o q n hb _ => kp b o (fun z => by subst z; rw [hx] at n; cases n) hb q, fun b o q n hb _ => sl b o hb q, fun _ _ _ n _ => n, fun b o q _ => ?_, fun _ _ q => q, fun _ _ _ q => q, fun _ ps q => ⟨#[], by rw [q]; simp⟩⟩
    obtain ⟨o', ho'⟩ := there b o q
    exact ⟨o', (keep' b (nold b o q)).trans ho'⟩
  exact hQ h'' (I.call (g' := s.gens) (t' := s.toks) (d' := s.drawn) (ch := []) un hok' I.bare (fun b z => absurd z (by simp))) ⟨_, _, _, hxx, hd2, by simp [hz], .inr ⟨T', oT', ts', rfl, ne, hT', hTd', h3'⟩⟩
end

noncomputable def CXx (P : Program) (w : World) : CXT := fun outer H s E e s' => ∃ x C d H', e = Value.ref x ∧ s.heap.get? x = none ∧ s'.os = s.os ∧ AllBare s'.gens ∧ Un (frs outer) [] H H' s.heap s'.heap ∧ HOk P w H' s'.heap ∧
  H' x = some (xo x C d) ∧ HdOk s'.heap x ∧ E (.ref C) (some d) H'
noncomputable def Flies (X : Cx) (E : XK) : Prop := ∀ (pins : List (Addr × Obj)) (σ : St) (H : Hp) (s : Shared) (x C d : Addr), Inv X pins σ H s → H x = some (xo x C d) → X.s_0.heap.get? x = none → HdOk s.heap x → E (.ref C) (some d) H → X.xe (.ref x) s
theorem new_old {X : Cx} {pins : List (Addr × Obj)} {σ : St} {H : Hp} {s : Shared} {x : Addr} (I : Inv X pins σ H s) (hex : X.ex = []) (e : s.heap.get? x = none) : X.s_0.heap.get? x = none := by
  cases q : X.s_0.heap.get? x with
  | none => rfl
  | some o =>
    obtain ⟨o', z⟩ := I.base.there x o q (by rw [hex]; simp)
    rw [e] at z; cases z
theorem passX {X : Cx} {E : XK} (hex : X.ex = []) (h : Flies X E) : Passes (CXx X.prog X.w) X E := by
  rintro pins σ H s e s' I ⟨x, C, d, H', rfl, nx, os, bare, un, hok, hx, hh, hE⟩
  exact h pins σ H' s' x C d (I.call' os un hok bare (ch := []) (fun b z => absurd z (by simp))) hx (new_old I hex nx) hh hE
theorem passN {P : Program} {w : World} {X : Cx} : Passes (CXx P w) X E0 := by
  rintro pins σ H s e s' I ⟨x, C, d, H', rfl, nx, os, bare, un, hok, hx, hh, hE⟩
  exact hE.elim
theorem flies {P : Program} {w : World} {K : PySem.W.Frag} {mg : Str → Option Value} {base : Heap} {N : List Str} {qual : Str} {scope : Scope} {f : Addr} {cd : Value} {A : Around} {outer : List Env} {s : Shared} {H : Hp} {E : XK} :
    Flies (cxOf (CXx P w) P w K mg base N qual scope f cd A outer s H E) E := by
  intro pins σ H' s' x C d I hx nx hh hE
  show wpAny _ _ (leaving _ _) _ _ _
  unfold leaving
  refine wpAny_bind (xfly I I.ok.frames rfl rfl hx hh fun h'' I' hh' => ?_)
  exact ⟨x, C, d, H', rfl, nx, I'.os, I'.bare, I'.base, I'.hok, hx, hh', hE⟩
theorem Fun.okX {P : Program} {w : World} {K : PySem.W.Frag} {mg : Str → Option Value} {base : Heap} {x qual : Str} {st : Stmt} {f : Addr} {fd : FuncData} {N ps : List Str} {k : Nat} {sp : Sp} (F : Fun K x qual st f fd) (S : FnScope N ps (defScope st)) (len : ∀ vs H Q E, sp vs H Q E → vs.length = ps.length)
    (hbody : ∀ (cdv : Value) (A : Around) (outer : List Env) (s : Shared) (H : Hp) (vs : List V) (Q : VK) (E : XK), Room k (A.deeper (envOfC qual (defScope st) s.heap.objs.size f cdv)) → sp vs H Q E →
      ∃ t, PSs (cxOf (CXx P w) P w K mg base N qual (defScope st) f cdv A outer s H E) (defBody st) t ∧ t { nx := fun _ H' => Q .non H', rt := Q } (start N vs) H) : FnOk P w K mg base (CXx P w) (k + 1) f fd ps sp := by
  obtain ⟨oc, od, kV, doc, pm, an, cdv, ct, osl, rfl, lk, hcd⟩ := F.ex
  exact fn_of lk hcd S len fun A outer s H vs Q E hr hsp => hbody cdv A outer s H vs Q E hr hsp

structure XCls (K : PySem.W.Frag) (C N fI : Addr) : Prop where
  obj : ∃ nm q bs sn sub ab col dd k0 k1 k2 k3 k5, K.lookup C = some (excClassObj nm q C N bs Xc.bmV true sn sub ab col dd k0 k1 k2 k3 k5 "ValueError.__new__")
  ns : PySem.W.nsOkIn K N = true
  init : PySem.W.nsIn K N "__init__" = some (some (.ref fI))
  nsa : PySem.W.nsIn K N "__setattr__" = some none
  nga : PySem.W.nsIn K N "__getattribute__" = some none
  nge : PySem.W.nsIn K N "__getattr__" = some none
  fn : PySem.W.isFn K (.ref fI) = true
  kp : PySem.W.keepIn K (.ref C) = true
theorem ns_some_of {K : PySem.W.Frag} {h : Heap} {N : Addr} {mg : Str → Option Value} {n : Str} {v : Value} (X : K.In h) (G : h.Ns N mg) (e : PySem.W.nsIn K N n = some (some v)) : mg n = some v := by
  obtain ⟨o, es, ep, ho, hd, _, hf⟩ := G
  unfold PySem.W.nsIn at e
  split at e
  · rename_i c d es' n' sl q
    have := X _ _ q
    rw [ho] at this
    cases this
    cases hd
    split at e
    · rename_i en he
      cases e
      rw [← hf]
      unfold nsFind findBy
      rw [← Array.find?_toList, he]
      rfl
    · split at e <;> cases e
  · cases e
theorem XCls.at {K : PySem.W.Frag} {C N fI : Addr} (c : XCls K C N fI) {h : Heap} (X : K.In h) : h.Ns N (h.nsMap N) := .of_isNs (PySem.W.isNs_of_in X c.ns)
theorem XCls.no {K : PySem.W.Frag} {C N fI : Addr} (c : XCls K C N fI) {h : Heap} (X : K.In h) {n : Str} (e : PySem.W.nsIn K N n = some none) : h.nsMap N n = none := PySem.W.nsMap_none_of_in X c.ns e

noncomputable def tRaise (C : Addr) (sp : Sp) (E : XK) (t : TA) : TS := fun _ σ H => t σ H fun vs H1 => vs.length ≤ 1000 ∧ ∀ x, H1 x = none → sp (.ref x :: vs) (upd H1 x (xn x C none)) (fun v H2 => v = .non ∧ ∃ d, H2 x = some (xn x C (some d)) ∧ E (.ref C) (some d) (upd H2 x (xo x C d))) E0
section
variable {X : Cx} {C N fI : Addr} {k : Nat} {fd : FuncData} {ps : List Str} {sp : Sp} {E : XK} {e : Expr} {es : List Expr} {t : TA} {x : Str} {p cpos pos : Pos}
theorem ps_raise (c : XCls X.K C N fI) (F : FnOk X.prog X.w X.K X.mg X.base (CXx X.prog X.w) k fI fd ps sp) (hr : Room (k + 1) X.A) (hg : Gl X x) (hm : X.mg x = some (.ref C)) (hb : Binds X.K fd ps []) (hcalm : X.calm = true) (hex : X.ex = []) (hfl : Flies X E)
    (ha : PA X (e :: es) t) (hdb : (x == ("__debug__" : Str)) = false := by decide) (he : starEach (e :: es) X.env = (false, eval e X.env) :: starEach es X.env := by rfl) (hpl : (backTo cpos (starEach es X.env)).any (·.1) = false := by rfl) :
    PS X (.Raise (some (.Call (.Name x p) (e :: es) [] cpos)) none pos) (tRaise C sp E t) := by
  intro pins s σ H D I h
  rw [arm_exec_Raise]
  refine wpAny_bind (wpAny_standAt ?_)
  show wpAny _ _ (raiseStmt X.env (some (do let v ← eval (.Call (.Name x p) (e :: es) [] cpos) X.env; standAt pos; pure v)) none) _ _ s
  refine Xc.xraise (I.ok.hd hcalm) (wpAny_bind ?_)
  refine wpAny_Call_Name_kw (ld_glob I hg hm ?_ hdb)
  refine PySem.W.callWith_K (h₀ := X.base) I.ok.mod.kin c.kp (thn (ha cpos pins s σ H _ I h) fun us s1 ⟨vs, H1, I1, r, hz, q⟩ => ⟨I1.kIn, ?_⟩) he hpl
  obtain ⟨h1, g1, d1, t1, os1⟩ := s1
  obtain ⟨nm, qn, bs, sn, sub, ab, col, dd, k0, k1, k2, k3, k5, hC⟩ := c.obj
  have KX : X.K.In h1 := I1.kIn
  have hn := c.at KX
  have hi := ns_some_of KX hn c.init
  obtain ⟨oI, hoI, hcI⟩ : ∃ oI, X.K.lookup fI = some oI ∧ oI.cls = .type "function" := by
    have z := beq_iff_eq.mp (show (PySem.W.typeIn X.K (.ref fI) == some (.type "function")) = true from c.fn)
    obtain ⟨o, ho, hc⟩ := Option.map_eq_some_iff.mp (show (X.K.lookup fI).map (·.cls) = some (.type "function") from z)
    exact ⟨o, ho, hc⟩
  refine wpAny_call_exc_init (F := PySem.F.excBase_ValueError) (KX _ _ hC) hn hi (KX _ _ hoI) hcI (fun h' y hmade => ?_) (by rw [List.nil_append, ← r.length, sizeLine_eq]; omega)
  obtain ⟨tt, hy, _, _⟩ := hmade.there
  have I2 : Inv X pins σ (upd H1 y (xn y C none)) ⟨h', g1, d1, t1, os1⟩ := I1.laidN (t' := t1) hmade.keeps hmade.new (xn_ok (a0 := tt) hy)
  have hq := q y (I1.hok.freeN hmade.new)
  have r2 : Vals (V.ref y :: vs) (Value.ref y :: us) := .cons rfl r
  have hl : (Value.ref y :: us ++ []).length = ps.length := by
    rw [List.append_nil, ← r2.length]; exact F.len _ _ _ _ hq
  have hbd := hb ⟨h', g1, d1, t1, os1⟩ (Value.ref y :: us) I2.kIn hl
  rw [List.append_nil] at hbd
  refine wpAny_call (codeAny_mono (F.run _ X.stack _ _ ⟨Value.ref y :: us, []⟩ (Value.ref y :: us) _ _ E0 (hr.make C us []) (I2.env0.make C us []) hbd r2 hq) fun rr s' hq' => ?_)
  cases rr with
  | error e =>
    obtain ⟨_, _, _, _, _, _, _, _, _, _, _, _, z⟩ := hq'
    exact z.elim
  | ok fl =>
    cases fl with
    | next => exact False.elim hq'
    | brk => exact False.elim hq'
    | cont => exact False.elim hq'
    | ret u =>
      obtain ⟨v, H', I3, rv, ev, d, hx2, hE⟩ := I2.after hq'
      subst ev
      refine ⟨rv, wpAny_bind (wpAny_standAt (wpAny_pure ?_))⟩
      obtain ⟨a0, hy3⟩ := xn_get I3.hok hx2
      refine ⟨y, nm, qn, C, N, bs, sn, sub, ab, col, dd, k0, k1, k2, k3, k5, some d, a0, rfl, I3.kIn _ _ hC, hy3, ?_⟩
      have I4 : Inv X pins σ (upd H' y (xo y C d)) s' := I3.write (h' := s'.heap) (t' := s'.toks) (by rw [hx2]; exact True.intro) (.inl rfl) (fun b u _ q => q) ⟨_, hy3⟩ (xo_ok hy3 rfl rfl rfl)
      exact hfl pins σ _ s' y C d I4 upd_same (new_old I1 hex hmade.new) ⟨_, _, _, hy3, rfl, rfl, .inl rfl⟩ hE
end

noncomputable def tXInit (K : PySem.W.Frag) (t : TA) : TE := fun σ H Q => t σ H fun vs H1 => ∃ x C N fI d rest, vs = .ref x :: rest ∧ rest.length ≤ 1000 ∧ H1 x = some (xn x C d) ∧ XCls K C N fI ∧ Q .non H1
noncomputable def sXFld (K : PySem.W.Frag) (ta tv : TE) (f : Str) : TS := fun D σ H => tv σ H fun y H1 => ta σ H1 fun o H2 => ∃ x C N fI, o = .ref x ∧ H2 x = some (xn x C none) ∧ XCls K C N fI ∧ PySem.W.nsIn K N f = some none ∧
  ∀ d, H2 d = none → D.nx σ (upd (upd H2 x (xn x C (some d))) d (.xd [(f, y)]))
noncomputable def tXGet (K : PySem.W.Frag) (ta : TE) (f : Str) : TE := fun σ H Q => ta σ H fun o H1 => ∃ x C N fI d fs v, o = .ref x ∧ H1 x = some (xo x C d) ∧ XCls K C N fI ∧ PySem.W.nsIn K N f = some none ∧ H1 d = some (.xd fs) ∧ fs.lookup f = some v ∧ Q v H1
section
variable {X : Cx} {o e value : Expr} {f : Str} {pos pos' : Pos} {ta tv : TE}
theorem pe_xget (he : PE X e ta) (hB : typeLookup (.type "ValueError") f = pure none) (hb : attributeBase e f X.env (eval e X.env) = eval e X.env) : PE X (.Attribute e f pos) (tXGet X.K ta f) := by
  intro pins s σ H Q I h
  refine attr_of hb (thn (he pins s σ H _ I h) fun u s1 ⟨o, H1, I1, rx, x, C, N, fI, d, fs, v, eo, ex, c, nf, ed, l, q⟩ => ?_)
  subst eo
  obtain rfl : u = Value.ref x := rx
  obtain ⟨oe, vs, e1, e2, e3, e4⟩ := xo_get I1.hok ex
  obtain ⟨mA, hA, rA⟩ := (show ObjOk X.prog X.w H1 s1.heap d (.xd fs) from I1.hok d _ ed)
  obtain ⟨w', hw, rw'⟩ := RelO.some_of (v := v) (o := mA f) (by rw [← l]; exact rA f)
  obtain ⟨nm, qn, bs, sn, sub, ab, col, dd, k0, k1, k2, k3, k5, hC⟩ := c.obj
  obtain ⟨h1, g1, d1, t1, os1⟩ := s1
  have KX : X.K.In h1 := I1.kIn
  exact Xc.xload (KX _ _ hC) (c.at KX) (c.no KX c.nga) (c.no KX c.nge) (c.no KX nf) hB e1 e2 e3 e4 hA hw (PySem.W.handedOut_of (handed_of rw')) ⟨v, H1, I1.tok _, rw', q⟩
theorem ps_xfld (ha : PE X o ta) (hv : PE X value tv) (hB : typeLookup (.type "ValueError") f = pure none) (hs : swapsWith value (some (.Attribute o f pos')) pos.line X.env = pure false) : PS X (.Assign [.Attribute o f pos'] value pos) (sXFld X.K ta tv f) := by
  intro pins s σ H D I h
  refine plainObj_wpAny_Assign_Attribute (thn (hv pins s σ H _ I h) fun u s1 ⟨y, H1, I1, ry, q⟩ => thn (ha pins s1 σ H1 _ I1 q) fun ov s2 ⟨o, H2, I2, rx, x, C, N, fI, eo, ex, c, nf, q2⟩ => ?_) hs
  subst eo
  obtain rfl : ov = Value.ref x := rx
  obtain ⟨a0, hx⟩ := xn_get I2.hok ex
  obtain ⟨nm, qn, bs, sn, sub, ab, col, dd, k0, k1, k2, k3, k5, hC⟩ := c.obj
  obtain ⟨h1, g1, d1, t1, os1⟩ := s2
  have KX : X.K.In h1 := I2.kIn
  refine Xc.xstore (KX _ _ hC) (c.at KX) (c.no KX c.nsa) (c.no KX nf) hB hx fun h' tk' dx sz ne hx' hns keep => ?_
  have nd : H2 dx = none := I2.hok.fresh sz
  have old : ∀ b o, h1.get? b = some o → b ≠ dx := fun b o e z => absurd (Heap.lt_size e) (by rw [z]; exact Nat.not_lt.mpr sz)
  have xd : x ≠ dx := Ne.symm ne
  have hx2 : ∀ b, H2 b = none → b ≠ x := fun b n z => by rw [z, ex] at n; cases n
  have un : Un X.fs [] H2 (upd (upd H2 x (xn x C (some dx))) dx (.xd [(f, y)])) h1 h' := by
    refine ⟨fun b o e n _ _ => keep b o (hx2 b n) e, fun b o e n _ _ => ⟨o.slots, keep b o (hx2 b n) e⟩, fun b o e n _ => by rw [upd_ne (old b o e), upd_ne (hx2 b n)]; exact n, fun b o e _ => ?_, fun b xs e => ?_, fun b o u e => ?_, fun b ps e => ⟨#[], ?_⟩⟩
    · by_cases z : b = x
      · subst z; exact ⟨_, hx'⟩
      · exact ⟨o, keep b o z e⟩
    · rw [upd_ne (ne_of_none e nd), upd_ne (fun z => by rw [z, ex] at e; cases e)]; exact e
    · rw [upd_ne (ne_of_none e nd), upd_ne (fun z => by rw [z, ex] at e; cases e)]; exact e
    · rw [upd_ne (ne_of_none e nd), upd_ne (fun z => by rw [z, ex] at e; cases e), e]; simp
  have hok : HOk X.prog X.w (upd (upd H2 x (xn x C (some dx))) dx (.xd [(f, y)])) h' := fun b u e => by
    by_cases z : b = dx
    · subst z
      rw [upd_same] at e; cases e
      refine ⟨_, hns, fun g => ?_⟩
      by_cases q : g = f
      · subst q
        show RelO (List.lookup g [(g, y)]) (if g = g then some u else none)
        rw [if_pos rfl]
        simp only [List.lookup, beq_self_eq_true]
        exact ry
      · rw [if_neg q]
        have hb : (g == f) = false := beq_eq_false_iff_ne.mpr q
        simp only [List.lookup, hb]
        exact True.intro
    · rw [upd_ne z] at e
      by_cases z2 : b = x
      · subst z2
        rw [upd_same] at e; cases e
        exact xn_ok hx'
      · rw [upd_ne z2] at e
        refine (I2.hok b u e).stay (fun b' v hb q => keep b' v ?_ q) (fun b' q => ?_) fun b' xs q => ?_
        · rcases hb with y1 | y1
          · rw [y1]; exact z2
          · intro y2; rw [y2, ex] at y1; cases y1
        · rw [upd_ne (ne_of_none q nd), upd_ne (fun y2 => by rw [y2, ex] at q; cases q)]; exact q
        · rw [upd_ne (ne_of_none q nd), upd_ne (fun y2 => by rw [y2, ex] at q; cases q)]; exact q
  exact ⟨σ, _, I2.un (t' := tk') un hok, q2 dx nd⟩
end
end L2

namespace L2
open PySem PySem.Spec PyProof.Rows
theorem boot_VE : bootBuiltins "ValueError" = some (.type "ValueError") := by first | rfl | decide +kernel
theorem find_VEI (K : PySem.W.Frag) : PySem.W.findCls K (.type "ValueError") (.type "type") "__init__" = some (.val (.builtin "ValueError.__init__")) := by first | rfl | kernel_rfl
theorem type_VE : typeOf (.type "ValueError") = pure (.type "type") := by first | rfl | kernel_rfl
section
variable {X : Cx} {e : Expr} {es : List Expr} {p apos pos : Pos} {t : TA}
theorem pe_xinit {pl : Sem Bool} (hg : Gl X "ValueError") (hm : X.mg "ValueError" = none) (ha : PA X (e :: es) t) (he : starEach (e :: es) X.env = (false, eval e X.env) :: starEach es X.env := by rfl) (hpl : (backTo pos (starEach es X.env)).any (·.1) = false := by rfl)
    (ht : eval (.Call (.Attribute (.Name "ValueError" p) "__init__" apos) (e :: es) [] pos) X.env = (do
      let ov ← eval (.Name "ValueError" p) X.env
      standAt apos.atName
      let (f, first) ← holding [ov] (getMethod ov "__init__" pl)
      callWith pos f first (backTo pos (starEach (e :: es) X.env)) (backToKw pos (keywordEach [] X.env))) := by rfl) :
    PE X (.Call (.Attribute (.Name "ValueError" p) "__init__" apos) (e :: es) [] pos) (tXInit X.K t) := by
  intro pins s σ H Q I h
  refine PySem.W.methodCall_KW (pl := pl) (ld_blt I hg hm boot_VE ?_) ht
  obtain ⟨m, F⟩ := I.fr
  refine PySem.W.method_type F I.mod.kin type_VE (by decide +kernel) (find_VEI X.K) rfl ?_
  refine PyProof.Rows.callWith_builtin1 (thn (ha pos pins _ σ H _ (I.tok _) h) fun us s1 ⟨vs, H1, I1, r, x, C, N, fI, d, rest, ev, hz, hx, c, q⟩ => ?_) he hpl
  subst ev
  cases r with
  | @cons _ u _ us' r1 r2 =>
    obtain rfl : u = Value.ref x := r1
    obtain ⟨a0, hx0⟩ := xn_get I1.hok hx
    obtain ⟨nm, qn, bs, sn, sub, ab, col, dd, k0, k1, k2, k3, k5, hC⟩ := c.obj
    obtain ⟨h1, g1, d1, t1, os1⟩ := s1
    have KX : X.K.In h1 := I1.kIn
    refine Xc.xinit (KX _ _ hC) hx0 (by rw [← r2.length, sizeLine_eq]; omega) fun h' a1 hx' keep => ?_
    have I2 : Inv X pins σ (upd H1 x (xn x C d)) ⟨h', g1, d1, t1, os1⟩ := I1.write (h' := h') (t' := t1) (by rw [hx]; exact True.intro) (.inl rfl) keep ⟨_, hx'⟩ (xn_ok hx')
    rw [upd_id hx] at I2
    exact ⟨.non, H1, I2, rfl, q⟩
end

noncomputable abbrev Cx.hand (X : Cx) (x : Addr) : Cx := { X with A := X.A.mark (some (.ref x)), calm := false, xe := fun _ _ => False }
noncomputable abbrev Cx.tr (X : Cx) (pins : List (Addr × Obj)) (E : Value → Shared → Prop) : Cx := { X with pn := X.pn ++ pins, xe := E }
section
variable {X : Cx} {pins pins' : List (Addr × Obj)} {σ : St} {H : Hp} {s : Shared} {x : Addr} {E : Value → Shared → Prop}
theorem Inv.hand (I : Inv X pins σ H s) (x : Addr) : Inv (X.hand x) pins σ H s :=
  ⟨⟨I.ok.mod, I.ok.kind, I.ok.glob, I.ok.blt, I.ok.above, I.ok.inj, I.ok.has, I.ok.cab, fun z => Bool.noConfusion z, I.ok.frames, I.ok.stk, I.ok.exf, I.ok.bs, I.ok.bsz, I.ok.noex, I.ok.exfs, I.ok.funs, I.ok.frf⟩, I.os, I.bare, I.base, I.loc, I.cell, I.free, I.freeC, I.pin, I.hok, I.len⟩
theorem Inv.unhand (ok : X.Ok) (I : Inv (X.hand x) pins σ H s) : Inv X pins σ H s := ⟨ok, I.os, I.bare, I.base, I.loc, I.cell, I.free, I.freeC, I.pin, I.hok, I.len⟩
theorem Inv.tr (I : Inv X pins σ H s) (E : Value → Shared → Prop) : Inv (X.tr pins E) [] σ H s :=
  ⟨⟨I.ok.mod, I.ok.kind, I.ok.glob, I.ok.blt, I.ok.above, I.ok.inj, I.ok.has, I.ok.cab, I.ok.hd, I.ok.frames, I.ok.stk, I.ok.exf, I.ok.bs, I.ok.bsz, I.ok.noex, I.ok.exfs, I.ok.funs, I.ok.frf⟩, I.os, I.bare, I.base, I.loc, I.cell, I.free, I.freeC,
    fun p hp => I.pin p (by rw [List.append_nil] at hp; exact hp), I.hok, I.len⟩
theorem Inv.untr (I : Inv (X.tr pins E) pins' σ H s) : Inv X pins σ H s :=
  ⟨⟨I.ok.mod, I.ok.kind, I.ok.glob, I.ok.blt, I.ok.above, I.ok.inj, I.ok.has, I.ok.cab, I.ok.hd, I.ok.frames, I.ok.stk, I.ok.exf, I.ok.bs, I.ok.bsz, I.ok.noex, I.ok.exfs, I.ok.funs, I.ok.frf⟩, I.os, I.bare, I.base, I.loc, I.cell, I.free, I.freeC,
    fun p hp => I.pin p (List.mem_append_left _ hp), I.hok, I.len⟩
theorem SP.untr {D : Ends} {f : Flow} {s' : Shared} (h : SP (X.tr pins E) pins' D f s') : SP X pins D f s' := by
  cases f with
  | next => obtain ⟨σ', H', I, q⟩ := h; exact ⟨σ', H', I.untr, q⟩
  | brk => obtain ⟨σ', H', I, q⟩ := h; exact ⟨σ', H', I.untr, q⟩
  | cont => obtain ⟨σ', H', I, q⟩ := h; exact ⟨σ', H', I.untr, q⟩
  | ret u => obtain ⟨v, σ', H', I, r, q⟩ := h; exact ⟨v, σ', H', I.untr, r, q⟩
theorem none_at {n i : Nat} {v : V} (h : (List.replicate n (none : Option V))[i]? = some (some v)) : False := by
  rw [List.getElem?_replicate] at h
  split at h <;> cases h
theorem Inv.blank (I : Inv X pins σ H s) : Inv X pins (List.replicate X.N.length none) H s :=
  I.weak (by rw [List.length_replicate, I.len]) fun i v h => (none_at h).elim
theorem Inv.lost {h' : Heap} {m' : Str → Option Value} {t' : Nat} (I : Inv X pins σ H s) (hn' : h'.Ns X.env.locals m') (hs : Heap.SameBut X.env.locals s.heap h') : Inv X pins (List.replicate X.N.length none) H { s with heap := h', toks := t' } := by
  obtain ⟨m, hn, _⟩ := id I.loc
  have cne := I.cne
  refine ⟨I.ok, I.os, I.bare, ⟨fun b o e n hb hx => ?_, fun b o e n hb hx => ?_, I.base.free, fun b o e hx => ?_, I.base.tups, I.base.frzs, I.base.tbls⟩, ⟨_, hn', fun j y v' e1 e2 e3 => (none_at e2).elim⟩, fun y c e => ?_, I.free, I.freeC, fun p hp => ?_, fun b ob e => ?_, by rw [List.length_replicate]⟩
  · exact (hs.2 b (Nat.ne_of_lt (Nat.lt_of_lt_of_le (Heap.lt_size e) I.ok.above))).trans (I.base.keep b o e n hb hx)
  · obtain ⟨sl, e1⟩ := I.base.slot b o e n hb hx
    exact ⟨sl, (hs.2 b (Nat.ne_of_lt (Nat.lt_of_lt_of_le (Heap.lt_size e) I.ok.above))).trans e1⟩
  · obtain ⟨o', e1⟩ := I.base.there b o e hx
    exact ⟨o', (hs.2 b (Nat.ne_of_lt (Nat.lt_of_lt_of_le (Heap.lt_size e) I.ok.above))).trans e1⟩
  · obtain ⟨w', z⟩ := I.cell y c e
    exact ⟨w', z.sameBut hs (cne y c e)⟩
  · obtain ⟨e, n, ne, nf, d⟩ := I.pin p hp
    exact ⟨(hs.2 p.1 ne).trans e, n, ne, nf, d⟩
  · refine (I.hok b ob e).stay (fun c w' hc q => (hs.2 c ?_).trans q) (fun _ q => q) fun _ _ q => q
    rintro rfl
    rcases hc with hc | hc
    · rw [← hc, I.free] at e; cases e
    · rw [I.free] at hc; cases hc
end
noncomputable def ETry (C : Addr) (i n : Nat) (ts : TS) (D : Ends) : XK := fun cls d H' => cls = .ref C ∧ ∃ dx, d = some dx ∧ ∀ x, H' x = some (xo x C dx) → ts { nx := fun _ _ => False, rt := D.rt } ((List.replicate n none).set i (some (.ref x))) H'
noncomputable def XT (X : Cx) (pins : List (Addr × Obj)) (D : Ends) (hs : List ExceptHandler) : Value → Shared → Prop := fun e s1 => wpAny (model X.prog X.w) X.A (noteFrame e X.env) (fun _ s2 => wpAny (model X.prog X.w) X.A (setFlight e none)
  (fun _ s3 => wpAny (model X.prog X.w) X.A (handleBy e X.env hs) (SP X pins D) X.xe s3) X.xe s2) X.xe s1
section
variable {X : Cx} {C N fI : Addr} {cn n : Str} {i : Nat} {b0 : Stmt} {suite body : List Stmt} {ts : TS} {tb : Ends → TS} {p hpos pos : Pos}
theorem xrest {M : Model} {A : Around} {E : Value → Shared → Prop} {s : Shared} {x : Addr} {Q : Unit → Shared → Prop} (hh : HdOk s.heap x) (h : Q () s) : wpAny M A (setFlight (.ref x) none) Q E s := by
  obtain ⟨oe, vs, hd, he, hdat, h1, hhd⟩ := hh
  unfold setFlight
  refine wpAny_bind (wpAny_field he hdat h1 ?_)
  rcases hhd with rfl | ⟨T, oT, ts, rfl, hTx, hT, hTd, hT3⟩
  · rw [if_neg (by decide)]
    exact wpAny_pure h
  · rw [if_pos (show (Value.ref T != Value.none) = true from by simp)]
    refine wpAny_setField hT hTd (Array.getElem?_eq_some_iff.mp hT3).1 ?_
    show Q () { s with heap := s.heap.update T (Obj.mapFields (·.setIfInBounds 3 Value.none)) }
    rw [Heap.update_setField_same s.heap T oT ts 3 Value.none hT hTd hT3]
    exact h
theorem flies_try {pins : List (Addr × Obj)} {D : Ends} (c : XCls X.K C N fI) (hst : X.stack = X.env :: X.outer) (hf : X.env.frame = some X.env.locals) (hg : Gl X cn) (hm : X.mg cn = some (.ref C)) (nd : X.N.Nodup) (hi : X.N[i]? = some n) (hl : X.env.scope.names.lookup n = some .local)
    (hS : ∀ x, PSs (X.hand x) (b0 :: suite) ts) (hdb : (cn == ("__debug__" : Str)) = false) :
    Flies (X.tr pins (XT X pins D [.ExceptHandler (some (.Name cn p)) (some n) (b0 :: suite) hpos])) (ETry C i X.N.length ts D) := by
  rintro pins' σ' H s x C' d I hx nx hh ⟨eC, dx, ed, hE⟩
  cases eC
  cases ed
  have I0 : Inv X pins (List.replicate X.N.length none) H s := (Inv.untr I).blank
  show wpAny _ _ (noteFrame _ _) _ _ s
  refine xfly I0 I0.ok.frames hst hf hx hh fun h' I1 hh1 => ?_
  refine wpAny_handleBy_cons (codeAny_handlers_test ?_) (by intro q; cases q)
  refine ld_glob (X := X.hand x) (I1.hand x) hg hm ?_ hdb
  obtain ⟨oe, vs, e1, e2, e3, e4⟩ := xo_get I1.hok hx
  obtain ⟨nm, qn, bs, sn, sub, ab, col, dd, k0, k1, k2, k3, k5, hC⟩ := c.obj
  obtain ⟨h0, g0, d0, t0, os0⟩ := s
  refine wpAny_excMatches_sub_self (I1.kIn _ _ hC) e1 e2 PySem.F.excBase_ValueError.hasBase ?_
  show codeAny _ _ (.handlers _ [.ExceptHandler none (some n) (b0 :: suite) hpos] _) _ _
  refine codeAny_handlers_suite_as (xrest hh1 ?_)
  refine store_ok (X := X.hand x) (v := .ref x) (I1.hand x) nd hi (Or.inl hl) rfl (fun s2 I2 => ?_) (.inr hl)
  refine wpAny_mono (hS x pins s2 _ H _ I2 (hE x hx)) (fun f s3 hf3 => ?_) (fun _ _ z => z.elim)
  cases f with
  | next => obtain ⟨_, _, _, z⟩ := hf3; exact z.elim
  | brk => obtain ⟨_, _, _, z⟩ := hf3; exact False.elim z
  | cont => obtain ⟨_, _, _, z⟩ := hf3; exact False.elim z
  | ret u =>
    obtain ⟨v, σ3, H3, I3, rv, q⟩ := hf3
    have I4 : Inv X pins σ3 H3 s3 := I3.unhand I0.ok
    obtain ⟨m, hn, _⟩ := id I4.loc
    show wpAny _ _ (do bindName X.env n .none; unbindBehindTheSuite X.env n hpos) _ _ s3
    refine wpAny_nameGoes hl hn (by rw [I4.ok.kind]; rfl) fun h5 m5 hn5 hs5 => ?_
    exact ⟨v, _, H3, I4.lost hn5 hs5, rv, q⟩
noncomputable def tTry (tb : Ends → TS) : TS := fun D σ H => tb D D σ H
theorem ps_try (c : XCls X.K C N fI) (hst : X.stack = X.env :: X.outer) (hf : X.env.frame = some X.env.locals) (hg : Gl X cn) (hm : X.mg cn = some (.ref C)) (nd : X.N.Nodup) (hi : X.N[i]? = some n) (hl : X.env.scope.names.lookup n = some .local)
    (hS : ∀ x, PSs (X.hand x) (b0 :: suite) ts)
    (hB : ∀ pins D, Flies (X.tr pins (XT X pins D [.ExceptHandler (some (.Name cn p)) (some n) (b0 :: suite) hpos])) (ETry C i X.N.length ts D) → PSs (X.tr pins (XT X pins D [.ExceptHandler (some (.Name cn p)) (some n) (b0 :: suite) hpos])) body (tb D))
    (hdb : (cn == ("__debug__" : Str)) = false := by decide) : PS X (.Try body [.ExceptHandler (some (.Name cn p)) (some n) (b0 :: suite) hpos] [] [] pos) (tTry tb) := by
  intro pins s σ H D I h
  refine wpAny_Try_except (wpAny_mono (hB pins D (flies_try c hst hf hg hm nd hi hl hS hdb) [] s σ H D (I.tr _) h) (fun f s1 q => ?_) fun e s1 q => q)
  have q' : SP X pins D f s1 := q.untr
  cases f with
  | next => exact wpAny_execs_nil q'
  | brk => exact q'
  | cont => exact q'
  | ret u => exact q'
end
end L2

end
section
set_option Elab.async false
set_option linter.all false
set_option maxRecDepth 100000
set_option maxHeartbeats 2000000
namespace EnT
open PySem PySem.Builtin PySem.Builtin.Str
section
variable {prog : Program} {w : World} {A : Around} {E : Value → Shared → Prop} {s : Shared}
theorem next_item {it l : Addr} {i : Nat} {items : Array Value} {x : Value} {Q : Value → Shared → Prop} (hit : s.heap.IsTupleIter it l i)
    (hl : s.heap.IsTuple l items) (hx : items[i]? = some x)
    (hQ : ∀ h', h'.IsTupleIter it l (i + 1) → Heap.SameBut it s.heap h' → Q x { s with heap := h' }) :
    wpAny (model prog w) A (Builtin.SmallTypes.nextOf (.ref it)) Q E s := by
  obtain ⟨o, ho, hc, hd⟩ := id hit
  obtain ⟨ol, hol, _, nl, hdl⟩ := hl
  unfold Builtin.SmallTypes.nextOf
  refine wpAny_bind (wpAny_callSpecial?_slot (name := Str.ofString "__next__") hit.typeIs F.slot_tuple_iterator_next
    (wpAny_call_entry F.slot_tuple_iterator_next hit.typeIs F.entry_tuple_iterator_next ?_ (F.args_tuple_iterator_next_1 _)))
  show wpAny _ _ (field (.ref it) 0 >>= _) _ _ s
  refine wpAny_bind (wpAny_field ho hd (x := .ref l) rfl ?_)
  show wpAny _ _ (if (Value.ref l == Value.none) = true then _ else _) _ _ s
  rw [if_neg (show ¬ ((Value.ref l == Value.none) = true) from Bool.false_ne_true)]
  show wpAny _ _ (field (.ref it) 1 >>= _) _ _ s
  refine wpAny_bind (wpAny_field ho hd (x := .int i 0) rfl ?_)
  show wpAny _ _ (seqItems? (.ref l) >>= _) _ _ s
  refine wpAny_bind (wpAny_seqItems hol hdl ?_)
  simp only [Int.toNat_natCast, hx]
  refine wpAny_bind (wpAny_setField ho hd (by simp) (wpAny_pure ⟨x, rfl, wpAny_pure (hQ _ ?_ (Heap.SameBut.update ..))⟩))
  exact ⟨_, Heap.get?_update_self _ ho (Obj.isFreed_of_fields (Obj.data_mapFields hd _)), (Obj.cls_mapFields ..).trans hc, by
    rw [Obj.data_mapFields hd]; simp [rawInt]⟩
theorem next_end {it l : Addr} {i : Nat} {items : Array Value} {Q : Value → Shared → Prop} (hh : A.handled = none)
    (hit : s.heap.IsTupleIter it l i) (hl : s.heap.IsTuple l items) (hx : items[i]? = none)
    (hE : ∀ h' e, Heap.ExtBut it s.heap h' → (∃ o, h'.get? e = some o ∧ o.cls = .type "StopIteration") → E (.ref e) { s with heap := h' }) :
    wpAny (model prog w) A (Builtin.SmallTypes.nextOf (.ref it)) Q E s := by
  obtain ⟨o, ho, hc, hd⟩ := id hit
  obtain ⟨ol, hol, _, nl, hdl⟩ := hl
  unfold Builtin.SmallTypes.nextOf
  refine wpAny_bind (wpAny_callSpecial?_slot (name := Str.ofString "__next__") hit.typeIs F.slot_tuple_iterator_next
    (wpAny_call_entry F.slot_tuple_iterator_next hit.typeIs F.entry_tuple_iterator_next ?_ (F.args_tuple_iterator_next_1 _)))
  show wpAny _ _ (field (.ref it) 0 >>= _) _ _ s
  refine wpAny_bind (wpAny_field ho hd (x := .ref l) rfl ?_)
  show wpAny _ _ (if (Value.ref l == Value.none) = true then _ else _) _ _ s
  rw [if_neg (show ¬ ((Value.ref l == Value.none) = true) from Bool.false_ne_true)]
  show wpAny _ _ (field (.ref it) 1 >>= _) _ _ s
  refine wpAny_bind (wpAny_field ho hd (x := .int i 0) rfl ?_)
  show wpAny _ _ (seqItems? (.ref l) >>= _) _ _ s
  refine wpAny_bind (wpAny_seqItems hol hdl ?_)
  simp only [Int.toNat_natCast, hx]
  refine wpAny_bind (wpAny_rule (wpAny_bind (wpAny_setField ho hd (by simp) ?_)))
  show wpAny _ _ (newExc (.type "StopIteration") [] >>= _) _ _ _
  refine wpAny_bind ?_
  simp only [newExc, newTuple]
  refine wpAny_bind (wpAny_newObj_type ?_ (by size_fits))
  refine wpAny_bind (m := firstArgMember _ _) (wpAny_of_eq (a := Value.none) (by first | rfl | (simp only [firstArgMember]; rfl)) ?_)
  refine wpAny_newObj_type ?_ (by size_fits)
  simp only [raiseNew]
  refine wpAny_bind (wpAny_handled ?_)
  first | rw [show A.in1.handled = none from hh] | rw [hh]
  refine wpAny_bind (wpAny_pure (wpAny_throw ?_))
  exact hE _ _ (((Heap.SameBut.update ..).extBut.push _).push _) ⟨_, Heap.get?_push_size _ rfl, rfl⟩
end
theorem draws {prog : Program} {w : World} {A : Around} (hh : A.handled = none) (it l : Addr) (hne : l ≠ it) (items : Array Value) :
    Draws prog w A it [it, l] items.size (fun i v => items[i]? = some v) (fun i h => h.IsTupleIter it l i ∧ h.IsTuple l items) where
  live := fun _ _ st => let ⟨o, ho, _⟩ := st.1; ⟨o, ho⟩
  frame := fun _ _ _ st hk => ⟨st.1.at fun o e => hk it (by simp) o e, st.2.at fun o e => hk l (by simp) o e⟩
  item := fun i s Q E hi st hQ => by
    refine next_item st.1 st.2 (x := items[i]) (by simp [hi]) fun h' hit' hs' => ?_
    exact hQ _ h' s.toks (by simp [hi]) ⟨hit', st.2.extBut hs'.extBut hne⟩ hs'
  done := fun s Q E st hE => next_end hh st.1 st.2 (by simp) hE
open AutoSeq1 (wpAny_loadPart') in
theorem meets_new (l : Addr) (items : Array Value) (n : Nat) (dct : Option Addr) (sl : Array (Option Value)) :
    Meets (Builtin.«enumerate.__new__» ⟨[.type "enumerate", .ref l], []⟩) (fun _ R s => s.heap.get? l = some { cls := .type "tuple", dict := dct, data := .seq items n, slots := sl } ∧
      R (.ok (.ret (.ref (s.heap.push { cls := .type "tuple_iterator", data := .fields #[.ref l, .int 0 0] }).objs.size)))
        { s with heap := (s.heap.push { cls := .type "tuple_iterator", data := .fields #[.ref l, .int 0 0] }).push { cls := .type "enumerate", data := .fields #[.none, .bool false, .ref s.heap.objs.size, rawInt 0, .none, .none] } }) :=
  .of_wp fun prog w A R s h => by
    obtain ⟨hp, g, d, tk, os⟩ := s; obtain ⟨hl, h⟩ := h
    have hsub := sub_enumerate
    have hL : Heap.IsTuple (Shared.heap ⟨hp, g, d, tk, os⟩) l items := ⟨_, hl, rfl, n, rfl⟩
    wp_walk using wpAny_loadPart' hl
    refine wpAny_stack_any fun st => wpAny_pure ?_
    split
    · rename_i c _ _ _ _ _
      cases (c == Value.type "enumerate")
      · wp_walk using wpAny_loadPart' hl, wpAny_pyIter_tuple hL
        exact ⟨_, rfl, h⟩
      · wp_walk using wpAny_loadPart' hl, wpAny_pyIter_tuple hL
        exact ⟨_, rfl, h⟩
    · wp_walk using wpAny_loadPart' hl, wpAny_pyIter_tuple hL
      exact ⟨_, rfl, h⟩
section
variable {prog : Program} {w : World} {A : Around} {E : Value → Shared → Prop} {s : Shared}
theorem call_enum {l : Addr} {items : Array Value} {Q : Value → Shared → Prop} (hL : s.heap.IsTuple l items)
    (h : ∀ h', IsEnum h' (s.heap.objs.size + 1) s.heap.objs.size 0 .none → h'.IsTupleIter s.heap.objs.size l 0 → h'.objs.size = s.heap.objs.size + 2 →
      (∀ b o, s.heap.get? b = some o → h'.get? b = some o) → Q (.ref (s.heap.objs.size + 1)) { s with heap := h' }) :
    wpAny (model prog w) A (call (.type "enumerate") [.ref l]) Q E s := by
  obtain ⟨⟨c, dct, dt, sl⟩, hl, hc, n, hd⟩ := hL
  replace hc : c = .type "tuple" := hc
  replace hd : dt = .seq items n := hd
  subst hc hd
  refine callType_new F.called_enumerate (by decide) (F.typeCall_enumerate_1 _) (F.newCall_enumerate_1 _) (fun obj => F.args_object_init_2 obj _) F.entry_enumerate_new
    (meets_new l items n dct sl) ⟨hl, ?_⟩
  have hz : (s.heap.push { cls := .type "tuple_iterator", data := .fields #[.ref l, .int 0 0] }).objs.size = s.heap.objs.size + 1 := Heap.size_push ..
  show _ ∧ _
  rw [hz]
  have he : IsEnum ((s.heap.push { cls := .type "tuple_iterator", data := .fields #[.ref l, .int 0 0] }).push
      { cls := .type "enumerate", data := .fields #[.none, .bool false, .ref s.heap.objs.size, rawInt 0, .none, .none] }) (s.heap.objs.size + 1) s.heap.objs.size 0 .none := by
    have := Heap.get?_push_size (s.heap.push { cls := .type "tuple_iterator", data := .fields #[.ref l, .int 0 0] })
      (o := { cls := .type "enumerate", data := .fields #[.none, .bool false, .ref s.heap.objs.size, rawInt 0, .none, .none] }) rfl
    rw [hz] at this; exact this
  refine ⟨⟨_, he, rfl⟩, h _ he ⟨_, Heap.get?_push_of_some _ (Heap.get?_push_size _ rfl), rfl, rfl⟩ (by rw [Heap.size_push, hz]) fun b o x => Heap.get?_push_of_some _ (Heap.get?_push_of_some _ x)⟩
end
end EnT
namespace L2
open PySem PySem.Spec PyProof.Rows
noncomputable def IteT (K : PySem.W.Frag) (a : Addr) : It :=
  ⟨fun i H => ∃ (xs : List V) (x : V), SqT K H a xs ∧ xs[i]? = some x, fun i H v H' => ∃ T x, v = .ref T ∧ H T = none ∧ H' = upd H T (.tup [.int (i : Nat), x]) ∧ ∀ xs, SqT K H a xs → xs[i]? = some x, fun i H => ∃ xs : List V, SqT K H a xs ∧ xs.length = i⟩
theorem turn_enumT {P : Program} {w : World} {K : PySem.W.Frag} {elts : List Expr} {kk : Nat} {tpos : Pos} (a e it : Addr) (hae : a ≠ e) (hai : a ≠ it) :
    Turn P w K (.Tuple elts kk tpos) (IteT K a) [e, it] e (fun i h => (∃ old, IsEnum h e it ((i : Nat) : Int) old) ∧ h.IsTupleIter it a i ∧ e ≠ it) where
  mem := by simp
  obj := fun i h st b hb => by
    obtain ⟨⟨old, he⟩, ⟨o, ho, hc, hd⟩, _⟩ := st
    have e' : b = e ∨ b = it := by simpa using hb
    rcases e' with z | z
    · rw [z]; exact ⟨_, he, fun v q => nomatch q⟩
    · rw [z]; exact ⟨o, ho, fun v q => by rw [hd] at q; cases q⟩
  keep := fun i h h' st k => let ⟨⟨old, he⟩, hi, hne⟩ := st; ⟨⟨old, k e (by simp) _ he⟩, hi.at fun o q => k it (by simp) o q, hne⟩
  item := by
    intro X hP hw hK hc i pins s σ H E I hf st hg
    subst hP hw hK
    obtain ⟨⟨old, he⟩, hit, hne⟩ := st
    obtain ⟨xs, x, hq, hx⟩ := hg
    obtain ⟨its, rv, p, hz⟩ := I.tuple hq
    have p' : s.heap.IsTuple a its.toArray := p
    obtain ⟨u, hu, ru⟩ := rv.get hx
    have hel : e < s.heap.objs.size := Heap.lt_size he
    have hil : it < s.heap.objs.size := by obtain ⟨_, q, _⟩ := hit; exact Heap.lt_size q
    have hiu : i < its.toArray.size := by
      obtain ⟨y, _⟩ := List.getElem?_eq_some_iff.mp hu
      simpa using y
    refine wpAny_pyNext_enum_itemD (EnT.draws (prog := X.prog) (w := X.w) (A := X.A.in1) (I.ok.hd hc) it a hai its.toArray) he ⟨hit, p'⟩ hiu hne (by simp [hne, Ne.symm hae]) fun u' h' tk hP ho hit' hT hsz hk => ?_
    have eu : u' = u := by
      have q1 : its[i]? = some u' := by simpa using hP
      rw [q1] at hu
      exact Option.some.inj hu
    subst eu
    refine ⟨_, rfl, wpAny_letOwnedTupleGo_enum (s := { s with heap := h', toks := tk + 1 }) ho fun h'' he' sb => ?_⟩
    have hT2 : h''.get? s.heap.objs.size = some { cls := .type "tuple", data := .seq #[.int i tk, u'] } := (sb.2 _ (Nat.ne_of_gt hel)).trans hT
    have new : ObjOk X.prog X.w (upd H s.heap.objs.size (.tup [.int (i : Nat), x])) h'' s.heap.objs.size (.tup [.int (i : Nat), x]) :=
      ⟨by show 2 ≤ sizeLine; decide, [.int i tk, u'], .cons ⟨_, rfl⟩ (.cons ru .nil), ⟨_, hT2, rfl, _, rfl⟩⟩
    have I1 : Inv X pins σ (upd H s.heap.objs.size (.tup [.int (i : Nat), x])) { s with heap := h'', toks := tk + 1 } :=
      I.turnedNew (ch := [e, it]) (fun b ob hb q => (sb.2 b (fun z => hb (by simp [z]))).trans (hk b ob (fun z => hb (by simp [z])) (fun z => hb (by simp [z])) q)) hf (Nat.le_refl _) new
    refine ⟨.ref s.heap.objs.size, _, I1, rfl, ⟨_, x, rfl, I.hok.fresh (Nat.le_refl _), rfl, fun ys hy => by rw [I.tuple_inj hy hq]; exact hx⟩, ⟨⟨u', ?_⟩, hit'.1.at fun o q => (sb.2 it (Ne.symm hne)).trans q, hne⟩, fun b hb => ?_⟩
    · have e1 : ((i + 1 : Nat) : Int) = (i : Int) + 1 := by omega
      rw [e1]; exact he'
    · have hb' : b < s.heap.objs.size := by
        have e' : b = e ∨ b = it := by simpa using hb
        rcases e' with z | z
        · rw [z]; exact hel
        · rw [z]; exact hil
      rw [upd_ne (Nat.ne_of_lt hb')]
      exact (hf b hb).1
  done := by
    intro X hP hw hK hc i pins s σ H E I hf st hg
    subst hP hw hK
    obtain ⟨⟨old, he⟩, hit, hne⟩ := st
    obtain ⟨xs, hq, hx⟩ := hg
    obtain ⟨its, rv, p, hz⟩ := I.tuple hq
    have p' : s.heap.IsTuple a its.toArray := p
    obtain ⟨f0, f1, f2, f3, f4, f5⟩ := hf it (by simp)
    have hl := rv.length
    have hi : i = its.toArray.size := by simp; omega
    rw [hi] at hit
    exact wpAny_pyNext_enum_endD (EnT.draws (prog := X.prog) (w := X.w) (A := X.A.in1) (I.ok.hd hc) it a hai its.toArray) he ⟨hit, p'⟩ fun h' eb => ⟨rfl, I.turned (t' := s.toks) (fun b o hb q => eb b o hb q) f0 f1 f3 f4 f5⟩
  self := fun A i s Q E st h => let ⟨⟨_, he⟩, _⟩ := st; wpAny_pyIter_enum he h
noncomputable def iEnumT (K : PySem.W.Frag) (ta : TA) : TI := fun σ H R => ta σ H fun vs H1 => ∃ a xs, vs = [.ref a] ∧ SqT K H1 a xs ∧ R (IteT K a) H1
theorem pi_enumT {X : Cx} {e : Expr} {ta : TA} {p pos tpos : Pos} {elts : List Expr} {kk : Nat} (hg : Gl X "enumerate") (hm : X.mg "enumerate" = none) (ha : PA X [e] ta) (hs : starEach [e] X.env = [(false, eval e X.env)] := by rfl) :
    PI X (.Tuple elts kk tpos) (.Call (.Name "enumerate" p) [e] [] pos) (iEnumT X.K ta) := by
  intro pins s σ H R I h
  refine Call_ (ld_blt I hg hm boot_enumerate (PyProof.Rows.callWith_type1 (thn (ha pos pins s σ H _ I h) fun us s1 ⟨vs, H1, I1, r1, q1⟩ => ?_) hs rfl))
  obtain ⟨a, xs, ex, hq, q⟩ := q1
  subst ex
  cases r1 with
  | cons r rr =>
    cases rr
    cases r
    obtain ⟨its, rv, p', hz⟩ := I1.tuple hq
    have p'' : s1.heap.IsTuple a its.toArray := p'
    have hlt : a < s1.heap.objs.size := by obtain ⟨_, y, _⟩ := p''; exact Heap.lt_size y
    refine EnT.call_enum p'' fun h' he hit hsz hk => wpAny_pyIter_enum he ?_
    have I2 : Inv X pins σ H1 { s1 with heap := h' } := I1.kept (t' := s1.toks) hk
    refine ⟨s1.heap.objs.size + 1, [s1.heap.objs.size + 1, s1.heap.objs.size], _, _, H1, rfl, I2, turn_enumT a (s1.heap.objs.size + 1) s1.heap.objs.size (Nat.ne_of_lt (Nat.lt_succ_of_lt hlt)) (Nat.ne_of_lt hlt), ⟨⟨.none, he⟩, hit, Nat.succ_ne_self _⟩, fun b hb => ?_, q⟩
    have e' : b = s1.heap.objs.size + 1 ∨ b = s1.heap.objs.size := by simpa using hb
    have hle : s1.heap.objs.size ≤ b := by
      rcases e' with z | z
      · rw [z]; exact Nat.le_add_right _ _
      · rw [z]; exact Nat.le_refl _
    exact I1.fpOk hle (I1.hok.fresh hle)
theorem for_enumT {K : PySem.W.Frag} {a : Addr} {xs : List V} {g : TG} {tb : TS} {D : Ends} {σ : St} {H : Hp} (Pv : Nat → St → Hp → Prop) (h0 : Pv 0 σ H) (hl : ∀ i σ H, i ≤ xs.length → Pv i σ H → SqT K H a xs)
    (hs : ∀ i x T σ H, xs[i]? = some x → Pv i σ H → H T = none → g (.ref T) σ (upd H T (.tup [.int (i : Nat), x])) fun σ2 H2 => tb { D with nx := Pv (i + 1), ct := Pv (i + 1), bk := D.nx } σ2 H2) (hd : ∀ σ H, Pv xs.length σ H → D.nx σ H) :
    ∃ W : Nat → Nat → St → Hp → Prop, (∃ m, W 0 m σ H) ∧ ∀ i m σ H, W i m σ H →
      ((IteT K a).stop i H ∧ D.nx σ H) ∨ ((IteT K a).go i H ∧ ∃ N : St → Hp → Prop, (∀ σ' H', N σ' H' → ∃ m', m' < m ∧ W (i + 1) m' σ' H') ∧ ∀ x H', (IteT K a).yld i H x H' → g x σ H' fun σ2 H2 => tb { D with nx := N, ct := N, bk := D.nx } σ2 H2) := by
  refine ⟨fun i m σ H => m = xs.length - i ∧ i ≤ xs.length ∧ Pv i σ H, ⟨xs.length, by simp, Nat.zero_le _, h0⟩, ?_⟩
  rintro i m σ H ⟨rfl, hi, p⟩
  have q := hl i σ H hi p
  by_cases hlt : i < xs.length
  · refine .inr ⟨⟨xs, xs[i], q, by simp [hlt]⟩, Pv (i + 1), fun σ' H' p' => ⟨xs.length - (i + 1), by omega, rfl, hlt, p'⟩, fun x H' y => ?_⟩
    obtain ⟨T, y0, e, hT, e2, y⟩ := y
    subst e e2
    exact hs i y0 T σ _ (y xs q) p hT
  · have e : i = xs.length := by omega
    subst e
    exact .inl ⟨⟨xs, q, rfl⟩, hd σ H p⟩
noncomputable def bestI (js : List Int) : Int := js.getD (argBest (fun i j => decide (js.getD i 0 > js.getD j 0)) (js.length - 1)) 0
theorem call_maxT {X : Cx} (hc : X.calm = true) : CallR X (.builtin "max") (fun xs H Q => ∃ p js, xs = [.ref p] ∧ SqT X.K H p (js.map V.int) ∧ 0 < js.length ∧ Q (.int (bestI js)) H) := by
  intro pins s σ H xs us Q I r h
  obtain ⟨a, js, rfl, hq, hn, q⟩ := h
  obtain ⟨u, rfl, rx⟩ := vals1 r
  cases rx
  obtain ⟨its, rv, p, hz⟩ := I.tuple hq
  have p' : s.heap.IsTuple a its.toArray := p
  have hlen := rv.length
  rw [List.length_map] at hlen
  have hat : ∀ i v, its.toArray[i]? = some v → ∃ t, v = Value.int (js.getD i 0) t := fun i v hv => by
    have hv' : its[i]? = some v := by simpa using hv
    have hi : i < its.length := (List.getElem?_eq_some_iff.mp hv').1
    have hx : (js.map V.int)[i]? = some (V.int (js.getD i 0)) := by
      rw [List.getElem?_map, List.getD_eq_getElem?_getD, List.getElem?_eq_getElem (by omega)]; rfl
    obtain ⟨u, hu, ru⟩ := rv.get hx
    rw [hu] at hv'
    cases hv'
    exact ru
  have hlt : a < s.heap.objs.size := by obtain ⟨_, e, _⟩ := p'; exact Heap.lt_size e
  refine call_max_walk (wpAny_pyIter_tuple p' ?_)
  refine ⟨_, _, _, _, _, _, _, rfl, Walks.tuple (A := X.A.in1) (I.ok.hd hc) s.heap.objs.size a (Nat.ne_of_lt hlt) its.toArray, ⟨⟨_, Heap.get?_push_size _ rfl, rfl, rfl⟩, p'.push _⟩, fun b hb => ?_, by simp; omega, CmpOf.ints_gt (fun i => js.getD i 0) hat, fun v h' tk hP hk => ?_⟩
  · show b < (s.heap.push _).objs.size
    rw [Heap.size_push]
    rcases List.mem_cons.mp hb with rfl | hb
    · exact Nat.lt_succ_self _
    · rw [List.mem_singleton.mp hb]; exact Nat.lt_succ_of_lt hlt
  · obtain ⟨t, rfl⟩ := hat _ _ hP
    refine ⟨.int (bestI js), H, I.kept fun b o e => hk b o (fun hm => ?_) (Heap.get?_push_of_some _ e), ⟨t, ?_⟩, q⟩
    · exact absurd (List.mem_singleton.mp hm ▸ Heap.lt_size e) (Nat.lt_irrefl _)
    · have : its.toArray.size = js.length := by simp; omega
      rw [this]; rfl
end L2

end
section
set_option Elab.async false
set_option linter.all false
set_option maxRecDepth 100000
set_option maxHeartbeats 2000000
namespace L2
open PySem PySem.Spec PyProof.Rows
noncomputable def PV (t : TE) (σ : St) (H : Hp) (v : V) : Prop := ∀ Q : VK, Q v H → t σ H Q
noncomputable def PB (t : TT) (σ : St) (H : Hp) (b : Bool) : Prop := ∀ Q : Bool → Hp → Prop, Q b H → t σ H Q
noncomputable def PAv (t : TA) (σ : St) (H : Hp) (vs : List V) : Prop := ∀ Q : List V → Hp → Prop, Q vs H → t σ H Q
noncomputable def PR (t : TS) (σ : St) (H : Hp) (v : V) : Prop := ∀ D : Ends, D.rt v H → t D σ H
section
variable {σ : St} {H : Hp} {ta tb tc : TE} {x y v : V} {i j l : Int} {p q : Bool} {t u : TS} {tA tB' : TT}
theorem PV.var {n : Nat} (h : σ[n]? = some (some v)) : PV (tVar n) σ H v := fun _ q => ⟨v, h, q⟩
theorem PV.c (v : V) : PV (tC v) σ H v := fun _ q => q
theorem PV.i0 {g : Int → Int → V} (a : PV ta σ H (.int i)) (b : PV tb σ H (.int j)) : PV (tOp (rI0 g) ta tb) σ H (g i j) := fun _ q => a _ (b _ ⟨i, j, rfl, rfl, q⟩)
theorem PV.iC {C : Int → Int → Prop} {g : Int → Int → V} (a : PV ta σ H (.int i)) (b : PV tb σ H (.int j)) (c : C i j) : PV (tOp (rI C g) ta tb) σ H (g i j) := fun _ q => a _ (b _ ⟨i, j, rfl, rfl, c, q⟩)
theorem decI (i j : Int) : decide (V.int i = V.int j) = decide (i = j) := by
  rw [Bool.eq_iff_iff, decide_eq_true_iff, decide_eq_true_iff]
  exact ⟨fun e => by injection e, fun e => by rw [e]⟩
theorem decB (p q : Bool) : decide (V.bl p = V.bl q) = (p == q) := by
  rw [Bool.eq_iff_iff, decide_eq_true_iff, beq_iff_eq]
  exact ⟨fun e => by injection e, fun e => by rw [e]⟩
theorem PV.eqI (a : PV ta σ H (.int i)) (b : PV tb σ H (.int j)) : PV (tOp rEq ta tb) σ H (.bl (decide (i = j))) := fun _ q => a _ (b _ ⟨rfl, by rw [decI]; exact q⟩)
theorem PV.eqB (a : PV ta σ H (.bl p)) (b : PV tb σ H (.bl q)) : PV (tOp rEq ta tb) σ H (.bl (p == q)) := fun _ z => a _ (b _ ⟨rfl, by rw [decB]; exact z⟩)
theorem PV.neB (a : PV ta σ H (.bl p)) (b : PV tb σ H (.bl q)) : PV (tOp rNe ta tb) σ H (.bl (p != q)) := fun _ z => a _ (b _ ⟨rfl, by rw [decB]; exact z⟩)
theorem PV.un {g : Int → V} (a : PV ta σ H (.int i)) : PV (tUn (rU g) ta) σ H (g i) := fun _ q => a _ ⟨i, rfl, q⟩
theorem PV.and (a : PV ta σ H (.bl p)) (b : p = true → PV tb σ H (.bl q)) : PV (tAndV ta tb) σ H (.bl (p && q)) := fun Q z => a _ ⟨p, rfl, by
  cases p with
  | true => exact b rfl _ z
  | false => exact z⟩
theorem PV.or (a : PV ta σ H (.bl p)) (b : p = false → PV tb σ H (.bl q)) : PV (tOrV ta tb) σ H (.bl (p || q)) := fun Q z => a _ ⟨p, rfl, by
  cases p with
  | true => exact z
  | false => exact b rfl _ z⟩
theorem PV.chain {g g' : Int → Int → Bool} (a : PV ta σ H (.int i)) (b : PV tb σ H (.int j)) (c : PV tc σ H (.int l)) : PV (tChain (rI0 fun i j => .bl (g i j)) (rI0 fun i j => .bl (g' i j)) ta tb tc) σ H (.bl (g i j && g' j l)) := fun Q z =>
  a _ (b _ ⟨i, j, rfl, rfl, g i j, rfl, by
    cases h : g i j with
    | true => rw [h] at z; exact c _ ⟨j, l, rfl, rfl, z⟩
    | false => rw [h] at z; exact z⟩)
theorem PB.tst (a : PV ta σ H (.bl p)) : PB (tTest ta) σ H p := fun _ z => a _ ⟨p, rfl, z⟩
theorem PB.b (a : PV ta σ H (.bl p)) : PB (tB ta) σ H p := fun _ z => a _ ⟨p, rfl, z⟩
theorem PB.or (a : PB tA σ H p) (b : p = false → PB tB' σ H q) : PB (tOr tA tB') σ H (p || q) := fun Q z => a _ (by
  cases p with
  | true => exact z
  | false => exact b rfl _ z)
theorem PAv.nil : PAv tNil σ H [] := fun _ q => q
theorem PAv.cons {tr : TA} {vs : List V} (a : PV ta σ H v) (b : PAv tr σ H vs) : PAv (tCons ta tr) σ H (v :: vs) := fun _ q => a _ (b _ q)
theorem PV.cb {r : List V → Hp → VK → Prop} {tr : TA} {vs : List V} (a : PAv tr σ H vs) (h : ∀ Q : VK, Q v H → r vs H Q) : PV (tCB r tr) σ H v := fun Q q => a _ (h Q q)
theorem PV.call {sp : Sp} {tr : TA} {vs : List V} {E : XK} (a : PAv tr σ H vs) (h : ∀ Q : VK, Q v H → sp (vs ++ []) H Q E) : PV (tCall sp [] E tr) σ H v := fun Q q => a _ (h Q q)
theorem PR.ret (a : PV ta σ H v) : PR (tRet ta) σ H v := fun D q => a _ q
theorem PR.ifI (a : PB tA σ H p) (h1 : p = true → PR t σ H (.int i)) (h2 : p = false → PR u σ H (.int j)) : PR (tSeq (tIfS tA t tNext) u) σ H (.int (if p = true then i else j)) := fun D q => a _ (by
  cases p with
  | true => exact h1 rfl _ q
  | false => exact h2 rfl _ q)
theorem PR.set {n : Nat} (a : PV ta σ H x) (h : PR u (σ.set n (some x)) H v) : PR (tSeq (tAsg ta (gName n)) u) σ H v := fun D q => a _ (h D q)
end
noncomputable def spI1 (c : Int → Prop) (g : Int → V) : Sp := fun vs H Q _ => ∃ a, vs = [.int a] ∧ c a ∧ Q (g a) H
noncomputable def spI2 (c : Int → Int → Prop) (g : Int → Int → V) : Sp := fun vs H Q _ => ∃ a b, vs = [.int a, .int b] ∧ c a b ∧ Q (g a b) H
noncomputable def spI3 (c : Int → Int → Int → Prop) (g : Int → Int → Int → V) : Sp := fun vs H Q _ => ∃ a b d, vs = [.int a, .int b, .int d] ∧ c a b d ∧ Q (g a b d) H
noncomputable def spI4 (c : Int → Int → Int → Int → Prop) (g : Int → Int → Int → Int → V) : Sp := fun vs H Q _ => ∃ a b d e, vs = [.int a, .int b, .int d, .int e] ∧ c a b d e ∧ Q (g a b d e) H
structure PF (P : Program) (w : World) (K : PySem.W.Frag) (mg : Str → Option Value) (base : Heap) (x : Str) (k : Nat) (f : Addr) (ps : List Str) (sp : Sp) : Prop where
  ok : ∃ fd, FnOk P w K mg base (CXx P w) k f fd ps sp ∧ Binds K fd ps []
  kp : PySem.W.keepIn K (.ref f) = true
  gl : mg x = some (.ref f)
section
variable {P : Program} {w : World} {K : PySem.W.Frag} {mg : Str → Option Value} {base : Heap} {x : Str} {k : Nat} {f : Addr} {ps : List Str} {sp : Sp}
theorem pe_pf {X : Cx} {e : Expr} {es : List Expr} {t : TA} {p pos : Pos} (F : PF X.prog X.w X.K X.mg X.base x k f ps sp) (hr : Room k X.A) (hg : Gl X x) (ha : PA X (e :: es) t) (hdb : (x == ("__debug__" : Str)) = false := by decide)
    (he : starEach (e :: es) X.env = (false, eval e X.env) :: starEach es X.env := by rfl) (hpl : (backTo pos (starEach es X.env)).any (·.1) = false := by rfl) : PE X (.Call (.Name x p) (e :: es) [] pos) (tCall sp [] E0 t) := by
  obtain ⟨fd, G, b⟩ := F.ok
  exact pe_call G hr hg F.gl F.kp b .nil passN ha hdb he hpl
theorem PV.f1 {σ : St} {H : Hp} {tr : TA} {c : Int → Prop} {g : Int → V} {E : XK} {a : Int} (h : PAv tr σ H [.int a]) (hc : c a) : PV (tCall (spI1 c g) [] E tr) σ H (g a) := .call h fun Q q => ⟨a, rfl, hc, q⟩
theorem PV.f2 {σ : St} {H : Hp} {tr : TA} {c : Int → Int → Prop} {g : Int → Int → V} {E : XK} {a b : Int} (h : PAv tr σ H [.int a, .int b]) (hc : c a b) : PV (tCall (spI2 c g) [] E tr) σ H (g a b) := .call h fun Q q => ⟨a, b, rfl, hc, q⟩
theorem PV.f3 {σ : St} {H : Hp} {tr : TA} {c : Int → Int → Int → Prop} {g : Int → Int → Int → V} {E : XK} {a b d : Int} (h : PAv tr σ H [.int a, .int b, .int d]) (hc : c a b d) : PV (tCall (spI3 c g) [] E tr) σ H (g a b d) := .call h fun Q q => ⟨a, b, d, rfl, hc, q⟩
theorem PV.f4 {σ : St} {H : Hp} {tr : TA} {c : Int → Int → Int → Int → Prop} {g : Int → Int → Int → Int → V} {E : XK} {a b d e : Int} (h : PAv tr σ H [.int a, .int b, .int d, .int e]) (hc : c a b d e) : PV (tCall (spI4 c g) [] E tr) σ H (g a b d e) := .call h fun Q q => ⟨a, b, d, e, rfl, hc, q⟩
theorem PV.abs {σ : St} {H : Hp} {tr : TA} {a : Int} (h : PAv tr σ H [.int a]) : PV (tCB (fun xs H Q => ∃ i, xs = [.int i] ∧ Q (.int (if i < 0 then -i else i)) H) tr) σ H (.int (if a < 0 then -a else a)) := .cb h fun Q q => ⟨a, rfl, q⟩
variable {qual : Str} {st : Stmt} {fd : FuncData} {N : List Str}
theorem Fun.okP1 {c : Int → Prop} {g : Int → V} (F : Fun K x qual st f fd) (S : FnScope N ps (defScope st)) (len : ps.length = 1)
    (h : ∀ (cdv : Value) (A : Around) (outer : List Env) (s : Shared) (H : Hp) (E : XK) (a : Int), Room k (A.deeper (envOfC qual (defScope st) s.heap.objs.size f cdv)) → c a → ∃ t, PSs (cxOf (CXx P w) P w K mg base N qual (defScope st) f cdv A outer s H E) (defBody st) t ∧ PR t (start N [.int a]) H (g a)) : FnOk P w K mg base (CXx P w) (k + 1) f fd ps (spI1 c g) :=
  F.okX S (fun vs H Q E ⟨a, e, _⟩ => by rw [e, len]; rfl) fun cdv A outer s H vs Q E hr ⟨a, e, hc, q⟩ => by
    subst e
    obtain ⟨t, ht, hp⟩ := h cdv A outer s H E a hr hc
    exact ⟨t, ht, hp _ q⟩
theorem Fun.okP2 {c : Int → Int → Prop} {g : Int → Int → V} (F : Fun K x qual st f fd) (S : FnScope N ps (defScope st)) (len : ps.length = 2)
    (h : ∀ (cdv : Value) (A : Around) (outer : List Env) (s : Shared) (H : Hp) (E : XK) (a b : Int), Room k (A.deeper (envOfC qual (defScope st) s.heap.objs.size f cdv)) → c a b → ∃ t, PSs (cxOf (CXx P w) P w K mg base N qual (defScope st) f cdv A outer s H E) (defBody st) t ∧ PR t (start N [.int a, .int b]) H (g a b)) : FnOk P w K mg base (CXx P w) (k + 1) f fd ps (spI2 c g) :=
  F.okX S (fun vs H Q E ⟨a, b, e, _⟩ => by rw [e, len]; rfl) fun cdv A outer s H vs Q E hr ⟨a, b, e, hc, q⟩ => by
    subst e
    obtain ⟨t, ht, hp⟩ := h cdv A outer s H E a b hr hc
    exact ⟨t, ht, hp _ q⟩
theorem Fun.okP3 {c : Int → Int → Int → Prop} {g : Int → Int → Int → V} (F : Fun K x qual st f fd) (S : FnScope N ps (defScope st)) (len : ps.length = 3)
    (h : ∀ (cdv : Value) (A : Around) (outer : List Env) (s : Shared) (H : Hp) (E : XK) (a b d : Int), Room k (A.deeper (envOfC qual (defScope st) s.heap.objs.size f cdv)) → c a b d → ∃ t, PSs (cxOf (CXx P w) P w K mg base N qual (defScope st) f cdv A outer s H E) (defBody st) t ∧ PR t (start N [.int a, .int b, .int d]) H (g a b d)) : FnOk P w K mg base (CXx P w) (k + 1) f fd ps (spI3 c g) :=
  F.okX S (fun vs H Q E ⟨a, b, d, e, _⟩ => by rw [e, len]; rfl) fun cdv A outer s H vs Q E hr ⟨a, b, d, e, hc, q⟩ => by
    subst e
    obtain ⟨t, ht, hp⟩ := h cdv A outer s H E a b d hr hc
    exact ⟨t, ht, hp _ q⟩
theorem Fun.okP4 {c : Int → Int → Int → Int → Prop} {g : Int → Int → Int → Int → V} (F : Fun K x qual st f fd) (S : FnScope N ps (defScope st)) (len : ps.length = 4)
    (h : ∀ (cdv : Value) (A : Around) (outer : List Env) (s : Shared) (H : Hp) (E : XK) (a b d e : Int), Room k (A.deeper (envOfC qual (defScope st) s.heap.objs.size f cdv)) → c a b d e → ∃ t, PSs (cxOf (CXx P w) P w K mg base N qual (defScope st) f cdv A outer s H E) (defBody st) t ∧ PR t (start N [.int a, .int b, .int d, .int e]) H (g a b d e)) : FnOk P w K mg base (CXx P w) (k + 1) f fd ps (spI4 c g) :=
  F.okX S (fun vs H Q E ⟨a, b, d, e, e', _⟩ => by rw [e', len]; rfl) fun cdv A outer s H vs Q E hr ⟨a, b, d, e, e', hc, q⟩ => by
    subst e'
    obtain ⟨t, ht, hp⟩ := h cdv A outer s H E a b d e hr hc
    exact ⟨t, ht, hp _ q⟩
noncomputable def tCallS (P : Program) (w : World) (K : PySem.W.Frag) (mg : Str → Option Value) (base : Heap) (k : Nat) (tf : TE) (t : TA) : TE := fun σ H Q => tf σ H fun v H1 => ∃ f fd ps sp, v = .ref f ∧ FnOk P w K mg base (CXx P w) k f fd ps sp ∧ Binds K fd ps [] ∧ PySem.W.keepIn K (.ref f) = true ∧ t σ H1 fun vs H2 => sp (vs ++ []) H2 Q E0
theorem pe_callS {X : Cx} {o ix e : Expr} {es : List Expr} {tf : TE} {t : TA} {p pos : Pos} (hr : Room k X.A) (hf : PE X (.Subscript o ix p) tf) (ha : PA X (e :: es) t)
    (he : starEach (e :: es) X.env = (false, eval e X.env) :: starEach es X.env := by rfl) (hpl : (backTo pos (starEach es X.env)).any (·.1) = false := by rfl) : PE X (.Call (.Subscript o ix p) (e :: es) [] pos) (tCallS X.prog X.w X.K X.mg X.base k tf t) := by
  intro pins s σ H Q I h
  refine Call_ (thn (hf pins s σ H _ I h) fun u s1 h1 => ?_)
  obtain ⟨v, H1, I1, r1, f, fd, ps, sp, rfl, F, b, kp, q⟩ := h1
  obtain rfl : u = Value.ref f := r1
  refine PySem.W.callWith_K (h₀ := X.base) I1.ok.mod.kin kp (thn (ha pos pins s1 σ H1 _ I1 q) fun us s2 h2 => ?_) he hpl
  obtain ⟨vs, H2, I2, r, q2⟩ := h2
  exact ⟨I2.kIn, run_fn F hr b .nil passN I2 r q2⟩
theorem PV.callS {σ : St} {H : Hp} {tf : TE} {t : TA} {vs : List V} {v : V} (F : PF P w K mg base x k f ps sp) (a : PV tf σ H (.ref f)) (b : PAv t σ H vs) (h : ∀ Q : VK, Q v H → sp (vs ++ []) H Q E0) : PV (tCallS P w K mg base k tf t) σ H v := fun Q q => a _ (by
  obtain ⟨fd, G, bb⟩ := F.ok
  exact ⟨f, fd, ps, sp, rfl, G, bb, F.kp, b _ (h Q q)⟩)
end
end L2

end
section
set_option Elab.async false
set_option linter.all false
set_option maxRecDepth 100000
set_option maxHeartbeats 2000000
namespace L2
open PySem PySem.Spec PyProof.Rows
section
variable {σ : St} {H : Hp} {ta tb : TE} {v : V} {p : Bool} {t u : TS} {tA : TT} {K : PySem.W.Frag}
theorem PV.fld {z C dx : Addr} {fs : List (Str × V)} {x : Str} (a : PV ta σ H (.ref z)) (hz : H z = some (.ins C dx fs)) (cl : Cls K C) (no : NoAttr K C x) (e : fs.lookup x = some v) : PV (tFld K ta x) σ H v := fun Q q => a _ ⟨z, C, dx, fs, v, rfl, hz, cl, no, e, q⟩
theorem PV.ixT {a : Addr} {xs : List V} {j : Nat} (ea : PV ta σ H (.ref a)) (ei : PV tb σ H (.int (j : Int))) (s : SqT K H a xs) (hx : xs[j]? = some v) : PV (tOp (rIxT K) ta tb) σ H v := fun Q q => ea _ (ei _ ⟨a, xs, (j : Int), v, rfl, rfl, s, at_of rfl hx, q⟩)
theorem PV.isN {x : V} (a : PV ta σ H x) : PV (tOp (fun x y H Q => y = V.non ∧ Q (V.bl (decide (x = V.non))) H) ta (tC .non)) σ H (.bl (decide (x = .non))) := fun Q q => a _ ⟨rfl, q⟩
theorem PR.ifT (a : PB tA σ H p) (e : p = true) (h : PR t σ H v) : PR (tSeq (tIfS tA t tNext) u) σ H v := fun D q => a _ (by subst e; exact h _ q)
theorem PR.ifF (a : PB tA σ H p) (e : p = false) (h : PR u σ H v) : PR (tSeq (tIfS tA t tNext) u) σ H v := fun D q => a _ (by subst e; exact h _ q)
theorem PR.if_ (a : PB tA σ H p) (h1 : p = true → PR t σ H v) (h2 : p = false → PR u σ H v) : PR (tSeq (tIfS tA t tNext) u) σ H v := by
  cases p with
  | true => exact .ifT a rfl (h1 rfl)
  | false => exact .ifF a rfl (h2 rfl)
end
section
variable {P : Program} {w : World} {K : PySem.W.Frag} {mg : Str → Option Value} {base : Heap} {x : Str} {j k : Nat} {f : Addr} {ps : List Str} {sp sp' : Sp}
theorem PF.mono (F : PF P w K mg base x j f ps sp) (h : j ≤ k) : PF P w K mg base x k f ps sp := ⟨let ⟨fd, G, b⟩ := F.ok; ⟨fd, G.mono h, b⟩, F.kp, F.gl⟩
theorem PF.conv (F : PF P w K mg base x k f ps sp) (h : ∀ vs H Q E, sp' vs H Q E → sp vs H Q E) : PF P w K mg base x k f ps sp' := ⟨let ⟨fd, G, b⟩ := F.ok; ⟨fd, G.imp h, b⟩, F.kp, F.gl⟩
theorem PF.i2 {c c' : Int → Int → Prop} {g g' : Int → Int → V} (F : PF P w K mg base x j f ps (spI2 c g)) (hk : j ≤ k) (h : ∀ a b, c' a b → c a b ∧ g a b = g' a b) : PF P w K mg base x k f ps (spI2 c' g') :=
  (F.mono hk).conv fun vs H Q E ⟨a, b, e, hc, q⟩ => ⟨a, b, e, (h a b hc).1, by rw [(h a b hc).2]; exact q⟩
theorem PF.i3 {c c' : Int → Int → Int → Prop} {g g' : Int → Int → Int → V} (F : PF P w K mg base x j f ps (spI3 c g)) (hk : j ≤ k) (h : ∀ a b d, c' a b d → c a b d ∧ g a b d = g' a b d) : PF P w K mg base x k f ps (spI3 c' g') :=
  (F.mono hk).conv fun vs H Q E ⟨a, b, d, e, hc, q⟩ => ⟨a, b, d, e, (h a b d hc).1, by rw [(h a b d hc).2]; exact q⟩
theorem PF.i4 {c c' : Int → Int → Int → Int → Prop} {g g' : Int → Int → Int → Int → V} (F : PF P w K mg base x j f ps (spI4 c g)) (hk : j ≤ k) (h : ∀ a b d e, c' a b d e → c a b d e ∧ g a b d e = g' a b d e) : PF P w K mg base x k f ps (spI4 c' g') :=
  (F.mono hk).conv fun vs H Q E ⟨a, b, d, e, e', hc, q⟩ => ⟨a, b, d, e, e', (h a b d e hc).1, by rw [(h a b d e hc).2]; exact q⟩
noncomputable def Tab (P : Program) (w : World) (K : PySem.W.Frag) (mg : Str → Option Value) (base : Heap) (k : Nat) (ps : List Str) (sp : Nat → Sp) (fs : List Addr) : Prop := ∀ j f, fs[j]? = some f → ∃ x, PF P w K mg base x k f ps (sp j)
theorem Tab.nil {sp : Nat → Sp} : Tab P w K mg base k ps sp [] := fun j f h => by simp at h
theorem Tab.cons {sp : Nat → Sp} {fs : List Addr} (F : PF P w K mg base x k f ps (sp 0)) (T : Tab P w K mg base k ps (fun j => sp (j + 1)) fs) : Tab P w K mg base k ps sp (f :: fs) := fun j g h => by
  cases j with
  | zero =>
    have e : f = g := Option.some.inj h
    exact ⟨x, e ▸ F⟩
  | succ j => exact T j g h
theorem PV.tab {σ : St} {H : Hp} {ta ti : TE} {t : TA} {sp : Nat → Sp} {fs : List Addr} {a : Addr} {vs : List V} {v : V} (T : Tab P w K mg base k ps sp fs) (s : SqT K H a (fs.map V.ref)) (ea : PV ta σ H (.ref a)) (ei : PV ti σ H (.int (j : Int))) (hj : j < fs.length) (b : PAv t σ H vs)
    (h : ∀ Q : VK, Q v H → sp j (vs ++ []) H Q E0) : PV (tCallS P w K mg base k (tOp (rIxT K) ta ti) t) σ H v := by
  obtain ⟨x, F⟩ := T j fs[j] (List.getElem?_eq_getElem hj)
  exact .callS F (.ixT ea ei s (by rw [List.getElem?_map, List.getElem?_eq_getElem hj]; rfl)) b h
end
end L2

end
section
set_option Elab.async false
set_option linter.all false
set_option maxRecDepth 100000
set_option maxHeartbeats 2000000
namespace L2
open PySem PySem.Spec PyProof.Rows
theorem lc_zip {K : PySem.W.Frag} {a b : Addr} {xs ys : List V} {g : TG} {tt : TT} {te : TE} {vs : List Nat} {σ : St} {H1 : Hp} {D : Addr} {Qd : Hp → Prop} (n : Nat) (lx : xs.length = n) (ly : ys.length = n) (Pv : Nat → Hp → Prop) (h0 : Pv 0 (upd H1 D (.lst [])))
    (hl : ∀ i H, i ≤ n → Pv i H → SqL K H a xs ∧ SqL K H b ys)
    (hs : ∀ i x y T H, xs[i]? = some x → ys[i]? = some y → H T = none → Pv i H → g (.ref T) (wipe σ vs) (upd H T (.tup [x, y])) fun σ2 H2 => wipe σ2 vs = wipe σ vs ∧ tt σ2 H2 fun b H3 =>
      if b = true then te σ2 H3 fun y H4 => ∃ acc, H4 D = some (.lst acc) ∧ acc.length < sizeLine ∧ Pv (i + 1) (upd H4 D (.lst (acc ++ [y]))) else Pv (i + 1) H3) (hd : ∀ H, Pv n H → Qd H) :
    ∃ W : Nat → Nat → Hp → Prop, (∃ m, W 0 m (upd H1 D (.lst []))) ∧ ∀ i m H, W i m H →
      ((Itz K a b).stop i H ∧ Qd H) ∨ ((Itz K a b).go i H ∧ ∃ Nx : Hp → Prop, (∀ H', Nx H' → ∃ m', m' < m ∧ W (i + 1) m' H') ∧ ∀ x H', (Itz K a b).yld i H x H' → g x (wipe σ vs) H' fun σ2 H2 => wipe σ2 vs = wipe σ vs ∧ tt σ2 H2 fun b H3 =>
        if b = true then te σ2 H3 fun y H4 => ∃ acc, H4 D = some (.lst acc) ∧ acc.length < sizeLine ∧ Nx (upd H4 D (.lst (acc ++ [y]))) else Nx H3) := by
  refine ⟨fun i m H => m = n - i ∧ i ≤ n ∧ Pv i H, ⟨n, by simp, Nat.zero_le _, h0⟩, ?_⟩
  rintro i m H ⟨rfl, hi, p⟩
  obtain ⟨q1, q2⟩ := hl i H hi p
  by_cases hlt : i < n
  · obtain ⟨x, ex⟩ : ∃ x, xs[i]? = some x := ⟨_, List.getElem?_eq_getElem (by omega)⟩
    obtain ⟨y, ey⟩ : ∃ y, ys[i]? = some y := ⟨_, List.getElem?_eq_getElem (by omega)⟩
    refine .inr ⟨⟨xs, ys, x, y, q1, q2, ex, ey⟩, Pv (i + 1), fun H' p' => ⟨n - (i + 1), by omega, rfl, hlt, p'⟩, fun v H' q => ?_⟩
    obtain ⟨T, x', y', rfl, hT, rfl, g1, g2⟩ := q
    exact hs i x' y' T H (g1 xs q1) (g2 ys q2) hT p
  · have e : i = n := by omega
    subst e
    exact .inl ⟨⟨xs, ys, q1, q2, .inl (by omega)⟩, hd H p⟩
theorem for_enum {K : PySem.W.Frag} {a : Addr} {xs : List V} {g : TG} {tb : TS} {D : Ends} {σ : St} {H : Hp} (Pv : Nat → St → Hp → Prop) (h0 : Pv 0 σ H) (hl : ∀ i σ H, i ≤ xs.length → Pv i σ H → SqL K H a xs)
    (hs : ∀ i x T σ H, xs[i]? = some x → Pv i σ H → H T = none → g (.ref T) σ (upd H T (.tup [.int (i : Nat), x])) fun σ2 H2 => tb { D with nx := Pv (i + 1), ct := Pv (i + 1), bk := D.nx } σ2 H2) (hd : ∀ σ H, Pv xs.length σ H → D.nx σ H) :
    ∃ W : Nat → Nat → St → Hp → Prop, (∃ m, W 0 m σ H) ∧ ∀ i m σ H, W i m σ H →
      ((Ite K a).stop i H ∧ D.nx σ H) ∨ ((Ite K a).go i H ∧ ∃ N : St → Hp → Prop, (∀ σ' H', N σ' H' → ∃ m', m' < m ∧ W (i + 1) m' σ' H') ∧ ∀ x H', (Ite K a).yld i H x H' → g x σ H' fun σ2 H2 => tb { D with nx := N, ct := N, bk := D.nx } σ2 H2) := by
  refine ⟨fun i m σ H => m = xs.length - i ∧ i ≤ xs.length ∧ Pv i σ H, ⟨xs.length, by simp, Nat.zero_le _, h0⟩, ?_⟩
  rintro i m σ H ⟨rfl, hi, p⟩
  have q := hl i σ H hi p
  by_cases hlt : i < xs.length
  · refine .inr ⟨⟨xs, xs[i], q, by simp [hlt]⟩, Pv (i + 1), fun σ' H' p' => ⟨xs.length - (i + 1), by omega, rfl, hlt, p'⟩, fun x H' y => ?_⟩
    obtain ⟨T, y0, e, hT, e2, y⟩ := y
    subst e e2
    exact hs i y0 T σ _ (y xs q) p hT
  · have e : i = xs.length := by omega
    subst e
    exact .inl ⟨⟨xs, q, Nat.le_refl _⟩, hd σ H p⟩
end L2

end
section
set_option linter.all false
namespace Ma
open Sh
noncomputable def byt (ns : List Int) : Bytes := ns.map fun n => UInt8.ofNat n.toNat
noncomputable def Byts (ns : List Int) : Prop := ∀ x ∈ ns, 0 ≤ x ∧ x ≤ 255
theorem byt_len (ns : List Int) : (byt ns).length = ns.length := List.length_map _
theorem ofNat_toNat {z : Int} (h : 0 ≤ z ∧ z ≤ 255) : (UInt8.ofNat z.toNat).toNat = z.toNat := by
  rw [UInt8.toNat_ofNat']; omega
theorem num_end {lo hi x p : Nat} {B : Bytes} (h : B.length ≤ p) : numAt lo hi x p (B.drop p) = .error p := by
  rw [List.drop_eq_nil_of_le h]; rfl
theorem drop_at {ns : List Int} {p : Nat} {z : Int} (h : ns[p]? = some z) : (byt ns).drop p = UInt8.ofNat z.toNat :: (byt ns).drop (p + 1) := by
  have hp : p < ns.length := (List.getElem?_eq_some_iff.mp h).1
  have e : (byt ns)[p]? = some (UInt8.ofNat z.toNat) := by rw [byt, List.getElem?_map, h]; rfl
  obtain ⟨h1, h2⟩ := List.getElem?_eq_some_iff.mp e
  rw [List.drop_eq_getElem_cons h1, h2]
theorem num_at {ns : List Int} {lo hi x p : Nat} {z : Int} (hb : Byts ns) (h : ns[p]? = some z) :
    numAt lo hi x p ((byt ns).drop p) = if z < lo ∨ (hi : Int) < z ∨ z = x then .error p else .ok (z.toNat, p + 1, (byt ns).drop (p + 1)) := by
  have hz := hb z (List.mem_of_getElem? h)
  rw [drop_at h]
  unfold numAt
  simp only [ofNat_toNat hz]
  by_cases q : z < lo ∨ (hi : Int) < z ∨ z = x
  · rw [if_pos q, if_pos (by omega)]
  · rw [if_neg q, if_neg (by omega)]
theorem num_ok {lo hi x p : Nat} {B : Bytes} {t : Nat × Nat × Bytes} (h : numAt lo hi x p (B.drop p) = .ok t) :
    t = (t.1, p + 1, B.drop (p + 1)) ∧ p < B.length ∧ lo ≤ t.1 ∧ t.1 ≤ hi ∧ t.1 ≠ x := by
  by_cases q : p < B.length
  · rw [List.drop_eq_getElem_cons q] at h
    unfold numAt at h
    simp only at h
    split at h
    · cases h
    · rename_i hn
      cases h
      exact ⟨rfl, q, by simp only; omega, by simp only; omega, by simp only; omega⟩
  · rw [num_end (by omega)] at h; cases h

noncomputable def plainAt (p : Nat) (b : Bytes) : Except Nat (Field × Nat × Bytes) := match numAt 0 8 ANY p b with
  | .error e => .error e
  | .ok t => .ok (.plain t.1, t.2)
noncomputable def partedAt (p : Nat) (b : Bytes) : Except Nat (Field × Nat × Bytes) := match numAt 0 7 ANY p b with
  | .error e => .error e
  | .ok d => match numAt 0 5 ANY d.2.1 d.2.2 with
    | .error e => .error e
    | .ok l => match numAt 0 8 ANY l.2.1 l.2.2 with
      | .error e => .error e
      | .ok a => match numAt 0 8 a.1 a.2.1 a.2.2 with
        | .error e => .error e
        | .ok c => .ok (.parted d.1 l.1 a.1 c.1, c.2)
noncomputable def variedAt (p : Nat) (b : Bytes) : Except Nat (Field × Nat × Bytes) := match numAt 0 6 ANY p b with
  | .error e => .error e
  | .ok v => match numAt 2 24 ANY v.2.1 v.2.2 with
    | .error e => .error e
    | .ok n => match numAt 0 (if 5 ≤ v.1 then 0 else 5) ANY n.2.1 n.2.2 with
      | .error e => .error e
      | .ok l => match numAt 0 8 ANY l.2.1 l.2.2 with
        | .error e => .error e
        | .ok a => match numAt 0 8 a.1 a.2.1 a.2.2 with
          | .error e => .error e
          | .ok c => .ok (.varied v.1 n.1 l.1 a.1 c.1, c.2)
theorem field_eq (p : Nat) (b : Bytes) : fieldAt p b = match numAt 0 2 ANY p b with
    | .error e => .error e
    | .ok k => if k.1 = 0 then plainAt k.2.1 k.2.2 else if k.1 = 1 then partedAt k.2.1 k.2.2 else variedAt k.2.1 k.2.2 := by
  unfold fieldAt plainAt partedAt variedAt twoAt
  cases numAt 0 2 ANY p b with
  | error e => rfl
  | ok k =>
    simp only
    split
    · rfl
    · split
      · cases numAt 0 7 ANY k.2.1 k.2.2 with
        | error e => rfl
        | ok d =>
          simp only
          cases numAt 0 5 ANY d.2.1 d.2.2 with
          | error e => rfl
          | ok l =>
            simp only
            cases numAt 0 8 ANY l.2.1 l.2.2 with
            | error e => rfl
            | ok a =>
              simp only
              cases numAt 0 8 a.1 a.2.1 a.2.2 <;> rfl
      · cases numAt 0 6 ANY k.2.1 k.2.2 with
        | error e => rfl
        | ok v =>
          simp only
          cases numAt 2 24 ANY v.2.1 v.2.2 with
          | error e => rfl
          | ok n =>
            simp only
            cases numAt 0 (if 5 ≤ v.1 then 0 else 5) ANY n.2.1 n.2.2 with
            | error e => rfl
            | ok l =>
              simp only
              cases numAt 0 8 ANY l.2.1 l.2.2 with
              | error e => rfl
              | ok a =>
                simp only
                cases numAt 0 8 a.1 a.2.1 a.2.2 <;> rfl
noncomputable def FieldOk : Field → Prop
  | .plain t => t ≤ 8
  | .parted d l a b => d ≤ 7 ∧ l ≤ 5 ∧ a ≤ 8 ∧ b ≤ 8 ∧ b ≠ a
  | .varied v n l a b => v ≤ 6 ∧ 2 ≤ n ∧ n ≤ 24 ∧ l ≤ 5 ∧ (5 ≤ v → l = 0) ∧ a ≤ 8 ∧ b ≤ 8 ∧ b ≠ a
noncomputable def After (B : Bytes) (p : Nat) (t : Nat × Bytes) : Prop := p < t.1 ∧ t.1 ≤ B.length ∧ t.2 = B.drop t.1
theorem plain_ok {p : Nat} {B : Bytes} {t : Field × Nat × Bytes} (h : plainAt p (B.drop p) = .ok t) : FieldOk t.1 ∧ After B p t.2 := by
  unfold plainAt at h
  cases e : numAt 0 8 ANY p (B.drop p) with
  | error e' => rw [e] at h; cases h
  | ok k =>
    obtain ⟨e1, e2, e3, e4, e5⟩ := num_ok e
    rw [e, e1] at h
    cases h
    exact ⟨e4, Nat.lt_succ_self _, e2, rfl⟩
theorem parted_ok {p : Nat} {B : Bytes} {t : Field × Nat × Bytes} (h : partedAt p (B.drop p) = .ok t) : FieldOk t.1 ∧ After B p t.2 := by
  unfold partedAt at h
  cases e : numAt 0 7 ANY p (B.drop p) with
  | error e' => rw [e] at h; cases h
  | ok k =>
    obtain ⟨e1, e2, e3, e4, e5⟩ := num_ok e
    rw [e, e1] at h
    simp only at h
    cases f : numAt 0 5 ANY (p + 1) (B.drop (p + 1)) with
    | error e' => rw [f] at h; cases h
    | ok l =>
      obtain ⟨f1, f2, f3, f4, f5⟩ := num_ok f
      rw [f, f1] at h
      simp only at h
      cases g : numAt 0 8 ANY (p + 1 + 1) (B.drop (p + 1 + 1)) with
      | error e' => rw [g] at h; cases h
      | ok a =>
        obtain ⟨g1, g2, g3, g4, g5⟩ := num_ok g
        rw [g, g1] at h
        simp only at h
        cases i : numAt 0 8 a.1 (p + 1 + 1 + 1) (B.drop (p + 1 + 1 + 1)) with
        | error e' => rw [i] at h; cases h
        | ok c =>
          obtain ⟨i1, i2, i3, i4, i5⟩ := num_ok i
          rw [i, i1] at h
          cases h
          exact ⟨⟨e4, f4, g4, i4, i5⟩, by show p < p + 1 + 1 + 1 + 1; omega, i2, rfl⟩
theorem varied_ok {p : Nat} {B : Bytes} {t : Field × Nat × Bytes} (h : variedAt p (B.drop p) = .ok t) : FieldOk t.1 ∧ After B p t.2 := by
  unfold variedAt at h
  cases e : numAt 0 6 ANY p (B.drop p) with
  | error e' => rw [e] at h; cases h
  | ok v =>
    obtain ⟨e1, e2, e3, e4, e5⟩ := num_ok e
    rw [e, e1] at h
    simp only at h
    cases j : numAt 2 24 ANY (p + 1) (B.drop (p + 1)) with
    | error e' => rw [j] at h; cases h
    | ok n =>
      obtain ⟨j1, j2, j3, j4, j5⟩ := num_ok j
      rw [j, j1] at h
      simp only at h
      cases f : numAt 0 (if 5 ≤ v.1 then 0 else 5) ANY (p + 1 + 1) (B.drop (p + 1 + 1)) with
      | error e' => rw [f] at h; cases h
      | ok l =>
        obtain ⟨f1, f2, f3, f4, f5⟩ := num_ok f
        rw [f, f1] at h
        simp only at h
        cases g : numAt 0 8 ANY (p + 1 + 1 + 1) (B.drop (p + 1 + 1 + 1)) with
        | error e' => rw [g] at h; cases h
        | ok a =>
          obtain ⟨g1, g2, g3, g4, g5⟩ := num_ok g
          rw [g, g1] at h
          simp only at h
          cases i : numAt 0 8 a.1 (p + 1 + 1 + 1 + 1) (B.drop (p + 1 + 1 + 1 + 1)) with
          | error e' => rw [i] at h; cases h
          | ok c =>
            obtain ⟨i1, i2, i3, i4, i5⟩ := num_ok i
            rw [i, i1] at h
            cases h
            exact ⟨⟨e4, j3, j4, by split at f4 <;> omega, fun q => by rw [if_pos q] at f4; omega, g4, i4, i5⟩, by show p < p + 1 + 1 + 1 + 1 + 1; omega, i2, rfl⟩
theorem field_ok {p : Nat} {B : Bytes} {t : Field × Nat × Bytes} (h : fieldAt p (B.drop p) = .ok t) : FieldOk t.1 ∧ After B p t.2 := by
  rw [field_eq] at h
  cases e : numAt 0 2 ANY p (B.drop p) with
  | error e' => rw [e] at h; cases h
  | ok k =>
    obtain ⟨e1, e2, e3, e4, e5⟩ := num_ok e
    rw [e, e1] at h
    simp only at h
    have up : ∀ {x : Nat × Bytes}, After B (p + 1) x → After B p x := fun ⟨a, b, c⟩ => ⟨by omega, b, c⟩
    split at h
    · obtain ⟨a, b⟩ := plain_ok h; exact ⟨a, up b⟩
    · split at h
      · obtain ⟨a, b⟩ := parted_ok h; exact ⟨a, up b⟩
      · obtain ⟨a, b⟩ := varied_ok h; exact ⟨a, up b⟩
noncomputable def FillOk (below : Field) : Fill → Prop
  | .solid f => FieldOk f
  | .counter => below.two.isSome = true
theorem fill_ok {below : Field} {p : Nat} {B : Bytes} {t : Fill × Nat × Bytes} (h : fillAt below p (B.drop p) = .ok t) : FillOk below t.1 ∧ After B p t.2 := by
  unfold fillAt at h
  cases e : numAt 0 (if below.two.isSome = true then 1 else 0) ANY p (B.drop p) with
  | error e' => rw [e] at h; cases h
  | ok k =>
    obtain ⟨e1, e2, e3, e4, e5⟩ := num_ok e
    rw [e, e1] at h
    simp only at h
    split at h
    · rename_i hk
      cases h
      refine ⟨?_, Nat.lt_succ_self _, e2, rfl⟩
      show below.two.isSome = true
      cases q : below.two.isSome with
      | true => rfl
      | false => rw [q] at e4; simp at e4; omega
    · cases f : fieldAt (p + 1) (B.drop (p + 1)) with
      | error e' => rw [f] at h; cases h
      | ok x =>
        obtain ⟨f1, f2, f3, f4⟩ := field_ok f
        rw [f] at h
        cases h
        exact ⟨f1, by show p < x.2.1; omega, f3, f4⟩
noncomputable def ordAt (below : Field) (p : Nat) (b : Bytes) : Except Nat (Layer × Nat × Bytes) := match numAt 0 12 ANY p b with
  | .error e => .error e
  | .ok o => match numAt 0 5 ANY o.2.1 o.2.2 with
    | .error e => .error e
    | .ok l => match fillAt below l.2.1 l.2.2 with
      | .error e => .error e
      | .ok f => .ok (.ord o.1 l.1 f.1, f.2)
noncomputable def groupAt (below : Field) (p : Nat) (b : Bytes) : Except Nat (Layer × Nat × Bytes) := match numAt 0 15 ANY p b with
  | .error e => .error e
  | .ok c => match numAt 1 10 ANY c.2.1 c.2.2 with
    | .error e => .error e
    | .ok n => match numAt 0 6 ANY n.2.1 n.2.2 with
      | .error e => .error e
      | .ok m => match numAt 1 4 ANY m.2.1 m.2.2 with
        | .error e => .error e
        | .ok s => match fillAt below s.2.1 s.2.2 with
          | .error e => .error e
          | .ok f => .ok (.group c.1 n.1 m.1 s.1 f.1, f.2)
theorem layer_eq (below : Field) (p : Nat) (b : Bytes) : layerAt below p b = match numAt 0 1 ANY p b with
    | .error e => .error e
    | .ok k => if k.1 = 0 then ordAt below k.2.1 k.2.2 else groupAt below k.2.1 k.2.2 := by
  unfold layerAt ordAt groupAt
  rfl
noncomputable def LayerOk (below : Field) : Layer → Prop
  | .ord o l f => o ≤ 12 ∧ l ≤ 5 ∧ FillOk below f
  | .group c n m s f => c ≤ 15 ∧ 1 ≤ n ∧ n ≤ 10 ∧ m ≤ 6 ∧ 1 ≤ s ∧ s ≤ 4 ∧ FillOk below f
theorem ord_ok {below : Field} {p : Nat} {B : Bytes} {t : Layer × Nat × Bytes} (h : ordAt below p (B.drop p) = .ok t) : LayerOk below t.1 ∧ After B p t.2 := by
  unfold ordAt at h
  cases e : numAt 0 12 ANY p (B.drop p) with
  | error e' => rw [e] at h; cases h
  | ok o =>
    obtain ⟨e1, e2, e3, e4, e5⟩ := num_ok e
    rw [e, e1] at h
    simp only at h
    cases f : numAt 0 5 ANY (p + 1) (B.drop (p + 1)) with
    | error e' => rw [f] at h; cases h
    | ok l =>
      obtain ⟨f1, f2, f3, f4, f5⟩ := num_ok f
      rw [f, f1] at h
      simp only at h
      cases g : fillAt below (p + 1 + 1) (B.drop (p + 1 + 1)) with
      | error e' => rw [g] at h; cases h
      | ok x =>
        obtain ⟨g1, g2, g3, g4⟩ := fill_ok g
        rw [g] at h
        cases h
        exact ⟨⟨e4, f4, g1⟩, by show p < x.2.1; omega, g3, g4⟩
theorem group_ok {below : Field} {p : Nat} {B : Bytes} {t : Layer × Nat × Bytes} (h : groupAt below p (B.drop p) = .ok t) : LayerOk below t.1 ∧ After B p t.2 := by
  unfold groupAt at h
  cases e : numAt 0 15 ANY p (B.drop p) with
  | error e' => rw [e] at h; cases h
  | ok c =>
    obtain ⟨e1, e2, e3, e4, e5⟩ := num_ok e
    rw [e, e1] at h
    simp only at h
    cases f : numAt 1 10 ANY (p + 1) (B.drop (p + 1)) with
    | error e' => rw [f] at h; cases h
    | ok n =>
      obtain ⟨f1, f2, f3, f4, f5⟩ := num_ok f
      rw [f, f1] at h
      simp only at h
      cases i : numAt 0 6 ANY (p + 1 + 1) (B.drop (p + 1 + 1)) with
      | error e' => rw [i] at h; cases h
      | ok m =>
        obtain ⟨i1, i2, i3, i4, i5⟩ := num_ok i
        rw [i, i1] at h
        simp only at h
        cases j : numAt 1 4 ANY (p + 1 + 1 + 1) (B.drop (p + 1 + 1 + 1)) with
        | error e' => rw [j] at h; cases h
        | ok s =>
          obtain ⟨j1, j2, j3, j4, j5⟩ := num_ok j
          rw [j, j1] at h
          simp only at h
          cases g : fillAt below (p + 1 + 1 + 1 + 1) (B.drop (p + 1 + 1 + 1 + 1)) with
          | error e' => rw [g] at h; cases h
          | ok x =>
            obtain ⟨g1, g2, g3, g4⟩ := fill_ok g
            rw [g] at h
            cases h
            exact ⟨⟨e4, f3, f4, i4, j3, j4, g1⟩, by show p < x.2.1; omega, g3, g4⟩
theorem layer_ok {below : Field} {p : Nat} {B : Bytes} {t : Layer × Nat × Bytes} (h : layerAt below p (B.drop p) = .ok t) : LayerOk below t.1 ∧ After B p t.2 := by
  rw [layer_eq] at h
  cases e : numAt 0 1 ANY p (B.drop p) with
  | error e' => rw [e] at h; cases h
  | ok k =>
    obtain ⟨e1, e2, e3, e4, e5⟩ := num_ok e
    rw [e, e1] at h
    simp only at h
    split at h
    · obtain ⟨a, b1, b2, b3⟩ := ord_ok h; exact ⟨a, by omega, b2, b3⟩
    · obtain ⟨a, b1, b2, b3⟩ := group_ok h; exact ⟨a, by omega, b2, b3⟩
theorem text_of {ns : List Int} (h : Byts ns) : ArmsNeutral.text? ns = some (byt ns) := by
  unfold ArmsNeutral.text?
  have q : NeutralIO.bytes ns = true := by
    unfold NeutralIO.bytes
    rw [List.all_eq_true]
    intro x hx
    have := h x hx
    simp [this.1, this.2]
  rw [if_pos q]
  rfl
end Ma

end
section
set_option linter.all false
namespace Ma
open Sh
theorem num_other {x p : Nat} {b : Bytes} : numAt 0 8 x p b = match numAt 0 8 ANY p b with
    | .error e => .error e
    | .ok t => if t.1 = x then .error p else .ok t := by
  cases b with
  | nil => rfl
  | cons c r =>
    have hc : c.toNat < 256 := c.toNat_lt
    simp only [numAt]
    by_cases q : 8 < c.toNat
    · rw [if_pos (.inr (.inl q)), if_pos (.inr (.inl q))]
    · rw [if_neg (show ¬ (c.toNat < 0 ∨ 8 < c.toNat ∨ c.toNat = ANY) by unfold ANY; omega)]
      simp only
      by_cases q2 : c.toNat = x
      · rw [if_pos (.inr (.inr q2)), if_pos q2]
      · rw [if_neg (by omega), if_neg q2]
end Ma

end
section
set_option linter.all false
namespace Ma
open Sh
noncomputable def bnd {α β : Type} (x : Except Nat (α × Nat × Bytes)) (f : α → Nat → Bytes → Except Nat β) : Except Nat β := match x with
  | .error e => .error e
  | .ok t => f t.1 t.2.1 t.2.2
noncomputable def plainB (p : Nat) (b : Bytes) : Except Nat (Field × Nat × Bytes) := bnd (numAt 0 8 ANY p b) fun t p b => .ok (.plain t, p, b)
noncomputable def partedB (p : Nat) (b : Bytes) : Except Nat (Field × Nat × Bytes) := bnd (numAt 0 7 ANY p b) fun d p b => bnd (numAt 0 5 ANY p b) fun l p b => bnd (numAt 0 8 ANY p b) fun x p b => bnd (numAt 0 8 x p b) fun y p b => .ok (.parted d l x y, p, b)
noncomputable def variedB (p : Nat) (b : Bytes) : Except Nat (Field × Nat × Bytes) := bnd (numAt 0 6 ANY p b) fun v p b => bnd (numAt 2 24 ANY p b) fun n p b => bnd (numAt 0 (if 5 ≤ v then 0 else 5) ANY p b) fun l p b =>
  bnd (numAt 0 8 ANY p b) fun x p b => bnd (numAt 0 8 x p b) fun y p b => .ok (.varied v n l x y, p, b)
theorem plain_b (p : Nat) (b : Bytes) : plainAt p b = plainB p b := by
  unfold plainAt plainB bnd
  cases numAt 0 8 ANY p b <;> rfl
theorem parted_b (p : Nat) (b : Bytes) : partedAt p b = partedB p b := by
  unfold partedAt partedB bnd
  cases numAt 0 7 ANY p b with
  | error e => rfl
  | ok d =>
    simp only
    cases numAt 0 5 ANY d.2.1 d.2.2 with
    | error e => rfl
    | ok l =>
      simp only
      cases numAt 0 8 ANY l.2.1 l.2.2 with
      | error e => rfl
      | ok a =>
        simp only
        cases numAt 0 8 a.1 a.2.1 a.2.2 <;> rfl
theorem varied_b (p : Nat) (b : Bytes) : variedAt p b = variedB p b := by
  unfold variedAt variedB bnd
  cases numAt 0 6 ANY p b with
  | error e => rfl
  | ok v =>
    simp only
    cases numAt 2 24 ANY v.2.1 v.2.2 with
    | error e => rfl
    | ok n =>
      simp only
      cases numAt 0 (if 5 ≤ v.1 then 0 else 5) ANY n.2.1 n.2.2 with
      | error e => rfl
      | ok l =>
        simp only
        cases numAt 0 8 ANY l.2.1 l.2.2 with
        | error e => rfl
        | ok a =>
          simp only
          cases numAt 0 8 a.1 a.2.1 a.2.2 <;> rfl
theorem field_b (p : Nat) (b : Bytes) : fieldAt p b = bnd (numAt 0 2 ANY p b) fun k p b => if k = 0 then plainB p b else if k = 1 then partedB p b else variedB p b := by
  rw [field_eq]
  unfold bnd
  cases numAt 0 2 ANY p b with
  | error e => rfl
  | ok k => simp only [plain_b, parted_b, varied_b]
theorem fill_b (below : Field) (p : Nat) (b : Bytes) : fillAt below p b = bnd (numAt 0 (if below.two.isSome = true then 1 else 0) ANY p b) fun k p b => if k = 1 then .ok (.counter, p, b) else bnd (fieldAt p b) fun f p b => .ok (.solid f, p, b) := by
  unfold fillAt bnd
  cases numAt 0 (if below.two.isSome = true then 1 else 0) ANY p b with
  | error e => rfl
  | ok k =>
    simp only
    split
    · rfl
    · cases fieldAt k.2.1 k.2.2 <;> rfl
noncomputable def ordB (below : Field) (p : Nat) (b : Bytes) : Except Nat (Layer × Nat × Bytes) := bnd (numAt 0 12 ANY p b) fun o p b => bnd (numAt 0 5 ANY p b) fun l p b => bnd (fillAt below p b) fun f p b => .ok (.ord o l f, p, b)
noncomputable def groupB (below : Field) (p : Nat) (b : Bytes) : Except Nat (Layer × Nat × Bytes) := bnd (numAt 0 15 ANY p b) fun c p b => bnd (numAt 1 10 ANY p b) fun n p b => bnd (numAt 0 6 ANY p b) fun m p b => bnd (numAt 1 4 ANY p b) fun s p b =>
  bnd (fillAt below p b) fun f p b => .ok (.group c n m s f, p, b)
theorem ord_b (below : Field) (p : Nat) (b : Bytes) : ordAt below p b = ordB below p b := by
  unfold ordAt ordB bnd
  cases numAt 0 12 ANY p b with
  | error e => rfl
  | ok d =>
    simp only
    cases numAt 0 5 ANY d.2.1 d.2.2 with
    | error e => rfl
    | ok l =>
      simp only
      cases fillAt below l.2.1 l.2.2 <;> rfl
theorem group_b (below : Field) (p : Nat) (b : Bytes) : groupAt below p b = groupB below p b := by
  unfold groupAt groupB bnd
  cases numAt 0 15 ANY p b with
  | error e => rfl
  | ok v =>
    simp only
    cases numAt 1 10 ANY v.2.1 v.2.2 with
    | error e => rfl
    | ok n =>
      simp only
      cases numAt 0 6 ANY n.2.1 n.2.2 with
      | error e => rfl
      | ok l =>
        simp only
        cases numAt 1 4 ANY l.2.1 l.2.2 with
        | error e => rfl
        | ok a =>
          simp only
          cases fillAt below a.2.1 a.2.2 <;> rfl
theorem layer_b (below : Field) (p : Nat) (b : Bytes) : layerAt below p b = bnd (numAt 0 1 ANY p b) fun k p b => if k = 0 then ordB below p b else groupB below p b := by
  rw [layer_eq]
  unfold bnd
  cases numAt 0 1 ANY p b with
  | error e => rfl
  | ok k => simp only [ord_b, group_b]
theorem layers_b (below : Field) (k p : Nat) (b : Bytes) : layersAt below (k + 1) p b = bnd (layerAt below p b) fun x p b => match layersAt below k p b with | .error e => .error e | .ok l => .ok (x :: l) := by
  conv => lhs; unfold layersAt
  unfold bnd
  cases layerAt below p b <;> rfl
theorem arms_b (b : Bytes) : readArms b = bnd (fieldAt 0 b) fun f p b => bnd (numAt 0 8 ANY p b) fun n p b => match layersAt f n p b with | .error e => .error e | .ok l => .ok ⟨f, l⟩ := by
  unfold readArms bnd
  cases fieldAt 0 b with
  | error e => rfl
  | ok f =>
    simp only
    have : numAt 0 MOST ANY f.2.1 f.2.2 = numAt 0 8 ANY f.2.1 f.2.2 := rfl
    rw [this]
    cases numAt 0 8 ANY f.2.1 f.2.2 <;> rfl
end Ma

end
section
set_option linter.all false
namespace Ma
open Sh
theorem layers_ok {below : Field} {B : Bytes} : ∀ {k p : Nat} {ls : List Layer}, layersAt below k p (B.drop p) = .ok ls → ls.length = k ∧ ∀ l ∈ ls, LayerOk below l
  | 0, p, ls, h => by
    have h : (if B.drop p = [] then Except.ok [] else Except.error p : Except Nat (List Layer)) = .ok ls := h
    split at h
    · cases h; exact ⟨rfl, fun l hl => nomatch hl⟩
    · cases h
  | k + 1, p, ls, h => by
    rw [layers_b] at h
    cases e : layerAt below p (B.drop p) with
    | error e' => rw [e] at h; cases h
    | ok t =>
      obtain ⟨h1, _, _, h3⟩ := layer_ok e
      rw [e] at h
      have h : (match layersAt below k t.2.1 t.2.2 with | .error e => .error e | .ok l => .ok (t.1 :: l) : Except Nat (List Layer)) = .ok ls := h
      rw [h3] at h
      cases e2 : layersAt below k t.2.1 (B.drop t.2.1) with
      | error e' => rw [e2] at h; cases h
      | ok l =>
        rw [e2] at h
        cases h
        obtain ⟨i1, i2⟩ := layers_ok e2
        refine ⟨by rw [List.length_cons, i1], fun x hx => ?_⟩
        rcases List.mem_cons.mp hx with z | z
        · rw [z]; exact h1
        · exact i2 x z
theorem arms_ok {B : Bytes} {x : Arms} (h : readArms B = .ok x) : FieldOk x.field ∧ x.layers.length ≤ 8 ∧ ∀ l ∈ x.layers, LayerOk x.field l := by
  rw [arms_b] at h
  cases e : fieldAt 0 B with
  | error e' => rw [e] at h; cases h
  | ok t =>
    obtain ⟨h1, _, _, h3⟩ := field_ok (B := B) (p := 0) (by rw [List.drop_zero]; exact e)
    rw [e] at h
    have h : (bnd (numAt 0 8 ANY t.2.1 t.2.2) fun n p b => match layersAt t.1 n p b with | .error e => .error e | .ok l => .ok ⟨t.1, l⟩ : Except Nat Arms) = .ok x := h
    rw [h3] at h
    cases e2 : numAt 0 8 ANY t.2.1 (B.drop t.2.1) with
    | error e' => rw [e2] at h; cases h
    | ok n =>
      obtain ⟨n1, _, _, n2, _⟩ := num_ok e2
      rw [e2, n1] at h
      have h : (match layersAt t.1 n.1 (t.2.1 + 1) (B.drop (t.2.1 + 1)) with | .error e => .error e | .ok l => .ok ⟨t.1, l⟩ : Except Nat Arms) = .ok x := h
      cases e3 : layersAt t.1 n.1 (t.2.1 + 1) (B.drop (t.2.1 + 1)) with
      | error e' => rw [e3] at h; cases h
      | ok l =>
        rw [e3] at h
        cases h
        obtain ⟨i1, i2⟩ := layers_ok e3
        exact ⟨h1, by rw [i1]; exact n2, i2⟩
end Ma

end
section
set_option Elab.async false
set_option linter.all false
set_option maxRecDepth 100000
namespace Ma
open Sh
theorem draw_eq {ns : List Int} (h : Byts ns) : PyWqbabn.draw ns = match readArms (byt ns) with | .error p => [-1, (p : Int)] | .ok x => ((drawingBytes x.drawing).length : Int) :: (drawingBytes x.drawing).map fun (b : UInt8) => (b.toNat : Int) := by
  have e : ArmsNeutral.callOf [[3], ns] = some (.draw (byt ns)) := by
    show (ArmsNeutral.text? ns).map ShOffice.Call.draw = _
    rw [text_of h]; rfl
  unfold PyWqbabn.draw ArmsNeutral.f
  rw [e]
  have a : ShOffice.answer (.draw (byt ns)) = (match readArms (byt ns) with | .error p => ShOffice.tells (-1) [p] | .ok x => ShOffice.gives (drawingBytes x.drawing)) := rfl
  simp only [a]
  cases readArms (byt ns) <;> rfl
noncomputable def enc (r : List Nat) : List Nat := (runs r).flatMap fun x => [x.1, x.2]
noncomputable def encG : Nat → List Nat → List Nat
  | _, [] => []
  | n, t :: r => if r.head? = some t then encG (n + 1) r else (n + 1) :: t :: encG 0 r
theorem encG_runs : ∀ (r : List Nat) (t len : Nat), ∃ n q, runs (t :: r) = (n, t) :: q ∧ encG len (t :: r) = (len + n) :: t :: q.flatMap fun x => [x.1, x.2]
  | [], t, len => ⟨1, [], rfl, rfl⟩
  | u :: r, t, len => by
    by_cases h : u = t
    · subst h
      obtain ⟨n, q, h1, h2⟩ := encG_runs r u (len + 1)
      refine ⟨n + 1, q, ?_, ?_⟩
      · show (match runs (u :: r) with | [] => [(1, u)] | x :: q => if x.2 = u then (x.1 + 1, u) :: q else (1, u) :: x :: q) = _
        rw [h1]
        exact if_pos rfl
      · show (if (u :: r).head? = some u then encG (len + 1) (u :: r) else (len + 1) :: u :: encG 0 (u :: r)) = _
        rw [if_pos (show (u :: r).head? = some u from rfl), h2, show len + 1 + n = len + (n + 1) by omega]
    · obtain ⟨n, q, h1, h2⟩ := encG_runs r u 0
      refine ⟨1, (n, u) :: q, ?_, ?_⟩
      · show (match runs (u :: r) with | [] => [(1, t)] | x :: q => if x.2 = t then (x.1 + 1, t) :: q else (1, t) :: x :: q) = _
        rw [h1]
        exact if_neg h
      · show (if (u :: r).head? = some t then encG (len + 1) (u :: r) else (len + 1) :: t :: encG 0 (u :: r)) = _
        rw [if_neg (by intro z; exact h (Option.some.inj z)), h2, Nat.zero_add]
        rfl
theorem encG_eq (r : List Nat) : encG 0 r = enc r := by
  cases r with
  | nil => rfl
  | cons t r =>
    obtain ⟨n, q, h1, h2⟩ := encG_runs r t 0
    unfold enc
    rw [h1, h2, Nat.zero_add]
    rfl
theorem runs_mem : ∀ (r : List Nat), ∀ x ∈ runs r, 1 ≤ x.1 ∧ x.1 ≤ r.length ∧ x.2 ∈ r
  | [], x, h => by cases h
  | t :: r, x, h => by
    have ih := runs_mem r
    have e : runs (t :: r) = (match runs r with | [] => [(1, t)] | x :: q => if x.2 = t then (x.1 + 1, t) :: q else (1, t) :: x :: q) := rfl
    rw [e] at h
    cases hr : runs r with
    | nil =>
      rw [hr] at h
      rcases List.mem_singleton.mp h with rfl
      exact ⟨Nat.le_refl _, by simp, by simp⟩
    | cons y q =>
      rw [hr] at h ih
      have h : x ∈ (if y.2 = t then (y.1 + 1, t) :: q else (1, t) :: y :: q) := h
      by_cases hy : y.2 = t
      · rw [if_pos hy] at h
        rcases List.mem_cons.mp h with rfl | h
        · obtain ⟨a, b, c⟩ := ih y (by simp)
          exact ⟨by simp, by simp; omega, by simp⟩
        · obtain ⟨a, b, c⟩ := ih x (List.mem_cons_of_mem _ h)
          exact ⟨a, by simp; omega, List.mem_cons_of_mem _ c⟩
      · rw [if_neg hy] at h
        rcases List.mem_cons.mp h with rfl | h
        · exact ⟨Nat.le_refl _, by simp, by simp⟩
        · obtain ⟨a, b, c⟩ := ih x h
          exact ⟨a, by simp; omega, List.mem_cons_of_mem _ c⟩
theorem runs_len : ∀ (r : List Nat), (runs r).length ≤ r.length
  | [] => Nat.le_refl _
  | t :: r => by
    have ih := runs_len r
    have e : runs (t :: r) = (match runs r with | [] => [(1, t)] | x :: q => if x.2 = t then (x.1 + 1, t) :: q else (1, t) :: x :: q) := rfl
    rw [e]
    cases hr : runs r with
    | nil => simp
    | cons y q =>
      rw [hr] at ih
      show (if y.2 = t then (y.1 + 1, t) :: q else (1, t) :: y :: q).length ≤ _
      split <;> simp at ih ⊢ <;> omega
theorem enc_len (r : List Nat) : (enc r).length ≤ 2 * r.length := by
  have h := runs_len r
  have : ∀ l : List (Nat × Nat), (l.flatMap fun x => [x.1, x.2]).length = 2 * l.length := fun l => by
    induction l with
    | nil => rfl
    | cons a l ih => rw [List.flatMap_cons, List.length_append, ih]; show 2 + 2 * l.length = 2 * (l.length + 1); omega
  unfold enc
  rw [this]
  omega
theorem enc_bytes {r : List Nat} (h1 : r.length ≤ 30) (h2 : ∀ t ∈ r, t ≤ 8) : ((runs r).flatMap fun (x : Nat × Tinct) => [UInt8.ofNat x.1, UInt8.ofNat x.2]).map (fun (b : UInt8) => b.toNat) = enc r := by
  have hm := runs_mem r
  unfold enc
  generalize runs r = l at hm
  induction l with
  | nil => rfl
  | cons a l ih =>
    obtain ⟨a1, a2, a3⟩ := hm a (by simp)
    have e1 : (UInt8.ofNat a.1).toNat = a.1 := by rw [UInt8.toNat_ofNat']; omega
    have e2 : (UInt8.ofNat a.2).toNat = a.2 := by have := h2 _ a3; rw [UInt8.toNat_ofNat']; omega
    have ih' := ih fun x hx => hm x (List.mem_cons_of_mem _ hx)
    rw [List.flatMap_cons, List.flatMap_cons, List.map_append, ih']
    show [(UInt8.ofNat a.1).toNat, (UInt8.ofNat a.2).toNat] ++ _ = _
    rw [e1, e2]
noncomputable def rowD (x : Arms) (y : Nat) : List Nat := (List.range 30).map fun (j : Nat) => x.at_ (16 * (j : Int) + 8) (16 * (y : Int) + 8)
noncomputable def flatD (x : Arms) : List Nat := points.map fun q => x.at_ q.1 q.2
theorem flat_rows (x : Arms) : flatD x = (List.range 36).flatMap (rowD x) := by
  unfold flatD points
  rw [List.map_flatMap]
  congr 1
theorem rowD_len (x : Arms) (y : Nat) : (rowD x y).length = 30 := by unfold rowD; rw [List.length_map, List.length_range]
theorem flat_len (x : Arms) : (flatD x).length = 1080 := by
  unfold flatD
  rw [List.length_map]
  decide +kernel
theorem flat_take (f : Nat → List Nat) (hf : ∀ y, (f y).length = 30) : ∀ y, ((List.range y).flatMap f).length = 30 * y
  | 0 => rfl
  | y + 1 => by rw [List.range_succ, List.flatMap_append, List.length_append, flat_take f hf y, List.flatMap_cons, List.flatMap_nil, List.append_nil, hf]; omega
theorem cut_flat (f : Nat → List Nat) (hf : ∀ y, (f y).length = 30) (n y : Nat) (h : y < n) : (((List.range n).flatMap f).drop (30 * y)).take 30 = f y := by
  have e : List.range n = List.range y ++ (y :: List.range' (y + 1) (n - y - 1)) := by
    rw [List.range_eq_range', List.range_eq_range']
    have := List.range'_append_1 (s := 0) (m := y) (n := n - y)
    rw [show y + (n - y) = n by omega] at this
    rw [← this, Nat.zero_add, show n - y = (n - y - 1) + 1 by omega, List.range'_succ]
    rfl
  rw [e, List.flatMap_append, List.flatMap_cons, List.drop_append_of_le_length (by rw [flat_take f hf]; exact Nat.le_refl _)]
  rw [List.drop_of_length_le (by rw [flat_take f hf]; exact Nat.le_refl _), List.nil_append, List.take_append_of_le_length (by rw [hf]; exact Nat.le_refl _)]
  rw [List.take_of_length_le (by rw [hf]; exact Nat.le_refl _)]
theorem field_le {f : Field} (h : FieldOk f) (p r : Int) : f.at_ p r ≤ 8 := by
  cases f with
  | plain t => exact h
  | parted d l a b =>
    show (if firstAt d l p r = true then a else b) ≤ 8
    split
    · exact h.2.2.1
    · exact h.2.2.2.1
  | varied v n l a b =>
    show (if pieceAt v (n : Int) l p r % 2 = 0 then a else b) ≤ 8
    split
    · exact h.2.2.2.2.2.1
    · exact h.2.2.2.2.2.2.1
theorem fill_le {b : Field} {f : Fill} (hb : FieldOk b) (h : FillOk b f) (p r : Int) : f.at_ b p r ≤ 8 := by
  cases f with
  | solid g => exact field_le h p r
  | counter =>
    show (match b.two with | some x => if b.at_ p r = x.1 then x.2 else x.1 | none => b.at_ p r) ≤ 8
    cases b with
    | plain t => exact hb
    | parted d l a c =>
      show (if _ = a then c else a) ≤ 8
      split
      · exact hb.2.2.2.1
      · exact hb.2.2.1
    | varied v n l a c =>
      show (if _ = a then c else a) ≤ 8
      split
      · exact hb.2.2.2.2.2.2.1
      · exact hb.2.2.2.2.2.1
theorem layer_fill {b : Field} {x : Layer} (h : LayerOk b x) : FillOk b x.fill := by
  cases x with
  | ord o ln fl => exact h.2.2
  | group c n m s f => exact h.2.2.2.2.2.2
noncomputable def upTo (x : Arms) (i : Nat) (p r : Int) : Nat := match (x.layers.take i).reverse.find? fun (y : Layer) => y.has p r with
  | some y => y.fill.at_ x.field p r
  | none => x.field.at_ p r
theorem upTo_all (x : Arms) (p r : Int) : upTo x x.layers.length p r = x.at_ p r := by unfold upTo Arms.at_; rw [List.take_length]; rfl
theorem upTo_succ {x : Arms} {i : Nat} {y : Layer} (h : x.layers[i]? = some y) (p r : Int) : upTo x (i + 1) p r = if y.has p r = true then y.fill.at_ x.field p r else upTo x i p r := by
  unfold upTo
  rw [List.take_succ, h]
  simp only [Option.toList, List.reverse_append, List.reverse_singleton, List.singleton_append, List.find?_cons]
  cases y.has p r <;> simp
theorem at_le {x : Arms} (h1 : FieldOk x.field) (h2 : ∀ l ∈ x.layers, LayerOk x.field l) (p r : Int) : x.at_ p r ≤ 8 := by
  unfold Arms.at_
  cases e : x.layers.reverse.find? fun (y : Layer) => y.has p r with
  | none => exact field_le h1 p r
  | some y => exact fill_le h1 (layer_fill (h2 y (by have := List.mem_of_find?_eq_some e; simpa using this))) p r
noncomputable def bytesD (x : Arms) (k : Nat) : List Nat := [83, 72, 68, 49] ++ (List.range k).flatMap fun y => enc (rowD x y)
theorem bytesD_eq {x : Arms} (h1 : FieldOk x.field) (h2 : ∀ l ∈ x.layers, LayerOk x.field l) : (drawingBytes x.drawing).map (fun (b : UInt8) => b.toNat) = bytesD x 36 := by
  unfold drawingBytes bytesD
  rw [List.map_append]
  congr 1
  show (((List.range 36).map (rowD x)).flatMap _).map _ = _
  rw [List.flatMap_map, List.map_flatMap]
  congr 1
  funext y
  refine enc_bytes (Nat.le_of_eq (rowD_len x y)) fun t ht => ?_
  unfold rowD at ht
  obtain ⟨j, _, rfl⟩ := List.mem_map.mp ht
  exact at_le h1 h2 _ _
theorem bytesD_len (x : Arms) : ∀ k, (bytesD x k).length ≤ 4 + 60 * k
  | 0 => Nat.le_refl _
  | k + 1 => by
    have ih := bytesD_len x k
    unfold bytesD at ih ⊢
    rw [List.range_succ, List.flatMap_append, ← List.append_assoc, List.length_append]
    have := enc_len (rowD x k)
    rw [rowD_len] at this
    rw [List.flatMap_cons, List.flatMap_nil, List.append_nil]
    omega
theorem bytesD_succ (x : Arms) (k : Nat) : bytesD x (k + 1) = bytesD x k ++ enc (rowD x k) := by
  unfold bytesD
  rw [List.range_succ, List.flatMap_append, List.append_assoc]
  simp
end Ma

end
set_option autoImplicit false

namespace Dr3
open PySem PySem.Spec PyProof.Rows L2 Sh Ma
open PySem.W (Codec)
noncomputable def top (i : Nat) : Stmt := PySem.Challenge.pw_shieldwords_s03_draw.main.body.getD i (.Pass ⟨0, 0, 0, 0⟩)
noncomputable abbrev sFI : Stmt := inClass (top 18) 0
noncomputable abbrev sOI : Stmt := inClass (top 19) 0
noncomputable abbrev sGI : Stmt := inClass (top 20) 0
noncomputable abbrev sAI : Stmt := inClass (top 21) 0
noncomputable abbrev sXI : Stmt := inClass (top 23) 0
noncomputable abbrev sRI : Stmt := inClass (top 24) 0
noncomputable abbrev sTk : Stmt := inClass (top 24) 1
noncomputable abbrev sTr : Stmt := inClass (top 24) 2
noncomputable abbrev sTo : Stmt := inClass (top 24) 3
noncomputable abbrev sTe : Stmt := inClass (top 24) 4
noncomputable abbrev sRP : Stmt := top 30
noncomputable abbrev sRT : Stmt := top 31
noncomputable abbrev sLV : Stmt := top 32
noncomputable abbrev sRV : Stmt := top 33
noncomputable abbrev sRF : Stmt := top 34
noncomputable abbrev sFL : Stmt := top 35
noncomputable abbrev sOL : Stmt := top 36
noncomputable abbrev sGL : Stmt := top 37
noncomputable abbrev sRL : Stmt := top 38
noncomputable abbrev sRA : Stmt := top 39
noncomputable abbrev s_straight : Stmt := top 41
noncomputable abbrev s_wavy : Stmt := top 42
noncomputable abbrev s_embattled : Stmt := top 43
noncomputable abbrev s_indented : Stmt := top 44
noncomputable abbrev s_engrailed : Stmt := top 45
noncomputable abbrev s_invected : Stmt := top 46
noncomputable abbrev s_bend_across : Stmt := top 52
noncomputable abbrev s_bend_along : Stmt := top 53
noncomputable abbrev s_mirrored : Stmt := top 54
noncomputable abbrev s_sinister_across : Stmt := top 55
noncomputable abbrev s_sinister_along : Stmt := top 56
noncomputable abbrev s_bend_offset : Stmt := top 57
noncomputable abbrev s_sinister_offset : Stmt := top 58
noncomputable abbrev s_from_middle : Stmt := top 59
noncomputable abbrev s_per_pale : Stmt := top 61
noncomputable abbrev s_per_fess : Stmt := top 62
noncomputable abbrev s_per_bend : Stmt := top 63
noncomputable abbrev s_per_bend_sinister : Stmt := top 64
noncomputable abbrev s_per_chevron : Stmt := top 65
noncomputable abbrev s_per_saltire : Stmt := top 66
noncomputable abbrev s_quarterly : Stmt := top 67
noncomputable abbrev s_gyronny : Stmt := top 68
noncomputable abbrev s_barry : Stmt := top 70
noncomputable abbrev s_paly : Stmt := top 71
noncomputable abbrev s_bendy : Stmt := top 72
noncomputable abbrev s_bendy_sinister : Stmt := top 73
noncomputable abbrev s_chevronny : Stmt := top 74
noncomputable abbrev s_chequy : Stmt := top 75
noncomputable abbrev s_lozengy : Stmt := top 76
noncomputable abbrev s_distance : Stmt := top 83
noncomputable abbrev s_roundel : Stmt := top 84
noncomputable abbrev s_annulet : Stmt := top 85
noncomputable abbrev s_lozenge : Stmt := top 86
noncomputable abbrev s_mascle : Stmt := top 87
noncomputable abbrev s_fusil : Stmt := top 88
noncomputable abbrev s_billet : Stmt := top 89
noncomputable abbrev s_mullet : Stmt := top 90
noncomputable abbrev s_crescent : Stmt := top 91
noncomputable abbrev s_increscent : Stmt := top 92
noncomputable abbrev s_cross_charges : Stmt := top 93
noncomputable abbrev s_saltire_charges : Stmt := top 95
noncomputable abbrev s_escutcheon : Stmt := top 97
noncomputable abbrev s_tower : Stmt := top 98
noncomputable abbrev s_sword : Stmt := top 99
noncomputable abbrev s_wheel : Stmt := top 100
noncomputable abbrev s_arrow : Stmt := top 101
noncomputable abbrev s_part_middle : Stmt := top 113
noncomputable abbrev s_bend_within : Stmt := top 122
noncomputable abbrev s_sinister_within : Stmt := top 123
noncomputable abbrev s_chief : Stmt := top 124
noncomputable abbrev s_base : Stmt := top 125
noncomputable abbrev s_pale : Stmt := top 126
noncomputable abbrev s_fess : Stmt := top 127
noncomputable abbrev s_bend : Stmt := top 128
noncomputable abbrev s_bend_sinister : Stmt := top 129
noncomputable abbrev s_chevron : Stmt := top 130
noncomputable abbrev s_cross_ordinaries : Stmt := top 131
noncomputable abbrev s_saltire_ordinaries : Stmt := top 133
noncomputable abbrev s_pile : Stmt := top 135
noncomputable abbrev s_bordure : Stmt := top 136
noncomputable abbrev s_canton : Stmt := top 137
noncomputable abbrev s_quarter : Stmt := top 138
noncomputable abbrev s_offset : Stmt := top 48
noncomputable abbrev s_has_first : Stmt := top 78
noncomputable abbrev s_field_tincture : Stmt := top 79
noncomputable abbrev s_counterchanged_tincture : Stmt := top 80
noncomputable abbrev s_charge_has : Stmt := top 103
noncomputable abbrev s_middles_in_rows : Stmt := top 114
noncomputable abbrev s_middle : Stmt := top 115
noncomputable abbrev s_group_middles : Stmt := top 116
noncomputable abbrev s_half_before_size : Stmt := top 117
noncomputable abbrev s_half_side : Stmt := top 118
noncomputable abbrev s_charges_have : Stmt := top 119
noncomputable abbrev s_group_has_points : Stmt := top 120
noncomputable abbrev s_ordinary_has : Stmt := top 140
noncomputable abbrev s_layer_has_points : Stmt := top 142
noncomputable abbrev s_layer_tincture : Stmt := top 143
noncomputable abbrev s_arms_drawing : Stmt := top 154
noncomputable abbrev s_drawing_bytes : Stmt := top 158
noncomputable abbrev s_row_bytes : Stmt := top 157
noncomputable abbrev s_draw : Stmt := top 162
theorem iteP {c A B : Prop} [Decidable c] (h : c) (a : A) : if c then A else B := by
  rw [if_pos h]
  exact a
theorem iteN {c A B : Prop} [Decidable c] (h : ¬ c) (b : B) : if c then A else B := by
  rw [if_neg h]
  exact b
theorem look1 (f : Str) (v : V) : List.lookup f [(f, v)] = some v := by simp only [List.lookup, beq_self_eq_true]
noncomputable def rf (a : Addr) (p : Nat) : List (Str × V) := putF "place" (.int p) (putF "data" (.ref a) [])
theorem putF_putF (f : Str) (u v : V) : ∀ fs : List (Str × V), putF f v (putF f u fs) = putF f v fs
  | [] => by
    show (if f = f then [(f, v)] else _) = [(f, v)]
    rw [if_pos rfl]
  | (k, x) :: r => by
    have ih := putF_putF f u v r
    by_cases hk : k = f
    · have e1 : putF f u ((k, x) :: r) = (k, u) :: r := by
        show (if k = f then (k, u) :: r else _) = _
        rw [if_pos hk]
      have e2 : putF f v ((k, u) :: r) = (k, v) :: r := by
        show (if k = f then (k, v) :: r else _) = _
        rw [if_pos hk]
      have e3 : putF f v ((k, x) :: r) = (k, v) :: r := by
        show (if k = f then (k, v) :: r else _) = _
        rw [if_pos hk]
      rw [e1, e2, e3]
    · have e1 : putF f u ((k, x) :: r) = (k, x) :: putF f u r := by
        show (if k = f then _ else (k, x) :: putF f u r) = _
        rw [if_neg hk]
      have e2 : putF f v ((k, x) :: putF f u r) = (k, x) :: putF f v (putF f u r) := by
        show (if k = f then _ else (k, x) :: putF f v (putF f u r)) = _
        rw [if_neg hk]
      have e3 : putF f v ((k, x) :: r) = (k, x) :: putF f v r := by
        show (if k = f then _ else (k, x) :: putF f v r) = _
        rw [if_neg hk]
      rw [e1, e2, e3, ih]
theorem rf_place (a : Addr) (p : Nat) : (rf a p).lookup ("place" : Str) = some (.int p) := by
  unfold rf
  rw [lookup_putF, if_pos rfl]
theorem rf_data (a : Addr) (p : Nat) : (rf a p).lookup ("data" : Str) = some (.ref a) := by
  unfold rf
  rw [lookup_putF, if_neg (by decide +kernel), lookup_putF, if_pos rfl]
theorem rf_no (a : Addr) (p : Nat) {m : Str} (h1 : ¬ m = "place") (h2 : ¬ m = "data") : (rf a p).lookup m = none := by
  unfold rf
  rw [lookup_putF, if_neg h1, lookup_putF, if_neg h2]
  all_goals rfl
theorem rf_put (a : Addr) (p q : Nat) : putF "place" (.int q) (rf a p) = rf a q := by
  unfold rf
  rw [putF_putF]
theorem rf_len (a : Addr) (p : Nat) : (rf a p).length < 1000 := by
  have h1 := length_putF "place" (.int p) (putF "data" (.ref a) [])
  have h2 := length_putF "data" (.ref a) []
  unfold rf
  simp only [List.length_nil] at h2
  omega
noncomputable def Wrong (C : Addr) (E : XK) (n : Nat) : Prop := ∀ d H', H' d = some (.xd [("place", .int n)]) → E (.ref C) (some d) H'
noncomputable def Rk {α : Type} (C : Addr) (E : XK) (x : Except Nat (α × Nat × Bytes)) (k : α → Nat → Prop) : Prop := match x with
  | .error e => Wrong C E e
  | .ok t => k t.1 t.2.1
noncomputable def Oth (r : Addr) (H H' : Hp) : Prop := ∀ b o, b ≠ r → H b = some o → H' b = some o
theorem Oth.trans {r : Addr} {H H1 H2 : Hp} (a : Oth r H H1) (b : Oth r H1 H2) : Oth r H H2 := fun c o n e => b c o n (a c o n e)
theorem Oth.upd (r : Addr) (H : Hp) (o : HO) : Oth r H (upd H r o) := fun b u n e => by rw [upd_ne n]; exact e
noncomputable def SqF (K : PySem.W.Frag) (H : Hp) (a : Addr) (xs : List V) : Prop := (∃ o, H a = some (.frz o (.lst xs))) ∨ SqL K (fun _ => none) a xs
theorem SqF.l {K : PySem.W.Frag} {H : Hp} {a : Addr} {xs : List V} (h : SqF K H a xs) : SqL K H a xs := by
  rcases h with h | (h | ⟨o, h⟩) | h
  · exact .inl (.inr h)
  · cases h
  · cases h
  · exact .inr h
theorem SqF.keep {K : PySem.W.Frag} {H H' : Hp} {a : Addr} {xs : List V} (h : SqF K H a xs) (k : ∀ o u, H a = some (.frz o u) → H' a = some (.frz o u)) : SqF K H' a xs := by
  rcases h with ⟨o, h⟩ | h
  · exact .inl ⟨o, k _ _ h⟩
  · exact .inr h
theorem SqF.of {K : PySem.W.Frag} {H : Hp} {a : Addr} {xs : List V} (h : SqL K H a xs) (n : ∀ ys, ¬ H a = some (.lst ys)) : SqF K H a xs := by
  rcases h with (h | h) | h
  · exact (n _ h).elim
  · exact .inl h
  · exact .inr (.inr h)
structure RdAt (K : PySem.W.Frag) (CR : Addr) (H : Hp) (r a : Addr) (ns : List Int) (p : Nat) : Prop where
  byts : Byts ns
  obj : ∃ dr, H r = some (.ins CR dr (rf a p))
  seq : SqF K H a (ns.map V.int)
  le : p ≤ ns.length
theorem RdAt.oth {K : PySem.W.Frag} {CR : Addr} {H H' : Hp} {r a : Addr} {ns : List Int} {p q : Nat} (R : RdAt K CR H r a ns p) (o : Oth r H H') (hq : q ≤ ns.length) (h : ∃ dr, H' r = some (.ins CR dr (rf a q))) : RdAt K CR H' r a ns q := by
  obtain ⟨dr, h1⟩ := R.obj
  exact ⟨R.byts, h, R.seq.keep fun ob u e => o _ _ (ne_of e h1 (by intro z; cases z)) e, hq⟩
theorem RdAt.same {K : PySem.W.Frag} {CR : Addr} {H H' : Hp} {r a : Addr} {ns : List Int} {p : Nat} (R : RdAt K CR H r a ns p) (o : Same H H') : RdAt K CR H' r a ns p := by
  obtain ⟨dr, h1⟩ := R.obj
  exact ⟨R.byts, ⟨dr, o _ _ h1⟩, R.seq.keep fun ob u e => o _ _ e, R.le⟩
theorem RdAt.lst {K : PySem.W.Frag} {CR : Addr} {H : Hp} {r a l : Addr} {ns : List Int} {p : Nat} {xs ys : List V} (R : RdAt K CR H r a ns p) (e : H l = some (.lst xs)) : RdAt K CR (upd H l (.lst ys)) r a ns p := by
  obtain ⟨dr, h1⟩ := R.obj
  exact ⟨R.byts, ⟨dr, by rw [upd_ne (ne_of h1 e (by intro z; cases z))]; exact h1⟩, R.seq.keep fun ob u q => by rw [upd_ne (ne_of q e (by intro z; cases z))]; exact q, R.le⟩
noncomputable def spXI (C : Addr) : Sp := fun vs H Q _ => ∃ (x : Addr) (n : Int), vs = [.ref x, .int n] ∧ H x = some (xn x C none) ∧ ∀ d H', H' x = some (xn x C (some d)) → H' d = some (.xd [("place", .int n)]) → Q .non H'
noncomputable def spRI (C : Addr) : Sp := fun vs H Q _ => ∃ (r dr a : Addr), vs = [.ref r, .ref a] ∧ H r = some (.ins C dr []) ∧ ∀ H', H' r = some (.ins C dr (rf a 0)) → Oth r H H' → Q .non H'
noncomputable def spTake (K : PySem.W.Frag) (CE CR : Addr) : Sp := fun vs H Q E => ∃ (r a : Addr) (ns : List Int) (p lo hi : Nat), vs = [.ref r, .int lo, .int hi] ∧ RdAt K CR H r a ns p ∧
  Rk CE E (numAt lo hi ANY p ((byt ns).drop p)) fun n q => ∀ H', RdAt K CR H' r a ns q → Oth r H H' → Q (.int n) H'
noncomputable def spRow (K : PySem.W.Frag) (CE CR : Addr) : Sp := fun vs H Q E => ∃ (r a : Addr) (ns : List Int) (p m : Nat), vs = [.ref r, .int (m + 1 : Nat)] ∧ RdAt K CR H r a ns p ∧
  Rk CE E (numAt 0 m ANY p ((byt ns).drop p)) fun n q => ∀ H', RdAt K CR H' r a ns q → Oth r H H' → Q (.int n) H'
noncomputable def spOther (K : PySem.W.Frag) (CE CR : Addr) : Sp := fun vs H Q E => ∃ (r a : Addr) (ns : List Int) (p x : Nat) (v : V), vs = [.ref r, v] ∧ ((v = .non ∧ 8 < x) ∨ v = .int x) ∧ RdAt K CR H r a ns p ∧
  Rk CE E (numAt 0 8 x p ((byt ns).drop p)) fun n q => ∀ H', RdAt K CR H' r a ns q → Oth r H H' → Q (.int n) H'
noncomputable def spEnd (K : PySem.W.Frag) (CE CR : Addr) : Sp := fun vs H Q E => ∃ (r a : Addr) (ns : List Int) (p : Nat), vs = [.ref r] ∧ RdAt K CR H r a ns p ∧ (p < ns.length → Wrong CE E p) ∧ (p = ns.length → Q .non H)
structure TR (K : PySem.W.Frag) (mg : Str → Option Value) (CE NE fE CR fR fTk fTr fTo fTe : Addr) : Prop where
  xc : XCls K CE NE fE
  nx : PySem.W.nsIn K NE "place" = some none
  mgE : mg "WrongByte" = some (.ref CE)
  ve : mg "ValueError" = none
  len : mg "len" = none
  mgR : mg "ByteReader" = some (.ref CR)
  cl : Cls K CR
  nD : NoAttr K CR "data"
  nP : NoAttr K CR "place"
  mkR : Mk K CR fR
  mTk : Meth K CR "take" fTk
  mTr : Meth K CR "take_row" fTr
  mTo : Meth K CR "take_other_tincture" fTo
  mTe : Meth K CR "take_end" fTe
  t9 : ∃ t, mg "TINCTURE_ROWS" = some (.int 9 t)
section
variable {P : Program} {w : World} {K : PySem.W.Frag} {mg : Str → Option Value} {base : Heap} {CE NE fE CR fR fTk fTr fTo fTe : Addr}
theorem ty_place : typeLookup (.type "ValueError") "place" = pure none := by rw [typeLookup_type, builtinLookup_eq_fast]; first | rfl | kernel_rfl
theorem scXI : FnScope ["self", "place"] ["self", "place"] (defScope sXI) := ⟨rfl, rfl, rfl, by decide +kernel, rfl, by decide +kernel, by decide +kernel⟩
theorem ok_xi {fd : FuncData} (F : Fun K "__init__" "WrongByte.__init__" sXI fE fd) (T : TR K mg CE NE fE CR fR fTk fTr fTo fTe) : FnOk P w K mg base (CXx P w) 1 fE fd ["self", "place"] (spXI CE) := by
  refine F.okX scXI (fun vs H Q E h => ?_) (fun cdv A outer s H vs Q E hr h => ?_)
  · obtain ⟨x, n, rfl, _⟩ := h
    rfl
  · obtain ⟨x, n, rfl, hx, k⟩ := h
    refine ⟨_, pss_cons (ps_expr (pe_xinit rfl T.ve (pa_cons (pv 0) (pa_cons (pv 1) pa_nil)))) (pss_one (ps_xfld (pv 0) (pv 1) ty_place rfl)), ?_⟩
    refine ⟨_, rfl, _, rfl, x, CE, NE, fE, none, _, rfl, (by show 1 ≤ 1000; decide), hx, T.xc, _, rfl, _, rfl, x, CE, NE, fE, rfl, hx, T.xc, T.nx, fun d hd => ?_⟩
    exact k d _ (by rw [upd_ne (ne_of_none hx hd), upd_same]) upd_same
theorem raise_wrong {E : XK} {n : Nat} (hW : Wrong CE E n) (H1 : Hp) : ∀ x, H1 x = none → spXI CE [.ref x, .int n] (upd H1 x (xn x CE none)) (fun v H2 => v = .non ∧ ∃ d, H2 x = some (xn x CE (some d)) ∧ E (.ref CE) (some d) (upd H2 x (xo x CE d))) E0 :=
  fun x _ => ⟨x, n, rfl, upd_same, fun d H' h1 h2 => ⟨rfl, d, h1, hW d _ (by rw [upd_ne (ne_of h2 h1 (by intro z; cases z))]; exact h2)⟩⟩
theorem scRI : FnScope ["self", "data"] ["self", "data"] (defScope sRI) := ⟨rfl, rfl, rfl, by decide +kernel, rfl, by decide +kernel, by decide +kernel⟩
theorem ok_ri {fd : FuncData} (F : Fun K "__init__" "ByteReader.__init__" sRI fR fd) (T : TR K mg CE NE fE CR fR fTk fTr fTo fTe) : FnOk P w K mg base (CXx P w) 1 fR fd ["self", "data"] (spRI CR) := by
  refine F.okX scRI (fun vs H Q E h => ?_) (fun cdv A outer s H vs Q E hr h => ?_)
  · obtain ⟨r, dr, a, rfl, _⟩ := h
    rfl
  · obtain ⟨r, dr, a, rfl, hr0, k⟩ := h
    refine ⟨_, pss_cons (ps_fld (pv 0) (pv 1) rfl) (pss_one (ps_fld (pv 0) pe_int rfl)), ?_⟩
    refine ⟨_, rfl, _, rfl, r, CR, dr, [], rfl, hr0, T.cl, T.nD, (by show 0 < 1000; decide), _, rfl, r, CR, dr, _, rfl, upd_same, T.cl, T.nP, (by show 1 < 1000; decide), ?_⟩
    rw [upd_upd]
    exact k _ upd_same (Oth.upd _ _ _)
theorem scTk : FnScope ["self", "least", "most", "byte"] ["self", "least", "most"] (defScope sTk) := ⟨rfl, rfl, rfl, by decide +kernel, rfl, by decide +kernel, by decide +kernel⟩
theorem ok_take {fdE fd : FuncData} (F : Fun K "take" "ByteReader.take" sTk fTk fd) (T : TR K mg CE NE fE CR fR fTk fTr fTo fTe) (GI : FnOk P w K mg base (CXx P w) 1 fE fdE ["self", "place"] (spXI CE)) (bI : Binds K fdE ["self", "place"] []) :
    FnOk P w K mg base (CXx P w) 3 fTk fd ["self", "least", "most"] (spTake K CE CR) := by
  refine F.okX scTk (fun vs H Q E h => ?_) (fun cdv A outer s H vs Q E hr h => ?_)
  · obtain ⟨r, a, ns, p, lo, hi, rfl, _⟩ := h
    rfl
  · obtain ⟨r, a, ns, p, lo, hi, rfl, R, k⟩ := h
    obtain ⟨hb, ⟨dr, hR⟩, hS, hp⟩ := id R
    refine ⟨_, pss_cons (ps_if (pt_cmpR op_eq (pe_fld (pv 0) rfl) (pe_callB call_len_seq (by rfl) T.len PySem.boot_len (pa_cons (pe_fld (pv 0) rfl) pa_nil)) (nomark _)) (pss_one (ps_raise T.xc GI hr rfl T.mgE bI rfl rfl flies (pa_cons (pe_fld (pv 0) rfl) pa_nil))) pss_nil)
      (pss_cons (ps_set (i := 3) scTk.nd rfl (Or.inl rfl) (pe_ix ix_list (pe_fld (pv 0) rfl) (pe_fld (pv 0) rfl) (fun _ _ => rfl)))
      (pss_cons (ps_if (PW.pt (pw_or (pt_cmpR op_lt (pv 3) (pv 1) (nomark _)) (pw_or1 (pt_cmpR op_gt (pv 3) (pv 2) (nomark _))))) (pss_one (ps_raise T.xc GI hr rfl T.mgE bI rfl rfl flies (pa_cons (pe_fld (pv 0) rfl) pa_nil))) pss_nil)
      (pss_cons (ps_fld (pv 0) (pe_op op_add (pe_fld (pv 0) rfl) pe_int) rfl)
      (pss_one (ps_ret (pv 3)))))), ?_⟩
    refine ⟨_, rfl, r, CR, dr, _, _, rfl, hR, T.cl, T.nP, rf_place a p, _, rfl, r, CR, dr, _, _, rfl, hR, T.cl, T.nD, rf_data a p, a, _, rfl, .inl hS.l, rfl, _, rfl, ?_⟩
    rw [List.length_map]
    by_cases hpl : p = ns.length
    · refine iteP (decide_eq_true (by rw [hpl])) ?_
      rw [num_end (by rw [byt_len]; omega)] at k
      exact ⟨_, rfl, r, CR, dr, _, _, rfl, hR, T.cl, T.nP, rf_place a p, (by show 1 ≤ 1000; decide), raise_wrong k H⟩
    · refine iteN (by exact fun z => hpl (by have := of_decide_eq_true z; injection this with e; omega)) ?_
      have hlt : p < ns.length := by omega
      obtain ⟨z, hz⟩ : ∃ z, ns[p]? = some z := ⟨_, List.getElem?_eq_getElem hlt⟩
      have hzb := hb z (List.mem_of_getElem? hz)
      refine ⟨_, rfl, r, CR, dr, _, _, rfl, hR, T.cl, T.nD, rf_data a p, _, rfl, r, CR, dr, _, _, rfl, hR, T.cl, T.nP, rf_place a p, a, _, _, _, rfl, rfl, hS.l, at_of (j := p) (v := V.int z) rfl (by rw [List.getElem?_map, hz]; rfl), ?_⟩
      rw [num_at hb hz] at k
      have bad : ∀ D σ, Wrong CE E p → (σ : L2.St)[0]? = some (some (V.ref r)) → tRaise CE (spXI CE) E (tCons (tFld K (tVar 0) "place") tNil) D σ H := fun D σ q h0 =>
        ⟨_, h0, r, CR, dr, _, _, rfl, hR, T.cl, T.nP, rf_place a p, (by show 1 ≤ 1000; decide), raise_wrong q H⟩
      refine ⟨_, rfl, _, rfl, _, _, rfl, rfl, _, rfl, ?_⟩
      by_cases h1 : z < lo
      · refine iteP (decide_eq_true h1) (iteP rfl ?_)
        rw [if_pos (.inl h1)] at k
        exact bad _ _ k rfl
      · refine iteN (by rw [decide_eq_false h1]; exact Bool.false_ne_true) ?_
        refine ⟨_, rfl, _, rfl, _, _, rfl, rfl, _, rfl, ?_⟩
        by_cases h2 : (hi : Int) < z
        · refine iteP (decide_eq_true h2) ?_
          rw [if_pos (.inr (.inl h2))] at k
          exact bad _ _ k rfl
        · refine iteN (by rw [decide_eq_false h2]; exact Bool.false_ne_true) ?_
          rw [if_neg (by unfold ANY; omega)] at k
          refine ⟨_, rfl, r, CR, dr, _, _, rfl, hR, T.cl, T.nP, rf_place a p, _, _, rfl, rfl, _, rfl, r, CR, dr, _, rfl, hR, T.cl, T.nP, rf_len a p, _, rfl, ?_⟩
          have e1 : putF "place" (V.int ((p : Int) + 1)) (rf a p) = rf a (p + 1) := rf_put a p (p + 1)
          have e2 : V.int z = V.int ((z.toNat : Nat) : Int) := by rw [Int.toNat_of_nonneg hzb.1]
          show Q (V.int z) (upd H r (.ins CR dr (putF "place" (V.int ((p : Int) + 1)) (rf a p))))
          rw [e1, e2]
          exact k _ (R.oth (Oth.upd _ _ _) hlt ⟨dr, upd_same⟩) (Oth.upd _ _ _)
theorem scTr : FnScope ["self", "rows"] ["self", "rows"] (defScope sTr) := ⟨rfl, rfl, rfl, by decide +kernel, rfl, by decide +kernel, by decide +kernel⟩
theorem ok_row {fdT fd : FuncData} (F : Fun K "take_row" "ByteReader.take_row" sTr fTr fd) (T : TR K mg CE NE fE CR fR fTk fTr fTo fTe) (G : FnOk P w K mg base (CXx P w) 3 fTk fdT ["self", "least", "most"] (spTake K CE CR)) (b : Binds K fdT ["self", "least", "most"] []) :
    FnOk P w K mg base (CXx P w) 4 fTr fd ["self", "rows"] (spRow K CE CR) := by
  refine F.okX scTr (fun vs H Q E h => ?_) (fun cdv A outer s H vs Q E hr h => ?_)
  · obtain ⟨r, a, ns, p, m, rfl, _⟩ := h
    rfl
  · obtain ⟨r, a, ns, p, m, rfl, R, k⟩ := h
    obtain ⟨hb, ⟨dr, hR⟩, hS, hp⟩ := id R
    refine ⟨_, pss_one (ps_ret (pe_meth (pv 0) T.cl T.mTk G hr b .nil (passX rfl flies) (pa_cons pe_int (pa_cons (pe_op op_sub (pv 1) pe_int) pa_nil)))), ?_⟩
    refine ⟨_, rfl, r, dr, _, rfl, hR, rf_no a p (by decide +kernel) (by decide +kernel), _, rfl, _, _, rfl, rfl, r, a, ns, p, 0, m, ?_, R, k⟩
    dsimp only
    rw [show (((m + 1 : Nat) : Int) - 1) = (m : Int) by omega]
    rfl
theorem scTo : FnScope ["self", "first", "tincture"] ["self", "first"] (defScope sTo) := ⟨rfl, rfl, rfl, by decide +kernel, rfl, by decide +kernel, by decide +kernel⟩
theorem ok_other {fdE fdT fd : FuncData} (F : Fun K "take_other_tincture" "ByteReader.take_other_tincture" sTo fTo fd) (T : TR K mg CE NE fE CR fR fTk fTr fTo fTe) (GI : FnOk P w K mg base (CXx P w) 1 fE fdE ["self", "place"] (spXI CE)) (bI : Binds K fdE ["self", "place"] [])
    (G : FnOk P w K mg base (CXx P w) 4 fTr fdT ["self", "rows"] (spRow K CE CR)) (b : Binds K fdT ["self", "rows"] []) : FnOk P w K mg base (CXx P w) 5 fTo fd ["self", "first"] (spOther K CE CR) := by
  refine F.okX scTo (fun vs H Q E h => ?_) (fun cdv A outer s H vs Q E hr h => ?_)
  · obtain ⟨r, a, ns, p, x, v, rfl, _⟩ := h
    rfl
  · obtain ⟨r, a, ns, p, x, v, rfl, hv, R, k⟩ := h
    obtain ⟨hb, ⟨dr, hR⟩, hS, hp⟩ := id R
    obtain ⟨t9, h9⟩ := T.t9
    have hr2 : Room 2 _ := hr.mono (by decide)
    refine ⟨_, pss_cons (ps_set (i := 2) scTo.nd rfl (Or.inl rfl) (pe_meth (pv 0) T.cl T.mTr G hr b .nil (passX rfl flies) (pa_cons (pe_glob (v := .int 9) rfl h9 ⟨t9, rfl⟩) pa_nil)))
      (pss_cons (ps_if (pt_cmpR op_eq (pv 2) (pv 1) (nomark _)) (pss_one (ps_raise T.xc GI hr2 rfl T.mgE bI rfl rfl flies (pa_cons (pe_op op_sub (pe_fld (pv 0) rfl) pe_int) pa_nil))) pss_nil)
      (pss_one (ps_ret (pv 2)))), ?_⟩
    refine ⟨_, rfl, r, dr, _, rfl, hR, rf_no a p (by decide +kernel) (by decide +kernel), r, a, ns, p, 8, rfl, R, ?_⟩
    rw [num_other] at k
    cases e : numAt 0 8 ANY p ((byt ns).drop p) with
    | error q => rw [e] at k; exact k
    | ok t =>
      obtain ⟨e1, e2, e3, e4, e5⟩ := num_ok e
      rw [e] at k
      intro H' R' o'
      obtain ⟨dr', hR'⟩ := R'.obj
      have ep : t.2.1 = p + 1 := by rw [e1]
      have sc : scal (V.int (t.1 : Nat)) v = true := by
        rcases hv with ⟨rfl, _⟩ | rfl <;> rfl
      refine ⟨_, rfl, _, rfl, sc, _, rfl, ?_⟩
      simp only at k
      by_cases hx : t.1 = x
      · rw [if_pos hx] at k
        have ev : V.int (t.1 : Nat) = v := by
          rcases hv with ⟨_, h8⟩ | rfl
          · omega
          · rw [hx]
        refine iteP (decide_eq_true ev) ?_
        refine ⟨_, rfl, r, CR, dr', _, _, rfl, hR', T.cl, T.nP, rf_place a _, _, _, rfl, rfl, (by show 1 ≤ 1000; decide), ?_⟩
        dsimp only
        rw [show ((t.2.1 : Nat) : Int) - 1 = (p : Int) by rw [ep]; omega]
        exact raise_wrong k H'
      · rw [if_neg hx] at k
        have ev : ¬ V.int (t.1 : Nat) = v := by
          rcases hv with ⟨rfl, _⟩ | rfl
          · intro z; cases z
          · intro z; injection z with z; exact hx (by omega)
        refine iteN (by rw [decide_eq_false ev]; exact Bool.false_ne_true) ?_
        exact ⟨_, rfl, k H' R' o'⟩
theorem scTe : FnScope ["self"] ["self"] (defScope sTe) := ⟨rfl, rfl, rfl, by decide +kernel, rfl, by decide +kernel, by decide +kernel⟩
theorem ok_end {fdE fd : FuncData} (F : Fun K "take_end" "ByteReader.take_end" sTe fTe fd) (T : TR K mg CE NE fE CR fR fTk fTr fTo fTe) (GI : FnOk P w K mg base (CXx P w) 1 fE fdE ["self", "place"] (spXI CE)) (bI : Binds K fdE ["self", "place"] []) :
    FnOk P w K mg base (CXx P w) 3 fTe fd ["self"] (spEnd K CE CR) := by
  refine F.okX scTe (fun vs H Q E h => ?_) (fun cdv A outer s H vs Q E hr h => ?_)
  · obtain ⟨r, a, ns, p, rfl, _⟩ := h
    rfl
  · obtain ⟨r, a, ns, p, rfl, R, k1, k2⟩ := h
    obtain ⟨hb, ⟨dr, hR⟩, hS, hp⟩ := id R
    refine ⟨_, pss_one (ps_if (pt_cmpR op_lt (pe_fld (pv 0) rfl) (pe_callB call_len_seq (by rfl) T.len PySem.boot_len (pa_cons (pe_fld (pv 0) rfl) pa_nil)) (nomark _)) (pss_one (ps_raise T.xc GI hr rfl T.mgE bI rfl rfl flies (pa_cons (pe_fld (pv 0) rfl) pa_nil))) pss_nil), ?_⟩
    refine ⟨_, rfl, r, CR, dr, _, _, rfl, hR, T.cl, T.nP, rf_place a p, _, rfl, r, CR, dr, _, _, rfl, hR, T.cl, T.nD, rf_data a p, a, _, rfl, .inl hS.l, _, _, rfl, rfl, _, rfl, ?_⟩
    rw [List.length_map]
    by_cases hpl : p < ns.length
    · refine iteP (decide_eq_true (by omega)) ?_
      exact ⟨_, rfl, r, CR, dr, _, _, rfl, hR, T.cl, T.nP, rf_place a p, (by show 1 ≤ 1000; decide), raise_wrong (k1 hpl) H⟩
    · refine iteN (by exact fun z => hpl (by have := of_decide_eq_true z; omega)) ?_
      exact k2 (by omega)
end
theorem rk1 {α β : Type} {C : Addr} {E : XK} {x : Except Nat (α × Nat × Bytes)} {F : α → Nat → Bytes → Except Nat (β × Nat × Bytes)} {Kg : β → Nat → Prop} {Kf : α → Nat → Prop} (k : Rk C E (bnd x F) Kg)
    (h : ∀ t, x = .ok t → Rk C E (F t.1 t.2.1 t.2.2) Kg → Kf t.1 t.2.1) : Rk C E x Kf := by
  cases x with
  | error e => exact k
  | ok t => exact h t rfl k
theorem rk_num {β : Type} {C : Addr} {E : XK} {lo hi y p : Nat} {ns : List Int} {F : Nat → Nat → Bytes → Except Nat (β × Nat × Bytes)} {Kg : β → Nat → Prop} {Kf : Nat → Nat → Prop} (k : Rk C E (bnd (numAt lo hi y p ((byt ns).drop p)) F) Kg)
    (h : ∀ n, lo ≤ n → n ≤ hi → n ≠ y → Rk C E (F n (p + 1) ((byt ns).drop (p + 1))) Kg → Kf n (p + 1)) : Rk C E (numAt lo hi y p ((byt ns).drop p)) Kf := by
  refine rk1 k fun t e q => ?_
  obtain ⟨e1, _, e2, e3, e4⟩ := num_ok e
  rw [e1] at q ⊢
  exact h _ e2 e3 e4 q
theorem rk_field {β : Type} {C : Addr} {E : XK} {p : Nat} {ns : List Int} {F : Field → Nat → Bytes → Except Nat (β × Nat × Bytes)} {Kg : β → Nat → Prop} {Kf : Field → Nat → Prop} (k : Rk C E (bnd (fieldAt p ((byt ns).drop p)) F) Kg)
    (h : ∀ f q, FieldOk f → Rk C E (F f q ((byt ns).drop q)) Kg → Kf f q) : Rk C E (fieldAt p ((byt ns).drop p)) Kf := by
  refine rk1 k fun t e q => ?_
  obtain ⟨e1, _, _, e3⟩ := field_ok e
  rw [e3] at q
  exact h _ _ e1 q
theorem rk_fill {β : Type} {C : Addr} {E : XK} {p : Nat} {ns : List Int} {below : Field} {F : Fill → Nat → Bytes → Except Nat (β × Nat × Bytes)} {Kg : β → Nat → Prop} {Kf : Fill → Nat → Prop} (k : Rk C E (bnd (fillAt below p ((byt ns).drop p)) F) Kg)
    (h : ∀ f q, FillOk below f → Rk C E (F f q ((byt ns).drop q)) Kg → Kf f q) : Rk C E (fillAt below p ((byt ns).drop p)) Kf := by
  refine rk1 k fun t e q => ?_
  obtain ⟨e1, _, _, e3⟩ := fill_ok e
  rw [e3] at q
  exact h _ _ e1 q
theorem free_of {r z : Addr} {H H1 : Hp} {u : HO} (o : Oth r H H1) (hr : H1 r = some u) (nz : H1 z = none) : H z = none := by
  cases q : H z with
  | none => rfl
  | some v =>
    have y := o z v (fun e => by rw [e, hr] at nz; cases nz) q
    rw [nz] at y; cases y
noncomputable abbrev vn (n : Nat) : V := .int (n : Int)
structure RC (K : PySem.W.Frag) (mg : Str → Option Value) (nm : Str) (C f : Addr) (as : List Str) : Prop where
  cl : Cls K C
  at_ : mg nm = some (.ref C)
  mkc : L2.Mk K C f
  no : ∀ a ∈ as, NoAttr K C a
noncomputable def ffv (k w n l a b : V) : List (Str × V) := putF "second" b (putF "first" a (putF "line" l (putF "pieces" n (putF "way" w (putF "kind" k [])))))
noncomputable def ff (k w n l a b : Nat) : List (Str × V) := ffv (vn k) (vn w) (vn n) (vn l) (vn a) (vn b)
noncomputable def fOf : Field → List (Str × V)
  | .plain t => ff 0 0 0 0 t t
  | .parted d l a b => ff 1 d 0 l a b
  | .varied v n l a b => ff 2 v n l a b
noncomputable def ofv (o l f : V) : List (Str × V) := putF "fill" f (putF "line" l (putF "ordinary" o []))
noncomputable def gfv (c n m s f : V) : List (Str × V) := putF "fill" f (putF "size" s (putF "manner" m (putF "how_many" n (putF "charge" c []))))
noncomputable def afv (f l : V) : List (Str × V) := putF "layers" l (putF "field" f [])
noncomputable def FieldAt (CF : Addr) (H : Hp) (z : Addr) (f : Field) : Prop := ∃ dz, H z = some (.ins CF dz (fOf f))
noncomputable def FillAt (CF : Addr) (H : Hp) (v : V) : Fill → Prop
  | .counter => v = .non
  | .solid f => ∃ y, v = .ref y ∧ FieldAt CF H y f
noncomputable def LayerAt (CF CO CG : Addr) (H : Hp) (z : Addr) : Layer → Prop
  | .ord o l f => ∃ dz v, H z = some (.ins CO dz (ofv (vn o) (vn l) v)) ∧ FillAt CF H v f
  | .group c n m s f => ∃ dz v, H z = some (.ins CG dz (gfv (vn c) (vn n) (vn m) (vn s) v)) ∧ FillAt CF H v f
noncomputable def LayersAt (CF CO CG : Addr) (H : Hp) (zs : List Addr) (ls : List Layer) : Prop := Paired (fun z l => LayerAt CF CO CG H z l) zs ls
noncomputable def ArmsAt (CF CO CG CA : Addr) (H : Hp) (z : Addr) (x : Arms) : Prop := ∃ dz zf zl zs, H z = some (.ins CA dz (afv (.ref zf) (.ref zl))) ∧ FieldAt CF H zf x.field ∧ H zl = some (.lst (zs.map V.ref)) ∧ LayersAt CF CO CG H zs x.layers
noncomputable def Kp (CR : Addr) (H H' : Hp) : Prop := ∀ b C d fs, C ≠ CR → H b = some (.ins C d fs) → H' b = some (.ins C d fs)
theorem Kp.of_oth {CR r dr : Addr} {fs : List (Str × V)} {H H' : Hp} (h : H r = some (.ins CR dr fs)) (o : Oth r H H') : Kp CR H H' := fun b C d gs hc e => o b _ (ne_of e h (by intro z; injection z with z; exact hc z)) e
theorem Kp.of_same {CR : Addr} {H H' : Hp} (s : Same H H') : Kp CR H H' := fun b C d gs _ e => s _ _ e
theorem Kp.lst {CR l : Addr} {xs ys : List V} {H : Hp} (h : H l = some (.lst xs)) : Kp CR H (upd H l (.lst ys)) := fun b C d gs _ e => by rw [upd_ne (ne_of e h (by intro z; cases z))]; exact e
theorem Kp.trans {CR : Addr} {H H1 H2 : Hp} (a : Kp CR H H1) (b : Kp CR H1 H2) : Kp CR H H2 := fun c C d gs hc e => b c C d gs hc (a c C d gs hc e)
theorem FieldAt.kp {CF CR z : Addr} {H H' : Hp} {f : Field} (x : FieldAt CF H z f) (n : CF ≠ CR) (k : Kp CR H H') : FieldAt CF H' z f := let ⟨d, e⟩ := x; ⟨d, k _ _ _ _ n e⟩
theorem FillAt.kp {CF CR : Addr} {v : V} {H H' : Hp} {f : Fill} (x : FillAt CF H v f) (n : CF ≠ CR) (k : Kp CR H H') : FillAt CF H' v f := by
  cases f with
  | counter => exact x
  | solid f => obtain ⟨y, e, q⟩ := x; exact ⟨y, e, q.kp n k⟩
theorem LayerAt.kp {CF CO CG CR z : Addr} {H H' : Hp} {l : Layer} (x : LayerAt CF CO CG H z l) (n : CF ≠ CR) (n2 : CO ≠ CR) (n3 : CG ≠ CR) (k : Kp CR H H') : LayerAt CF CO CG H' z l := by
  cases l with
  | ord o l f => obtain ⟨d, v, e, q⟩ := x; exact ⟨d, v, k _ _ _ _ n2 e, q.kp n k⟩
  | group c n' m s f => obtain ⟨d, v, e, q⟩ := x; exact ⟨d, v, k _ _ _ _ n3 e, q.kp n k⟩
theorem LayersAt.kp {CF CO CG CR : Addr} {H H' : Hp} {zs : List Addr} {ls : List Layer} (x : LayersAt CF CO CG H zs ls) (n : CF ≠ CR) (n2 : CO ≠ CR) (n3 : CG ≠ CR) (k : Kp CR H H') : LayersAt CF CO CG H' zs ls :=
  Paired.mapP x fun _ _ q => q.kp n n2 n3 k
theorem paired_snoc {α β : Type} {G : α → β → Prop} {a : α} {b : β} (g : G a b) : ∀ {l : List α} {m : List β}, Paired G l m → Paired G (l ++ [a]) (m ++ [b])
  | _, _, .nil => .cons g .nil
  | _, _, .cons r t => .cons r (paired_snoc g t)
theorem paired_len {α β : Type} {G : α → β → Prop} : ∀ {l : List α} {m : List β}, Paired G l m → l.length = m.length
  | _, _, .nil => rfl
  | _, _, .cons _ t => congrArg (· + 1) (paired_len t)
theorem f_kind (f : Field) : (fOf f).lookup ("kind" : Str) = some (.int (match f with | .plain _ => 0 | .parted .. => 1 | .varied .. => 2)) := by
  cases f <;> kernel_rfl
noncomputable def spFI (C : Addr) : Sp := fun vs H Q _ => ∃ (z dz : Addr) (k w n l a b : V), vs = [.ref z, k, w, n, l, a, b] ∧ H z = some (.ins C dz []) ∧ ∀ H', H' z = some (.ins C dz (ffv k w n l a b)) → Oth z H H' → Q .non H'
noncomputable def spOI (C : Addr) : Sp := fun vs H Q _ => ∃ (z dz : Addr) (o l f : V), vs = [.ref z, o, l, f] ∧ H z = some (.ins C dz []) ∧ ∀ H', H' z = some (.ins C dz (ofv o l f)) → Oth z H H' → Q .non H'
noncomputable def spGI (C : Addr) : Sp := fun vs H Q _ => ∃ (z dz : Addr) (c n m s f : V), vs = [.ref z, c, n, m, s, f] ∧ H z = some (.ins C dz []) ∧ ∀ H', H' z = some (.ins C dz (gfv c n m s f)) → Oth z H H' → Q .non H'
noncomputable def spAI (C : Addr) : Sp := fun vs H Q _ => ∃ (z dz : Addr) (f l : V), vs = [.ref z, f, l] ∧ H z = some (.ins C dz []) ∧ ∀ H', H' z = some (.ins C dz (afv f l)) → Oth z H H' → Q .non H'
noncomputable def spFd (K : PySem.W.Frag) (CE CR CF : Addr) (g : Nat → Bytes → Except Nat (Field × Nat × Bytes)) : Sp := fun vs H Q E => ∃ (r a : Addr) (ns : List Int) (p : Nat), vs = [.ref r] ∧ RdAt K CR H r a ns p ∧
  Rk CE E (g p ((byt ns).drop p)) fun f q => ∀ H' z, RdAt K CR H' r a ns q → Oth r H H' → H z = none → FieldAt CF H' z f → Q (.ref z) H'
noncomputable def spFl (K : PySem.W.Frag) (CE CR CF : Addr) : Sp := fun vs H Q E => ∃ (r a zf : Addr) (ns : List Int) (p : Nat) (below : Field), vs = [.ref r, .ref zf] ∧ RdAt K CR H r a ns p ∧ FieldAt CF H zf below ∧
  Rk CE E (fillAt below p ((byt ns).drop p)) fun f q => ∀ H' v, RdAt K CR H' r a ns q → Oth r H H' → FillAt CF H' v f → Q v H'
noncomputable def spLy (K : PySem.W.Frag) (CE CR CF CO CG : Addr) (g : Field → Nat → Bytes → Except Nat (Layer × Nat × Bytes)) : Sp := fun vs H Q E => ∃ (r a zf : Addr) (ns : List Int) (p : Nat) (below : Field), vs = [.ref r, .ref zf] ∧ RdAt K CR H r a ns p ∧ FieldAt CF H zf below ∧
  Rk CE E (g below p ((byt ns).drop p)) fun l q => ∀ H' z, RdAt K CR H' r a ns q → Oth r H H' → H z = none → LayerAt CF CO CG H' z l → Q (.ref z) H'
noncomputable def spRA (K : PySem.W.Frag) (CE CR CF CO CG CA : Addr) : Sp := fun vs H Q E => ∃ (a : Addr) (ns : List Int), vs = [.ref a] ∧ Byts ns ∧ SqF K H a (ns.map V.int) ∧
  match readArms (byt ns) with
  | .error e => Wrong CE E e
  | .ok x => ∀ H' z, Same H H' → H z = none → ArmsAt CF CO CG CA H' z x → Q (.ref z) H'
noncomputable def spLV : Sp := fun vs H Q _ => ∃ v : Nat, vs = [vn v] ∧ Q (vn ((if 5 ≤ v then 0 else 5) + 1)) H ∧ v ≤ 6
structure TA1 (K : PySem.W.Frag) (mg : Str → Option Value) (CR CF CO CG CA fF fO fG fA fRP fRT fLV fRV fRF fFL fOL fGL fRL fRA : Addr) : Prop where
  F : RC K mg "Field" CF fF ["kind", "way", "pieces", "line", "first", "second"]
  O : RC K mg "OrdinaryLayer" CO fO ["ordinary", "line", "fill"]
  G : RC K mg "GroupLayer" CG fG ["charge", "how_many", "manner", "size", "fill"]
  A : RC K mg "Arms" CA fA ["field", "layers"]
  nF : CF ≠ CR
  nO : CO ≠ CR
  nG : CG ≠ CR
  nA : CA ≠ CR
  rng : mg "range" = none
  i : ∀ nm z, (nm, z) ∈ ([("PLAIN", 0), ("PARTED", 1), ("VARIED", 2), ("LINE_ROWS", 6), ("PARTED_ROWS", 8), ("VARIED_ROWS", 7), ("ORDINARY_ROWS", 13), ("CHARGE_ROWS", 16), ("MANNER_ROWS", 7), ("CHEQUY", 5), ("LOZENGY", 6),
    ("LEAST_PIECES", 2), ("MOST_PIECES", 24), ("MOST_CHARGES", 10), ("MOST_SIZE", 4), ("MOST_LAYERS", 8), ("ORDINARY_LAYER", 0), ("GROUP_LAYER", 1), ("FIELD_FILL", 0), ("COUNTERCHANGED_FILL", 1)] : List (Str × Int)) → ∃ t, mg nm = some (.int z t)
  mRP : mg "read_plain" = some (.ref fRP)
  mRT : mg "read_parted" = some (.ref fRT)
  mLV : mg "lines_of_varied" = some (.ref fLV)
  mRV : mg "read_varied" = some (.ref fRV)
  mRF : mg "read_field" = some (.ref fRF)
  mFL : mg "read_fill" = some (.ref fFL)
  mOL : mg "read_ordinary_layer" = some (.ref fOL)
  mGL : mg "read_group_layer" = some (.ref fGL)
  mRL : mg "read_layer" = some (.ref fRL)
  mRA : mg "read_arms" = some (.ref fRA)
section
variable {P : Program} {w : World} {K : PySem.W.Frag} {mg : Str → Option Value} {base : Heap} {CE NE fE CR fR fTk fTr fTo fTe CF CO CG CA fF fO fG fA fRP fRT fLV fRV fRF fFL fOL fGL fRL fRA : Addr}
theorem scFI : FnScope ["self", "kind", "way", "pieces", "line", "first", "second"] ["self", "kind", "way", "pieces", "line", "first", "second"] (defScope sFI) := ⟨rfl, rfl, rfl, by decide +kernel, rfl, by decide +kernel, by decide +kernel⟩
theorem ok_fi {fd : FuncData} (F : Fun K "__init__" "Field.__init__" sFI fF fd) (T : RC K mg "Field" CF fF ["kind", "way", "pieces", "line", "first", "second"]) : FnOk P w K mg base (CXx P w) 1 fF fd ["self", "kind", "way", "pieces", "line", "first", "second"] (spFI CF) := by
  refine F.okX scFI (fun vs H Q E h => ?_) (fun cdv A outer s H vs Q E hr h => ?_)
  · obtain ⟨z, dz, k, w, n, l, a, b, rfl, _⟩ := h
    rfl
  · obtain ⟨z, dz, k, w, n, l, a, b, rfl, hz, q⟩ := h
    refine ⟨_, pss_cons (ps_fld (pv 0) (pv 1) rfl) (pss_cons (ps_fld (pv 0) (pv 2) rfl) (pss_cons (ps_fld (pv 0) (pv 3) rfl) (pss_cons (ps_fld (pv 0) (pv 4) rfl) (pss_cons (ps_fld (pv 0) (pv 5) rfl) (pss_one (ps_fld (pv 0) (pv 6) rfl)))))), ?_⟩
    refine ⟨_, rfl, _, rfl, z, CF, dz, [], rfl, hz, T.cl, T.no _ (by decide +kernel), (by show 0 < 1000; decide), ?_⟩
    refine ⟨_, rfl, _, rfl, z, CF, dz, _, rfl, upd_same, T.cl, T.no _ (by decide +kernel), (by show 1 < 1000; decide), ?_⟩
    refine ⟨_, rfl, _, rfl, z, CF, dz, _, rfl, upd_same, T.cl, T.no _ (by decide +kernel), (by show 2 < 1000; decide), ?_⟩
    refine ⟨_, rfl, _, rfl, z, CF, dz, _, rfl, upd_same, T.cl, T.no _ (by decide +kernel), (by show 3 < 1000; decide), ?_⟩
    refine ⟨_, rfl, _, rfl, z, CF, dz, _, rfl, upd_same, T.cl, T.no _ (by decide +kernel), (by show 4 < 1000; decide), ?_⟩
    refine ⟨_, rfl, _, rfl, z, CF, dz, _, rfl, upd_same, T.cl, T.no _ (by decide +kernel), (by show 5 < 1000; decide), ?_⟩
    exact q _ upd_same fun b o n e => by simp only [upd_ne n]; exact e
theorem scOI : FnScope ["self", "ordinary", "line", "fill"] ["self", "ordinary", "line", "fill"] (defScope sOI) := ⟨rfl, rfl, rfl, by decide +kernel, rfl, by decide +kernel, by decide +kernel⟩
theorem ok_oi {fd : FuncData} (F : Fun K "__init__" "OrdinaryLayer.__init__" sOI fO fd) (T : RC K mg "OrdinaryLayer" CO fO ["ordinary", "line", "fill"]) : FnOk P w K mg base (CXx P w) 1 fO fd ["self", "ordinary", "line", "fill"] (spOI CO) := by
  refine F.okX scOI (fun vs H Q E h => ?_) (fun cdv A outer s H vs Q E hr h => ?_)
  · obtain ⟨z, dz, o, l, f, rfl, _⟩ := h
    rfl
  · obtain ⟨z, dz, o, l, f, rfl, hz, q⟩ := h
    refine ⟨_, pss_cons (ps_fld (pv 0) (pv 1) rfl) (pss_cons (ps_fld (pv 0) (pv 2) rfl) (pss_one (ps_fld (pv 0) (pv 3) rfl))), ?_⟩
    refine ⟨_, rfl, _, rfl, z, CO, dz, [], rfl, hz, T.cl, T.no _ (by decide +kernel), (by show 0 < 1000; decide), ?_⟩
    refine ⟨_, rfl, _, rfl, z, CO, dz, _, rfl, upd_same, T.cl, T.no _ (by decide +kernel), (by show 1 < 1000; decide), ?_⟩
    refine ⟨_, rfl, _, rfl, z, CO, dz, _, rfl, upd_same, T.cl, T.no _ (by decide +kernel), (by show 2 < 1000; decide), ?_⟩
    exact q _ upd_same fun b o n e => by simp only [upd_ne n]; exact e
theorem scGI : FnScope ["self", "charge", "how_many", "manner", "size", "fill"] ["self", "charge", "how_many", "manner", "size", "fill"] (defScope sGI) := ⟨rfl, rfl, rfl, by decide +kernel, rfl, by decide +kernel, by decide +kernel⟩
theorem ok_gi {fd : FuncData} (F : Fun K "__init__" "GroupLayer.__init__" sGI fG fd) (T : RC K mg "GroupLayer" CG fG ["charge", "how_many", "manner", "size", "fill"]) : FnOk P w K mg base (CXx P w) 1 fG fd ["self", "charge", "how_many", "manner", "size", "fill"] (spGI CG) := by
  refine F.okX scGI (fun vs H Q E h => ?_) (fun cdv A outer s H vs Q E hr h => ?_)
  · obtain ⟨z, dz, c, n, m, s, f, rfl, _⟩ := h
    rfl
  · obtain ⟨z, dz, c, n, m, s', f, rfl, hz, q⟩ := h
    refine ⟨_, pss_cons (ps_fld (pv 0) (pv 1) rfl) (pss_cons (ps_fld (pv 0) (pv 2) rfl) (pss_cons (ps_fld (pv 0) (pv 3) rfl) (pss_cons (ps_fld (pv 0) (pv 4) rfl) (pss_one (ps_fld (pv 0) (pv 5) rfl))))), ?_⟩
    refine ⟨_, rfl, _, rfl, z, CG, dz, [], rfl, hz, T.cl, T.no _ (by decide +kernel), (by show 0 < 1000; decide), ?_⟩
    refine ⟨_, rfl, _, rfl, z, CG, dz, _, rfl, upd_same, T.cl, T.no _ (by decide +kernel), (by show 1 < 1000; decide), ?_⟩
    refine ⟨_, rfl, _, rfl, z, CG, dz, _, rfl, upd_same, T.cl, T.no _ (by decide +kernel), (by show 2 < 1000; decide), ?_⟩
    refine ⟨_, rfl, _, rfl, z, CG, dz, _, rfl, upd_same, T.cl, T.no _ (by decide +kernel), (by show 3 < 1000; decide), ?_⟩
    refine ⟨_, rfl, _, rfl, z, CG, dz, _, rfl, upd_same, T.cl, T.no _ (by decide +kernel), (by show 4 < 1000; decide), ?_⟩
    exact q _ upd_same fun b o n e => by simp only [upd_ne n]; exact e
theorem scAI : FnScope ["self", "field", "layers"] ["self", "field", "layers"] (defScope sAI) := ⟨rfl, rfl, rfl, by decide +kernel, rfl, by decide +kernel, by decide +kernel⟩
theorem ok_ai {fd : FuncData} (F : Fun K "__init__" "Arms.__init__" sAI fA fd) (T : RC K mg "Arms" CA fA ["field", "layers"]) : FnOk P w K mg base (CXx P w) 1 fA fd ["self", "field", "layers"] (spAI CA) := by
  refine F.okX scAI (fun vs H Q E h => ?_) (fun cdv A outer s H vs Q E hr h => ?_)
  · obtain ⟨z, dz, f, l, rfl, _⟩ := h
    rfl
  · obtain ⟨z, dz, f, l, rfl, hz, q⟩ := h
    refine ⟨_, pss_cons (ps_fld (pv 0) (pv 1) rfl) (pss_one (ps_fld (pv 0) (pv 2) rfl)), ?_⟩
    refine ⟨_, rfl, _, rfl, z, CA, dz, [], rfl, hz, T.cl, T.no _ (by decide +kernel), (by show 0 < 1000; decide), ?_⟩
    refine ⟨_, rfl, _, rfl, z, CA, dz, _, rfl, upd_same, T.cl, T.no _ (by decide +kernel), (by show 1 < 1000; decide), ?_⟩
    exact q _ upd_same fun b o n e => by simp only [upd_ne n]; exact e
theorem scRP : FnScope ["reader", "tincture"] ["reader"] (defScope sRP) := ⟨rfl, rfl, rfl, by decide +kernel, rfl, by decide +kernel, by decide +kernel⟩
theorem ok_rp {fdW fdF fd : FuncData} (F : Fun K "read_plain" "read_plain" sRP fRP fd) (T : TR K mg CE NE fE CR fR fTk fTr fTo fTe) (U : TA1 K mg CR CF CO CG CA fF fO fG fA fRP fRT fLV fRV fRF fFL fOL fGL fRL fRA)
    (GW : FnOk P w K mg base (CXx P w) 4 fTr fdW ["self", "rows"] (spRow K CE CR)) (bW : Binds K fdW ["self", "rows"] []) (GF : FnOk P w K mg base (CXx P w) 1 fF fdF ["self", "kind", "way", "pieces", "line", "first", "second"] (spFI CF)) (bF : Binds K fdF ["self", "kind", "way", "pieces", "line", "first", "second"] []) :
    FnOk P w K mg base (CXx P w) 5 fRP fd ["reader"] (spFd K CE CR CF plainB) := by
  refine F.okX scRP (fun vs H Q E h => ?_) (fun cdv A outer s H vs Q E hr h => ?_)
  · obtain ⟨r, a, ns, p, rfl, _⟩ := h
    rfl
  · obtain ⟨r, a, ns, p, rfl, R, k⟩ := h
    obtain ⟨dr, hR⟩ := R.obj
    obtain ⟨t9, h9⟩ := T.t9
    obtain ⟨t0, h0⟩ := U.i "PLAIN" 0 (by decide +kernel)
    have hr2 : Room 2 _ := hr.mono (by decide)
    refine ⟨_, pss_cons (ps_set (i := 1) scRP.nd rfl (Or.inl rfl) (pe_meth (pv 0) T.cl T.mTr GW hr bW .nil (passX rfl flies) (pa_cons (pe_glob (v := .int 9) rfl h9 ⟨t9, rfl⟩) pa_nil)))
      (pss_one (ps_ret (pe_make U.F.mkc GF hr2 rfl U.F.at_ bF .nil passN (pa_cons (pe_glob (v := .int 0) rfl h0 ⟨t0, rfl⟩) (pa_cons pe_int (pa_cons pe_int (pa_cons pe_int (pa_cons (pv 1) (pa_cons (pv 1) pa_nil))))))))), ?_⟩
    refine ⟨_, rfl, r, dr, _, rfl, hR, rf_no a p (by decide +kernel) (by decide +kernel), r, a, ns, p, 8, rfl, R, rk_num k fun n _ _ _ k => fun H1 R1 o1 => ?_⟩
    obtain ⟨dr1, hR1⟩ := R1.obj
    refine ⟨_, rfl, _, rfl, fun z dz nz nd ne => ⟨z, dz, _, _, _, _, _, _, rfl, upd_same, fun H2 hz o2 => ⟨rfl, ?_⟩⟩⟩
    have s2 : Same H1 H2 := Same.made nz nd fun b o e hb => o2 b o hb e
    exact k H2 z (R1.same s2) (fun b o n e => s2 _ _ (o1 b o n e)) (free_of o1 hR1 nz) ⟨dz, hz⟩
end
section
variable {P : Program} {w : World} {K : PySem.W.Frag} {mg : Str → Option Value} {base : Heap} {CE NE fE CR fR fTk fTr fTo fTe CF CO CG CA fF fO fG fA fRP fRT fLV fRV fRF fFL fOL fGL fRL fRA : Addr}
theorem scRT : FnScope ["reader", "way", "line", "first", "second"] ["reader"] (defScope sRT) := ⟨rfl, rfl, rfl, by decide +kernel, rfl, by decide +kernel, by decide +kernel⟩
theorem ok_rt {fdW fdO fdF fd : FuncData} (F : Fun K "read_parted" "read_parted" sRT fRT fd) (T : TR K mg CE NE fE CR fR fTk fTr fTo fTe) (U : TA1 K mg CR CF CO CG CA fF fO fG fA fRP fRT fLV fRV fRF fFL fOL fGL fRL fRA)
    (GW : FnOk P w K mg base (CXx P w) 4 fTr fdW ["self", "rows"] (spRow K CE CR)) (bW : Binds K fdW ["self", "rows"] []) (GO : FnOk P w K mg base (CXx P w) 5 fTo fdO ["self", "first"] (spOther K CE CR)) (bO : Binds K fdO ["self", "first"] [])
    (GF : FnOk P w K mg base (CXx P w) 1 fF fdF ["self", "kind", "way", "pieces", "line", "first", "second"] (spFI CF)) (bF : Binds K fdF ["self", "kind", "way", "pieces", "line", "first", "second"] []) :
    FnOk P w K mg base (CXx P w) 6 fRT fd ["reader"] (spFd K CE CR CF partedB) := by
  refine F.okX scRT (fun vs H Q E h => ?_) (fun cdv A outer s H vs Q E hr h => ?_)
  · obtain ⟨r, a, ns, p, rfl, _⟩ := h
    rfl
  · obtain ⟨r, a, ns, p, rfl, R, k⟩ := h
    obtain ⟨dr, hR⟩ := R.obj
    obtain ⟨t9, h9⟩ := T.t9
    obtain ⟨t1, h1⟩ := U.i "PARTED" 1 (by decide +kernel)
    obtain ⟨t8, h8⟩ := U.i "PARTED_ROWS" 8 (by decide +kernel)
    obtain ⟨t6, h6⟩ := U.i "LINE_ROWS" 6 (by decide +kernel)
    have hr2 : Room 2 _ := hr.mono (by decide)
    have hr4 : Room 4 _ := hr.mono (by decide)
    refine ⟨_, pss_cons (ps_set (i := 1) scRT.nd rfl (Or.inl rfl) (pe_meth (pv 0) T.cl T.mTr GW hr4 bW .nil (passX rfl flies) (pa_cons (pe_glob (v := .int 8) rfl h8 ⟨t8, rfl⟩) pa_nil)))
      (pss_cons (ps_set (i := 2) scRT.nd rfl (Or.inl rfl) (pe_meth (pv 0) T.cl T.mTr GW hr4 bW .nil (passX rfl flies) (pa_cons (pe_glob (v := .int 6) rfl h6 ⟨t6, rfl⟩) pa_nil)))
      (pss_cons (ps_set (i := 3) scRT.nd rfl (Or.inl rfl) (pe_meth (pv 0) T.cl T.mTr GW hr4 bW .nil (passX rfl flies) (pa_cons (pe_glob (v := .int 9) rfl h9 ⟨t9, rfl⟩) pa_nil)))
      (pss_cons (ps_set (i := 4) scRT.nd rfl (Or.inl rfl) (pe_meth (pv 0) T.cl T.mTo GO hr bO .nil (passX rfl flies) (pa_cons (pv 3) pa_nil)))
      (pss_one (ps_ret (pe_make U.F.mkc GF hr2 rfl U.F.at_ bF .nil passN (pa_cons (pe_glob (v := .int 1) rfl h1 ⟨t1, rfl⟩) (pa_cons (pv 1) (pa_cons pe_int (pa_cons (pv 2) (pa_cons (pv 3) (pa_cons (pv 4) pa_nil)))))))))))), ?_⟩
    refine ⟨_, rfl, r, dr, _, rfl, hR, rf_no a p (by decide +kernel) (by decide +kernel), r, a, ns, p, 7, rfl, R, rk_num k fun n1 _ _ _ k => fun H1 R1 o1 => ?_⟩
    obtain ⟨dr1, hR1⟩ := R1.obj
    refine ⟨_, rfl, r, dr1, _, rfl, hR1, rf_no a _ (by decide +kernel) (by decide +kernel), r, a, ns, _, 5, rfl, R1, rk_num k fun n2 _ _ _ k => fun H2 R2 o2 => ?_⟩
    obtain ⟨dr2, hR2⟩ := R2.obj
    refine ⟨_, rfl, r, dr2, _, rfl, hR2, rf_no a _ (by decide +kernel) (by decide +kernel), r, a, ns, _, 8, rfl, R2, rk_num k fun n3 _ _ _ k => fun H3 R3 o3 => ?_⟩
    obtain ⟨dr3, hR3⟩ := R3.obj
    refine ⟨_, rfl, r, dr3, _, rfl, hR3, rf_no a _ (by decide +kernel) (by decide +kernel), _, rfl, r, a, ns, _, n3, _, rfl, .inr rfl, R3, rk_num k fun n4 _ _ _ k => fun H4 R4 o4 => ?_⟩
    obtain ⟨dr4, hR4⟩ := R4.obj
    refine ⟨_, rfl, _, rfl, _, rfl, _, rfl, fun z dz nz nd ne => ⟨z, dz, _, _, _, _, _, _, rfl, upd_same, fun H5 hz o5 => ⟨rfl, ?_⟩⟩⟩
    have s5 : Same H4 H5 := Same.made nz nd fun b o e hb => o5 b o hb e
    have oo : Oth r H H4 := ((o1.trans o2).trans o3).trans o4
    exact k H5 z (R4.same s5) (fun b o n e => s5 _ _ (oo b o n e)) (free_of oo hR4 nz) ⟨dz, hz⟩
theorem scLV : FnScope ["way"] ["way"] (defScope sLV) := ⟨rfl, rfl, rfl, by decide +kernel, rfl, by decide +kernel, by decide +kernel⟩
theorem ok_lv {fd : FuncData} (F : Fun K "lines_of_varied" "lines_of_varied" sLV fLV fd) (U : TA1 K mg CR CF CO CG CA fF fO fG fA fRP fRT fLV fRV fRF fFL fOL fGL fRL fRA) : FnOk P w K mg base (CXx P w) 1 fLV fd ["way"] spLV := by
  refine F.okX scLV (fun vs H Q E h => ?_) (fun cdv A outer s H vs Q E hr h => ?_)
  · obtain ⟨v, rfl, _⟩ := h
    rfl
  · obtain ⟨v, rfl, k, hv⟩ := h
    obtain ⟨t5, h5⟩ := U.i "CHEQUY" 5 (by decide +kernel)
    obtain ⟨t6, h6⟩ := U.i "LOZENGY" 6 (by decide +kernel)
    obtain ⟨tl, hl⟩ := U.i "LINE_ROWS" 6 (by decide +kernel)
    refine ⟨_, pss_cons (ps_if (PW.pt (pw_or (pt_cmpR op_eq (pv 0) (pe_glob (v := .int 5) rfl h5 ⟨t5, rfl⟩) (nomark _)) (pw_or1 (pt_cmpR op_eq (pv 0) (pe_glob (v := .int 6) rfl h6 ⟨t6, rfl⟩) (nomark _))))) (pss_one (ps_ret pe_int)) pss_nil)
      (pss_one (ps_ret (pe_glob (v := .int 6) rfl hl ⟨tl, rfl⟩))), ?_⟩
    refine ⟨_, rfl, rfl, _, rfl, ?_⟩
    by_cases q5 : v = 5
    · subst q5
      refine iteP (decide_eq_true (by rfl)) (iteP rfl ?_)
      exact k
    · refine iteN (by intro z; have := of_decide_eq_true z; injection this with e; omega) ?_
      refine ⟨_, rfl, rfl, _, rfl, ?_⟩
      by_cases q6 : v = 6
      · subst q6
        refine iteP (decide_eq_true (by rfl)) ?_
        exact k
      · refine iteN (by intro z; have := of_decide_eq_true z; injection this with e; omega) ?_
        rw [if_neg (by omega)] at k
        exact k
theorem scRV : FnScope ["reader", "way", "pieces", "line", "first", "second"] ["reader"] (defScope sRV) := ⟨rfl, rfl, rfl, by decide +kernel, rfl, by decide +kernel, by decide +kernel⟩
theorem ok_rv {fdK fdW fdO fdF fdL fd : FuncData} (F : Fun K "read_varied" "read_varied" sRV fRV fd) (T : TR K mg CE NE fE CR fR fTk fTr fTo fTe) (U : TA1 K mg CR CF CO CG CA fF fO fG fA fRP fRT fLV fRV fRF fFL fOL fGL fRL fRA)
    (GK : FnOk P w K mg base (CXx P w) 3 fTk fdK ["self", "least", "most"] (spTake K CE CR)) (bK : Binds K fdK ["self", "least", "most"] [])
    (GW : FnOk P w K mg base (CXx P w) 4 fTr fdW ["self", "rows"] (spRow K CE CR)) (bW : Binds K fdW ["self", "rows"] []) (GO : FnOk P w K mg base (CXx P w) 5 fTo fdO ["self", "first"] (spOther K CE CR)) (bO : Binds K fdO ["self", "first"] [])
    (GF : FnOk P w K mg base (CXx P w) 1 fF fdF ["self", "kind", "way", "pieces", "line", "first", "second"] (spFI CF)) (bF : Binds K fdF ["self", "kind", "way", "pieces", "line", "first", "second"] [])
    (GL : FnOk P w K mg base (CXx P w) 1 fLV fdL ["way"] spLV) (bL : Binds K fdL ["way"] []) (kL : PySem.W.keepIn K (.ref fLV) = true) :
    FnOk P w K mg base (CXx P w) 6 fRV fd ["reader"] (spFd K CE CR CF variedB) := by
  refine F.okX scRV (fun vs H Q E h => ?_) (fun cdv A outer s H vs Q E hr h => ?_)
  · obtain ⟨r, a, ns, p, rfl, _⟩ := h
    rfl
  · obtain ⟨r, a, ns, p, rfl, R, k⟩ := h
    obtain ⟨dr, hR⟩ := R.obj
    obtain ⟨t9, h9⟩ := T.t9
    obtain ⟨t2, h2⟩ := U.i "VARIED" 2 (by decide +kernel)
    obtain ⟨t7, h7⟩ := U.i "VARIED_ROWS" 7 (by decide +kernel)
    obtain ⟨tl, hl⟩ := U.i "LEAST_PIECES" 2 (by decide +kernel)
    obtain ⟨tm, hm⟩ := U.i "MOST_PIECES" 24 (by decide +kernel)
    have hr1 : Room 1 _ := hr.mono (by decide)
    have hr2 : Room 2 _ := hr.mono (by decide)
    have hr3 : Room 3 _ := hr.mono (by decide)
    have hr4 : Room 4 _ := hr.mono (by decide)
    refine ⟨_, pss_cons (ps_set (i := 1) scRV.nd rfl (Or.inl rfl) (pe_meth (pv 0) T.cl T.mTr GW hr4 bW .nil (passX rfl flies) (pa_cons (pe_glob (v := .int 7) rfl h7 ⟨t7, rfl⟩) pa_nil)))
      (pss_cons (ps_set (i := 2) scRV.nd rfl (Or.inl rfl) (pe_meth (pv 0) T.cl T.mTk GK hr3 bK .nil (passX rfl flies) (pa_cons (pe_glob (v := .int 2) rfl hl ⟨tl, rfl⟩) (pa_cons (pe_glob (v := .int 24) rfl hm ⟨tm, rfl⟩) pa_nil))))
      (pss_cons (ps_set (i := 3) scRV.nd rfl (Or.inl rfl) (pe_meth (pv 0) T.cl T.mTr GW hr4 bW .nil (passX rfl flies) (pa_cons (pe_call GL hr1 rfl U.mLV kL bL .nil passN (pa_cons (pv 1) pa_nil)) pa_nil)))
      (pss_cons (ps_set (i := 4) scRV.nd rfl (Or.inl rfl) (pe_meth (pv 0) T.cl T.mTr GW hr4 bW .nil (passX rfl flies) (pa_cons (pe_glob (v := .int 9) rfl h9 ⟨t9, rfl⟩) pa_nil)))
      (pss_cons (ps_set (i := 5) scRV.nd rfl (Or.inl rfl) (pe_meth (pv 0) T.cl T.mTo GO hr bO .nil (passX rfl flies) (pa_cons (pv 4) pa_nil)))
      (pss_one (ps_ret (pe_make U.F.mkc GF hr2 rfl U.F.at_ bF .nil passN (pa_cons (pe_glob (v := .int 2) rfl h2 ⟨t2, rfl⟩) (pa_cons (pv 1) (pa_cons (pv 2) (pa_cons (pv 3) (pa_cons (pv 4) (pa_cons (pv 5) pa_nil))))))))))))), ?_⟩
    refine ⟨_, rfl, r, dr, _, rfl, hR, rf_no a p (by decide +kernel) (by decide +kernel), r, a, ns, p, 6, rfl, R, rk_num k fun n1 _ b1 _ k => fun H1 R1 o1 => ?_⟩
    obtain ⟨dr1, hR1⟩ := R1.obj
    refine ⟨_, rfl, r, dr1, _, rfl, hR1, rf_no a _ (by decide +kernel) (by decide +kernel), r, a, ns, _, 2, 24, rfl, R1, rk_num k fun n2 _ _ _ k => fun H2 R2 o2 => ?_⟩
    obtain ⟨dr2, hR2⟩ := R2.obj
    refine ⟨_, rfl, r, dr2, _, rfl, hR2, rf_no a _ (by decide +kernel) (by decide +kernel), _, rfl, n1, rfl, ⟨r, a, ns, _, (if 5 ≤ n1 then 0 else 5), rfl, R2, rk_num k fun n3 _ _ _ k => fun H3 R3 o3 => ?_⟩, b1⟩
    obtain ⟨dr3, hR3⟩ := R3.obj
    refine ⟨_, rfl, r, dr3, _, rfl, hR3, rf_no a _ (by decide +kernel) (by decide +kernel), r, a, ns, _, 8, rfl, R3, rk_num k fun n4 _ _ _ k => fun H4 R4 o4 => ?_⟩
    obtain ⟨dr4, hR4⟩ := R4.obj
    refine ⟨_, rfl, r, dr4, _, rfl, hR4, rf_no a _ (by decide +kernel) (by decide +kernel), _, rfl, r, a, ns, _, n4, _, rfl, .inr rfl, R4, rk_num k fun n5 _ _ _ k => fun H5 R5 o5 => ?_⟩
    obtain ⟨dr5, hR5⟩ := R5.obj
    refine ⟨_, rfl, _, rfl, _, rfl, _, rfl, _, rfl, fun z dz nz nd ne => ⟨z, dz, _, _, _, _, _, _, rfl, upd_same, fun H6 hz o6 => ⟨rfl, ?_⟩⟩⟩
    have s6 : Same H5 H6 := Same.made nz nd fun b o e hb => o6 b o hb e
    have oo : Oth r H H5 := (((o1.trans o2).trans o3).trans o4).trans o5
    exact k H6 z (R5.same s6) (fun b o n e => s6 _ _ (oo b o n e)) (free_of oo hR5 nz) ⟨dz, hz⟩
theorem scRF : FnScope ["reader", "kind"] ["reader"] (defScope sRF) := ⟨rfl, rfl, rfl, by decide +kernel, rfl, by decide +kernel, by decide +kernel⟩
theorem ok_rf {fdK fd1 fd2 fd3 fd : FuncData} (F : Fun K "read_field" "read_field" sRF fRF fd) (T : TR K mg CE NE fE CR fR fTk fTr fTo fTe) (U : TA1 K mg CR CF CO CG CA fF fO fG fA fRP fRT fLV fRV fRF fFL fOL fGL fRL fRA)
    (GK : FnOk P w K mg base (CXx P w) 3 fTk fdK ["self", "least", "most"] (spTake K CE CR)) (bK : Binds K fdK ["self", "least", "most"] [])
    (G1 : FnOk P w K mg base (CXx P w) 5 fRP fd1 ["reader"] (spFd K CE CR CF plainB)) (b1 : Binds K fd1 ["reader"] []) (k1 : PySem.W.keepIn K (.ref fRP) = true)
    (G2 : FnOk P w K mg base (CXx P w) 6 fRT fd2 ["reader"] (spFd K CE CR CF partedB)) (b2 : Binds K fd2 ["reader"] []) (k2 : PySem.W.keepIn K (.ref fRT) = true)
    (G3 : FnOk P w K mg base (CXx P w) 6 fRV fd3 ["reader"] (spFd K CE CR CF variedB)) (b3 : Binds K fd3 ["reader"] []) (k3 : PySem.W.keepIn K (.ref fRV) = true) :
    FnOk P w K mg base (CXx P w) 7 fRF fd ["reader"] (spFd K CE CR CF fieldAt) := by
  refine F.okX scRF (fun vs H Q E h => ?_) (fun cdv A outer s H vs Q E hr h => ?_)
  · obtain ⟨r, a, ns, p, rfl, _⟩ := h
    rfl
  · obtain ⟨r, a, ns, p, rfl, R, k⟩ := h
    obtain ⟨dr, hR⟩ := R.obj
    obtain ⟨t0, h0⟩ := U.i "PLAIN" 0 (by decide +kernel)
    obtain ⟨t1, h1⟩ := U.i "PARTED" 1 (by decide +kernel)
    obtain ⟨t2, h2⟩ := U.i "VARIED" 2 (by decide +kernel)
    have hr3 : Room 3 _ := hr.mono (by decide)
    have hr5 : Room 5 _ := hr.mono (by decide)
    refine ⟨_, pss_cons (ps_set (i := 1) scRF.nd rfl (Or.inl rfl) (pe_meth (pv 0) T.cl T.mTk GK hr3 bK .nil (passX rfl flies) (pa_cons (pe_glob (v := .int 0) rfl h0 ⟨t0, rfl⟩) (pa_cons (pe_glob (v := .int 2) rfl h2 ⟨t2, rfl⟩) pa_nil))))
      (pss_cons (ps_if (pt_cmpR op_eq (pv 1) (pe_glob (v := .int 0) rfl h0 ⟨t0, rfl⟩) (nomark _)) (pss_one (ps_ret (pe_call G1 hr5 rfl U.mRP k1 b1 .nil (passX rfl flies) (pa_cons (pv 0) pa_nil)))) pss_nil)
      (pss_cons (ps_if (pt_cmpR op_eq (pv 1) (pe_glob (v := .int 1) rfl h1 ⟨t1, rfl⟩) (nomark _)) (pss_one (ps_ret (pe_call G2 hr rfl U.mRT k2 b2 .nil (passX rfl flies) (pa_cons (pv 0) pa_nil)))) pss_nil)
      (pss_one (ps_ret (pe_call G3 hr rfl U.mRV k3 b3 .nil (passX rfl flies) (pa_cons (pv 0) pa_nil)))))), ?_⟩
    rw [field_b] at k
    refine ⟨_, rfl, r, dr, _, rfl, hR, rf_no a p (by decide +kernel) (by decide +kernel), r, a, ns, p, 0, 2, rfl, R, rk_num k fun n _ hn _ k => fun H1 R1 o1 => ?_⟩
    obtain ⟨dr1, hR1⟩ := R1.obj
    have done : ∀ g : Nat → Bytes → Except Nat (Field × Nat × Bytes), Rk CE E (g (p + 1) ((byt ns).drop (p + 1))) (fun f q => ∀ H' z, RdAt K CR H' r a ns q → Oth r H H' → H z = none → FieldAt CF H' z f → Q (.ref z) H') → spFd K CE CR CF g [.ref r] H1 Q E := fun g kk => by
      refine ⟨r, a, ns, p + 1, rfl, R1, ?_⟩
      cases e : g (p + 1) ((byt ns).drop (p + 1)) with
      | error e' => rw [e] at kk; exact kk
      | ok t =>
        rw [e] at kk
        intro H' z R' o' nz fz
        exact kk H' z R' (o1.trans o') (free_of o1 hR1 nz) fz
    refine ⟨_, rfl, rfl, _, rfl, ?_⟩
    by_cases q0 : n = 0
    · subst q0
      refine iteP (decide_eq_true rfl) ?_
      rw [if_pos rfl] at k
      exact ⟨_, rfl, done _ k⟩
    · refine iteN (by intro z; have := of_decide_eq_true z; injection this with e; omega) ?_
      rw [if_neg q0] at k
      refine ⟨_, rfl, rfl, _, rfl, ?_⟩
      by_cases q1 : n = 1
      · subst q1
        refine iteP (decide_eq_true rfl) ?_
        rw [if_pos rfl] at k
        exact ⟨_, rfl, done _ k⟩
      · refine iteN (by intro z; have := of_decide_eq_true z; injection this with e; omega) ?_
        rw [if_neg q1] at k
        exact ⟨_, rfl, done _ k⟩
theorem scFL : FnScope ["reader", "arms_field", "most"] ["reader", "arms_field"] (defScope sFL) := ⟨rfl, rfl, rfl, by decide +kernel, rfl, by decide +kernel, by decide +kernel⟩
theorem ok_fl {fdK fd1 fd : FuncData} (F : Fun K "read_fill" "read_fill" sFL fFL fd) (T : TR K mg CE NE fE CR fR fTk fTr fTo fTe) (U : TA1 K mg CR CF CO CG CA fF fO fG fA fRP fRT fLV fRV fRF fFL fOL fGL fRL fRA)
    (GK : FnOk P w K mg base (CXx P w) 3 fTk fdK ["self", "least", "most"] (spTake K CE CR)) (bK : Binds K fdK ["self", "least", "most"] [])
    (G1 : FnOk P w K mg base (CXx P w) 7 fRF fd1 ["reader"] (spFd K CE CR CF fieldAt)) (b1 : Binds K fd1 ["reader"] []) (k1 : PySem.W.keepIn K (.ref fRF) = true) :
    FnOk P w K mg base (CXx P w) 8 fFL fd ["reader", "arms_field"] (spFl K CE CR CF) := by
  refine F.okX scFL (fun vs H Q E h => ?_) (fun cdv A outer s H vs Q E hr h => ?_)
  · obtain ⟨r, a, zf, ns, p, below, rfl, _⟩ := h
    rfl
  · obtain ⟨r, a, zf, ns, p, below, rfl, R, hF, k⟩ := h
    obtain ⟨dr, hR⟩ := R.obj
    obtain ⟨df, hz⟩ := id hF
    obtain ⟨t0, h0⟩ := U.i "PLAIN" 0 (by decide +kernel)
    obtain ⟨tf, hf⟩ := U.i "FIELD_FILL" 0 (by decide +kernel)
    obtain ⟨tc, hc⟩ := U.i "COUNTERCHANGED_FILL" 1 (by decide +kernel)
    have hr3 : Room 3 _ := hr.mono (by decide)
    refine ⟨_, pss_cons (ps_set (i := 2) scFL.nd rfl (Or.inl rfl) (pe_ifExp (pt_cmpR op_eq (pe_fld (pv 1) rfl) (pe_glob (v := .int 0) rfl h0 ⟨t0, rfl⟩) (nomark _)) (pe_glob (v := .int 0) rfl hf ⟨tf, rfl⟩) (pe_glob (v := .int 1) rfl hc ⟨tc, rfl⟩)))
      (pss_cons (ps_if (pt_cmpR op_eq (pe_meth (pv 0) T.cl T.mTk GK hr3 bK .nil (passX rfl flies) (pa_cons (pe_glob (v := .int 0) rfl hf ⟨tf, rfl⟩) (pa_cons (pv 2) pa_nil))) (pe_glob (v := .int 1) rfl hc ⟨tc, rfl⟩) (nomark _)) (pss_one (ps_ret pe_non)) pss_nil)
      (pss_one (ps_ret (pe_call G1 hr rfl U.mRF k1 b1 .nil (passX rfl flies) (pa_cons (pv 0) pa_nil))))), ?_⟩
    rw [fill_b] at k
    have core : ∀ m : Nat, m = (if below.two.isSome = true then 1 else 0) → ∀ σ : L2.St, σ = [some (.ref r), some (.ref zf), some (vn m)] →
        (tSeq (tIfS (tTest (tOp rEq (tMeth CR "take" (spTake K CE CR) [] E (tVar 0) (tCons (tC (.int 0)) (tCons (tVar 2) tNil))) (tC (.int 1)))) (tRet (tC .non)) tNext) (tRet (tCall (spFd K CE CR CF fieldAt) [] E (tCons (tVar 0) tNil)))) { nx := fun _ H' => Q .non H', rt := Q } σ H := by
      rintro m hm σ rfl
      subst hm
      refine ⟨_, rfl, r, dr, _, rfl, hR, rf_no a p (by decide +kernel) (by decide +kernel), _, rfl, r, a, ns, p, 0, _, rfl, R, rk_num k fun n _ hn _ k => fun H1 R1 o1 => ?_⟩
      obtain ⟨dr1, hR1⟩ := R1.obj
      refine ⟨rfl, _, rfl, ?_⟩
      by_cases q : n = 1
      · subst q
        refine iteP (decide_eq_true rfl) ?_
        rw [if_pos rfl] at k
        exact k H1 .non R1 o1 rfl
      · refine iteN (by intro z; have := of_decide_eq_true z; injection this with e; omega) ?_
        rw [if_neg q] at k
        refine ⟨_, rfl, r, a, ns, p + 1, rfl, R1, rk_field k fun f q _ k => ?_⟩
        intro H' z R' o' nz fz
        exact k H' (.ref z) R' (o1.trans o') ⟨z, rfl, fz⟩
    refine ⟨_, rfl, zf, CF, df, _, _, rfl, hz, U.F.cl, U.F.no _ (by decide +kernel), f_kind below, rfl, _, rfl, ?_⟩
    cases below with
    | plain t =>
      refine iteP (decide_eq_true rfl) ?_
      exact core 0 rfl _ rfl
    | parted d l x y =>
      refine iteN (by intro z; have := of_decide_eq_true z; cases this) ?_
      exact core 1 rfl _ rfl
    | varied v n l x y =>
      refine iteN (by intro z; have := of_decide_eq_true z; cases this) ?_
      exact core 1 rfl _ rfl
theorem scOL : FnScope ["reader", "arms_field", "ordinary", "line", "fill"] ["reader", "arms_field"] (defScope sOL) := ⟨rfl, rfl, rfl, by decide +kernel, rfl, by decide +kernel, by decide +kernel⟩
theorem ok_ol {fdW fdL fdO fd : FuncData} (F : Fun K "read_ordinary_layer" "read_ordinary_layer" sOL fOL fd) (T : TR K mg CE NE fE CR fR fTk fTr fTo fTe) (U : TA1 K mg CR CF CO CG CA fF fO fG fA fRP fRT fLV fRV fRF fFL fOL fGL fRL fRA)
    (GW : FnOk P w K mg base (CXx P w) 4 fTr fdW ["self", "rows"] (spRow K CE CR)) (bW : Binds K fdW ["self", "rows"] [])
    (GL : FnOk P w K mg base (CXx P w) 8 fFL fdL ["reader", "arms_field"] (spFl K CE CR CF)) (bL : Binds K fdL ["reader", "arms_field"] []) (kL : PySem.W.keepIn K (.ref fFL) = true)
    (GO : FnOk P w K mg base (CXx P w) 1 fO fdO ["self", "ordinary", "line", "fill"] (spOI CO)) (bO : Binds K fdO ["self", "ordinary", "line", "fill"] []) :
    FnOk P w K mg base (CXx P w) 9 fOL fd ["reader", "arms_field"] (spLy K CE CR CF CO CG ordB) := by
  refine F.okX scOL (fun vs H Q E h => ?_) (fun cdv A outer s H vs Q E hr h => ?_)
  · obtain ⟨r, a, zf, ns, p, below, rfl, _⟩ := h
    rfl
  · obtain ⟨r, a, zf, ns, p, below, rfl, R, hF, k⟩ := h
    obtain ⟨dr, hR⟩ := R.obj
    obtain ⟨t13, h13⟩ := U.i "ORDINARY_ROWS" 13 (by decide +kernel)
    obtain ⟨t6, h6⟩ := U.i "LINE_ROWS" 6 (by decide +kernel)
    have hr2 : Room 2 _ := hr.mono (by decide)
    have hr4 : Room 4 _ := hr.mono (by decide)
    refine ⟨_, pss_cons (ps_set (i := 2) scOL.nd rfl (Or.inl rfl) (pe_meth (pv 0) T.cl T.mTr GW hr4 bW .nil (passX rfl flies) (pa_cons (pe_glob (v := .int 13) rfl h13 ⟨t13, rfl⟩) pa_nil)))
      (pss_cons (ps_set (i := 3) scOL.nd rfl (Or.inl rfl) (pe_meth (pv 0) T.cl T.mTr GW hr4 bW .nil (passX rfl flies) (pa_cons (pe_glob (v := .int 6) rfl h6 ⟨t6, rfl⟩) pa_nil)))
      (pss_cons (ps_set (i := 4) scOL.nd rfl (Or.inl rfl) (pe_call GL hr rfl U.mFL kL bL .nil (passX rfl flies) (pa_cons (pv 0) (pa_cons (pv 1) pa_nil))))
      (pss_one (ps_ret (pe_make U.O.mkc GO hr2 rfl U.O.at_ bO .nil passN (pa_cons (pv 2) (pa_cons (pv 3) (pa_cons (pv 4) pa_nil)))))))), ?_⟩
    refine ⟨_, rfl, r, dr, _, rfl, hR, rf_no a p (by decide +kernel) (by decide +kernel), r, a, ns, p, 12, rfl, R, rk_num k fun n1 _ _ _ k => fun H1 R1 o1 => ?_⟩
    obtain ⟨dr1, hR1⟩ := R1.obj
    refine ⟨_, rfl, r, dr1, _, rfl, hR1, rf_no a _ (by decide +kernel) (by decide +kernel), r, a, ns, _, 5, rfl, R1, rk_num k fun n2 _ _ _ k => fun H2 R2 o2 => ?_⟩
    obtain ⟨dr2, hR2⟩ := R2.obj
    have hF2 : FieldAt CF H2 zf below := hF.kp U.nF ((Kp.of_oth hR o1).trans (Kp.of_oth hR1 o2))
    refine ⟨_, rfl, _, rfl, r, a, zf, ns, _, below, rfl, R2, hF2, rk_fill k fun fl q _ k => fun H3 v R3 o3 hv => ?_⟩
    obtain ⟨dr3, hR3⟩ := R3.obj
    refine ⟨_, rfl, _, rfl, _, rfl, fun z dz nz nd ne => ⟨z, dz, _, _, _, rfl, upd_same, fun H4 hz o4 => ⟨rfl, ?_⟩⟩⟩
    have s4 : Same H3 H4 := Same.made nz nd fun b o e hb => o4 b o hb e
    have oo : Oth r H H3 := (o1.trans o2).trans o3
    exact k H4 z (R3.same s4) (fun b o n e => s4 _ _ (oo b o n e)) (free_of oo hR3 nz) ⟨dz, v, hz, hv.kp U.nF (Kp.of_same s4)⟩
theorem scGL : FnScope ["reader", "arms_field", "charge", "how_many", "manner", "size", "fill"] ["reader", "arms_field"] (defScope sGL) := ⟨rfl, rfl, rfl, by decide +kernel, rfl, by decide +kernel, by decide +kernel⟩
theorem ok_gl {fdK fdW fdL fdG fd : FuncData} (F : Fun K "read_group_layer" "read_group_layer" sGL fGL fd) (T : TR K mg CE NE fE CR fR fTk fTr fTo fTe) (U : TA1 K mg CR CF CO CG CA fF fO fG fA fRP fRT fLV fRV fRF fFL fOL fGL fRL fRA)
    (GK : FnOk P w K mg base (CXx P w) 3 fTk fdK ["self", "least", "most"] (spTake K CE CR)) (bK : Binds K fdK ["self", "least", "most"] [])
    (GW : FnOk P w K mg base (CXx P w) 4 fTr fdW ["self", "rows"] (spRow K CE CR)) (bW : Binds K fdW ["self", "rows"] [])
    (GL : FnOk P w K mg base (CXx P w) 8 fFL fdL ["reader", "arms_field"] (spFl K CE CR CF)) (bL : Binds K fdL ["reader", "arms_field"] []) (kL : PySem.W.keepIn K (.ref fFL) = true)
    (GG : FnOk P w K mg base (CXx P w) 1 fG fdG ["self", "charge", "how_many", "manner", "size", "fill"] (spGI CG)) (bG : Binds K fdG ["self", "charge", "how_many", "manner", "size", "fill"] []) :
    FnOk P w K mg base (CXx P w) 9 fGL fd ["reader", "arms_field"] (spLy K CE CR CF CO CG groupB) := by
  refine F.okX scGL (fun vs H Q E h => ?_) (fun cdv A outer s H vs Q E hr h => ?_)
  · obtain ⟨r, a, zf, ns, p, below, rfl, _⟩ := h
    rfl
  · obtain ⟨r, a, zf, ns, p, below, rfl, R, hF, k⟩ := h
    obtain ⟨dr, hR⟩ := R.obj
    obtain ⟨t16, h16⟩ := U.i "CHARGE_ROWS" 16 (by decide +kernel)
    obtain ⟨t10, h10⟩ := U.i "MOST_CHARGES" 10 (by decide +kernel)
    obtain ⟨t7, h7⟩ := U.i "MANNER_ROWS" 7 (by decide +kernel)
    obtain ⟨t4, h4⟩ := U.i "MOST_SIZE" 4 (by decide +kernel)
    have hr2 : Room 2 _ := hr.mono (by decide)
    have hr3 : Room 3 _ := hr.mono (by decide)
    have hr4 : Room 4 _ := hr.mono (by decide)
    refine ⟨_, pss_cons (ps_set (i := 2) scGL.nd rfl (Or.inl rfl) (pe_meth (pv 0) T.cl T.mTr GW hr4 bW .nil (passX rfl flies) (pa_cons (pe_glob (v := .int 16) rfl h16 ⟨t16, rfl⟩) pa_nil)))
      (pss_cons (ps_set (i := 3) scGL.nd rfl (Or.inl rfl) (pe_meth (pv 0) T.cl T.mTk GK hr3 bK .nil (passX rfl flies) (pa_cons pe_int (pa_cons (pe_glob (v := .int 10) rfl h10 ⟨t10, rfl⟩) pa_nil))))
      (pss_cons (ps_set (i := 4) scGL.nd rfl (Or.inl rfl) (pe_meth (pv 0) T.cl T.mTr GW hr4 bW .nil (passX rfl flies) (pa_cons (pe_glob (v := .int 7) rfl h7 ⟨t7, rfl⟩) pa_nil)))
      (pss_cons (ps_set (i := 5) scGL.nd rfl (Or.inl rfl) (pe_meth (pv 0) T.cl T.mTk GK hr3 bK .nil (passX rfl flies) (pa_cons pe_int (pa_cons (pe_glob (v := .int 4) rfl h4 ⟨t4, rfl⟩) pa_nil))))
      (pss_cons (ps_set (i := 6) scGL.nd rfl (Or.inl rfl) (pe_call GL hr rfl U.mFL kL bL .nil (passX rfl flies) (pa_cons (pv 0) (pa_cons (pv 1) pa_nil))))
      (pss_one (ps_ret (pe_make U.G.mkc GG hr2 rfl U.G.at_ bG .nil passN (pa_cons (pv 2) (pa_cons (pv 3) (pa_cons (pv 4) (pa_cons (pv 5) (pa_cons (pv 6) pa_nil)))))))))))), ?_⟩
    refine ⟨_, rfl, r, dr, _, rfl, hR, rf_no a p (by decide +kernel) (by decide +kernel), r, a, ns, p, 15, rfl, R, rk_num k fun n1 _ _ _ k => fun H1 R1 o1 => ?_⟩
    obtain ⟨dr1, hR1⟩ := R1.obj
    refine ⟨_, rfl, r, dr1, _, rfl, hR1, rf_no a _ (by decide +kernel) (by decide +kernel), r, a, ns, _, 1, 10, rfl, R1, rk_num k fun n2 _ _ _ k => fun H2 R2 o2 => ?_⟩
    obtain ⟨dr2, hR2⟩ := R2.obj
    refine ⟨_, rfl, r, dr2, _, rfl, hR2, rf_no a _ (by decide +kernel) (by decide +kernel), r, a, ns, _, 6, rfl, R2, rk_num k fun n3 _ _ _ k => fun H3 R3 o3 => ?_⟩
    obtain ⟨dr3, hR3⟩ := R3.obj
    refine ⟨_, rfl, r, dr3, _, rfl, hR3, rf_no a _ (by decide +kernel) (by decide +kernel), r, a, ns, _, 1, 4, rfl, R3, rk_num k fun n4 _ _ _ k => fun H4 R4 o4 => ?_⟩
    obtain ⟨dr4, hR4⟩ := R4.obj
    have hF4 : FieldAt CF H4 zf below := hF.kp U.nF ((((Kp.of_oth hR o1).trans (Kp.of_oth hR1 o2)).trans (Kp.of_oth hR2 o3)).trans (Kp.of_oth hR3 o4))
    refine ⟨_, rfl, _, rfl, r, a, zf, ns, _, below, rfl, R4, hF4, rk_fill k fun fl q _ k => fun H5 v R5 o5 hv => ?_⟩
    obtain ⟨dr5, hR5⟩ := R5.obj
    refine ⟨_, rfl, _, rfl, _, rfl, _, rfl, _, rfl, fun z dz nz nd ne => ⟨z, dz, _, _, _, _, _, rfl, upd_same, fun H6 hz o6 => ⟨rfl, ?_⟩⟩⟩
    have s6 : Same H5 H6 := Same.made nz nd fun b o e hb => o6 b o hb e
    have oo : Oth r H H5 := (((o1.trans o2).trans o3).trans o4).trans o5
    exact k H6 z (R5.same s6) (fun b o n e => s6 _ _ (oo b o n e)) (free_of oo hR5 nz) ⟨dz, v, hz, hv.kp U.nF (Kp.of_same s6)⟩
theorem scRL : FnScope ["reader", "arms_field"] ["reader", "arms_field"] (defScope sRL) := ⟨rfl, rfl, rfl, by decide +kernel, rfl, by decide +kernel, by decide +kernel⟩
theorem ok_rl {fdK fd1 fd2 fd : FuncData} (F : Fun K "read_layer" "read_layer" sRL fRL fd) (T : TR K mg CE NE fE CR fR fTk fTr fTo fTe) (U : TA1 K mg CR CF CO CG CA fF fO fG fA fRP fRT fLV fRV fRF fFL fOL fGL fRL fRA)
    (GK : FnOk P w K mg base (CXx P w) 3 fTk fdK ["self", "least", "most"] (spTake K CE CR)) (bK : Binds K fdK ["self", "least", "most"] [])
    (G1 : FnOk P w K mg base (CXx P w) 9 fOL fd1 ["reader", "arms_field"] (spLy K CE CR CF CO CG ordB)) (b1 : Binds K fd1 ["reader", "arms_field"] []) (k1 : PySem.W.keepIn K (.ref fOL) = true)
    (G2 : FnOk P w K mg base (CXx P w) 9 fGL fd2 ["reader", "arms_field"] (spLy K CE CR CF CO CG groupB)) (b2 : Binds K fd2 ["reader", "arms_field"] []) (k2 : PySem.W.keepIn K (.ref fGL) = true) :
    FnOk P w K mg base (CXx P w) 10 fRL fd ["reader", "arms_field"] (spLy K CE CR CF CO CG layerAt) := by
  refine F.okX scRL (fun vs H Q E h => ?_) (fun cdv A outer s H vs Q E hr h => ?_)
  · obtain ⟨r, a, zf, ns, p, below, rfl, _⟩ := h
    rfl
  · obtain ⟨r, a, zf, ns, p, below, rfl, R, hF, k⟩ := h
    obtain ⟨dr, hR⟩ := R.obj
    obtain ⟨t0, h0⟩ := U.i "ORDINARY_LAYER" 0 (by decide +kernel)
    obtain ⟨t1, h1⟩ := U.i "GROUP_LAYER" 1 (by decide +kernel)
    have hr3 : Room 3 _ := hr.mono (by decide)
    refine ⟨_, pss_cons (ps_if (pt_cmpR op_eq (pe_meth (pv 0) T.cl T.mTk GK hr3 bK .nil (passX rfl flies) (pa_cons (pe_glob (v := .int 0) rfl h0 ⟨t0, rfl⟩) (pa_cons (pe_glob (v := .int 1) rfl h1 ⟨t1, rfl⟩) pa_nil))) (pe_glob (v := .int 0) rfl h0 ⟨t0, rfl⟩) (nomark _))
        (pss_one (ps_ret (pe_call G1 hr rfl U.mOL k1 b1 .nil (passX rfl flies) (pa_cons (pv 0) (pa_cons (pv 1) pa_nil))))) pss_nil)
      (pss_one (ps_ret (pe_call G2 hr rfl U.mGL k2 b2 .nil (passX rfl flies) (pa_cons (pv 0) (pa_cons (pv 1) pa_nil))))), ?_⟩
    rw [layer_b] at k
    refine ⟨_, rfl, r, dr, _, rfl, hR, rf_no a p (by decide +kernel) (by decide +kernel), r, a, ns, p, 0, 1, rfl, R, rk_num k fun n _ hn _ k => fun H1 R1 o1 => ?_⟩
    obtain ⟨dr1, hR1⟩ := R1.obj
    have hF1 : FieldAt CF H1 zf below := hF.kp U.nF (Kp.of_oth hR o1)
    have done : ∀ g : Field → Nat → Bytes → Except Nat (Layer × Nat × Bytes), Rk CE E (g below (p + 1) ((byt ns).drop (p + 1))) (fun l q => ∀ H' z, RdAt K CR H' r a ns q → Oth r H H' → H z = none → LayerAt CF CO CG H' z l → Q (.ref z) H') → spLy K CE CR CF CO CG g [.ref r, .ref zf] H1 Q E := fun g kk => by
      refine ⟨r, a, zf, ns, p + 1, below, rfl, R1, hF1, ?_⟩
      cases e : g below (p + 1) ((byt ns).drop (p + 1)) with
      | error e' => rw [e] at kk; exact kk
      | ok t =>
        rw [e] at kk
        intro H' z R' o' nz fz
        exact kk H' z R' (o1.trans o') (free_of o1 hR1 nz) fz
    refine ⟨rfl, _, rfl, ?_⟩
    by_cases q0 : n = 0
    · subst q0
      refine iteP (decide_eq_true rfl) ?_
      rw [if_pos rfl] at k
      exact ⟨_, rfl, _, rfl, done _ k⟩
    · refine iteN (by intro z; have := of_decide_eq_true z; injection this with e; omega) ?_
      rw [if_neg q0] at k
      exact ⟨_, rfl, _, rfl, done _ k⟩
theorem scRA : FnScope ["data", "reader", "field", "layers", "number"] ["data"] (defScope sRA) := ⟨rfl, rfl, rfl, by decide +kernel, rfl, by decide +kernel, by decide +kernel⟩
theorem ok_ra {fdR fdK fdE2 fd1 fd2 fdA fd : FuncData} (F : Fun K "read_arms" "read_arms" sRA fRA fd) (T : TR K mg CE NE fE CR fR fTk fTr fTo fTe) (U : TA1 K mg CR CF CO CG CA fF fO fG fA fRP fRT fLV fRV fRF fFL fOL fGL fRL fRA)
    (GR : FnOk P w K mg base (CXx P w) 1 fR fdR ["self", "data"] (spRI CR)) (bR : Binds K fdR ["self", "data"] [])
    (GK : FnOk P w K mg base (CXx P w) 3 fTk fdK ["self", "least", "most"] (spTake K CE CR)) (bK : Binds K fdK ["self", "least", "most"] [])
    (GE : FnOk P w K mg base (CXx P w) 3 fTe fdE2 ["self"] (spEnd K CE CR)) (bE : Binds K fdE2 ["self"] [])
    (G1 : FnOk P w K mg base (CXx P w) 7 fRF fd1 ["reader"] (spFd K CE CR CF fieldAt)) (b1 : Binds K fd1 ["reader"] []) (k1 : PySem.W.keepIn K (.ref fRF) = true)
    (G2 : FnOk P w K mg base (CXx P w) 10 fRL fd2 ["reader", "arms_field"] (spLy K CE CR CF CO CG layerAt)) (b2 : Binds K fd2 ["reader", "arms_field"] []) (k2 : PySem.W.keepIn K (.ref fRL) = true)
    (GA : FnOk P w K mg base (CXx P w) 1 fA fdA ["self", "field", "layers"] (spAI CA)) (bA : Binds K fdA ["self", "field", "layers"] []) :
    FnOk P w K mg base (CXx P w) 11 fRA fd ["data"] (spRA K CE CR CF CO CG CA) := by
  refine F.okX scRA (fun vs H Q E h => ?_) (fun cdv A outer s H vs Q E hr h => ?_)
  · obtain ⟨a, ns, rfl, _⟩ := h
    rfl
  · obtain ⟨a, ns, rfl, hb, hS, k⟩ := h
    obtain ⟨t8, h8⟩ := U.i "MOST_LAYERS" 8 (by decide +kernel)
    have hr3 : Room 3 _ := hr.mono (by decide)
    have hr2 : Room 2 _ := hr.mono (by decide)
    have hr7 : Room 7 _ := hr.mono (by decide)
    refine ⟨_, pss_cons (ps_set (i := 1) scRA.nd rfl (Or.inl rfl) (pe_make T.mkR GR hr2 rfl T.mgR bR .nil passN (pa_cons (pv 0) pa_nil)))
      (pss_cons (ps_set (i := 2) scRA.nd rfl (Or.inl rfl) (pe_call G1 hr7 rfl U.mRF k1 b1 .nil (passX rfl flies) (pa_cons (pv 1) pa_nil)))
      (pss_cons (ps_set (i := 3) scRA.nd rfl (Or.inl rfl) (pe_lst pa_nil))
      (pss_cons (ps_for PassesOwn.leaving rfl (pi_range1 rfl U.rng (pa_cons (pe_meth (pv 1) T.cl T.mTk GK hr3 bK .nil (passX rfl flies) (pa_cons pe_int (pa_cons (pe_glob (v := .int 8) rfl h8 ⟨t8, rfl⟩) pa_nil))) pa_nil)) (pg_name (i := 4) scRA.nd rfl (Or.inl rfl))
        (pss_one (ps_expr (pe_bm PySem.F.plainAttrs_list PySem.F.slot_list_append PySem.F.type_list_append mt_append (pv 3) (pa_cons (pe_call G2 hr rfl U.mRL k2 b2 .nil (passX rfl flies) (pa_cons (pv 1) (pa_cons (pv 2) pa_nil))) pa_nil)))))
      (pss_cons (ps_expr (pe_meth0 (pv 1) T.cl T.mTe GE hr3 bE .nil (passX rfl flies)))
      (pss_one (ps_ret (pe_make U.A.mkc GA hr2 rfl U.A.at_ bA .nil passN (pa_cons (pv 2) (pa_cons (pv 3) pa_nil))))))))), ?_⟩
    refine ⟨_, rfl, fun r dr0 nr nd ne => ?_⟩
    refine ⟨r, dr0, a, rfl, upd_same, fun H1 hr1 o1 => ⟨rfl, ?_⟩⟩
    have s1 : Same H H1 := Same.made nr nd fun b o e hb => o1 b o hb e
    have R1 : RdAt K CR H1 r a ns 0 := ⟨hb, ⟨dr0, hr1⟩, hS.keep fun ob u e => s1 _ _ e, Nat.zero_le _⟩
    -- what is wanted of the whole
    let G : Except Nat Arms → Prop := fun x => match x with
      | .error e => Wrong CE E e
      | .ok x => ∀ H' z, Same H H' → H z = none → ArmsAt CF CO CG CA H' z x → Q (.ref z) H'
    have g0 : G (readArms (byt ns)) := by
      cases e : readArms (byt ns) with
      | error e' => rw [e] at k; exact k
      | ok x => rw [e] at k; exact k
    rw [arms_b] at g0
    refine ⟨_, rfl, r, a, ns, 0, rfl, R1, ?_⟩
    rw [List.drop_zero]
    cases e1 : fieldAt 0 (byt ns) with
    | error e => rw [e1] at g0; exact g0
    | ok t =>
      obtain ⟨fo, _, _, ft⟩ := field_ok (B := byt ns) (p := 0) (by rw [List.drop_zero]; exact e1)
      rw [e1] at g0
      have g1 : G (bnd (numAt 0 8 ANY t.2.1 ((byt ns).drop t.2.1)) fun n p b => match layersAt t.1 n p b with | .error e => .error e | .ok l => .ok ⟨t.1, l⟩) := by rw [← ft]; exact g0
      intro H2 zf R2 o2 nzf hF2
      obtain ⟨dr2, hR2⟩ := R2.obj
      refine ⟨Nat.zero_le _, fun l hl => ?_⟩
      have s3 : Same H2 (upd H2 l (.lst [])) := fun b o e => by rw [upd_ne (ne_of_none e hl)]; exact e
      have R3 := R2.same s3
      have hF3 : FieldAt CF (upd H2 l (.lst [])) zf t.1 := hF2.kp U.nF (Kp.of_same s3)
      have hlH2 : H l = none := by
        cases q : H l with
        | none => rfl
        | some o =>
          have z := o2 l o (ne_of_none q nr) (s1 _ _ q)
          rw [hl] at z; cases z
      refine ⟨_, rfl, r, dr2, _, rfl, s3 _ _ hR2, rf_no a _ (by decide +kernel) (by decide +kernel), r, a, ns, _, 0, 8, rfl, R3, ?_⟩
      cases e2 : numAt 0 8 ANY t.2.1 ((byt ns).drop t.2.1) with
      | error e => rw [e2] at g1; exact g1
      | ok n =>
        obtain ⟨en, _, _, en8, _⟩ := num_ok e2
        rw [e2] at g1
        have g2 : G (match layersAt t.1 n.1 (t.2.1 + 1) ((byt ns).drop (t.2.1 + 1)) with | .error e => .error e | .ok l => .ok ⟨t.1, l⟩) := by
          have ep : n.2.1 = t.2.1 + 1 := by rw [en]
          have eb : n.2.2 = (byt ns).drop (t.2.1 + 1) := by rw [en]
          have g1' : G (match layersAt t.1 n.1 n.2.1 n.2.2 with | .error e => .error e | .ok l => .ok ⟨t.1, l⟩) := g1
          rw [ep, eb] at g1'
          exact g1'
        intro H4 R4 o4
        have ep : n.2.1 = t.2.1 + 1 := by rw [en]
        rw [ep] at R4
        have hl4 : H4 l = some (.lst []) := o4 l _ (ne_of (upd_same (H := H2) (a := l) (o := .lst [])) (s3 _ _ hR2) (by intro z; cases z)) upd_same
        have hF4 : FieldAt CF H4 zf t.1 := hF3.kp U.nF (Kp.of_oth (s3 _ _ hR2) o4)
        have oo4 : Same H H4 := fun b o e => o4 b o (ne_of_none e nr) (s3 _ _ (o2 b o (ne_of_none e nr) (s1 _ _ e)))
        refine ⟨(n.1 : Int), rfl, by omega, by omega, ?_⟩
        rw [Int.toNat_natCast]
        let GL : Except Nat (List Layer) → List Layer → Prop := fun x acc => match x with
          | .error e => Wrong CE E e
          | .ok l => G (.ok ⟨t.1, acc ++ l⟩)
        have g3 : GL (layersAt t.1 n.1 (t.2.1 + 1) ((byt ns).drop (t.2.1 + 1))) [] := by
          cases e3 : layersAt t.1 n.1 (t.2.1 + 1) ((byt ns).drop (t.2.1 + 1)) with
          | error e => rw [e3] at g2; exact g2
          | ok l => rw [e3] at g2; exact g2
        refine for_range (n := n.1) (fun i σ H' => ∃ (yv : Option V) (zs : List Addr) (acc : List Layer) (p : Nat), σ = [some (.ref a), some (.ref r), some (.ref zf), some (.ref l), yv] ∧ H' l = some (.lst (zs.map V.ref)) ∧ zs.length = i ∧ RdAt K CR H' r a ns p ∧ Same H H' ∧
          FieldAt CF H' zf t.1 ∧ LayersAt CF CO CG H' zs acc ∧ GL (layersAt t.1 (n.1 - i) p ((byt ns).drop p)) acc) ⟨none, [], [], t.2.1 + 1, rfl, hl4, rfl, R4, oo4, hF4, .nil, g3⟩ ?_ ?_
        · rintro i σ H5 hi ⟨yv, zs, acc, p, rfl, hl5, hzs, R5, s5, hF5, hL5, g⟩
          obtain ⟨dr5, hR5⟩ := R5.obj
          obtain ⟨j, hj⟩ : ∃ j, n.1 - i = j + 1 := ⟨n.1 - i - 1, by omega⟩
          have hj2 : n.1 - (i + 1) = j := by omega
          rw [hj, layers_b] at g
          refine ⟨_, rfl, .inl ⟨rfl, _, SqL.of hl5⟩, _, rfl, _, rfl, r, a, zf, ns, p, t.1, rfl, R5, hF5, ?_⟩
          cases e4 : layerAt t.1 p ((byt ns).drop p) with
          | error e => rw [e4] at g; exact g
          | ok x =>
            obtain ⟨_, _, _, e6⟩ := layer_ok e4
            rw [e4] at g
            have g5 : GL (match layersAt t.1 j x.2.1 ((byt ns).drop x.2.1) with | .error e => .error e | .ok l => .ok (x.1 :: l)) acc := by rw [← e6]; exact g
            intro H6 zl R6 o6 nzl hL6
            have hl6 : H6 l = some (.lst (zs.map V.ref)) := o6 l _ (ne_of hl5 hR5 (by intro z; cases z)) hl5
            have kp56 : Kp CR H5 H6 := Kp.of_oth hR5 o6
            refine ⟨l, _, _, rfl, rfl, hl6, by rw [List.length_map, hzs, sizeLine_eq]; omega, ?_⟩
            refine ⟨_, zs ++ [zl], acc ++ [x.1], x.2.1, rfl, by rw [upd_same, List.map_append]; rfl, by rw [List.length_append, hzs]; rfl, R6.lst hl6, ?_, ?_, ?_, ?_⟩
            · intro b o e
              rw [upd_ne (fun z => by subst z; rw [hlH2] at e; cases e)]
              exact o6 b o (ne_of_none e nr) (s5 _ _ e)
            · exact (hF5.kp U.nF kp56).kp U.nF (Kp.lst hl6)
            · exact paired_snoc (hL6.kp U.nF U.nO U.nG (Kp.lst hl6)) ((hL5.kp U.nF U.nO U.nG kp56).kp U.nF U.nO U.nG (Kp.lst hl6))
            · rw [hj2]
              cases e7 : layersAt t.1 j x.2.1 ((byt ns).drop x.2.1) with
              | error e => rw [e7] at g5; exact g5
              | ok ll =>
                rw [e7] at g5
                show G (.ok ⟨t.1, (acc ++ [x.1]) ++ ll⟩)
                rw [List.append_assoc]
                exact g5
        · rintro σ H5 ⟨yv, zs, acc, p, rfl, hl5, hzs, R5, s5, hF5, hL5, g⟩
          obtain ⟨dr5, hR5⟩ := R5.obj
          rw [Nat.sub_self] at g
          refine ⟨_, rfl, r, dr5, _, rfl, hR5, rf_no a _ (by decide +kernel) (by decide +kernel), r, a, ns, p, rfl, R5, fun hp => ?_, fun hp => ?_⟩
          · have z : layersAt t.1 0 p ((byt ns).drop p) = .error p := by
              show (if (byt ns).drop p = [] then _ else _) = _
              rw [if_neg (by rw [List.drop_eq_nil_iff, byt_len]; omega)]
            rw [z] at g
            exact g
          · have z : layersAt t.1 0 p ((byt ns).drop p) = .ok [] := by
              show (if (byt ns).drop p = [] then _ else _) = _
              rw [if_pos (by rw [List.drop_eq_nil_iff, byt_len]; omega)]
            rw [z] at g
            have g6 : ∀ H' z, Same H H' → H z = none → ArmsAt CF CO CG CA H' z ⟨t.1, acc ++ []⟩ → Q (.ref z) H' := g
            rw [List.append_nil] at g6
            refine ⟨_, rfl, _, rfl, fun z dz nz nd' ne' => ⟨z, dz, _, _, rfl, upd_same, fun H7 hz o7 => ⟨rfl, ?_⟩⟩⟩
            have s7 : Same H5 H7 := Same.made nz nd' fun b o e hb => o7 b o hb e
            exact g6 H7 z (fun b o e => s7 _ _ (s5 _ _ e)) (s5.free nz) ⟨dz, zf, l, zs, hz, hF5.kp U.nF (Kp.of_same s7), s7 _ _ hl5, hL5.kp U.nF U.nO U.nG (Kp.of_same s7)⟩
end
noncomputable abbrev ab (x : Int) : Int := if x < 0 then -x else x
section
variable {P : Program} {w : World} {K : PySem.W.Frag} {mg : Str → Option Value} {base : Heap}
noncomputable def g_straight (v_t : Int) : Int := 0
theorem sc_straight : FnScope ["t"] ["t"] (defScope s_straight) := ⟨rfl, rfl, rfl, by decide +kernel, rfl, by decide +kernel, by decide +kernel⟩
theorem ok_straight {f_straight : Addr} {fd : FuncData} (F : Fun K "straight" "straight" s_straight f_straight fd) : FnOk P w K mg base (CXx P w) 1 f_straight fd ["t"] (spI1 (fun v_t => True) (fun v_t => V.int (g_straight v_t))) := by
  refine F.okP1 sc_straight rfl (fun cdv A outer s H E v_t hr hc => ?_)
  have hc : True := hc
  exact ⟨_, (pss_one (ps_ret pe_int)), (.ret (.c _))⟩
noncomputable def g_wavy (v_t : Int) : Int := (if (decide ((v_t % 48) < 24)) = true then (12 - (((((v_t % 24) - 12)) * (((v_t % 24) - 12))) / 12)) else ((((((v_t % 24) - 12)) * (((v_t % 24) - 12))) / 12) - 12))
theorem sc_wavy : FnScope ["t", "w"] ["t"] (defScope s_wavy) := ⟨rfl, rfl, rfl, by decide +kernel, rfl, by decide +kernel, by decide +kernel⟩
theorem ok_wavy {f_wavy : Addr} {fd : FuncData} (F : Fun K "wavy" "wavy" s_wavy f_wavy fd) : FnOk P w K mg base (CXx P w) 1 f_wavy fd ["t"] (spI1 (fun v_t => True) (fun v_t => V.int (g_wavy v_t))) := by
  refine F.okP1 sc_wavy rfl (fun cdv A outer s H E v_t hr hc => ?_)
  have hc : True := hc
  exact ⟨_, (pss_cons (ps_set (i := 1) sc_wavy.nd rfl (Or.inl rfl) (pe_op op_sub (pe_op op_mod (pv 0) pe_int) pe_int)) (pss_cons (ps_if (pt_cmpR op_lt (pe_op op_mod (pv 0) pe_int) pe_int (nomark _)) (pss_one (ps_ret (pe_op op_sub pe_int (pe_op op_fdiv (pe_op op_mul (pv 1) (pv 1)) pe_int)))) pss_nil) (pss_one (ps_ret (pe_op op_sub (pe_op op_fdiv (pe_op op_mul (pv 1) (pv 1)) pe_int) pe_int))))), (.set (.i0 (.iC (.var rfl) (.c _) (by show (0 : Int) < _; omega)) (.c _)) (.ifI (.tst (.i0 (.iC (.var rfl) (.c _) (by show (0 : Int) < _; omega)) (.c _))) (fun _ => .ret (.i0 (.c _) (.iC (.iC (.var rfl) (.var rfl) (by unfold CMul; omega)) (.c _) (by unfold CDiv; omega)))) (fun _ => (.ret (.i0 (.iC (.iC (.var rfl) (.var rfl) (by unfold CMul; omega)) (.c _) (by unfold CDiv; omega)) (.c _))))))⟩
noncomputable def g_embattled (v_t : Int) : Int := (if (decide ((v_t % 48) < 24)) = true then 12 else (-12))
theorem sc_embattled : FnScope ["t"] ["t"] (defScope s_embattled) := ⟨rfl, rfl, rfl, by decide +kernel, rfl, by decide +kernel, by decide +kernel⟩
theorem ok_embattled {f_embattled : Addr} {fd : FuncData} (F : Fun K "embattled" "embattled" s_embattled f_embattled fd) : FnOk P w K mg base (CXx P w) 1 f_embattled fd ["t"] (spI1 (fun v_t => True) (fun v_t => V.int (g_embattled v_t))) := by
  refine F.okP1 sc_embattled rfl (fun cdv A outer s H E v_t hr hc => ?_)
  have hc : True := hc
  exact ⟨_, (pss_cons (ps_if (pt_cmpR op_lt (pe_op op_mod (pv 0) pe_int) pe_int (nomark _)) (pss_one (ps_ret pe_int)) pss_nil) (pss_one (ps_ret (pe_un un_neg pe_int)))), (.ifI (.tst (.i0 (.iC (.var rfl) (.c _) (by show (0 : Int) < _; omega)) (.c _))) (fun _ => .ret (.c _)) (fun _ => (.ret (.un (.c _)))))⟩
noncomputable def g_indented (v_t : Int) : Int := (if (decide (((v_t % 48)) < 24)) = true then (((v_t % 48)) - 12) else (36 - ((v_t % 48))))
theorem sc_indented : FnScope ["t", "u"] ["t"] (defScope s_indented) := ⟨rfl, rfl, rfl, by decide +kernel, rfl, by decide +kernel, by decide +kernel⟩
theorem ok_indented {f_indented : Addr} {fd : FuncData} (F : Fun K "indented" "indented" s_indented f_indented fd) : FnOk P w K mg base (CXx P w) 1 f_indented fd ["t"] (spI1 (fun v_t => True) (fun v_t => V.int (g_indented v_t))) := by
  refine F.okP1 sc_indented rfl (fun cdv A outer s H E v_t hr hc => ?_)
  have hc : True := hc
  exact ⟨_, (pss_cons (ps_set (i := 1) sc_indented.nd rfl (Or.inl rfl) (pe_op op_mod (pv 0) pe_int)) (pss_cons (ps_if (pt_cmpR op_lt (pv 1) pe_int (nomark _)) (pss_one (ps_ret (pe_op op_sub (pv 1) pe_int))) pss_nil) (pss_one (ps_ret (pe_op op_sub pe_int (pv 1)))))), (.set (.iC (.var rfl) (.c _) (by show (0 : Int) < _; omega)) (.ifI (.tst (.i0 (.var rfl) (.c _))) (fun _ => .ret (.i0 (.var rfl) (.c _))) (fun _ => (.ret (.i0 (.c _) (.var rfl))))))⟩
noncomputable def g_engrailed (v_t : Int) : Int := ((((((v_t % 24) - 12)) * (((v_t % 24) - 12))) / 6) - 12)
theorem sc_engrailed : FnScope ["t", "w"] ["t"] (defScope s_engrailed) := ⟨rfl, rfl, rfl, by decide +kernel, rfl, by decide +kernel, by decide +kernel⟩
theorem ok_engrailed {f_engrailed : Addr} {fd : FuncData} (F : Fun K "engrailed" "engrailed" s_engrailed f_engrailed fd) : FnOk P w K mg base (CXx P w) 1 f_engrailed fd ["t"] (spI1 (fun v_t => True) (fun v_t => V.int (g_engrailed v_t))) := by
  refine F.okP1 sc_engrailed rfl (fun cdv A outer s H E v_t hr hc => ?_)
  have hc : True := hc
  exact ⟨_, (pss_cons (ps_set (i := 1) sc_engrailed.nd rfl (Or.inl rfl) (pe_op op_sub (pe_op op_mod (pv 0) pe_int) pe_int)) (pss_one (ps_ret (pe_op op_sub (pe_op op_fdiv (pe_op op_mul (pv 1) (pv 1)) pe_int) pe_int)))), (.set (.i0 (.iC (.var rfl) (.c _) (by show (0 : Int) < _; omega)) (.c _)) (.ret (.i0 (.iC (.iC (.var rfl) (.var rfl) (by unfold CMul; omega)) (.c _) (by unfold CDiv; omega)) (.c _))))⟩
noncomputable def g_invected (v_t : Int) : Int := (12 - (((((v_t % 24) - 12)) * (((v_t % 24) - 12))) / 6))
theorem sc_invected : FnScope ["t", "w"] ["t"] (defScope s_invected) := ⟨rfl, rfl, rfl, by decide +kernel, rfl, by decide +kernel, by decide +kernel⟩
theorem ok_invected {f_invected : Addr} {fd : FuncData} (F : Fun K "invected" "invected" s_invected f_invected fd) : FnOk P w K mg base (CXx P w) 1 f_invected fd ["t"] (spI1 (fun v_t => True) (fun v_t => V.int (g_invected v_t))) := by
  refine F.okP1 sc_invected rfl (fun cdv A outer s H E v_t hr hc => ?_)
  have hc : True := hc
  exact ⟨_, (pss_cons (ps_set (i := 1) sc_invected.nd rfl (Or.inl rfl) (pe_op op_sub (pe_op op_mod (pv 0) pe_int) pe_int)) (pss_one (ps_ret (pe_op op_sub pe_int (pe_op op_fdiv (pe_op op_mul (pv 1) (pv 1)) pe_int))))), (.set (.i0 (.iC (.var rfl) (.c _) (by show (0 : Int) < _; omega)) (.c _)) (.ret (.i0 (.c _) (.iC (.iC (.var rfl) (.var rfl) (by unfold CMul; omega)) (.c _) (by unfold CDiv; omega)))))⟩
noncomputable def g_offset (l t : Int) : Int := if l = 0 then g_straight t else if l = 1 then g_wavy t else if l = 2 then g_embattled t else if l = 3 then g_indented t else if l = 4 then g_engrailed t else g_invected t
theorem sc_offset : FnScope ["line", "t"] ["line", "t"] (defScope s_offset) := ⟨rfl, rfl, rfl, by decide +kernel, rfl, by decide +kernel, by decide +kernel⟩
theorem ok_offset {aLN f_offset f_straight f_wavy f_embattled f_indented f_engrailed f_invected : Addr} {fd : FuncData} (F : Fun K "offset" "offset" s_offset f_offset fd)
    (p0 : PF P w K mg base "straight" 1 f_straight ["t"] (spI1 (fun v_t => True) (fun v_t => V.int (g_straight v_t)))) (p1 : PF P w K mg base "wavy" 1 f_wavy ["t"] (spI1 (fun v_t => True) (fun v_t => V.int (g_wavy v_t))))
    (p2 : PF P w K mg base "embattled" 1 f_embattled ["t"] (spI1 (fun v_t => True) (fun v_t => V.int (g_embattled v_t)))) (p3 : PF P w K mg base "indented" 1 f_indented ["t"] (spI1 (fun v_t => True) (fun v_t => V.int (g_indented v_t))))
    (p4 : PF P w K mg base "engrailed" 1 f_engrailed ["t"] (spI1 (fun v_t => True) (fun v_t => V.int (g_engrailed v_t)))) (p5 : PF P w K mg base "invected" 1 f_invected ["t"] (spI1 (fun v_t => True) (fun v_t => V.int (g_invected v_t))))
    (mL : mg "LINES" = some (.ref aLN)) (sL : ∀ H, SqT K H aLN [.ref f_straight, .ref f_wavy, .ref f_embattled, .ref f_indented, .ref f_engrailed, .ref f_invected]) :
    FnOk P w K mg base (CXx P w) 2 f_offset fd ["line", "t"] (spI2 (fun v_line v_t => 0 ≤ v_line ∧ v_line < 6) (fun v_line v_t => V.int (g_offset v_line v_t))) := by
  refine F.okP2 sc_offset rfl (fun cdv A outer s H E l t hr hc => ?_)
  have hc : 0 ≤ l ∧ l < 6 := hc
  refine ⟨_, pss_one (ps_ret (pe_callS hr (pe_ix ix_tup (pe_glob (v := .ref aLN) rfl mL rfl) (pv 0) (fun _ _ => rfl)) (pa_cons (pv 1) pa_nil))), ?_⟩
  have pick : ∀ {f : Addr} {j : Nat}, l = (j : Int) → ([V.ref f_straight, .ref f_wavy, .ref f_embattled, .ref f_indented, .ref f_engrailed, .ref f_invected] : List V)[j]? = some (.ref f) → PV (tOp (rIxT K) (tC (.ref aLN)) (tVar 0)) (start ["line", "t"] [.int l, .int t]) H (.ref f) := fun {f j} e h Q q =>
    ⟨_, rfl, aLN, _, l, _, rfl, rfl, sL H, at_of (j := j) (v := V.ref f) e h, q⟩
  have go : ∀ {f : Addr} {j : Nat} {x : Str} {g : Int → Int}, PF P w K mg base x 1 f ["t"] (spI1 (fun v_t => True) (fun v_t => V.int (g v_t))) → l = (j : Int) → ([V.ref f_straight, .ref f_wavy, .ref f_embattled, .ref f_indented, .ref f_engrailed, .ref f_invected] : List V)[j]? = some (.ref f) → g t = g_offset l t →
      PR (tRet (tCallS P w K mg base 1 (tOp (rIxT K) (tC (.ref aLN)) (tVar 0)) (tCons (tVar 1) tNil))) (start ["line", "t"] [.int l, .int t]) H (V.int (g_offset l t)) := fun {f j x g} pf e h eg => by
    rw [← eg]
    exact .ret (.callS pf (pick e h) (.cons (.var rfl) .nil) fun Q q => ⟨t, rfl, True.intro, q⟩)
  have hl : l = 0 ∨ l = 1 ∨ l = 2 ∨ l = 3 ∨ l = 4 ∨ l = 5 := by omega
  rcases hl with rfl | rfl | rfl | rfl | rfl | rfl
  · exact go (j := 0) p0 rfl rfl rfl
  · exact go (j := 1) p1 rfl rfl rfl
  · exact go (j := 2) p2 rfl rfl rfl
  · exact go (j := 3) p3 rfl rfl rfl
  · exact go (j := 4) p4 rfl rfl rfl
  · exact go (j := 5) p5 rfl rfl rfl
noncomputable def g_bend_across (v_p v_r : Int) : Int := ((6 * v_p) - (5 * v_r))
theorem sc_bend_across : FnScope ["p", "r"] ["p", "r"] (defScope s_bend_across) := ⟨rfl, rfl, rfl, by decide +kernel, rfl, by decide +kernel, by decide +kernel⟩
theorem ok_bend_across {f_bend_across : Addr} {fd : FuncData} (F : Fun K "bend_across" "bend_across" s_bend_across f_bend_across fd) : FnOk P w K mg base (CXx P w) 1 f_bend_across fd ["p", "r"] (spI2 (fun v_p v_r => True) (fun v_p v_r => V.int (g_bend_across v_p v_r))) := by
  refine F.okP2 sc_bend_across rfl (fun cdv A outer s H E v_p v_r hr hc => ?_)
  have hc : True := hc
  exact ⟨_, (pss_one (ps_ret (pe_op op_sub (pe_op op_mul pe_int (pv 0)) (pe_op op_mul pe_int (pv 1))))), (.ret (.i0 (.iC (.c _) (.var rfl) (by unfold CMul; omega)) (.iC (.c _) (.var rfl) (by unfold CMul; omega))))⟩
noncomputable def g_bend_along (v_p v_r : Int) : Int := (((5 * v_p) + (6 * v_r)) / 8)
theorem sc_bend_along : FnScope ["p", "r"] ["p", "r"] (defScope s_bend_along) := ⟨rfl, rfl, rfl, by decide +kernel, rfl, by decide +kernel, by decide +kernel⟩
theorem ok_bend_along {f_bend_along : Addr} {fd : FuncData} (F : Fun K "bend_along" "bend_along" s_bend_along f_bend_along fd) : FnOk P w K mg base (CXx P w) 1 f_bend_along fd ["p", "r"] (spI2 (fun v_p v_r => True) (fun v_p v_r => V.int (g_bend_along v_p v_r))) := by
  refine F.okP2 sc_bend_along rfl (fun cdv A outer s H E v_p v_r hr hc => ?_)
  have hc : True := hc
  exact ⟨_, (pss_one (ps_ret (pe_op op_fdiv (pe_op op_add (pe_op op_mul pe_int (pv 0)) (pe_op op_mul pe_int (pv 1))) pe_int))), (.ret (.iC (.i0 (.iC (.c _) (.var rfl) (by unfold CMul; omega)) (.iC (.c _) (.var rfl) (by unfold CMul; omega))) (.c _) (by unfold CDiv; omega)))⟩
noncomputable def g_mirrored (v_p : Int) : Int := ((480 - 1) - v_p)
theorem sc_mirrored : FnScope ["p"] ["p"] (defScope s_mirrored) := ⟨rfl, rfl, rfl, by decide +kernel, rfl, by decide +kernel, by decide +kernel⟩
theorem ok_mirrored {f_mirrored : Addr} {fd : FuncData} (F : Fun K "mirrored" "mirrored" s_mirrored f_mirrored fd) (kC_WIDTH : ∃ t, mg "WIDTH" = some (.int 480 t)) : FnOk P w K mg base (CXx P w) 1 f_mirrored fd ["p"] (spI1 (fun v_p => True) (fun v_p => V.int (g_mirrored v_p))) := by
  obtain ⟨tC_WIDTH, hC_WIDTH⟩ := kC_WIDTH
  refine F.okP1 sc_mirrored rfl (fun cdv A outer s H E v_p hr hc => ?_)
  have hc : True := hc
  exact ⟨_, (pss_one (ps_ret (pe_op op_sub (pe_op op_sub (pe_glob (v := .int 480) rfl hC_WIDTH ⟨tC_WIDTH, rfl⟩) pe_int) (pv 0)))), (.ret (.i0 (.i0 (.c _) (.c _)) (.var rfl)))⟩
noncomputable def g_sinister_across (v_p v_r : Int) : Int := (g_bend_across ((g_mirrored (v_p))) (v_r))
theorem sc_sinister_across : FnScope ["p", "r"] ["p", "r"] (defScope s_sinister_across) := ⟨rfl, rfl, rfl, by decide +kernel, rfl, by decide +kernel, by decide +kernel⟩
theorem ok_sinister_across {f_bend_across f_mirrored f_sinister_across : Addr} {fd : FuncData} (F : Fun K "sinister_across" "sinister_across" s_sinister_across f_sinister_across fd) (p_bend_across : PF P w K mg base "bend_across" 1 f_bend_across ["p", "r"] (spI2 (fun v_p v_r => True) (fun v_p v_r => V.int (g_bend_across v_p v_r)))) (p_mirrored : PF P w K mg base "mirrored" 1 f_mirrored ["p"] (spI1 (fun v_p => True) (fun v_p => V.int (g_mirrored v_p)))) : FnOk P w K mg base (CXx P w) 2 f_sinister_across fd ["p", "r"] (spI2 (fun v_p v_r => True) (fun v_p v_r => V.int (g_sinister_across v_p v_r))) := by
  refine F.okP2 sc_sinister_across rfl (fun cdv A outer s H E v_p v_r hr hc => ?_)
  have hc : True := hc
  exact ⟨_, (pss_one (ps_ret (pe_pf p_bend_across (hr.mono (by decide)) rfl (pa_cons (pe_pf p_mirrored (hr.mono (by decide)) rfl (pa_cons (pv 0) pa_nil)) (pa_cons (pv 1) pa_nil))))), (.ret (.f2 (.cons (.f1 (.cons (.var rfl) .nil) True.intro) (.cons (.var rfl) .nil)) True.intro))⟩
noncomputable def g_sinister_along (v_p v_r : Int) : Int := (g_bend_along ((g_mirrored (v_p))) (v_r))
theorem sc_sinister_along : FnScope ["p", "r"] ["p", "r"] (defScope s_sinister_along) := ⟨rfl, rfl, rfl, by decide +kernel, rfl, by decide +kernel, by decide +kernel⟩
theorem ok_sinister_along {f_bend_along f_mirrored f_sinister_along : Addr} {fd : FuncData} (F : Fun K "sinister_along" "sinister_along" s_sinister_along f_sinister_along fd) (p_bend_along : PF P w K mg base "bend_along" 1 f_bend_along ["p", "r"] (spI2 (fun v_p v_r => True) (fun v_p v_r => V.int (g_bend_along v_p v_r)))) (p_mirrored : PF P w K mg base "mirrored" 1 f_mirrored ["p"] (spI1 (fun v_p => True) (fun v_p => V.int (g_mirrored v_p)))) : FnOk P w K mg base (CXx P w) 2 f_sinister_along fd ["p", "r"] (spI2 (fun v_p v_r => True) (fun v_p v_r => V.int (g_sinister_along v_p v_r))) := by
  refine F.okP2 sc_sinister_along rfl (fun cdv A outer s H E v_p v_r hr hc => ?_)
  have hc : True := hc
  exact ⟨_, (pss_one (ps_ret (pe_pf p_bend_along (hr.mono (by decide)) rfl (pa_cons (pe_pf p_mirrored (hr.mono (by decide)) rfl (pa_cons (pv 0) pa_nil)) (pa_cons (pv 1) pa_nil))))), (.ret (.f2 (.cons (.f1 (.cons (.var rfl) .nil) True.intro) (.cons (.var rfl) .nil)) True.intro))⟩
noncomputable def g_bend_offset (v_p v_r v_line : Int) : Int := (8 * (g_offset (v_line) ((g_bend_along (v_p) (v_r)))))
theorem sc_bend_offset : FnScope ["p", "r", "line"] ["p", "r", "line"] (defScope s_bend_offset) := ⟨rfl, rfl, rfl, by decide +kernel, rfl, by decide +kernel, by decide +kernel⟩
theorem ok_bend_offset {f_bend_along f_bend_offset f_offset : Addr} {fd : FuncData} (F : Fun K "bend_offset" "bend_offset" s_bend_offset f_bend_offset fd) (p_bend_along : PF P w K mg base "bend_along" 1 f_bend_along ["p", "r"] (spI2 (fun v_p v_r => True) (fun v_p v_r => V.int (g_bend_along v_p v_r)))) (p_offset : PF P w K mg base "offset" 2 f_offset ["line", "t"] (spI2 (fun v_line v_t => 0 ≤ v_line ∧ v_line < 6) (fun v_line v_t => V.int (g_offset v_line v_t)))) : FnOk P w K mg base (CXx P w) 3 f_bend_offset fd ["p", "r", "line"] (spI3 (fun v_p v_r v_line => 0 ≤ v_line ∧ v_line < 6) (fun v_p v_r v_line => V.int (g_bend_offset v_p v_r v_line))) := by
  refine F.okP3 sc_bend_offset rfl (fun cdv A outer s H E v_p v_r v_line hr hc => ?_)
  have hc : 0 ≤ v_line ∧ v_line < 6 := hc
  exact ⟨_, (pss_one (ps_ret (pe_op op_mul pe_int (pe_pf p_offset (hr.mono (by decide)) rfl (pa_cons (pv 2) (pa_cons (pe_pf p_bend_along (hr.mono (by decide)) rfl (pa_cons (pv 0) (pa_cons (pv 1) pa_nil))) pa_nil)))))), (.ret (.iC (.c _) (.f2 (.cons (.var rfl) (.cons (.f2 (.cons (.var rfl) (.cons (.var rfl) .nil)) True.intro) .nil)) (by omega)) (by unfold CMul; omega)))⟩
noncomputable def g_sinister_offset (v_p v_r v_line : Int) : Int := (8 * (g_offset (v_line) ((g_sinister_along (v_p) (v_r)))))
theorem sc_sinister_offset : FnScope ["p", "r", "line"] ["p", "r", "line"] (defScope s_sinister_offset) := ⟨rfl, rfl, rfl, by decide +kernel, rfl, by decide +kernel, by decide +kernel⟩
theorem ok_sinister_offset {f_offset f_sinister_along f_sinister_offset : Addr} {fd : FuncData} (F : Fun K "sinister_offset" "sinister_offset" s_sinister_offset f_sinister_offset fd) (p_offset : PF P w K mg base "offset" 2 f_offset ["line", "t"] (spI2 (fun v_line v_t => 0 ≤ v_line ∧ v_line < 6) (fun v_line v_t => V.int (g_offset v_line v_t)))) (p_sinister_along : PF P w K mg base "sinister_along" 2 f_sinister_along ["p", "r"] (spI2 (fun v_p v_r => True) (fun v_p v_r => V.int (g_sinister_along v_p v_r)))) : FnOk P w K mg base (CXx P w) 3 f_sinister_offset fd ["p", "r", "line"] (spI3 (fun v_p v_r v_line => 0 ≤ v_line ∧ v_line < 6) (fun v_p v_r v_line => V.int (g_sinister_offset v_p v_r v_line))) := by
  refine F.okP3 sc_sinister_offset rfl (fun cdv A outer s H E v_p v_r v_line hr hc => ?_)
  have hc : 0 ≤ v_line ∧ v_line < 6 := hc
  exact ⟨_, (pss_one (ps_ret (pe_op op_mul pe_int (pe_pf p_offset (hr.mono (by decide)) rfl (pa_cons (pv 2) (pa_cons (pe_pf p_sinister_along (hr.mono (by decide)) rfl (pa_cons (pv 0) (pa_cons (pv 1) pa_nil))) pa_nil)))))), (.ret (.iC (.c _) (.f2 (.cons (.var rfl) (.cons (.f2 (.cons (.var rfl) (.cons (.var rfl) .nil)) True.intro) .nil)) (by omega)) (by unfold CMul; omega)))⟩
noncomputable def g_from_middle (v_p : Int) : Int := (ab (v_p - (480 / 2)))
theorem sc_from_middle : FnScope ["p"] ["p"] (defScope s_from_middle) := ⟨rfl, rfl, rfl, by decide +kernel, rfl, by decide +kernel, by decide +kernel⟩
theorem ok_from_middle {f_from_middle : Addr} {fd : FuncData} (F : Fun K "from_middle" "from_middle" s_from_middle f_from_middle fd) (kC_WIDTH : ∃ t, mg "WIDTH" = some (.int 480 t)) (hB_abs : mg "abs" = none) : FnOk P w K mg base (CXx P w) 1 f_from_middle fd ["p"] (spI1 (fun v_p => True) (fun v_p => V.int (g_from_middle v_p))) := by
  obtain ⟨tC_WIDTH, hC_WIDTH⟩ := kC_WIDTH
  refine F.okP1 sc_from_middle rfl (fun cdv A outer s H E v_p hr hc => ?_)
  have hc : True := hc
  exact ⟨_, (pss_one (ps_ret (pe_callB call_abs rfl hB_abs boot_abs (pa_cons (pe_op op_sub (pv 0) (pe_op op_fdiv (pe_glob (v := .int 480) rfl hC_WIDTH ⟨tC_WIDTH, rfl⟩) pe_int)) pa_nil)))), (.ret (.abs (.cons (.i0 (.var rfl) (.iC (.c _) (.c _) (by unfold CDiv; omega))) .nil)))⟩
noncomputable def g_per_pale (v_p v_r v_line : Int) : Bool := decide (v_p < (240 + (g_offset (v_line) (v_r))))
theorem sc_per_pale : FnScope ["p", "r", "line"] ["p", "r", "line"] (defScope s_per_pale) := ⟨rfl, rfl, rfl, by decide +kernel, rfl, by decide +kernel, by decide +kernel⟩
theorem ok_per_pale {f_offset f_per_pale : Addr} {fd : FuncData} (F : Fun K "per_pale" "per_pale" s_per_pale f_per_pale fd) (p_offset : PF P w K mg base "offset" 2 f_offset ["line", "t"] (spI2 (fun v_line v_t => 0 ≤ v_line ∧ v_line < 6) (fun v_line v_t => V.int (g_offset v_line v_t)))) : FnOk P w K mg base (CXx P w) 3 f_per_pale fd ["p", "r", "line"] (spI3 (fun v_p v_r v_line => 0 ≤ v_line ∧ v_line < 6) (fun v_p v_r v_line => V.bl (g_per_pale v_p v_r v_line))) := by
  refine F.okP3 sc_per_pale rfl (fun cdv A outer s H E v_p v_r v_line hr hc => ?_)
  have hc : 0 ≤ v_line ∧ v_line < 6 := hc
  exact ⟨_, (pss_one (ps_ret (pe_cmpR op_lt (pv 0) (pe_op op_add pe_int (pe_pf p_offset (hr.mono (by decide)) rfl (pa_cons (pv 2) (pa_cons (pv 1) pa_nil)))) (nomark _)))), (.ret (.i0 (.var rfl) (.i0 (.c _) (.f2 (.cons (.var rfl) (.cons (.var rfl) .nil)) (by omega)))))⟩
noncomputable def g_per_fess (v_p v_r v_line : Int) : Bool := decide (v_r < (288 + (g_offset (v_line) (v_p))))
theorem sc_per_fess : FnScope ["p", "r", "line"] ["p", "r", "line"] (defScope s_per_fess) := ⟨rfl, rfl, rfl, by decide +kernel, rfl, by decide +kernel, by decide +kernel⟩
theorem ok_per_fess {f_offset f_per_fess : Addr} {fd : FuncData} (F : Fun K "per_fess" "per_fess" s_per_fess f_per_fess fd) (p_offset : PF P w K mg base "offset" 2 f_offset ["line", "t"] (spI2 (fun v_line v_t => 0 ≤ v_line ∧ v_line < 6) (fun v_line v_t => V.int (g_offset v_line v_t)))) : FnOk P w K mg base (CXx P w) 3 f_per_fess fd ["p", "r", "line"] (spI3 (fun v_p v_r v_line => 0 ≤ v_line ∧ v_line < 6) (fun v_p v_r v_line => V.bl (g_per_fess v_p v_r v_line))) := by
  refine F.okP3 sc_per_fess rfl (fun cdv A outer s H E v_p v_r v_line hr hc => ?_)
  have hc : 0 ≤ v_line ∧ v_line < 6 := hc
  exact ⟨_, (pss_one (ps_ret (pe_cmpR op_lt (pv 1) (pe_op op_add pe_int (pe_pf p_offset (hr.mono (by decide)) rfl (pa_cons (pv 2) (pa_cons (pv 0) pa_nil)))) (nomark _)))), (.ret (.i0 (.var rfl) (.i0 (.c _) (.f2 (.cons (.var rfl) (.cons (.var rfl) .nil)) (by omega)))))⟩
noncomputable def g_per_bend (v_p v_r v_line : Int) : Bool := decide ((g_bend_offset (v_p) (v_r) (v_line)) < (g_bend_across (v_p) (v_r)))
theorem sc_per_bend : FnScope ["p", "r", "line"] ["p", "r", "line"] (defScope s_per_bend) := ⟨rfl, rfl, rfl, by decide +kernel, rfl, by decide +kernel, by decide +kernel⟩
theorem ok_per_bend {f_bend_across f_bend_offset f_per_bend : Addr} {fd : FuncData} (F : Fun K "per_bend" "per_bend" s_per_bend f_per_bend fd) (p_bend_across : PF P w K mg base "bend_across" 1 f_bend_across ["p", "r"] (spI2 (fun v_p v_r => True) (fun v_p v_r => V.int (g_bend_across v_p v_r)))) (p_bend_offset : PF P w K mg base "bend_offset" 3 f_bend_offset ["p", "r", "line"] (spI3 (fun v_p v_r v_line => 0 ≤ v_line ∧ v_line < 6) (fun v_p v_r v_line => V.int (g_bend_offset v_p v_r v_line)))) : FnOk P w K mg base (CXx P w) 4 f_per_bend fd ["p", "r", "line"] (spI3 (fun v_p v_r v_line => 0 ≤ v_line ∧ v_line < 6) (fun v_p v_r v_line => V.bl (g_per_bend v_p v_r v_line))) := by
  refine F.okP3 sc_per_bend rfl (fun cdv A outer s H E v_p v_r v_line hr hc => ?_)
  have hc : 0 ≤ v_line ∧ v_line < 6 := hc
  exact ⟨_, (pss_one (ps_ret (pe_cmpR op_gt (pe_pf p_bend_across (hr.mono (by decide)) rfl (pa_cons (pv 0) (pa_cons (pv 1) pa_nil))) (pe_pf p_bend_offset (hr.mono (by decide)) rfl (pa_cons (pv 0) (pa_cons (pv 1) (pa_cons (pv 2) pa_nil)))) (nomark _)))), (.ret (.i0 (.f2 (.cons (.var rfl) (.cons (.var rfl) .nil)) True.intro) (.f3 (.cons (.var rfl) (.cons (.var rfl) (.cons (.var rfl) .nil))) (by omega))))⟩
noncomputable def g_per_bend_sinister (v_p v_r v_line : Int) : Bool := decide ((g_sinister_offset (v_p) (v_r) (v_line)) < (g_sinister_across (v_p) (v_r)))
theorem sc_per_bend_sinister : FnScope ["p", "r", "line"] ["p", "r", "line"] (defScope s_per_bend_sinister) := ⟨rfl, rfl, rfl, by decide +kernel, rfl, by decide +kernel, by decide +kernel⟩
theorem ok_per_bend_sinister {f_per_bend_sinister f_sinister_across f_sinister_offset : Addr} {fd : FuncData} (F : Fun K "per_bend_sinister" "per_bend_sinister" s_per_bend_sinister f_per_bend_sinister fd) (p_sinister_across : PF P w K mg base "sinister_across" 2 f_sinister_across ["p", "r"] (spI2 (fun v_p v_r => True) (fun v_p v_r => V.int (g_sinister_across v_p v_r)))) (p_sinister_offset : PF P w K mg base "sinister_offset" 3 f_sinister_offset ["p", "r", "line"] (spI3 (fun v_p v_r v_line => 0 ≤ v_line ∧ v_line < 6) (fun v_p v_r v_line => V.int (g_sinister_offset v_p v_r v_line)))) : FnOk P w K mg base (CXx P w) 4 f_per_bend_sinister fd ["p", "r", "line"] (spI3 (fun v_p v_r v_line => 0 ≤ v_line ∧ v_line < 6) (fun v_p v_r v_line => V.bl (g_per_bend_sinister v_p v_r v_line))) := by
  refine F.okP3 sc_per_bend_sinister rfl (fun cdv A outer s H E v_p v_r v_line hr hc => ?_)
  have hc : 0 ≤ v_line ∧ v_line < 6 := hc
  exact ⟨_, (pss_one (ps_ret (pe_cmpR op_gt (pe_pf p_sinister_across (hr.mono (by decide)) rfl (pa_cons (pv 0) (pa_cons (pv 1) pa_nil))) (pe_pf p_sinister_offset (hr.mono (by decide)) rfl (pa_cons (pv 0) (pa_cons (pv 1) (pa_cons (pv 2) pa_nil)))) (nomark _)))), (.ret (.i0 (.f2 (.cons (.var rfl) (.cons (.var rfl) .nil)) True.intro) (.f3 (.cons (.var rfl) (.cons (.var rfl) (.cons (.var rfl) .nil))) (by omega))))⟩
noncomputable def g_per_chevron (v_p v_r v_line : Int) : Bool := decide (v_r < ((192 + (g_from_middle (v_p))) + (g_offset (v_line) (v_p))))
theorem sc_per_chevron : FnScope ["p", "r", "line"] ["p", "r", "line"] (defScope s_per_chevron) := ⟨rfl, rfl, rfl, by decide +kernel, rfl, by decide +kernel, by decide +kernel⟩
theorem ok_per_chevron {f_from_middle f_offset f_per_chevron : Addr} {fd : FuncData} (F : Fun K "per_chevron" "per_chevron" s_per_chevron f_per_chevron fd) (p_from_middle : PF P w K mg base "from_middle" 1 f_from_middle ["p"] (spI1 (fun v_p => True) (fun v_p => V.int (g_from_middle v_p)))) (p_offset : PF P w K mg base "offset" 2 f_offset ["line", "t"] (spI2 (fun v_line v_t => 0 ≤ v_line ∧ v_line < 6) (fun v_line v_t => V.int (g_offset v_line v_t)))) : FnOk P w K mg base (CXx P w) 3 f_per_chevron fd ["p", "r", "line"] (spI3 (fun v_p v_r v_line => 0 ≤ v_line ∧ v_line < 6) (fun v_p v_r v_line => V.bl (g_per_chevron v_p v_r v_line))) := by
  refine F.okP3 sc_per_chevron rfl (fun cdv A outer s H E v_p v_r v_line hr hc => ?_)
  have hc : 0 ≤ v_line ∧ v_line < 6 := hc
  exact ⟨_, (pss_one (ps_ret (pe_cmpR op_lt (pv 1) (pe_op op_add (pe_op op_add pe_int (pe_pf p_from_middle (hr.mono (by decide)) rfl (pa_cons (pv 0) pa_nil))) (pe_pf p_offset (hr.mono (by decide)) rfl (pa_cons (pv 2) (pa_cons (pv 0) pa_nil)))) (nomark _)))), (.ret (.i0 (.var rfl) (.i0 (.i0 (.c _) (.f1 (.cons (.var rfl) .nil) True.intro)) (.f2 (.cons (.var rfl) (.cons (.var rfl) .nil)) (by omega)))))⟩
noncomputable def g_per_saltire (v_p v_r v_line : Int) : Bool := ((g_per_bend (v_p) (v_r) (v_line)) == (g_per_bend_sinister (v_p) (v_r) (v_line)))
theorem sc_per_saltire : FnScope ["p", "r", "line"] ["p", "r", "line"] (defScope s_per_saltire) := ⟨rfl, rfl, rfl, by decide +kernel, rfl, by decide +kernel, by decide +kernel⟩
theorem ok_per_saltire {f_per_bend f_per_bend_sinister f_per_saltire : Addr} {fd : FuncData} (F : Fun K "per_saltire" "per_saltire" s_per_saltire f_per_saltire fd) (p_per_bend : PF P w K mg base "per_bend" 4 f_per_bend ["p", "r", "line"] (spI3 (fun v_p v_r v_line => 0 ≤ v_line ∧ v_line < 6) (fun v_p v_r v_line => V.bl (g_per_bend v_p v_r v_line)))) (p_per_bend_sinister : PF P w K mg base "per_bend_sinister" 4 f_per_bend_sinister ["p", "r", "line"] (spI3 (fun v_p v_r v_line => 0 ≤ v_line ∧ v_line < 6) (fun v_p v_r v_line => V.bl (g_per_bend_sinister v_p v_r v_line)))) : FnOk P w K mg base (CXx P w) 5 f_per_saltire fd ["p", "r", "line"] (spI3 (fun v_p v_r v_line => 0 ≤ v_line ∧ v_line < 6) (fun v_p v_r v_line => V.bl (g_per_saltire v_p v_r v_line))) := by
  refine F.okP3 sc_per_saltire rfl (fun cdv A outer s H E v_p v_r v_line hr hc => ?_)
  have hc : 0 ≤ v_line ∧ v_line < 6 := hc
  exact ⟨_, (pss_one (ps_ret (pe_cmpR op_eq (pe_pf p_per_bend (hr.mono (by decide)) rfl (pa_cons (pv 0) (pa_cons (pv 1) (pa_cons (pv 2) pa_nil)))) (pe_pf p_per_bend_sinister (hr.mono (by decide)) rfl (pa_cons (pv 0) (pa_cons (pv 1) (pa_cons (pv 2) pa_nil)))) (nomark _)))), (.ret (.eqB (.f3 (.cons (.var rfl) (.cons (.var rfl) (.cons (.var rfl) .nil))) (by omega)) (.f3 (.cons (.var rfl) (.cons (.var rfl) (.cons (.var rfl) .nil))) (by omega))))⟩
noncomputable def g_quarterly (v_p v_r v_line : Int) : Bool := ((g_per_pale (v_p) (v_r) (v_line)) == (g_per_fess (v_p) (v_r) (v_line)))
theorem sc_quarterly : FnScope ["p", "r", "line"] ["p", "r", "line"] (defScope s_quarterly) := ⟨rfl, rfl, rfl, by decide +kernel, rfl, by decide +kernel, by decide +kernel⟩
theorem ok_quarterly {f_per_fess f_per_pale f_quarterly : Addr} {fd : FuncData} (F : Fun K "quarterly" "quarterly" s_quarterly f_quarterly fd) (p_per_fess : PF P w K mg base "per_fess" 3 f_per_fess ["p", "r", "line"] (spI3 (fun v_p v_r v_line => 0 ≤ v_line ∧ v_line < 6) (fun v_p v_r v_line => V.bl (g_per_fess v_p v_r v_line)))) (p_per_pale : PF P w K mg base "per_pale" 3 f_per_pale ["p", "r", "line"] (spI3 (fun v_p v_r v_line => 0 ≤ v_line ∧ v_line < 6) (fun v_p v_r v_line => V.bl (g_per_pale v_p v_r v_line)))) : FnOk P w K mg base (CXx P w) 4 f_quarterly fd ["p", "r", "line"] (spI3 (fun v_p v_r v_line => 0 ≤ v_line ∧ v_line < 6) (fun v_p v_r v_line => V.bl (g_quarterly v_p v_r v_line))) := by
  refine F.okP3 sc_quarterly rfl (fun cdv A outer s H E v_p v_r v_line hr hc => ?_)
  have hc : 0 ≤ v_line ∧ v_line < 6 := hc
  exact ⟨_, (pss_one (ps_ret (pe_cmpR op_eq (pe_pf p_per_pale (hr.mono (by decide)) rfl (pa_cons (pv 0) (pa_cons (pv 1) (pa_cons (pv 2) pa_nil)))) (pe_pf p_per_fess (hr.mono (by decide)) rfl (pa_cons (pv 0) (pa_cons (pv 1) (pa_cons (pv 2) pa_nil)))) (nomark _)))), (.ret (.eqB (.f3 (.cons (.var rfl) (.cons (.var rfl) (.cons (.var rfl) .nil))) (by omega)) (.f3 (.cons (.var rfl) (.cons (.var rfl) (.cons (.var rfl) .nil))) (by omega))))⟩
noncomputable def g_gyronny (v_p v_r v_line : Int) : Bool := ((g_per_saltire (v_p) (v_r) (v_line)) != (g_quarterly (v_p) (v_r) (v_line)))
theorem sc_gyronny : FnScope ["p", "r", "line"] ["p", "r", "line"] (defScope s_gyronny) := ⟨rfl, rfl, rfl, by decide +kernel, rfl, by decide +kernel, by decide +kernel⟩
theorem ok_gyronny {f_gyronny f_per_saltire f_quarterly : Addr} {fd : FuncData} (F : Fun K "gyronny" "gyronny" s_gyronny f_gyronny fd) (p_per_saltire : PF P w K mg base "per_saltire" 5 f_per_saltire ["p", "r", "line"] (spI3 (fun v_p v_r v_line => 0 ≤ v_line ∧ v_line < 6) (fun v_p v_r v_line => V.bl (g_per_saltire v_p v_r v_line)))) (p_quarterly : PF P w K mg base "quarterly" 4 f_quarterly ["p", "r", "line"] (spI3 (fun v_p v_r v_line => 0 ≤ v_line ∧ v_line < 6) (fun v_p v_r v_line => V.bl (g_quarterly v_p v_r v_line)))) : FnOk P w K mg base (CXx P w) 6 f_gyronny fd ["p", "r", "line"] (spI3 (fun v_p v_r v_line => 0 ≤ v_line ∧ v_line < 6) (fun v_p v_r v_line => V.bl (g_gyronny v_p v_r v_line))) := by
  refine F.okP3 sc_gyronny rfl (fun cdv A outer s H E v_p v_r v_line hr hc => ?_)
  have hc : 0 ≤ v_line ∧ v_line < 6 := hc
  exact ⟨_, (pss_one (ps_ret (pe_cmpR op_ne (pe_pf p_per_saltire (hr.mono (by decide)) rfl (pa_cons (pv 0) (pa_cons (pv 1) (pa_cons (pv 2) pa_nil)))) (pe_pf p_quarterly (hr.mono (by decide)) rfl (pa_cons (pv 0) (pa_cons (pv 1) (pa_cons (pv 2) pa_nil)))) (nomark _)))), (.ret (.neB (.f3 (.cons (.var rfl) (.cons (.var rfl) (.cons (.var rfl) .nil))) (by omega)) (.f3 (.cons (.var rfl) (.cons (.var rfl) (.cons (.var rfl) .nil))) (by omega))))⟩
noncomputable def g_barry (v_p v_r v_n v_line : Int) : Int := (((v_r + (g_offset (v_line) (v_p))) * v_n) / 576)
theorem sc_barry : FnScope ["p", "r", "n", "line"] ["p", "r", "n", "line"] (defScope s_barry) := ⟨rfl, rfl, rfl, by decide +kernel, rfl, by decide +kernel, by decide +kernel⟩
theorem ok_barry {f_barry f_offset : Addr} {fd : FuncData} (F : Fun K "barry" "barry" s_barry f_barry fd) (p_offset : PF P w K mg base "offset" 2 f_offset ["line", "t"] (spI2 (fun v_line v_t => 0 ≤ v_line ∧ v_line < 6) (fun v_line v_t => V.int (g_offset v_line v_t)))) : FnOk P w K mg base (CXx P w) 3 f_barry fd ["p", "r", "n", "line"] (spI4 (fun v_p v_r v_n v_line => 0 ≤ v_line ∧ v_line < 6 ∧ 2 ≤ v_n ∧ v_n ≤ 24) (fun v_p v_r v_n v_line => V.int (g_barry v_p v_r v_n v_line))) := by
  refine F.okP4 sc_barry rfl (fun cdv A outer s H E v_p v_r v_n v_line hr hc => ?_)
  have hc : 0 ≤ v_line ∧ v_line < 6 ∧ 2 ≤ v_n ∧ v_n ≤ 24 := hc
  exact ⟨_, (pss_one (ps_ret (pe_op op_fdiv (pe_op op_mul (pe_op op_add (pv 1) (pe_pf p_offset (hr.mono (by decide)) rfl (pa_cons (pv 3) (pa_cons (pv 0) pa_nil)))) (pv 2)) pe_int))), (.ret (.iC (.iC (.i0 (.var rfl) (.f2 (.cons (.var rfl) (.cons (.var rfl) .nil)) (by omega))) (.var rfl) (by unfold CMul; omega)) (.c _) (by unfold CDiv; omega)))⟩
noncomputable def g_paly (v_p v_r v_n v_line : Int) : Int := (((v_p + (g_offset (v_line) (v_r))) * v_n) / 480)
theorem sc_paly : FnScope ["p", "r", "n", "line"] ["p", "r", "n", "line"] (defScope s_paly) := ⟨rfl, rfl, rfl, by decide +kernel, rfl, by decide +kernel, by decide +kernel⟩
theorem ok_paly {f_offset f_paly : Addr} {fd : FuncData} (F : Fun K "paly" "paly" s_paly f_paly fd) (p_offset : PF P w K mg base "offset" 2 f_offset ["line", "t"] (spI2 (fun v_line v_t => 0 ≤ v_line ∧ v_line < 6) (fun v_line v_t => V.int (g_offset v_line v_t)))) : FnOk P w K mg base (CXx P w) 3 f_paly fd ["p", "r", "n", "line"] (spI4 (fun v_p v_r v_n v_line => 0 ≤ v_line ∧ v_line < 6 ∧ 2 ≤ v_n ∧ v_n ≤ 24) (fun v_p v_r v_n v_line => V.int (g_paly v_p v_r v_n v_line))) := by
  refine F.okP4 sc_paly rfl (fun cdv A outer s H E v_p v_r v_n v_line hr hc => ?_)
  have hc : 0 ≤ v_line ∧ v_line < 6 ∧ 2 ≤ v_n ∧ v_n ≤ 24 := hc
  exact ⟨_, (pss_one (ps_ret (pe_op op_fdiv (pe_op op_mul (pe_op op_add (pv 0) (pe_pf p_offset (hr.mono (by decide)) rfl (pa_cons (pv 3) (pa_cons (pv 1) pa_nil)))) (pv 2)) pe_int))), (.ret (.iC (.iC (.i0 (.var rfl) (.f2 (.cons (.var rfl) (.cons (.var rfl) .nil)) (by omega))) (.var rfl) (by unfold CMul; omega)) (.c _) (by unfold CDiv; omega)))⟩
noncomputable def g_bendy (v_p v_r v_n v_line : Int) : Int := (((((g_bend_across (v_p) (v_r)) + 2880) + (g_bend_offset (v_p) (v_r) (v_line))) * v_n) / 5760)
theorem sc_bendy : FnScope ["p", "r", "n", "line"] ["p", "r", "n", "line"] (defScope s_bendy) := ⟨rfl, rfl, rfl, by decide +kernel, rfl, by decide +kernel, by decide +kernel⟩
theorem ok_bendy {f_bend_across f_bend_offset f_bendy : Addr} {fd : FuncData} (F : Fun K "bendy" "bendy" s_bendy f_bendy fd) (p_bend_across : PF P w K mg base "bend_across" 1 f_bend_across ["p", "r"] (spI2 (fun v_p v_r => True) (fun v_p v_r => V.int (g_bend_across v_p v_r)))) (p_bend_offset : PF P w K mg base "bend_offset" 3 f_bend_offset ["p", "r", "line"] (spI3 (fun v_p v_r v_line => 0 ≤ v_line ∧ v_line < 6) (fun v_p v_r v_line => V.int (g_bend_offset v_p v_r v_line)))) : FnOk P w K mg base (CXx P w) 4 f_bendy fd ["p", "r", "n", "line"] (spI4 (fun v_p v_r v_n v_line => 0 ≤ v_line ∧ v_line < 6 ∧ 2 ≤ v_n ∧ v_n ≤ 24) (fun v_p v_r v_n v_line => V.int (g_bendy v_p v_r v_n v_line))) := by
  refine F.okP4 sc_bendy rfl (fun cdv A outer s H E v_p v_r v_n v_line hr hc => ?_)
  have hc : 0 ≤ v_line ∧ v_line < 6 ∧ 2 ≤ v_n ∧ v_n ≤ 24 := hc
  exact ⟨_, (pss_one (ps_ret (pe_op op_fdiv (pe_op op_mul (pe_op op_add (pe_op op_add (pe_pf p_bend_across (hr.mono (by decide)) rfl (pa_cons (pv 0) (pa_cons (pv 1) pa_nil))) pe_int) (pe_pf p_bend_offset (hr.mono (by decide)) rfl (pa_cons (pv 0) (pa_cons (pv 1) (pa_cons (pv 3) pa_nil))))) (pv 2)) pe_int))), (.ret (.iC (.iC (.i0 (.i0 (.f2 (.cons (.var rfl) (.cons (.var rfl) .nil)) True.intro) (.c _)) (.f3 (.cons (.var rfl) (.cons (.var rfl) (.cons (.var rfl) .nil))) (by omega))) (.var rfl) (by unfold CMul; omega)) (.c _) (by unfold CDiv; omega)))⟩
noncomputable def g_bendy_sinister (v_p v_r v_n v_line : Int) : Int := (((((g_sinister_across (v_p) (v_r)) + 2880) + (g_sinister_offset (v_p) (v_r) (v_line))) * v_n) / 5760)
theorem sc_bendy_sinister : FnScope ["p", "r", "n", "line"] ["p", "r", "n", "line"] (defScope s_bendy_sinister) := ⟨rfl, rfl, rfl, by decide +kernel, rfl, by decide +kernel, by decide +kernel⟩
theorem ok_bendy_sinister {f_bendy_sinister f_sinister_across f_sinister_offset : Addr} {fd : FuncData} (F : Fun K "bendy_sinister" "bendy_sinister" s_bendy_sinister f_bendy_sinister fd) (p_sinister_across : PF P w K mg base "sinister_across" 2 f_sinister_across ["p", "r"] (spI2 (fun v_p v_r => True) (fun v_p v_r => V.int (g_sinister_across v_p v_r)))) (p_sinister_offset : PF P w K mg base "sinister_offset" 3 f_sinister_offset ["p", "r", "line"] (spI3 (fun v_p v_r v_line => 0 ≤ v_line ∧ v_line < 6) (fun v_p v_r v_line => V.int (g_sinister_offset v_p v_r v_line)))) : FnOk P w K mg base (CXx P w) 4 f_bendy_sinister fd ["p", "r", "n", "line"] (spI4 (fun v_p v_r v_n v_line => 0 ≤ v_line ∧ v_line < 6 ∧ 2 ≤ v_n ∧ v_n ≤ 24) (fun v_p v_r v_n v_line => V.int (g_bendy_sinister v_p v_r v_n v_line))) := by
  refine F.okP4 sc_bendy_sinister rfl (fun cdv A outer s H E v_p v_r v_n v_line hr hc => ?_)
  have hc : 0 ≤ v_line ∧ v_line < 6 ∧ 2 ≤ v_n ∧ v_n ≤ 24 := hc
  exact ⟨_, (pss_one (ps_ret (pe_op op_fdiv (pe_op op_mul (pe_op op_add (pe_op op_add (pe_pf p_sinister_across (hr.mono (by decide)) rfl (pa_cons (pv 0) (pa_cons (pv 1) pa_nil))) pe_int) (pe_pf p_sinister_offset (hr.mono (by decide)) rfl (pa_cons (pv 0) (pa_cons (pv 1) (pa_cons (pv 3) pa_nil))))) (pv 2)) pe_int))), (.ret (.iC (.iC (.i0 (.i0 (.f2 (.cons (.var rfl) (.cons (.var rfl) .nil)) True.intro) (.c _)) (.f3 (.cons (.var rfl) (.cons (.var rfl) (.cons (.var rfl) .nil))) (by omega))) (.var rfl) (by unfold CMul; omega)) (.c _) (by unfold CDiv; omega)))⟩
noncomputable def g_chevronny (v_p v_r v_n v_line : Int) : Int := (((((v_r - (g_from_middle (v_p))) + 240) + (g_offset (v_line) (v_p))) * v_n) / 816)
theorem sc_chevronny : FnScope ["p", "r", "n", "line"] ["p", "r", "n", "line"] (defScope s_chevronny) := ⟨rfl, rfl, rfl, by decide +kernel, rfl, by decide +kernel, by decide +kernel⟩
theorem ok_chevronny {f_chevronny f_from_middle f_offset : Addr} {fd : FuncData} (F : Fun K "chevronny" "chevronny" s_chevronny f_chevronny fd) (p_from_middle : PF P w K mg base "from_middle" 1 f_from_middle ["p"] (spI1 (fun v_p => True) (fun v_p => V.int (g_from_middle v_p)))) (p_offset : PF P w K mg base "offset" 2 f_offset ["line", "t"] (spI2 (fun v_line v_t => 0 ≤ v_line ∧ v_line < 6) (fun v_line v_t => V.int (g_offset v_line v_t)))) : FnOk P w K mg base (CXx P w) 3 f_chevronny fd ["p", "r", "n", "line"] (spI4 (fun v_p v_r v_n v_line => 0 ≤ v_line ∧ v_line < 6 ∧ 2 ≤ v_n ∧ v_n ≤ 24) (fun v_p v_r v_n v_line => V.int (g_chevronny v_p v_r v_n v_line))) := by
  refine F.okP4 sc_chevronny rfl (fun cdv A outer s H E v_p v_r v_n v_line hr hc => ?_)
  have hc : 0 ≤ v_line ∧ v_line < 6 ∧ 2 ≤ v_n ∧ v_n ≤ 24 := hc
  exact ⟨_, (pss_one (ps_ret (pe_op op_fdiv (pe_op op_mul (pe_op op_add (pe_op op_add (pe_op op_sub (pv 1) (pe_pf p_from_middle (hr.mono (by decide)) rfl (pa_cons (pv 0) pa_nil))) pe_int) (pe_pf p_offset (hr.mono (by decide)) rfl (pa_cons (pv 3) (pa_cons (pv 0) pa_nil)))) (pv 2)) pe_int))), (.ret (.iC (.iC (.i0 (.i0 (.i0 (.var rfl) (.f1 (.cons (.var rfl) .nil) True.intro)) (.c _)) (.f2 (.cons (.var rfl) (.cons (.var rfl) .nil)) (by omega))) (.var rfl) (by unfold CMul; omega)) (.c _) (by unfold CDiv; omega)))⟩
noncomputable def g_chequy (v_p v_r v_n v_line : Int) : Int := (((v_p * v_n) / 480) + ((v_r * (((6 * v_n) + 4) / 5)) / 576))
theorem sc_chequy : FnScope ["p", "r", "n", "line"] ["p", "r", "n", "line"] (defScope s_chequy) := ⟨rfl, rfl, rfl, by decide +kernel, rfl, by decide +kernel, by decide +kernel⟩
theorem ok_chequy {f_chequy : Addr} {fd : FuncData} (F : Fun K "chequy" "chequy" s_chequy f_chequy fd) : FnOk P w K mg base (CXx P w) 1 f_chequy fd ["p", "r", "n", "line"] (spI4 (fun v_p v_r v_n v_line => 0 ≤ v_line ∧ v_line < 6 ∧ 2 ≤ v_n ∧ v_n ≤ 24) (fun v_p v_r v_n v_line => V.int (g_chequy v_p v_r v_n v_line))) := by
  refine F.okP4 sc_chequy rfl (fun cdv A outer s H E v_p v_r v_n v_line hr hc => ?_)
  have hc : 0 ≤ v_line ∧ v_line < 6 ∧ 2 ≤ v_n ∧ v_n ≤ 24 := hc
  exact ⟨_, (pss_one (ps_ret (pe_op op_add (pe_op op_fdiv (pe_op op_mul (pv 0) (pv 2)) pe_int) (pe_op op_fdiv (pe_op op_mul (pv 1) (pe_op op_fdiv (pe_op op_add (pe_op op_mul pe_int (pv 2)) pe_int) pe_int)) pe_int)))), (.ret (.i0 (.iC (.iC (.var rfl) (.var rfl) (by unfold CMul; omega)) (.c _) (by unfold CDiv; omega)) (.iC (.iC (.var rfl) (.iC (.i0 (.iC (.c _) (.var rfl) (by unfold CMul; omega)) (.c _)) (.c _) (by unfold CDiv; omega)) (by unfold CMul; omega)) (.c _) (by unfold CDiv; omega))))⟩
noncomputable def g_lozengy (v_p v_r v_n v_line : Int) : Int := (((((6 * v_p) + (5 * v_r)) * v_n) / 5760) + ((((g_bend_across (v_p) (v_r)) + 2880) * v_n) / 5760))
theorem sc_lozengy : FnScope ["p", "r", "n", "line"] ["p", "r", "n", "line"] (defScope s_lozengy) := ⟨rfl, rfl, rfl, by decide +kernel, rfl, by decide +kernel, by decide +kernel⟩
theorem ok_lozengy {f_bend_across f_lozengy : Addr} {fd : FuncData} (F : Fun K "lozengy" "lozengy" s_lozengy f_lozengy fd) (p_bend_across : PF P w K mg base "bend_across" 1 f_bend_across ["p", "r"] (spI2 (fun v_p v_r => True) (fun v_p v_r => V.int (g_bend_across v_p v_r)))) : FnOk P w K mg base (CXx P w) 2 f_lozengy fd ["p", "r", "n", "line"] (spI4 (fun v_p v_r v_n v_line => 0 ≤ v_line ∧ v_line < 6 ∧ 2 ≤ v_n ∧ v_n ≤ 24) (fun v_p v_r v_n v_line => V.int (g_lozengy v_p v_r v_n v_line))) := by
  refine F.okP4 sc_lozengy rfl (fun cdv A outer s H E v_p v_r v_n v_line hr hc => ?_)
  have hc : 0 ≤ v_line ∧ v_line < 6 ∧ 2 ≤ v_n ∧ v_n ≤ 24 := hc
  exact ⟨_, (pss_one (ps_ret (pe_op op_add (pe_op op_fdiv (pe_op op_mul (pe_op op_add (pe_op op_mul pe_int (pv 0)) (pe_op op_mul pe_int (pv 1))) (pv 2)) pe_int) (pe_op op_fdiv (pe_op op_mul (pe_op op_add (pe_pf p_bend_across (hr.mono (by decide)) rfl (pa_cons (pv 0) (pa_cons (pv 1) pa_nil))) pe_int) (pv 2)) pe_int)))), (.ret (.i0 (.iC (.iC (.i0 (.iC (.c _) (.var rfl) (by unfold CMul; omega)) (.iC (.c _) (.var rfl) (by unfold CMul; omega))) (.var rfl) (by unfold CMul; omega)) (.c _) (by unfold CDiv; omega)) (.iC (.iC (.i0 (.f2 (.cons (.var rfl) (.cons (.var rfl) .nil)) True.intro) (.c _)) (.var rfl) (by unfold CMul; omega)) (.c _) (by unfold CDiv; omega))))⟩
noncomputable def g_distance (v_x v_y : Int) : Int := ((v_x * v_x) + (v_y * v_y))
theorem sc_distance : FnScope ["x", "y"] ["x", "y"] (defScope s_distance) := ⟨rfl, rfl, rfl, by decide +kernel, rfl, by decide +kernel, by decide +kernel⟩
theorem ok_distance {f_distance : Addr} {fd : FuncData} (F : Fun K "distance" "distance" s_distance f_distance fd) : FnOk P w K mg base (CXx P w) 1 f_distance fd ["x", "y"] (spI2 (fun v_x v_y => -100 ≤ v_x ∧ v_x ≤ 100 ∧ -100 ≤ v_y ∧ v_y ≤ 100) (fun v_x v_y => V.int (g_distance v_x v_y))) := by
  refine F.okP2 sc_distance rfl (fun cdv A outer s H E v_x v_y hr hc => ?_)
  have hc : -100 ≤ v_x ∧ v_x ≤ 100 ∧ -100 ≤ v_y ∧ v_y ≤ 100 := hc
  exact ⟨_, (pss_one (ps_ret (pe_op op_add (pe_op op_mul (pv 0) (pv 0)) (pe_op op_mul (pv 1) (pv 1))))), (.ret (.i0 (.iC (.var rfl) (.var rfl) (by unfold CMul; omega)) (.iC (.var rfl) (.var rfl) (by unfold CMul; omega))))⟩
noncomputable def g_roundel (v_x v_y : Int) : Bool := decide ((g_distance (v_x) (v_y)) < 2304)
theorem sc_roundel : FnScope ["x", "y"] ["x", "y"] (defScope s_roundel) := ⟨rfl, rfl, rfl, by decide +kernel, rfl, by decide +kernel, by decide +kernel⟩
theorem ok_roundel {f_distance f_roundel : Addr} {fd : FuncData} (F : Fun K "roundel" "roundel" s_roundel f_roundel fd) (p_distance : PF P w K mg base "distance" 1 f_distance ["x", "y"] (spI2 (fun v_x v_y => -100 ≤ v_x ∧ v_x ≤ 100 ∧ -100 ≤ v_y ∧ v_y ≤ 100) (fun v_x v_y => V.int (g_distance v_x v_y)))) : FnOk P w K mg base (CXx P w) 2 f_roundel fd ["x", "y"] (spI2 (fun v_x v_y => -48 ≤ v_x ∧ v_x ≤ 48 ∧ -48 ≤ v_y ∧ v_y ≤ 48) (fun v_x v_y => V.bl (g_roundel v_x v_y))) := by
  refine F.okP2 sc_roundel rfl (fun cdv A outer s H E v_x v_y hr hc => ?_)
  have hc : -48 ≤ v_x ∧ v_x ≤ 48 ∧ -48 ≤ v_y ∧ v_y ≤ 48 := hc
  exact ⟨_, (pss_one (ps_ret (pe_cmpR op_lt (pe_pf p_distance (hr.mono (by decide)) rfl (pa_cons (pv 0) (pa_cons (pv 1) pa_nil))) pe_int (nomark _)))), (.ret (.i0 (.f2 (.cons (.var rfl) (.cons (.var rfl) .nil)) (by omega)) (.c _)))⟩
noncomputable def g_annulet (v_x v_y : Int) : Bool := (decide (1024 ≤ (g_distance (v_x) (v_y))) && decide ((g_distance (v_x) (v_y)) < 2304))
theorem sc_annulet : FnScope ["x", "y"] ["x", "y"] (defScope s_annulet) := ⟨rfl, rfl, rfl, by decide +kernel, rfl, by decide +kernel, by decide +kernel⟩
theorem ok_annulet {f_annulet f_distance : Addr} {fd : FuncData} (F : Fun K "annulet" "annulet" s_annulet f_annulet fd) (p_distance : PF P w K mg base "distance" 1 f_distance ["x", "y"] (spI2 (fun v_x v_y => -100 ≤ v_x ∧ v_x ≤ 100 ∧ -100 ≤ v_y ∧ v_y ≤ 100) (fun v_x v_y => V.int (g_distance v_x v_y)))) : FnOk P w K mg base (CXx P w) 2 f_annulet fd ["x", "y"] (spI2 (fun v_x v_y => -48 ≤ v_x ∧ v_x ≤ 48 ∧ -48 ≤ v_y ∧ v_y ≤ 48) (fun v_x v_y => V.bl (g_annulet v_x v_y))) := by
  refine F.okP2 sc_annulet rfl (fun cdv A outer s H E v_x v_y hr hc => ?_)
  have hc : -48 ≤ v_x ∧ v_x ≤ 48 ∧ -48 ≤ v_y ∧ v_y ≤ 48 := hc
  exact ⟨_, (pss_one (ps_ret (pe_chain op_le op_lt pe_int (pe_pf p_distance (hr.mono (by decide)) rfl (pa_cons (pv 0) (pa_cons (pv 1) pa_nil))) pe_int))), (.ret (.chain (.c _) (.f2 (.cons (.var rfl) (.cons (.var rfl) .nil)) (by omega)) (.c _)))⟩
noncomputable def g_lozenge (v_x v_y : Int) : Bool := decide (((4 * (ab v_x)) + (3 * (ab v_y))) < 144)
theorem sc_lozenge : FnScope ["x", "y"] ["x", "y"] (defScope s_lozenge) := ⟨rfl, rfl, rfl, by decide +kernel, rfl, by decide +kernel, by decide +kernel⟩
theorem ok_lozenge {f_lozenge : Addr} {fd : FuncData} (F : Fun K "lozenge" "lozenge" s_lozenge f_lozenge fd) (hB_abs : mg "abs" = none) : FnOk P w K mg base (CXx P w) 1 f_lozenge fd ["x", "y"] (spI2 (fun v_x v_y => -48 ≤ v_x ∧ v_x ≤ 48 ∧ -48 ≤ v_y ∧ v_y ≤ 48) (fun v_x v_y => V.bl (g_lozenge v_x v_y))) := by
  refine F.okP2 sc_lozenge rfl (fun cdv A outer s H E v_x v_y hr hc => ?_)
  have hc : -48 ≤ v_x ∧ v_x ≤ 48 ∧ -48 ≤ v_y ∧ v_y ≤ 48 := hc
  exact ⟨_, (pss_one (ps_ret (pe_cmpR op_lt (pe_op op_add (pe_op op_mul pe_int (pe_callB call_abs rfl hB_abs boot_abs (pa_cons (pv 0) pa_nil))) (pe_op op_mul pe_int (pe_callB call_abs rfl hB_abs boot_abs (pa_cons (pv 1) pa_nil)))) pe_int (nomark _)))), (.ret (.i0 (.i0 (.iC (.c _) (.abs (.cons (.var rfl) .nil)) (by unfold CMul; omega)) (.iC (.c _) (.abs (.cons (.var rfl) .nil)) (by unfold CMul; omega))) (.c _)))⟩
noncomputable def g_mascle (v_x v_y : Int) : Bool := (decide (60 ≤ ((4 * (ab v_x)) + (3 * (ab v_y)))) && decide (((4 * (ab v_x)) + (3 * (ab v_y))) < 144))
theorem sc_mascle : FnScope ["x", "y"] ["x", "y"] (defScope s_mascle) := ⟨rfl, rfl, rfl, by decide +kernel, rfl, by decide +kernel, by decide +kernel⟩
theorem ok_mascle {f_mascle : Addr} {fd : FuncData} (F : Fun K "mascle" "mascle" s_mascle f_mascle fd) (hB_abs : mg "abs" = none) : FnOk P w K mg base (CXx P w) 1 f_mascle fd ["x", "y"] (spI2 (fun v_x v_y => -48 ≤ v_x ∧ v_x ≤ 48 ∧ -48 ≤ v_y ∧ v_y ≤ 48) (fun v_x v_y => V.bl (g_mascle v_x v_y))) := by
  refine F.okP2 sc_mascle rfl (fun cdv A outer s H E v_x v_y hr hc => ?_)
  have hc : -48 ≤ v_x ∧ v_x ≤ 48 ∧ -48 ≤ v_y ∧ v_y ≤ 48 := hc
  exact ⟨_, (pss_one (ps_ret (pe_chain op_le op_lt pe_int (pe_op op_add (pe_op op_mul pe_int (pe_callB call_abs rfl hB_abs boot_abs (pa_cons (pv 0) pa_nil))) (pe_op op_mul pe_int (pe_callB call_abs rfl hB_abs boot_abs (pa_cons (pv 1) pa_nil)))) pe_int))), (.ret (.chain (.c _) (.i0 (.iC (.c _) (.abs (.cons (.var rfl) .nil)) (by unfold CMul; omega)) (.iC (.c _) (.abs (.cons (.var rfl) .nil)) (by unfold CMul; omega))) (.c _)))⟩
noncomputable def g_fusil (v_x v_y : Int) : Bool := decide (((3 * (ab v_x)) + (ab v_y)) < 48)
theorem sc_fusil : FnScope ["x", "y"] ["x", "y"] (defScope s_fusil) := ⟨rfl, rfl, rfl, by decide +kernel, rfl, by decide +kernel, by decide +kernel⟩
theorem ok_fusil {f_fusil : Addr} {fd : FuncData} (F : Fun K "fusil" "fusil" s_fusil f_fusil fd) (hB_abs : mg "abs" = none) : FnOk P w K mg base (CXx P w) 1 f_fusil fd ["x", "y"] (spI2 (fun v_x v_y => -48 ≤ v_x ∧ v_x ≤ 48 ∧ -48 ≤ v_y ∧ v_y ≤ 48) (fun v_x v_y => V.bl (g_fusil v_x v_y))) := by
  refine F.okP2 sc_fusil rfl (fun cdv A outer s H E v_x v_y hr hc => ?_)
  have hc : -48 ≤ v_x ∧ v_x ≤ 48 ∧ -48 ≤ v_y ∧ v_y ≤ 48 := hc
  exact ⟨_, (pss_one (ps_ret (pe_cmpR op_lt (pe_op op_add (pe_op op_mul pe_int (pe_callB call_abs rfl hB_abs boot_abs (pa_cons (pv 0) pa_nil))) (pe_callB call_abs rfl hB_abs boot_abs (pa_cons (pv 1) pa_nil))) pe_int (nomark _)))), (.ret (.i0 (.i0 (.iC (.c _) (.abs (.cons (.var rfl) .nil)) (by unfold CMul; omega)) (.abs (.cons (.var rfl) .nil))) (.c _)))⟩
noncomputable def g_billet (v_x v_y : Int) : Bool := (decide ((ab v_x) < 24) && decide ((ab v_y) < 44))
theorem sc_billet : FnScope ["x", "y"] ["x", "y"] (defScope s_billet) := ⟨rfl, rfl, rfl, by decide +kernel, rfl, by decide +kernel, by decide +kernel⟩
theorem ok_billet {f_billet : Addr} {fd : FuncData} (F : Fun K "billet" "billet" s_billet f_billet fd) (hB_abs : mg "abs" = none) : FnOk P w K mg base (CXx P w) 1 f_billet fd ["x", "y"] (spI2 (fun v_x v_y => -48 ≤ v_x ∧ v_x ≤ 48 ∧ -48 ≤ v_y ∧ v_y ≤ 48) (fun v_x v_y => V.bl (g_billet v_x v_y))) := by
  refine F.okP2 sc_billet rfl (fun cdv A outer s H E v_x v_y hr hc => ?_)
  have hc : -48 ≤ v_x ∧ v_x ≤ 48 ∧ -48 ≤ v_y ∧ v_y ≤ 48 := hc
  exact ⟨_, (pss_one (ps_ret (pe_and (pe_cmpR op_lt (pe_callB call_abs rfl hB_abs boot_abs (pa_cons (pv 0) pa_nil)) pe_int (nomark _)) (pe_one (pe_cmpR op_lt (pe_callB call_abs rfl hB_abs boot_abs (pa_cons (pv 1) pa_nil)) pe_int (nomark _)))))), (.ret (.and (.i0 (.abs (.cons (.var rfl) .nil)) (.c _)) (fun _ => (.i0 (.abs (.cons (.var rfl) .nil)) (.c _)))))⟩
noncomputable def g_mullet (v_x v_y : Int) : Bool := (((decide (v_y ≤ 24) && decide ((7 * (ab v_x)) ≤ (4 * (v_y + 48))))) || ((decide ((-24) ≤ v_y) && decide ((7 * (ab v_x)) ≤ (4 * (48 - v_y))))))
theorem sc_mullet : FnScope ["x", "y", "upward", "downward"] ["x", "y"] (defScope s_mullet) := ⟨rfl, rfl, rfl, by decide +kernel, rfl, by decide +kernel, by decide +kernel⟩
theorem ok_mullet {f_mullet : Addr} {fd : FuncData} (F : Fun K "mullet" "mullet" s_mullet f_mullet fd) (hB_abs : mg "abs" = none) : FnOk P w K mg base (CXx P w) 1 f_mullet fd ["x", "y"] (spI2 (fun v_x v_y => -48 ≤ v_x ∧ v_x ≤ 48 ∧ -48 ≤ v_y ∧ v_y ≤ 48) (fun v_x v_y => V.bl (g_mullet v_x v_y))) := by
  refine F.okP2 sc_mullet rfl (fun cdv A outer s H E v_x v_y hr hc => ?_)
  have hc : -48 ≤ v_x ∧ v_x ≤ 48 ∧ -48 ≤ v_y ∧ v_y ≤ 48 := hc
  exact ⟨_, (pss_cons (ps_set (i := 2) sc_mullet.nd rfl (Or.inl rfl) (pe_and (pe_cmpR op_le (pv 1) pe_int (nomark _)) (pe_one (pe_cmpR op_le (pe_op op_mul pe_int (pe_callB call_abs rfl hB_abs boot_abs (pa_cons (pv 0) pa_nil))) (pe_op op_mul pe_int (pe_op op_add (pv 1) pe_int)) (nomark _))))) (pss_cons (ps_set (i := 3) sc_mullet.nd rfl (Or.inl rfl) (pe_and (pe_cmpR op_le (pe_un un_neg pe_int) (pv 1) (nomark _)) (pe_one (pe_cmpR op_le (pe_op op_mul pe_int (pe_callB call_abs rfl hB_abs boot_abs (pa_cons (pv 0) pa_nil))) (pe_op op_mul pe_int (pe_op op_sub pe_int (pv 1))) (nomark _))))) (pss_one (ps_ret (pe_or (pv 2) (pe_one (pv 3))))))), (.set (.and (.i0 (.var rfl) (.c _)) (fun _ => (.i0 (.iC (.c _) (.abs (.cons (.var rfl) .nil)) (by unfold CMul; omega)) (.iC (.c _) (.i0 (.var rfl) (.c _)) (by unfold CMul; omega))))) (.set (.and (.i0 (.un (.c _)) (.var rfl)) (fun _ => (.i0 (.iC (.c _) (.abs (.cons (.var rfl) .nil)) (by unfold CMul; omega)) (.iC (.c _) (.i0 (.c _) (.var rfl)) (by unfold CMul; omega))))) (.ret (.or (.var rfl) (fun _ => (.var rfl))))))⟩
noncomputable def g_crescent (v_x v_y : Int) : Bool := ((g_roundel (v_x) (v_y)) && decide (1444 ≤ (g_distance (v_x) ((v_y + 18)))))
theorem sc_crescent : FnScope ["x", "y"] ["x", "y"] (defScope s_crescent) := ⟨rfl, rfl, rfl, by decide +kernel, rfl, by decide +kernel, by decide +kernel⟩
theorem ok_crescent {f_crescent f_distance f_roundel : Addr} {fd : FuncData} (F : Fun K "crescent" "crescent" s_crescent f_crescent fd) (p_distance : PF P w K mg base "distance" 1 f_distance ["x", "y"] (spI2 (fun v_x v_y => -100 ≤ v_x ∧ v_x ≤ 100 ∧ -100 ≤ v_y ∧ v_y ≤ 100) (fun v_x v_y => V.int (g_distance v_x v_y)))) (p_roundel : PF P w K mg base "roundel" 2 f_roundel ["x", "y"] (spI2 (fun v_x v_y => -48 ≤ v_x ∧ v_x ≤ 48 ∧ -48 ≤ v_y ∧ v_y ≤ 48) (fun v_x v_y => V.bl (g_roundel v_x v_y)))) : FnOk P w K mg base (CXx P w) 3 f_crescent fd ["x", "y"] (spI2 (fun v_x v_y => -48 ≤ v_x ∧ v_x ≤ 48 ∧ -48 ≤ v_y ∧ v_y ≤ 48) (fun v_x v_y => V.bl (g_crescent v_x v_y))) := by
  refine F.okP2 sc_crescent rfl (fun cdv A outer s H E v_x v_y hr hc => ?_)
  have hc : -48 ≤ v_x ∧ v_x ≤ 48 ∧ -48 ≤ v_y ∧ v_y ≤ 48 := hc
  exact ⟨_, (pss_one (ps_ret (pe_and (pe_pf p_roundel (hr.mono (by decide)) rfl (pa_cons (pv 0) (pa_cons (pv 1) pa_nil))) (pe_one (pe_cmpR op_ge (pe_pf p_distance (hr.mono (by decide)) rfl (pa_cons (pv 0) (pa_cons (pe_op op_add (pv 1) pe_int) pa_nil))) pe_int (nomark _)))))), (.ret (.and (.f2 (.cons (.var rfl) (.cons (.var rfl) .nil)) (by omega)) (fun _ => (.i0 (.f2 (.cons (.var rfl) (.cons (.i0 (.var rfl) (.c _)) .nil)) (by omega)) (.c _)))))⟩
noncomputable def g_increscent (v_x v_y : Int) : Bool := ((g_roundel (v_x) (v_y)) && decide (1444 ≤ (g_distance ((v_x + 18)) (v_y))))
theorem sc_increscent : FnScope ["x", "y"] ["x", "y"] (defScope s_increscent) := ⟨rfl, rfl, rfl, by decide +kernel, rfl, by decide +kernel, by decide +kernel⟩
theorem ok_increscent {f_distance f_increscent f_roundel : Addr} {fd : FuncData} (F : Fun K "increscent" "increscent" s_increscent f_increscent fd) (p_distance : PF P w K mg base "distance" 1 f_distance ["x", "y"] (spI2 (fun v_x v_y => -100 ≤ v_x ∧ v_x ≤ 100 ∧ -100 ≤ v_y ∧ v_y ≤ 100) (fun v_x v_y => V.int (g_distance v_x v_y)))) (p_roundel : PF P w K mg base "roundel" 2 f_roundel ["x", "y"] (spI2 (fun v_x v_y => -48 ≤ v_x ∧ v_x ≤ 48 ∧ -48 ≤ v_y ∧ v_y ≤ 48) (fun v_x v_y => V.bl (g_roundel v_x v_y)))) : FnOk P w K mg base (CXx P w) 3 f_increscent fd ["x", "y"] (spI2 (fun v_x v_y => -48 ≤ v_x ∧ v_x ≤ 48 ∧ -48 ≤ v_y ∧ v_y ≤ 48) (fun v_x v_y => V.bl (g_increscent v_x v_y))) := by
  refine F.okP2 sc_increscent rfl (fun cdv A outer s H E v_x v_y hr hc => ?_)
  have hc : -48 ≤ v_x ∧ v_x ≤ 48 ∧ -48 ≤ v_y ∧ v_y ≤ 48 := hc
  exact ⟨_, (pss_one (ps_ret (pe_and (pe_pf p_roundel (hr.mono (by decide)) rfl (pa_cons (pv 0) (pa_cons (pv 1) pa_nil))) (pe_one (pe_cmpR op_ge (pe_pf p_distance (hr.mono (by decide)) rfl (pa_cons (pe_op op_add (pv 0) pe_int) (pa_cons (pv 1) pa_nil))) pe_int (nomark _)))))), (.ret (.and (.f2 (.cons (.var rfl) (.cons (.var rfl) .nil)) (by omega)) (fun _ => (.i0 (.f2 (.cons (.i0 (.var rfl) (.c _)) (.cons (.var rfl) .nil)) (by omega)) (.c _)))))⟩
noncomputable def g_cross_charges (v_x v_y : Int) : Bool := ((decide ((ab v_x) < 14) && decide ((ab v_y) < 44)) || (decide ((ab v_y) < 14) && decide ((ab v_x) < 44)))
theorem sc_cross_charges : FnScope ["x", "y"] ["x", "y"] (defScope s_cross_charges) := ⟨rfl, rfl, rfl, by decide +kernel, rfl, by decide +kernel, by decide +kernel⟩
theorem ok_cross_charges {f_cross_charges : Addr} {fd : FuncData} (F : Fun K "cross" "cross" s_cross_charges f_cross_charges fd) (hB_abs : mg "abs" = none) : FnOk P w K mg base (CXx P w) 1 f_cross_charges fd ["x", "y"] (spI2 (fun v_x v_y => -48 ≤ v_x ∧ v_x ≤ 48 ∧ -48 ≤ v_y ∧ v_y ≤ 48) (fun v_x v_y => V.bl (g_cross_charges v_x v_y))) := by
  refine F.okP2 sc_cross_charges rfl (fun cdv A outer s H E v_x v_y hr hc => ?_)
  have hc : -48 ≤ v_x ∧ v_x ≤ 48 ∧ -48 ≤ v_y ∧ v_y ≤ 48 := hc
  exact ⟨_, (pss_one (ps_ret (pe_or (pe_and (pe_cmpR op_lt (pe_callB call_abs rfl hB_abs boot_abs (pa_cons (pv 0) pa_nil)) pe_int (nomark _)) (pe_one (pe_cmpR op_lt (pe_callB call_abs rfl hB_abs boot_abs (pa_cons (pv 1) pa_nil)) pe_int (nomark _)))) (pe_one (pe_and (pe_cmpR op_lt (pe_callB call_abs rfl hB_abs boot_abs (pa_cons (pv 1) pa_nil)) pe_int (nomark _)) (pe_one (pe_cmpR op_lt (pe_callB call_abs rfl hB_abs boot_abs (pa_cons (pv 0) pa_nil)) pe_int (nomark _)))))))), (.ret (.or (.and (.i0 (.abs (.cons (.var rfl) .nil)) (.c _)) (fun _ => (.i0 (.abs (.cons (.var rfl) .nil)) (.c _)))) (fun _ => (.and (.i0 (.abs (.cons (.var rfl) .nil)) (.c _)) (fun _ => (.i0 (.abs (.cons (.var rfl) .nil)) (.c _)))))))⟩
noncomputable def g_saltire_charges (v_x v_y : Int) : Bool := (decide ((ab ((ab v_x) - (ab v_y))) < 14) && (decide ((ab v_x) < 40) && decide ((ab v_y) < 40)))
theorem sc_saltire_charges : FnScope ["x", "y"] ["x", "y"] (defScope s_saltire_charges) := ⟨rfl, rfl, rfl, by decide +kernel, rfl, by decide +kernel, by decide +kernel⟩
theorem ok_saltire_charges {f_saltire_charges : Addr} {fd : FuncData} (F : Fun K "saltire" "saltire" s_saltire_charges f_saltire_charges fd) (hB_abs : mg "abs" = none) : FnOk P w K mg base (CXx P w) 1 f_saltire_charges fd ["x", "y"] (spI2 (fun v_x v_y => -48 ≤ v_x ∧ v_x ≤ 48 ∧ -48 ≤ v_y ∧ v_y ≤ 48) (fun v_x v_y => V.bl (g_saltire_charges v_x v_y))) := by
  refine F.okP2 sc_saltire_charges rfl (fun cdv A outer s H E v_x v_y hr hc => ?_)
  have hc : -48 ≤ v_x ∧ v_x ≤ 48 ∧ -48 ≤ v_y ∧ v_y ≤ 48 := hc
  exact ⟨_, (pss_one (ps_ret (pe_and (pe_cmpR op_lt (pe_callB call_abs rfl hB_abs boot_abs (pa_cons (pe_op op_sub (pe_callB call_abs rfl hB_abs boot_abs (pa_cons (pv 0) pa_nil)) (pe_callB call_abs rfl hB_abs boot_abs (pa_cons (pv 1) pa_nil))) pa_nil)) pe_int (nomark _)) (pe_and (pe_cmpR op_lt (pe_callB call_abs rfl hB_abs boot_abs (pa_cons (pv 0) pa_nil)) pe_int (nomark _)) (pe_one (pe_cmpR op_lt (pe_callB call_abs rfl hB_abs boot_abs (pa_cons (pv 1) pa_nil)) pe_int (nomark _))))))), (.ret (.and (.i0 (.abs (.cons (.i0 (.abs (.cons (.var rfl) .nil)) (.abs (.cons (.var rfl) .nil))) .nil)) (.c _)) (fun _ => (.and (.i0 (.abs (.cons (.var rfl) .nil)) (.c _)) (fun _ => (.i0 (.abs (.cons (.var rfl) .nil)) (.c _)))))))⟩
noncomputable def g_escutcheon (v_x v_y : Int) : Bool := (decide ((ab v_x) < 32) && (decide ((-40) ≤ v_y) && decide (((2 * (ab v_x)) + v_y) < 72)))
theorem sc_escutcheon : FnScope ["x", "y"] ["x", "y"] (defScope s_escutcheon) := ⟨rfl, rfl, rfl, by decide +kernel, rfl, by decide +kernel, by decide +kernel⟩
theorem ok_escutcheon {f_escutcheon : Addr} {fd : FuncData} (F : Fun K "escutcheon" "escutcheon" s_escutcheon f_escutcheon fd) (hB_abs : mg "abs" = none) : FnOk P w K mg base (CXx P w) 1 f_escutcheon fd ["x", "y"] (spI2 (fun v_x v_y => -48 ≤ v_x ∧ v_x ≤ 48 ∧ -48 ≤ v_y ∧ v_y ≤ 48) (fun v_x v_y => V.bl (g_escutcheon v_x v_y))) := by
  refine F.okP2 sc_escutcheon rfl (fun cdv A outer s H E v_x v_y hr hc => ?_)
  have hc : -48 ≤ v_x ∧ v_x ≤ 48 ∧ -48 ≤ v_y ∧ v_y ≤ 48 := hc
  exact ⟨_, (pss_one (ps_ret (pe_and (pe_cmpR op_lt (pe_callB call_abs rfl hB_abs boot_abs (pa_cons (pv 0) pa_nil)) pe_int (nomark _)) (pe_and (pe_cmpR op_le (pe_un un_neg pe_int) (pv 1) (nomark _)) (pe_one (pe_cmpR op_lt (pe_op op_add (pe_op op_mul pe_int (pe_callB call_abs rfl hB_abs boot_abs (pa_cons (pv 0) pa_nil))) (pv 1)) pe_int (nomark _))))))), (.ret (.and (.i0 (.abs (.cons (.var rfl) .nil)) (.c _)) (fun _ => (.and (.i0 (.un (.c _)) (.var rfl)) (fun _ => (.i0 (.i0 (.iC (.c _) (.abs (.cons (.var rfl) .nil)) (by unfold CMul; omega)) (.var rfl)) (.c _)))))))⟩
noncomputable def g_tower (v_x v_y : Int) : Bool := (((decide ((ab v_x) < 30) && (decide ((-20) ≤ v_y) && decide (v_y < 44)))) || (((decide ((-40) ≤ v_y) && decide (v_y < (-20))) && (decide ((ab v_x) < 8) || (decide (22 ≤ (ab v_x)) && decide ((ab v_x) < 38))))))
theorem sc_tower : FnScope ["x", "y", "wall", "battlement"] ["x", "y"] (defScope s_tower) := ⟨rfl, rfl, rfl, by decide +kernel, rfl, by decide +kernel, by decide +kernel⟩
theorem ok_tower {f_tower : Addr} {fd : FuncData} (F : Fun K "tower" "tower" s_tower f_tower fd) (hB_abs : mg "abs" = none) : FnOk P w K mg base (CXx P w) 1 f_tower fd ["x", "y"] (spI2 (fun v_x v_y => -48 ≤ v_x ∧ v_x ≤ 48 ∧ -48 ≤ v_y ∧ v_y ≤ 48) (fun v_x v_y => V.bl (g_tower v_x v_y))) := by
  refine F.okP2 sc_tower rfl (fun cdv A outer s H E v_x v_y hr hc => ?_)
  have hc : -48 ≤ v_x ∧ v_x ≤ 48 ∧ -48 ≤ v_y ∧ v_y ≤ 48 := hc
  exact ⟨_, (pss_cons (ps_set (i := 2) sc_tower.nd rfl (Or.inl rfl) (pe_and (pe_cmpR op_lt (pe_callB call_abs rfl hB_abs boot_abs (pa_cons (pv 0) pa_nil)) pe_int (nomark _)) (pe_one (pe_chain op_le op_lt (pe_un un_neg pe_int) (pv 1) pe_int)))) (pss_cons (ps_set (i := 3) sc_tower.nd rfl (Or.inl rfl) (pe_and (pe_chain op_le op_lt (pe_un un_neg pe_int) (pv 1) (pe_un un_neg pe_int)) (pe_one (pe_or (pe_cmpR op_lt (pe_callB call_abs rfl hB_abs boot_abs (pa_cons (pv 0) pa_nil)) pe_int (nomark _)) (pe_one (pe_chain op_le op_lt pe_int (pe_callB call_abs rfl hB_abs boot_abs (pa_cons (pv 0) pa_nil)) pe_int)))))) (pss_one (ps_ret (pe_or (pv 2) (pe_one (pv 3))))))), (.set (.and (.i0 (.abs (.cons (.var rfl) .nil)) (.c _)) (fun _ => (.chain (.un (.c _)) (.var rfl) (.c _)))) (.set (.and (.chain (.un (.c _)) (.var rfl) (.un (.c _))) (fun _ => (.or (.i0 (.abs (.cons (.var rfl) .nil)) (.c _)) (fun _ => (.chain (.c _) (.abs (.cons (.var rfl) .nil)) (.c _)))))) (.ret (.or (.var rfl) (fun _ => (.var rfl))))))⟩
noncomputable def g_sword (v_x v_y : Int) : Bool := (((decide ((ab v_x) < 4) && decide ((ab v_y) < 46))) || ((decide ((ab v_x) < 20) && (decide (18 ≤ v_y) && decide (v_y < 26)))))
theorem sc_sword : FnScope ["x", "y", "blade", "guard"] ["x", "y"] (defScope s_sword) := ⟨rfl, rfl, rfl, by decide +kernel, rfl, by decide +kernel, by decide +kernel⟩
theorem ok_sword {f_sword : Addr} {fd : FuncData} (F : Fun K "sword" "sword" s_sword f_sword fd) (hB_abs : mg "abs" = none) : FnOk P w K mg base (CXx P w) 1 f_sword fd ["x", "y"] (spI2 (fun v_x v_y => -48 ≤ v_x ∧ v_x ≤ 48 ∧ -48 ≤ v_y ∧ v_y ≤ 48) (fun v_x v_y => V.bl (g_sword v_x v_y))) := by
  refine F.okP2 sc_sword rfl (fun cdv A outer s H E v_x v_y hr hc => ?_)
  have hc : -48 ≤ v_x ∧ v_x ≤ 48 ∧ -48 ≤ v_y ∧ v_y ≤ 48 := hc
  exact ⟨_, (pss_cons (ps_set (i := 2) sc_sword.nd rfl (Or.inl rfl) (pe_and (pe_cmpR op_lt (pe_callB call_abs rfl hB_abs boot_abs (pa_cons (pv 0) pa_nil)) pe_int (nomark _)) (pe_one (pe_cmpR op_lt (pe_callB call_abs rfl hB_abs boot_abs (pa_cons (pv 1) pa_nil)) pe_int (nomark _))))) (pss_cons (ps_set (i := 3) sc_sword.nd rfl (Or.inl rfl) (pe_and (pe_cmpR op_lt (pe_callB call_abs rfl hB_abs boot_abs (pa_cons (pv 0) pa_nil)) pe_int (nomark _)) (pe_one (pe_chain op_le op_lt pe_int (pv 1) pe_int)))) (pss_one (ps_ret (pe_or (pv 2) (pe_one (pv 3))))))), (.set (.and (.i0 (.abs (.cons (.var rfl) .nil)) (.c _)) (fun _ => (.i0 (.abs (.cons (.var rfl) .nil)) (.c _)))) (.set (.and (.i0 (.abs (.cons (.var rfl) .nil)) (.c _)) (fun _ => (.chain (.c _) (.var rfl) (.c _)))) (.ret (.or (.var rfl) (fun _ => (.var rfl))))))⟩
noncomputable def g_wheel (v_x v_y : Int) : Bool := (((decide (1156 ≤ (g_distance (v_x) (v_y))) && decide ((g_distance (v_x) (v_y)) < 2304))) || ((decide ((g_distance (v_x) (v_y)) < 1156) && (decide ((ab v_x) < 5) || decide ((ab v_y) < 5)))))
theorem sc_wheel : FnScope ["x", "y", "rim", "spokes"] ["x", "y"] (defScope s_wheel) := ⟨rfl, rfl, rfl, by decide +kernel, rfl, by decide +kernel, by decide +kernel⟩
theorem ok_wheel {f_distance f_wheel : Addr} {fd : FuncData} (F : Fun K "wheel" "wheel" s_wheel f_wheel fd) (p_distance : PF P w K mg base "distance" 1 f_distance ["x", "y"] (spI2 (fun v_x v_y => -100 ≤ v_x ∧ v_x ≤ 100 ∧ -100 ≤ v_y ∧ v_y ≤ 100) (fun v_x v_y => V.int (g_distance v_x v_y)))) (hB_abs : mg "abs" = none) : FnOk P w K mg base (CXx P w) 2 f_wheel fd ["x", "y"] (spI2 (fun v_x v_y => -48 ≤ v_x ∧ v_x ≤ 48 ∧ -48 ≤ v_y ∧ v_y ≤ 48) (fun v_x v_y => V.bl (g_wheel v_x v_y))) := by
  refine F.okP2 sc_wheel rfl (fun cdv A outer s H E v_x v_y hr hc => ?_)
  have hc : -48 ≤ v_x ∧ v_x ≤ 48 ∧ -48 ≤ v_y ∧ v_y ≤ 48 := hc
  exact ⟨_, (pss_cons (ps_set (i := 2) sc_wheel.nd rfl (Or.inl rfl) (pe_chain op_le op_lt pe_int (pe_pf p_distance (hr.mono (by decide)) rfl (pa_cons (pv 0) (pa_cons (pv 1) pa_nil))) pe_int)) (pss_cons (ps_set (i := 3) sc_wheel.nd rfl (Or.inl rfl) (pe_and (pe_cmpR op_lt (pe_pf p_distance (hr.mono (by decide)) rfl (pa_cons (pv 0) (pa_cons (pv 1) pa_nil))) pe_int (nomark _)) (pe_one (pe_or (pe_cmpR op_lt (pe_callB call_abs rfl hB_abs boot_abs (pa_cons (pv 0) pa_nil)) pe_int (nomark _)) (pe_one (pe_cmpR op_lt (pe_callB call_abs rfl hB_abs boot_abs (pa_cons (pv 1) pa_nil)) pe_int (nomark _))))))) (pss_one (ps_ret (pe_or (pv 2) (pe_one (pv 3))))))), (.set (.chain (.c _) (.f2 (.cons (.var rfl) (.cons (.var rfl) .nil)) (by omega)) (.c _)) (.set (.and (.i0 (.f2 (.cons (.var rfl) (.cons (.var rfl) .nil)) (by omega)) (.c _)) (fun _ => (.or (.i0 (.abs (.cons (.var rfl) .nil)) (.c _)) (fun _ => (.i0 (.abs (.cons (.var rfl) .nil)) (.c _)))))) (.ret (.or (.var rfl) (fun _ => (.var rfl))))))⟩
noncomputable def g_arrow (v_x v_y : Int) : Bool := (((decide ((ab v_x) < 4) && decide ((ab v_y) < 46))) || ((((decide ((-46) ≤ v_y) && decide (v_y < (-16))) && decide ((2 * (ab v_x)) < (v_y + 48)))) || (((decide (30 ≤ v_y) && decide (v_y < 46)) && decide ((ab v_x) < 12)))))
theorem sc_arrow : FnScope ["x", "y", "shaft", "head", "feathers"] ["x", "y"] (defScope s_arrow) := ⟨rfl, rfl, rfl, by decide +kernel, rfl, by decide +kernel, by decide +kernel⟩
theorem ok_arrow {f_arrow : Addr} {fd : FuncData} (F : Fun K "arrow" "arrow" s_arrow f_arrow fd) (hB_abs : mg "abs" = none) : FnOk P w K mg base (CXx P w) 1 f_arrow fd ["x", "y"] (spI2 (fun v_x v_y => -48 ≤ v_x ∧ v_x ≤ 48 ∧ -48 ≤ v_y ∧ v_y ≤ 48) (fun v_x v_y => V.bl (g_arrow v_x v_y))) := by
  refine F.okP2 sc_arrow rfl (fun cdv A outer s H E v_x v_y hr hc => ?_)
  have hc : -48 ≤ v_x ∧ v_x ≤ 48 ∧ -48 ≤ v_y ∧ v_y ≤ 48 := hc
  exact ⟨_, (pss_cons (ps_set (i := 2) sc_arrow.nd rfl (Or.inl rfl) (pe_and (pe_cmpR op_lt (pe_callB call_abs rfl hB_abs boot_abs (pa_cons (pv 0) pa_nil)) pe_int (nomark _)) (pe_one (pe_cmpR op_lt (pe_callB call_abs rfl hB_abs boot_abs (pa_cons (pv 1) pa_nil)) pe_int (nomark _))))) (pss_cons (ps_set (i := 3) sc_arrow.nd rfl (Or.inl rfl) (pe_and (pe_chain op_le op_lt (pe_un un_neg pe_int) (pv 1) (pe_un un_neg pe_int)) (pe_one (pe_cmpR op_lt (pe_op op_mul pe_int (pe_callB call_abs rfl hB_abs boot_abs (pa_cons (pv 0) pa_nil))) (pe_op op_add (pv 1) pe_int) (nomark _))))) (pss_cons (ps_set (i := 4) sc_arrow.nd rfl (Or.inl rfl) (pe_and (pe_chain op_le op_lt pe_int (pv 1) pe_int) (pe_one (pe_cmpR op_lt (pe_callB call_abs rfl hB_abs boot_abs (pa_cons (pv 0) pa_nil)) pe_int (nomark _))))) (pss_one (ps_ret (pe_or (pv 2) (pe_or (pv 3) (pe_one (pv 4))))))))), (.set (.and (.i0 (.abs (.cons (.var rfl) .nil)) (.c _)) (fun _ => (.i0 (.abs (.cons (.var rfl) .nil)) (.c _)))) (.set (.and (.chain (.un (.c _)) (.var rfl) (.un (.c _))) (fun _ => (.i0 (.iC (.c _) (.abs (.cons (.var rfl) .nil)) (by unfold CMul; omega)) (.i0 (.var rfl) (.c _))))) (.set (.and (.chain (.c _) (.var rfl) (.c _)) (fun _ => (.i0 (.abs (.cons (.var rfl) .nil)) (.c _)))) (.ret (.or (.var rfl) (fun _ => (.or (.var rfl) (fun _ => (.var rfl)))))))))⟩
noncomputable def g_part_middle (v_length v_k v_parts : Int) : Int := ((v_length * ((2 * v_k) + 1)) / (2 * v_parts))
theorem sc_part_middle : FnScope ["length", "k", "parts"] ["length", "k", "parts"] (defScope s_part_middle) := ⟨rfl, rfl, rfl, by decide +kernel, rfl, by decide +kernel, by decide +kernel⟩
theorem ok_part_middle {f_part_middle : Addr} {fd : FuncData} (F : Fun K "part_middle" "part_middle" s_part_middle f_part_middle fd) : FnOk P w K mg base (CXx P w) 1 f_part_middle fd ["length", "k", "parts"] (spI3 (fun v_length v_k v_parts => 0 ≤ v_k ∧ v_k < 20 ∧ 0 < v_parts ∧ v_parts < 20) (fun v_length v_k v_parts => V.int (g_part_middle v_length v_k v_parts))) := by
  refine F.okP3 sc_part_middle rfl (fun cdv A outer s H E v_length v_k v_parts hr hc => ?_)
  have hc : 0 ≤ v_k ∧ v_k < 20 ∧ 0 < v_parts ∧ v_parts < 20 := hc
  exact ⟨_, (pss_one (ps_ret (pe_op op_fdiv (pe_op op_mul (pv 0) (pe_op op_add (pe_op op_mul pe_int (pv 1)) pe_int)) (pe_op op_mul pe_int (pv 2))))), (.ret (.iC (.iC (.var rfl) (.i0 (.iC (.c _) (.var rfl) (by unfold CMul; omega)) (.c _)) (by unfold CMul; omega)) (.iC (.c _) (.var rfl) (by unfold CMul; omega)) (by unfold CDiv; omega)))⟩
noncomputable def g_bend_within (v_p v_r v_line v_reach : Int) : Bool := decide ((ab ((g_bend_across (v_p) (v_r)) - (g_bend_offset (v_p) (v_r) (v_line)))) < v_reach)
theorem sc_bend_within : FnScope ["p", "r", "line", "reach"] ["p", "r", "line", "reach"] (defScope s_bend_within) := ⟨rfl, rfl, rfl, by decide +kernel, rfl, by decide +kernel, by decide +kernel⟩
theorem ok_bend_within {f_bend_across f_bend_offset f_bend_within : Addr} {fd : FuncData} (F : Fun K "bend_within" "bend_within" s_bend_within f_bend_within fd) (p_bend_across : PF P w K mg base "bend_across" 1 f_bend_across ["p", "r"] (spI2 (fun v_p v_r => True) (fun v_p v_r => V.int (g_bend_across v_p v_r)))) (p_bend_offset : PF P w K mg base "bend_offset" 3 f_bend_offset ["p", "r", "line"] (spI3 (fun v_p v_r v_line => 0 ≤ v_line ∧ v_line < 6) (fun v_p v_r v_line => V.int (g_bend_offset v_p v_r v_line)))) (hB_abs : mg "abs" = none) : FnOk P w K mg base (CXx P w) 4 f_bend_within fd ["p", "r", "line", "reach"] (spI4 (fun v_p v_r v_line v_reach => 0 ≤ v_line ∧ v_line < 6) (fun v_p v_r v_line v_reach => V.bl (g_bend_within v_p v_r v_line v_reach))) := by
  refine F.okP4 sc_bend_within rfl (fun cdv A outer s H E v_p v_r v_line v_reach hr hc => ?_)
  have hc : 0 ≤ v_line ∧ v_line < 6 := hc
  exact ⟨_, (pss_one (ps_ret (pe_cmpR op_lt (pe_callB call_abs rfl hB_abs boot_abs (pa_cons (pe_op op_sub (pe_pf p_bend_across (hr.mono (by decide)) rfl (pa_cons (pv 0) (pa_cons (pv 1) pa_nil))) (pe_pf p_bend_offset (hr.mono (by decide)) rfl (pa_cons (pv 0) (pa_cons (pv 1) (pa_cons (pv 2) pa_nil))))) pa_nil)) (pv 3) (nomark _)))), (.ret (.i0 (.abs (.cons (.i0 (.f2 (.cons (.var rfl) (.cons (.var rfl) .nil)) True.intro) (.f3 (.cons (.var rfl) (.cons (.var rfl) (.cons (.var rfl) .nil))) (by omega))) .nil)) (.var rfl)))⟩
noncomputable def g_sinister_within (v_p v_r v_line v_reach : Int) : Bool := decide ((ab ((g_sinister_across (v_p) (v_r)) - (g_sinister_offset (v_p) (v_r) (v_line)))) < v_reach)
theorem sc_sinister_within : FnScope ["p", "r", "line", "reach"] ["p", "r", "line", "reach"] (defScope s_sinister_within) := ⟨rfl, rfl, rfl, by decide +kernel, rfl, by decide +kernel, by decide +kernel⟩
theorem ok_sinister_within {f_sinister_across f_sinister_offset f_sinister_within : Addr} {fd : FuncData} (F : Fun K "sinister_within" "sinister_within" s_sinister_within f_sinister_within fd) (p_sinister_across : PF P w K mg base "sinister_across" 2 f_sinister_across ["p", "r"] (spI2 (fun v_p v_r => True) (fun v_p v_r => V.int (g_sinister_across v_p v_r)))) (p_sinister_offset : PF P w K mg base "sinister_offset" 3 f_sinister_offset ["p", "r", "line"] (spI3 (fun v_p v_r v_line => 0 ≤ v_line ∧ v_line < 6) (fun v_p v_r v_line => V.int (g_sinister_offset v_p v_r v_line)))) (hB_abs : mg "abs" = none) : FnOk P w K mg base (CXx P w) 4 f_sinister_within fd ["p", "r", "line", "reach"] (spI4 (fun v_p v_r v_line v_reach => 0 ≤ v_line ∧ v_line < 6) (fun v_p v_r v_line v_reach => V.bl (g_sinister_within v_p v_r v_line v_reach))) := by
  refine F.okP4 sc_sinister_within rfl (fun cdv A outer s H E v_p v_r v_line v_reach hr hc => ?_)
  have hc : 0 ≤ v_line ∧ v_line < 6 := hc
  exact ⟨_, (pss_one (ps_ret (pe_cmpR op_lt (pe_callB call_abs rfl hB_abs boot_abs (pa_cons (pe_op op_sub (pe_pf p_sinister_across (hr.mono (by decide)) rfl (pa_cons (pv 0) (pa_cons (pv 1) pa_nil))) (pe_pf p_sinister_offset (hr.mono (by decide)) rfl (pa_cons (pv 0) (pa_cons (pv 1) (pa_cons (pv 2) pa_nil))))) pa_nil)) (pv 3) (nomark _)))), (.ret (.i0 (.abs (.cons (.i0 (.f2 (.cons (.var rfl) (.cons (.var rfl) .nil)) True.intro) (.f3 (.cons (.var rfl) (.cons (.var rfl) (.cons (.var rfl) .nil))) (by omega))) .nil)) (.var rfl)))⟩
noncomputable def g_chief (v_p v_r v_line : Int) : Bool := decide (v_r < (160 + (g_offset (v_line) (v_p))))
theorem sc_chief : FnScope ["p", "r", "line"] ["p", "r", "line"] (defScope s_chief) := ⟨rfl, rfl, rfl, by decide +kernel, rfl, by decide +kernel, by decide +kernel⟩
theorem ok_chief {f_chief f_offset : Addr} {fd : FuncData} (F : Fun K "chief" "chief" s_chief f_chief fd) (p_offset : PF P w K mg base "offset" 2 f_offset ["line", "t"] (spI2 (fun v_line v_t => 0 ≤ v_line ∧ v_line < 6) (fun v_line v_t => V.int (g_offset v_line v_t)))) : FnOk P w K mg base (CXx P w) 3 f_chief fd ["p", "r", "line"] (spI3 (fun v_p v_r v_line => 0 ≤ v_line ∧ v_line < 6) (fun v_p v_r v_line => V.bl (g_chief v_p v_r v_line))) := by
  refine F.okP3 sc_chief rfl (fun cdv A outer s H E v_p v_r v_line hr hc => ?_)
  have hc : 0 ≤ v_line ∧ v_line < 6 := hc
  exact ⟨_, (pss_one (ps_ret (pe_cmpR op_lt (pv 1) (pe_op op_add pe_int (pe_pf p_offset (hr.mono (by decide)) rfl (pa_cons (pv 2) (pa_cons (pv 0) pa_nil)))) (nomark _)))), (.ret (.i0 (.var rfl) (.i0 (.c _) (.f2 (.cons (.var rfl) (.cons (.var rfl) .nil)) (by omega)))))⟩
noncomputable def g_base (v_p v_r v_line : Int) : Bool := decide ((432 + (g_offset (v_line) (v_p))) ≤ v_r)
theorem sc_base : FnScope ["p", "r", "line"] ["p", "r", "line"] (defScope s_base) := ⟨rfl, rfl, rfl, by decide +kernel, rfl, by decide +kernel, by decide +kernel⟩
theorem ok_base {f_base f_offset : Addr} {fd : FuncData} (F : Fun K "base" "base" s_base f_base fd) (p_offset : PF P w K mg base "offset" 2 f_offset ["line", "t"] (spI2 (fun v_line v_t => 0 ≤ v_line ∧ v_line < 6) (fun v_line v_t => V.int (g_offset v_line v_t)))) : FnOk P w K mg base (CXx P w) 3 f_base fd ["p", "r", "line"] (spI3 (fun v_p v_r v_line => 0 ≤ v_line ∧ v_line < 6) (fun v_p v_r v_line => V.bl (g_base v_p v_r v_line))) := by
  refine F.okP3 sc_base rfl (fun cdv A outer s H E v_p v_r v_line hr hc => ?_)
  have hc : 0 ≤ v_line ∧ v_line < 6 := hc
  exact ⟨_, (pss_one (ps_ret (pe_cmpR op_ge (pv 1) (pe_op op_add pe_int (pe_pf p_offset (hr.mono (by decide)) rfl (pa_cons (pv 2) (pa_cons (pv 0) pa_nil)))) (nomark _)))), (.ret (.i0 (.var rfl) (.i0 (.c _) (.f2 (.cons (.var rfl) (.cons (.var rfl) .nil)) (by omega)))))⟩
noncomputable def g_pale (v_p v_r v_line : Int) : Bool := (decide (168 ≤ (v_p - (g_offset (v_line) (v_r)))) && decide ((v_p - (g_offset (v_line) (v_r))) < 312))
theorem sc_pale : FnScope ["p", "r", "line"] ["p", "r", "line"] (defScope s_pale) := ⟨rfl, rfl, rfl, by decide +kernel, rfl, by decide +kernel, by decide +kernel⟩
theorem ok_pale {f_offset f_pale : Addr} {fd : FuncData} (F : Fun K "pale" "pale" s_pale f_pale fd) (p_offset : PF P w K mg base "offset" 2 f_offset ["line", "t"] (spI2 (fun v_line v_t => 0 ≤ v_line ∧ v_line < 6) (fun v_line v_t => V.int (g_offset v_line v_t)))) : FnOk P w K mg base (CXx P w) 3 f_pale fd ["p", "r", "line"] (spI3 (fun v_p v_r v_line => 0 ≤ v_line ∧ v_line < 6) (fun v_p v_r v_line => V.bl (g_pale v_p v_r v_line))) := by
  refine F.okP3 sc_pale rfl (fun cdv A outer s H E v_p v_r v_line hr hc => ?_)
  have hc : 0 ≤ v_line ∧ v_line < 6 := hc
  exact ⟨_, (pss_one (ps_ret (pe_chain op_le op_lt pe_int (pe_op op_sub (pv 0) (pe_pf p_offset (hr.mono (by decide)) rfl (pa_cons (pv 2) (pa_cons (pv 1) pa_nil)))) pe_int))), (.ret (.chain (.c _) (.i0 (.var rfl) (.f2 (.cons (.var rfl) (.cons (.var rfl) .nil)) (by omega))) (.c _)))⟩
noncomputable def g_fess (v_p v_r v_line : Int) : Bool := (decide (204 ≤ (v_r - (g_offset (v_line) (v_p)))) && decide ((v_r - (g_offset (v_line) (v_p))) < 372))
theorem sc_fess : FnScope ["p", "r", "line"] ["p", "r", "line"] (defScope s_fess) := ⟨rfl, rfl, rfl, by decide +kernel, rfl, by decide +kernel, by decide +kernel⟩
theorem ok_fess {f_fess f_offset : Addr} {fd : FuncData} (F : Fun K "fess" "fess" s_fess f_fess fd) (p_offset : PF P w K mg base "offset" 2 f_offset ["line", "t"] (spI2 (fun v_line v_t => 0 ≤ v_line ∧ v_line < 6) (fun v_line v_t => V.int (g_offset v_line v_t)))) : FnOk P w K mg base (CXx P w) 3 f_fess fd ["p", "r", "line"] (spI3 (fun v_p v_r v_line => 0 ≤ v_line ∧ v_line < 6) (fun v_p v_r v_line => V.bl (g_fess v_p v_r v_line))) := by
  refine F.okP3 sc_fess rfl (fun cdv A outer s H E v_p v_r v_line hr hc => ?_)
  have hc : 0 ≤ v_line ∧ v_line < 6 := hc
  exact ⟨_, (pss_one (ps_ret (pe_chain op_le op_lt pe_int (pe_op op_sub (pv 1) (pe_pf p_offset (hr.mono (by decide)) rfl (pa_cons (pv 2) (pa_cons (pv 0) pa_nil)))) pe_int))), (.ret (.chain (.c _) (.i0 (.var rfl) (.f2 (.cons (.var rfl) (.cons (.var rfl) .nil)) (by omega))) (.c _)))⟩
noncomputable def g_bend (v_p v_r v_line : Int) : Bool := (g_bend_within (v_p) (v_r) (v_line) (800))
theorem sc_bend : FnScope ["p", "r", "line"] ["p", "r", "line"] (defScope s_bend) := ⟨rfl, rfl, rfl, by decide +kernel, rfl, by decide +kernel, by decide +kernel⟩
theorem ok_bend {f_bend f_bend_within : Addr} {fd : FuncData} (F : Fun K "bend" "bend" s_bend f_bend fd) (p_bend_within : PF P w K mg base "bend_within" 4 f_bend_within ["p", "r", "line", "reach"] (spI4 (fun v_p v_r v_line v_reach => 0 ≤ v_line ∧ v_line < 6) (fun v_p v_r v_line v_reach => V.bl (g_bend_within v_p v_r v_line v_reach)))) : FnOk P w K mg base (CXx P w) 5 f_bend fd ["p", "r", "line"] (spI3 (fun v_p v_r v_line => 0 ≤ v_line ∧ v_line < 6) (fun v_p v_r v_line => V.bl (g_bend v_p v_r v_line))) := by
  refine F.okP3 sc_bend rfl (fun cdv A outer s H E v_p v_r v_line hr hc => ?_)
  have hc : 0 ≤ v_line ∧ v_line < 6 := hc
  exact ⟨_, (pss_one (ps_ret (pe_pf p_bend_within (hr.mono (by decide)) rfl (pa_cons (pv 0) (pa_cons (pv 1) (pa_cons (pv 2) (pa_cons pe_int pa_nil))))))), (.ret (.f4 (.cons (.var rfl) (.cons (.var rfl) (.cons (.var rfl) (.cons (.c _) .nil)))) (by omega)))⟩
noncomputable def g_bend_sinister (v_p v_r v_line : Int) : Bool := (g_sinister_within (v_p) (v_r) (v_line) (800))
theorem sc_bend_sinister : FnScope ["p", "r", "line"] ["p", "r", "line"] (defScope s_bend_sinister) := ⟨rfl, rfl, rfl, by decide +kernel, rfl, by decide +kernel, by decide +kernel⟩
theorem ok_bend_sinister {f_bend_sinister f_sinister_within : Addr} {fd : FuncData} (F : Fun K "bend_sinister" "bend_sinister" s_bend_sinister f_bend_sinister fd) (p_sinister_within : PF P w K mg base "sinister_within" 4 f_sinister_within ["p", "r", "line", "reach"] (spI4 (fun v_p v_r v_line v_reach => 0 ≤ v_line ∧ v_line < 6) (fun v_p v_r v_line v_reach => V.bl (g_sinister_within v_p v_r v_line v_reach)))) : FnOk P w K mg base (CXx P w) 5 f_bend_sinister fd ["p", "r", "line"] (spI3 (fun v_p v_r v_line => 0 ≤ v_line ∧ v_line < 6) (fun v_p v_r v_line => V.bl (g_bend_sinister v_p v_r v_line))) := by
  refine F.okP3 sc_bend_sinister rfl (fun cdv A outer s H E v_p v_r v_line hr hc => ?_)
  have hc : 0 ≤ v_line ∧ v_line < 6 := hc
  exact ⟨_, (pss_one (ps_ret (pe_pf p_sinister_within (hr.mono (by decide)) rfl (pa_cons (pv 0) (pa_cons (pv 1) (pa_cons (pv 2) (pa_cons pe_int pa_nil))))))), (.ret (.f4 (.cons (.var rfl) (.cons (.var rfl) (.cons (.var rfl) (.cons (.c _) .nil)))) (by omega)))⟩
noncomputable def g_chevron (v_p v_r v_line : Int) : Bool := (decide (0 ≤ (((v_r - 168) - (g_from_middle (v_p))) - (g_offset (v_line) (v_p)))) && decide ((((v_r - 168) - (g_from_middle (v_p))) - (g_offset (v_line) (v_p))) < 144))
theorem sc_chevron : FnScope ["p", "r", "line"] ["p", "r", "line"] (defScope s_chevron) := ⟨rfl, rfl, rfl, by decide +kernel, rfl, by decide +kernel, by decide +kernel⟩
theorem ok_chevron {f_chevron f_from_middle f_offset : Addr} {fd : FuncData} (F : Fun K "chevron" "chevron" s_chevron f_chevron fd) (p_from_middle : PF P w K mg base "from_middle" 1 f_from_middle ["p"] (spI1 (fun v_p => True) (fun v_p => V.int (g_from_middle v_p)))) (p_offset : PF P w K mg base "offset" 2 f_offset ["line", "t"] (spI2 (fun v_line v_t => 0 ≤ v_line ∧ v_line < 6) (fun v_line v_t => V.int (g_offset v_line v_t)))) : FnOk P w K mg base (CXx P w) 3 f_chevron fd ["p", "r", "line"] (spI3 (fun v_p v_r v_line => 0 ≤ v_line ∧ v_line < 6) (fun v_p v_r v_line => V.bl (g_chevron v_p v_r v_line))) := by
  refine F.okP3 sc_chevron rfl (fun cdv A outer s H E v_p v_r v_line hr hc => ?_)
  have hc : 0 ≤ v_line ∧ v_line < 6 := hc
  exact ⟨_, (pss_one (ps_ret (pe_chain op_le op_lt pe_int (pe_op op_sub (pe_op op_sub (pe_op op_sub (pv 1) pe_int) (pe_pf p_from_middle (hr.mono (by decide)) rfl (pa_cons (pv 0) pa_nil))) (pe_pf p_offset (hr.mono (by decide)) rfl (pa_cons (pv 2) (pa_cons (pv 0) pa_nil)))) pe_int))), (.ret (.chain (.c _) (.i0 (.i0 (.i0 (.var rfl) (.c _)) (.f1 (.cons (.var rfl) .nil) True.intro)) (.f2 (.cons (.var rfl) (.cons (.var rfl) .nil)) (by omega))) (.c _)))⟩
noncomputable def g_cross_ordinaries (v_p v_r v_line : Int) : Bool := ((decide (180 ≤ (v_p - (g_offset (v_line) (v_r)))) && decide ((v_p - (g_offset (v_line) (v_r))) < 300)) || (decide (228 ≤ (v_r - (g_offset (v_line) (v_p)))) && decide ((v_r - (g_offset (v_line) (v_p))) < 348)))
theorem sc_cross_ordinaries : FnScope ["p", "r", "line"] ["p", "r", "line"] (defScope s_cross_ordinaries) := ⟨rfl, rfl, rfl, by decide +kernel, rfl, by decide +kernel, by decide +kernel⟩
theorem ok_cross_ordinaries {f_cross_ordinaries f_offset : Addr} {fd : FuncData} (F : Fun K "cross" "cross" s_cross_ordinaries f_cross_ordinaries fd) (p_offset : PF P w K mg base "offset" 2 f_offset ["line", "t"] (spI2 (fun v_line v_t => 0 ≤ v_line ∧ v_line < 6) (fun v_line v_t => V.int (g_offset v_line v_t)))) : FnOk P w K mg base (CXx P w) 3 f_cross_ordinaries fd ["p", "r", "line"] (spI3 (fun v_p v_r v_line => 0 ≤ v_line ∧ v_line < 6) (fun v_p v_r v_line => V.bl (g_cross_ordinaries v_p v_r v_line))) := by
  refine F.okP3 sc_cross_ordinaries rfl (fun cdv A outer s H E v_p v_r v_line hr hc => ?_)
  have hc : 0 ≤ v_line ∧ v_line < 6 := hc
  exact ⟨_, (pss_one (ps_ret (pe_or (pe_chain op_le op_lt pe_int (pe_op op_sub (pv 0) (pe_pf p_offset (hr.mono (by decide)) rfl (pa_cons (pv 2) (pa_cons (pv 1) pa_nil)))) pe_int) (pe_one (pe_chain op_le op_lt pe_int (pe_op op_sub (pv 1) (pe_pf p_offset (hr.mono (by decide)) rfl (pa_cons (pv 2) (pa_cons (pv 0) pa_nil)))) pe_int))))), (.ret (.or (.chain (.c _) (.i0 (.var rfl) (.f2 (.cons (.var rfl) (.cons (.var rfl) .nil)) (by omega))) (.c _)) (fun _ => (.chain (.c _) (.i0 (.var rfl) (.f2 (.cons (.var rfl) (.cons (.var rfl) .nil)) (by omega))) (.c _)))))⟩
noncomputable def g_saltire_ordinaries (v_p v_r v_line : Int) : Bool := ((g_bend_within (v_p) (v_r) (v_line) (560)) || (g_sinister_within (v_p) (v_r) (v_line) (560)))
theorem sc_saltire_ordinaries : FnScope ["p", "r", "line"] ["p", "r", "line"] (defScope s_saltire_ordinaries) := ⟨rfl, rfl, rfl, by decide +kernel, rfl, by decide +kernel, by decide +kernel⟩
theorem ok_saltire_ordinaries {f_bend_within f_saltire_ordinaries f_sinister_within : Addr} {fd : FuncData} (F : Fun K "saltire" "saltire" s_saltire_ordinaries f_saltire_ordinaries fd) (p_bend_within : PF P w K mg base "bend_within" 4 f_bend_within ["p", "r", "line", "reach"] (spI4 (fun v_p v_r v_line v_reach => 0 ≤ v_line ∧ v_line < 6) (fun v_p v_r v_line v_reach => V.bl (g_bend_within v_p v_r v_line v_reach)))) (p_sinister_within : PF P w K mg base "sinister_within" 4 f_sinister_within ["p", "r", "line", "reach"] (spI4 (fun v_p v_r v_line v_reach => 0 ≤ v_line ∧ v_line < 6) (fun v_p v_r v_line v_reach => V.bl (g_sinister_within v_p v_r v_line v_reach)))) : FnOk P w K mg base (CXx P w) 5 f_saltire_ordinaries fd ["p", "r", "line"] (spI3 (fun v_p v_r v_line => 0 ≤ v_line ∧ v_line < 6) (fun v_p v_r v_line => V.bl (g_saltire_ordinaries v_p v_r v_line))) := by
  refine F.okP3 sc_saltire_ordinaries rfl (fun cdv A outer s H E v_p v_r v_line hr hc => ?_)
  have hc : 0 ≤ v_line ∧ v_line < 6 := hc
  exact ⟨_, (pss_one (ps_ret (pe_or (pe_pf p_bend_within (hr.mono (by decide)) rfl (pa_cons (pv 0) (pa_cons (pv 1) (pa_cons (pv 2) (pa_cons pe_int pa_nil))))) (pe_one (pe_pf p_sinister_within (hr.mono (by decide)) rfl (pa_cons (pv 0) (pa_cons (pv 1) (pa_cons (pv 2) (pa_cons pe_int pa_nil))))))))), (.ret (.or (.f4 (.cons (.var rfl) (.cons (.var rfl) (.cons (.var rfl) (.cons (.c _) .nil)))) (by omega)) (fun _ => (.f4 (.cons (.var rfl) (.cons (.var rfl) (.cons (.var rfl) (.cons (.c _) .nil)))) (by omega)))))⟩
noncomputable def g_pile (v_p v_r v_line : Int) : Bool := decide ((576 * (g_from_middle (v_p))) < ((160 * (576 - v_r)) + (576 * (g_offset (v_line) (v_r)))))
theorem sc_pile : FnScope ["p", "r", "line"] ["p", "r", "line"] (defScope s_pile) := ⟨rfl, rfl, rfl, by decide +kernel, rfl, by decide +kernel, by decide +kernel⟩
theorem ok_pile {f_from_middle f_offset f_pile : Addr} {fd : FuncData} (F : Fun K "pile" "pile" s_pile f_pile fd) (p_from_middle : PF P w K mg base "from_middle" 1 f_from_middle ["p"] (spI1 (fun v_p => True) (fun v_p => V.int (g_from_middle v_p)))) (p_offset : PF P w K mg base "offset" 2 f_offset ["line", "t"] (spI2 (fun v_line v_t => 0 ≤ v_line ∧ v_line < 6) (fun v_line v_t => V.int (g_offset v_line v_t)))) : FnOk P w K mg base (CXx P w) 3 f_pile fd ["p", "r", "line"] (spI3 (fun v_p v_r v_line => 0 ≤ v_line ∧ v_line < 6) (fun v_p v_r v_line => V.bl (g_pile v_p v_r v_line))) := by
  refine F.okP3 sc_pile rfl (fun cdv A outer s H E v_p v_r v_line hr hc => ?_)
  have hc : 0 ≤ v_line ∧ v_line < 6 := hc
  exact ⟨_, (pss_one (ps_ret (pe_cmpR op_lt (pe_op op_mul pe_int (pe_pf p_from_middle (hr.mono (by decide)) rfl (pa_cons (pv 0) pa_nil))) (pe_op op_add (pe_op op_mul pe_int (pe_op op_sub pe_int (pv 1))) (pe_op op_mul pe_int (pe_pf p_offset (hr.mono (by decide)) rfl (pa_cons (pv 2) (pa_cons (pv 1) pa_nil))))) (nomark _)))), (.ret (.i0 (.iC (.c _) (.f1 (.cons (.var rfl) .nil) True.intro) (by unfold CMul; omega)) (.i0 (.iC (.c _) (.i0 (.c _) (.var rfl)) (by unfold CMul; omega)) (.iC (.c _) (.f2 (.cons (.var rfl) (.cons (.var rfl) .nil)) (by omega)) (by unfold CMul; omega)))))⟩
noncomputable def g_bordure (v_p v_r v_line : Int) : Bool := (decide (v_p < (48 + ((g_offset (v_line) (v_r))))) || (decide ((432 - ((g_offset (v_line) (v_r)))) ≤ v_p) || (decide (v_r < (48 + ((g_offset (v_line) (v_p))))) || decide ((528 - ((g_offset (v_line) (v_p)))) ≤ v_r))))
theorem sc_bordure : FnScope ["p", "r", "line", "across", "down"] ["p", "r", "line"] (defScope s_bordure) := ⟨rfl, rfl, rfl, by decide +kernel, rfl, by decide +kernel, by decide +kernel⟩
theorem ok_bordure {f_bordure f_offset : Addr} {fd : FuncData} (F : Fun K "bordure" "bordure" s_bordure f_bordure fd) (p_offset : PF P w K mg base "offset" 2 f_offset ["line", "t"] (spI2 (fun v_line v_t => 0 ≤ v_line ∧ v_line < 6) (fun v_line v_t => V.int (g_offset v_line v_t)))) : FnOk P w K mg base (CXx P w) 3 f_bordure fd ["p", "r", "line"] (spI3 (fun v_p v_r v_line => 0 ≤ v_line ∧ v_line < 6) (fun v_p v_r v_line => V.bl (g_bordure v_p v_r v_line))) := by
  refine F.okP3 sc_bordure rfl (fun cdv A outer s H E v_p v_r v_line hr hc => ?_)
  have hc : 0 ≤ v_line ∧ v_line < 6 := hc
  exact ⟨_, (pss_cons (ps_set (i := 3) sc_bordure.nd rfl (Or.inl rfl) (pe_pf p_offset (hr.mono (by decide)) rfl (pa_cons (pv 2) (pa_cons (pv 1) pa_nil)))) (pss_cons (ps_set (i := 4) sc_bordure.nd rfl (Or.inl rfl) (pe_pf p_offset (hr.mono (by decide)) rfl (pa_cons (pv 2) (pa_cons (pv 0) pa_nil)))) (pss_one (ps_ret (pe_or (pe_cmpR op_lt (pv 0) (pe_op op_add pe_int (pv 3)) (nomark _)) (pe_or (pe_cmpR op_ge (pv 0) (pe_op op_sub pe_int (pv 3)) (nomark _)) (pe_or (pe_cmpR op_lt (pv 1) (pe_op op_add pe_int (pv 4)) (nomark _)) (pe_one (pe_cmpR op_ge (pv 1) (pe_op op_sub pe_int (pv 4)) (nomark _)))))))))), (.set (.f2 (.cons (.var rfl) (.cons (.var rfl) .nil)) (by omega)) (.set (.f2 (.cons (.var rfl) (.cons (.var rfl) .nil)) (by omega)) (.ret (.or (.i0 (.var rfl) (.i0 (.c _) (.var rfl))) (fun _ => (.or (.i0 (.var rfl) (.i0 (.c _) (.var rfl))) (fun _ => (.or (.i0 (.var rfl) (.i0 (.c _) (.var rfl))) (fun _ => (.i0 (.var rfl) (.i0 (.c _) (.var rfl))))))))))))⟩
noncomputable def g_canton (v_p v_r v_line : Int) : Bool := (decide (v_p < (176 + (g_offset (v_line) (v_r)))) && decide (v_r < (208 + (g_offset (v_line) (v_p)))))
theorem sc_canton : FnScope ["p", "r", "line"] ["p", "r", "line"] (defScope s_canton) := ⟨rfl, rfl, rfl, by decide +kernel, rfl, by decide +kernel, by decide +kernel⟩
theorem ok_canton {f_canton f_offset : Addr} {fd : FuncData} (F : Fun K "canton" "canton" s_canton f_canton fd) (p_offset : PF P w K mg base "offset" 2 f_offset ["line", "t"] (spI2 (fun v_line v_t => 0 ≤ v_line ∧ v_line < 6) (fun v_line v_t => V.int (g_offset v_line v_t)))) : FnOk P w K mg base (CXx P w) 3 f_canton fd ["p", "r", "line"] (spI3 (fun v_p v_r v_line => 0 ≤ v_line ∧ v_line < 6) (fun v_p v_r v_line => V.bl (g_canton v_p v_r v_line))) := by
  refine F.okP3 sc_canton rfl (fun cdv A outer s H E v_p v_r v_line hr hc => ?_)
  have hc : 0 ≤ v_line ∧ v_line < 6 := hc
  exact ⟨_, (pss_one (ps_ret (pe_and (pe_cmpR op_lt (pv 0) (pe_op op_add pe_int (pe_pf p_offset (hr.mono (by decide)) rfl (pa_cons (pv 2) (pa_cons (pv 1) pa_nil)))) (nomark _)) (pe_one (pe_cmpR op_lt (pv 1) (pe_op op_add pe_int (pe_pf p_offset (hr.mono (by decide)) rfl (pa_cons (pv 2) (pa_cons (pv 0) pa_nil)))) (nomark _)))))), (.ret (.and (.i0 (.var rfl) (.i0 (.c _) (.f2 (.cons (.var rfl) (.cons (.var rfl) .nil)) (by omega)))) (fun _ => (.i0 (.var rfl) (.i0 (.c _) (.f2 (.cons (.var rfl) (.cons (.var rfl) .nil)) (by omega)))))))⟩
noncomputable def g_quarter (v_p v_r v_line : Int) : Bool := (decide (v_p < (240 + (g_offset (v_line) (v_r)))) && decide (v_r < (288 + (g_offset (v_line) (v_p)))))
theorem sc_quarter : FnScope ["p", "r", "line"] ["p", "r", "line"] (defScope s_quarter) := ⟨rfl, rfl, rfl, by decide +kernel, rfl, by decide +kernel, by decide +kernel⟩
theorem ok_quarter {f_offset f_quarter : Addr} {fd : FuncData} (F : Fun K "quarter" "quarter" s_quarter f_quarter fd) (p_offset : PF P w K mg base "offset" 2 f_offset ["line", "t"] (spI2 (fun v_line v_t => 0 ≤ v_line ∧ v_line < 6) (fun v_line v_t => V.int (g_offset v_line v_t)))) : FnOk P w K mg base (CXx P w) 3 f_quarter fd ["p", "r", "line"] (spI3 (fun v_p v_r v_line => 0 ≤ v_line ∧ v_line < 6) (fun v_p v_r v_line => V.bl (g_quarter v_p v_r v_line))) := by
  refine F.okP3 sc_quarter rfl (fun cdv A outer s H E v_p v_r v_line hr hc => ?_)
  have hc : 0 ≤ v_line ∧ v_line < 6 := hc
  exact ⟨_, (pss_one (ps_ret (pe_and (pe_cmpR op_lt (pv 0) (pe_op op_add pe_int (pe_pf p_offset (hr.mono (by decide)) rfl (pa_cons (pv 2) (pa_cons (pv 1) pa_nil)))) (nomark _)) (pe_one (pe_cmpR op_lt (pv 1) (pe_op op_add pe_int (pe_pf p_offset (hr.mono (by decide)) rfl (pa_cons (pv 2) (pa_cons (pv 0) pa_nil)))) (nomark _)))))), (.ret (.and (.i0 (.var rfl) (.i0 (.c _) (.f2 (.cons (.var rfl) (.cons (.var rfl) .nil)) (by omega)))) (fun _ => (.i0 (.var rfl) (.i0 (.c _) (.f2 (.cons (.var rfl) (.cons (.var rfl) .nil)) (by omega)))))))⟩
end
theorem off_eq {l : Nat} (h : l ≤ 5) (t : Int) : g_offset (l : Int) t = off l t := by
  have h' : l = 0 ∨ l = 1 ∨ l = 2 ∨ l = 3 ∨ l = 4 ∨ l = 5 := by omega
  rcases h' with rfl | rfl | rfl | rfl | rfl | rfl
  · rfl
  · show g_wavy t = if t % 48 < 24 then _ else _
    unfold g_wavy; simp only [decide_eq_true_eq]
  · show g_embattled t = if t % 48 < 24 then _ else _
    unfold g_embattled; simp only [decide_eq_true_eq]
  · show g_indented t = if t % 48 < 24 then _ else _
    unfold g_indented; simp only [decide_eq_true_eq]
  · rfl
  · rfl
theorem mir_eq (p : Int) : g_mirrored p = flip p := by unfold g_mirrored Sh.flip; omega
theorem mid_eq (p : Int) : g_from_middle p = dist p := by unfold g_from_middle dist ab; split <;> split <;> omega
theorem bo_eq {l : Nat} (h : l ≤ 5) (p r : Int) : g_bend_offset p r l = 8 * off l (along p r) := by unfold g_bend_offset; rw [off_eq h]; rfl
theorem so_eq {l : Nat} (h : l ≤ 5) (p r : Int) : g_sinister_offset p r l = 8 * off l (along (flip p) r) := by unfold g_sinister_offset; rw [off_eq h]; unfold g_sinister_along; rw [mir_eq]; rfl
theorem sa_eq (p r : Int) : g_sinister_across p r = diag (flip p) r := by unfold g_sinister_across; rw [mir_eq]; rfl
theorem pb_eq {l : Nat} (h : l ≤ 5) (p r : Int) : g_per_bend p r l = inBend l p r := by unfold g_per_bend; rw [bo_eq h]; rfl
theorem pbs_eq {l : Nat} (h : l ≤ 5) (p r : Int) : g_per_bend_sinister p r l = inBend l (flip p) r := by unfold g_per_bend_sinister; rw [so_eq h, sa_eq]; rfl
theorem pp_eq {l : Nat} (h : l ≤ 5) (p r : Int) : g_per_pale p r l = decide (p < 240 + off l r) := by unfold g_per_pale; rw [off_eq h]
theorem pf_eq {l : Nat} (h : l ≤ 5) (p r : Int) : g_per_fess p r l = decide (r < 288 + off l p) := by unfold g_per_fess; rw [off_eq h]
theorem fa0 {l : Nat} (h : l ≤ 5) (p r : Int) : g_per_pale p r l = firstAt 0 l p r := pp_eq h p r
theorem fa1 {l : Nat} (h : l ≤ 5) (p r : Int) : g_per_fess p r l = firstAt 1 l p r := pf_eq h p r
theorem fa2 {l : Nat} (h : l ≤ 5) (p r : Int) : g_per_bend p r l = firstAt 2 l p r := pb_eq h p r
theorem fa3 {l : Nat} (h : l ≤ 5) (p r : Int) : g_per_bend_sinister p r l = firstAt 3 l p r := pbs_eq h p r
theorem fa4 {l : Nat} (h : l ≤ 5) (p r : Int) : g_per_chevron p r l = firstAt 4 l p r := by unfold g_per_chevron; rw [off_eq h, mid_eq]; rfl
theorem fa5 {l : Nat} (h : l ≤ 5) (p r : Int) : g_per_saltire p r l = firstAt 5 l p r := by unfold g_per_saltire; rw [pb_eq h, pbs_eq h]; rfl
theorem fa6 {l : Nat} (h : l ≤ 5) (p r : Int) : g_quarterly p r l = firstAt 6 l p r := by unfold g_quarterly; rw [pp_eq h, pf_eq h]; rfl
theorem fa7 {l : Nat} (h : l ≤ 5) (p r : Int) : g_gyronny p r l = firstAt 7 l p r := by unfold g_gyronny; rw [fa5 h, fa6 h]; rfl
theorem pc0 {l : Nat} (h : l ≤ 5) (p r n : Int) : g_barry p r n l = pieceAt 0 n l p r := by unfold g_barry; rw [off_eq h]; rfl
theorem pc1 {l : Nat} (h : l ≤ 5) (p r n : Int) : g_paly p r n l = pieceAt 1 n l p r := by unfold g_paly; rw [off_eq h]; rfl
theorem pc2 {l : Nat} (h : l ≤ 5) (p r n : Int) : g_bendy p r n l = pieceAt 2 n l p r := by unfold g_bendy; rw [bo_eq h]; rfl
theorem pc3 {l : Nat} (h : l ≤ 5) (p r n : Int) : g_bendy_sinister p r n l = pieceAt 3 n l p r := by unfold g_bendy_sinister; rw [so_eq h, sa_eq]; rfl
theorem pc4 {l : Nat} (h : l ≤ 5) (p r n : Int) : g_chevronny p r n l = pieceAt 4 n l p r := by unfold g_chevronny; rw [off_eq h, mid_eq]; rfl
theorem pc5 {l : Nat} (h : l ≤ 5) (p r n : Int) : g_chequy p r n l = pieceAt 5 n l p r := rfl
theorem pc6 {l : Nat} (h : l ≤ 5) (p r n : Int) : g_lozengy p r n l = pieceAt 6 n l p r := rfl
theorem in_eq (a b x t : Int) : (decide (a ≤ x - t) && decide (x - t < b)) = within (a + t) x (b + t) := by
  unfold within
  rw [Bool.eq_iff_iff]
  simp only [Bool.and_eq_true, decide_eq_true_eq]
  omega
theorem near_eq (x m : Int) : decide (ab x < m) = within (1 - m) x m := by
  unfold within
  rw [Bool.eq_iff_iff]
  simp only [Bool.and_eq_true, decide_eq_true_eq]
  show (if x < 0 then -x else x) < m ↔ _
  split <;> omega
theorem bw_eq {l : Nat} (h : l ≤ 5) (p r m : Int) : g_bend_within p r l m = nearDiag l m p r := by unfold g_bend_within; rw [bo_eq h, near_eq]; rfl
theorem sw_eq {l : Nat} (h : l ≤ 5) (p r m : Int) : g_sinister_within p r l m = nearDiag l m (flip p) r := by unfold g_sinister_within; rw [so_eq h, sa_eq, near_eq]; rfl
theorem or0 {l : Nat} (h : l ≤ 5) (p r : Int) : g_chief p r l = ordHas 0 l p r := by unfold g_chief; rw [off_eq h]; rfl
theorem or1 {l : Nat} (h : l ≤ 5) (p r : Int) : g_base p r l = ordHas 1 l p r := by unfold g_base; rw [off_eq h]; rfl
theorem or2 {l : Nat} (h : l ≤ 5) (p r : Int) : g_pale p r l = ordHas 2 l p r := by unfold g_pale; rw [off_eq h, in_eq]; rfl
theorem or3 {l : Nat} (h : l ≤ 5) (p r : Int) : g_fess p r l = ordHas 3 l p r := by unfold g_fess; rw [off_eq h, in_eq]; rfl
theorem or4 {l : Nat} (h : l ≤ 5) (p r : Int) : g_bend p r l = ordHas 4 l p r := bw_eq h p r 800
theorem or5 {l : Nat} (h : l ≤ 5) (p r : Int) : g_bend_sinister p r l = ordHas 5 l p r := sw_eq h p r 800
theorem or6 {l : Nat} (h : l ≤ 5) (p r : Int) : g_chevron p r l = ordHas 6 l p r := by unfold g_chevron; rw [off_eq h, mid_eq]; rfl
theorem or7 {l : Nat} (h : l ≤ 5) (p r : Int) : g_cross_ordinaries p r l = ordHas 7 l p r := by unfold g_cross_ordinaries; rw [off_eq h, off_eq h, in_eq, in_eq]; rfl
theorem or8 {l : Nat} (h : l ≤ 5) (p r : Int) : g_saltire_ordinaries p r l = ordHas 8 l p r := by unfold g_saltire_ordinaries; rw [bw_eq h, sw_eq h]; rfl
theorem or9 {l : Nat} (h : l ≤ 5) (p r : Int) : g_pile p r l = ordHas 9 l p r := by unfold g_pile; rw [off_eq h, mid_eq]; rfl
theorem or10 {l : Nat} (h : l ≤ 5) (p r : Int) : g_bordure p r l = ordHas 10 l p r := by unfold g_bordure; rw [off_eq h, off_eq h]; rfl
theorem or11 {l : Nat} (h : l ≤ 5) (p r : Int) : g_canton p r l = ordHas 11 l p r := by unfold g_canton; rw [off_eq h, off_eq h]; rfl
theorem or12 {l : Nat} (h : l ≤ 5) (p r : Int) : g_quarter p r l = ordHas 12 l p r := by unfold g_quarter; rw [off_eq h, off_eq h]; rfl
section
variable {x y : Int} (h : ¬ (48 < size x ∨ 48 < size y))
include h
theorem ch0 : g_roundel x y = chargeHas 0 x y := (if_neg h).symm
theorem ch1 : g_annulet x y = chargeHas 1 x y := (if_neg h).symm
theorem ch2 : g_lozenge x y = chargeHas 2 x y := (if_neg h).symm
theorem ch3 : g_mascle x y = chargeHas 3 x y := (if_neg h).symm
theorem ch4 : g_fusil x y = chargeHas 4 x y := (if_neg h).symm
theorem ch5 : g_billet x y = chargeHas 5 x y := (if_neg h).symm
theorem ch6 : g_mullet x y = chargeHas 6 x y := (if_neg h).symm
theorem ch7 : g_crescent x y = chargeHas 7 x y := (if_neg h).symm
theorem ch8 : g_increscent x y = chargeHas 8 x y := (if_neg h).symm
theorem ch9 : g_cross_charges x y = chargeHas 9 x y := (if_neg h).symm
theorem ch10 : g_saltire_charges x y = chargeHas 10 x y := (if_neg h).symm
theorem ch11 : g_escutcheon x y = chargeHas 11 x y := (if_neg h).symm
theorem ch12 : g_tower x y = chargeHas 12 x y := (if_neg h).symm
theorem ch13 : g_sword x y = chargeHas 13 x y := (if_neg h).symm
theorem ch14 : g_wheel x y = chargeHas 14 x y := (if_neg h).symm
theorem ch15 : g_arrow x y = chargeHas 15 x y := (if_neg h).symm
end
theorem chF {c : Nat} {x y : Int} (h : 48 < size x ∨ 48 < size y) : chargeHas c x y = false := if_pos h
theorem FieldAt.sm {CF z : Addr} {H H' : Hp} {f : Field} (x : FieldAt CF H z f) (s : Same H H') : FieldAt CF H' z f := let ⟨d, e⟩ := x; ⟨d, s _ _ e⟩
theorem FillAt.sm {CF : Addr} {v : V} {H H' : Hp} {f : Fill} (x : FillAt CF H v f) (s : Same H H') : FillAt CF H' v f := by
  cases f with
  | counter => exact x
  | solid f => obtain ⟨y, e, q⟩ := x; exact ⟨y, e, q.sm s⟩
theorem LayerAt.sm {CF CO CG z : Addr} {H H' : Hp} {l : Layer} (x : LayerAt CF CO CG H z l) (s : Same H H') : LayerAt CF CO CG H' z l := by
  cases l with
  | ord o l f => obtain ⟨d, v, e, q⟩ := x; exact ⟨d, v, s _ _ e, q.sm s⟩
  | group c n' m s' f => obtain ⟨d, v, e, q⟩ := x; exact ⟨d, v, s _ _ e, q.sm s⟩
theorem same_new {H : Hp} {l : Addr} {o : HO} (h : H l = none) : Same H (upd H l o) := fun b u e => by rw [upd_ne (ne_of_none e h)]; exact e
theorem same_over {H H1 : Hp} {l : Addr} {o : HO} (s : Same H H1) (h : H l = none) : Same H (upd H1 l o) := fun b u e => by rw [upd_ne (ne_of_none e h)]; exact s _ _ e
theorem take_succ {α : Type} {l : List α} {i : Nat} {x : α} (h : l[i]? = some x) : l.take (i + 1) = l.take i ++ [x] := by rw [List.take_succ, h]; rfl
theorem f_look (f : Field) : (fOf f).lookup ("first" : Str) = some (vn (match f with | .plain t => t | .parted _ _ a _ => a | .varied _ _ _ a _ => a)) ∧ (fOf f).lookup ("second" : Str) = some (vn (match f with | .plain t => t | .parted _ _ _ b => b | .varied _ _ _ _ b => b)) ∧
    (fOf f).lookup ("way" : Str) = some (vn (match f with | .plain _ => 0 | .parted d _ _ _ => d | .varied v _ _ _ _ => v)) ∧ (fOf f).lookup ("line" : Str) = some (vn (match f with | .plain _ => 0 | .parted _ l _ _ => l | .varied _ _ l _ _ => l)) ∧
    (fOf f).lookup ("pieces" : Str) = some (vn (match f with | .plain _ => 0 | .parted .. => 0 | .varied _ n _ _ _ => n)) := by
  cases f <;> exact ⟨by kernel_rfl, by kernel_rfl, by kernel_rfl, by kernel_rfl, by kernel_rfl⟩
theorem o_look (o l : Nat) (v : V) : (ofv (vn o) (vn l) v).lookup ("ordinary" : Str) = some (vn o) ∧ (ofv (vn o) (vn l) v).lookup ("line" : Str) = some (vn l) ∧ (ofv (vn o) (vn l) v).lookup ("fill" : Str) = some v := ⟨by kernel_rfl, by kernel_rfl, by kernel_rfl⟩
theorem g_look (c n m s : Nat) (v : V) : (gfv (vn c) (vn n) (vn m) (vn s) v).lookup ("charge" : Str) = some (vn c) ∧ (gfv (vn c) (vn n) (vn m) (vn s) v).lookup ("how_many" : Str) = some (vn n) ∧ (gfv (vn c) (vn n) (vn m) (vn s) v).lookup ("manner" : Str) = some (vn m) ∧
    (gfv (vn c) (vn n) (vn m) (vn s) v).lookup ("size" : Str) = some (vn s) ∧ (gfv (vn c) (vn n) (vn m) (vn s) v).lookup ("fill" : Str) = some v := ⟨by kernel_rfl, by kernel_rfl, by kernel_rfl, by kernel_rfl, by kernel_rfl⟩
theorem a_look (f l : V) : (afv f l).lookup ("field" : Str) = some f ∧ (afv f l).lookup ("layers" : Str) = some l := ⟨by kernel_rfl, by kernel_rfl⟩
theorem paired_get {α β : Type} {G : α → β → Prop} : ∀ {l : List α} {m : List β} {i : Nat} {a : α}, Paired G l m → l[i]? = some a → ∃ b, m[i]? = some b ∧ G a b
  | _, _, _, _, .nil, e => by simp at e
  | _, _, 0, _, .cons r _, e => by
    have e' := Option.some.inj e
    subst e'
    exact ⟨_, rfl, r⟩
  | _, _, i + 1, a, .cons _ t, e => by
    obtain ⟨b, h1, h2⟩ := paired_get (i := i) (a := a) t (by simpa using e)
    exact ⟨b, by simpa using h1, h2⟩
theorem call_isinst {X : Cx} : CallR X (.builtin "isinstance") (fun xs H Q => ∃ x C t b, xs = [x, .ref C] ∧ TyOf X.K H x t ∧ PySem.W.kitOne X.K t (.ref C) = some b ∧ Q (.bl b) H) := by
  intro pins s σ H xs us Q I r h
  obtain ⟨x, C, t, b, rfl, ty, e, q⟩ := h
  obtain ⟨u, w', rfl, r1, r2⟩ := vals2 r
  obtain rfl : w' = Value.ref C := r2
  exact isinst_ok I r1 ty e fun tk => ⟨.bl b, H, I.tok tk, rfl, q⟩
noncomputable def hf (f : Field) (p r : Int) : Bool := match f with
  | .plain _ => true
  | .parted d l _ _ => firstAt d l p r
  | .varied v n l _ _ => decide (pieceAt v (n : Int) l p r % 2 = 0)
noncomputable def fst1 : Field → Nat
  | .plain t => t
  | .parted _ _ a _ => a
  | .varied _ _ _ a _ => a
noncomputable def snd1 : Field → Nat
  | .plain t => t
  | .parted _ _ _ b => b
  | .varied _ _ _ _ b => b
theorem at_t {f : Field} {p r : Int} (h : hf f p r = true) : f.at_ p r = fst1 f := by
  cases f with
  | plain t => rfl
  | parted d l a b => exact if_pos h
  | varied v n l a b => exact if_pos (of_decide_eq_true h)
theorem at_f {f : Field} {p r : Int} (h : hf f p r = false) : f.at_ p r = snd1 f := by
  cases f with
  | plain t => rfl
  | parted d l a b => exact if_neg (by rw [show firstAt d l p r = false from h]; exact Bool.false_ne_true)
  | varied v n l a b => exact if_neg (of_decide_eq_false h)
theorem ct_t {f : Field} {p r : Int} (ok : FieldOk f) (h : hf f p r = true) : Fill.counter.at_ f p r = snd1 f := by
  have e := at_t h
  cases f with
  | plain t => rfl
  | parted d l a b =>
    show (if (Field.parted d l a b).at_ p r = a then b else a) = b
    exact if_pos e
  | varied v n l a b =>
    show (if (Field.varied v n l a b).at_ p r = a then b else a) = b
    exact if_pos e
theorem ct_f {f : Field} {p r : Int} (ok : FieldOk f) (h : hf f p r = false) : Fill.counter.at_ f p r = fst1 f := by
  have e := at_f h
  cases f with
  | plain t => rfl
  | parted d l a b =>
    show (if (Field.parted d l a b).at_ p r = a then b else a) = a
    exact if_neg (by rw [e]; exact ok.2.2.2.2)
  | varied v n l a b =>
    show (if (Field.varied v n l a b).at_ p r = a then b else a) = a
    exact if_neg (by rw [e]; exact ok.2.2.2.2.2.2.2)
noncomputable def spT3 (j : Nat) : Sp := spI3 (fun p r l => 0 ≤ l ∧ l < 6) (fun p r l => .bl (firstAt j l.toNat p r))
noncomputable def spT4 (j : Nat) : Sp := spI4 (fun p r n l => (0 ≤ l ∧ l < 6) ∧ 2 ≤ n ∧ n ≤ 24) (fun p r n l => .int (pieceAt j n l.toNat p r))
noncomputable def spTO (j : Nat) : Sp := spI3 (fun p r l => 0 ≤ l ∧ l < 6) (fun p r l => .bl (ordHas j l.toNat p r))
noncomputable def spTC (j : Nat) : Sp := spI2 (fun x y => -48 ≤ x ∧ x ≤ 48 ∧ -48 ≤ y ∧ y ≤ 48) (fun x y => .bl (chargeHas j x y))
noncomputable def spFP (CF : Addr) (b : Field → Int → Int → V) : Sp := fun vs H Q _ => ∃ (z : Addr) (f : Field) (p r : Int), vs = [.ref z, .int p, .int r] ∧ FieldAt CF H z f ∧ FieldOk f ∧ Q (b f p r) H
section
variable {P : Program} {w : World} {K : PySem.W.Frag} {mg : Str → Option Value} {base : Heap} {CF fF : Addr}
theorem sc_has_first : FnScope ["field", "p", "r"] ["field", "p", "r"] (defScope s_has_first) := ⟨rfl, rfl, rfl, by decide +kernel, rfl, by decide +kernel, by decide +kernel⟩
theorem ok_has_first {f aP aV : Addr} {fP fV : List Addr} {fd : FuncData} (F : Fun K "has_first" "has_first" s_has_first f fd) (RF : RC K mg "Field" CF fF ["kind", "way", "pieces", "line", "first", "second"])
    (kP : ∃ t, mg "PARTED" = some (.int 1 t)) (kV : ∃ t, mg "VARIED" = some (.int 2 t)) (mP : mg "PARTED_BY_WAY" = some (.ref aP)) (mV : mg "VARIED_BY_WAY" = some (.ref aV))
    (sP : ∀ H, SqT K H aP (fP.map V.ref)) (sV : ∀ H, SqT K H aV (fV.map V.ref)) (nP : fP.length = 8) (nV : fV.length = 7)
    (TP : Tab P w K mg base 6 ["p", "r", "line"] spT3 fP) (TV : Tab P w K mg base 6 ["p", "r", "n", "line"] spT4 fV) :
    FnOk P w K mg base (CXx P w) 7 f fd ["field", "p", "r"] (spFP CF fun f p r => .bl (hf f p r)) := by
  refine F.okX sc_has_first (fun vs H Q E h => ?_) (fun cdv A outer s H vs Q E hr h => ?_)
  · obtain ⟨z, f, p, r, rfl, _⟩ := h
    rfl
  · obtain ⟨z, g, p, r, rfl, ⟨dz, hz⟩, hok, k⟩ := h
    obtain ⟨tP, hP⟩ := kP
    obtain ⟨tV, hV⟩ := kV
    obtain ⟨e1, e2, e3, e4, e5⟩ := f_look g
    have e0 := f_kind g
    refine ⟨_, pss_cons (ps_if (pt_cmpR op_eq (pe_fld (pv 0) rfl) (pe_glob (v := .int 1) rfl hP ⟨tP, rfl⟩) (nomark _)) (pss_one (ps_ret (pe_callS hr (pe_ix ix_tup (pe_glob (v := .ref aP) rfl mP rfl) (pe_fld (pv 0) rfl) (fun _ _ => rfl)) (pa_cons (pv 1) (pa_cons (pv 2) (pa_cons (pe_fld (pv 0) rfl) pa_nil)))))) pss_nil)
      (pss_cons (ps_if (pt_cmpR op_eq (pe_fld (pv 0) rfl) (pe_glob (v := .int 2) rfl hV ⟨tV, rfl⟩) (nomark _)) (pss_one (ps_ret (pe_cmpR op_eq (pe_op op_mod (pe_callS hr (pe_ix ix_tup (pe_glob (v := .ref aV) rfl mV rfl) (pe_fld (pv 0) rfl) (fun _ _ => rfl)) (pa_cons (pv 1) (pa_cons (pv 2) (pa_cons (pe_fld (pv 0) rfl) (pa_cons (pe_fld (pv 0) rfl) pa_nil))))) pe_int) pe_int (nomark _)))) pss_nil)
      (pss_one (ps_ret pe_bl))), ?_⟩
    have fl : ∀ {x : Str} {v : V}, x ∈ (["kind", "way", "pieces", "line", "first", "second"] : List Str) → (fOf g).lookup x = some v → PV (tFld K (tVar 0) x) (start ["field", "p", "r"] [.ref z, .int p, .int r]) H v := fun hx e => .fld (.var rfl) hz RF.cl (RF.no _ hx) e
    suffices h : PR _ (start ["field", "p", "r"] [.ref z, .int p, .int r]) H (.bl (hf g p r)) from h _ k
    cases g with
    | plain t =>
      exact .ifF (.tst (.eqI (i := 0) (j := 1) (fl (by decide +kernel) e0) (.c _))) (by decide) (.ifF (.tst (.eqI (i := 0) (j := 2) (fl (by decide +kernel) e0) (.c _))) (by decide) (.ret (.c _)))
    | parted d l a b =>
      obtain ⟨o1, o2, _⟩ := hok
      refine .ifT (.tst (.eqI (i := 1) (j := 1) (fl (by decide +kernel) e0) (.c _))) (by decide) (.ret (.tab (j := d) TP (sP H) (.c _) (fl (by decide +kernel) e3) (by omega) (.cons (.var rfl) (.cons (.var rfl) (.cons (fl (by decide +kernel) e4) .nil))) fun Q q => ⟨p, r, (l : Int), rfl, ⟨by omega, by omega⟩, q⟩))
    | varied v n l a b =>
      obtain ⟨o1, o2, o3, o4, _⟩ := hok
      refine .ifF (.tst (.eqI (i := 2) (j := 1) (fl (by decide +kernel) e0) (.c _))) (by decide) (.ifT (.tst (.eqI (i := 2) (j := 2) (fl (by decide +kernel) e0) (.c _))) (by decide) (.ret ?_))
      exact .eqI (.iC (i := pieceAt v n l p r) (j := 2) (.tab (j := v) TV (sV H) (.c _) (fl (by decide +kernel) e3) (by omega) (.cons (.var rfl) (.cons (.var rfl) (.cons (fl (by decide +kernel) e5) (.cons (fl (by decide +kernel) e4) .nil)))) fun Q q => ⟨p, r, (n : Int), (l : Int), rfl, ⟨⟨by omega, by omega⟩, by omega, by omega⟩, q⟩) (.c _) (by show (0 : Int) < 2; decide)) (.c _)
theorem sc_field_tincture : FnScope ["field", "p", "r"] ["field", "p", "r"] (defScope s_field_tincture) := ⟨rfl, rfl, rfl, by decide +kernel, rfl, by decide +kernel, by decide +kernel⟩
theorem ok_field_tincture {f f_has_first : Addr} {fd : FuncData} (F : Fun K "field_tincture" "field_tincture" s_field_tincture f fd) (RF : RC K mg "Field" CF fF ["kind", "way", "pieces", "line", "first", "second"])
    (p_has_first : PF P w K mg base "has_first" 7 f_has_first ["field", "p", "r"] (spFP CF fun f p r => .bl (hf f p r))) : FnOk P w K mg base (CXx P w) 8 f fd ["field", "p", "r"] (spFP CF fun f p r => vn (f.at_ p r)) := by
  refine F.okX sc_field_tincture (fun vs H Q E h => ?_) (fun cdv A outer s H vs Q E hr h => ?_)
  · obtain ⟨z, f, p, r, rfl, _⟩ := h
    rfl
  · obtain ⟨z, g, p, r, rfl, ⟨dz, hz⟩, hok, k⟩ := h
    obtain ⟨e1, e2, e3, e4, e5⟩ := f_look g
    refine ⟨_, pss_cons (ps_if (pt_val (pe_pf p_has_first hr rfl (pa_cons (pv 0) (pa_cons (pv 1) (pa_cons (pv 2) pa_nil))))) (pss_one (ps_ret (pe_fld (pv 0) rfl))) pss_nil) (pss_one (ps_ret (pe_fld (pv 0) rfl))), ?_⟩
    suffices h : PR _ (start ["field", "p", "r"] [.ref z, .int p, .int r]) H (vn (g.at_ p r)) from h _ k
    refine .if_ (p := hf g p r) (.b (.call (.cons (.var rfl) (.cons (.var rfl) (.cons (.var rfl) .nil))) fun Q q => ⟨z, g, p, r, rfl, ⟨dz, hz⟩, hok, q⟩)) (fun h => ?_) (fun h => ?_)
    · rw [at_t h]
      exact .ret (.fld (.var rfl) hz RF.cl (RF.no _ (by decide +kernel)) (e1.trans (by cases g <;> rfl)))
    · rw [at_f h]
      exact .ret (.fld (.var rfl) hz RF.cl (RF.no _ (by decide +kernel)) (e2.trans (by cases g <;> rfl)))
theorem sc_counterchanged_tincture : FnScope ["field", "p", "r"] ["field", "p", "r"] (defScope s_counterchanged_tincture) := ⟨rfl, rfl, rfl, by decide +kernel, rfl, by decide +kernel, by decide +kernel⟩
theorem ok_counterchanged_tincture {f f_has_first : Addr} {fd : FuncData} (F : Fun K "counterchanged_tincture" "counterchanged_tincture" s_counterchanged_tincture f fd) (RF : RC K mg "Field" CF fF ["kind", "way", "pieces", "line", "first", "second"])
    (p_has_first : PF P w K mg base "has_first" 7 f_has_first ["field", "p", "r"] (spFP CF fun f p r => .bl (hf f p r))) : FnOk P w K mg base (CXx P w) 8 f fd ["field", "p", "r"] (spFP CF fun f p r => vn (Fill.counter.at_ f p r)) := by
  refine F.okX sc_counterchanged_tincture (fun vs H Q E h => ?_) (fun cdv A outer s H vs Q E hr h => ?_)
  · obtain ⟨z, f, p, r, rfl, _⟩ := h
    rfl
  · obtain ⟨z, g, p, r, rfl, ⟨dz, hz⟩, hok, k⟩ := h
    obtain ⟨e1, e2, e3, e4, e5⟩ := f_look g
    refine ⟨_, pss_cons (ps_if (pt_val (pe_pf p_has_first hr rfl (pa_cons (pv 0) (pa_cons (pv 1) (pa_cons (pv 2) pa_nil))))) (pss_one (ps_ret (pe_fld (pv 0) rfl))) pss_nil) (pss_one (ps_ret (pe_fld (pv 0) rfl))), ?_⟩
    suffices h : PR _ (start ["field", "p", "r"] [.ref z, .int p, .int r]) H (vn (Fill.counter.at_ g p r)) from h _ k
    refine .if_ (p := hf g p r) (.b (.call (.cons (.var rfl) (.cons (.var rfl) (.cons (.var rfl) .nil))) fun Q q => ⟨z, g, p, r, rfl, ⟨dz, hz⟩, hok, q⟩)) (fun h => ?_) (fun h => ?_)
    · rw [ct_t hok h]
      exact .ret (.fld (.var rfl) hz RF.cl (RF.no _ (by decide +kernel)) (e2.trans (by cases g <;> rfl)))
    · rw [ct_f hok h]
      exact .ret (.fld (.var rfl) hz RF.cl (RF.no _ (by decide +kernel)) (e1.trans (by cases g <;> rfl)))
noncomputable def spCH : Sp := fun vs H Q _ => ∃ (c : Nat) (x y : Int), vs = [vn c, .int x, .int y] ∧ c ≤ 15 ∧ Q (.bl (chargeHas c x y)) H
noncomputable def spOH : Sp := fun vs H Q _ => ∃ (o l : Nat) (p r : Int), vs = [vn o, vn l, .int p, .int r] ∧ o ≤ 12 ∧ l ≤ 5 ∧ Q (.bl (ordHas o l p r)) H
theorem sc_charge_has : FnScope ["charge", "x", "y"] ["charge", "x", "y"] (defScope s_charge_has) := ⟨rfl, rfl, rfl, by decide +kernel, rfl, by decide +kernel, by decide +kernel⟩
theorem ok_charge_has {f aC : Addr} {fC : List Addr} {fd : FuncData} (F : Fun K "charge_has" "charge_has" s_charge_has f fd) (kR : ∃ t, mg "REACH" = some (.int 48 t)) (hB : mg "abs" = none) (mC : mg "BY_NUMBER_charges" = some (.ref aC)) (sC : ∀ H, SqT K H aC (fC.map V.ref)) (nC : fC.length = 16)
    (TC : Tab P w K mg base 3 ["x", "y"] spTC fC) : FnOk P w K mg base (CXx P w) 4 f fd ["charge", "x", "y"] spCH := by
  refine F.okX sc_charge_has (fun vs H Q E h => ?_) (fun cdv A outer s H vs Q E hr h => ?_)
  · obtain ⟨c, x, y, rfl, _⟩ := h
    rfl
  · obtain ⟨c, x, y, rfl, hc, k⟩ := h
    obtain ⟨tR, hR⟩ := kR
    refine ⟨_, pss_cons (ps_if (PW.pt (pw_or (pt_cmpR op_gt (pe_callB call_abs rfl hB boot_abs (pa_cons (pv 1) pa_nil)) (pe_glob (v := .int 48) rfl hR ⟨tR, rfl⟩) (nomark _)) (pw_or1 (pt_cmpR op_gt (pe_callB call_abs rfl hB boot_abs (pa_cons (pv 2) pa_nil)) (pe_glob (v := .int 48) rfl hR ⟨tR, rfl⟩) (nomark _))))) (pss_one (ps_ret pe_bl)) pss_nil)
      (pss_one (ps_ret (pe_callS hr (pe_ix ix_tup (pe_glob (v := .ref aC) rfl mC rfl) (pv 0) (fun _ _ => rfl)) (pa_cons (pv 1) (pa_cons (pv 2) pa_nil))))), ?_⟩
    suffices h : PR _ (start ["charge", "x", "y"] [vn c, .int x, .int y]) H (.bl (chargeHas c x y)) from h _ k
    refine .if_ (p := decide (48 < size x) || decide (48 < size y)) (.or (.tst (.i0 (.abs (.cons (.var rfl) .nil)) (.c _))) (fun _ => .tst (.i0 (.abs (.cons (.var rfl) .nil)) (.c _)))) (fun h => ?_) (fun h => ?_)
    · rw [chF (by simpa using h)]
      exact .ret (.c _)
    · have h' : ¬ (48 < size x ∨ 48 < size y) := by simpa using h
      refine .ret (.tab (j := c) TC (sC H) (.c _) (.var rfl) (by omega) (.cons (.var rfl) (.cons (.var rfl) .nil)) fun Q q => ⟨x, y, rfl, ?_, q⟩)
      unfold size at h'
      by_cases a1 : x < 0 <;> by_cases a2 : y < 0 <;> simp only [a1, a2, if_true, if_false] at h' <;> omega
theorem sc_ordinary_has : FnScope ["ordinary", "line", "p", "r"] ["ordinary", "line", "p", "r"] (defScope s_ordinary_has) := ⟨rfl, rfl, rfl, by decide +kernel, rfl, by decide +kernel, by decide +kernel⟩
theorem ok_ordinary_has {f aO : Addr} {fO : List Addr} {fd : FuncData} (F : Fun K "ordinary_has" "ordinary_has" s_ordinary_has f fd) (mO : mg "BY_NUMBER_ordinaries" = some (.ref aO)) (sO : ∀ H, SqT K H aO (fO.map V.ref)) (nO : fO.length = 13)
    (TO : Tab P w K mg base 5 ["p", "r", "line"] spTO fO) : FnOk P w K mg base (CXx P w) 6 f fd ["ordinary", "line", "p", "r"] spOH := by
  refine F.okX sc_ordinary_has (fun vs H Q E h => ?_) (fun cdv A outer s H vs Q E hr h => ?_)
  · obtain ⟨o, l, p, r, rfl, _⟩ := h
    rfl
  · obtain ⟨o, l, p, r, rfl, ho, hl, k⟩ := h
    refine ⟨_, pss_one (ps_ret (pe_callS hr (pe_ix ix_tup (pe_glob (v := .ref aO) rfl mO rfl) (pv 0) (fun _ _ => rfl)) (pa_cons (pv 2) (pa_cons (pv 3) (pa_cons (pv 1) pa_nil))))), ?_⟩
    suffices h : PR _ (start ["ordinary", "line", "p", "r"] [vn o, vn l, .int p, .int r]) H (.bl (ordHas o l p r)) from h _ k
    exact .ret (.tab (j := o) TO (sO H) (.c _) (.var rfl) (by omega) (.cons (.var rfl) (.cons (.var rfl) (.cons (.var rfl) .nil))) fun Q q => ⟨p, r, (l : Int), rfl, ⟨by omega, by omega⟩, q⟩)
end
noncomputable def TupK (H H' : Hp) : Prop := ∀ b xs, H b = some (.tup xs) → H' b = some (.tup xs)
theorem TupK.of {H H' : Hp} (s : Same H H') : TupK H H' := fun b xs e => s b _ e
theorem TupK.lst {H : Hp} {l : Addr} {xs ys : List V} (e : H l = some (.lst xs)) : TupK H (upd H l (.lst ys)) := fun b zs q => by
  rw [upd_ne (fun z => by rw [z, e] at q; cases q)]; exact q
theorem TupK.trans {H H1 H2 : Hp} (a : TupK H H1) (b : TupK H1 H2) : TupK H H2 := fun c xs e => b c xs (a c xs e)
noncomputable abbrev PtsT (H : Hp) (ts : List Addr) (xs : List (Int × Int)) : Prop := Paired (fun t (x : Int × Int) => H t = some (.tup [.int x.1, .int x.2])) ts xs
theorem PtsT.keep {H H' : Hp} {ts : List Addr} {xs : List (Int × Int)} (S : PtsT H ts xs) (k : TupK H H') : PtsT H' ts xs := Paired.mapP S fun _ _ e => k _ _ e
theorem PtsT.snoc {H H' : Hp} {ts : List Addr} {xs : List (Int × Int)} {t : Addr} {x : Int × Int} (S : PtsT H ts xs) (k : TupK H H') (h : H' t = some (.tup [.int x.1, .int x.2])) : PtsT H' (ts ++ [t]) (xs ++ [x]) := paired_snoc (G := fun t (x : Int × Int) => H' t = some (.tup [.int x.1, .int x.2])) h (S.keep k)
noncomputable def PtsAt (H : Hp) (l : Addr) (xs : List (Int × Int)) : Prop := ∃ ts : List Addr, H l = some (.lst (ts.map V.ref)) ∧ PtsT H ts xs
theorem PtsAt.sm {H H' : Hp} {l : Addr} {xs : List (Int × Int)} (x : PtsAt H l xs) (s : Same H H') : PtsAt H' l xs := let ⟨ts, h, q⟩ := x; ⟨ts, s _ _ h, q.keep (.of s)⟩
noncomputable def ip (x : Nat × Nat) : Int × Int := ((x.1 : Int), (x.2 : Int))
noncomputable def rowM (n i x : Nat) : List (Nat × Nat) := (List.range x).map fun j => (480 * (2 * j + 1) / (2 * x), 576 * (2 * i + 1) / (2 * (rowsOf n).length))
noncomputable def accM (n i : Nat) : List (Nat × Nat) := ((rowsOf n).zipIdx.take i).flatMap fun x => rowM n x.2 x.1
theorem mids0 (n : Nat) : middles 0 n = accM n (rowsOf n).length := by
  unfold accM
  rw [List.take_of_length_le (by simp)]
  rfl
theorem accM_succ {n i x : Nat} (h : (rowsOf n)[i]? = some x) : accM n (i + 1) = accM n i ++ rowM n i x := by
  unfold accM
  have e : (rowsOf n).zipIdx[i]? = some (x, i) := by rw [List.getElem?_zipIdx, h]; simp
  rw [take_succ e, List.flatMap_append]
  simp
theorem rows_le : ∀ n, n < 11 → (rowsOf n).length ≤ 4 ∧ 1 ≤ (rowsOf n).length ∧ ∀ x ∈ rowsOf n, 1 ≤ x ∧ x ≤ 4 := by decide +kernel
noncomputable def midOne (m n k : Nat) : Nat × Nat := if m = 1 then (480 * (2 * k + 1) / (2 * n), 288) else if m = 2 then (240, 576 * (2 * k + 1) / (2 * n)) else if m = 3 then (480 * (2 * k + 1) / (2 * n), 576 * (2 * k + 1) / (2 * n)) else if m = 4 then (480 - 480 * (2 * k + 1) / (2 * n), 576 * (2 * k + 1) / (2 * n)) else if m = 5 then (480 * (2 * k + 1) / (2 * n), 80) else (480 * (2 * k + 1) / (2 * n), 504)
theorem mids1 {m n : Nat} (h : m ≠ 0) : middles m n = (List.range n).map (midOne m n) := by
  show (if m = 0 then _ else _) = _
  rw [if_neg h]
  rfl
theorem pm480 (k n : Nat) : g_part_middle 480 k n = ((480 * (2 * k + 1) / (2 * n) : Nat) : Int) := by unfold g_part_middle; push_cast; rfl
theorem pm576 (k n : Nat) : g_part_middle 576 k n = ((576 * (2 * k + 1) / (2 * n) : Nat) : Int) := by unfold g_part_middle; push_cast; rfl
noncomputable def half0 (m n : Nat) : Nat := if m = 0 then min (240 / (rowsOf n).foldl max 1) (288 / (rowsOf n).length) else if m = 1 then min (240 / n) 84 else if m = 2 then min (288 / n) 72 else if m = 3 then min (240 / n) 96 else if m = 4 then min (240 / n) 96 else if m = 5 then min (240 / n) 72 else min (240 / n) 64
theorem half_eq : ∀ m, m < 7 → ∀ n, n < 11 → ∀ s, s < 5 → n = 0 ∨ s = 0 ∨ (half m n s = half0 m n * s / 4 ∧ 1 ≤ half m n s ∧ half0 m n ≤ 240) := by decide +kernel
theorem best_eq : ∀ n, n < 11 → bestI ((rowsOf n).map fun (x : Nat) => (x : Int)) = (((rowsOf n).foldl max 1 : Nat) : Int) := by decide +kernel
structure TRw (K : PySem.W.Frag) (mg : Str → Option Value) (aR : Addr) (rs : List Addr) : Prop where
  m : mg "ROWS_groups" = some (.ref aR)
  s : ∀ H, SqT K H aR (rs.map V.ref)
  n : rs.length = 10
  r : ∀ j a, rs[j]? = some a → ∀ H, SqT K H a ((rowsOf (j + 1)).map vn)
noncomputable def spMR : Sp := fun vs H Q _ => ∃ n : Nat, vs = [vn n] ∧ 1 ≤ n ∧ n ≤ 10 ∧ ∀ H' l, Same H H' → H l = none → PtsAt H' l ((middles 0 n).map ip) → Q (.ref l) H'
noncomputable def spMd : Sp := fun vs H Q _ => ∃ m k n : Nat, vs = [vn m, vn k, vn n] ∧ 1 ≤ m ∧ m ≤ 6 ∧ k < n ∧ n ≤ 10 ∧ ∀ t, H t = none → Q (.ref t) (upd H t (.tup [vn (midOne m n k).1, vn (midOne m n k).2]))
noncomputable def spGM : Sp := fun vs H Q _ => ∃ m n : Nat, vs = [vn m, vn n] ∧ m ≤ 6 ∧ 1 ≤ n ∧ n ≤ 10 ∧ ∀ H' l, Same H H' → H l = none → PtsAt H' l ((middles m n).map ip) → Q (.ref l) H'
noncomputable def spHB : Sp := fun vs H Q _ => ∃ m n : Nat, vs = [vn m, vn n] ∧ m ≤ 6 ∧ 1 ≤ n ∧ n ≤ 10 ∧ Q (vn (half0 m n)) H
noncomputable def spHS : Sp := fun vs H Q _ => ∃ m n s : Nat, vs = [vn m, vn n, vn s] ∧ m ≤ 6 ∧ 1 ≤ n ∧ n ≤ 10 ∧ 1 ≤ s ∧ s ≤ 4 ∧ Q (vn (half m n s)) H
noncomputable abbrev spPM : Sp := spI3 (fun v_length v_k v_parts => 0 ≤ v_k ∧ v_k < 20 ∧ 0 < v_parts ∧ v_parts < 20) (fun v_length v_k v_parts => V.int (g_part_middle v_length v_k v_parts))
section
variable {P : Program} {w : World} {K : PySem.W.Frag} {mg : Str → Option Value} {base : Heap}
theorem sc_middles_in_rows : FnScope ["how_many", "rows", "middles", "i", "in_row", "j"] ["how_many"] (defScope s_middles_in_rows) := ⟨rfl, rfl, rfl, by decide +kernel, rfl, by decide +kernel, by decide +kernel⟩
theorem ok_middles_in_rows {f f_pm aR : Addr} {rs : List Addr} {fd : FuncData} (F : Fun K "middles_in_rows" "middles_in_rows" s_middles_in_rows f fd) (R : TRw K mg aR rs) (kW : ∃ t, mg "WIDTH" = some (.int 480 t)) (kH : ∃ t, mg "HEIGHT" = some (.int 576 t)) (zE : mg "enumerate" = none) (zR : mg "range" = none) (zL : mg "len" = none)
    (p_pm : PF P w K mg base "part_middle" 1 f_pm ["length", "k", "parts"] spPM) : FnOk P w K mg base (CXx P w) 2 f fd ["how_many"] spMR := by
  refine F.okX sc_middles_in_rows (fun vs H Q E h => ?_) (fun cdv A outer s H vs Q E hr h => ?_)
  · obtain ⟨n, rfl, _⟩ := h
    rfl
  · obtain ⟨n, rfl, n1, n2, k⟩ := h
    obtain ⟨tW, hW⟩ := kW
    obtain ⟨tH, hH⟩ := kH
    obtain ⟨ar, har⟩ : ∃ a, rs[n - 1]? = some a := ⟨_, List.getElem?_eq_getElem (by rw [R.n]; omega)⟩
    have hrow : ∀ H, SqT K H ar ((rowsOf n).map vn) := fun H => by have := R.r _ _ har H; rwa [show n - 1 + 1 = n by omega] at this
    obtain ⟨b1, b2, b3⟩ := rows_le n (by omega)
    refine ⟨_, pss_cons (ps_set (i := 1) sc_middles_in_rows.nd rfl (Or.inl rfl) (pe_ix ix_tup (pe_glob (v := .ref aR) rfl R.m rfl) (pe_op op_sub (pv 0) pe_int) (fun _ _ => rfl)))
      (pss_cons (ps_set (i := 2) sc_middles_in_rows.nd rfl (Or.inl rfl) (pe_lst pa_nil))
      (pss_cons (ps_for PassesOwn.leaving rfl (pi_enumT rfl zE (pa_cons (pv 1) pa_nil)) (pg_tup (n := 2) rfl (pgs_cons (pg_name (i := 3) sc_middles_in_rows.nd rfl (Or.inl rfl)) (pgs_cons (pg_name (i := 4) sc_middles_in_rows.nd rfl (Or.inl rfl)) pgs_nil)))
        (pss_one (ps_for PassesOwn.leaving rfl (pi_range1 rfl zR (pa_cons (pv 4) pa_nil)) (pg_name (i := 5) sc_middles_in_rows.nd rfl (Or.inl rfl))
          (pss_one (ps_expr (pe_bm PySem.F.plainAttrs_list PySem.F.slot_list_append PySem.F.type_list_append mt_append (pv 2)
            (pa_cons (pe_tup (pa_cons (pe_pf p_pm hr rfl (pa_cons (pe_glob (v := .int 480) rfl hW ⟨tW, rfl⟩) (pa_cons (pv 5) (pa_cons (pv 4) pa_nil)))) (pa_cons (pe_pf p_pm hr rfl (pa_cons (pe_glob (v := .int 576) rfl hH ⟨tH, rfl⟩) (pa_cons (pv 3) (pa_cons (pe_callB call_len_seq (by rfl) zL PySem.boot_len (pa_cons (pv 1) pa_nil)) pa_nil)))) pa_nil))) pa_nil)))))))
      (pss_one (ps_ret (pv 2))))), ?_⟩
    refine ⟨_, rfl, _, _, rfl, rfl, aR, _, _, _, rfl, rfl, R.s H, at_of (j := n - 1) (v := .ref ar) (by omega) (by rw [List.getElem?_map, har]; rfl), ?_⟩
    refine ⟨Nat.zero_le _, fun l hl => ?_⟩
    refine ⟨_, rfl, ar, _, rfl, hrow _, for_enumT (K := K) (a := ar) (xs := (rowsOf n).map vn) (fun i σ H' => ∃ (iv rv jv : Option V) (ts : List Addr), σ = [some (vn n), some (.ref ar), some (.ref l), iv, rv, jv] ∧ H' l = some (.lst (ts.map V.ref)) ∧ PtsT H' ts ((accM n i).map ip) ∧ ts.length ≤ 4 * i ∧ Same H H')
      ⟨none, none, none, [], rfl, upd_same, .nil, Nat.zero_le _, same_new hl⟩ (fun i σ H' _ _ => hrow H') ?_ ?_⟩
    · rintro i X T σ H1 hX ⟨iv, rv, jv, ts, rfl, hl1, S1, l1, s1⟩ hT
      rw [List.getElem?_map, Option.map_eq_some_iff] at hX
      obtain ⟨x, hx, rfl⟩ := hX
      have hx4 := b3 x (List.mem_of_getElem? hx)
      have hi4 : i < (rowsOf n).length := (List.getElem?_eq_some_iff.mp hx).1
      have sT : Same H1 (upd H1 T (.tup [.int (i : Nat), vn x])) := same_new hT
      refine ⟨T, _, rfl, SqT.of upd_same, rfl, _, _, rfl, _, _, rfl, rfl, ?_⟩
      refine ⟨_, rfl, (x : Int), rfl, by omega, by omega, for_range (n := x) (fun j σ H' => ∃ (jv : Option V) (ts : List Addr), σ = [some (vn n), some (.ref ar), some (.ref l), some (.int (i : Nat)), some (vn x), jv] ∧ H' l = some (.lst (ts.map V.ref)) ∧ PtsT H' ts ((accM n i ++ (rowM n i x).take j).map ip) ∧ ts.length ≤ 4 * i + j ∧ Same H H')
        ⟨jv, ts, rfl, sT _ _ hl1, by rw [List.take_zero, List.append_nil]; exact S1.keep (.of sT), l1, s1.trans sT⟩ ?_ ?_⟩
      · rintro j σ H2 hj ⟨jv, ts, rfl, hl2, S2, l2, s2⟩
        refine ⟨_, rfl, .inl ⟨rfl, _, SqL.of hl2⟩, _, rfl, _, rfl, 480, _, (x : Int), rfl, ⟨by omega, by omega, by omega, by omega⟩, ?_⟩
        refine ⟨_, rfl, _, rfl, ar, _, rfl, .inr (hrow _), 576, (i : Int), _, rfl, ⟨by omega, by omega, by rw [List.length_map]; omega, by rw [List.length_map]; omega⟩, (by show 2 ≤ sizeLine; rw [sizeLine_eq]; omega), fun p hp => ?_⟩
        have nl : l ≠ p := ne_of_none hl2 hp
        have e1 : g_part_middle 480 (0 + (j : Int)) x = ((480 * (2 * j + 1) / (2 * x) : Nat) : Int) := by rw [Int.zero_add]; exact pm480 j x
        have e2 : g_part_middle 576 (i : Int) (((rowsOf n).map vn).length : Nat) = ((576 * (2 * i + 1) / (2 * (rowsOf n).length) : Nat) : Int) := by rw [List.length_map]; exact pm576 i _
        have hl3 : upd H2 p (.tup [V.int (g_part_middle 480 (0 + (j : Int)) x), V.int (g_part_middle 576 (i : Int) (((rowsOf n).map vn).length : Nat))]) l = some (.lst (ts.map V.ref)) := by rw [upd_ne nl]; exact hl2
        refine ⟨l, _, _, rfl, rfl, hl3, by rw [List.length_map, sizeLine_eq]; omega, some (V.int (0 + (j : Int))), ts ++ [p], rfl, by rw [upd_same, List.map_append]; rfl, ?_, by rw [List.length_append, List.length_singleton]; omega, ?_⟩
        · have ej : (rowM n i x)[j]? = some (480 * (2 * j + 1) / (2 * x), 576 * (2 * i + 1) / (2 * (rowsOf n).length)) := by
            unfold rowM
            rw [List.getElem?_map, List.getElem?_range hj]; rfl
          rw [take_succ ej, ← List.append_assoc, List.map_append]
          refine S2.snoc ((TupK.of (same_new hp)).trans (TupK.lst hl3)) ?_
          rw [upd_ne (Ne.symm nl), upd_same]
          show some (HO.tup [V.int (g_part_middle 480 (0 + (j : Int)) x), V.int (g_part_middle 576 (i : Int) (((rowsOf n).map vn).length : Nat))]) = _
          rw [e1, e2]
          rfl
        · intro b o e
          have e3 := s2 b o e
          rw [upd_ne (fun z => by rw [z, hl] at e; cases e), upd_ne (ne_of_none e3 hp)]
          exact e3
      · rintro σ H2 ⟨jv, ts, rfl, hl2, S2, l2, s2⟩
        refine ⟨_, _, _, ts, rfl, hl2, ?_, by omega, s2⟩
        rw [accM_succ hx]
        rwa [List.take_of_length_le (by unfold rowM; simp)] at S2
    · rintro σ H1 ⟨iv, rv, jv, ts, rfl, hl1, S1, l1, s1⟩
      refine ⟨_, rfl, k H1 l s1 hl ⟨ts, hl1, ?_⟩⟩
      rw [mids0]
      rwa [List.length_map] at S1
theorem sc_middle : FnScope ["manner", "k", "how_many", "across", "down"] ["manner", "k", "how_many"] (defScope s_middle) := ⟨rfl, rfl, rfl, by decide +kernel, rfl, by decide +kernel, by decide +kernel⟩
structure TMn (mg : Str → Option Value) : Prop where
  i : ∀ nm z, (nm, z) ∈ ([("IN_ROWS", 0), ("IN_FESS", 1), ("IN_PALE", 2), ("IN_BEND", 3), ("IN_BEND_SINISTER", 4), ("IN_CHIEF", 5), ("IN_BASE", 6), ("WIDTH", 480), ("HEIGHT", 576), ("REACH", 48)] : List (Str × Int)) → ∃ t, mg nm = some (.int z t)
theorem ok_middle {f f_pm : Addr} {fd : FuncData} (F : Fun K "middle" "middle" s_middle f fd) (M : TMn mg) (p_pm : PF P w K mg base "part_middle" 1 f_pm ["length", "k", "parts"] spPM) : FnOk P w K mg base (CXx P w) 2 f fd ["manner", "k", "how_many"] spMd := by
  refine F.okX sc_middle (fun vs H Q E h => ?_) (fun cdv A outer s H vs Q E hr h => ?_)
  · obtain ⟨m, j, n, rfl, _⟩ := h
    rfl
  · obtain ⟨m, j, n, rfl, m1, m2, j1, n1, k⟩ := h
    obtain ⟨tW, hW⟩ := M.i "WIDTH" 480 (by decide +kernel)
    obtain ⟨tH, hH⟩ := M.i "HEIGHT" 576 (by decide +kernel)
    obtain ⟨t1, h1⟩ := M.i "IN_FESS" 1 (by decide +kernel)
    obtain ⟨t2, h2⟩ := M.i "IN_PALE" 2 (by decide +kernel)
    obtain ⟨t3, h3⟩ := M.i "IN_BEND" 3 (by decide +kernel)
    obtain ⟨t4, h4⟩ := M.i "IN_BEND_SINISTER" 4 (by decide +kernel)
    obtain ⟨t5, h5⟩ := M.i "IN_CHIEF" 5 (by decide +kernel)
    refine ⟨_, pss_cons (ps_set (i := 3) sc_middle.nd rfl (Or.inl rfl) (pe_pf p_pm hr rfl (pa_cons (pe_glob (v := .int 480) rfl hW ⟨tW, rfl⟩) (pa_cons (pv 1) (pa_cons (pv 2) pa_nil)))))
      (pss_cons (ps_set (i := 4) sc_middle.nd rfl (Or.inl rfl) (pe_pf p_pm hr rfl (pa_cons (pe_glob (v := .int 576) rfl hH ⟨tH, rfl⟩) (pa_cons (pv 1) (pa_cons (pv 2) pa_nil)))))
      (pss_cons (ps_if (pt_cmpR op_eq (pv 0) (pe_glob (v := .int 1) rfl h1 ⟨t1, rfl⟩) (nomark _)) (pss_one (ps_ret (pe_tup (pa_cons (pv 3) (pa_cons pe_int pa_nil))))) pss_nil)
      (pss_cons (ps_if (pt_cmpR op_eq (pv 0) (pe_glob (v := .int 2) rfl h2 ⟨t2, rfl⟩) (nomark _)) (pss_one (ps_ret (pe_tup (pa_cons pe_int (pa_cons (pv 4) pa_nil))))) pss_nil)
      (pss_cons (ps_if (pt_cmpR op_eq (pv 0) (pe_glob (v := .int 3) rfl h3 ⟨t3, rfl⟩) (nomark _)) (pss_one (ps_ret (pe_tup (pa_cons (pv 3) (pa_cons (pv 4) pa_nil))))) pss_nil)
      (pss_cons (ps_if (pt_cmpR op_eq (pv 0) (pe_glob (v := .int 4) rfl h4 ⟨t4, rfl⟩) (nomark _)) (pss_one (ps_ret (pe_tup (pa_cons (pe_op op_sub (pe_glob (v := .int 480) rfl hW ⟨tW, rfl⟩) (pv 3)) (pa_cons (pv 4) pa_nil))))) pss_nil)
      (pss_cons (ps_if (pt_cmpR op_eq (pv 0) (pe_glob (v := .int 5) rfl h5 ⟨t5, rfl⟩) (nomark _)) (pss_one (ps_ret (pe_tup (pa_cons (pv 3) (pa_cons pe_int pa_nil))))) pss_nil)
      (pss_one (ps_ret (pe_tup (pa_cons (pv 3) (pa_cons pe_int pa_nil)))))))))))
      , ?_⟩
    have c0 : (0 : Int) ≤ j ∧ (j : Int) < 20 ∧ (0 : Int) < n ∧ (n : Int) < 20 := by omega
    refine ⟨_, rfl, _, rfl, 480, (j : Int), (n : Int), rfl, c0, _, rfl, _, rfl, 576, (j : Int), (n : Int), rfl, c0, ?_⟩
    have e1 := pm480 j n
    have e2 := pm576 j n
    have z2 : (by exact 2 : Nat) ≤ sizeLine := by show 2 ≤ sizeLine; rw [sizeLine_eq]; omega
    have yes : ∀ {i : Int}, (m : Int) = i → decide (V.int (m : Int) = V.int i) = true := fun h => decide_eq_true (by rw [h])
    have no : ∀ {i : Int}, (m : Int) ≠ i → ¬ decide (V.int (m : Int) = V.int i) = true := fun h z => h (by have := of_decide_eq_true z; injection this)
    have fin : ∀ {a b : Int} {t : Addr}, H t = none → a = (((midOne m n j).1 : Nat) : Int) → b = (((midOne m n j).2 : Nat) : Int) → Q (.ref t) (upd H t (.tup [.int a, .int b])) := fun ht ea eb => by rw [ea, eb]; exact k _ ht
    have e4 : 480 - g_part_middle 480 j n = ((480 - 480 * (2 * j + 1) / (2 * n) : Nat) : Int) := by
      have : 480 * (2 * j + 1) / (2 * n) ≤ 480 := Nat.div_le_of_le_mul (by rw [Nat.mul_comm (2 * n) 480]; exact Nat.mul_le_mul_left 480 (by omega))
      rw [e1]; omega
    have hm : m = 1 ∨ m = 2 ∨ m = 3 ∨ m = 4 ∨ m = 5 ∨ m = 6 := by omega
    rcases hm with rfl | rfl | rfl | rfl | rfl | rfl
    · exact ⟨_, rfl, rfl, _, rfl, iteP (yes rfl) ⟨_, rfl, z2, fun t ht => fin ht e1 rfl⟩⟩
    · exact ⟨_, rfl, rfl, _, rfl, iteN (no (by decide)) ⟨_, rfl, rfl, _, rfl, iteP (yes rfl) ⟨_, rfl, z2, fun t ht => fin ht rfl e2⟩⟩⟩
    · exact ⟨_, rfl, rfl, _, rfl, iteN (no (by decide)) ⟨_, rfl, rfl, _, rfl, iteN (no (by decide)) ⟨_, rfl, rfl, _, rfl, iteP (yes rfl) ⟨_, rfl, _, rfl, z2, fun t ht => fin ht e1 e2⟩⟩⟩⟩
    · exact ⟨_, rfl, rfl, _, rfl, iteN (no (by decide)) ⟨_, rfl, rfl, _, rfl, iteN (no (by decide)) ⟨_, rfl, rfl, _, rfl, iteN (no (by decide)) ⟨_, rfl, rfl, _, rfl, iteP (yes rfl) ⟨_, rfl, _, _, rfl, rfl, _, rfl, z2, fun t ht => fin ht e4 e2⟩⟩⟩⟩⟩
    · exact ⟨_, rfl, rfl, _, rfl, iteN (no (by decide)) ⟨_, rfl, rfl, _, rfl, iteN (no (by decide)) ⟨_, rfl, rfl, _, rfl, iteN (no (by decide)) ⟨_, rfl, rfl, _, rfl, iteN (no (by decide)) ⟨_, rfl, rfl, _, rfl, iteP (yes rfl) ⟨_, rfl, z2, fun t ht => fin ht e1 rfl⟩⟩⟩⟩⟩⟩
    · exact ⟨_, rfl, rfl, _, rfl, iteN (no (by decide)) ⟨_, rfl, rfl, _, rfl, iteN (no (by decide)) ⟨_, rfl, rfl, _, rfl, iteN (no (by decide)) ⟨_, rfl, rfl, _, rfl, iteN (no (by decide)) ⟨_, rfl, rfl, _, rfl, iteN (no (by decide)) ⟨_, rfl, z2, fun t ht => fin ht e1 rfl⟩⟩⟩⟩⟩⟩
end
section
variable {P : Program} {w : World} {K : PySem.W.Frag} {mg : Str → Option Value} {base : Heap}
theorem sc_group_middles : FnScope ["manner", "how_many", "k"] ["manner", "how_many"] (defScope s_group_middles) := ⟨rfl, rfl, rfl, by decide +kernel, rfl, by decide +kernel, by decide +kernel⟩
theorem ok_group_middles {f f_mr f_md : Addr} {fd : FuncData} (F : Fun K "group_middles" "group_middles" s_group_middles f fd) (M : TMn mg) (zR : mg "range" = none) (p_mr : PF P w K mg base "middles_in_rows" 2 f_mr ["how_many"] spMR) (p_md : PF P w K mg base "middle" 2 f_md ["manner", "k", "how_many"] spMd) :
    FnOk P w K mg base (CXx P w) 3 f fd ["manner", "how_many"] spGM := by
  refine F.okX sc_group_middles (fun vs H Q E h => ?_) (fun cdv A outer s H vs Q E hr h => ?_)
  · obtain ⟨m, n, rfl, _⟩ := h
    rfl
  · obtain ⟨m, n, rfl, m1, n1, n2, k⟩ := h
    obtain ⟨t0, h0⟩ := M.i "IN_ROWS" 0 (by decide +kernel)
    refine ⟨_, pss_cons (ps_if (pt_cmpR op_eq (pv 0) (pe_glob (v := .int 0) rfl h0 ⟨t0, rfl⟩) (nomark _)) (pss_one (ps_ret (pe_pf p_mr hr rfl (pa_cons (pv 1) pa_nil)))) pss_nil)
      (pss_one (ps_ret (pe_lc (own := [("k", 2)]) (g := gName 2) rfl sc_group_middles.nd (pi_range1 rfl zR (pa_cons (pv 1) pa_nil)) (blkOk_by (by kernel_rfl)) (fun _ _ _ _ _ => pg_name (i := 2) sc_group_middles.nd rfl (Or.inl rfl) (.inr rfl)) (fun _ _ _ _ _ => pts_nil)
        (fun _ _ _ _ _ => pe_pf p_md hr rfl (pa_cons (pv 0) (pa_cons (pv 2) (pa_cons (pv 1) pa_nil))))))), ?_⟩
    refine ⟨_, rfl, rfl, _, rfl, ?_⟩
    by_cases hm : m = 0
    · subst hm
      refine iteP (decide_eq_true rfl) ⟨_, rfl, n, rfl, n1, n2, k⟩
    · refine iteN (by intro z; have := of_decide_eq_true z; injection this with e; omega) ?_
      refine ⟨_, rfl, (n : Int), rfl, by omega, by omega, fun D hD => lc_range (n := n) (fun i H' => ∃ ts : List Addr, H' D = some (.lst (ts.map V.ref)) ∧ PtsT H' ts (((middles m n).take i).map ip) ∧ ts.length ≤ i ∧ Same H H') ⟨[], upd_same, .nil, Nat.le_refl _, same_new hD⟩ ?_ ?_⟩
      · rintro i H1 hi ⟨ts, hD1, S1, l1, s1⟩
        refine ⟨rfl, ?_⟩
        unfold tYes
        refine iteP rfl ⟨_, rfl, _, rfl, _, rfl, m, i, n, ?_, by omega, m1, hi, n2, fun t ht => ?_⟩
        · show [vn m, V.int (0 + (i : Int)), vn n] = _
          rw [Int.zero_add]
        · have nD : D ≠ t := ne_of_none hD1 ht
          have hD2 : upd H1 t (.tup [vn (midOne m n i).1, vn (midOne m n i).2]) D = some (.lst (ts.map V.ref)) := by rw [upd_ne nD]; exact hD1
          refine ⟨_, hD2, by rw [List.length_map, sizeLine_eq]; omega, ts ++ [t], by rw [upd_same, List.map_append]; rfl, ?_, by rw [List.length_append, List.length_singleton]; omega, fun b o e => ?_⟩
          · have ei : (middles m n)[i]? = some (midOne m n i) := by
              rw [mids1 hm, List.getElem?_map, List.getElem?_range hi]; rfl
            rw [take_succ ei, List.map_append]
            refine S1.snoc ((TupK.of (same_new ht)).trans (TupK.lst hD2)) ?_
            rw [upd_ne (Ne.symm nD), upd_same]
            rfl
          · have e3 := s1 b o e
            rw [upd_ne (fun z => by rw [z, hD] at e; cases e), upd_ne (ne_of_none e3 ht)]
            exact e3
      · rintro H1 ⟨ts, hD1, S1, l1, s1⟩
        refine k H1 D s1 hD ⟨ts, hD1, ?_⟩
        rwa [List.take_of_length_le (by rw [mids1 hm]; simp)] at S1
theorem sc_half_before_size : FnScope ["manner", "how_many", "rows", "across"] ["manner", "how_many"] (defScope s_half_before_size) := ⟨rfl, rfl, rfl, by decide +kernel, rfl, by decide +kernel, by decide +kernel⟩
theorem min_nat (a b : Nat) : (if (b : Int) < (a : Int) then (b : Int) else (a : Int)) = ((min a b : Nat) : Int) := by split <;> omega
theorem cdiv_ok {a b : Int} (h : 0 < b) (h2 : b ≤ 1000) : CDiv a b := by unfold CDiv; omega
theorem ok_half_before_size {f aR : Addr} {rs : List Addr} {fd : FuncData} (F : Fun K "half_before_size" "half_before_size" s_half_before_size f fd) (R : TRw K mg aR rs) (M : TMn mg) (zL : mg "len" = none) (zm : mg "min" = none) (zM : mg "max" = none) :
    FnOk P w K mg base (CXx P w) 1 f fd ["manner", "how_many"] spHB := by
  refine F.okX sc_half_before_size (fun vs H Q E h => ?_) (fun cdv A outer s H vs Q E hr h => ?_)
  · obtain ⟨m, n, rfl, _⟩ := h
    rfl
  · obtain ⟨m, n, rfl, m1, n1, n2, k⟩ := h
    obtain ⟨t0, h0⟩ := M.i "IN_ROWS" 0 (by decide +kernel)
    obtain ⟨t1, h1⟩ := M.i "IN_FESS" 1 (by decide +kernel)
    obtain ⟨t2, h2⟩ := M.i "IN_PALE" 2 (by decide +kernel)
    obtain ⟨t5, h5⟩ := M.i "IN_CHIEF" 5 (by decide +kernel)
    obtain ⟨t6, h6⟩ := M.i "IN_BASE" 6 (by decide +kernel)
    obtain ⟨ar, har⟩ : ∃ a, rs[n - 1]? = some a := ⟨_, List.getElem?_eq_getElem (by rw [R.n]; omega)⟩
    have hrow : ∀ H, SqT K H ar ((rowsOf n).map vn) := fun H => by have := R.r _ _ har H; rwa [show n - 1 + 1 = n by omega] at this
    obtain ⟨b1, b2, b3⟩ := rows_le n (by omega)
    have hmin : ∀ {e1 e2 : Expr} {a1 a2 : TE} {p q : Pos} {X : Cx}, X.calm = true → Gl X "min" → X.mg = mg → True := fun _ _ _ => True.intro
    refine ⟨_, pss_cons (ps_if (pt_cmpR op_eq (pv 0) (pe_glob (v := .int 0) rfl h0 ⟨t0, rfl⟩) (nomark _))
        (pss_cons (ps_set (i := 2) sc_half_before_size.nd rfl (Or.inl rfl) (pe_ix ix_tup (pe_glob (v := .ref aR) rfl R.m rfl) (pe_op op_sub (pv 1) pe_int) (fun _ _ => rfl)))
          (pss_one (ps_ret (pe_callB (call_min2 rfl) rfl zm boot_min (pa_cons (pe_op op_fdiv pe_int (pe_callB (call_maxT rfl) rfl zM boot_max (pa_cons (pv 2) pa_nil))) (pa_cons (pe_op op_fdiv pe_int (pe_callB call_len_seq (by rfl) zL PySem.boot_len (pa_cons (pv 2) pa_nil))) pa_nil)))))) pss_nil)
      (pss_cons (ps_if (pt_cmpR op_eq (pv 0) (pe_glob (v := .int 2) rfl h2 ⟨t2, rfl⟩) (nomark _)) (pss_one (ps_ret (pe_callB (call_min2 rfl) rfl zm boot_min (pa_cons (pe_op op_fdiv pe_int (pv 1)) (pa_cons pe_int pa_nil))))) pss_nil)
      (pss_cons (ps_set (i := 3) sc_half_before_size.nd rfl (Or.inl rfl) (pe_op op_fdiv pe_int (pv 1)))
      (pss_cons (ps_if (pt_cmpR op_eq (pv 0) (pe_glob (v := .int 1) rfl h1 ⟨t1, rfl⟩) (nomark _)) (pss_one (ps_ret (pe_callB (call_min2 rfl) rfl zm boot_min (pa_cons (pv 3) (pa_cons pe_int pa_nil))))) pss_nil)
      (pss_cons (ps_if (pt_cmpR op_eq (pv 0) (pe_glob (v := .int 5) rfl h5 ⟨t5, rfl⟩) (nomark _)) (pss_one (ps_ret (pe_callB (call_min2 rfl) rfl zm boot_min (pa_cons (pv 3) (pa_cons pe_int pa_nil))))) pss_nil)
      (pss_cons (ps_if (pt_cmpR op_eq (pv 0) (pe_glob (v := .int 6) rfl h6 ⟨t6, rfl⟩) (nomark _)) (pss_one (ps_ret (pe_callB (call_min2 rfl) rfl zm boot_min (pa_cons (pv 3) (pa_cons pe_int pa_nil))))) pss_nil)
      (pss_one (ps_ret (pe_callB (call_min2 rfl) rfl zm boot_min (pa_cons (pv 3) (pa_cons pe_int pa_nil)))))))))), ?_⟩
    have yes : ∀ {i : Int}, (m : Int) = i → decide (V.int (m : Int) = V.int i) = true := fun h => decide_eq_true (by rw [h])
    have no : ∀ {i : Int}, (m : Int) ≠ i → ¬ decide (V.int (m : Int) = V.int i) = true := fun h z => h (by have := of_decide_eq_true z; injection this)
    have dv : ∀ a : Nat, ((a : Int) / (n : Int)) = ((a / n : Nat) : Int) := fun a => by push_cast; rfl
    have cn : ∀ a : Int, CDiv a (n : Int) := fun a => cdiv_ok (by omega) (by omega)
    have fin : ∀ {a b : Nat} {x y : Int}, x = (a : Int) → y = (b : Int) → half0 m n = min a b → Q (.int (if y < x then y else x)) H := fun e1 e2 e3 => by
      rw [e1, e2, min_nat, ← e3]; exact k
    have hm : m = 0 ∨ m = 1 ∨ m = 2 ∨ m = 3 ∨ m = 4 ∨ m = 5 ∨ m = 6 := by omega
    rcases hm with rfl | rfl | rfl | rfl | rfl | rfl | rfl
    · refine ⟨_, rfl, rfl, _, rfl, iteP (yes rfl) ?_⟩
      refine ⟨_, rfl, _, _, rfl, rfl, aR, _, _, _, rfl, rfl, R.s H, at_of (j := n - 1) (v := .ref ar) (by omega) (by rw [List.getElem?_map, har]; rfl), ?_⟩
      have hjs : ∀ H, SqT K H ar (((rowsOf n).map fun (x : Nat) => (x : Int)).map V.int) := fun H => by rw [List.map_map]; exact hrow H
      have eb := best_eq n (by omega)
      have hb : 1 ≤ (rowsOf n).foldl max 1 ∧ (rowsOf n).foldl max 1 ≤ 4 := by
        have : ∀ n, n < 11 → 1 ≤ (rowsOf n).foldl max 1 ∧ (rowsOf n).foldl max 1 ≤ 4 := by decide +kernel
        exact this n (by omega)
      refine ⟨_, rfl, ar, _, rfl, hjs _, by rw [List.length_map]; omega, _, _, rfl, rfl, cdiv_ok (by rw [eb]; omega) (by rw [eb]; omega), ?_⟩
      refine ⟨_, rfl, ar, _, rfl, .inr (hrow _), _, _, rfl, rfl, cdiv_ok (by rw [List.length_map]; omega) (by rw [List.length_map]; omega), _, _, rfl, ?_⟩
      exact fin (a := 240 / (rowsOf n).foldl max 1) (b := 288 / (rowsOf n).length) (by rw [eb]; push_cast; rfl) (by rw [List.length_map]; push_cast; rfl) rfl
    · exact ⟨_, rfl, rfl, _, rfl, iteN (no (by decide)) ⟨_, rfl, rfl, _, rfl, iteN (no (by decide)) ⟨_, rfl, _, _, rfl, rfl, cn _, _, rfl, rfl, _, rfl, iteP (yes rfl) ⟨_, rfl, _, _, rfl, fin (a := 240 / n) (b := 84) (dv 240) rfl rfl⟩⟩⟩⟩
    · exact ⟨_, rfl, rfl, _, rfl, iteN (no (by decide)) ⟨_, rfl, rfl, _, rfl, iteP (yes rfl) ⟨_, rfl, _, _, rfl, rfl, cn _, _, _, rfl, fin (a := 288 / n) (b := 72) (dv 288) rfl rfl⟩⟩⟩
    · exact ⟨_, rfl, rfl, _, rfl, iteN (no (by decide)) ⟨_, rfl, rfl, _, rfl, iteN (no (by decide)) ⟨_, rfl, _, _, rfl, rfl, cn _, _, rfl, rfl, _, rfl, iteN (no (by decide)) ⟨_, rfl, rfl, _, rfl, iteN (no (by decide)) ⟨_, rfl, rfl, _, rfl, iteN (no (by decide)) ⟨_, rfl, _, _, rfl, fin (a := 240 / n) (b := 96) (dv 240) rfl rfl⟩⟩⟩⟩⟩⟩
    · exact ⟨_, rfl, rfl, _, rfl, iteN (no (by decide)) ⟨_, rfl, rfl, _, rfl, iteN (no (by decide)) ⟨_, rfl, _, _, rfl, rfl, cn _, _, rfl, rfl, _, rfl, iteN (no (by decide)) ⟨_, rfl, rfl, _, rfl, iteN (no (by decide)) ⟨_, rfl, rfl, _, rfl, iteN (no (by decide)) ⟨_, rfl, _, _, rfl, fin (a := 240 / n) (b := 96) (dv 240) rfl rfl⟩⟩⟩⟩⟩⟩
    · exact ⟨_, rfl, rfl, _, rfl, iteN (no (by decide)) ⟨_, rfl, rfl, _, rfl, iteN (no (by decide)) ⟨_, rfl, _, _, rfl, rfl, cn _, _, rfl, rfl, _, rfl, iteN (no (by decide)) ⟨_, rfl, rfl, _, rfl, iteP (yes rfl) ⟨_, rfl, _, _, rfl, fin (a := 240 / n) (b := 72) (dv 240) rfl rfl⟩⟩⟩⟩⟩
    · exact ⟨_, rfl, rfl, _, rfl, iteN (no (by decide)) ⟨_, rfl, rfl, _, rfl, iteN (no (by decide)) ⟨_, rfl, _, _, rfl, rfl, cn _, _, rfl, rfl, _, rfl, iteN (no (by decide)) ⟨_, rfl, rfl, _, rfl, iteN (no (by decide)) ⟨_, rfl, rfl, _, rfl, iteP (yes rfl) ⟨_, rfl, _, _, rfl, fin (a := 240 / n) (b := 64) (dv 240) rfl rfl⟩⟩⟩⟩⟩⟩
theorem sc_half_side : FnScope ["manner", "how_many", "size"] ["manner", "how_many", "size"] (defScope s_half_side) := ⟨rfl, rfl, rfl, by decide +kernel, rfl, by decide +kernel, by decide +kernel⟩
theorem ok_half_side {f f_hb : Addr} {fd : FuncData} (F : Fun K "half_side" "half_side" s_half_side f fd) (p_hb : PF P w K mg base "half_before_size" 1 f_hb ["manner", "how_many"] spHB) : FnOk P w K mg base (CXx P w) 2 f fd ["manner", "how_many", "size"] spHS := by
  refine F.okX sc_half_side (fun vs H Q E h => ?_) (fun cdv A outer s H vs Q E hr h => ?_)
  · obtain ⟨m, n, z, rfl, _⟩ := h
    rfl
  · obtain ⟨m, n, z, rfl, m1, n1, n2, z1, z2, k⟩ := h
    refine ⟨_, pss_one (ps_ret (pe_op op_fdiv (pe_op op_mul (pe_pf p_hb hr rfl (pa_cons (pv 0) (pa_cons (pv 1) pa_nil))) (pv 2)) pe_int)), ?_⟩
    obtain ⟨e1, e2, e3⟩ := ((half_eq m (by omega) n (by omega) z (by omega)).resolve_left (by omega)).resolve_left (by omega)
    refine ⟨_, rfl, _, rfl, m, n, rfl, m1, n1, n2, _, rfl, _, _, rfl, rfl, .inr ⟨by omega, by omega⟩, _, _, rfl, rfl, cdiv_ok (by decide) (by decide), ?_⟩
    rw [e1] at k
    have : (((half0 m n : Nat) : Int) * ((z : Nat) : Int)) / 4 = ((half0 m n * z / 4 : Nat) : Int) := by push_cast; rfl
    show Q (.int ((((half0 m n : Nat) : Int) * ((z : Nat) : Int)) / 4)) H
    rw [this]
    exact k
noncomputable def chAny (c h : Nat) (ms : List (Int × Int)) (p r : Int) : Bool := ms.any fun x => chargeHas c ((p - x.1) * 48 / (h : Int)) ((r - x.2) * 48 / (h : Int))
theorem ch_group (c n m s : Nat) (p r : Int) : chAny c (half m n s) ((middles m n).map ip) p r = groupHas c n m s p r := by
  unfold chAny groupHas
  rw [List.any_map]
  rfl
noncomputable def spCV : Sp := fun vs H Q _ => ∃ (c h : Nat) (l : Addr) (ms : List (Int × Int)) (p r : Int), vs = [vn c, vn h, .ref l, .int p, .int r] ∧ c ≤ 15 ∧ 1 ≤ h ∧ h ≤ 1000 ∧ PtsAt H l ms ∧ Q (.bl (chAny c h ms p r)) H
theorem sc_charges_have : FnScope ["charge", "half", "middles", "p", "r", "m", "n"] ["charge", "half", "middles", "p", "r"] (defScope s_charges_have) := ⟨rfl, rfl, rfl, by decide +kernel, rfl, by decide +kernel, by decide +kernel⟩
theorem ok_charges_have {f f_ch : Addr} {fd : FuncData} (F : Fun K "charges_have" "charges_have" s_charges_have f fd) (M : TMn mg) (p_ch : PF P w K mg base "charge_has" 4 f_ch ["charge", "x", "y"] spCH) : FnOk P w K mg base (CXx P w) 5 f fd ["charge", "half", "middles", "p", "r"] spCV := by
  refine F.okX sc_charges_have (fun vs H Q E h => ?_) (fun cdv A outer s H vs Q E hr h => ?_)
  · obtain ⟨c, h, l, ms, p, r, rfl, _⟩ := h
    rfl
  · obtain ⟨c, h, l, ms, p, r, rfl, hc, h1, h2, ⟨ts, hl, S⟩, k⟩ := h
    obtain ⟨tR, hR⟩ := M.i "REACH" 48 (by decide +kernel)
    refine ⟨_, pss_cons (ps_for PassesOwn.leaving rfl (pi_list (pv 2)) (pg_tup (n := 2) rfl (pgs_cons (pg_name (i := 5) sc_charges_have.nd rfl (Or.inl rfl)) (pgs_cons (pg_name (i := 6) sc_charges_have.nd rfl (Or.inl rfl)) pgs_nil)))
        (pss_one (ps_if (pt_val (pe_pf p_ch hr rfl (pa_cons (pv 0) (pa_cons (pe_op op_fdiv (pe_op op_mul (pe_op op_sub (pv 3) (pv 5)) (pe_glob (v := .int 48) rfl hR ⟨tR, rfl⟩)) (pv 1)) (pa_cons (pe_op op_fdiv (pe_op op_mul (pe_op op_sub (pv 4) (pv 6)) (pe_glob (v := .int 48) rfl hR ⟨tR, rfl⟩)) (pv 1)) pa_nil))))) (pss_one (ps_ret pe_bl)) pss_nil)))
      (pss_one (ps_ret pe_bl)), ?_⟩
    refine ⟨_, rfl, l, rfl, ⟨_, SqL.of hl⟩, for_list (K := K) (a := l) (xs := ts.map V.ref) (fun i σ H' => ∃ mv nv : Option V, σ = [some (vn c), some (vn h), some (.ref l), some (.int p), some (.int r), mv, nv] ∧ H' = H ∧ chAny c h (ms.take i) p r = false) ⟨none, none, rfl, rfl, rfl⟩ (fun i σ H' _ z => ?_) ?_ ?_⟩
    · obtain ⟨_, _, _, e, _⟩ := z
      rw [e]; exact SqL.of hl
    · rintro i X σ H1 hX ⟨mv, nv, rfl, rfl, hno⟩
      rw [List.getElem?_map, Option.map_eq_some_iff] at hX
      obtain ⟨t, ht, rfl⟩ := hX
      obtain ⟨x, hx, hxt⟩ := paired_get S ht
      have cd : CDiv ((p - x.1) * 48) (h : Int) := cdiv_ok (by omega) (by omega)
      have cd2 : CDiv ((r - x.2) * 48) (h : Int) := cdiv_ok (by omega) (by omega)
      refine ⟨t, _, rfl, SqT.of hxt, rfl, _, _, rfl, _, _, rfl, rfl, ?_⟩
      refine ⟨_, rfl, _, rfl, _, rfl, _, _, rfl, rfl, _, _, rfl, rfl, .inr (by decide), _, rfl, _, _, rfl, rfl, cd, ?_⟩
      refine ⟨_, rfl, _, rfl, _, _, rfl, rfl, _, _, rfl, rfl, .inr (by decide), _, rfl, _, _, rfl, rfl, cd2, ?_⟩
      refine ⟨c, _, _, rfl, hc, _, rfl, ?_⟩
      have et : chAny c h (ms.take (i + 1)) p r = chargeHas c ((p - x.1) * 48 / (h : Int)) ((r - x.2) * 48 / (h : Int)) := by
        unfold chAny at hno ⊢
        rw [take_succ hx, List.any_append, hno]
        simp
      cases q : chargeHas c ((p - x.1) * 48 / (h : Int)) ((r - x.2) * 48 / (h : Int)) with
      | true =>
        refine iteP rfl ?_
        have : chAny c h ms p r = true := by
          unfold chAny
          rw [List.any_eq_true]
          exact ⟨x, List.mem_of_getElem? hx, q⟩
        rw [this] at k
        exact k
      | false =>
        refine iteN Bool.false_ne_true ?_
        exact ⟨_, _, rfl, rfl, et.trans q⟩
    · rintro σ H1 ⟨mv, nv, rfl, rfl, hno⟩
      rw [List.length_map, paired_len S, List.take_length] at hno
      rw [hno] at k
      exact k
noncomputable def spHP (CF CO CG : Addr) : Sp := fun vs H Q _ => ∃ (z l : Addr) (b : Field) (x : Layer) (ps : List (Int × Int)), vs = [.ref z, .ref l] ∧ LayerAt CF CO CG H z x ∧ LayerOk b x ∧ PtsAt H l ps ∧ ps.length ≤ 2000 ∧
  ∀ H' q, Same H H' → H q = none → H' q = some (.lst (ps.map fun y => .bl (x.has y.1 y.2))) → Q (.ref q) H'
noncomputable def spGP (CF CO CG : Addr) : Sp := fun vs H Q _ => ∃ (z l : Addr) (b : Field) (c n m s : Nat) (f : Fill) (ps : List (Int × Int)), vs = [.ref z, .ref l] ∧ LayerAt CF CO CG H z (.group c n m s f) ∧ LayerOk b (.group c n m s f) ∧ PtsAt H l ps ∧ ps.length ≤ 2000 ∧
  ∀ H' q, Same H H' → H q = none → H' q = some (.lst (ps.map fun y => .bl (groupHas c n m s y.1 y.2))) → Q (.ref q) H'
theorem sc_group_has_points : FnScope ["group", "points", "half", "middles", "p", "r"] ["group", "points"] (defScope s_group_has_points) := ⟨rfl, rfl, rfl, by decide +kernel, rfl, by decide +kernel, by decide +kernel⟩
theorem ok_group_has_points {CF CO CG fG f f_hs f_gm f_cv : Addr} {fd : FuncData} (F : Fun K "group_has_points" "group_has_points" s_group_has_points f fd) (RG : RC K mg "GroupLayer" CG fG ["charge", "how_many", "manner", "size", "fill"])
    (p_hs : PF P w K mg base "half_side" 2 f_hs ["manner", "how_many", "size"] spHS) (p_gm : PF P w K mg base "group_middles" 3 f_gm ["manner", "how_many"] spGM) (p_cv : PF P w K mg base "charges_have" 5 f_cv ["charge", "half", "middles", "p", "r"] spCV) :
    FnOk P w K mg base (CXx P w) 6 f fd ["group", "points"] (spGP CF CO CG) := by
  refine F.okX sc_group_has_points (fun vs H Q E h => ?_) (fun cdv A outer s H vs Q E hr h => ?_)
  · obtain ⟨z, l, b, c, n, m, s, f, ps, rfl, _⟩ := h
    rfl
  · obtain ⟨z, l, b, c, n, m, s', f, ps, rfl, ⟨dz, v, hz, hv⟩, ⟨o1, o2, o3, o4, o5, o6, o7⟩, ⟨ts, hl, S⟩, hn, k⟩ := h
    obtain ⟨e1, e2, e3, e4, e5⟩ := g_look c n m s' v
    have hr2 : Room 2 _ := hr.mono (by decide)
    have hr3 : Room 3 _ := hr.mono (by decide)
    refine ⟨_, pss_cons (ps_set (i := 2) sc_group_has_points.nd rfl (Or.inr rfl) (pe_pf p_hs hr2 rfl (pa_cons (pe_fld (pv 0) rfl) (pa_cons (pe_fld (pv 0) rfl) (pa_cons (pe_fld (pv 0) rfl) pa_nil)))))
      (pss_cons (ps_set (i := 3) sc_group_has_points.nd rfl (Or.inr rfl) (pe_pf p_gm hr3 rfl (pa_cons (pe_fld (pv 0) rfl) (pa_cons (pe_fld (pv 0) rfl) pa_nil))))
      (pss_one (ps_ret (pe_lc (own := [("p", 4), ("r", 5)]) (te := tCall spCV [] E0 (tCons (tFld K (tVar 0) "charge") (tCons (tVar 2) (tCons (tVar 3) (tCons (tVar 4) (tCons (tVar 5) tNil)))))) (g := gTup K 2 (gCons (gName 4) (gCons (gName 5) gNil))) rfl sc_group_has_points.nd (pi_list (pv 1)) (blkOk_by (by kernel_rfl))
        (fun _ _ _ _ _ => pg_tup (n := 2) rfl (pgs_cons (pg_name (i := 4) sc_group_has_points.nd rfl (Or.inl rfl) (.inr rfl)) (pgs_cons (pg_name (i := 5) sc_group_has_points.nd rfl (Or.inl rfl) (.inr rfl)) pgs_nil))) (fun _ _ _ _ _ => pts_nil)
        (fun _ _ _ _ _ => pe_pf p_cv hr rfl (pa_cons (pe_fld (pv 0) rfl) (pa_cons (pv 2) (pa_cons (pv 3) (pa_cons (pv 4) (pa_cons (pv 5) pa_nil)))))))))), ?_⟩
    refine ⟨_, rfl, z, CG, dz, _, _, rfl, hz, RG.cl, RG.no _ (by decide +kernel), e3, _, rfl, z, CG, dz, _, _, rfl, hz, RG.cl, RG.no _ (by decide +kernel), e2, _, rfl, z, CG, dz, _, _, rfl, hz, RG.cl, RG.no _ (by decide +kernel), e4, m, n, s', rfl, o4, o2, o3, o5, o6, ?_⟩
    refine ⟨_, rfl, z, CG, dz, _, _, rfl, hz, RG.cl, RG.no _ (by decide +kernel), e3, _, rfl, z, CG, dz, _, _, rfl, hz, RG.cl, RG.no _ (by decide +kernel), e2, m, n, rfl, o4, o2, o3, fun H1 lm s1 hlm hM => ?_⟩
    have hh : 1 ≤ half m n s' ∧ half m n s' ≤ 1000 := by
      obtain ⟨a1, a2, a3⟩ := ((half_eq m (by omega) n (by omega) s' (by omega)).resolve_left (by omega)).resolve_left (by omega)
      refine ⟨a2, ?_⟩
      rw [a1]
      refine Nat.le_trans (Nat.div_le_self _ _) (Nat.le_trans (Nat.mul_le_mul a3 o6) (by decide))
    refine ⟨_, rfl, l, rfl, ⟨_, SqL.of (s1 _ _ hl)⟩, fun D hD => lc_list (K := K) (a := l) (xs := ts.map V.ref) (fun i H' => H' D = some (.lst ((ps.take i).map fun y => V.bl (groupHas c n m s' y.1 y.2))) ∧ Same H1 H') ⟨upd_same, same_new hD⟩ (fun i H' _ q => SqL.of (q.2 _ _ (s1 _ _ hl))) ?_ ?_⟩
    · rintro i X H2 hX ⟨hD2, s2⟩
      rw [List.getElem?_map, Option.map_eq_some_iff] at hX
      obtain ⟨t, ht, rfl⟩ := hX
      obtain ⟨x, hx, hxt⟩ := paired_get S ht
      have s12 := s1.trans s2
      refine ⟨t, _, rfl, SqT.of (s12 _ _ hxt), rfl, _, _, rfl, _, _, rfl, rfl, rfl, ?_⟩
      unfold tYes
      refine iteP rfl ⟨_, rfl, z, CG, dz, _, _, rfl, s12 _ _ hz, RG.cl, RG.no _ (by decide +kernel), e1, _, rfl, _, rfl, _, rfl, _, rfl, c, half m n s', lm, _, x.1, x.2, rfl, o1, hh.1, hh.2, hM.sm s2, _, hD2, ?_, ?_, same_over s2 hD⟩
      · rw [List.length_map, List.length_take, sizeLine_eq]; omega
      · rw [upd_same, take_succ hx, List.map_append, ch_group]; rfl
    · rintro H2 ⟨hD2, s2⟩
      rw [List.length_map, paired_len S, List.take_length] at hD2
      exact k H2 D (s1.trans s2) (s1.free hD) hD2
theorem sc_layer_has_points : FnScope ["layer", "points", "p", "r"] ["layer", "points"] (defScope s_layer_has_points) := ⟨rfl, rfl, rfl, by decide +kernel, rfl, by decide +kernel, by decide +kernel⟩
structure TIs (K : PySem.W.Frag) (mg : Str → Option Value) (CO CG : Addr) : Prop where
  z : mg "isinstance" = none
  isO : ∀ (H : Hp) (z dz : Addr) (fs : List (Str × V)), H z = some (.ins CO dz fs) → TyOf K H (.ref z) (.ref CO)
  isG : ∀ (H : Hp) (z dz : Addr) (fs : List (Str × V)), H z = some (.ins CG dz fs) → TyOf K H (.ref z) (.ref CG)
  kO : PySem.W.kitOne K (.ref CO) (.ref CO) = some true
  kG : PySem.W.kitOne K (.ref CG) (.ref CO) = some false
theorem ok_layer_has_points {CF CO CG fO f f_oh f_gp : Addr} {fd : FuncData} (F : Fun K "layer_has_points" "layer_has_points" s_layer_has_points f fd) (RO : RC K mg "OrdinaryLayer" CO fO ["ordinary", "line", "fill"]) (I : TIs K mg CO CG)
    (p_oh : PF P w K mg base "ordinary_has" 6 f_oh ["ordinary", "line", "p", "r"] spOH) (p_gp : PF P w K mg base "group_has_points" 6 f_gp ["group", "points"] (spGP CF CO CG)) :
    FnOk P w K mg base (CXx P w) 7 f fd ["layer", "points"] (spHP CF CO CG) := by
  refine F.okX sc_layer_has_points (fun vs H Q E h => ?_) (fun cdv A outer s H vs Q E hr h => ?_)
  · obtain ⟨z, l, b, x, ps, rfl, _⟩ := h
    rfl
  · obtain ⟨z, l, b, x, ps, rfl, hL, hok, hP, hn, k⟩ := h
    refine ⟨_, pss_cons (ps_if (pt_val (pe_callB call_isinst (by rfl) I.z (by decide +kernel) (pa_cons (pv 0) (pa_cons (pe_glob (v := .ref CO) rfl RO.at_ rfl) pa_nil))))
        (pss_one (ps_ret (pe_lc (own := [("p", 2), ("r", 3)]) (te := tCall spOH [] E0 (tCons (tFld K (tVar 0) "ordinary") (tCons (tFld K (tVar 0) "line") (tCons (tVar 2) (tCons (tVar 3) tNil))))) (g := gTup K 2 (gCons (gName 2) (gCons (gName 3) gNil))) rfl sc_layer_has_points.nd (pi_list (pv 1)) (blkOk_by (by kernel_rfl))
          (fun _ _ _ _ _ => pg_tup (n := 2) rfl (pgs_cons (pg_name (i := 2) sc_layer_has_points.nd rfl (Or.inl rfl) (.inr rfl)) (pgs_cons (pg_name (i := 3) sc_layer_has_points.nd rfl (Or.inl rfl) (.inr rfl)) pgs_nil))) (fun _ _ _ _ _ => pts_nil)
          (fun _ _ _ _ _ => pe_pf p_oh hr rfl (pa_cons (pe_fld (pv 0) rfl) (pa_cons (pe_fld (pv 0) rfl) (pa_cons (pv 2) (pa_cons (pv 3) pa_nil)))))))) pss_nil)
      (pss_one (ps_ret (pe_pf p_gp hr rfl (pa_cons (pv 0) (pa_cons (pv 1) pa_nil))))), ?_⟩
    cases x with
    | ord o ln fl =>
      obtain ⟨dz, v, hz, hv⟩ := id hL
      obtain ⟨o1, o2, o3⟩ := hok
      obtain ⟨e1, e2, e3⟩ := o_look o ln v
      obtain ⟨ts, hl, S⟩ := hP
      refine ⟨_, rfl, _, CO, _, true, rfl, I.isO _ z dz _ hz, I.kO, true, rfl, ?_⟩
      refine iteP rfl ?_
      refine ⟨_, rfl, l, rfl, ⟨_, SqL.of hl⟩, fun D hD => lc_list (K := K) (a := l) (xs := ts.map V.ref) (fun i H' => H' D = some (.lst ((ps.take i).map fun y => V.bl (ordHas o ln y.1 y.2))) ∧ Same H H') ⟨upd_same, same_new hD⟩ (fun i H' _ q => SqL.of (q.2 _ _ hl)) ?_ ?_⟩
      · rintro i X H2 hX ⟨hD2, s2⟩
        rw [List.getElem?_map, Option.map_eq_some_iff] at hX
        obtain ⟨t, ht, rfl⟩ := hX
        obtain ⟨x, hx, hxt⟩ := paired_get S ht
        refine ⟨t, _, rfl, SqT.of (s2 _ _ hxt), rfl, _, _, rfl, _, _, rfl, rfl, rfl, ?_⟩
        unfold tYes
        refine iteP rfl ⟨_, rfl, z, CO, dz, _, _, rfl, s2 _ _ hz, RO.cl, RO.no _ (by decide +kernel), e1, _, rfl, z, CO, dz, _, _, rfl, s2 _ _ hz, RO.cl, RO.no _ (by decide +kernel), e2, _, rfl, _, rfl, o, ln, x.1, x.2, rfl, o1, o2, _, hD2, ?_, ?_, same_over s2 hD⟩
        · rw [List.length_map, List.length_take, sizeLine_eq]; omega
        · rw [upd_same, take_succ hx, List.map_append]; rfl
      · rintro H2 ⟨hD2, s2⟩
        rw [List.length_map, paired_len S, List.take_length] at hD2
        exact k H2 D s2 hD hD2
    | group c n m s f =>
      obtain ⟨dz, v, hz, hv⟩ := id hL
      refine ⟨_, rfl, _, CO, _, false, rfl, I.isG _ z dz _ hz, I.kG, false, rfl, ?_⟩
      refine iteN Bool.false_ne_true ?_
      exact ⟨_, rfl, _, rfl, z, l, b, c, n, m, s, f, ps, rfl, hL, hok, hP, hn, k⟩
noncomputable def spLT (CF CO CG : Addr) : Sp := fun vs H Q _ => ∃ (z zf : Addr) (f : Field) (x : Layer) (p r : Int), vs = [.ref z, .ref zf, .int p, .int r] ∧ LayerAt CF CO CG H z x ∧ FieldAt CF H zf f ∧ FieldOk f ∧ LayerOk f x ∧ Q (vn (x.fill.at_ f p r)) H
theorem sc_layer_tincture : FnScope ["layer", "arms_field", "p", "r"] ["layer", "arms_field", "p", "r"] (defScope s_layer_tincture) := ⟨rfl, rfl, rfl, by decide +kernel, rfl, by decide +kernel, by decide +kernel⟩
theorem fill_pv {CF CO CG fO fG z : Addr} {H : Hp} {x : Layer} {σ : L2.St} (RO : RC K mg "OrdinaryLayer" CO fO ["ordinary", "line", "fill"]) (RG : RC K mg "GroupLayer" CG fG ["charge", "how_many", "manner", "size", "fill"]) (hL : LayerAt CF CO CG H z x) (h0 : σ[0]? = some (some (.ref z))) :
    ∃ v, FillAt CF H v x.fill ∧ PV (tFld K (tVar 0) "fill") σ H v := by
  cases x with
  | ord o ln fl =>
    obtain ⟨dz, v, hz, hv⟩ := hL
    exact ⟨v, hv, .fld (.var h0) hz RO.cl (RO.no _ (by decide +kernel)) (o_look o ln v).2.2⟩
  | group c n m s f =>
    obtain ⟨dz, v, hz, hv⟩ := hL
    exact ⟨v, hv, .fld (.var h0) hz RG.cl (RG.no _ (by decide +kernel)) (g_look c n m s v).2.2.2.2⟩
theorem fill_of {b : Field} {x : Layer} (h : LayerOk b x) : FillOk b x.fill := by
  cases x with
  | ord o ln fl => exact h.2.2
  | group c n m s f => exact h.2.2.2.2.2.2
theorem ok_layer_tincture {CF CO CG fO fG f f_ft f_ct : Addr} {fd : FuncData} (F : Fun K "layer_tincture" "layer_tincture" s_layer_tincture f fd) (RO : RC K mg "OrdinaryLayer" CO fO ["ordinary", "line", "fill"]) (RG : RC K mg "GroupLayer" CG fG ["charge", "how_many", "manner", "size", "fill"])
    (p_ft : PF P w K mg base "field_tincture" 8 f_ft ["field", "p", "r"] (spFP CF fun f p r => vn (f.at_ p r))) (p_ct : PF P w K mg base "counterchanged_tincture" 8 f_ct ["field", "p", "r"] (spFP CF fun f p r => vn (Fill.counter.at_ f p r))) :
    FnOk P w K mg base (CXx P w) 9 f fd ["layer", "arms_field", "p", "r"] (spLT CF CO CG) := by
  refine F.okX sc_layer_tincture (fun vs H Q E h => ?_) (fun cdv A outer s H vs Q E hr h => ?_)
  · obtain ⟨z, zf, f, x, p, r, rfl, _⟩ := h
    rfl
  · obtain ⟨z, zf, g, x, p, r, rfl, hL, hF, hok, hLo, k⟩ := h
    refine ⟨_, pss_cons (ps_if (pt_cmpR op_isN (pe_fld (pv 0) rfl) pe_non (nomark _)) (pss_one (ps_ret (pe_pf p_ct hr rfl (pa_cons (pv 1) (pa_cons (pv 2) (pa_cons (pv 3) pa_nil)))))) pss_nil)
      (pss_one (ps_ret (pe_pf p_ft hr rfl (pa_cons (pe_fld (pv 0) rfl) (pa_cons (pv 2) (pa_cons (pv 3) pa_nil)))))), ?_⟩
    obtain ⟨v, hv, hpv⟩ := fill_pv (σ := start ["layer", "arms_field", "p", "r"] [.ref z, .ref zf, .int p, .int r]) RO RG hL rfl
    have hfo := fill_of hLo
    suffices h : PR _ (start ["layer", "arms_field", "p", "r"] [.ref z, .ref zf, .int p, .int r]) H (vn (x.fill.at_ g p r)) from h _ k
    cases e : x.fill with
    | counter =>
      rw [e] at hv
      have hv : v = .non := hv
      refine .ifT (.tst (.isN hpv)) (decide_eq_true hv) (.ret (.call (.cons (.var rfl) (.cons (.var rfl) (.cons (.var rfl) .nil))) fun Q q => ⟨zf, g, p, r, rfl, hF, hok, q⟩))
    | solid fl =>
      rw [e] at hv hfo
      obtain ⟨y, rfl, hy⟩ := hv
      refine .ifF (.tst (.isN hpv)) (decide_eq_false (by intro z; cases z)) (.ret (.call (.cons hpv (.cons (.var rfl) (.cons (.var rfl) .nil))) fun Q q => ⟨y, fl, p, r, rfl, hy, hfo, q⟩))
end
noncomputable abbrev s_drawn_points : Stmt := top 149
noncomputable abbrev s_field_drawing : Stmt := top 150
noncomputable abbrev s_cover_at : Stmt := top 151
noncomputable abbrev s_layer_cover : Stmt := top 152
noncomputable abbrev s_laid_over : Stmt := top 153
noncomputable abbrev s_with_length : Stmt := top 161
noncomputable def rowP (y : Nat) : List (Int × Int) := (List.range 30).map fun (x : Nat) => (16 * (x : Int) + 8, 16 * (y : Int) + 8)
noncomputable def accP (i : Nat) : List (Int × Int) := (List.range i).flatMap rowP
theorem accP_all : points = accP 36 := rfl
theorem accP_succ (i : Nat) : accP (i + 1) = accP i ++ rowP i := by unfold accP; rw [List.range_succ, List.flatMap_append]; simp
theorem accP_len : ∀ i, (accP i).length = 30 * i
  | 0 => rfl
  | i + 1 => by rw [accP_succ, List.length_append, accP_len i]; unfold rowP; simp; omega
theorem points_len : points.length = 1080 := by rw [accP_all, accP_len]
noncomputable def spDP : Sp := fun vs H Q _ => vs = [] ∧ ∀ (H' : Hp) (l : Addr), Same H H' → H l = none → PtsAt H' l points → Q (.ref l) H'
structure TDw (mg : Str → Option Value) : Prop where
  step : ∃ t, mg "STEP" = some (.int 16 t)
  marg : ∃ t, mg "MARGIN" = some (.int 8 t)
  rows : ∃ t, mg "ROWS_drawings" = some (.int 36 t)
  cols : ∃ t, mg "COLUMNS" = some (.int 30 t)
  rng : mg "range" = none
  zip : mg "zip" = none
section
variable {P : Program} {w : World} {K : PySem.W.Frag} {mg : Str → Option Value} {base : Heap}
theorem sc_drawn_points : FnScope ["points", "y", "x"] [] (defScope s_drawn_points) := ⟨rfl, rfl, rfl, by decide +kernel, rfl, by decide +kernel, by decide +kernel⟩
theorem ok_drawn_points {f : Addr} {fd : FuncData} (F : Fun K "drawn_points" "drawn_points" s_drawn_points f fd) (W : TDw mg) : FnOk P w K mg base (CXx P w) 1 f fd [] spDP := by
  refine F.okX sc_drawn_points (fun vs H Q E h => ?_) (fun cdv A outer s H vs Q E hr h => ?_)
  · obtain ⟨rfl, _⟩ := h
    rfl
  · obtain ⟨rfl, k⟩ := h
    obtain ⟨t36, h36⟩ := W.rows
    obtain ⟨t30, h30⟩ := W.cols
    obtain ⟨t16, h16⟩ := W.step
    obtain ⟨t8, h8⟩ := W.marg
    refine ⟨_, pss_cons (ps_set (i := 0) sc_drawn_points.nd rfl (Or.inl rfl) (pe_lst pa_nil))
      (pss_cons (ps_for PassesOwn.leaving rfl (pi_range1 rfl W.rng (pa_cons (pe_glob (v := .int 36) rfl h36 ⟨t36, rfl⟩) pa_nil)) (pg_name (i := 1) sc_drawn_points.nd rfl (Or.inl rfl))
        (pss_one (ps_for PassesOwn.leaving rfl (pi_range1 rfl W.rng (pa_cons (pe_glob (v := .int 30) rfl h30 ⟨t30, rfl⟩) pa_nil)) (pg_name (i := 2) sc_drawn_points.nd rfl (Or.inl rfl))
          (pss_one (ps_expr (pe_bm PySem.F.plainAttrs_list PySem.F.slot_list_append PySem.F.type_list_append mt_append (pv 0)
            (pa_cons (pe_tup (pa_cons (pe_op op_add (pe_op op_mul (pe_glob (v := .int 16) rfl h16 ⟨t16, rfl⟩) (pv 2)) (pe_glob (v := .int 8) rfl h8 ⟨t8, rfl⟩)) (pa_cons (pe_op op_add (pe_op op_mul (pe_glob (v := .int 16) rfl h16 ⟨t16, rfl⟩) (pv 1)) (pe_glob (v := .int 8) rfl h8 ⟨t8, rfl⟩)) pa_nil))) pa_nil)))))))
      (pss_one (ps_ret (pv 0)))), ?_⟩
    refine ⟨Nat.zero_le _, fun l hl => ?_⟩
    refine ⟨36, rfl, by decide, by decide, for_range (n := 36) (fun i σ H' => ∃ (yv xv : Option V) (ts : List Addr), σ = [some (.ref l), yv, xv] ∧ H' l = some (.lst (ts.map V.ref)) ∧ PtsT H' ts (accP i) ∧ Same H H') ⟨none, none, [], rfl, upd_same, .nil, same_new hl⟩ ?_ ?_⟩
    · rintro i σ H1 hi ⟨yv, xv, ts, rfl, hl1, S1, s1⟩
      refine ⟨30, rfl, by decide, by decide, for_range (n := 30) (fun j σ H' => ∃ (xv : Option V) (ts : List Addr), σ = [some (.ref l), some (.int i), xv] ∧ H' l = some (.lst (ts.map V.ref)) ∧ PtsT H' ts (accP i ++ (rowP i).take j) ∧ Same H H') ⟨xv, ts, ?_, hl1, by rw [List.take_zero, List.append_nil]; exact S1, s1⟩ ?_ ?_⟩
      · show [some (V.ref l), some (V.int (0 + (i : Int))), xv] = _
        rw [Int.zero_add]
      · rintro j σ H2 hj ⟨xv, ts, rfl, hl2, S2, s2⟩
        refine ⟨_, rfl, .inl ⟨rfl, _, SqL.of hl2⟩, _, rfl, _, _, rfl, rfl, .inl (by decide), _, _, rfl, rfl, _, rfl, _, _, rfl, rfl, .inl (by decide), _, _, rfl, rfl, (by show 2 ≤ sizeLine; rw [sizeLine_eq]; omega), fun p hp => ?_⟩
        have hlen : ts.length ≤ 30 * i + j := by
          rw [paired_len S2, List.length_append, accP_len, List.length_take]; omega
        have nl : l ≠ p := ne_of_none hl2 hp
        have hl3 : upd H2 p (.tup [V.int (16 * (0 + (j : Int)) + 8), V.int (16 * (i : Int) + 8)]) l = some (.lst (ts.map V.ref)) := by rw [upd_ne nl]; exact hl2
        refine ⟨l, _, _, rfl, rfl, hl3, by rw [List.length_map, sizeLine_eq]; omega, some (V.int (0 + (j : Int))), ts ++ [p], rfl, by rw [upd_same, List.map_append]; rfl, ?_, ?_⟩
        · have ej : (rowP i)[j]? = some (16 * (j : Int) + 8, 16 * (i : Int) + 8) := by
            unfold rowP
            rw [List.getElem?_map, List.getElem?_range hj]; rfl
          rw [take_succ ej, ← List.append_assoc]
          refine S2.snoc ((TupK.of (same_new hp)).trans (TupK.lst hl3)) ?_
          rw [upd_ne (Ne.symm nl), upd_same]
          show some (HO.tup [V.int (16 * (0 + (j : Int)) + 8), V.int (16 * (i : Int) + 8)]) = _
          rw [Int.zero_add]
        · intro b o e
          have e3 := s2 b o e
          rw [upd_ne (fun z => by rw [z, hl] at e; cases e), upd_ne (ne_of_none e3 hp)]
          exact e3
      · rintro σ H2 ⟨xv, ts, rfl, hl2, S2, s2⟩
        refine ⟨_, _, ts, rfl, hl2, ?_, s2⟩
        rw [accP_succ]
        rwa [List.take_of_length_le (by unfold rowP; simp)] at S2
    · rintro σ H1 ⟨yv, xv, ts, rfl, hl1, S1, s1⟩
      exact ⟨_, rfl, k H1 l s1 hl ⟨ts, hl1, by rw [accP_all]; exact S1⟩⟩
noncomputable def NewL (H : Hp) (Q : VK) (vs : List V) : Prop := ∀ H' l, Same H H' → H l = none → H' l = some (.lst vs) → Q (.ref l) H'
noncomputable def spFDr (CF : Addr) : Sp := fun vs H Q _ => ∃ (z : Addr) (f : Field), vs = [.ref z] ∧ FieldAt CF H z f ∧ FieldOk f ∧ NewL H Q (points.map fun q => vn (f.at_ q.1 q.2))
theorem sc_field_drawing : FnScope ["field", "p", "r"] ["field"] (defScope s_field_drawing) := ⟨rfl, rfl, rfl, by decide +kernel, rfl, by decide +kernel, by decide +kernel⟩
theorem ok_field_drawing {CF f f_dp f_ft : Addr} {fdD fd : FuncData} (F : Fun K "field_drawing" "field_drawing" s_field_drawing f fd) (GD : FnOk P w K mg base (CXx P w) 1 f_dp fdD [] spDP) (bD : Binds K fdD [] []) (kD : PySem.W.keepIn K (.ref f_dp) = true) (mD : mg "drawn_points" = some (.ref f_dp))
    (p_ft : PF P w K mg base "field_tincture" 8 f_ft ["field", "p", "r"] (spFP CF fun f p r => vn (f.at_ p r))) : FnOk P w K mg base (CXx P w) 9 f fd ["field"] (spFDr CF) := by
  refine F.okX sc_field_drawing (fun vs H Q E h => ?_) (fun cdv A outer s H vs Q E hr h => ?_)
  · obtain ⟨z, f, rfl, _⟩ := h
    rfl
  · obtain ⟨z, g, rfl, hF, hok, k⟩ := h
    have hr1 : Room 1 _ := hr.mono (by decide)
    refine ⟨_, pss_one (ps_ret (pe_lc (own := [("p", 1), ("r", 2)]) (te := tCall (spFP CF fun f p r => vn (f.at_ p r)) [] E0 (tCons (tVar 0) (tCons (tVar 1) (tCons (tVar 2) tNil)))) (g := gTup K 2 (gCons (gName 1) (gCons (gName 2) gNil))) rfl sc_field_drawing.nd (pi_list (pe_call0 GD hr1 rfl mD kD bD .nil passN)) (blkOk_by (by kernel_rfl))
      (fun _ _ _ _ _ => pg_tup (n := 2) rfl (pgs_cons (pg_name (i := 1) sc_field_drawing.nd rfl (Or.inl rfl) (.inr rfl)) (pgs_cons (pg_name (i := 2) sc_field_drawing.nd rfl (Or.inl rfl) (.inr rfl)) pgs_nil))) (fun _ _ _ _ _ => pts_nil)
      (fun _ _ _ _ _ => pe_pf p_ft hr rfl (pa_cons (pv 0) (pa_cons (pv 1) (pa_cons (pv 2) pa_nil)))))), ?_⟩
    refine ⟨rfl, fun H1 l s1 hl hP => ?_⟩
    obtain ⟨ts, hl1, S⟩ := hP
    refine ⟨l, rfl, ⟨_, SqL.of hl1⟩, fun D hD => lc_list (K := K) (a := l) (xs := ts.map V.ref) (fun i H' => H' D = some (.lst ((points.take i).map fun q => vn (g.at_ q.1 q.2))) ∧ Same H1 H') ⟨upd_same, same_new hD⟩ (fun i H' _ q => SqL.of (q.2 _ _ hl1)) ?_ ?_⟩
    · rintro i X H2 hX ⟨hD2, s2⟩
      rw [List.getElem?_map, Option.map_eq_some_iff] at hX
      obtain ⟨t, ht, rfl⟩ := hX
      obtain ⟨x, hx, hxt⟩ := paired_get S ht
      refine ⟨t, _, rfl, SqT.of (s2 _ _ hxt), rfl, _, _, rfl, _, _, rfl, rfl, rfl, ?_⟩
      unfold tYes
      refine iteP rfl ⟨_, rfl, _, rfl, _, rfl, z, g, x.1, x.2, rfl, hF.sm (s1.trans s2), hok, _, hD2, ?_, ?_, same_over s2 hD⟩
      · rw [List.length_map, List.length_take, points_len, sizeLine_eq]; omega
      · rw [upd_same, take_succ hx, List.map_append]; rfl
    · rintro H2 ⟨hD2, s2⟩
      rw [List.length_map, paired_len S, List.take_length] at hD2
      exact k H2 D (s1.trans s2) (s1.free hD) hD2
noncomputable def spCA (CF CO CG : Addr) : Sp := fun vs H Q _ => ∃ (z zf t : Addr) (b : Bool) (f : Field) (x : Layer) (p r : Int), vs = [.ref z, .ref zf, .ref t, .bl b] ∧ LayerAt CF CO CG H z x ∧ FieldAt CF H zf f ∧ FieldOk f ∧ LayerOk f x ∧ H t = some (.tup [.int p, .int r]) ∧ Q (if b = true then vn (x.fill.at_ f p r) else .non) H
theorem sc_cover_at : FnScope ["layer", "arms_field", "point", "held"] ["layer", "arms_field", "point", "held"] (defScope s_cover_at) := ⟨rfl, rfl, rfl, by decide +kernel, rfl, by decide +kernel, by decide +kernel⟩
theorem ok_cover_at {CF CO CG f f_lt : Addr} {fd : FuncData} (F : Fun K "cover_at" "cover_at" s_cover_at f fd) (p_lt : PF P w K mg base "layer_tincture" 9 f_lt ["layer", "arms_field", "p", "r"] (spLT CF CO CG)) : FnOk P w K mg base (CXx P w) 10 f fd ["layer", "arms_field", "point", "held"] (spCA CF CO CG) := by
  refine F.okX sc_cover_at (fun vs H Q E h => ?_) (fun cdv A outer s H vs Q E hr h => ?_)
  · obtain ⟨z, zf, t, b, f, x, p, r, rfl, _⟩ := h
    rfl
  · obtain ⟨z, zf, t, b, g, x, p, r, rfl, hL, hF, hok, hLo, ht, k⟩ := h
    refine ⟨_, pss_cons (ps_if (pt_val (pv 3)) (pss_one (ps_ret (pe_pf p_lt hr rfl (pa_cons (pv 0) (pa_cons (pv 1) (pa_cons (pe_ix ix_tup (pv 2) pe_int (fun _ _ => rfl)) (pa_cons (pe_ix ix_tup (pv 2) pe_int (fun _ _ => rfl)) pa_nil))))))) pss_nil) (pss_one (ps_ret pe_non)), ?_⟩
    refine ⟨_, rfl, b, rfl, ?_⟩
    cases b with
    | true =>
      refine iteP rfl ?_
      refine ⟨_, rfl, _, rfl, _, rfl, t, _, _, _, rfl, rfl, SqT.of ht, at_of (j := 0) (v := .int p) rfl rfl, _, rfl, t, _, _, _, rfl, rfl, SqT.of ht, at_of (j := 1) (v := .int r) rfl rfl, z, zf, g, x, p, r, rfl, hL, hF, hok, hLo, k⟩
    | false => exact iteN Bool.false_ne_true k
noncomputable def cov (f : Field) (x : Layer) (q : Int × Int) : V := if x.has q.1 q.2 = true then vn (x.fill.at_ f q.1 q.2) else .non
noncomputable def spLC (CF CO CG : Addr) : Sp := fun vs H Q _ => ∃ (z zf : Addr) (f : Field) (x : Layer), vs = [.ref z, .ref zf] ∧ LayerAt CF CO CG H z x ∧ FieldAt CF H zf f ∧ FieldOk f ∧ LayerOk f x ∧ NewL H Q (points.map (cov f x))
theorem sc_layer_cover : FnScope ["layer", "arms_field", "points", "held_points", "point", "held"] ["layer", "arms_field"] (defScope s_layer_cover) := ⟨rfl, rfl, rfl, by decide +kernel, rfl, by decide +kernel, by decide +kernel⟩
theorem ok_layer_cover {CF CO CG f f_dp f_hp f_ca : Addr} {fdD fd : FuncData} (F : Fun K "layer_cover" "layer_cover" s_layer_cover f fd) (W : TDw mg) (GD : FnOk P w K mg base (CXx P w) 1 f_dp fdD [] spDP) (bD : Binds K fdD [] []) (kD : PySem.W.keepIn K (.ref f_dp) = true) (mD : mg "drawn_points" = some (.ref f_dp))
    (p_hp : PF P w K mg base "layer_has_points" 7 f_hp ["layer", "points"] (spHP CF CO CG)) (p_ca : PF P w K mg base "cover_at" 10 f_ca ["layer", "arms_field", "point", "held"] (spCA CF CO CG)) : FnOk P w K mg base (CXx P w) 11 f fd ["layer", "arms_field"] (spLC CF CO CG) := by
  refine F.okX sc_layer_cover (fun vs H Q E h => ?_) (fun cdv A outer s H vs Q E hr h => ?_)
  · obtain ⟨z, zf, f, x, rfl, _⟩ := h
    rfl
  · obtain ⟨z, zf, g, x, rfl, hL, hF, hok, hLo, k⟩ := h
    have hr1 : Room 1 _ := hr.mono (by decide)
    have hr7 : Room 7 _ := hr.mono (by decide)
    refine ⟨_, pss_cons (ps_set (i := 2) sc_layer_cover.nd rfl (Or.inl rfl) (pe_call0 GD hr1 rfl mD kD bD .nil passN))
      (pss_cons (ps_set (i := 3) sc_layer_cover.nd rfl (Or.inl rfl) (pe_pf p_hp hr7 rfl (pa_cons (pv 0) (pa_cons (pv 2) pa_nil))))
      (pss_one (ps_ret (pe_lc (own := [("point", 4), ("held", 5)]) (te := tCall (spCA CF CO CG) [] E0 (tCons (tVar 0) (tCons (tVar 1) (tCons (tVar 4) (tCons (tVar 5) tNil))))) (g := gTup K 2 (gCons (gName 4) (gCons (gName 5) gNil))) rfl sc_layer_cover.nd (pi_zip rfl W.zip (pa_cons (pv 2) (pa_cons (pv 3) pa_nil))) (blkOk_by (by kernel_rfl))
        (fun _ _ _ _ _ => pg_tup (n := 2) rfl (pgs_cons (pg_name (i := 4) sc_layer_cover.nd rfl (Or.inl rfl) (.inr rfl)) (pgs_cons (pg_name (i := 5) sc_layer_cover.nd rfl (Or.inl rfl) (.inr rfl)) pgs_nil))) (fun _ _ _ _ _ => pts_nil)
        (fun _ _ _ _ _ => pe_pf p_ca hr rfl (pa_cons (pv 0) (pa_cons (pv 1) (pa_cons (pv 4) (pa_cons (pv 5) pa_nil))))))))), ?_⟩
    refine ⟨rfl, fun H1 l s1 hl hP => ?_⟩
    refine ⟨_, rfl, _, rfl, z, l, g, x, points, rfl, hL.sm s1, hLo, hP, by rw [points_len]; decide, fun H2 q s2 hq e2 => ?_⟩
    obtain ⟨ts, hl1, S⟩ := hP
    have s12 := s1.trans s2
    have hl2 := s2 _ _ hl1
    have ltn : ts.length = 1080 := by rw [paired_len S, points_len]
    obtain ⟨ys, eys⟩ : ∃ ys : List V, ys = points.map fun y => V.bl (x.has y.1 y.2) := ⟨_, rfl⟩
    rw [← eys] at e2
    have lys : ys.length = 1080 := by rw [eys, List.length_map]; exact points_len
    have gys : ∀ i Y, ys[i]? = some Y → ∃ y : Int × Int, points[i]? = some y ∧ Y = V.bl (x.has y.1 y.2) := fun i Y hY => by
      rw [eys, List.getElem?_map, Option.map_eq_some_iff] at hY
      obtain ⟨y, hy, e⟩ := hY
      exact ⟨y, hy, e.symm⟩
    clear eys
    refine ⟨_, rfl, _, rfl, l, q, _, _, rfl, SqL.of hl2, SqL.of e2, fun D hD => lc_zip (K := K) (a := l) (b := q) (xs := ts.map V.ref) (ys := ys) 1080 (by rw [List.length_map]; exact ltn) lys
      (fun i H' => H' D = some (.lst ((points.take i).map (cov g x))) ∧ Same H2 H') ⟨upd_same, same_new hD⟩ (fun i H' _ y => ⟨SqL.of (y.2 _ _ hl2), SqL.of (y.2 _ _ e2)⟩) ?_ ?_⟩
    · rintro i X Y T H3 hX hY hT ⟨hD3, s3⟩
      rw [List.getElem?_map, Option.map_eq_some_iff] at hX
      obtain ⟨t, ht, rfl⟩ := hX
      obtain ⟨y, hy, rfl⟩ := gys _ _ hY
      obtain ⟨y', hy', hyt⟩ := paired_get S ht
      obtain rfl : y = y' := Option.some.inj (hy.symm.trans hy')
      have sT : Same H3 (upd H3 T (.tup [.ref t, .bl (x.has y.1 y.2)])) := same_new hT
      have nD : D ≠ T := ne_of_none hD3 hT
      have s23 := (s12.trans s3).trans sT
      refine ⟨T, _, rfl, SqT.of upd_same, rfl, _, _, rfl, _, _, rfl, rfl, rfl, ?_⟩
      unfold tYes
      refine iteP rfl ⟨_, rfl, _, rfl, _, rfl, _, rfl, z, zf, t, x.has y.1 y.2, g, x, y.1, y.2, rfl, hL.sm s23, hF.sm s23, hok, hLo, (s2.trans (s3.trans sT)) _ _ hyt, _, sT _ _ hD3, ?_, ?_, ?_⟩
      · rw [List.length_map, List.length_take, points_len, sizeLine_eq]; omega
      · rw [upd_same, take_succ hy, List.map_append]; rfl
      · exact same_over (s3.trans sT) hD
    · rintro H3 ⟨hD3, s3⟩
      rw [List.take_of_length_le (by rw [points_len]; exact Nat.le_refl _)] at hD3
      exact k H3 D (s12.trans s3) (s12.free hD) hD3
noncomputable def ovr (u o : V) : V := if o = .non then u else o
noncomputable def spLO : Sp := fun vs H Q _ => ∃ (a b : Addr) (us os : List V), vs = [.ref a, .ref b] ∧ H a = some (.lst us) ∧ H b = some (.lst os) ∧ us.length = 1080 ∧ os.length = 1080 ∧ NewL H Q (List.zipWith ovr us os)
theorem sc_laid_over : FnScope ["below", "cover", "under", "over"] ["below", "cover"] (defScope s_laid_over) := ⟨rfl, rfl, rfl, by decide +kernel, rfl, by decide +kernel, by decide +kernel⟩
theorem zip_take {us os : List V} {i : Nat} {u o : V} (hu : us[i]? = some u) (ho : os[i]? = some o) : (List.zipWith ovr us os).take (i + 1) = (List.zipWith ovr us os).take i ++ [ovr u o] := by
  refine take_succ ?_
  rw [List.getElem?_zipWith, hu, ho]
theorem ok_laid_over {f : Addr} {fd : FuncData} (F : Fun K "laid_over" "laid_over" s_laid_over f fd) (W : TDw mg) : FnOk P w K mg base (CXx P w) 1 f fd ["below", "cover"] spLO := by
  refine F.okX sc_laid_over (fun vs H Q E h => ?_) (fun cdv A outer s H vs Q E hr h => ?_)
  · obtain ⟨a, b, us, os, rfl, _⟩ := h
    rfl
  · obtain ⟨a, b, us, os, rfl, ha, hb, lu, lo, k⟩ := h
    refine ⟨_, pss_one (ps_ret (pe_lc (own := [("under", 2), ("over", 3)]) (te := tIf (tTest (tOp (fun x y H Q => y = V.non ∧ Q (V.bl (decide (x = V.non))) H) (tVar 3) (tC .non))) (tVar 2) (tVar 3)) (g := gTup K 2 (gCons (gName 2) (gCons (gName 3) gNil))) rfl sc_laid_over.nd (pi_zip rfl W.zip (pa_cons (pv 0) (pa_cons (pv 1) pa_nil))) (blkOk_by (by kernel_rfl))
        (fun _ _ _ _ _ => pg_tup (n := 2) rfl (pgs_cons (pg_name (i := 2) sc_laid_over.nd rfl (Or.inl rfl) (.inr rfl)) (pgs_cons (pg_name (i := 3) sc_laid_over.nd rfl (Or.inl rfl) (.inr rfl)) pgs_nil))) (fun _ _ _ _ _ => pts_nil)
        (fun _ _ _ _ _ => pe_ifExp (pt_cmpR op_isN (pv 3) pe_non (nomark _)) (pv 2) (pv 3)))), ?_⟩
    refine ⟨_, rfl, _, rfl, a, b, _, _, rfl, SqL.of ha, SqL.of hb, fun D hD => lc_zip (K := K) (a := a) (b := b) (xs := us) (ys := os) 1080 lu lo
      (fun i H' => H' D = some (.lst ((List.zipWith ovr us os).take i)) ∧ Same H H') ⟨upd_same, same_new hD⟩ (fun i H' _ y => ⟨SqL.of (y.2 _ _ ha), SqL.of (y.2 _ _ hb)⟩) ?_ ?_⟩
    · rintro i u o T H3 hu ho hT ⟨hD3, s3⟩
      have sT : Same H3 (upd H3 T (.tup [u, o])) := same_new hT
      refine ⟨T, _, rfl, SqT.of upd_same, rfl, _, _, rfl, _, _, rfl, rfl, rfl, ?_⟩
      unfold tYes
      refine iteP rfl ⟨_, rfl, rfl, _, rfl, ?_⟩
      have fin : ∀ v : V, v = ovr u o → ∃ acc, (upd H3 T (.tup [u, o])) D = some (.lst acc) ∧ acc.length < sizeLine ∧ (upd (upd H3 T (.tup [u, o])) D (.lst (acc ++ [v]))) D = some (.lst ((List.zipWith ovr us os).take (i + 1))) ∧ Same H (upd (upd H3 T (.tup [u, o])) D (.lst (acc ++ [v]))) := by
        rintro v rfl
        refine ⟨_, sT _ _ hD3, ?_, ?_, same_over (s3.trans sT) hD⟩
        · rw [List.length_take, List.length_zipWith, sizeLine_eq]; omega
        · rw [upd_same, zip_take hu ho]
      by_cases e : o = .non
      · exact iteP (decide_eq_true e) ⟨_, rfl, fin _ (if_pos e).symm⟩
      · exact iteN (by intro z; exact e (of_decide_eq_true z)) ⟨_, rfl, fin _ (if_neg e).symm⟩
    · rintro H3 ⟨hD3, s3⟩
      rw [List.take_of_length_le (by rw [List.length_zipWith]; omega)] at hD3
      exact k H3 D s3 hD hD3
end
section
variable {P : Program} {w : World} {K : PySem.W.Frag} {mg : Str → Option Value} {base : Heap}
noncomputable def spAD (CF CO CG CA : Addr) : Sp := fun vs H Q _ => ∃ (z : Addr) (x : Arms), vs = [.ref z] ∧ ArmsAt CF CO CG CA H z x ∧ FieldOk x.field ∧ (∀ l ∈ x.layers, LayerOk x.field l) ∧ NewL H Q ((flatD x).map vn)
theorem zip_cov {x : Arms} {i : Nat} {y : Layer} (h : x.layers[i]? = some y) : List.zipWith ovr (points.map fun q => vn (upTo x i q.1 q.2)) (points.map (cov x.field y)) = points.map fun q => vn (upTo x (i + 1) q.1 q.2) := by
  rw [List.zipWith_map, List.zipWith_self]
  congr 1
  funext q
  rw [upTo_succ h]
  unfold ovr cov
  by_cases e : y.has q.1 q.2 = true
  · rw [if_pos e, if_pos e, if_neg (by intro z; cases z)]
  · rw [if_neg e, if_neg e, if_pos rfl]
theorem sc_arms_drawing : FnScope ["arms", "drawn", "layer"] ["arms"] (defScope s_arms_drawing) := ⟨rfl, rfl, rfl, by decide +kernel, rfl, by decide +kernel, by decide +kernel⟩
theorem ok_arms_drawing {CF CO CG CA fA f f_fd f_lo f_lc : Addr} {fd : FuncData} (F : Fun K "arms_drawing" "arms_drawing" s_arms_drawing f fd) (RA : RC K mg "Arms" CA fA ["field", "layers"])
    (p_fd : PF P w K mg base "field_drawing" 9 f_fd ["field"] (spFDr CF)) (p_lo : PF P w K mg base "laid_over" 1 f_lo ["below", "cover"] spLO) (p_lc : PF P w K mg base "layer_cover" 11 f_lc ["layer", "arms_field"] (spLC CF CO CG)) :
    FnOk P w K mg base (CXx P w) 12 f fd ["arms"] (spAD CF CO CG CA) := by
  refine F.okX sc_arms_drawing (fun vs H Q E h => ?_) (fun cdv A outer s H vs Q E hr h => ?_)
  · obtain ⟨z, x, rfl, _⟩ := h
    rfl
  · obtain ⟨z, x, rfl, ⟨dz, zf, zl, zs, hz, hF, hl, hLs⟩, ok1, ok2, k⟩ := h
    obtain ⟨e1, e2⟩ := a_look (.ref zf) (.ref zl)
    have hr1 : Room 1 _ := hr.mono (by decide)
    have hr9 : Room 9 _ := hr.mono (by decide)
    refine ⟨_, pss_cons (ps_set (i := 1) sc_arms_drawing.nd rfl (Or.inl rfl) (pe_pf p_fd hr9 rfl (pa_cons (pe_fld (pv 0) rfl) pa_nil)))
      (pss_cons (ps_for PassesOwn.leaving rfl (pi_list (pe_fld (pv 0) rfl)) (pg_name (i := 2) sc_arms_drawing.nd rfl (Or.inl rfl))
        (pss_one (ps_set (i := 1) sc_arms_drawing.nd rfl (Or.inl rfl) (pe_pf p_lo hr1 rfl (pa_cons (pv 1) (pa_cons (pe_pf p_lc hr rfl (pa_cons (pv 2) (pa_cons (pe_fld (pv 0) rfl) pa_nil))) pa_nil))))))
      (pss_one (ps_ret (pv 1)))), ?_⟩
    refine ⟨_, rfl, z, CA, dz, _, _, rfl, hz, RA.cl, RA.no _ (by decide +kernel), e1, zf, x.field, rfl, hF, ok1, fun H1 l s1 hl1 q1 => ?_⟩
    have llen := paired_len hLs
    refine ⟨_, rfl, z, CA, dz, _, _, rfl, s1 _ _ hz, RA.cl, RA.no _ (by decide +kernel), e2, zl, rfl, ⟨_, SqL.of (s1 _ _ hl)⟩, for_list (K := K) (a := zl) (xs := zs.map V.ref) (fun i σ H' => ∃ (d : Addr) (yv : Option V), σ = [some (.ref z), some (.ref d), yv] ∧ Same H H' ∧ H d = none ∧ H' d = some (.lst (points.map fun q => vn (upTo x i q.1 q.2))))
      ⟨l, none, rfl, s1, hl1, q1⟩ (fun i σ H' _ q => ?_) ?_ ?_⟩
    · obtain ⟨_, _, _, s3, _⟩ := q
      exact SqL.of (s3 _ _ hl)
    · rintro i X σ H2 hX ⟨d, yv, rfl, s2, hd0, hd⟩
      rw [List.getElem?_map, Option.map_eq_some_iff] at hX
      obtain ⟨u, hu, rfl⟩ := hX
      obtain ⟨y, hy, hLa⟩ := paired_get hLs hu
      have okl := ok2 y (List.mem_of_getElem? hy)
      refine ⟨_, rfl, _, rfl, _, rfl, z, CA, dz, _, _, rfl, s2 _ _ hz, RA.cl, RA.no _ (by decide +kernel), e1, u, zf, x.field, y, rfl, hLa.sm s2, hF.sm s2, ok1, okl, fun H3 lc s3 hlc q3 => ?_⟩
      refine ⟨d, lc, _, _, rfl, s3 _ _ hd, q3, by rw [List.length_map]; exact points_len, by rw [List.length_map]; exact points_len, fun H4 d' s4 hd' q4 => ?_⟩
      have s24 := s2.trans (s3.trans s4)
      refine ⟨d', _, rfl, s24, (s2.trans s3).free hd', ?_⟩
      rw [q4, zip_cov hy]
    · rintro σ H2 ⟨d, yv, rfl, s2, hd0, hd⟩
      rw [List.length_map, llen] at hd
      refine ⟨_, rfl, k H2 d s2 hd0 ?_⟩
      rw [hd]
      unfold flatD
      rw [List.map_map]
      congr 2
      refine List.map_congr_left fun q _ => ?_
      rw [upTo_all]
      rfl
end
section
variable {P : Program} {w : World} {K : PySem.W.Frag} {mg : Str → Option Value} {base : Heap}
noncomputable def spRB : Sp := fun vs H Q _ => ∃ (a : Addr) (r : List Nat), vs = [.ref a] ∧ H a = some (.lst (r.map vn)) ∧ r.length ≤ 30 ∧ NewL H Q ((enc r).map vn)
theorem sc_row_bytes : FnScope ["row", "data", "length", "x", "tincture"] ["row"] (defScope s_row_bytes) := ⟨rfl, rfl, rfl, by decide +kernel, rfl, by decide +kernel, by decide +kernel⟩
theorem ok_row_bytes {f : Addr} {fd : FuncData} (F : Fun K "row_bytes" "row_bytes" s_row_bytes f fd) (zE : mg "enumerate" = none) (zL : mg "len" = none) : FnOk P w K mg base (CXx P w) 1 f fd ["row"] spRB := by
  refine F.okX sc_row_bytes (fun vs H Q E h => ?_) (fun cdv A outer s H vs Q E hr h => ?_)
  · obtain ⟨a, r, rfl, _⟩ := h
    rfl
  · obtain ⟨a, r, rfl, ha, hn, k⟩ := h
    refine ⟨_, pss_cons (ps_set (i := 1) sc_row_bytes.nd rfl (Or.inl rfl) (pe_lst pa_nil)) (pss_cons (ps_set (i := 2) sc_row_bytes.nd rfl (Or.inl rfl) pe_int)
      (pss_cons (ps_for PassesOwn.leaving rfl (pi_enum rfl zE (pa_cons (pv 0) pa_nil)) (pg_tup (n := 2) rfl (pgs_cons (pg_name (i := 3) sc_row_bytes.nd rfl (Or.inl rfl)) (pgs_cons (pg_name (i := 4) sc_row_bytes.nd rfl (Or.inl rfl)) pgs_nil)))
        (pss_cons (ps_set (i := 2) sc_row_bytes.nd rfl (Or.inl rfl) (pe_op op_add (pv 2) pe_int))
          (pss_one (ps_if (PW.pt (pw_or (pt_cmpR op_eq (pe_op op_add (pv 3) pe_int) (pe_callB call_len_seq (by rfl) zL PySem.boot_len (pa_cons (pv 0) pa_nil)) (nomark _)) (pw_or1 (pt_cmpR op_ne (pe_ix ix_list (pv 0) (pe_op op_add (pv 3) pe_int) (fun _ _ => rfl)) (pv 4) (nomark _)))))
            (pss_cons (ps_expr (pe_bm PySem.F.plainAttrs_list PySem.F.slot_list_append PySem.F.type_list_append mt_append (pv 1) (pa_cons (pv 2) pa_nil)))
              (pss_cons (ps_expr (pe_bm PySem.F.plainAttrs_list PySem.F.slot_list_append PySem.F.type_list_append mt_append (pv 1) (pa_cons (pv 4) pa_nil))) (pss_one (ps_set (i := 2) sc_row_bytes.nd rfl (Or.inl rfl) pe_int)))) pss_nil))))
      (pss_one (ps_ret (pv 1))))), ?_⟩
    refine ⟨Nat.zero_le _, fun l hl => ?_⟩
    have sl : Same H (upd H l (.lst [])) := same_new hl
    refine ⟨_, rfl, a, _, rfl, SqL.of (sl _ _ ha), for_enum (K := K) (a := a) (xs := r.map vn) (fun i σ H' => ∃ (n : Nat) (xv tv : Option V) (d : List Nat), σ = [some (.ref a), some (.ref l), some (vn n), xv, tv] ∧ H' l = some (.lst (d.map vn)) ∧ d ++ encG n (r.drop i) = enc r ∧ d.length ≤ 2 * i ∧ Same H H')
      ⟨0, none, none, [], rfl, upd_same, encG_eq r, Nat.le_refl _, sl⟩ (fun i σ H' _ q => ?_) ?_ ?_⟩
    · obtain ⟨_, _, _, _, _, _, _, _, s1⟩ := q
      exact SqL.of (s1 _ _ ha)
    · rintro i X T σ H1 hX ⟨n, xv, tv, d, rfl, hl1, hd, hlen, s1⟩ hT
      rw [List.getElem?_map, Option.map_eq_some_iff] at hX
      obtain ⟨t, ht, rfl⟩ := hX
      have hi : i < r.length := (List.getElem?_eq_some_iff.mp ht).1
      have edrop : r.drop i = t :: r.drop (i + 1) := by
        rw [List.drop_eq_getElem_cons hi, (List.getElem?_eq_some_iff.mp ht).2]
      have sT : Same H1 (upd H1 T (.tup [.int (i : Nat), vn t])) := same_new hT
      have s2 := s1.trans sT
      have hl2 := sT _ _ hl1
      have hh : (r.drop (i + 1)).head? = r[i + 1]? := List.head?_drop
      have eG : encG n (r.drop i) = if r[i + 1]? = some t then encG (n + 1) (r.drop (i + 1)) else (n + 1) :: t :: encG 0 (r.drop (i + 1)) := by rw [edrop, ← hh]; rfl
      have en : (n : Int) + 1 = ((n + 1 : Nat) : Int) := by omega
      refine ⟨T, _, rfl, SqT.of upd_same, rfl, _, _, rfl, _, _, rfl, rfl, ?_⟩
      refine ⟨_, rfl, _, _, rfl, rfl, ?_⟩
      have push : r[i + 1]? ≠ some t → ∀ {D : Ends}, (∀ σ H', (∃ (n : Nat) (xv tv : Option V) (d : List Nat), σ = [some (.ref a), some (.ref l), some (vn n), xv, tv] ∧ H' l = some (.lst (d.map vn)) ∧ d ++ encG n (r.drop (i + 1)) = enc r ∧ d.length ≤ 2 * (i + 1) ∧ Same H H') → D.nx σ H') →
          tSeq (tDrop (tBM K "list" rAppend (tVar 1) (tCons (tVar 2) tNil))) (tSeq (tDrop (tBM K "list" rAppend (tVar 1) (tCons (tVar 4) tNil))) (tAsg (tC (.int 0)) (gName 2))) D [some (.ref a), some (.ref l), some (.int ((n : Int) + 1)), some (.int (i : Nat)), some (vn t)] (upd H1 T (.tup [.int (i : Nat), vn t])) := by
        intro hne D hD
        refine ⟨_, rfl, .inl ⟨rfl, _, SqL.of hl2⟩, _, rfl, l, _, _, rfl, rfl, hl2, by rw [List.length_map, sizeLine_eq]; omega, ?_⟩
        refine ⟨_, rfl, .inl ⟨rfl, _, SqL.of upd_same⟩, _, rfl, l, _, _, rfl, rfl, upd_same, by rw [List.length_append, List.length_map, List.length_singleton, sizeLine_eq]; omega, ?_⟩
        refine hD _ _ ⟨0, _, _, d ++ [n + 1, t], rfl, ?_, ?_, by rw [List.length_append]; show d.length + 2 ≤ _; omega, ?_⟩
        · rw [upd_same, List.map_append, List.append_assoc, en]; rfl
        · rw [eG, if_neg hne] at hd
          rw [List.append_assoc]; exact hd
        · exact same_over (same_over s2 hl) hl
      refine ⟨_, rfl, _, _, rfl, rfl, _, rfl, a, _, rfl, .inl (SqL.of (s2 _ _ ha)), rfl, _, rfl, ?_⟩
      by_cases hlast : i + 1 = r.length
      · refine iteP (decide_eq_true (by rw [List.length_map]; exact congrArg V.int (by omega))) (iteP rfl ?_)
        exact push (by rw [List.getElem?_eq_none (by omega)]; intro z; cases z) fun σ H' q => q
      · refine iteN (by intro z; have := of_decide_eq_true z; rw [List.length_map] at this; injection this with this; omega) ?_
        obtain ⟨u, hu⟩ : ∃ u, r[i + 1]? = some u := ⟨_, List.getElem?_eq_getElem (by omega)⟩
        refine ⟨_, rfl, _, rfl, _, _, rfl, rfl, a, _, _, _, rfl, rfl, SqL.of (s2 _ _ ha), at_of (j := i + 1) (v := vn u) (by omega) (by rw [List.getElem?_map, hu]; rfl), _, rfl, rfl, _, rfl, ?_⟩
        by_cases hut : u = t
        · refine iteN (by rw [hut]; simp) ?_
          refine ⟨n + 1, some (.int (i : Nat)), some (vn t), d, ?_, hl2, ?_, by omega, s2⟩
          · show [some (V.ref a), some (V.ref l), some (V.int ((n : Int) + 1)), some (V.int (i : Nat)), some (vn t)] = _
            rw [en]
          · rw [eG, if_pos (by rw [hu, hut])] at hd
            exact hd
        · refine iteP (by simp only [Bool.not_eq_true', decide_eq_false_iff_not]; intro z; injection z with z; exact hut (by omega)) ?_
          exact push (by rw [hu]; intro z; exact hut (Option.some.inj z)) fun σ H' q => q
    · rintro σ H1 ⟨n, xv, tv, d, rfl, hl1, hd, hlen, s1⟩
      rw [List.length_map, List.drop_length] at hd
      have hd : d ++ [] = enc r := hd
      rw [List.append_nil] at hd
      refine ⟨_, rfl, k H1 l s1 hl ?_⟩
      rw [hl1, hd]
noncomputable def spDB : Sp := fun vs H Q _ => ∃ (a : Addr) (x : Arms), vs = [.ref a] ∧ H a = some (.lst ((flatD x).map vn)) ∧ NewL H Q ((bytesD x 36).map vn)
theorem sc_drawing_bytes : FnScope ["drawn", "data", "y"] ["drawn"] (defScope s_drawing_bytes) := ⟨rfl, rfl, rfl, by decide +kernel, rfl, by decide +kernel, by decide +kernel⟩
theorem cut_row (x : Arms) {y : Nat} (h : y < 36) : cutV ((flatD x).map vn) (some ((y : Int) * 30)) (some (((y : Int) + 1) * 30)) = (rowD x y).map vn := by
  unfold cutV HT.sIx
  rw [List.length_map, flat_len]
  have e1 : (if (y : Int) * 30 < 0 then ((y : Int) * 30 + (1080 : Nat)).toNat else min ((y : Int) * 30).toNat 1080) = 30 * y := by rw [if_neg (by omega)]; omega
  have e2 : (if ((y : Int) + 1) * 30 < 0 then (((y : Int) + 1) * 30 + (1080 : Nat)).toNat else min (((y : Int) + 1) * 30).toNat 1080) = 30 * y + 30 := by rw [if_neg (by omega)]; omega
  show List.take ((if ((y : Int) + 1) * 30 < 0 then _ else _) - (if (y : Int) * 30 < 0 then _ else _)) (List.drop (if (y : Int) * 30 < 0 then _ else _) _) = _
  rw [e1, e2, Nat.add_sub_cancel_left, ← List.map_drop, ← List.map_take, flat_rows, cut_flat _ (rowD_len x) 36 y h]
theorem ok_drawing_bytes {f f_rb aM : Addr} {fd : FuncData} (F : Fun K "drawing_bytes" "drawing_bytes" s_drawing_bytes f fd) (W : TDw mg) (zT : mg "list" = none) (mM : mg "AHEAD" = some (.ref aM)) (sM : ∀ H, SqT K H aM [.int 83, .int 72, .int 68, .int 49])
    (p_rb : PF P w K mg base "row_bytes" 1 f_rb ["row"] spRB) : FnOk P w K mg base (CXx P w) 2 f fd ["drawn"] spDB := by
  refine F.okX sc_drawing_bytes (fun vs H Q E h => ?_) (fun cdv A outer s H vs Q E hr h => ?_)
  · obtain ⟨a, x, rfl, _⟩ := h
    rfl
  · obtain ⟨a, x, rfl, ha, k⟩ := h
    obtain ⟨t36, h36⟩ := W.rows
    obtain ⟨t30, h30⟩ := W.cols
    refine ⟨_, pss_cons (ps_set (i := 1) sc_drawing_bytes.nd rfl (Or.inl rfl) (pe_callTy call_list_of rfl zT (by decide +kernel) (pa_cons (pe_glob (v := .ref aM) rfl mM rfl) pa_nil)))
      (pss_cons (ps_for PassesOwn.leaving rfl (pi_range1 rfl W.rng (pa_cons (pe_glob (v := .int 36) rfl h36 ⟨t36, rfl⟩) pa_nil)) (pg_name (i := 2) sc_drawing_bytes.nd rfl (Or.inl rfl))
        (pss_one (ps_expr (pe_bm PySem.F.plainAttrs_list PySem.F.slot_list_extend PySem.F.type_list_extend mt_extend (pv 1) (pa_cons (pe_pf p_rb hr rfl (pa_cons (pe_slice sl_list (pv 0) (po_some (pe_op op_mul (pv 2) (pe_glob (v := .int 30) rfl h30 ⟨t30, rfl⟩))) (po_some (pe_op op_mul (pe_op op_add (pv 2) pe_int) (pe_glob (v := .int 30) rfl h30 ⟨t30, rfl⟩)))) pa_nil)) pa_nil)))))
      (pss_one (ps_ret (pv 1)))), ?_⟩
    refine ⟨aM, _, rfl, .inr (sM _), fun l hl => ?_⟩
    refine ⟨36, rfl, by decide, by decide, for_range (n := 36) (fun i σ H' => ∃ yv : Option V, σ = [some (.ref a), some (.ref l), yv] ∧ H' l = some (.lst ((bytesD x i).map vn)) ∧ Same H H') ⟨none, rfl, upd_same, same_new hl⟩ ?_ ?_⟩
    · rintro i σ H1 hi ⟨yv, rfl, hl1, s1⟩
      refine ⟨_, rfl, .inl ⟨rfl, _, SqL.of hl1⟩, _, rfl, _, rfl, _, _, rfl, rfl, .inr (by decide), _, rfl, _, rfl, _, _, rfl, rfl, _, _, rfl, rfl, .inr (by decide), _, rfl, a, _, rfl, SqL.of (s1 _ _ ha), fun p hp => ?_⟩
      refine ⟨p, rowD x i, rfl, ?_, Nat.le_of_eq (rowD_len x i), fun H2 q s2 hq e2 => ?_⟩
      · rw [upd_same, Int.zero_add, cut_row x hi]
      · have s3 := (same_new hp).trans s2
        have b1 := bytesD_len x i
        have b2 := enc_len (rowD x i)
        rw [rowD_len] at b2
        refine ⟨l, q, _, _, rfl, rfl, s3 _ _ hl1, e2, by rw [List.length_map, List.length_map, sizeLine_eq]; omega, _, rfl, ?_, same_over (s1.trans s3) hl⟩
        rw [upd_same, bytesD_succ, List.map_append]
    · rintro σ H1 ⟨yv, rfl, hl1, s1⟩
      exact ⟨_, rfl, k H1 l s1 hl hl1⟩
noncomputable def spWL : Sp := fun vs H Q _ => ∃ (l : Addr) (xs : List V), vs = [.ref l] ∧ H l = some (.lst xs) ∧ xs.length ≤ 5000 ∧ NewL H Q (.int (xs.length : Nat) :: xs)
theorem sc_with_length : FnScope ["data"] ["data"] (defScope s_with_length) := ⟨rfl, rfl, rfl, by decide +kernel, rfl, by decide +kernel, by decide +kernel⟩
theorem ok_with_length {f : Addr} {fd : FuncData} (F : Fun K "with_length" "with_length" s_with_length f fd) (zL : mg "len" = none) : FnOk P w K mg base (CXx P w) 1 f fd ["data"] spWL := by
  refine F.okX sc_with_length (fun vs H Q E h => ?_) (fun cdv A outer s H vs Q E hr h => ?_)
  · obtain ⟨l, xs, rfl, _⟩ := h
    rfl
  · obtain ⟨l, xs, rfl, hl, hn, k⟩ := h
    refine ⟨_, pss_one (ps_ret (pe_op op_cat (pe_lst (pa_cons (pe_callB call_len_seq (by rfl) zL PySem.boot_len (pa_cons (pv 0) pa_nil)) pa_nil)) (pv 0))), ?_⟩
    refine ⟨_, rfl, l, _, rfl, .inl (SqL.of hl), (by show 1 ≤ sizeLine; rw [sizeLine_eq]; omega), fun l1 hl1 => ?_⟩
    refine ⟨_, rfl, l1, l, _, _, rfl, rfl, upd_same, same_new hl1 _ _ hl, ?_, fun p hp => ?_⟩
    · rw [List.length_cons, List.length_nil, sizeLine_eq]; omega
    · exact k _ p ((same_new hl1).trans (same_new hp)) ((same_new hl1).free hp) upd_same
end
section
variable {P : Program} {w : World} {K : PySem.W.Frag} {mg : Str → Option Value} {base : Heap} {CE NE fE CR fR fTk fTr fTo fTe CF CO CG CA fF fO fG fA fRP fRT fLV fRV fRF fFL fOL fGL fRL fRA : Addr}
noncomputable def tryH (s : List Stmt) : List Stmt := match s with
  | .Try _ [.ExceptHandler _ _ b _] _ _ _ :: _ => b
  | _ => []
noncomputable def tH (K : PySem.W.Frag) (i : Nat) (z : Int) : TS := tRet (tLst (tCons (tC (.int z)) (tCons (tXGet K (tVar i) "place") tNil)))
noncomputable def spDr (K : PySem.W.Frag) : Sp := fun vs H Q _ => ∃ (a : Addr) (ns : List Int), vs = [.ref a] ∧ Byts ns ∧ SqF K H a (ns.map V.int) ∧ ∀ (H' : Hp) (q : Addr), H' q = some (.lst ((PyWqbabn.draw ns).map V.int)) → Q (.ref q) H'
theorem sc_draw : FnScope ["a", "arms", "fault"] ["a"] (defScope s_draw) := ⟨rfl, rfl, rfl, by decide +kernel, rfl, by decide +kernel, by decide +kernel⟩
theorem ok_draw {f f_wl f_db f_ad : Addr} {fdD fd : FuncData} (F : Fun K "draw" "draw" s_draw f fd) (T : TR K mg CE NE fE CR fR fTk fTr fTo fTe) (U : TA1 K mg CR CF CO CG CA fF fO fG fA fRP fRT fLV fRV fRF fFL fOL fGL fRL fRA) (hN : ∃ t, mg "NOT_WELL_MADE" = some (.int (-1) t))
    (GD : FnOk P w K mg base (CXx P w) 11 fRA fdD ["data"] (spRA K CE CR CF CO CG CA)) (bD : Binds K fdD ["data"] []) (kD : PySem.W.keepIn K (.ref fRA) = true)
    (p_wl : PF P w K mg base "with_length" 1 f_wl ["data"] spWL) (p_db : PF P w K mg base "drawing_bytes" 2 f_db ["drawn"] spDB) (p_ad : PF P w K mg base "arms_drawing" 12 f_ad ["arms"] (spAD CF CO CG CA)) :
    FnOk P w K mg base (CXx P w) 13 f fd ["a"] (spDr K) := by
  refine F.okX sc_draw (fun vs H Q E h => ?_) (fun cdv A outer s H vs Q E hr h => ?_)
  · obtain ⟨a, ns, rfl, _⟩ := h
    rfl
  · obtain ⟨a, ns, rfl, hb, hS, k⟩ := h
    obtain ⟨tN, hN⟩ := hN
    have hr1 : Room 1 _ := hr.mono (by decide)
    have hr2 : Room 2 _ := hr.mono (by decide)
    have hr11 : Room 11 _ := hr.mono (by decide)
    have hS1 : ∀ x, PSs ((cxOf (CXx P w) P w K mg base ["a", "arms", "fault"] "draw" (defScope s_draw) f cdv A outer s H E).hand x) (tryH (defBody s_draw)) (tH K 2 (-1)) := fun x =>
      pss_one (ps_ret (pe_lst (pa_cons (pe_glob (v := .int (-1)) rfl hN ⟨tN, rfl⟩) (pa_cons (pe_xget (pv 2) ty_place rfl) pa_nil))))
    refine ⟨_, pss_cons (ps_try (i := 2) (n := "fault") T.xc rfl rfl rfl T.mgE sc_draw.nd rfl rfl hS1
        (fun pins D fl => pss_one (ps_set (i := 1) sc_draw.nd rfl (Or.inl rfl) (pe_call GD hr11 rfl U.mRA kD bD .nil (passX rfl fl) (pa_cons (pv 0) pa_nil)))))
      (pss_one (ps_ret (pe_pf p_wl hr1 rfl (pa_cons (pe_pf p_db hr2 rfl (pa_cons (pe_pf p_ad hr rfl (pa_cons (pv 1) pa_nil)) pa_nil)) pa_nil)))), ?_⟩
    rw [draw_eq hb] at k
    refine ⟨_, rfl, a, ns, rfl, hb, hS, ?_⟩
    cases e : readArms (byt ns) with
    | error pl =>
      rw [e] at k
      intro d H' hd
      refine ⟨rfl, d, rfl, fun x hx => ?_⟩
      refine ⟨_, rfl, x, CE, NE, fE, d, _, _, rfl, hx, T.xc, T.nx, hd, look1 _ _, (by show 2 ≤ sizeLine; rw [sizeLine_eq]; omega), fun l hl => ?_⟩
      exact k _ l upd_same
    | ok x =>
      rw [e] at k
      have ok := arms_ok e
      intro H1 z s1 hz hA
      refine ⟨_, rfl, z, x, rfl, hA, ok.1, ok.2.2, fun H2 d s2 hd q2 => ?_⟩
      refine ⟨d, x, rfl, q2, fun H3 l s3 hl q3 => ?_⟩
      refine ⟨l, _, rfl, q3, by rw [List.length_map]; have := bytesD_len x 36; omega, fun H4 l4 s4 hl4 q4 => ?_⟩
      refine k H4 l4 ?_
      have eb := bytesD_eq ok.1 ok.2.2
      rw [q4, List.length_map, ← eb]
      simp only [List.map_cons, List.map_map, List.length_map]
      rfl
end
theorem lnat {l : Int} (h : 0 ≤ l ∧ l < 6) : ∃ n : Nat, n ≤ 5 ∧ l = (n : Int) := ⟨l.toNat, by omega, by omega⟩
theorem cv3 {g : Int → Int → Int → Bool} {q : Nat → Int → Int → Bool} (h : ∀ {l : Nat}, l ≤ 5 → ∀ p r, g p r l = q l p r) : ∀ p r l : Int, (0 ≤ l ∧ l < 6) → (0 ≤ l ∧ l < 6) ∧ V.bl (g p r l) = V.bl (q l.toNat p r) := fun p r l hl => ⟨hl, by
  obtain ⟨n, hn, rfl⟩ := lnat hl
  exact congrArg V.bl (h hn p r)⟩
theorem cv4 {g : Int → Int → Int → Int → Int} {q : Int → Nat → Int → Int → Int} (h : ∀ {l : Nat}, l ≤ 5 → ∀ p r n, g p r n l = q n l p r) : ∀ p r n l : Int, ((0 ≤ l ∧ l < 6) ∧ 2 ≤ n ∧ n ≤ 24) → (0 ≤ l ∧ l < 6 ∧ 2 ≤ n ∧ n ≤ 24) ∧ V.int (g p r n l) = V.int (q n l.toNat p r) := fun p r n l hl => ⟨by omega, by
  obtain ⟨m, hm, rfl⟩ := lnat hl.1
  exact congrArg V.int (h hm p r n)⟩
theorem cv2 {g : Int → Int → Bool} {q : Int → Int → Bool} (h : ∀ {x y : Int}, ¬ (48 < size x ∨ 48 < size y) → g x y = q x y) : ∀ x y : Int, (-48 ≤ x ∧ x ≤ 48 ∧ -48 ≤ y ∧ y ≤ 48) → (-48 ≤ x ∧ x ≤ 48 ∧ -48 ≤ y ∧ y ≤ 48) ∧ V.bl (g x y) = V.bl (q x y) := fun x y hx => ⟨hx, congrArg V.bl (h (by
  unfold size
  by_cases a1 : x < 0 <;> by_cases a2 : y < 0 <;> simp only [a1, a2, if_true, if_false] <;> omega))⟩
theorem sqt_gen {K : PySem.W.Frag} {a : Addr} {od : Option Addr} {us : List Value} {n : Nat} {sl : Array (Option Value)} {vs : List V} (l : K.lookup a = some ⟨.type "tuple", od, .seq us.toArray n, sl⟩) (r : Vals vs us) (hz : us.length ≤ 100) : ∀ H, SqT K H a vs := fun H =>
  .inr ⟨_, us.toArray, _, l, rfl, rfl, (by rw [List.size_toArray, sizeLine_eq]; omega), by simpa using r⟩
theorem sqt_refs {K : PySem.W.Frag} {a : Addr} {od : Option Addr} {n : Nat} {sl : Array (Option Value)} {fs : List Addr} (l : K.lookup a = some ⟨.type "tuple", od, .seq (fs.map Value.ref).toArray n, sl⟩) (hz : fs.length ≤ 100) : ∀ H, SqT K H a (fs.map V.ref) :=
  sqt_gen l (by
    clear l hz
    induction fs with
    | nil => exact .nil
    | cons x r ih => exact .cons rfl ih) (by rw [List.length_map]; exact hz)
theorem ar1 {us : List Value} (h : us.length = 1) : ∃ a0, us = [a0] := match us, h with | [a0], _ => ⟨a0, rfl⟩
theorem ar2 {us : List Value} (h : us.length = 2) : ∃ a0 a1, us = [a0, a1] := match us, h with | [a0, a1], _ => ⟨a0, a1, rfl⟩
theorem ar3 {us : List Value} (h : us.length = 3) : ∃ a0 a1 a2, us = [a0, a1, a2] := match us, h with | [a0, a1, a2], _ => ⟨a0, a1, a2, rfl⟩
theorem ar4 {us : List Value} (h : us.length = 4) : ∃ a0 a1 a2 a3, us = [a0, a1, a2, a3] := match us, h with | [a0, a1, a2, a3], _ => ⟨a0, a1, a2, a3, rfl⟩
theorem ar5 {us : List Value} (h : us.length = 5) : ∃ a0 a1 a2 a3 a4, us = [a0, a1, a2, a3, a4] := match us, h with | [a0, a1, a2, a3, a4], _ => ⟨a0, a1, a2, a3, a4, rfl⟩
theorem ar6 {us : List Value} (h : us.length = 6) : ∃ a0 a1 a2 a3 a4 a5, us = [a0, a1, a2, a3, a4, a5] := match us, h with | [a0, a1, a2, a3, a4, a5], _ => ⟨a0, a1, a2, a3, a4, a5, rfl⟩
theorem ar7 {us : List Value} (h : us.length = 7) : ∃ a0 a1 a2 a3 a4 a5 a6, us = [a0, a1, a2, a3, a4, a5, a6] := match us, h with | [a0, a1, a2, a3, a4, a5, a6], _ => ⟨a0, a1, a2, a3, a4, a5, a6, rfl⟩
theorem all_mk {P : Program} {w : World} {K : PySem.W.Frag} {h : Heap} {mg : Str → Option Value} {fa aR0 aR1 aR2 aR3 aR4 aR5 aR6 aR7 aR8 aR9 CA CE CF CG CO CR NE aAH aBC aBO aLN aPW aRT aVW fA fE fF fFL fG fGL fLV fO fOL fR fRA fRF fRL fRP fRT fRV fTe fTk fTo fTr f_annulet f_arms_drawing f_arrow f_barry f_base f_bend f_bend_across f_bend_along f_bend_offset f_bend_sinister f_bend_within f_bendy f_bendy_sinister f_billet f_bordure f_canton f_charge_has f_charges_have f_chequy f_chevron f_chevronny f_chief f_counterchanged_tincture f_cover_at f_crescent f_cross_charges f_cross_ordinaries f_distance f_draw f_drawing_bytes f_drawn_points f_embattled f_engrailed f_escutcheon f_fess f_field_drawing f_field_tincture f_from_middle f_fusil f_group_has_points f_group_middles f_gyronny f_half_before_size f_half_side f_has_first f_increscent f_indented f_invected f_laid_over f_layer_cover f_layer_has_points f_layer_tincture f_lozenge f_lozengy f_mascle f_middle f_middles_in_rows f_mirrored f_mullet f_offset f_ordinary_has f_pale f_paly f_part_middle f_per_bend f_per_bend_sinister f_per_chevron f_per_fess f_per_pale f_per_saltire f_pile f_quarter f_quarterly f_roundel f_row_bytes f_saltire_charges f_saltire_ordinaries f_sinister_across f_sinister_along f_sinister_offset f_sinister_within f_straight f_sword f_tower f_wavy f_wheel f_with_length : Addr} (X : K.In h) (G : h.Ns mainGlobals mg) (hfa : mg "draw" = some (.ref fa))
    {CEnm CEqn : Str} {CEbs CEsub : List Value} {CEsn : List Str} {CEab : Bool} {CEcol : Option Bool} {CEdd : Option Addr} {CEk0 CEk1 CEk2 CEk3 CEk5 : Option Value} {NEoc : Value} {NEod : Option Addr} {NEes : Array DictEntry} {NEen : Nat} {NEsl : Array (Option Value)} {fEod fEan : Option Addr} {fEsl : Array (Option Value)} {fEoc fEkV fEdc fEpm fEcd fEct : Value} {fRod fRan : Option Addr} {fRsl : Array (Option Value)} {fRoc fRkV fRdc fRpm fRcd fRct : Value} {fTkod fTkan : Option Addr} {fTksl : Array (Option Value)} {fTkoc fTkkV fTkdc fTkpm fTkcd fTkct : Value} {fTrod fTran : Option Addr} {fTrsl : Array (Option Value)} {fTroc fTrkV fTrdc fTrpm fTrcd fTrct : Value} {fTood fToan : Option Addr} {fTosl : Array (Option Value)} {fTooc fTokV fTodc fTopm fTocd fToct : Value} {fTeod fTean : Option Addr} {fTesl : Array (Option Value)} {fTeoc fTekV fTedc fTepm fTecd fTect : Value} {fFod fFan : Option Addr} {fFsl : Array (Option Value)} {fFoc fFkV fFdc fFpm fFcd fFct : Value} {fOod fOan : Option Addr} {fOsl : Array (Option Value)} {fOoc fOkV fOdc fOpm fOcd fOct : Value} {fGod fGan : Option Addr} {fGsl : Array (Option Value)} {fGoc fGkV fGdc fGpm fGcd fGct : Value} {fAod fAan : Option Addr} {fAsl : Array (Option Value)} {fAoc fAkV fAdc fApm fAcd fAct : Value} {fRPod fRPan : Option Addr} {fRPsl : Array (Option Value)} {fRPoc fRPkV fRPdc fRPpm fRPcd fRPct : Value} {fRTod fRTan : Option Addr} {fRTsl : Array (Option Value)} {fRToc fRTkV fRTdc fRTpm fRTcd fRTct : Value} {fLVod fLVan : Option Addr} {fLVsl : Array (Option Value)} {fLVoc fLVkV fLVdc fLVpm fLVcd fLVct : Value} {fRVod fRVan : Option Addr} {fRVsl : Array (Option Value)} {fRVoc fRVkV fRVdc fRVpm fRVcd fRVct : Value} {fRFod fRFan : Option Addr} {fRFsl : Array (Option Value)} {fRFoc fRFkV fRFdc fRFpm fRFcd fRFct : Value} {fFLod fFLan : Option Addr} {fFLsl : Array (Option Value)} {fFLoc fFLkV fFLdc fFLpm fFLcd fFLct : Value} {fOLod fOLan : Option Addr} {fOLsl : Array (Option Value)} {fOLoc fOLkV fOLdc fOLpm fOLcd fOLct : Value} {fGLod fGLan : Option Addr} {fGLsl : Array (Option Value)} {fGLoc fGLkV fGLdc fGLpm fGLcd fGLct : Value} {fRLod fRLan : Option Addr} {fRLsl : Array (Option Value)} {fRLoc fRLkV fRLdc fRLpm fRLcd fRLct : Value} {fRAod fRAan : Option Addr} {fRAsl : Array (Option Value)} {fRAoc fRAkV fRAdc fRApm fRAcd fRAct : Value} {f_straightod f_straightan : Option Addr} {f_straightsl : Array (Option Value)} {f_straightoc f_straightkV f_straightdc f_straightpm f_straightcd f_straightct : Value} {f_wavyod f_wavyan : Option Addr} {f_wavysl : Array (Option Value)} {f_wavyoc f_wavykV f_wavydc f_wavypm f_wavycd f_wavyct : Value} {f_embattledod f_embattledan : Option Addr} {f_embattledsl : Array (Option Value)} {f_embattledoc f_embattledkV f_embattleddc f_embattledpm f_embattledcd f_embattledct : Value} {f_indentedod f_indentedan : Option Addr} {f_indentedsl : Array (Option Value)} {f_indentedoc f_indentedkV f_indenteddc f_indentedpm f_indentedcd f_indentedct : Value} {f_engrailedod f_engrailedan : Option Addr} {f_engrailedsl : Array (Option Value)} {f_engrailedoc f_engrailedkV f_engraileddc f_engrailedpm f_engrailedcd f_engrailedct : Value} {f_invectedod f_invectedan : Option Addr} {f_invectedsl : Array (Option Value)} {f_invectedoc f_invectedkV f_invecteddc f_invectedpm f_invectedcd f_invectedct : Value} {f_offsetod f_offsetan : Option Addr} {f_offsetsl : Array (Option Value)} {f_offsetoc f_offsetkV f_offsetdc f_offsetpm f_offsetcd f_offsetct : Value} {f_bend_acrossod f_bend_acrossan : Option Addr} {f_bend_acrosssl : Array (Option Value)} {f_bend_acrossoc f_bend_acrosskV f_bend_acrossdc f_bend_acrosspm f_bend_acrosscd f_bend_acrossct : Value} {f_bend_alongod f_bend_alongan : Option Addr} {f_bend_alongsl : Array (Option Value)} {f_bend_alongoc f_bend_alongkV f_bend_alongdc f_bend_alongpm f_bend_alongcd f_bend_alongct : Value} {f_mirroredod f_mirroredan : Option Addr} {f_mirroredsl : Array (Option Value)} {f_mirroredoc f_mirroredkV f_mirroreddc f_mirroredpm f_mirroredcd f_mirroredct : Value} {f_sinister_acrossod f_sinister_acrossan : Option Addr} {f_sinister_acrosssl : Array (Option Value)} {f_sinister_acrossoc f_sinister_acrosskV f_sinister_acrossdc f_sinister_acrosspm f_sinister_acrosscd f_sinister_acrossct : Value} {f_sinister_alongod f_sinister_alongan : Option Addr} {f_sinister_alongsl : Array (Option Value)} {f_sinister_alongoc f_sinister_alongkV f_sinister_alongdc f_sinister_alongpm f_sinister_alongcd f_sinister_alongct : Value} {f_bend_offsetod f_bend_offsetan : Option Addr} {f_bend_offsetsl : Array (Option Value)} {f_bend_offsetoc f_bend_offsetkV f_bend_offsetdc f_bend_offsetpm f_bend_offsetcd f_bend_offsetct : Value} {f_sinister_offsetod f_sinister_offsetan : Option Addr} {f_sinister_offsetsl : Array (Option Value)} {f_sinister_offsetoc f_sinister_offsetkV f_sinister_offsetdc f_sinister_offsetpm f_sinister_offsetcd f_sinister_offsetct : Value} {f_from_middleod f_from_middlean : Option Addr} {f_from_middlesl : Array (Option Value)} {f_from_middleoc f_from_middlekV f_from_middledc f_from_middlepm f_from_middlecd f_from_middlect : Value} {f_per_paleod f_per_palean : Option Addr} {f_per_palesl : Array (Option Value)} {f_per_paleoc f_per_palekV f_per_paledc f_per_palepm f_per_palecd f_per_palect : Value} {f_per_fessod f_per_fessan : Option Addr} {f_per_fesssl : Array (Option Value)} {f_per_fessoc f_per_fesskV f_per_fessdc f_per_fesspm f_per_fesscd f_per_fessct : Value} {f_per_bendod f_per_bendan : Option Addr} {f_per_bendsl : Array (Option Value)} {f_per_bendoc f_per_bendkV f_per_benddc f_per_bendpm f_per_bendcd f_per_bendct : Value} {f_per_bend_sinisterod f_per_bend_sinisteran : Option Addr} {f_per_bend_sinistersl : Array (Option Value)} {f_per_bend_sinisteroc f_per_bend_sinisterkV f_per_bend_sinisterdc f_per_bend_sinisterpm f_per_bend_sinistercd f_per_bend_sinisterct : Value} {f_per_chevronod f_per_chevronan : Option Addr} {f_per_chevronsl : Array (Option Value)} {f_per_chevronoc f_per_chevronkV f_per_chevrondc f_per_chevronpm f_per_chevroncd f_per_chevronct : Value} {f_per_saltireod f_per_saltirean : Option Addr} {f_per_saltiresl : Array (Option Value)} {f_per_saltireoc f_per_saltirekV f_per_saltiredc f_per_saltirepm f_per_saltirecd f_per_saltirect : Value} {f_quarterlyod f_quarterlyan : Option Addr} {f_quarterlysl : Array (Option Value)} {f_quarterlyoc f_quarterlykV f_quarterlydc f_quarterlypm f_quarterlycd f_quarterlyct : Value} {f_gyronnyod f_gyronnyan : Option Addr} {f_gyronnysl : Array (Option Value)} {f_gyronnyoc f_gyronnykV f_gyronnydc f_gyronnypm f_gyronnycd f_gyronnyct : Value} {f_barryod f_barryan : Option Addr} {f_barrysl : Array (Option Value)} {f_barryoc f_barrykV f_barrydc f_barrypm f_barrycd f_barryct : Value} {f_palyod f_palyan : Option Addr} {f_palysl : Array (Option Value)} {f_palyoc f_palykV f_palydc f_palypm f_palycd f_palyct : Value} {f_bendyod f_bendyan : Option Addr} {f_bendysl : Array (Option Value)} {f_bendyoc f_bendykV f_bendydc f_bendypm f_bendycd f_bendyct : Value} {f_bendy_sinisterod f_bendy_sinisteran : Option Addr} {f_bendy_sinistersl : Array (Option Value)} {f_bendy_sinisteroc f_bendy_sinisterkV f_bendy_sinisterdc f_bendy_sinisterpm f_bendy_sinistercd f_bendy_sinisterct : Value} {f_chevronnyod f_chevronnyan : Option Addr} {f_chevronnysl : Array (Option Value)} {f_chevronnyoc f_chevronnykV f_chevronnydc f_chevronnypm f_chevronnycd f_chevronnyct : Value} {f_chequyod f_chequyan : Option Addr} {f_chequysl : Array (Option Value)} {f_chequyoc f_chequykV f_chequydc f_chequypm f_chequycd f_chequyct : Value} {f_lozengyod f_lozengyan : Option Addr} {f_lozengysl : Array (Option Value)} {f_lozengyoc f_lozengykV f_lozengydc f_lozengypm f_lozengycd f_lozengyct : Value} {f_distanceod f_distancean : Option Addr} {f_distancesl : Array (Option Value)} {f_distanceoc f_distancekV f_distancedc f_distancepm f_distancecd f_distancect : Value} {f_roundelod f_roundelan : Option Addr} {f_roundelsl : Array (Option Value)} {f_roundeloc f_roundelkV f_roundeldc f_roundelpm f_roundelcd f_roundelct : Value} {f_annuletod f_annuletan : Option Addr} {f_annuletsl : Array (Option Value)} {f_annuletoc f_annuletkV f_annuletdc f_annuletpm f_annuletcd f_annuletct : Value} {f_lozengeod f_lozengean : Option Addr} {f_lozengesl : Array (Option Value)} {f_lozengeoc f_lozengekV f_lozengedc f_lozengepm f_lozengecd f_lozengect : Value} {f_mascleod f_masclean : Option Addr} {f_masclesl : Array (Option Value)} {f_mascleoc f_masclekV f_mascledc f_masclepm f_masclecd f_masclect : Value} {f_fusilod f_fusilan : Option Addr} {f_fusilsl : Array (Option Value)} {f_fusiloc f_fusilkV f_fusildc f_fusilpm f_fusilcd f_fusilct : Value} {f_billetod f_billetan : Option Addr} {f_billetsl : Array (Option Value)} {f_billetoc f_billetkV f_billetdc f_billetpm f_billetcd f_billetct : Value} {f_mulletod f_mulletan : Option Addr} {f_mulletsl : Array (Option Value)} {f_mulletoc f_mulletkV f_mulletdc f_mulletpm f_mulletcd f_mulletct : Value} {f_crescentod f_crescentan : Option Addr} {f_crescentsl : Array (Option Value)} {f_crescentoc f_crescentkV f_crescentdc f_crescentpm f_crescentcd f_crescentct : Value} {f_increscentod f_increscentan : Option Addr} {f_increscentsl : Array (Option Value)} {f_increscentoc f_increscentkV f_increscentdc f_increscentpm f_increscentcd f_increscentct : Value} {f_cross_chargesod f_cross_chargesan : Option Addr} {f_cross_chargessl : Array (Option Value)} {f_cross_chargesoc f_cross_chargeskV f_cross_chargesdc f_cross_chargespm f_cross_chargescd f_cross_chargesct : Value} {f_saltire_chargesod f_saltire_chargesan : Option Addr} {f_saltire_chargessl : Array (Option Value)} {f_saltire_chargesoc f_saltire_chargeskV f_saltire_chargesdc f_saltire_chargespm f_saltire_chargescd f_saltire_chargesct : Value} {f_escutcheonod f_escutcheonan : Option Addr} {f_escutcheonsl : Array (Option Value)} {f_escutcheonoc f_escutcheonkV f_escutcheondc f_escutcheonpm f_escutcheoncd f_escutcheonct : Value} {f_towerod f_toweran : Option Addr} {f_towersl : Array (Option Value)} {f_toweroc f_towerkV f_towerdc f_towerpm f_towercd f_towerct : Value} {f_swordod f_swordan : Option Addr} {f_swordsl : Array (Option Value)} {f_swordoc f_swordkV f_sworddc f_swordpm f_swordcd f_swordct : Value} {f_wheelod f_wheelan : Option Addr} {f_wheelsl : Array (Option Value)} {f_wheeloc f_wheelkV f_wheeldc f_wheelpm f_wheelcd f_wheelct : Value} {f_arrowod f_arrowan : Option Addr} {f_arrowsl : Array (Option Value)} {f_arrowoc f_arrowkV f_arrowdc f_arrowpm f_arrowcd f_arrowct : Value} {f_part_middleod f_part_middlean : Option Addr} {f_part_middlesl : Array (Option Value)} {f_part_middleoc f_part_middlekV f_part_middledc f_part_middlepm f_part_middlecd f_part_middlect : Value} {f_bend_withinod f_bend_withinan : Option Addr} {f_bend_withinsl : Array (Option Value)} {f_bend_withinoc f_bend_withinkV f_bend_withindc f_bend_withinpm f_bend_withincd f_bend_withinct : Value} {f_sinister_withinod f_sinister_withinan : Option Addr} {f_sinister_withinsl : Array (Option Value)} {f_sinister_withinoc f_sinister_withinkV f_sinister_withindc f_sinister_withinpm f_sinister_withincd f_sinister_withinct : Value} {f_chiefod f_chiefan : Option Addr} {f_chiefsl : Array (Option Value)} {f_chiefoc f_chiefkV f_chiefdc f_chiefpm f_chiefcd f_chiefct : Value} {f_baseod f_basean : Option Addr} {f_basesl : Array (Option Value)} {f_baseoc f_basekV f_basedc f_basepm f_basecd f_basect : Value} {f_paleod f_palean : Option Addr} {f_palesl : Array (Option Value)} {f_paleoc f_palekV f_paledc f_palepm f_palecd f_palect : Value} {f_fessod f_fessan : Option Addr} {f_fesssl : Array (Option Value)} {f_fessoc f_fesskV f_fessdc f_fesspm f_fesscd f_fessct : Value} {f_bendod f_bendan : Option Addr} {f_bendsl : Array (Option Value)} {f_bendoc f_bendkV f_benddc f_bendpm f_bendcd f_bendct : Value} {f_bend_sinisterod f_bend_sinisteran : Option Addr} {f_bend_sinistersl : Array (Option Value)} {f_bend_sinisteroc f_bend_sinisterkV f_bend_sinisterdc f_bend_sinisterpm f_bend_sinistercd f_bend_sinisterct : Value} {f_chevronod f_chevronan : Option Addr} {f_chevronsl : Array (Option Value)} {f_chevronoc f_chevronkV f_chevrondc f_chevronpm f_chevroncd f_chevronct : Value} {f_cross_ordinariesod f_cross_ordinariesan : Option Addr} {f_cross_ordinariessl : Array (Option Value)} {f_cross_ordinariesoc f_cross_ordinarieskV f_cross_ordinariesdc f_cross_ordinariespm f_cross_ordinariescd f_cross_ordinariesct : Value} {f_saltire_ordinariesod f_saltire_ordinariesan : Option Addr} {f_saltire_ordinariessl : Array (Option Value)} {f_saltire_ordinariesoc f_saltire_ordinarieskV f_saltire_ordinariesdc f_saltire_ordinariespm f_saltire_ordinariescd f_saltire_ordinariesct : Value} {f_pileod f_pilean : Option Addr} {f_pilesl : Array (Option Value)} {f_pileoc f_pilekV f_piledc f_pilepm f_pilecd f_pilect : Value} {f_bordureod f_bordurean : Option Addr} {f_borduresl : Array (Option Value)} {f_bordureoc f_bordurekV f_borduredc f_bordurepm f_bordurecd f_bordurect : Value} {f_cantonod f_cantonan : Option Addr} {f_cantonsl : Array (Option Value)} {f_cantonoc f_cantonkV f_cantondc f_cantonpm f_cantoncd f_cantonct : Value} {f_quarterod f_quarteran : Option Addr} {f_quartersl : Array (Option Value)} {f_quarteroc f_quarterkV f_quarterdc f_quarterpm f_quartercd f_quarterct : Value} {f_has_firstod f_has_firstan : Option Addr} {f_has_firstsl : Array (Option Value)} {f_has_firstoc f_has_firstkV f_has_firstdc f_has_firstpm f_has_firstcd f_has_firstct : Value} {f_field_tinctureod f_field_tincturean : Option Addr} {f_field_tincturesl : Array (Option Value)} {f_field_tinctureoc f_field_tincturekV f_field_tincturedc f_field_tincturepm f_field_tincturecd f_field_tincturect : Value} {f_counterchanged_tinctureod f_counterchanged_tincturean : Option Addr} {f_counterchanged_tincturesl : Array (Option Value)} {f_counterchanged_tinctureoc f_counterchanged_tincturekV f_counterchanged_tincturedc f_counterchanged_tincturepm f_counterchanged_tincturecd f_counterchanged_tincturect : Value} {f_charge_hasod f_charge_hasan : Option Addr} {f_charge_hassl : Array (Option Value)} {f_charge_hasoc f_charge_haskV f_charge_hasdc f_charge_haspm f_charge_hascd f_charge_hasct : Value} {f_middles_in_rowsod f_middles_in_rowsan : Option Addr} {f_middles_in_rowssl : Array (Option Value)} {f_middles_in_rowsoc f_middles_in_rowskV f_middles_in_rowsdc f_middles_in_rowspm f_middles_in_rowscd f_middles_in_rowsct : Value} {f_middleod f_middlean : Option Addr} {f_middlesl : Array (Option Value)} {f_middleoc f_middlekV f_middledc f_middlepm f_middlecd f_middlect : Value} {f_group_middlesod f_group_middlesan : Option Addr} {f_group_middlessl : Array (Option Value)} {f_group_middlesoc f_group_middleskV f_group_middlesdc f_group_middlespm f_group_middlescd f_group_middlesct : Value} {f_half_before_sizeod f_half_before_sizean : Option Addr} {f_half_before_sizesl : Array (Option Value)} {f_half_before_sizeoc f_half_before_sizekV f_half_before_sizedc f_half_before_sizepm f_half_before_sizecd f_half_before_sizect : Value} {f_half_sideod f_half_sidean : Option Addr} {f_half_sidesl : Array (Option Value)} {f_half_sideoc f_half_sidekV f_half_sidedc f_half_sidepm f_half_sidecd f_half_sidect : Value} {f_charges_haveod f_charges_havean : Option Addr} {f_charges_havesl : Array (Option Value)} {f_charges_haveoc f_charges_havekV f_charges_havedc f_charges_havepm f_charges_havecd f_charges_havect : Value} {f_group_has_pointsod f_group_has_pointsan : Option Addr} {f_group_has_pointssl : Array (Option Value)} {f_group_has_pointsoc f_group_has_pointskV f_group_has_pointsdc f_group_has_pointspm f_group_has_pointscd f_group_has_pointsct : Value} {f_ordinary_hasod f_ordinary_hasan : Option Addr} {f_ordinary_hassl : Array (Option Value)} {f_ordinary_hasoc f_ordinary_haskV f_ordinary_hasdc f_ordinary_haspm f_ordinary_hascd f_ordinary_hasct : Value} {f_layer_has_pointsod f_layer_has_pointsan : Option Addr} {f_layer_has_pointssl : Array (Option Value)} {f_layer_has_pointsoc f_layer_has_pointskV f_layer_has_pointsdc f_layer_has_pointspm f_layer_has_pointscd f_layer_has_pointsct : Value} {f_layer_tinctureod f_layer_tincturean : Option Addr} {f_layer_tincturesl : Array (Option Value)} {f_layer_tinctureoc f_layer_tincturekV f_layer_tincturedc f_layer_tincturepm f_layer_tincturecd f_layer_tincturect : Value} {f_drawn_pointsod f_drawn_pointsan : Option Addr} {f_drawn_pointssl : Array (Option Value)} {f_drawn_pointsoc f_drawn_pointskV f_drawn_pointsdc f_drawn_pointspm f_drawn_pointscd f_drawn_pointsct : Value} {f_field_drawingod f_field_drawingan : Option Addr} {f_field_drawingsl : Array (Option Value)} {f_field_drawingoc f_field_drawingkV f_field_drawingdc f_field_drawingpm f_field_drawingcd f_field_drawingct : Value} {f_cover_atod f_cover_atan : Option Addr} {f_cover_atsl : Array (Option Value)} {f_cover_atoc f_cover_atkV f_cover_atdc f_cover_atpm f_cover_atcd f_cover_atct : Value} {f_layer_coverod f_layer_coveran : Option Addr} {f_layer_coversl : Array (Option Value)} {f_layer_coveroc f_layer_coverkV f_layer_coverdc f_layer_coverpm f_layer_covercd f_layer_coverct : Value} {f_laid_overod f_laid_overan : Option Addr} {f_laid_oversl : Array (Option Value)} {f_laid_overoc f_laid_overkV f_laid_overdc f_laid_overpm f_laid_overcd f_laid_overct : Value} {f_arms_drawingod f_arms_drawingan : Option Addr} {f_arms_drawingsl : Array (Option Value)} {f_arms_drawingoc f_arms_drawingkV f_arms_drawingdc f_arms_drawingpm f_arms_drawingcd f_arms_drawingct : Value} {f_row_bytesod f_row_bytesan : Option Addr} {f_row_bytessl : Array (Option Value)} {f_row_bytesoc f_row_byteskV f_row_bytesdc f_row_bytespm f_row_bytescd f_row_bytesct : Value} {f_drawing_bytesod f_drawing_bytesan : Option Addr} {f_drawing_bytessl : Array (Option Value)} {f_drawing_bytesoc f_drawing_byteskV f_drawing_bytesdc f_drawing_bytespm f_drawing_bytescd f_drawing_bytesct : Value} {f_with_lengthod f_with_lengthan : Option Addr} {f_with_lengthsl : Array (Option Value)} {f_with_lengthoc f_with_lengthkV f_with_lengthdc f_with_lengthpm f_with_lengthcd f_with_lengthct : Value} {f_drawod f_drawan : Option Addr} {f_drawsl : Array (Option Value)} {f_drawoc f_drawkV f_drawdc f_drawpm f_drawcd f_drawct : Value} {t9t : Tok} {ck1t : Tok} {ck2t : Tok} {ck3t : Tok} {ck4t : Tok} {ck5t : Tok} {ck6t : Tok} {ck7t : Tok} {ck8t : Tok} {ck9t : Tok} {ck10t : Tok} {ck11t : Tok} {ck12t : Tok} {ck13t : Tok} {ck14t : Tok} {ck15t : Tok} {ck16t : Tok} {ck17t : Tok} {ck18t : Tok} {ck19t : Tok} {ck20t : Tok} {c_WIDTHt : Tok} {c_HEIGHTt : Tok} {c_REACHt : Tok} {c_IN_ROWSt : Tok} {c_IN_FESSt : Tok} {c_IN_PALEt : Tok} {c_IN_BENDt : Tok} {c_IN_BEND_SINISTERt : Tok} {c_IN_CHIEFt : Tok} {c_IN_BASEt : Tok} {c_NOT_WELL_MADEt : Tok} {c_STEPt : Tok} {c_MARGINt : Tok} {c_ROWS_drawingst : Tok} {c_COLUMNSt : Tok} {aLNod : Option Addr} {aLNn : Nat} {aLNsl : Array (Option Value)} {aPWod : Option Addr} {aPWn : Nat} {aPWsl : Array (Option Value)} {aVWod : Option Addr} {aVWn : Nat} {aVWsl : Array (Option Value)} {aBCod : Option Addr} {aBCn : Nat} {aBCsl : Array (Option Value)} {aBOod : Option Addr} {aBOn : Nat} {aBOsl : Array (Option Value)} {aRTod : Option Addr} {aRTn : Nat} {aRTsl : Array (Option Value)} {aAHod : Option Addr} {aAH0 aAH1 aAH2 aAH3 : Tok} {aAHn : Nat} {aAHsl : Array (Option Value)}
    (aCE : PySem.W.nsIn K mainGlobals "WrongByte" = some (some (.ref CE)))
    (lCE : K.lookup CE = some (excClassObj CEnm CEqn CE NE CEbs Xc.bmV true CEsn CEsub CEab CEcol CEdd CEk0 CEk1 CEk2 CEk3 CEk5 "ValueError.__new__"))
    (lNE : K.lookup NE = some ⟨NEoc, NEod, .dict NEes NEen, NEsl⟩)
    (oNE : (NEes.toList.all fun e => match e.key with | .str _ _ => true | _ => false) = true)
    (iNE : PySem.W.nsIn K NE "__init__" = some (some (.ref fE)))
    (n0NE : PySem.W.nsIn K NE "__setattr__" = some none)
    (n1NE : PySem.W.nsIn K NE "__getattribute__" = some none)
    (n2NE : PySem.W.nsIn K NE "__getattr__" = some none)
    (n3NE : PySem.W.nsIn K NE "place" = some none)
    (pCE : PySem.W.keepIn K (.ref CE) = true)
    (aCR : PySem.W.nsIn K mainGlobals "ByteReader" = some (some (.ref CR)))
    (pgCR : PySem.W.plainGet K CR Str.empty = true)
    (hdCR : PySem.W.hasDictIn K CR = true)
    (poCR : PySem.W.plainOver K CR = true)
    (saCR : PySem.W.findIn K (.ref CR) "__setattr__" = some (some (.builtin "object.__setattr__")))
    (mkCR : PySem.W.makesIn K CR = true)
    (kcCR : PySem.W.keepIn K (.ref CR) = true)
    (noCR_data : PySem.W.findIn K (.ref CR) "data" = some none)
    (noCR_place : PySem.W.findIn K (.ref CR) "place" = some none)
    (aCF : PySem.W.nsIn K mainGlobals "Field" = some (some (.ref CF)))
    (pgCF : PySem.W.plainGet K CF Str.empty = true)
    (hdCF : PySem.W.hasDictIn K CF = true)
    (poCF : PySem.W.plainOver K CF = true)
    (saCF : PySem.W.findIn K (.ref CF) "__setattr__" = some (some (.builtin "object.__setattr__")))
    (mkCF : PySem.W.makesIn K CF = true)
    (kcCF : PySem.W.keepIn K (.ref CF) = true)
    (noCF_kind : PySem.W.findIn K (.ref CF) "kind" = some none)
    (noCF_way : PySem.W.findIn K (.ref CF) "way" = some none)
    (noCF_pieces : PySem.W.findIn K (.ref CF) "pieces" = some none)
    (noCF_line : PySem.W.findIn K (.ref CF) "line" = some none)
    (noCF_first : PySem.W.findIn K (.ref CF) "first" = some none)
    (noCF_second : PySem.W.findIn K (.ref CF) "second" = some none)
    (aCO : PySem.W.nsIn K mainGlobals "OrdinaryLayer" = some (some (.ref CO)))
    (pgCO : PySem.W.plainGet K CO Str.empty = true)
    (hdCO : PySem.W.hasDictIn K CO = true)
    (poCO : PySem.W.plainOver K CO = true)
    (saCO : PySem.W.findIn K (.ref CO) "__setattr__" = some (some (.builtin "object.__setattr__")))
    (mkCO : PySem.W.makesIn K CO = true)
    (kcCO : PySem.W.keepIn K (.ref CO) = true)
    (noCO_ordinary : PySem.W.findIn K (.ref CO) "ordinary" = some none)
    (noCO_line : PySem.W.findIn K (.ref CO) "line" = some none)
    (noCO_fill : PySem.W.findIn K (.ref CO) "fill" = some none)
    (aCG : PySem.W.nsIn K mainGlobals "GroupLayer" = some (some (.ref CG)))
    (pgCG : PySem.W.plainGet K CG Str.empty = true)
    (hdCG : PySem.W.hasDictIn K CG = true)
    (poCG : PySem.W.plainOver K CG = true)
    (saCG : PySem.W.findIn K (.ref CG) "__setattr__" = some (some (.builtin "object.__setattr__")))
    (mkCG : PySem.W.makesIn K CG = true)
    (kcCG : PySem.W.keepIn K (.ref CG) = true)
    (noCG_charge : PySem.W.findIn K (.ref CG) "charge" = some none)
    (noCG_how_many : PySem.W.findIn K (.ref CG) "how_many" = some none)
    (noCG_manner : PySem.W.findIn K (.ref CG) "manner" = some none)
    (noCG_size : PySem.W.findIn K (.ref CG) "size" = some none)
    (noCG_fill : PySem.W.findIn K (.ref CG) "fill" = some none)
    (aCA : PySem.W.nsIn K mainGlobals "Arms" = some (some (.ref CA)))
    (pgCA : PySem.W.plainGet K CA Str.empty = true)
    (hdCA : PySem.W.hasDictIn K CA = true)
    (poCA : PySem.W.plainOver K CA = true)
    (saCA : PySem.W.findIn K (.ref CA) "__setattr__" = some (some (.builtin "object.__setattr__")))
    (mkCA : PySem.W.makesIn K CA = true)
    (kcCA : PySem.W.keepIn K (.ref CA) = true)
    (noCA_field : PySem.W.findIn K (.ref CA) "field" = some none)
    (noCA_layers : PySem.W.findIn K (.ref CA) "layers" = some none)
    (ifE : PySem.W.isFn K (.ref fE) = true)
    (lfE : K.lookup fE = some ⟨fEoc, fEod, .func (PySem.W.fnOf "__init__" "WrongByte.__init__" (defArgs sXI) (defBody sXI) (defScope sXI) .none fEkV fEdc fEpm fEan fEcd fEct), fEsl⟩)
    (cfE : PySem.W.codeIn K fEcd "WrongByte.__init__" = true)
    (kfE : PySem.W.keepIn K (.ref fE) = true)
    (afR : PySem.W.findIn K (.ref CR) "__init__" = some (some (.ref fR)))
    (ifR : PySem.W.isFn K (.ref fR) = true)
    (lfR : K.lookup fR = some ⟨fRoc, fRod, .func (PySem.W.fnOf "__init__" "ByteReader.__init__" (defArgs sRI) (defBody sRI) (defScope sRI) .none fRkV fRdc fRpm fRan fRcd fRct), fRsl⟩)
    (cfR : PySem.W.codeIn K fRcd "ByteReader.__init__" = true)
    (kfR : PySem.W.keepIn K (.ref fR) = true)
    (afTk : PySem.W.findIn K (.ref CR) "take" = some (some (.ref fTk)))
    (ifTk : PySem.W.isFn K (.ref fTk) = true)
    (lfTk : K.lookup fTk = some ⟨fTkoc, fTkod, .func (PySem.W.fnOf "take" "ByteReader.take" (defArgs sTk) (defBody sTk) (defScope sTk) .none fTkkV fTkdc fTkpm fTkan fTkcd fTkct), fTksl⟩)
    (cfTk : PySem.W.codeIn K fTkcd "ByteReader.take" = true)
    (kfTk : PySem.W.keepIn K (.ref fTk) = true)
    (afTr : PySem.W.findIn K (.ref CR) "take_row" = some (some (.ref fTr)))
    (ifTr : PySem.W.isFn K (.ref fTr) = true)
    (lfTr : K.lookup fTr = some ⟨fTroc, fTrod, .func (PySem.W.fnOf "take_row" "ByteReader.take_row" (defArgs sTr) (defBody sTr) (defScope sTr) .none fTrkV fTrdc fTrpm fTran fTrcd fTrct), fTrsl⟩)
    (cfTr : PySem.W.codeIn K fTrcd "ByteReader.take_row" = true)
    (kfTr : PySem.W.keepIn K (.ref fTr) = true)
    (afTo : PySem.W.findIn K (.ref CR) "take_other_tincture" = some (some (.ref fTo)))
    (ifTo : PySem.W.isFn K (.ref fTo) = true)
    (lfTo : K.lookup fTo = some ⟨fTooc, fTood, .func (PySem.W.fnOf "take_other_tincture" "ByteReader.take_other_tincture" (defArgs sTo) (defBody sTo) (defScope sTo) .none fTokV fTodc fTopm fToan fTocd fToct), fTosl⟩)
    (cfTo : PySem.W.codeIn K fTocd "ByteReader.take_other_tincture" = true)
    (kfTo : PySem.W.keepIn K (.ref fTo) = true)
    (afTe : PySem.W.findIn K (.ref CR) "take_end" = some (some (.ref fTe)))
    (ifTe : PySem.W.isFn K (.ref fTe) = true)
    (lfTe : K.lookup fTe = some ⟨fTeoc, fTeod, .func (PySem.W.fnOf "take_end" "ByteReader.take_end" (defArgs sTe) (defBody sTe) (defScope sTe) .none fTekV fTedc fTepm fTean fTecd fTect), fTesl⟩)
    (cfTe : PySem.W.codeIn K fTecd "ByteReader.take_end" = true)
    (kfTe : PySem.W.keepIn K (.ref fTe) = true)
    (afF : PySem.W.findIn K (.ref CF) "__init__" = some (some (.ref fF)))
    (ifF : PySem.W.isFn K (.ref fF) = true)
    (lfF : K.lookup fF = some ⟨fFoc, fFod, .func (PySem.W.fnOf "__init__" "Field.__init__" (defArgs sFI) (defBody sFI) (defScope sFI) .none fFkV fFdc fFpm fFan fFcd fFct), fFsl⟩)
    (cfF : PySem.W.codeIn K fFcd "Field.__init__" = true)
    (kfF : PySem.W.keepIn K (.ref fF) = true)
    (afO : PySem.W.findIn K (.ref CO) "__init__" = some (some (.ref fO)))
    (ifO : PySem.W.isFn K (.ref fO) = true)
    (lfO : K.lookup fO = some ⟨fOoc, fOod, .func (PySem.W.fnOf "__init__" "OrdinaryLayer.__init__" (defArgs sOI) (defBody sOI) (defScope sOI) .none fOkV fOdc fOpm fOan fOcd fOct), fOsl⟩)
    (cfO : PySem.W.codeIn K fOcd "OrdinaryLayer.__init__" = true)
    (kfO : PySem.W.keepIn K (.ref fO) = true)
    (afG : PySem.W.findIn K (.ref CG) "__init__" = some (some (.ref fG)))
    (ifG : PySem.W.isFn K (.ref fG) = true)
    (lfG : K.lookup fG = some ⟨fGoc, fGod, .func (PySem.W.fnOf "__init__" "GroupLayer.__init__" (defArgs sGI) (defBody sGI) (defScope sGI) .none fGkV fGdc fGpm fGan fGcd fGct), fGsl⟩)
    (cfG : PySem.W.codeIn K fGcd "GroupLayer.__init__" = true)
    (kfG : PySem.W.keepIn K (.ref fG) = true)
    (afA : PySem.W.findIn K (.ref CA) "__init__" = some (some (.ref fA)))
    (ifA : PySem.W.isFn K (.ref fA) = true)
    (lfA : K.lookup fA = some ⟨fAoc, fAod, .func (PySem.W.fnOf "__init__" "Arms.__init__" (defArgs sAI) (defBody sAI) (defScope sAI) .none fAkV fAdc fApm fAan fAcd fAct), fAsl⟩)
    (cfA : PySem.W.codeIn K fAcd "Arms.__init__" = true)
    (kfA : PySem.W.keepIn K (.ref fA) = true)
    (afRP : PySem.W.nsIn K mainGlobals "read_plain" = some (some (.ref fRP)))
    (ifRP : PySem.W.isFn K (.ref fRP) = true)
    (lfRP : K.lookup fRP = some ⟨fRPoc, fRPod, .func (PySem.W.fnOf "read_plain" "read_plain" (defArgs sRP) (defBody sRP) (defScope sRP) .none fRPkV fRPdc fRPpm fRPan fRPcd fRPct), fRPsl⟩)
    (cfRP : PySem.W.codeIn K fRPcd "read_plain" = true)
    (kfRP : PySem.W.keepIn K (.ref fRP) = true)
    (afRT : PySem.W.nsIn K mainGlobals "read_parted" = some (some (.ref fRT)))
    (ifRT : PySem.W.isFn K (.ref fRT) = true)
    (lfRT : K.lookup fRT = some ⟨fRToc, fRTod, .func (PySem.W.fnOf "read_parted" "read_parted" (defArgs sRT) (defBody sRT) (defScope sRT) .none fRTkV fRTdc fRTpm fRTan fRTcd fRTct), fRTsl⟩)
    (cfRT : PySem.W.codeIn K fRTcd "read_parted" = true)
    (kfRT : PySem.W.keepIn K (.ref fRT) = true)
    (afLV : PySem.W.nsIn K mainGlobals "lines_of_varied" = some (some (.ref fLV)))
    (ifLV : PySem.W.isFn K (.ref fLV) = true)
    (lfLV : K.lookup fLV = some ⟨fLVoc, fLVod, .func (PySem.W.fnOf "lines_of_varied" "lines_of_varied" (defArgs sLV) (defBody sLV) (defScope sLV) .none fLVkV fLVdc fLVpm fLVan fLVcd fLVct), fLVsl⟩)
    (cfLV : PySem.W.codeIn K fLVcd "lines_of_varied" = true)
    (kfLV : PySem.W.keepIn K (.ref fLV) = true)
    (afRV : PySem.W.nsIn K mainGlobals "read_varied" = some (some (.ref fRV)))
    (ifRV : PySem.W.isFn K (.ref fRV) = true)
    (lfRV : K.lookup fRV = some ⟨fRVoc, fRVod, .func (PySem.W.fnOf "read_varied" "read_varied" (defArgs sRV) (defBody sRV) (defScope sRV) .none fRVkV fRVdc fRVpm fRVan fRVcd fRVct), fRVsl⟩)
    (cfRV : PySem.W.codeIn K fRVcd "read_varied" = true)
    (kfRV : PySem.W.keepIn K (.ref fRV) = true)
    (afRF : PySem.W.nsIn K mainGlobals "read_field" = some (some (.ref fRF)))
    (ifRF : PySem.W.isFn K (.ref fRF) = true)
    (lfRF : K.lookup fRF = some ⟨fRFoc, fRFod, .func (PySem.W.fnOf "read_field" "read_field" (defArgs sRF) (defBody sRF) (defScope sRF) .none fRFkV fRFdc fRFpm fRFan fRFcd fRFct), fRFsl⟩)
    (cfRF : PySem.W.codeIn K fRFcd "read_field" = true)
    (kfRF : PySem.W.keepIn K (.ref fRF) = true)
    (afFL : PySem.W.nsIn K mainGlobals "read_fill" = some (some (.ref fFL)))
    (ifFL : PySem.W.isFn K (.ref fFL) = true)
    (lfFL : K.lookup fFL = some ⟨fFLoc, fFLod, .func (PySem.W.fnOf "read_fill" "read_fill" (defArgs sFL) (defBody sFL) (defScope sFL) .none fFLkV fFLdc fFLpm fFLan fFLcd fFLct), fFLsl⟩)
    (cfFL : PySem.W.codeIn K fFLcd "read_fill" = true)
    (kfFL : PySem.W.keepIn K (.ref fFL) = true)
    (afOL : PySem.W.nsIn K mainGlobals "read_ordinary_layer" = some (some (.ref fOL)))
    (ifOL : PySem.W.isFn K (.ref fOL) = true)
    (lfOL : K.lookup fOL = some ⟨fOLoc, fOLod, .func (PySem.W.fnOf "read_ordinary_layer" "read_ordinary_layer" (defArgs sOL) (defBody sOL) (defScope sOL) .none fOLkV fOLdc fOLpm fOLan fOLcd fOLct), fOLsl⟩)
    (cfOL : PySem.W.codeIn K fOLcd "read_ordinary_layer" = true)
    (kfOL : PySem.W.keepIn K (.ref fOL) = true)
    (afGL : PySem.W.nsIn K mainGlobals "read_group_layer" = some (some (.ref fGL)))
    (ifGL : PySem.W.isFn K (.ref fGL) = true)
    (lfGL : K.lookup fGL = some ⟨fGLoc, fGLod, .func (PySem.W.fnOf "read_group_layer" "read_group_layer" (defArgs sGL) (defBody sGL) (defScope sGL) .none fGLkV fGLdc fGLpm fGLan fGLcd fGLct), fGLsl⟩)
    (cfGL : PySem.W.codeIn K fGLcd "read_group_layer" = true)
    (kfGL : PySem.W.keepIn K (.ref fGL) = true)
    (afRL : PySem.W.nsIn K mainGlobals "read_layer" = some (some (.ref fRL)))
    (ifRL : PySem.W.isFn K (.ref fRL) = true)
    (lfRL : K.lookup fRL = some ⟨fRLoc, fRLod, .func (PySem.W.fnOf "read_layer" "read_layer" (defArgs sRL) (defBody sRL) (defScope sRL) .none fRLkV fRLdc fRLpm fRLan fRLcd fRLct), fRLsl⟩)
    (cfRL : PySem.W.codeIn K fRLcd "read_layer" = true)
    (kfRL : PySem.W.keepIn K (.ref fRL) = true)
    (afRA : PySem.W.nsIn K mainGlobals "read_arms" = some (some (.ref fRA)))
    (ifRA : PySem.W.isFn K (.ref fRA) = true)
    (lfRA : K.lookup fRA = some ⟨fRAoc, fRAod, .func (PySem.W.fnOf "read_arms" "read_arms" (defArgs sRA) (defBody sRA) (defScope sRA) .none fRAkV fRAdc fRApm fRAan fRAcd fRAct), fRAsl⟩)
    (cfRA : PySem.W.codeIn K fRAcd "read_arms" = true)
    (kfRA : PySem.W.keepIn K (.ref fRA) = true)
    (af_straight : PySem.W.nsIn K mainGlobals "straight" = some (some (.ref f_straight)))
    (lf_straight : K.lookup f_straight = some ⟨f_straightoc, f_straightod, .func (PySem.W.fnOf "straight" "straight" (defArgs s_straight) (defBody s_straight) (defScope s_straight) .none f_straightkV f_straightdc f_straightpm f_straightan f_straightcd f_straightct), f_straightsl⟩)
    (cf_straight : PySem.W.codeIn K f_straightcd "straight" = true)
    (kf_straight : PySem.W.keepIn K (.ref f_straight) = true)
    (af_wavy : PySem.W.nsIn K mainGlobals "wavy" = some (some (.ref f_wavy)))
    (lf_wavy : K.lookup f_wavy = some ⟨f_wavyoc, f_wavyod, .func (PySem.W.fnOf "wavy" "wavy" (defArgs s_wavy) (defBody s_wavy) (defScope s_wavy) .none f_wavykV f_wavydc f_wavypm f_wavyan f_wavycd f_wavyct), f_wavysl⟩)
    (cf_wavy : PySem.W.codeIn K f_wavycd "wavy" = true)
    (kf_wavy : PySem.W.keepIn K (.ref f_wavy) = true)
    (af_embattled : PySem.W.nsIn K mainGlobals "embattled" = some (some (.ref f_embattled)))
    (lf_embattled : K.lookup f_embattled = some ⟨f_embattledoc, f_embattledod, .func (PySem.W.fnOf "embattled" "embattled" (defArgs s_embattled) (defBody s_embattled) (defScope s_embattled) .none f_embattledkV f_embattleddc f_embattledpm f_embattledan f_embattledcd f_embattledct), f_embattledsl⟩)
    (cf_embattled : PySem.W.codeIn K f_embattledcd "embattled" = true)
    (kf_embattled : PySem.W.keepIn K (.ref f_embattled) = true)
    (af_indented : PySem.W.nsIn K mainGlobals "indented" = some (some (.ref f_indented)))
    (lf_indented : K.lookup f_indented = some ⟨f_indentedoc, f_indentedod, .func (PySem.W.fnOf "indented" "indented" (defArgs s_indented) (defBody s_indented) (defScope s_indented) .none f_indentedkV f_indenteddc f_indentedpm f_indentedan f_indentedcd f_indentedct), f_indentedsl⟩)
    (cf_indented : PySem.W.codeIn K f_indentedcd "indented" = true)
    (kf_indented : PySem.W.keepIn K (.ref f_indented) = true)
    (af_engrailed : PySem.W.nsIn K mainGlobals "engrailed" = some (some (.ref f_engrailed)))
    (lf_engrailed : K.lookup f_engrailed = some ⟨f_engrailedoc, f_engrailedod, .func (PySem.W.fnOf "engrailed" "engrailed" (defArgs s_engrailed) (defBody s_engrailed) (defScope s_engrailed) .none f_engrailedkV f_engraileddc f_engrailedpm f_engrailedan f_engrailedcd f_engrailedct), f_engrailedsl⟩)
    (cf_engrailed : PySem.W.codeIn K f_engrailedcd "engrailed" = true)
    (kf_engrailed : PySem.W.keepIn K (.ref f_engrailed) = true)
    (af_invected : PySem.W.nsIn K mainGlobals "invected" = some (some (.ref f_invected)))
    (lf_invected : K.lookup f_invected = some ⟨f_invectedoc, f_invectedod, .func (PySem.W.fnOf "invected" "invected" (defArgs s_invected) (defBody s_invected) (defScope s_invected) .none f_invectedkV f_invecteddc f_invectedpm f_invectedan f_invectedcd f_invectedct), f_invectedsl⟩)
    (cf_invected : PySem.W.codeIn K f_invectedcd "invected" = true)
    (kf_invected : PySem.W.keepIn K (.ref f_invected) = true)
    (af_offset : PySem.W.nsIn K mainGlobals "offset" = some (some (.ref f_offset)))
    (lf_offset : K.lookup f_offset = some ⟨f_offsetoc, f_offsetod, .func (PySem.W.fnOf "offset" "offset" (defArgs s_offset) (defBody s_offset) (defScope s_offset) .none f_offsetkV f_offsetdc f_offsetpm f_offsetan f_offsetcd f_offsetct), f_offsetsl⟩)
    (cf_offset : PySem.W.codeIn K f_offsetcd "offset" = true)
    (kf_offset : PySem.W.keepIn K (.ref f_offset) = true)
    (af_bend_across : PySem.W.nsIn K mainGlobals "bend_across" = some (some (.ref f_bend_across)))
    (lf_bend_across : K.lookup f_bend_across = some ⟨f_bend_acrossoc, f_bend_acrossod, .func (PySem.W.fnOf "bend_across" "bend_across" (defArgs s_bend_across) (defBody s_bend_across) (defScope s_bend_across) .none f_bend_acrosskV f_bend_acrossdc f_bend_acrosspm f_bend_acrossan f_bend_acrosscd f_bend_acrossct), f_bend_acrosssl⟩)
    (cf_bend_across : PySem.W.codeIn K f_bend_acrosscd "bend_across" = true)
    (kf_bend_across : PySem.W.keepIn K (.ref f_bend_across) = true)
    (af_bend_along : PySem.W.nsIn K mainGlobals "bend_along" = some (some (.ref f_bend_along)))
    (lf_bend_along : K.lookup f_bend_along = some ⟨f_bend_alongoc, f_bend_alongod, .func (PySem.W.fnOf "bend_along" "bend_along" (defArgs s_bend_along) (defBody s_bend_along) (defScope s_bend_along) .none f_bend_alongkV f_bend_alongdc f_bend_alongpm f_bend_alongan f_bend_alongcd f_bend_alongct), f_bend_alongsl⟩)
    (cf_bend_along : PySem.W.codeIn K f_bend_alongcd "bend_along" = true)
    (kf_bend_along : PySem.W.keepIn K (.ref f_bend_along) = true)
    (af_mirrored : PySem.W.nsIn K mainGlobals "mirrored" = some (some (.ref f_mirrored)))
    (lf_mirrored : K.lookup f_mirrored = some ⟨f_mirroredoc, f_mirroredod, .func (PySem.W.fnOf "mirrored" "mirrored" (defArgs s_mirrored) (defBody s_mirrored) (defScope s_mirrored) .none f_mirroredkV f_mirroreddc f_mirroredpm f_mirroredan f_mirroredcd f_mirroredct), f_mirroredsl⟩)
    (cf_mirrored : PySem.W.codeIn K f_mirroredcd "mirrored" = true)
    (kf_mirrored : PySem.W.keepIn K (.ref f_mirrored) = true)
    (af_sinister_across : PySem.W.nsIn K mainGlobals "sinister_across" = some (some (.ref f_sinister_across)))
    (lf_sinister_across : K.lookup f_sinister_across = some ⟨f_sinister_acrossoc, f_sinister_acrossod, .func (PySem.W.fnOf "sinister_across" "sinister_across" (defArgs s_sinister_across) (defBody s_sinister_across) (defScope s_sinister_across) .none f_sinister_acrosskV f_sinister_acrossdc f_sinister_acrosspm f_sinister_acrossan f_sinister_acrosscd f_sinister_acrossct), f_sinister_acrosssl⟩)
    (cf_sinister_across : PySem.W.codeIn K f_sinister_acrosscd "sinister_across" = true)
    (kf_sinister_across : PySem.W.keepIn K (.ref f_sinister_across) = true)
    (af_sinister_along : PySem.W.nsIn K mainGlobals "sinister_along" = some (some (.ref f_sinister_along)))
    (lf_sinister_along : K.lookup f_sinister_along = some ⟨f_sinister_alongoc, f_sinister_alongod, .func (PySem.W.fnOf "sinister_along" "sinister_along" (defArgs s_sinister_along) (defBody s_sinister_along) (defScope s_sinister_along) .none f_sinister_alongkV f_sinister_alongdc f_sinister_alongpm f_sinister_alongan f_sinister_alongcd f_sinister_alongct), f_sinister_alongsl⟩)
    (cf_sinister_along : PySem.W.codeIn K f_sinister_alongcd "sinister_along" = true)
    (kf_sinister_along : PySem.W.keepIn K (.ref f_sinister_along) = true)
    (af_bend_offset : PySem.W.nsIn K mainGlobals "bend_offset" = some (some (.ref f_bend_offset)))
    (lf_bend_offset : K.lookup f_bend_offset = some ⟨f_bend_offsetoc, f_bend_offsetod, .func (PySem.W.fnOf "bend_offset" "bend_offset" (defArgs s_bend_offset) (defBody s_bend_offset) (defScope s_bend_offset) .none f_bend_offsetkV f_bend_offsetdc f_bend_offsetpm f_bend_offsetan f_bend_offsetcd f_bend_offsetct), f_bend_offsetsl⟩)
    (cf_bend_offset : PySem.W.codeIn K f_bend_offsetcd "bend_offset" = true)
    (kf_bend_offset : PySem.W.keepIn K (.ref f_bend_offset) = true)
    (af_sinister_offset : PySem.W.nsIn K mainGlobals "sinister_offset" = some (some (.ref f_sinister_offset)))
    (lf_sinister_offset : K.lookup f_sinister_offset = some ⟨f_sinister_offsetoc, f_sinister_offsetod, .func (PySem.W.fnOf "sinister_offset" "sinister_offset" (defArgs s_sinister_offset) (defBody s_sinister_offset) (defScope s_sinister_offset) .none f_sinister_offsetkV f_sinister_offsetdc f_sinister_offsetpm f_sinister_offsetan f_sinister_offsetcd f_sinister_offsetct), f_sinister_offsetsl⟩)
    (cf_sinister_offset : PySem.W.codeIn K f_sinister_offsetcd "sinister_offset" = true)
    (kf_sinister_offset : PySem.W.keepIn K (.ref f_sinister_offset) = true)
    (af_from_middle : PySem.W.nsIn K mainGlobals "from_middle" = some (some (.ref f_from_middle)))
    (lf_from_middle : K.lookup f_from_middle = some ⟨f_from_middleoc, f_from_middleod, .func (PySem.W.fnOf "from_middle" "from_middle" (defArgs s_from_middle) (defBody s_from_middle) (defScope s_from_middle) .none f_from_middlekV f_from_middledc f_from_middlepm f_from_middlean f_from_middlecd f_from_middlect), f_from_middlesl⟩)
    (cf_from_middle : PySem.W.codeIn K f_from_middlecd "from_middle" = true)
    (kf_from_middle : PySem.W.keepIn K (.ref f_from_middle) = true)
    (af_per_pale : PySem.W.nsIn K mainGlobals "per_pale" = some (some (.ref f_per_pale)))
    (lf_per_pale : K.lookup f_per_pale = some ⟨f_per_paleoc, f_per_paleod, .func (PySem.W.fnOf "per_pale" "per_pale" (defArgs s_per_pale) (defBody s_per_pale) (defScope s_per_pale) .none f_per_palekV f_per_paledc f_per_palepm f_per_palean f_per_palecd f_per_palect), f_per_palesl⟩)
    (cf_per_pale : PySem.W.codeIn K f_per_palecd "per_pale" = true)
    (kf_per_pale : PySem.W.keepIn K (.ref f_per_pale) = true)
    (af_per_fess : PySem.W.nsIn K mainGlobals "per_fess" = some (some (.ref f_per_fess)))
    (lf_per_fess : K.lookup f_per_fess = some ⟨f_per_fessoc, f_per_fessod, .func (PySem.W.fnOf "per_fess" "per_fess" (defArgs s_per_fess) (defBody s_per_fess) (defScope s_per_fess) .none f_per_fesskV f_per_fessdc f_per_fesspm f_per_fessan f_per_fesscd f_per_fessct), f_per_fesssl⟩)
    (cf_per_fess : PySem.W.codeIn K f_per_fesscd "per_fess" = true)
    (kf_per_fess : PySem.W.keepIn K (.ref f_per_fess) = true)
    (af_per_bend : PySem.W.nsIn K mainGlobals "per_bend" = some (some (.ref f_per_bend)))
    (lf_per_bend : K.lookup f_per_bend = some ⟨f_per_bendoc, f_per_bendod, .func (PySem.W.fnOf "per_bend" "per_bend" (defArgs s_per_bend) (defBody s_per_bend) (defScope s_per_bend) .none f_per_bendkV f_per_benddc f_per_bendpm f_per_bendan f_per_bendcd f_per_bendct), f_per_bendsl⟩)
    (cf_per_bend : PySem.W.codeIn K f_per_bendcd "per_bend" = true)
    (kf_per_bend : PySem.W.keepIn K (.ref f_per_bend) = true)
    (af_per_bend_sinister : PySem.W.nsIn K mainGlobals "per_bend_sinister" = some (some (.ref f_per_bend_sinister)))
    (lf_per_bend_sinister : K.lookup f_per_bend_sinister = some ⟨f_per_bend_sinisteroc, f_per_bend_sinisterod, .func (PySem.W.fnOf "per_bend_sinister" "per_bend_sinister" (defArgs s_per_bend_sinister) (defBody s_per_bend_sinister) (defScope s_per_bend_sinister) .none f_per_bend_sinisterkV f_per_bend_sinisterdc f_per_bend_sinisterpm f_per_bend_sinisteran f_per_bend_sinistercd f_per_bend_sinisterct), f_per_bend_sinistersl⟩)
    (cf_per_bend_sinister : PySem.W.codeIn K f_per_bend_sinistercd "per_bend_sinister" = true)
    (kf_per_bend_sinister : PySem.W.keepIn K (.ref f_per_bend_sinister) = true)
    (af_per_chevron : PySem.W.nsIn K mainGlobals "per_chevron" = some (some (.ref f_per_chevron)))
    (lf_per_chevron : K.lookup f_per_chevron = some ⟨f_per_chevronoc, f_per_chevronod, .func (PySem.W.fnOf "per_chevron" "per_chevron" (defArgs s_per_chevron) (defBody s_per_chevron) (defScope s_per_chevron) .none f_per_chevronkV f_per_chevrondc f_per_chevronpm f_per_chevronan f_per_chevroncd f_per_chevronct), f_per_chevronsl⟩)
    (cf_per_chevron : PySem.W.codeIn K f_per_chevroncd "per_chevron" = true)
    (kf_per_chevron : PySem.W.keepIn K (.ref f_per_chevron) = true)
    (af_per_saltire : PySem.W.nsIn K mainGlobals "per_saltire" = some (some (.ref f_per_saltire)))
    (lf_per_saltire : K.lookup f_per_saltire = some ⟨f_per_saltireoc, f_per_saltireod, .func (PySem.W.fnOf "per_saltire" "per_saltire" (defArgs s_per_saltire) (defBody s_per_saltire) (defScope s_per_saltire) .none f_per_saltirekV f_per_saltiredc f_per_saltirepm f_per_saltirean f_per_saltirecd f_per_saltirect), f_per_saltiresl⟩)
    (cf_per_saltire : PySem.W.codeIn K f_per_saltirecd "per_saltire" = true)
    (kf_per_saltire : PySem.W.keepIn K (.ref f_per_saltire) = true)
    (af_quarterly : PySem.W.nsIn K mainGlobals "quarterly" = some (some (.ref f_quarterly)))
    (lf_quarterly : K.lookup f_quarterly = some ⟨f_quarterlyoc, f_quarterlyod, .func (PySem.W.fnOf "quarterly" "quarterly" (defArgs s_quarterly) (defBody s_quarterly) (defScope s_quarterly) .none f_quarterlykV f_quarterlydc f_quarterlypm f_quarterlyan f_quarterlycd f_quarterlyct), f_quarterlysl⟩)
    (cf_quarterly : PySem.W.codeIn K f_quarterlycd "quarterly" = true)
    (kf_quarterly : PySem.W.keepIn K (.ref f_quarterly) = true)
    (af_gyronny : PySem.W.nsIn K mainGlobals "gyronny" = some (some (.ref f_gyronny)))
    (lf_gyronny : K.lookup f_gyronny = some ⟨f_gyronnyoc, f_gyronnyod, .func (PySem.W.fnOf "gyronny" "gyronny" (defArgs s_gyronny) (defBody s_gyronny) (defScope s_gyronny) .none f_gyronnykV f_gyronnydc f_gyronnypm f_gyronnyan f_gyronnycd f_gyronnyct), f_gyronnysl⟩)
    (cf_gyronny : PySem.W.codeIn K f_gyronnycd "gyronny" = true)
    (kf_gyronny : PySem.W.keepIn K (.ref f_gyronny) = true)
    (af_barry : PySem.W.nsIn K mainGlobals "barry" = some (some (.ref f_barry)))
    (lf_barry : K.lookup f_barry = some ⟨f_barryoc, f_barryod, .func (PySem.W.fnOf "barry" "barry" (defArgs s_barry) (defBody s_barry) (defScope s_barry) .none f_barrykV f_barrydc f_barrypm f_barryan f_barrycd f_barryct), f_barrysl⟩)
    (cf_barry : PySem.W.codeIn K f_barrycd "barry" = true)
    (kf_barry : PySem.W.keepIn K (.ref f_barry) = true)
    (af_paly : PySem.W.nsIn K mainGlobals "paly" = some (some (.ref f_paly)))
    (lf_paly : K.lookup f_paly = some ⟨f_palyoc, f_palyod, .func (PySem.W.fnOf "paly" "paly" (defArgs s_paly) (defBody s_paly) (defScope s_paly) .none f_palykV f_palydc f_palypm f_palyan f_palycd f_palyct), f_palysl⟩)
    (cf_paly : PySem.W.codeIn K f_palycd "paly" = true)
    (kf_paly : PySem.W.keepIn K (.ref f_paly) = true)
    (af_bendy : PySem.W.nsIn K mainGlobals "bendy" = some (some (.ref f_bendy)))
    (lf_bendy : K.lookup f_bendy = some ⟨f_bendyoc, f_bendyod, .func (PySem.W.fnOf "bendy" "bendy" (defArgs s_bendy) (defBody s_bendy) (defScope s_bendy) .none f_bendykV f_bendydc f_bendypm f_bendyan f_bendycd f_bendyct), f_bendysl⟩)
    (cf_bendy : PySem.W.codeIn K f_bendycd "bendy" = true)
    (kf_bendy : PySem.W.keepIn K (.ref f_bendy) = true)
    (af_bendy_sinister : PySem.W.nsIn K mainGlobals "bendy_sinister" = some (some (.ref f_bendy_sinister)))
    (lf_bendy_sinister : K.lookup f_bendy_sinister = some ⟨f_bendy_sinisteroc, f_bendy_sinisterod, .func (PySem.W.fnOf "bendy_sinister" "bendy_sinister" (defArgs s_bendy_sinister) (defBody s_bendy_sinister) (defScope s_bendy_sinister) .none f_bendy_sinisterkV f_bendy_sinisterdc f_bendy_sinisterpm f_bendy_sinisteran f_bendy_sinistercd f_bendy_sinisterct), f_bendy_sinistersl⟩)
    (cf_bendy_sinister : PySem.W.codeIn K f_bendy_sinistercd "bendy_sinister" = true)
    (kf_bendy_sinister : PySem.W.keepIn K (.ref f_bendy_sinister) = true)
    (af_chevronny : PySem.W.nsIn K mainGlobals "chevronny" = some (some (.ref f_chevronny)))
    (lf_chevronny : K.lookup f_chevronny = some ⟨f_chevronnyoc, f_chevronnyod, .func (PySem.W.fnOf "chevronny" "chevronny" (defArgs s_chevronny) (defBody s_chevronny) (defScope s_chevronny) .none f_chevronnykV f_chevronnydc f_chevronnypm f_chevronnyan f_chevronnycd f_chevronnyct), f_chevronnysl⟩)
    (cf_chevronny : PySem.W.codeIn K f_chevronnycd "chevronny" = true)
    (kf_chevronny : PySem.W.keepIn K (.ref f_chevronny) = true)
    (af_chequy : PySem.W.nsIn K mainGlobals "chequy" = some (some (.ref f_chequy)))
    (lf_chequy : K.lookup f_chequy = some ⟨f_chequyoc, f_chequyod, .func (PySem.W.fnOf "chequy" "chequy" (defArgs s_chequy) (defBody s_chequy) (defScope s_chequy) .none f_chequykV f_chequydc f_chequypm f_chequyan f_chequycd f_chequyct), f_chequysl⟩)
    (cf_chequy : PySem.W.codeIn K f_chequycd "chequy" = true)
    (kf_chequy : PySem.W.keepIn K (.ref f_chequy) = true)
    (af_lozengy : PySem.W.nsIn K mainGlobals "lozengy" = some (some (.ref f_lozengy)))
    (lf_lozengy : K.lookup f_lozengy = some ⟨f_lozengyoc, f_lozengyod, .func (PySem.W.fnOf "lozengy" "lozengy" (defArgs s_lozengy) (defBody s_lozengy) (defScope s_lozengy) .none f_lozengykV f_lozengydc f_lozengypm f_lozengyan f_lozengycd f_lozengyct), f_lozengysl⟩)
    (cf_lozengy : PySem.W.codeIn K f_lozengycd "lozengy" = true)
    (kf_lozengy : PySem.W.keepIn K (.ref f_lozengy) = true)
    (af_distance : PySem.W.nsIn K mainGlobals "distance" = some (some (.ref f_distance)))
    (lf_distance : K.lookup f_distance = some ⟨f_distanceoc, f_distanceod, .func (PySem.W.fnOf "distance" "distance" (defArgs s_distance) (defBody s_distance) (defScope s_distance) .none f_distancekV f_distancedc f_distancepm f_distancean f_distancecd f_distancect), f_distancesl⟩)
    (cf_distance : PySem.W.codeIn K f_distancecd "distance" = true)
    (kf_distance : PySem.W.keepIn K (.ref f_distance) = true)
    (af_roundel : PySem.W.nsIn K mainGlobals "roundel" = some (some (.ref f_roundel)))
    (lf_roundel : K.lookup f_roundel = some ⟨f_roundeloc, f_roundelod, .func (PySem.W.fnOf "roundel" "roundel" (defArgs s_roundel) (defBody s_roundel) (defScope s_roundel) .none f_roundelkV f_roundeldc f_roundelpm f_roundelan f_roundelcd f_roundelct), f_roundelsl⟩)
    (cf_roundel : PySem.W.codeIn K f_roundelcd "roundel" = true)
    (kf_roundel : PySem.W.keepIn K (.ref f_roundel) = true)
    (af_annulet : PySem.W.nsIn K mainGlobals "annulet" = some (some (.ref f_annulet)))
    (lf_annulet : K.lookup f_annulet = some ⟨f_annuletoc, f_annuletod, .func (PySem.W.fnOf "annulet" "annulet" (defArgs s_annulet) (defBody s_annulet) (defScope s_annulet) .none f_annuletkV f_annuletdc f_annuletpm f_annuletan f_annuletcd f_annuletct), f_annuletsl⟩)
    (cf_annulet : PySem.W.codeIn K f_annuletcd "annulet" = true)
    (kf_annulet : PySem.W.keepIn K (.ref f_annulet) = true)
    (af_lozenge : PySem.W.nsIn K mainGlobals "lozenge" = some (some (.ref f_lozenge)))
    (lf_lozenge : K.lookup f_lozenge = some ⟨f_lozengeoc, f_lozengeod, .func (PySem.W.fnOf "lozenge" "lozenge" (defArgs s_lozenge) (defBody s_lozenge) (defScope s_lozenge) .none f_lozengekV f_lozengedc f_lozengepm f_lozengean f_lozengecd f_lozengect), f_lozengesl⟩)
    (cf_lozenge : PySem.W.codeIn K f_lozengecd "lozenge" = true)
    (kf_lozenge : PySem.W.keepIn K (.ref f_lozenge) = true)
    (af_mascle : PySem.W.nsIn K mainGlobals "mascle" = some (some (.ref f_mascle)))
    (lf_mascle : K.lookup f_mascle = some ⟨f_mascleoc, f_mascleod, .func (PySem.W.fnOf "mascle" "mascle" (defArgs s_mascle) (defBody s_mascle) (defScope s_mascle) .none f_masclekV f_mascledc f_masclepm f_masclean f_masclecd f_masclect), f_masclesl⟩)
    (cf_mascle : PySem.W.codeIn K f_masclecd "mascle" = true)
    (kf_mascle : PySem.W.keepIn K (.ref f_mascle) = true)
    (af_fusil : PySem.W.nsIn K mainGlobals "fusil" = some (some (.ref f_fusil)))
    (lf_fusil : K.lookup f_fusil = some ⟨f_fusiloc, f_fusilod, .func (PySem.W.fnOf "fusil" "fusil" (defArgs s_fusil) (defBody s_fusil) (defScope s_fusil) .none f_fusilkV f_fusildc f_fusilpm f_fusilan f_fusilcd f_fusilct), f_fusilsl⟩)
    (cf_fusil : PySem.W.codeIn K f_fusilcd "fusil" = true)
    (kf_fusil : PySem.W.keepIn K (.ref f_fusil) = true)
    (af_billet : PySem.W.nsIn K mainGlobals "billet" = some (some (.ref f_billet)))
    (lf_billet : K.lookup f_billet = some ⟨f_billetoc, f_billetod, .func (PySem.W.fnOf "billet" "billet" (defArgs s_billet) (defBody s_billet) (defScope s_billet) .none f_billetkV f_billetdc f_billetpm f_billetan f_billetcd f_billetct), f_billetsl⟩)
    (cf_billet : PySem.W.codeIn K f_billetcd "billet" = true)
    (kf_billet : PySem.W.keepIn K (.ref f_billet) = true)
    (af_mullet : PySem.W.nsIn K mainGlobals "mullet" = some (some (.ref f_mullet)))
    (lf_mullet : K.lookup f_mullet = some ⟨f_mulletoc, f_mulletod, .func (PySem.W.fnOf "mullet" "mullet" (defArgs s_mullet) (defBody s_mullet) (defScope s_mullet) .none f_mulletkV f_mulletdc f_mulletpm f_mulletan f_mulletcd f_mulletct), f_mulletsl⟩)
    (cf_mullet : PySem.W.codeIn K f_mulletcd "mullet" = true)
    (kf_mullet : PySem.W.keepIn K (.ref f_mullet) = true)
    (af_crescent : PySem.W.nsIn K mainGlobals "crescent" = some (some (.ref f_crescent)))
    (lf_crescent : K.lookup f_crescent = some ⟨f_crescentoc, f_crescentod, .func (PySem.W.fnOf "crescent" "crescent" (defArgs s_crescent) (defBody s_crescent) (defScope s_crescent) .none f_crescentkV f_crescentdc f_crescentpm f_crescentan f_crescentcd f_crescentct), f_crescentsl⟩)
    (cf_crescent : PySem.W.codeIn K f_crescentcd "crescent" = true)
    (kf_crescent : PySem.W.keepIn K (.ref f_crescent) = true)
    (af_increscent : PySem.W.nsIn K mainGlobals "increscent" = some (some (.ref f_increscent)))
    (lf_increscent : K.lookup f_increscent = some ⟨f_increscentoc, f_increscentod, .func (PySem.W.fnOf "increscent" "increscent" (defArgs s_increscent) (defBody s_increscent) (defScope s_increscent) .none f_increscentkV f_increscentdc f_increscentpm f_increscentan f_increscentcd f_increscentct), f_increscentsl⟩)
    (cf_increscent : PySem.W.codeIn K f_increscentcd "increscent" = true)
    (kf_increscent : PySem.W.keepIn K (.ref f_increscent) = true)
    (af_cross_charges : PySem.W.nsIn K mainGlobals "cross_charges" = some (some (.ref f_cross_charges)))
    (lf_cross_charges : K.lookup f_cross_charges = some ⟨f_cross_chargesoc, f_cross_chargesod, .func (PySem.W.fnOf "cross" "cross" (defArgs s_cross_charges) (defBody s_cross_charges) (defScope s_cross_charges) .none f_cross_chargeskV f_cross_chargesdc f_cross_chargespm f_cross_chargesan f_cross_chargescd f_cross_chargesct), f_cross_chargessl⟩)
    (cf_cross_charges : PySem.W.codeIn K f_cross_chargescd "cross" = true)
    (kf_cross_charges : PySem.W.keepIn K (.ref f_cross_charges) = true)
    (af_saltire_charges : PySem.W.nsIn K mainGlobals "saltire_charges" = some (some (.ref f_saltire_charges)))
    (lf_saltire_charges : K.lookup f_saltire_charges = some ⟨f_saltire_chargesoc, f_saltire_chargesod, .func (PySem.W.fnOf "saltire" "saltire" (defArgs s_saltire_charges) (defBody s_saltire_charges) (defScope s_saltire_charges) .none f_saltire_chargeskV f_saltire_chargesdc f_saltire_chargespm f_saltire_chargesan f_saltire_chargescd f_saltire_chargesct), f_saltire_chargessl⟩)
    (cf_saltire_charges : PySem.W.codeIn K f_saltire_chargescd "saltire" = true)
    (kf_saltire_charges : PySem.W.keepIn K (.ref f_saltire_charges) = true)
    (af_escutcheon : PySem.W.nsIn K mainGlobals "escutcheon" = some (some (.ref f_escutcheon)))
    (lf_escutcheon : K.lookup f_escutcheon = some ⟨f_escutcheonoc, f_escutcheonod, .func (PySem.W.fnOf "escutcheon" "escutcheon" (defArgs s_escutcheon) (defBody s_escutcheon) (defScope s_escutcheon) .none f_escutcheonkV f_escutcheondc f_escutcheonpm f_escutcheonan f_escutcheoncd f_escutcheonct), f_escutcheonsl⟩)
    (cf_escutcheon : PySem.W.codeIn K f_escutcheoncd "escutcheon" = true)
    (kf_escutcheon : PySem.W.keepIn K (.ref f_escutcheon) = true)
    (af_tower : PySem.W.nsIn K mainGlobals "tower" = some (some (.ref f_tower)))
    (lf_tower : K.lookup f_tower = some ⟨f_toweroc, f_towerod, .func (PySem.W.fnOf "tower" "tower" (defArgs s_tower) (defBody s_tower) (defScope s_tower) .none f_towerkV f_towerdc f_towerpm f_toweran f_towercd f_towerct), f_towersl⟩)
    (cf_tower : PySem.W.codeIn K f_towercd "tower" = true)
    (kf_tower : PySem.W.keepIn K (.ref f_tower) = true)
    (af_sword : PySem.W.nsIn K mainGlobals "sword" = some (some (.ref f_sword)))
    (lf_sword : K.lookup f_sword = some ⟨f_swordoc, f_swordod, .func (PySem.W.fnOf "sword" "sword" (defArgs s_sword) (defBody s_sword) (defScope s_sword) .none f_swordkV f_sworddc f_swordpm f_swordan f_swordcd f_swordct), f_swordsl⟩)
    (cf_sword : PySem.W.codeIn K f_swordcd "sword" = true)
    (kf_sword : PySem.W.keepIn K (.ref f_sword) = true)
    (af_wheel : PySem.W.nsIn K mainGlobals "wheel" = some (some (.ref f_wheel)))
    (lf_wheel : K.lookup f_wheel = some ⟨f_wheeloc, f_wheelod, .func (PySem.W.fnOf "wheel" "wheel" (defArgs s_wheel) (defBody s_wheel) (defScope s_wheel) .none f_wheelkV f_wheeldc f_wheelpm f_wheelan f_wheelcd f_wheelct), f_wheelsl⟩)
    (cf_wheel : PySem.W.codeIn K f_wheelcd "wheel" = true)
    (kf_wheel : PySem.W.keepIn K (.ref f_wheel) = true)
    (af_arrow : PySem.W.nsIn K mainGlobals "arrow" = some (some (.ref f_arrow)))
    (lf_arrow : K.lookup f_arrow = some ⟨f_arrowoc, f_arrowod, .func (PySem.W.fnOf "arrow" "arrow" (defArgs s_arrow) (defBody s_arrow) (defScope s_arrow) .none f_arrowkV f_arrowdc f_arrowpm f_arrowan f_arrowcd f_arrowct), f_arrowsl⟩)
    (cf_arrow : PySem.W.codeIn K f_arrowcd "arrow" = true)
    (kf_arrow : PySem.W.keepIn K (.ref f_arrow) = true)
    (af_part_middle : PySem.W.nsIn K mainGlobals "part_middle" = some (some (.ref f_part_middle)))
    (lf_part_middle : K.lookup f_part_middle = some ⟨f_part_middleoc, f_part_middleod, .func (PySem.W.fnOf "part_middle" "part_middle" (defArgs s_part_middle) (defBody s_part_middle) (defScope s_part_middle) .none f_part_middlekV f_part_middledc f_part_middlepm f_part_middlean f_part_middlecd f_part_middlect), f_part_middlesl⟩)
    (cf_part_middle : PySem.W.codeIn K f_part_middlecd "part_middle" = true)
    (kf_part_middle : PySem.W.keepIn K (.ref f_part_middle) = true)
    (af_bend_within : PySem.W.nsIn K mainGlobals "bend_within" = some (some (.ref f_bend_within)))
    (lf_bend_within : K.lookup f_bend_within = some ⟨f_bend_withinoc, f_bend_withinod, .func (PySem.W.fnOf "bend_within" "bend_within" (defArgs s_bend_within) (defBody s_bend_within) (defScope s_bend_within) .none f_bend_withinkV f_bend_withindc f_bend_withinpm f_bend_withinan f_bend_withincd f_bend_withinct), f_bend_withinsl⟩)
    (cf_bend_within : PySem.W.codeIn K f_bend_withincd "bend_within" = true)
    (kf_bend_within : PySem.W.keepIn K (.ref f_bend_within) = true)
    (af_sinister_within : PySem.W.nsIn K mainGlobals "sinister_within" = some (some (.ref f_sinister_within)))
    (lf_sinister_within : K.lookup f_sinister_within = some ⟨f_sinister_withinoc, f_sinister_withinod, .func (PySem.W.fnOf "sinister_within" "sinister_within" (defArgs s_sinister_within) (defBody s_sinister_within) (defScope s_sinister_within) .none f_sinister_withinkV f_sinister_withindc f_sinister_withinpm f_sinister_withinan f_sinister_withincd f_sinister_withinct), f_sinister_withinsl⟩)
    (cf_sinister_within : PySem.W.codeIn K f_sinister_withincd "sinister_within" = true)
    (kf_sinister_within : PySem.W.keepIn K (.ref f_sinister_within) = true)
    (af_chief : PySem.W.nsIn K mainGlobals "chief" = some (some (.ref f_chief)))
    (lf_chief : K.lookup f_chief = some ⟨f_chiefoc, f_chiefod, .func (PySem.W.fnOf "chief" "chief" (defArgs s_chief) (defBody s_chief) (defScope s_chief) .none f_chiefkV f_chiefdc f_chiefpm f_chiefan f_chiefcd f_chiefct), f_chiefsl⟩)
    (cf_chief : PySem.W.codeIn K f_chiefcd "chief" = true)
    (kf_chief : PySem.W.keepIn K (.ref f_chief) = true)
    (af_base : PySem.W.nsIn K mainGlobals "base" = some (some (.ref f_base)))
    (lf_base : K.lookup f_base = some ⟨f_baseoc, f_baseod, .func (PySem.W.fnOf "base" "base" (defArgs s_base) (defBody s_base) (defScope s_base) .none f_basekV f_basedc f_basepm f_basean f_basecd f_basect), f_basesl⟩)
    (cf_base : PySem.W.codeIn K f_basecd "base" = true)
    (kf_base : PySem.W.keepIn K (.ref f_base) = true)
    (af_pale : PySem.W.nsIn K mainGlobals "pale" = some (some (.ref f_pale)))
    (lf_pale : K.lookup f_pale = some ⟨f_paleoc, f_paleod, .func (PySem.W.fnOf "pale" "pale" (defArgs s_pale) (defBody s_pale) (defScope s_pale) .none f_palekV f_paledc f_palepm f_palean f_palecd f_palect), f_palesl⟩)
    (cf_pale : PySem.W.codeIn K f_palecd "pale" = true)
    (kf_pale : PySem.W.keepIn K (.ref f_pale) = true)
    (af_fess : PySem.W.nsIn K mainGlobals "fess" = some (some (.ref f_fess)))
    (lf_fess : K.lookup f_fess = some ⟨f_fessoc, f_fessod, .func (PySem.W.fnOf "fess" "fess" (defArgs s_fess) (defBody s_fess) (defScope s_fess) .none f_fesskV f_fessdc f_fesspm f_fessan f_fesscd f_fessct), f_fesssl⟩)
    (cf_fess : PySem.W.codeIn K f_fesscd "fess" = true)
    (kf_fess : PySem.W.keepIn K (.ref f_fess) = true)
    (af_bend : PySem.W.nsIn K mainGlobals "bend" = some (some (.ref f_bend)))
    (lf_bend : K.lookup f_bend = some ⟨f_bendoc, f_bendod, .func (PySem.W.fnOf "bend" "bend" (defArgs s_bend) (defBody s_bend) (defScope s_bend) .none f_bendkV f_benddc f_bendpm f_bendan f_bendcd f_bendct), f_bendsl⟩)
    (cf_bend : PySem.W.codeIn K f_bendcd "bend" = true)
    (kf_bend : PySem.W.keepIn K (.ref f_bend) = true)
    (af_bend_sinister : PySem.W.nsIn K mainGlobals "bend_sinister" = some (some (.ref f_bend_sinister)))
    (lf_bend_sinister : K.lookup f_bend_sinister = some ⟨f_bend_sinisteroc, f_bend_sinisterod, .func (PySem.W.fnOf "bend_sinister" "bend_sinister" (defArgs s_bend_sinister) (defBody s_bend_sinister) (defScope s_bend_sinister) .none f_bend_sinisterkV f_bend_sinisterdc f_bend_sinisterpm f_bend_sinisteran f_bend_sinistercd f_bend_sinisterct), f_bend_sinistersl⟩)
    (cf_bend_sinister : PySem.W.codeIn K f_bend_sinistercd "bend_sinister" = true)
    (kf_bend_sinister : PySem.W.keepIn K (.ref f_bend_sinister) = true)
    (af_chevron : PySem.W.nsIn K mainGlobals "chevron" = some (some (.ref f_chevron)))
    (lf_chevron : K.lookup f_chevron = some ⟨f_chevronoc, f_chevronod, .func (PySem.W.fnOf "chevron" "chevron" (defArgs s_chevron) (defBody s_chevron) (defScope s_chevron) .none f_chevronkV f_chevrondc f_chevronpm f_chevronan f_chevroncd f_chevronct), f_chevronsl⟩)
    (cf_chevron : PySem.W.codeIn K f_chevroncd "chevron" = true)
    (kf_chevron : PySem.W.keepIn K (.ref f_chevron) = true)
    (af_cross_ordinaries : PySem.W.nsIn K mainGlobals "cross_ordinaries" = some (some (.ref f_cross_ordinaries)))
    (lf_cross_ordinaries : K.lookup f_cross_ordinaries = some ⟨f_cross_ordinariesoc, f_cross_ordinariesod, .func (PySem.W.fnOf "cross" "cross" (defArgs s_cross_ordinaries) (defBody s_cross_ordinaries) (defScope s_cross_ordinaries) .none f_cross_ordinarieskV f_cross_ordinariesdc f_cross_ordinariespm f_cross_ordinariesan f_cross_ordinariescd f_cross_ordinariesct), f_cross_ordinariessl⟩)
    (cf_cross_ordinaries : PySem.W.codeIn K f_cross_ordinariescd "cross" = true)
    (kf_cross_ordinaries : PySem.W.keepIn K (.ref f_cross_ordinaries) = true)
    (af_saltire_ordinaries : PySem.W.nsIn K mainGlobals "saltire_ordinaries" = some (some (.ref f_saltire_ordinaries)))
    (lf_saltire_ordinaries : K.lookup f_saltire_ordinaries = some ⟨f_saltire_ordinariesoc, f_saltire_ordinariesod, .func (PySem.W.fnOf "saltire" "saltire" (defArgs s_saltire_ordinaries) (defBody s_saltire_ordinaries) (defScope s_saltire_ordinaries) .none f_saltire_ordinarieskV f_saltire_ordinariesdc f_saltire_ordinariespm f_saltire_ordinariesan f_saltire_ordinariescd f_saltire_ordinariesct), f_saltire_ordinariessl⟩)
    (cf_saltire_ordinaries : PySem.W.codeIn K f_saltire_ordinariescd "saltire" = true)
    (kf_saltire_ordinaries : PySem.W.keepIn K (.ref f_saltire_ordinaries) = true)
    (af_pile : PySem.W.nsIn K mainGlobals "pile" = some (some (.ref f_pile)))
    (lf_pile : K.lookup f_pile = some ⟨f_pileoc, f_pileod, .func (PySem.W.fnOf "pile" "pile" (defArgs s_pile) (defBody s_pile) (defScope s_pile) .none f_pilekV f_piledc f_pilepm f_pilean f_pilecd f_pilect), f_pilesl⟩)
    (cf_pile : PySem.W.codeIn K f_pilecd "pile" = true)
    (kf_pile : PySem.W.keepIn K (.ref f_pile) = true)
    (af_bordure : PySem.W.nsIn K mainGlobals "bordure" = some (some (.ref f_bordure)))
    (lf_bordure : K.lookup f_bordure = some ⟨f_bordureoc, f_bordureod, .func (PySem.W.fnOf "bordure" "bordure" (defArgs s_bordure) (defBody s_bordure) (defScope s_bordure) .none f_bordurekV f_borduredc f_bordurepm f_bordurean f_bordurecd f_bordurect), f_borduresl⟩)
    (cf_bordure : PySem.W.codeIn K f_bordurecd "bordure" = true)
    (kf_bordure : PySem.W.keepIn K (.ref f_bordure) = true)
    (af_canton : PySem.W.nsIn K mainGlobals "canton" = some (some (.ref f_canton)))
    (lf_canton : K.lookup f_canton = some ⟨f_cantonoc, f_cantonod, .func (PySem.W.fnOf "canton" "canton" (defArgs s_canton) (defBody s_canton) (defScope s_canton) .none f_cantonkV f_cantondc f_cantonpm f_cantonan f_cantoncd f_cantonct), f_cantonsl⟩)
    (cf_canton : PySem.W.codeIn K f_cantoncd "canton" = true)
    (kf_canton : PySem.W.keepIn K (.ref f_canton) = true)
    (af_quarter : PySem.W.nsIn K mainGlobals "quarter" = some (some (.ref f_quarter)))
    (lf_quarter : K.lookup f_quarter = some ⟨f_quarteroc, f_quarterod, .func (PySem.W.fnOf "quarter" "quarter" (defArgs s_quarter) (defBody s_quarter) (defScope s_quarter) .none f_quarterkV f_quarterdc f_quarterpm f_quarteran f_quartercd f_quarterct), f_quartersl⟩)
    (cf_quarter : PySem.W.codeIn K f_quartercd "quarter" = true)
    (kf_quarter : PySem.W.keepIn K (.ref f_quarter) = true)
    (af_has_first : PySem.W.nsIn K mainGlobals "has_first" = some (some (.ref f_has_first)))
    (lf_has_first : K.lookup f_has_first = some ⟨f_has_firstoc, f_has_firstod, .func (PySem.W.fnOf "has_first" "has_first" (defArgs s_has_first) (defBody s_has_first) (defScope s_has_first) .none f_has_firstkV f_has_firstdc f_has_firstpm f_has_firstan f_has_firstcd f_has_firstct), f_has_firstsl⟩)
    (cf_has_first : PySem.W.codeIn K f_has_firstcd "has_first" = true)
    (kf_has_first : PySem.W.keepIn K (.ref f_has_first) = true)
    (af_field_tincture : PySem.W.nsIn K mainGlobals "field_tincture" = some (some (.ref f_field_tincture)))
    (lf_field_tincture : K.lookup f_field_tincture = some ⟨f_field_tinctureoc, f_field_tinctureod, .func (PySem.W.fnOf "field_tincture" "field_tincture" (defArgs s_field_tincture) (defBody s_field_tincture) (defScope s_field_tincture) .none f_field_tincturekV f_field_tincturedc f_field_tincturepm f_field_tincturean f_field_tincturecd f_field_tincturect), f_field_tincturesl⟩)
    (cf_field_tincture : PySem.W.codeIn K f_field_tincturecd "field_tincture" = true)
    (kf_field_tincture : PySem.W.keepIn K (.ref f_field_tincture) = true)
    (af_counterchanged_tincture : PySem.W.nsIn K mainGlobals "counterchanged_tincture" = some (some (.ref f_counterchanged_tincture)))
    (lf_counterchanged_tincture : K.lookup f_counterchanged_tincture = some ⟨f_counterchanged_tinctureoc, f_counterchanged_tinctureod, .func (PySem.W.fnOf "counterchanged_tincture" "counterchanged_tincture" (defArgs s_counterchanged_tincture) (defBody s_counterchanged_tincture) (defScope s_counterchanged_tincture) .none f_counterchanged_tincturekV f_counterchanged_tincturedc f_counterchanged_tincturepm f_counterchanged_tincturean f_counterchanged_tincturecd f_counterchanged_tincturect), f_counterchanged_tincturesl⟩)
    (cf_counterchanged_tincture : PySem.W.codeIn K f_counterchanged_tincturecd "counterchanged_tincture" = true)
    (kf_counterchanged_tincture : PySem.W.keepIn K (.ref f_counterchanged_tincture) = true)
    (af_charge_has : PySem.W.nsIn K mainGlobals "charge_has" = some (some (.ref f_charge_has)))
    (lf_charge_has : K.lookup f_charge_has = some ⟨f_charge_hasoc, f_charge_hasod, .func (PySem.W.fnOf "charge_has" "charge_has" (defArgs s_charge_has) (defBody s_charge_has) (defScope s_charge_has) .none f_charge_haskV f_charge_hasdc f_charge_haspm f_charge_hasan f_charge_hascd f_charge_hasct), f_charge_hassl⟩)
    (cf_charge_has : PySem.W.codeIn K f_charge_hascd "charge_has" = true)
    (kf_charge_has : PySem.W.keepIn K (.ref f_charge_has) = true)
    (af_middles_in_rows : PySem.W.nsIn K mainGlobals "middles_in_rows" = some (some (.ref f_middles_in_rows)))
    (lf_middles_in_rows : K.lookup f_middles_in_rows = some ⟨f_middles_in_rowsoc, f_middles_in_rowsod, .func (PySem.W.fnOf "middles_in_rows" "middles_in_rows" (defArgs s_middles_in_rows) (defBody s_middles_in_rows) (defScope s_middles_in_rows) .none f_middles_in_rowskV f_middles_in_rowsdc f_middles_in_rowspm f_middles_in_rowsan f_middles_in_rowscd f_middles_in_rowsct), f_middles_in_rowssl⟩)
    (cf_middles_in_rows : PySem.W.codeIn K f_middles_in_rowscd "middles_in_rows" = true)
    (kf_middles_in_rows : PySem.W.keepIn K (.ref f_middles_in_rows) = true)
    (af_middle : PySem.W.nsIn K mainGlobals "middle" = some (some (.ref f_middle)))
    (lf_middle : K.lookup f_middle = some ⟨f_middleoc, f_middleod, .func (PySem.W.fnOf "middle" "middle" (defArgs s_middle) (defBody s_middle) (defScope s_middle) .none f_middlekV f_middledc f_middlepm f_middlean f_middlecd f_middlect), f_middlesl⟩)
    (cf_middle : PySem.W.codeIn K f_middlecd "middle" = true)
    (kf_middle : PySem.W.keepIn K (.ref f_middle) = true)
    (af_group_middles : PySem.W.nsIn K mainGlobals "group_middles" = some (some (.ref f_group_middles)))
    (lf_group_middles : K.lookup f_group_middles = some ⟨f_group_middlesoc, f_group_middlesod, .func (PySem.W.fnOf "group_middles" "group_middles" (defArgs s_group_middles) (defBody s_group_middles) (defScope s_group_middles) .none f_group_middleskV f_group_middlesdc f_group_middlespm f_group_middlesan f_group_middlescd f_group_middlesct), f_group_middlessl⟩)
    (cf_group_middles : PySem.W.codeIn K f_group_middlescd "group_middles" = true)
    (kf_group_middles : PySem.W.keepIn K (.ref f_group_middles) = true)
    (af_half_before_size : PySem.W.nsIn K mainGlobals "half_before_size" = some (some (.ref f_half_before_size)))
    (lf_half_before_size : K.lookup f_half_before_size = some ⟨f_half_before_sizeoc, f_half_before_sizeod, .func (PySem.W.fnOf "half_before_size" "half_before_size" (defArgs s_half_before_size) (defBody s_half_before_size) (defScope s_half_before_size) .none f_half_before_sizekV f_half_before_sizedc f_half_before_sizepm f_half_before_sizean f_half_before_sizecd f_half_before_sizect), f_half_before_sizesl⟩)
    (cf_half_before_size : PySem.W.codeIn K f_half_before_sizecd "half_before_size" = true)
    (kf_half_before_size : PySem.W.keepIn K (.ref f_half_before_size) = true)
    (af_half_side : PySem.W.nsIn K mainGlobals "half_side" = some (some (.ref f_half_side)))
    (lf_half_side : K.lookup f_half_side = some ⟨f_half_sideoc, f_half_sideod, .func (PySem.W.fnOf "half_side" "half_side" (defArgs s_half_side) (defBody s_half_side) (defScope s_half_side) .none f_half_sidekV f_half_sidedc f_half_sidepm f_half_sidean f_half_sidecd f_half_sidect), f_half_sidesl⟩)
    (cf_half_side : PySem.W.codeIn K f_half_sidecd "half_side" = true)
    (kf_half_side : PySem.W.keepIn K (.ref f_half_side) = true)
    (af_charges_have : PySem.W.nsIn K mainGlobals "charges_have" = some (some (.ref f_charges_have)))
    (lf_charges_have : K.lookup f_charges_have = some ⟨f_charges_haveoc, f_charges_haveod, .func (PySem.W.fnOf "charges_have" "charges_have" (defArgs s_charges_have) (defBody s_charges_have) (defScope s_charges_have) .none f_charges_havekV f_charges_havedc f_charges_havepm f_charges_havean f_charges_havecd f_charges_havect), f_charges_havesl⟩)
    (cf_charges_have : PySem.W.codeIn K f_charges_havecd "charges_have" = true)
    (kf_charges_have : PySem.W.keepIn K (.ref f_charges_have) = true)
    (af_group_has_points : PySem.W.nsIn K mainGlobals "group_has_points" = some (some (.ref f_group_has_points)))
    (lf_group_has_points : K.lookup f_group_has_points = some ⟨f_group_has_pointsoc, f_group_has_pointsod, .func (PySem.W.fnOf "group_has_points" "group_has_points" (defArgs s_group_has_points) (defBody s_group_has_points) (defScope s_group_has_points) .none f_group_has_pointskV f_group_has_pointsdc f_group_has_pointspm f_group_has_pointsan f_group_has_pointscd f_group_has_pointsct), f_group_has_pointssl⟩)
    (cf_group_has_points : PySem.W.codeIn K f_group_has_pointscd "group_has_points" = true)
    (kf_group_has_points : PySem.W.keepIn K (.ref f_group_has_points) = true)
    (af_ordinary_has : PySem.W.nsIn K mainGlobals "ordinary_has" = some (some (.ref f_ordinary_has)))
    (lf_ordinary_has : K.lookup f_ordinary_has = some ⟨f_ordinary_hasoc, f_ordinary_hasod, .func (PySem.W.fnOf "ordinary_has" "ordinary_has" (defArgs s_ordinary_has) (defBody s_ordinary_has) (defScope s_ordinary_has) .none f_ordinary_haskV f_ordinary_hasdc f_ordinary_haspm f_ordinary_hasan f_ordinary_hascd f_ordinary_hasct), f_ordinary_hassl⟩)
    (cf_ordinary_has : PySem.W.codeIn K f_ordinary_hascd "ordinary_has" = true)
    (kf_ordinary_has : PySem.W.keepIn K (.ref f_ordinary_has) = true)
    (af_layer_has_points : PySem.W.nsIn K mainGlobals "layer_has_points" = some (some (.ref f_layer_has_points)))
    (lf_layer_has_points : K.lookup f_layer_has_points = some ⟨f_layer_has_pointsoc, f_layer_has_pointsod, .func (PySem.W.fnOf "layer_has_points" "layer_has_points" (defArgs s_layer_has_points) (defBody s_layer_has_points) (defScope s_layer_has_points) .none f_layer_has_pointskV f_layer_has_pointsdc f_layer_has_pointspm f_layer_has_pointsan f_layer_has_pointscd f_layer_has_pointsct), f_layer_has_pointssl⟩)
    (cf_layer_has_points : PySem.W.codeIn K f_layer_has_pointscd "layer_has_points" = true)
    (kf_layer_has_points : PySem.W.keepIn K (.ref f_layer_has_points) = true)
    (af_layer_tincture : PySem.W.nsIn K mainGlobals "layer_tincture" = some (some (.ref f_layer_tincture)))
    (lf_layer_tincture : K.lookup f_layer_tincture = some ⟨f_layer_tinctureoc, f_layer_tinctureod, .func (PySem.W.fnOf "layer_tincture" "layer_tincture" (defArgs s_layer_tincture) (defBody s_layer_tincture) (defScope s_layer_tincture) .none f_layer_tincturekV f_layer_tincturedc f_layer_tincturepm f_layer_tincturean f_layer_tincturecd f_layer_tincturect), f_layer_tincturesl⟩)
    (cf_layer_tincture : PySem.W.codeIn K f_layer_tincturecd "layer_tincture" = true)
    (kf_layer_tincture : PySem.W.keepIn K (.ref f_layer_tincture) = true)
    (af_drawn_points : PySem.W.nsIn K mainGlobals "drawn_points" = some (some (.ref f_drawn_points)))
    (lf_drawn_points : K.lookup f_drawn_points = some ⟨f_drawn_pointsoc, f_drawn_pointsod, .func (PySem.W.fnOf "drawn_points" "drawn_points" (defArgs s_drawn_points) (defBody s_drawn_points) (defScope s_drawn_points) .none f_drawn_pointskV f_drawn_pointsdc f_drawn_pointspm f_drawn_pointsan f_drawn_pointscd f_drawn_pointsct), f_drawn_pointssl⟩)
    (cf_drawn_points : PySem.W.codeIn K f_drawn_pointscd "drawn_points" = true)
    (kf_drawn_points : PySem.W.keepIn K (.ref f_drawn_points) = true)
    (af_field_drawing : PySem.W.nsIn K mainGlobals "field_drawing" = some (some (.ref f_field_drawing)))
    (lf_field_drawing : K.lookup f_field_drawing = some ⟨f_field_drawingoc, f_field_drawingod, .func (PySem.W.fnOf "field_drawing" "field_drawing" (defArgs s_field_drawing) (defBody s_field_drawing) (defScope s_field_drawing) .none f_field_drawingkV f_field_drawingdc f_field_drawingpm f_field_drawingan f_field_drawingcd f_field_drawingct), f_field_drawingsl⟩)
    (cf_field_drawing : PySem.W.codeIn K f_field_drawingcd "field_drawing" = true)
    (kf_field_drawing : PySem.W.keepIn K (.ref f_field_drawing) = true)
    (af_cover_at : PySem.W.nsIn K mainGlobals "cover_at" = some (some (.ref f_cover_at)))
    (lf_cover_at : K.lookup f_cover_at = some ⟨f_cover_atoc, f_cover_atod, .func (PySem.W.fnOf "cover_at" "cover_at" (defArgs s_cover_at) (defBody s_cover_at) (defScope s_cover_at) .none f_cover_atkV f_cover_atdc f_cover_atpm f_cover_atan f_cover_atcd f_cover_atct), f_cover_atsl⟩)
    (cf_cover_at : PySem.W.codeIn K f_cover_atcd "cover_at" = true)
    (kf_cover_at : PySem.W.keepIn K (.ref f_cover_at) = true)
    (af_layer_cover : PySem.W.nsIn K mainGlobals "layer_cover" = some (some (.ref f_layer_cover)))
    (lf_layer_cover : K.lookup f_layer_cover = some ⟨f_layer_coveroc, f_layer_coverod, .func (PySem.W.fnOf "layer_cover" "layer_cover" (defArgs s_layer_cover) (defBody s_layer_cover) (defScope s_layer_cover) .none f_layer_coverkV f_layer_coverdc f_layer_coverpm f_layer_coveran f_layer_covercd f_layer_coverct), f_layer_coversl⟩)
    (cf_layer_cover : PySem.W.codeIn K f_layer_covercd "layer_cover" = true)
    (kf_layer_cover : PySem.W.keepIn K (.ref f_layer_cover) = true)
    (af_laid_over : PySem.W.nsIn K mainGlobals "laid_over" = some (some (.ref f_laid_over)))
    (lf_laid_over : K.lookup f_laid_over = some ⟨f_laid_overoc, f_laid_overod, .func (PySem.W.fnOf "laid_over" "laid_over" (defArgs s_laid_over) (defBody s_laid_over) (defScope s_laid_over) .none f_laid_overkV f_laid_overdc f_laid_overpm f_laid_overan f_laid_overcd f_laid_overct), f_laid_oversl⟩)
    (cf_laid_over : PySem.W.codeIn K f_laid_overcd "laid_over" = true)
    (kf_laid_over : PySem.W.keepIn K (.ref f_laid_over) = true)
    (af_arms_drawing : PySem.W.nsIn K mainGlobals "arms_drawing" = some (some (.ref f_arms_drawing)))
    (lf_arms_drawing : K.lookup f_arms_drawing = some ⟨f_arms_drawingoc, f_arms_drawingod, .func (PySem.W.fnOf "arms_drawing" "arms_drawing" (defArgs s_arms_drawing) (defBody s_arms_drawing) (defScope s_arms_drawing) .none f_arms_drawingkV f_arms_drawingdc f_arms_drawingpm f_arms_drawingan f_arms_drawingcd f_arms_drawingct), f_arms_drawingsl⟩)
    (cf_arms_drawing : PySem.W.codeIn K f_arms_drawingcd "arms_drawing" = true)
    (kf_arms_drawing : PySem.W.keepIn K (.ref f_arms_drawing) = true)
    (af_row_bytes : PySem.W.nsIn K mainGlobals "row_bytes" = some (some (.ref f_row_bytes)))
    (lf_row_bytes : K.lookup f_row_bytes = some ⟨f_row_bytesoc, f_row_bytesod, .func (PySem.W.fnOf "row_bytes" "row_bytes" (defArgs s_row_bytes) (defBody s_row_bytes) (defScope s_row_bytes) .none f_row_byteskV f_row_bytesdc f_row_bytespm f_row_bytesan f_row_bytescd f_row_bytesct), f_row_bytessl⟩)
    (cf_row_bytes : PySem.W.codeIn K f_row_bytescd "row_bytes" = true)
    (kf_row_bytes : PySem.W.keepIn K (.ref f_row_bytes) = true)
    (af_drawing_bytes : PySem.W.nsIn K mainGlobals "drawing_bytes" = some (some (.ref f_drawing_bytes)))
    (lf_drawing_bytes : K.lookup f_drawing_bytes = some ⟨f_drawing_bytesoc, f_drawing_bytesod, .func (PySem.W.fnOf "drawing_bytes" "drawing_bytes" (defArgs s_drawing_bytes) (defBody s_drawing_bytes) (defScope s_drawing_bytes) .none f_drawing_byteskV f_drawing_bytesdc f_drawing_bytespm f_drawing_bytesan f_drawing_bytescd f_drawing_bytesct), f_drawing_bytessl⟩)
    (cf_drawing_bytes : PySem.W.codeIn K f_drawing_bytescd "drawing_bytes" = true)
    (kf_drawing_bytes : PySem.W.keepIn K (.ref f_drawing_bytes) = true)
    (af_with_length : PySem.W.nsIn K mainGlobals "with_length" = some (some (.ref f_with_length)))
    (lf_with_length : K.lookup f_with_length = some ⟨f_with_lengthoc, f_with_lengthod, .func (PySem.W.fnOf "with_length" "with_length" (defArgs s_with_length) (defBody s_with_length) (defScope s_with_length) .none f_with_lengthkV f_with_lengthdc f_with_lengthpm f_with_lengthan f_with_lengthcd f_with_lengthct), f_with_lengthsl⟩)
    (cf_with_length : PySem.W.codeIn K f_with_lengthcd "with_length" = true)
    (kf_with_length : PySem.W.keepIn K (.ref f_with_length) = true)
    (af_draw : PySem.W.nsIn K mainGlobals "draw" = some (some (.ref f_draw)))
    (lf_draw : K.lookup f_draw = some ⟨f_drawoc, f_drawod, .func (PySem.W.fnOf "draw" "draw" (defArgs s_draw) (defBody s_draw) (defScope s_draw) .none f_drawkV f_drawdc f_drawpm f_drawan f_drawcd f_drawct), f_drawsl⟩)
    (cf_draw : PySem.W.codeIn K f_drawcd "draw" = true)
    (kf_draw : PySem.W.keepIn K (.ref f_draw) = true)
    (at9 : PySem.W.nsIn K mainGlobals "TINCTURE_ROWS" = some (some (.int 9 t9t)))
    (ack1 : PySem.W.nsIn K mainGlobals "PLAIN" = some (some (.int 0 ck1t)))
    (ack2 : PySem.W.nsIn K mainGlobals "PARTED" = some (some (.int 1 ck2t)))
    (ack3 : PySem.W.nsIn K mainGlobals "VARIED" = some (some (.int 2 ck3t)))
    (ack4 : PySem.W.nsIn K mainGlobals "LINE_ROWS" = some (some (.int 6 ck4t)))
    (ack5 : PySem.W.nsIn K mainGlobals "PARTED_ROWS" = some (some (.int 8 ck5t)))
    (ack6 : PySem.W.nsIn K mainGlobals "VARIED_ROWS" = some (some (.int 7 ck6t)))
    (ack7 : PySem.W.nsIn K mainGlobals "ORDINARY_ROWS" = some (some (.int 13 ck7t)))
    (ack8 : PySem.W.nsIn K mainGlobals "CHARGE_ROWS" = some (some (.int 16 ck8t)))
    (ack9 : PySem.W.nsIn K mainGlobals "MANNER_ROWS" = some (some (.int 7 ck9t)))
    (ack10 : PySem.W.nsIn K mainGlobals "CHEQUY" = some (some (.int 5 ck10t)))
    (ack11 : PySem.W.nsIn K mainGlobals "LOZENGY" = some (some (.int 6 ck11t)))
    (ack12 : PySem.W.nsIn K mainGlobals "LEAST_PIECES" = some (some (.int 2 ck12t)))
    (ack13 : PySem.W.nsIn K mainGlobals "MOST_PIECES" = some (some (.int 24 ck13t)))
    (ack14 : PySem.W.nsIn K mainGlobals "MOST_CHARGES" = some (some (.int 10 ck14t)))
    (ack15 : PySem.W.nsIn K mainGlobals "MOST_SIZE" = some (some (.int 4 ck15t)))
    (ack16 : PySem.W.nsIn K mainGlobals "MOST_LAYERS" = some (some (.int 8 ck16t)))
    (ack17 : PySem.W.nsIn K mainGlobals "ORDINARY_LAYER" = some (some (.int 0 ck17t)))
    (ack18 : PySem.W.nsIn K mainGlobals "GROUP_LAYER" = some (some (.int 1 ck18t)))
    (ack19 : PySem.W.nsIn K mainGlobals "FIELD_FILL" = some (some (.int 0 ck19t)))
    (ack20 : PySem.W.nsIn K mainGlobals "COUNTERCHANGED_FILL" = some (some (.int 1 ck20t)))
    (ac_WIDTH : PySem.W.nsIn K mainGlobals "WIDTH" = some (some (.int 480 c_WIDTHt)))
    (ac_HEIGHT : PySem.W.nsIn K mainGlobals "HEIGHT" = some (some (.int 576 c_HEIGHTt)))
    (ac_REACH : PySem.W.nsIn K mainGlobals "REACH" = some (some (.int 48 c_REACHt)))
    (ac_IN_ROWS : PySem.W.nsIn K mainGlobals "IN_ROWS" = some (some (.int 0 c_IN_ROWSt)))
    (ac_IN_FESS : PySem.W.nsIn K mainGlobals "IN_FESS" = some (some (.int 1 c_IN_FESSt)))
    (ac_IN_PALE : PySem.W.nsIn K mainGlobals "IN_PALE" = some (some (.int 2 c_IN_PALEt)))
    (ac_IN_BEND : PySem.W.nsIn K mainGlobals "IN_BEND" = some (some (.int 3 c_IN_BENDt)))
    (ac_IN_BEND_SINISTER : PySem.W.nsIn K mainGlobals "IN_BEND_SINISTER" = some (some (.int 4 c_IN_BEND_SINISTERt)))
    (ac_IN_CHIEF : PySem.W.nsIn K mainGlobals "IN_CHIEF" = some (some (.int 5 c_IN_CHIEFt)))
    (ac_IN_BASE : PySem.W.nsIn K mainGlobals "IN_BASE" = some (some (.int 6 c_IN_BASEt)))
    (ac_NOT_WELL_MADE : PySem.W.nsIn K mainGlobals "NOT_WELL_MADE" = some (some (.int (-1) c_NOT_WELL_MADEt)))
    (ac_STEP : PySem.W.nsIn K mainGlobals "STEP" = some (some (.int 16 c_STEPt)))
    (ac_MARGIN : PySem.W.nsIn K mainGlobals "MARGIN" = some (some (.int 8 c_MARGINt)))
    (ac_ROWS_drawings : PySem.W.nsIn K mainGlobals "ROWS_drawings" = some (some (.int 36 c_ROWS_drawingst)))
    (ac_COLUMNS : PySem.W.nsIn K mainGlobals "COLUMNS" = some (some (.int 30 c_COLUMNSt)))
    (aaLN : PySem.W.nsIn K mainGlobals "LINES" = some (some (.ref aLN)))
    (laLN : K.lookup aLN = some ⟨.type "tuple", aLNod, .seq #[.ref f_straight, .ref f_wavy, .ref f_embattled, .ref f_indented, .ref f_engrailed, .ref f_invected] aLNn, aLNsl⟩)
    (aaPW : PySem.W.nsIn K mainGlobals "PARTED_BY_WAY" = some (some (.ref aPW)))
    (laPW : K.lookup aPW = some ⟨.type "tuple", aPWod, .seq #[.ref f_per_pale, .ref f_per_fess, .ref f_per_bend, .ref f_per_bend_sinister, .ref f_per_chevron, .ref f_per_saltire, .ref f_quarterly, .ref f_gyronny] aPWn, aPWsl⟩)
    (aaVW : PySem.W.nsIn K mainGlobals "VARIED_BY_WAY" = some (some (.ref aVW)))
    (laVW : K.lookup aVW = some ⟨.type "tuple", aVWod, .seq #[.ref f_barry, .ref f_paly, .ref f_bendy, .ref f_bendy_sinister, .ref f_chevronny, .ref f_chequy, .ref f_lozengy] aVWn, aVWsl⟩)
    (aaBC : PySem.W.nsIn K mainGlobals "BY_NUMBER_charges" = some (some (.ref aBC)))
    (laBC : K.lookup aBC = some ⟨.type "tuple", aBCod, .seq #[.ref f_roundel, .ref f_annulet, .ref f_lozenge, .ref f_mascle, .ref f_fusil, .ref f_billet, .ref f_mullet, .ref f_crescent, .ref f_increscent, .ref f_cross_charges, .ref f_saltire_charges, .ref f_escutcheon, .ref f_tower, .ref f_sword, .ref f_wheel, .ref f_arrow] aBCn, aBCsl⟩)
    (aaBO : PySem.W.nsIn K mainGlobals "BY_NUMBER_ordinaries" = some (some (.ref aBO)))
    (laBO : K.lookup aBO = some ⟨.type "tuple", aBOod, .seq #[.ref f_chief, .ref f_base, .ref f_pale, .ref f_fess, .ref f_bend, .ref f_bend_sinister, .ref f_chevron, .ref f_cross_ordinaries, .ref f_saltire_ordinaries, .ref f_pile, .ref f_bordure, .ref f_canton, .ref f_quarter] aBOn, aBOsl⟩)
    (aaRT : PySem.W.nsIn K mainGlobals "ROWS_groups" = some (some (.ref aRT)))
    (laRT : K.lookup aRT = some ⟨.type "tuple", aRTod, .seq #[.ref aR0, .ref aR1, .ref aR2, .ref aR3, .ref aR4, .ref aR5, .ref aR6, .ref aR7, .ref aR8, .ref aR9] aRTn, aRTsl⟩)
    (aaAH : PySem.W.nsIn K mainGlobals "AHEAD" = some (some (.ref aAH)))
    (laAH : K.lookup aAH = some ⟨.type "tuple", aAHod, .seq #[.int 83 aAH0, .int 72 aAH1, .int 68 aAH2, .int 49 aAH3] aAHn, aAHsl⟩)
    (z_ValueError : PySem.W.nsIn K mainGlobals "ValueError" = some none)
    (z_len : PySem.W.nsIn K mainGlobals "len" = some none)
    (z_range : PySem.W.nsIn K mainGlobals "range" = some none)
    (z_abs : PySem.W.nsIn K mainGlobals "abs" = some none)
    (z_enumerate : PySem.W.nsIn K mainGlobals "enumerate" = some none)
    (z_min : PySem.W.nsIn K mainGlobals "min" = some none)
    (z_max : PySem.W.nsIn K mainGlobals "max" = some none)
    (z_isinstance : PySem.W.nsIn K mainGlobals "isinstance" = some none)
    (z_zip : PySem.W.nsIn K mainGlobals "zip" = some none)
    (z_list : PySem.W.nsIn K mainGlobals "list" = some none)
    {aR0od : Option Addr} {aR0n : Nat} {aR0sl : Array (Option Value)} {aR0t0 : Tok} {aR1od : Option Addr} {aR1n : Nat} {aR1sl : Array (Option Value)} {aR1t0 : Tok} {aR2od : Option Addr} {aR2n : Nat} {aR2sl : Array (Option Value)} {aR2t0 aR2t1 : Tok} {aR3od : Option Addr} {aR3n : Nat} {aR3sl : Array (Option Value)} {aR3t0 aR3t1 : Tok} {aR4od : Option Addr} {aR4n : Nat} {aR4sl : Array (Option Value)} {aR4t0 aR4t1 aR4t2 : Tok} {aR5od : Option Addr} {aR5n : Nat} {aR5sl : Array (Option Value)} {aR5t0 aR5t1 aR5t2 : Tok} {aR6od : Option Addr} {aR6n : Nat} {aR6sl : Array (Option Value)} {aR6t0 aR6t1 aR6t2 : Tok} {aR7od : Option Addr} {aR7n : Nat} {aR7sl : Array (Option Value)} {aR7t0 aR7t1 aR7t2 : Tok} {aR8od : Option Addr} {aR8n : Nat} {aR8sl : Array (Option Value)} {aR8t0 aR8t1 aR8t2 : Tok} {aR9od : Option Addr} {aR9n : Nat} {aR9sl : Array (Option Value)} {aR9t0 aR9t1 aR9t2 aR9t3 : Tok}
    (laR0 : K.lookup aR0 = some ⟨.type "tuple", aR0od, .seq #[.int 1 aR0t0] aR0n, aR0sl⟩)
    (laR1 : K.lookup aR1 = some ⟨.type "tuple", aR1od, .seq #[.int 2 aR1t0] aR1n, aR1sl⟩)
    (laR2 : K.lookup aR2 = some ⟨.type "tuple", aR2od, .seq #[.int 2 aR2t0, .int 1 aR2t1] aR2n, aR2sl⟩)
    (laR3 : K.lookup aR3 = some ⟨.type "tuple", aR3od, .seq #[.int 2 aR3t0, .int 2 aR3t1] aR3n, aR3sl⟩)
    (laR4 : K.lookup aR4 = some ⟨.type "tuple", aR4od, .seq #[.int 2 aR4t0, .int 1 aR4t1, .int 2 aR4t2] aR4n, aR4sl⟩)
    (laR5 : K.lookup aR5 = some ⟨.type "tuple", aR5od, .seq #[.int 3 aR5t0, .int 2 aR5t1, .int 1 aR5t2] aR5n, aR5sl⟩)
    (laR6 : K.lookup aR6 = some ⟨.type "tuple", aR6od, .seq #[.int 3 aR6t0, .int 3 aR6t1, .int 1 aR6t2] aR6n, aR6sl⟩)
    (laR7 : K.lookup aR7 = some ⟨.type "tuple", aR7od, .seq #[.int 3 aR7t0, .int 2 aR7t1, .int 3 aR7t2] aR7n, aR7sl⟩)
    (laR8 : K.lookup aR8 = some ⟨.type "tuple", aR8od, .seq #[.int 3 aR8t0, .int 3 aR8t1, .int 3 aR8t2] aR8n, aR8sl⟩)
    (laR9 : K.lookup aR9 = some ⟨.type "tuple", aR9od, .seq #[.int 4 aR9t0, .int 3 aR9t1, .int 2 aR9t2, .int 1 aR9t3] aR9n, aR9sl⟩)
    (neCF : CF ≠ CR)
    (neCO : CO ≠ CR)
    (neCG : CG ≠ CR)
    (neCA : CA ≠ CR)
    (neGO : CG ≠ CO)
    (haO : PySem.W.findIn K (.ref CO) "__class__" = some (some (.builtin "object.__class__")))
    (haG : PySem.W.findIn K (.ref CG) "__class__" = some (some (.builtin "object.__class__")))
    (hnO : PySem.W.specialIn K (.builtin "object.__class__") "__get__" = some (some (.builtin "getset_descriptor.__get__")))
    (htkO : PySem.W.takesIn K (.builtin "object.__class__") = some true)
    (hmO : PySem.W.mroIn K CO (.type "object") = some true)
    (hmG : PySem.W.mroIn K CG (.type "object") = some true)
    (icO : PySem.W.isClsIn K CO = true)
    (tyO : PySem.W.typeIn K (.ref CO) = some (.type "type"))
    (subGO : PySem.W.subIn K (.ref CG) (.ref CO) = some false) :
    ∃ fd : FuncData, (∀ (s : Shared) (us : List Value), us.length = (["a"] : List Str).length → BindsTo s fd ⟨us, []⟩ ((["a"] : List Str).zip us)) ∧ ∀ base : Heap, K.In base → base.Ns mainGlobals mg → FnOk P w K mg base (CXx P w) 13 fa fd ["a"] (spDr K) := by
  have e := hfa.symm.trans (PySem.W.mg_of X G af_draw)
  cases e
  have okNE : PySem.W.nsOkIn K NE = true := by unfold PySem.W.nsOkIn; rw [lNE]; dsimp only; rw [← Array.all_toList]; exact oNE
  have xCE : XCls K CE NE fE := ⟨⟨_, _, _, _, _, _, _, _, _, _, _, _, _, lCE⟩, okNE, iNE, n0NE, n1NE, n2NE, ifE, pCE⟩
  have FfE := fun_mk (st := sXI) lfE cfE kfE
  have bfE := FfE.binds (ps := ["self", "place"]) fun _ _ _ _ _ _ us hl => by obtain ⟨q0, q1, rfl⟩ := ar2 hl; rfl
  have FfR := fun_mk (st := sRI) lfR cfR kfR
  have bfR := FfR.binds (ps := ["self", "data"]) fun _ _ _ _ _ _ us hl => by obtain ⟨q0, q1, rfl⟩ := ar2 hl; rfl
  have FfTk := fun_mk (st := sTk) lfTk cfTk kfTk
  have bfTk := FfTk.binds (ps := ["self", "least", "most"]) fun _ _ _ _ _ _ us hl => by obtain ⟨q0, q1, q2, rfl⟩ := ar3 hl; rfl
  have FfTr := fun_mk (st := sTr) lfTr cfTr kfTr
  have bfTr := FfTr.binds (ps := ["self", "rows"]) fun _ _ _ _ _ _ us hl => by obtain ⟨q0, q1, rfl⟩ := ar2 hl; rfl
  have FfTo := fun_mk (st := sTo) lfTo cfTo kfTo
  have bfTo := FfTo.binds (ps := ["self", "first"]) fun _ _ _ _ _ _ us hl => by obtain ⟨q0, q1, rfl⟩ := ar2 hl; rfl
  have FfTe := fun_mk (st := sTe) lfTe cfTe kfTe
  have bfTe := FfTe.binds (ps := ["self"]) fun _ _ _ _ _ _ us hl => by obtain ⟨q0, rfl⟩ := ar1 hl; rfl
  have FfF := fun_mk (st := sFI) lfF cfF kfF
  have bfF := FfF.binds (ps := ["self", "kind", "way", "pieces", "line", "first", "second"]) fun _ _ _ _ _ _ us hl => by obtain ⟨q0, q1, q2, q3, q4, q5, q6, rfl⟩ := ar7 hl; rfl
  have FfO := fun_mk (st := sOI) lfO cfO kfO
  have bfO := FfO.binds (ps := ["self", "ordinary", "line", "fill"]) fun _ _ _ _ _ _ us hl => by obtain ⟨q0, q1, q2, q3, rfl⟩ := ar4 hl; rfl
  have FfG := fun_mk (st := sGI) lfG cfG kfG
  have bfG := FfG.binds (ps := ["self", "charge", "how_many", "manner", "size", "fill"]) fun _ _ _ _ _ _ us hl => by obtain ⟨q0, q1, q2, q3, q4, q5, rfl⟩ := ar6 hl; rfl
  have FfA := fun_mk (st := sAI) lfA cfA kfA
  have bfA := FfA.binds (ps := ["self", "field", "layers"]) fun _ _ _ _ _ _ us hl => by obtain ⟨q0, q1, q2, rfl⟩ := ar3 hl; rfl
  have FfRP := fun_mk (st := sRP) lfRP cfRP kfRP
  have bfRP := FfRP.binds (ps := ["reader"]) fun _ _ _ _ _ _ us hl => by obtain ⟨q0, rfl⟩ := ar1 hl; rfl
  have FfRT := fun_mk (st := sRT) lfRT cfRT kfRT
  have bfRT := FfRT.binds (ps := ["reader"]) fun _ _ _ _ _ _ us hl => by obtain ⟨q0, rfl⟩ := ar1 hl; rfl
  have FfLV := fun_mk (st := sLV) lfLV cfLV kfLV
  have bfLV := FfLV.binds (ps := ["way"]) fun _ _ _ _ _ _ us hl => by obtain ⟨q0, rfl⟩ := ar1 hl; rfl
  have FfRV := fun_mk (st := sRV) lfRV cfRV kfRV
  have bfRV := FfRV.binds (ps := ["reader"]) fun _ _ _ _ _ _ us hl => by obtain ⟨q0, rfl⟩ := ar1 hl; rfl
  have FfRF := fun_mk (st := sRF) lfRF cfRF kfRF
  have bfRF := FfRF.binds (ps := ["reader"]) fun _ _ _ _ _ _ us hl => by obtain ⟨q0, rfl⟩ := ar1 hl; rfl
  have FfFL := fun_mk (st := sFL) lfFL cfFL kfFL
  have bfFL := FfFL.binds (ps := ["reader", "arms_field"]) fun _ _ _ _ _ _ us hl => by obtain ⟨q0, q1, rfl⟩ := ar2 hl; rfl
  have FfOL := fun_mk (st := sOL) lfOL cfOL kfOL
  have bfOL := FfOL.binds (ps := ["reader", "arms_field"]) fun _ _ _ _ _ _ us hl => by obtain ⟨q0, q1, rfl⟩ := ar2 hl; rfl
  have FfGL := fun_mk (st := sGL) lfGL cfGL kfGL
  have bfGL := FfGL.binds (ps := ["reader", "arms_field"]) fun _ _ _ _ _ _ us hl => by obtain ⟨q0, q1, rfl⟩ := ar2 hl; rfl
  have FfRL := fun_mk (st := sRL) lfRL cfRL kfRL
  have bfRL := FfRL.binds (ps := ["reader", "arms_field"]) fun _ _ _ _ _ _ us hl => by obtain ⟨q0, q1, rfl⟩ := ar2 hl; rfl
  have FfRA := fun_mk (st := sRA) lfRA cfRA kfRA
  have bfRA := FfRA.binds (ps := ["data"]) fun _ _ _ _ _ _ us hl => by obtain ⟨q0, rfl⟩ := ar1 hl; rfl
  have Ff_straight := fun_mk (st := s_straight) lf_straight cf_straight kf_straight
  have bf_straight := Ff_straight.binds (ps := ["t"]) fun _ _ _ _ _ _ us hl => by obtain ⟨q0, rfl⟩ := ar1 hl; rfl
  have Ff_wavy := fun_mk (st := s_wavy) lf_wavy cf_wavy kf_wavy
  have bf_wavy := Ff_wavy.binds (ps := ["t"]) fun _ _ _ _ _ _ us hl => by obtain ⟨q0, rfl⟩ := ar1 hl; rfl
  have Ff_embattled := fun_mk (st := s_embattled) lf_embattled cf_embattled kf_embattled
  have bf_embattled := Ff_embattled.binds (ps := ["t"]) fun _ _ _ _ _ _ us hl => by obtain ⟨q0, rfl⟩ := ar1 hl; rfl
  have Ff_indented := fun_mk (st := s_indented) lf_indented cf_indented kf_indented
  have bf_indented := Ff_indented.binds (ps := ["t"]) fun _ _ _ _ _ _ us hl => by obtain ⟨q0, rfl⟩ := ar1 hl; rfl
  have Ff_engrailed := fun_mk (st := s_engrailed) lf_engrailed cf_engrailed kf_engrailed
  have bf_engrailed := Ff_engrailed.binds (ps := ["t"]) fun _ _ _ _ _ _ us hl => by obtain ⟨q0, rfl⟩ := ar1 hl; rfl
  have Ff_invected := fun_mk (st := s_invected) lf_invected cf_invected kf_invected
  have bf_invected := Ff_invected.binds (ps := ["t"]) fun _ _ _ _ _ _ us hl => by obtain ⟨q0, rfl⟩ := ar1 hl; rfl
  have Ff_offset := fun_mk (st := s_offset) lf_offset cf_offset kf_offset
  have bf_offset := Ff_offset.binds (ps := ["line", "t"]) fun _ _ _ _ _ _ us hl => by obtain ⟨q0, q1, rfl⟩ := ar2 hl; rfl
  have Ff_bend_across := fun_mk (st := s_bend_across) lf_bend_across cf_bend_across kf_bend_across
  have bf_bend_across := Ff_bend_across.binds (ps := ["p", "r"]) fun _ _ _ _ _ _ us hl => by obtain ⟨q0, q1, rfl⟩ := ar2 hl; rfl
  have Ff_bend_along := fun_mk (st := s_bend_along) lf_bend_along cf_bend_along kf_bend_along
  have bf_bend_along := Ff_bend_along.binds (ps := ["p", "r"]) fun _ _ _ _ _ _ us hl => by obtain ⟨q0, q1, rfl⟩ := ar2 hl; rfl
  have Ff_mirrored := fun_mk (st := s_mirrored) lf_mirrored cf_mirrored kf_mirrored
  have bf_mirrored := Ff_mirrored.binds (ps := ["p"]) fun _ _ _ _ _ _ us hl => by obtain ⟨q0, rfl⟩ := ar1 hl; rfl
  have Ff_sinister_across := fun_mk (st := s_sinister_across) lf_sinister_across cf_sinister_across kf_sinister_across
  have bf_sinister_across := Ff_sinister_across.binds (ps := ["p", "r"]) fun _ _ _ _ _ _ us hl => by obtain ⟨q0, q1, rfl⟩ := ar2 hl; rfl
  have Ff_sinister_along := fun_mk (st := s_sinister_along) lf_sinister_along cf_sinister_along kf_sinister_along
  have bf_sinister_along := Ff_sinister_along.binds (ps := ["p", "r"]) fun _ _ _ _ _ _ us hl => by obtain ⟨q0, q1, rfl⟩ := ar2 hl; rfl
  have Ff_bend_offset := fun_mk (st := s_bend_offset) lf_bend_offset cf_bend_offset kf_bend_offset
  have bf_bend_offset := Ff_bend_offset.binds (ps := ["p", "r", "line"]) fun _ _ _ _ _ _ us hl => by obtain ⟨q0, q1, q2, rfl⟩ := ar3 hl; rfl
  have Ff_sinister_offset := fun_mk (st := s_sinister_offset) lf_sinister_offset cf_sinister_offset kf_sinister_offset
  have bf_sinister_offset := Ff_sinister_offset.binds (ps := ["p", "r", "line"]) fun _ _ _ _ _ _ us hl => by obtain ⟨q0, q1, q2, rfl⟩ := ar3 hl; rfl
  have Ff_from_middle := fun_mk (st := s_from_middle) lf_from_middle cf_from_middle kf_from_middle
  have bf_from_middle := Ff_from_middle.binds (ps := ["p"]) fun _ _ _ _ _ _ us hl => by obtain ⟨q0, rfl⟩ := ar1 hl; rfl
  have Ff_per_pale := fun_mk (st := s_per_pale) lf_per_pale cf_per_pale kf_per_pale
  have bf_per_pale := Ff_per_pale.binds (ps := ["p", "r", "line"]) fun _ _ _ _ _ _ us hl => by obtain ⟨q0, q1, q2, rfl⟩ := ar3 hl; rfl
  have Ff_per_fess := fun_mk (st := s_per_fess) lf_per_fess cf_per_fess kf_per_fess
  have bf_per_fess := Ff_per_fess.binds (ps := ["p", "r", "line"]) fun _ _ _ _ _ _ us hl => by obtain ⟨q0, q1, q2, rfl⟩ := ar3 hl; rfl
  have Ff_per_bend := fun_mk (st := s_per_bend) lf_per_bend cf_per_bend kf_per_bend
  have bf_per_bend := Ff_per_bend.binds (ps := ["p", "r", "line"]) fun _ _ _ _ _ _ us hl => by obtain ⟨q0, q1, q2, rfl⟩ := ar3 hl; rfl
  have Ff_per_bend_sinister := fun_mk (st := s_per_bend_sinister) lf_per_bend_sinister cf_per_bend_sinister kf_per_bend_sinister
  have bf_per_bend_sinister := Ff_per_bend_sinister.binds (ps := ["p", "r", "line"]) fun _ _ _ _ _ _ us hl => by obtain ⟨q0, q1, q2, rfl⟩ := ar3 hl; rfl
  have Ff_per_chevron := fun_mk (st := s_per_chevron) lf_per_chevron cf_per_chevron kf_per_chevron
  have bf_per_chevron := Ff_per_chevron.binds (ps := ["p", "r", "line"]) fun _ _ _ _ _ _ us hl => by obtain ⟨q0, q1, q2, rfl⟩ := ar3 hl; rfl
  have Ff_per_saltire := fun_mk (st := s_per_saltire) lf_per_saltire cf_per_saltire kf_per_saltire
  have bf_per_saltire := Ff_per_saltire.binds (ps := ["p", "r", "line"]) fun _ _ _ _ _ _ us hl => by obtain ⟨q0, q1, q2, rfl⟩ := ar3 hl; rfl
  have Ff_quarterly := fun_mk (st := s_quarterly) lf_quarterly cf_quarterly kf_quarterly
  have bf_quarterly := Ff_quarterly.binds (ps := ["p", "r", "line"]) fun _ _ _ _ _ _ us hl => by obtain ⟨q0, q1, q2, rfl⟩ := ar3 hl; rfl
  have Ff_gyronny := fun_mk (st := s_gyronny) lf_gyronny cf_gyronny kf_gyronny
  have bf_gyronny := Ff_gyronny.binds (ps := ["p", "r", "line"]) fun _ _ _ _ _ _ us hl => by obtain ⟨q0, q1, q2, rfl⟩ := ar3 hl; rfl
  have Ff_barry := fun_mk (st := s_barry) lf_barry cf_barry kf_barry
  have bf_barry := Ff_barry.binds (ps := ["p", "r", "n", "line"]) fun _ _ _ _ _ _ us hl => by obtain ⟨q0, q1, q2, q3, rfl⟩ := ar4 hl; rfl
  have Ff_paly := fun_mk (st := s_paly) lf_paly cf_paly kf_paly
  have bf_paly := Ff_paly.binds (ps := ["p", "r", "n", "line"]) fun _ _ _ _ _ _ us hl => by obtain ⟨q0, q1, q2, q3, rfl⟩ := ar4 hl; rfl
  have Ff_bendy := fun_mk (st := s_bendy) lf_bendy cf_bendy kf_bendy
  have bf_bendy := Ff_bendy.binds (ps := ["p", "r", "n", "line"]) fun _ _ _ _ _ _ us hl => by obtain ⟨q0, q1, q2, q3, rfl⟩ := ar4 hl; rfl
  have Ff_bendy_sinister := fun_mk (st := s_bendy_sinister) lf_bendy_sinister cf_bendy_sinister kf_bendy_sinister
  have bf_bendy_sinister := Ff_bendy_sinister.binds (ps := ["p", "r", "n", "line"]) fun _ _ _ _ _ _ us hl => by obtain ⟨q0, q1, q2, q3, rfl⟩ := ar4 hl; rfl
  have Ff_chevronny := fun_mk (st := s_chevronny) lf_chevronny cf_chevronny kf_chevronny
  have bf_chevronny := Ff_chevronny.binds (ps := ["p", "r", "n", "line"]) fun _ _ _ _ _ _ us hl => by obtain ⟨q0, q1, q2, q3, rfl⟩ := ar4 hl; rfl
  have Ff_chequy := fun_mk (st := s_chequy) lf_chequy cf_chequy kf_chequy
  have bf_chequy := Ff_chequy.binds (ps := ["p", "r", "n", "line"]) fun _ _ _ _ _ _ us hl => by obtain ⟨q0, q1, q2, q3, rfl⟩ := ar4 hl; rfl
  have Ff_lozengy := fun_mk (st := s_lozengy) lf_lozengy cf_lozengy kf_lozengy
  have bf_lozengy := Ff_lozengy.binds (ps := ["p", "r", "n", "line"]) fun _ _ _ _ _ _ us hl => by obtain ⟨q0, q1, q2, q3, rfl⟩ := ar4 hl; rfl
  have Ff_distance := fun_mk (st := s_distance) lf_distance cf_distance kf_distance
  have bf_distance := Ff_distance.binds (ps := ["x", "y"]) fun _ _ _ _ _ _ us hl => by obtain ⟨q0, q1, rfl⟩ := ar2 hl; rfl
  have Ff_roundel := fun_mk (st := s_roundel) lf_roundel cf_roundel kf_roundel
  have bf_roundel := Ff_roundel.binds (ps := ["x", "y"]) fun _ _ _ _ _ _ us hl => by obtain ⟨q0, q1, rfl⟩ := ar2 hl; rfl
  have Ff_annulet := fun_mk (st := s_annulet) lf_annulet cf_annulet kf_annulet
  have bf_annulet := Ff_annulet.binds (ps := ["x", "y"]) fun _ _ _ _ _ _ us hl => by obtain ⟨q0, q1, rfl⟩ := ar2 hl; rfl
  have Ff_lozenge := fun_mk (st := s_lozenge) lf_lozenge cf_lozenge kf_lozenge
  have bf_lozenge := Ff_lozenge.binds (ps := ["x", "y"]) fun _ _ _ _ _ _ us hl => by obtain ⟨q0, q1, rfl⟩ := ar2 hl; rfl
  have Ff_mascle := fun_mk (st := s_mascle) lf_mascle cf_mascle kf_mascle
  have bf_mascle := Ff_mascle.binds (ps := ["x", "y"]) fun _ _ _ _ _ _ us hl => by obtain ⟨q0, q1, rfl⟩ := ar2 hl; rfl
  have Ff_fusil := fun_mk (st := s_fusil) lf_fusil cf_fusil kf_fusil
  have bf_fusil := Ff_fusil.binds (ps := ["x", "y"]) fun _ _ _ _ _ _ us hl => by obtain ⟨q0, q1, rfl⟩ := ar2 hl; rfl
  have Ff_billet := fun_mk (st := s_billet) lf_billet cf_billet kf_billet
  have bf_billet := Ff_billet.binds (ps := ["x", "y"]) fun _ _ _ _ _ _ us hl => by obtain ⟨q0, q1, rfl⟩ := ar2 hl; rfl
  have Ff_mullet := fun_mk (st := s_mullet) lf_mullet cf_mullet kf_mullet
  have bf_mullet := Ff_mullet.binds (ps := ["x", "y"]) fun _ _ _ _ _ _ us hl => by obtain ⟨q0, q1, rfl⟩ := ar2 hl; rfl
  have Ff_crescent := fun_mk (st := s_crescent) lf_crescent cf_crescent kf_crescent
  have bf_crescent := Ff_crescent.binds (ps := ["x", "y"]) fun _ _ _ _ _ _ us hl => by obtain ⟨q0, q1, rfl⟩ := ar2 hl; rfl
  have Ff_increscent := fun_mk (st := s_increscent) lf_increscent cf_increscent kf_increscent
  have bf_increscent := Ff_increscent.binds (ps := ["x", "y"]) fun _ _ _ _ _ _ us hl => by obtain ⟨q0, q1, rfl⟩ := ar2 hl; rfl
  have Ff_cross_charges := fun_mk (st := s_cross_charges) lf_cross_charges cf_cross_charges kf_cross_charges
  have bf_cross_charges := Ff_cross_charges.binds (ps := ["x", "y"]) fun _ _ _ _ _ _ us hl => by obtain ⟨q0, q1, rfl⟩ := ar2 hl; rfl
  have Ff_saltire_charges := fun_mk (st := s_saltire_charges) lf_saltire_charges cf_saltire_charges kf_saltire_charges
  have bf_saltire_charges := Ff_saltire_charges.binds (ps := ["x", "y"]) fun _ _ _ _ _ _ us hl => by obtain ⟨q0, q1, rfl⟩ := ar2 hl; rfl
  have Ff_escutcheon := fun_mk (st := s_escutcheon) lf_escutcheon cf_escutcheon kf_escutcheon
  have bf_escutcheon := Ff_escutcheon.binds (ps := ["x", "y"]) fun _ _ _ _ _ _ us hl => by obtain ⟨q0, q1, rfl⟩ := ar2 hl; rfl
  have Ff_tower := fun_mk (st := s_tower) lf_tower cf_tower kf_tower
  have bf_tower := Ff_tower.binds (ps := ["x", "y"]) fun _ _ _ _ _ _ us hl => by obtain ⟨q0, q1, rfl⟩ := ar2 hl; rfl
  have Ff_sword := fun_mk (st := s_sword) lf_sword cf_sword kf_sword
  have bf_sword := Ff_sword.binds (ps := ["x", "y"]) fun _ _ _ _ _ _ us hl => by obtain ⟨q0, q1, rfl⟩ := ar2 hl; rfl
  have Ff_wheel := fun_mk (st := s_wheel) lf_wheel cf_wheel kf_wheel
  have bf_wheel := Ff_wheel.binds (ps := ["x", "y"]) fun _ _ _ _ _ _ us hl => by obtain ⟨q0, q1, rfl⟩ := ar2 hl; rfl
  have Ff_arrow := fun_mk (st := s_arrow) lf_arrow cf_arrow kf_arrow
  have bf_arrow := Ff_arrow.binds (ps := ["x", "y"]) fun _ _ _ _ _ _ us hl => by obtain ⟨q0, q1, rfl⟩ := ar2 hl; rfl
  have Ff_part_middle := fun_mk (st := s_part_middle) lf_part_middle cf_part_middle kf_part_middle
  have bf_part_middle := Ff_part_middle.binds (ps := ["length", "k", "parts"]) fun _ _ _ _ _ _ us hl => by obtain ⟨q0, q1, q2, rfl⟩ := ar3 hl; rfl
  have Ff_bend_within := fun_mk (st := s_bend_within) lf_bend_within cf_bend_within kf_bend_within
  have bf_bend_within := Ff_bend_within.binds (ps := ["p", "r", "line", "reach"]) fun _ _ _ _ _ _ us hl => by obtain ⟨q0, q1, q2, q3, rfl⟩ := ar4 hl; rfl
  have Ff_sinister_within := fun_mk (st := s_sinister_within) lf_sinister_within cf_sinister_within kf_sinister_within
  have bf_sinister_within := Ff_sinister_within.binds (ps := ["p", "r", "line", "reach"]) fun _ _ _ _ _ _ us hl => by obtain ⟨q0, q1, q2, q3, rfl⟩ := ar4 hl; rfl
  have Ff_chief := fun_mk (st := s_chief) lf_chief cf_chief kf_chief
  have bf_chief := Ff_chief.binds (ps := ["p", "r", "line"]) fun _ _ _ _ _ _ us hl => by obtain ⟨q0, q1, q2, rfl⟩ := ar3 hl; rfl
  have Ff_base := fun_mk (st := s_base) lf_base cf_base kf_base
  have bf_base := Ff_base.binds (ps := ["p", "r", "line"]) fun _ _ _ _ _ _ us hl => by obtain ⟨q0, q1, q2, rfl⟩ := ar3 hl; rfl
  have Ff_pale := fun_mk (st := s_pale) lf_pale cf_pale kf_pale
  have bf_pale := Ff_pale.binds (ps := ["p", "r", "line"]) fun _ _ _ _ _ _ us hl => by obtain ⟨q0, q1, q2, rfl⟩ := ar3 hl; rfl
  have Ff_fess := fun_mk (st := s_fess) lf_fess cf_fess kf_fess
  have bf_fess := Ff_fess.binds (ps := ["p", "r", "line"]) fun _ _ _ _ _ _ us hl => by obtain ⟨q0, q1, q2, rfl⟩ := ar3 hl; rfl
  have Ff_bend := fun_mk (st := s_bend) lf_bend cf_bend kf_bend
  have bf_bend := Ff_bend.binds (ps := ["p", "r", "line"]) fun _ _ _ _ _ _ us hl => by obtain ⟨q0, q1, q2, rfl⟩ := ar3 hl; rfl
  have Ff_bend_sinister := fun_mk (st := s_bend_sinister) lf_bend_sinister cf_bend_sinister kf_bend_sinister
  have bf_bend_sinister := Ff_bend_sinister.binds (ps := ["p", "r", "line"]) fun _ _ _ _ _ _ us hl => by obtain ⟨q0, q1, q2, rfl⟩ := ar3 hl; rfl
  have Ff_chevron := fun_mk (st := s_chevron) lf_chevron cf_chevron kf_chevron
  have bf_chevron := Ff_chevron.binds (ps := ["p", "r", "line"]) fun _ _ _ _ _ _ us hl => by obtain ⟨q0, q1, q2, rfl⟩ := ar3 hl; rfl
  have Ff_cross_ordinaries := fun_mk (st := s_cross_ordinaries) lf_cross_ordinaries cf_cross_ordinaries kf_cross_ordinaries
  have bf_cross_ordinaries := Ff_cross_ordinaries.binds (ps := ["p", "r", "line"]) fun _ _ _ _ _ _ us hl => by obtain ⟨q0, q1, q2, rfl⟩ := ar3 hl; rfl
  have Ff_saltire_ordinaries := fun_mk (st := s_saltire_ordinaries) lf_saltire_ordinaries cf_saltire_ordinaries kf_saltire_ordinaries
  have bf_saltire_ordinaries := Ff_saltire_ordinaries.binds (ps := ["p", "r", "line"]) fun _ _ _ _ _ _ us hl => by obtain ⟨q0, q1, q2, rfl⟩ := ar3 hl; rfl
  have Ff_pile := fun_mk (st := s_pile) lf_pile cf_pile kf_pile
  have bf_pile := Ff_pile.binds (ps := ["p", "r", "line"]) fun _ _ _ _ _ _ us hl => by obtain ⟨q0, q1, q2, rfl⟩ := ar3 hl; rfl
  have Ff_bordure := fun_mk (st := s_bordure) lf_bordure cf_bordure kf_bordure
  have bf_bordure := Ff_bordure.binds (ps := ["p", "r", "line"]) fun _ _ _ _ _ _ us hl => by obtain ⟨q0, q1, q2, rfl⟩ := ar3 hl; rfl
  have Ff_canton := fun_mk (st := s_canton) lf_canton cf_canton kf_canton
  have bf_canton := Ff_canton.binds (ps := ["p", "r", "line"]) fun _ _ _ _ _ _ us hl => by obtain ⟨q0, q1, q2, rfl⟩ := ar3 hl; rfl
  have Ff_quarter := fun_mk (st := s_quarter) lf_quarter cf_quarter kf_quarter
  have bf_quarter := Ff_quarter.binds (ps := ["p", "r", "line"]) fun _ _ _ _ _ _ us hl => by obtain ⟨q0, q1, q2, rfl⟩ := ar3 hl; rfl
  have Ff_has_first := fun_mk (st := s_has_first) lf_has_first cf_has_first kf_has_first
  have bf_has_first := Ff_has_first.binds (ps := ["field", "p", "r"]) fun _ _ _ _ _ _ us hl => by obtain ⟨q0, q1, q2, rfl⟩ := ar3 hl; rfl
  have Ff_field_tincture := fun_mk (st := s_field_tincture) lf_field_tincture cf_field_tincture kf_field_tincture
  have bf_field_tincture := Ff_field_tincture.binds (ps := ["field", "p", "r"]) fun _ _ _ _ _ _ us hl => by obtain ⟨q0, q1, q2, rfl⟩ := ar3 hl; rfl
  have Ff_counterchanged_tincture := fun_mk (st := s_counterchanged_tincture) lf_counterchanged_tincture cf_counterchanged_tincture kf_counterchanged_tincture
  have bf_counterchanged_tincture := Ff_counterchanged_tincture.binds (ps := ["field", "p", "r"]) fun _ _ _ _ _ _ us hl => by obtain ⟨q0, q1, q2, rfl⟩ := ar3 hl; rfl
  have Ff_charge_has := fun_mk (st := s_charge_has) lf_charge_has cf_charge_has kf_charge_has
  have bf_charge_has := Ff_charge_has.binds (ps := ["charge", "x", "y"]) fun _ _ _ _ _ _ us hl => by obtain ⟨q0, q1, q2, rfl⟩ := ar3 hl; rfl
  have Ff_middles_in_rows := fun_mk (st := s_middles_in_rows) lf_middles_in_rows cf_middles_in_rows kf_middles_in_rows
  have bf_middles_in_rows := Ff_middles_in_rows.binds (ps := ["how_many"]) fun _ _ _ _ _ _ us hl => by obtain ⟨q0, rfl⟩ := ar1 hl; rfl
  have Ff_middle := fun_mk (st := s_middle) lf_middle cf_middle kf_middle
  have bf_middle := Ff_middle.binds (ps := ["manner", "k", "how_many"]) fun _ _ _ _ _ _ us hl => by obtain ⟨q0, q1, q2, rfl⟩ := ar3 hl; rfl
  have Ff_group_middles := fun_mk (st := s_group_middles) lf_group_middles cf_group_middles kf_group_middles
  have bf_group_middles := Ff_group_middles.binds (ps := ["manner", "how_many"]) fun _ _ _ _ _ _ us hl => by obtain ⟨q0, q1, rfl⟩ := ar2 hl; rfl
  have Ff_half_before_size := fun_mk (st := s_half_before_size) lf_half_before_size cf_half_before_size kf_half_before_size
  have bf_half_before_size := Ff_half_before_size.binds (ps := ["manner", "how_many"]) fun _ _ _ _ _ _ us hl => by obtain ⟨q0, q1, rfl⟩ := ar2 hl; rfl
  have Ff_half_side := fun_mk (st := s_half_side) lf_half_side cf_half_side kf_half_side
  have bf_half_side := Ff_half_side.binds (ps := ["manner", "how_many", "size"]) fun _ _ _ _ _ _ us hl => by obtain ⟨q0, q1, q2, rfl⟩ := ar3 hl; rfl
  have Ff_charges_have := fun_mk (st := s_charges_have) lf_charges_have cf_charges_have kf_charges_have
  have bf_charges_have := Ff_charges_have.binds (ps := ["charge", "half", "middles", "p", "r"]) fun _ _ _ _ _ _ us hl => by obtain ⟨q0, q1, q2, q3, q4, rfl⟩ := ar5 hl; rfl
  have Ff_group_has_points := fun_mk (st := s_group_has_points) lf_group_has_points cf_group_has_points kf_group_has_points
  have bf_group_has_points := Ff_group_has_points.binds (ps := ["group", "points"]) fun _ _ _ _ _ _ us hl => by obtain ⟨q0, q1, rfl⟩ := ar2 hl; rfl
  have Ff_ordinary_has := fun_mk (st := s_ordinary_has) lf_ordinary_has cf_ordinary_has kf_ordinary_has
  have bf_ordinary_has := Ff_ordinary_has.binds (ps := ["ordinary", "line", "p", "r"]) fun _ _ _ _ _ _ us hl => by obtain ⟨q0, q1, q2, q3, rfl⟩ := ar4 hl; rfl
  have Ff_layer_has_points := fun_mk (st := s_layer_has_points) lf_layer_has_points cf_layer_has_points kf_layer_has_points
  have bf_layer_has_points := Ff_layer_has_points.binds (ps := ["layer", "points"]) fun _ _ _ _ _ _ us hl => by obtain ⟨q0, q1, rfl⟩ := ar2 hl; rfl
  have Ff_layer_tincture := fun_mk (st := s_layer_tincture) lf_layer_tincture cf_layer_tincture kf_layer_tincture
  have bf_layer_tincture := Ff_layer_tincture.binds (ps := ["layer", "arms_field", "p", "r"]) fun _ _ _ _ _ _ us hl => by obtain ⟨q0, q1, q2, q3, rfl⟩ := ar4 hl; rfl
  have Ff_drawn_points := fun_mk (st := s_drawn_points) lf_drawn_points cf_drawn_points kf_drawn_points
  have bf_drawn_points := Ff_drawn_points.binds (ps := []) fun _ _ _ _ _ _ us hl => by obtain rfl := List.length_eq_zero_iff.mp hl; rfl
  have Ff_field_drawing := fun_mk (st := s_field_drawing) lf_field_drawing cf_field_drawing kf_field_drawing
  have bf_field_drawing := Ff_field_drawing.binds (ps := ["field"]) fun _ _ _ _ _ _ us hl => by obtain ⟨q0, rfl⟩ := ar1 hl; rfl
  have Ff_cover_at := fun_mk (st := s_cover_at) lf_cover_at cf_cover_at kf_cover_at
  have bf_cover_at := Ff_cover_at.binds (ps := ["layer", "arms_field", "point", "held"]) fun _ _ _ _ _ _ us hl => by obtain ⟨q0, q1, q2, q3, rfl⟩ := ar4 hl; rfl
  have Ff_layer_cover := fun_mk (st := s_layer_cover) lf_layer_cover cf_layer_cover kf_layer_cover
  have bf_layer_cover := Ff_layer_cover.binds (ps := ["layer", "arms_field"]) fun _ _ _ _ _ _ us hl => by obtain ⟨q0, q1, rfl⟩ := ar2 hl; rfl
  have Ff_laid_over := fun_mk (st := s_laid_over) lf_laid_over cf_laid_over kf_laid_over
  have bf_laid_over := Ff_laid_over.binds (ps := ["below", "cover"]) fun _ _ _ _ _ _ us hl => by obtain ⟨q0, q1, rfl⟩ := ar2 hl; rfl
  have Ff_arms_drawing := fun_mk (st := s_arms_drawing) lf_arms_drawing cf_arms_drawing kf_arms_drawing
  have bf_arms_drawing := Ff_arms_drawing.binds (ps := ["arms"]) fun _ _ _ _ _ _ us hl => by obtain ⟨q0, rfl⟩ := ar1 hl; rfl
  have Ff_row_bytes := fun_mk (st := s_row_bytes) lf_row_bytes cf_row_bytes kf_row_bytes
  have bf_row_bytes := Ff_row_bytes.binds (ps := ["row"]) fun _ _ _ _ _ _ us hl => by obtain ⟨q0, rfl⟩ := ar1 hl; rfl
  have Ff_drawing_bytes := fun_mk (st := s_drawing_bytes) lf_drawing_bytes cf_drawing_bytes kf_drawing_bytes
  have bf_drawing_bytes := Ff_drawing_bytes.binds (ps := ["drawn"]) fun _ _ _ _ _ _ us hl => by obtain ⟨q0, rfl⟩ := ar1 hl; rfl
  have Ff_with_length := fun_mk (st := s_with_length) lf_with_length cf_with_length kf_with_length
  have bf_with_length := Ff_with_length.binds (ps := ["data"]) fun _ _ _ _ _ _ us hl => by obtain ⟨q0, rfl⟩ := ar1 hl; rfl
  have Ff_draw := fun_mk (st := s_draw) lf_draw cf_draw kf_draw
  have bf_draw := Ff_draw.binds (ps := ["a"]) fun _ _ _ _ _ _ us hl => by obtain ⟨q0, rfl⟩ := ar1 hl; rfl
  have T : TR K mg CE NE fE CR fR fTk fTr fTo fTe := ⟨xCE, n3NE, PySem.W.mg_of X G aCE, PySem.W.mg_none_of X G z_ValueError, PySem.W.mg_none_of X G z_len, PySem.W.mg_of X G aCR, ⟨pgCR, hdCR, poCR, saCR⟩, noCR_data, noCR_place, ⟨mkCR, afR, ifR, kcCR⟩,
    ⟨afTk, ifTk, kfTk⟩, ⟨afTr, ifTr, kfTr⟩, ⟨afTo, ifTo, kfTo⟩, ⟨afTe, ifTe, kfTe⟩, ⟨_, PySem.W.mg_of X G at9⟩⟩
  have U : TA1 K mg CR CF CO CG CA fF fO fG fA fRP fRT fLV fRV fRF fFL fOL fGL fRL fRA := ⟨⟨⟨pgCF, hdCF, poCF, saCF⟩, PySem.W.mg_of X G aCF, ⟨mkCF, afF, ifF, kcCF⟩, fun x hx => by
      simp only [List.mem_cons, List.not_mem_nil, or_false] at hx
      rcases hx with rfl | rfl | rfl | rfl | rfl | rfl
      · exact noCF_kind
      · exact noCF_way
      · exact noCF_pieces
      · exact noCF_line
      · exact noCF_first
      · exact noCF_second⟩,
    ⟨⟨pgCO, hdCO, poCO, saCO⟩, PySem.W.mg_of X G aCO, ⟨mkCO, afO, ifO, kcCO⟩, fun x hx => by
      simp only [List.mem_cons, List.not_mem_nil, or_false] at hx
      rcases hx with rfl | rfl | rfl
      · exact noCO_ordinary
      · exact noCO_line
      · exact noCO_fill⟩,
    ⟨⟨pgCG, hdCG, poCG, saCG⟩, PySem.W.mg_of X G aCG, ⟨mkCG, afG, ifG, kcCG⟩, fun x hx => by
      simp only [List.mem_cons, List.not_mem_nil, or_false] at hx
      rcases hx with rfl | rfl | rfl | rfl | rfl
      · exact noCG_charge
      · exact noCG_how_many
      · exact noCG_manner
      · exact noCG_size
      · exact noCG_fill⟩,
    ⟨⟨pgCA, hdCA, poCA, saCA⟩, PySem.W.mg_of X G aCA, ⟨mkCA, afA, ifA, kcCA⟩, fun x hx => by
      simp only [List.mem_cons, List.not_mem_nil, or_false] at hx
      rcases hx with rfl | rfl
      · exact noCA_field
      · exact noCA_layers⟩,
    neCF, neCO, neCG, neCA, PySem.W.mg_none_of X G z_range, fun nm z hz => by
      simp only [List.mem_cons, List.not_mem_nil, or_false, Prod.mk.injEq] at hz
      rcases hz with ⟨rfl, rfl⟩ | ⟨rfl, rfl⟩ | ⟨rfl, rfl⟩ | ⟨rfl, rfl⟩ | ⟨rfl, rfl⟩ | ⟨rfl, rfl⟩ | ⟨rfl, rfl⟩ | ⟨rfl, rfl⟩ | ⟨rfl, rfl⟩ | ⟨rfl, rfl⟩ | ⟨rfl, rfl⟩ | ⟨rfl, rfl⟩ | ⟨rfl, rfl⟩ | ⟨rfl, rfl⟩ | ⟨rfl, rfl⟩ | ⟨rfl, rfl⟩ | ⟨rfl, rfl⟩ | ⟨rfl, rfl⟩ | ⟨rfl, rfl⟩ | ⟨rfl, rfl⟩
      · exact ⟨_, PySem.W.mg_of X G ack1⟩
      · exact ⟨_, PySem.W.mg_of X G ack2⟩
      · exact ⟨_, PySem.W.mg_of X G ack3⟩
      · exact ⟨_, PySem.W.mg_of X G ack4⟩
      · exact ⟨_, PySem.W.mg_of X G ack5⟩
      · exact ⟨_, PySem.W.mg_of X G ack6⟩
      · exact ⟨_, PySem.W.mg_of X G ack7⟩
      · exact ⟨_, PySem.W.mg_of X G ack8⟩
      · exact ⟨_, PySem.W.mg_of X G ack9⟩
      · exact ⟨_, PySem.W.mg_of X G ack10⟩
      · exact ⟨_, PySem.W.mg_of X G ack11⟩
      · exact ⟨_, PySem.W.mg_of X G ack12⟩
      · exact ⟨_, PySem.W.mg_of X G ack13⟩
      · exact ⟨_, PySem.W.mg_of X G ack14⟩
      · exact ⟨_, PySem.W.mg_of X G ack15⟩
      · exact ⟨_, PySem.W.mg_of X G ack16⟩
      · exact ⟨_, PySem.W.mg_of X G ack17⟩
      · exact ⟨_, PySem.W.mg_of X G ack18⟩
      · exact ⟨_, PySem.W.mg_of X G ack19⟩
      · exact ⟨_, PySem.W.mg_of X G ack20⟩,
    PySem.W.mg_of X G afRP, PySem.W.mg_of X G afRT, PySem.W.mg_of X G afLV, PySem.W.mg_of X G afRV, PySem.W.mg_of X G afRF, PySem.W.mg_of X G afFL, PySem.W.mg_of X G afOL, PySem.W.mg_of X G afGL, PySem.W.mg_of X G afRL, PySem.W.mg_of X G afRA⟩
  have M : TMn mg := ⟨fun nm z hz => by
    simp only [List.mem_cons, List.not_mem_nil, or_false, Prod.mk.injEq] at hz
    rcases hz with ⟨rfl, rfl⟩ | ⟨rfl, rfl⟩ | ⟨rfl, rfl⟩ | ⟨rfl, rfl⟩ | ⟨rfl, rfl⟩ | ⟨rfl, rfl⟩ | ⟨rfl, rfl⟩ | ⟨rfl, rfl⟩ | ⟨rfl, rfl⟩ | ⟨rfl, rfl⟩
    · exact ⟨_, PySem.W.mg_of X G ac_IN_ROWS⟩
    · exact ⟨_, PySem.W.mg_of X G ac_IN_FESS⟩
    · exact ⟨_, PySem.W.mg_of X G ac_IN_PALE⟩
    · exact ⟨_, PySem.W.mg_of X G ac_IN_BEND⟩
    · exact ⟨_, PySem.W.mg_of X G ac_IN_BEND_SINISTER⟩
    · exact ⟨_, PySem.W.mg_of X G ac_IN_CHIEF⟩
    · exact ⟨_, PySem.W.mg_of X G ac_IN_BASE⟩
    · exact ⟨_, PySem.W.mg_of X G ac_WIDTH⟩
    · exact ⟨_, PySem.W.mg_of X G ac_HEIGHT⟩
    · exact ⟨_, PySem.W.mg_of X G ac_REACH⟩⟩
  have TI : TIs K mg CO CG := by
    refine ⟨PySem.W.mg_none_of X G z_isinstance, fun H z dz fs e => .ins e ⟨pgCO, hdCO, poCO, saCO⟩ haO hnO htkO hmO, fun H z dz fs e => .ins e ⟨pgCG, hdCG, poCG, saCG⟩ haG hnO htkO hmG, ?kO, ?kG⟩
    case kO => unfold PySem.W.kitOne; rw [if_pos (beq_self_eq_true _)]
    case kG =>
      unfold PySem.W.kitOne PySem.W.kitCls
      rw [if_neg (by rw [beq_iff_eq]; intro z; injection z with z; exact neGO z)]
      dsimp only
      rw [if_pos (by rw [Bool.and_eq_true]; exact ⟨icO, by rw [tyO]; rfl⟩)]
      exact subGO
  have saLN : ∀ H, SqT K H aLN (([f_straight, f_wavy, f_embattled, f_indented, f_engrailed, f_invected] : List Addr).map V.ref) := sqt_refs (fs := [f_straight, f_wavy, f_embattled, f_indented, f_engrailed, f_invected]) laLN (by show 6 ≤ 100; decide)
  have saPW : ∀ H, SqT K H aPW (([f_per_pale, f_per_fess, f_per_bend, f_per_bend_sinister, f_per_chevron, f_per_saltire, f_quarterly, f_gyronny] : List Addr).map V.ref) := sqt_refs (fs := [f_per_pale, f_per_fess, f_per_bend, f_per_bend_sinister, f_per_chevron, f_per_saltire, f_quarterly, f_gyronny]) laPW (by show 8 ≤ 100; decide)
  have saVW : ∀ H, SqT K H aVW (([f_barry, f_paly, f_bendy, f_bendy_sinister, f_chevronny, f_chequy, f_lozengy] : List Addr).map V.ref) := sqt_refs (fs := [f_barry, f_paly, f_bendy, f_bendy_sinister, f_chevronny, f_chequy, f_lozengy]) laVW (by show 7 ≤ 100; decide)
  have saBC : ∀ H, SqT K H aBC (([f_roundel, f_annulet, f_lozenge, f_mascle, f_fusil, f_billet, f_mullet, f_crescent, f_increscent, f_cross_charges, f_saltire_charges, f_escutcheon, f_tower, f_sword, f_wheel, f_arrow] : List Addr).map V.ref) := sqt_refs (fs := [f_roundel, f_annulet, f_lozenge, f_mascle, f_fusil, f_billet, f_mullet, f_crescent, f_increscent, f_cross_charges, f_saltire_charges, f_escutcheon, f_tower, f_sword, f_wheel, f_arrow]) laBC (by show 16 ≤ 100; decide)
  have saBO : ∀ H, SqT K H aBO (([f_chief, f_base, f_pale, f_fess, f_bend, f_bend_sinister, f_chevron, f_cross_ordinaries, f_saltire_ordinaries, f_pile, f_bordure, f_canton, f_quarter] : List Addr).map V.ref) := sqt_refs (fs := [f_chief, f_base, f_pale, f_fess, f_bend, f_bend_sinister, f_chevron, f_cross_ordinaries, f_saltire_ordinaries, f_pile, f_bordure, f_canton, f_quarter]) laBO (by show 13 ≤ 100; decide)
  have RW : TRw K mg aRT [aR0, aR1, aR2, aR3, aR4, aR5, aR6, aR7, aR8, aR9] := by
    refine ⟨PySem.W.mg_of X G aaRT, sqt_refs (fs := [aR0, aR1, aR2, aR3, aR4, aR5, aR6, aR7, aR8, aR9]) laRT (by show 10 ≤ 100; decide), rfl, fun j a hj H => ?_⟩
    match j, hj with
    | 0, hj => cases hj; exact sqt_gen (us := [.int 1 aR0t0]) (vs := [V.int 1]) laR0 (.cons ⟨aR0t0, rfl⟩ (.nil)) (by show 1 ≤ 100; decide) H
    | 1, hj => cases hj; exact sqt_gen (us := [.int 2 aR1t0]) (vs := [V.int 2]) laR1 (.cons ⟨aR1t0, rfl⟩ (.nil)) (by show 1 ≤ 100; decide) H
    | 2, hj => cases hj; exact sqt_gen (us := [.int 2 aR2t0, .int 1 aR2t1]) (vs := [V.int 2, V.int 1]) laR2 (.cons ⟨aR2t0, rfl⟩ (.cons ⟨aR2t1, rfl⟩ (.nil))) (by show 2 ≤ 100; decide) H
    | 3, hj => cases hj; exact sqt_gen (us := [.int 2 aR3t0, .int 2 aR3t1]) (vs := [V.int 2, V.int 2]) laR3 (.cons ⟨aR3t0, rfl⟩ (.cons ⟨aR3t1, rfl⟩ (.nil))) (by show 2 ≤ 100; decide) H
    | 4, hj => cases hj; exact sqt_gen (us := [.int 2 aR4t0, .int 1 aR4t1, .int 2 aR4t2]) (vs := [V.int 2, V.int 1, V.int 2]) laR4 (.cons ⟨aR4t0, rfl⟩ (.cons ⟨aR4t1, rfl⟩ (.cons ⟨aR4t2, rfl⟩ (.nil)))) (by show 3 ≤ 100; decide) H
    | 5, hj => cases hj; exact sqt_gen (us := [.int 3 aR5t0, .int 2 aR5t1, .int 1 aR5t2]) (vs := [V.int 3, V.int 2, V.int 1]) laR5 (.cons ⟨aR5t0, rfl⟩ (.cons ⟨aR5t1, rfl⟩ (.cons ⟨aR5t2, rfl⟩ (.nil)))) (by show 3 ≤ 100; decide) H
    | 6, hj => cases hj; exact sqt_gen (us := [.int 3 aR6t0, .int 3 aR6t1, .int 1 aR6t2]) (vs := [V.int 3, V.int 3, V.int 1]) laR6 (.cons ⟨aR6t0, rfl⟩ (.cons ⟨aR6t1, rfl⟩ (.cons ⟨aR6t2, rfl⟩ (.nil)))) (by show 3 ≤ 100; decide) H
    | 7, hj => cases hj; exact sqt_gen (us := [.int 3 aR7t0, .int 2 aR7t1, .int 3 aR7t2]) (vs := [V.int 3, V.int 2, V.int 3]) laR7 (.cons ⟨aR7t0, rfl⟩ (.cons ⟨aR7t1, rfl⟩ (.cons ⟨aR7t2, rfl⟩ (.nil)))) (by show 3 ≤ 100; decide) H
    | 8, hj => cases hj; exact sqt_gen (us := [.int 3 aR8t0, .int 3 aR8t1, .int 3 aR8t2]) (vs := [V.int 3, V.int 3, V.int 3]) laR8 (.cons ⟨aR8t0, rfl⟩ (.cons ⟨aR8t1, rfl⟩ (.cons ⟨aR8t2, rfl⟩ (.nil)))) (by show 3 ≤ 100; decide) H
    | 9, hj => cases hj; exact sqt_gen (us := [.int 4 aR9t0, .int 3 aR9t1, .int 2 aR9t2, .int 1 aR9t3]) (vs := [V.int 4, V.int 3, V.int 2, V.int 1]) laR9 (.cons ⟨aR9t0, rfl⟩ (.cons ⟨aR9t1, rfl⟩ (.cons ⟨aR9t2, rfl⟩ (.cons ⟨aR9t3, rfl⟩ (.nil))))) (by show 4 ≤ 100; decide) H
    | j + 10, hj => simp at hj
  have W : TDw mg := ⟨⟨_, PySem.W.mg_of X G ac_STEP⟩, ⟨_, PySem.W.mg_of X G ac_MARGIN⟩, ⟨_, PySem.W.mg_of X G ac_ROWS_drawings⟩, ⟨_, PySem.W.mg_of X G ac_COLUMNS⟩, PySem.W.mg_none_of X G z_range, PySem.W.mg_none_of X G z_zip⟩
  have sAH : ∀ H, SqT K H aAH [.int 83, .int 72, .int 68, .int 49] := sqt_gen (us := [.int 83 aAH0, .int 72 aAH1, .int 68 aAH2, .int 49 aAH3]) laAH (.cons ⟨_, rfl⟩ (.cons ⟨_, rfl⟩ (.cons ⟨_, rfl⟩ (.cons ⟨_, rfl⟩ .nil)))) (by show 4 ≤ 100; decide)
  refine ⟨PySem.W.fnOf "draw" "draw" (defArgs s_draw) (defBody s_draw) (defScope s_draw) .none f_drawkV f_drawdc f_drawpm f_drawan f_drawcd f_drawct, fun s us hu => by obtain ⟨q0, rfl⟩ := ar1 hu; exact .of_eq rfl, fun base _ _ => ?_⟩
  · have GI : FnOk P w K mg base (CXx P w) 1 fE _ ["self", "place"] (spXI CE) := ok_xi FfE T
    have GR : FnOk P w K mg base (CXx P w) 1 fR _ ["self", "data"] (spRI CR) := ok_ri FfR T
    have GK : FnOk P w K mg base (CXx P w) 3 fTk _ ["self", "least", "most"] (spTake K CE CR) := ok_take FfTk T GI bfE
    have GW : FnOk P w K mg base (CXx P w) 4 fTr _ ["self", "rows"] (spRow K CE CR) := ok_row FfTr T GK bfTk
    have GO : FnOk P w K mg base (CXx P w) 5 fTo _ ["self", "first"] (spOther K CE CR) := ok_other FfTo T GI bfE GW bfTr
    have GE : FnOk P w K mg base (CXx P w) 3 fTe _ ["self"] (spEnd K CE CR) := ok_end FfTe T GI bfE
    have GFi : FnOk P w K mg base (CXx P w) 1 fF _ ["self", "kind", "way", "pieces", "line", "first", "second"] (spFI CF) := ok_fi FfF U.F
    have GOi : FnOk P w K mg base (CXx P w) 1 fO _ ["self", "ordinary", "line", "fill"] (spOI CO) := ok_oi FfO U.O
    have GGi : FnOk P w K mg base (CXx P w) 1 fG _ ["self", "charge", "how_many", "manner", "size", "fill"] (spGI CG) := ok_gi FfG U.G
    have GAi : FnOk P w K mg base (CXx P w) 1 fA _ ["self", "field", "layers"] (spAI CA) := ok_ai FfA U.A
    have g1 : FnOk P w K mg base (CXx P w) 5 fRP _ ["reader"] (spFd K CE CR CF plainB) := ok_rp FfRP T U GW bfTr GFi bfF
    have g2 : FnOk P w K mg base (CXx P w) 6 fRT _ ["reader"] (spFd K CE CR CF partedB) := ok_rt FfRT T U GW bfTr GO bfTo GFi bfF
    have gl : FnOk P w K mg base (CXx P w) 1 fLV _ ["way"] spLV := ok_lv FfLV U
    have g3 : FnOk P w K mg base (CXx P w) 6 fRV _ ["reader"] (spFd K CE CR CF variedB) := ok_rv FfRV T U GK bfTk GW bfTr GO bfTo GFi bfF gl bfLV kfLV
    have g4 : FnOk P w K mg base (CXx P w) 7 fRF _ ["reader"] (spFd K CE CR CF fieldAt) := ok_rf FfRF T U GK bfTk g1 bfRP kfRP g2 bfRT kfRT g3 bfRV kfRV
    have g5 : FnOk P w K mg base (CXx P w) 8 fFL _ ["reader", "arms_field"] (spFl K CE CR CF) := ok_fl FfFL T U GK bfTk g4 bfRF kfRF
    have g6 : FnOk P w K mg base (CXx P w) 9 fOL _ ["reader", "arms_field"] (spLy K CE CR CF CO CG ordB) := ok_ol FfOL T U GW bfTr g5 bfFL kfFL GOi bfO
    have g7 : FnOk P w K mg base (CXx P w) 9 fGL _ ["reader", "arms_field"] (spLy K CE CR CF CO CG groupB) := ok_gl FfGL T U GK bfTk GW bfTr g5 bfFL kfFL GGi bfG
    have g8 : FnOk P w K mg base (CXx P w) 10 fRL _ ["reader", "arms_field"] (spLy K CE CR CF CO CG layerAt) := ok_rl FfRL T U GK bfTk g6 bfOL kfOL g7 bfGL kfGL
    have g9 : FnOk P w K mg base (CXx P w) 11 fRA _ ["data"] (spRA K CE CR CF CO CG CA) := ok_ra FfRA T U GR bfR GK bfTk GE bfTe g4 bfRF kfRF g8 bfRL kfRL GAi bfA
    have p_straight : PF P w K mg base "straight" 1 f_straight ["t"] (spI1 (fun v_t => True) (fun v_t => V.int (g_straight v_t))) := ⟨⟨_, ok_straight Ff_straight, bf_straight⟩, kf_straight, PySem.W.mg_of X G af_straight⟩
    have p_wavy : PF P w K mg base "wavy" 1 f_wavy ["t"] (spI1 (fun v_t => True) (fun v_t => V.int (g_wavy v_t))) := ⟨⟨_, ok_wavy Ff_wavy, bf_wavy⟩, kf_wavy, PySem.W.mg_of X G af_wavy⟩
    have p_embattled : PF P w K mg base "embattled" 1 f_embattled ["t"] (spI1 (fun v_t => True) (fun v_t => V.int (g_embattled v_t))) := ⟨⟨_, ok_embattled Ff_embattled, bf_embattled⟩, kf_embattled, PySem.W.mg_of X G af_embattled⟩
    have p_indented : PF P w K mg base "indented" 1 f_indented ["t"] (spI1 (fun v_t => True) (fun v_t => V.int (g_indented v_t))) := ⟨⟨_, ok_indented Ff_indented, bf_indented⟩, kf_indented, PySem.W.mg_of X G af_indented⟩
    have p_engrailed : PF P w K mg base "engrailed" 1 f_engrailed ["t"] (spI1 (fun v_t => True) (fun v_t => V.int (g_engrailed v_t))) := ⟨⟨_, ok_engrailed Ff_engrailed, bf_engrailed⟩, kf_engrailed, PySem.W.mg_of X G af_engrailed⟩
    have p_invected : PF P w K mg base "invected" 1 f_invected ["t"] (spI1 (fun v_t => True) (fun v_t => V.int (g_invected v_t))) := ⟨⟨_, ok_invected Ff_invected, bf_invected⟩, kf_invected, PySem.W.mg_of X G af_invected⟩
    have p_offset : PF P w K mg base "offset" 2 f_offset ["line", "t"] (spI2 (fun v_line v_t => 0 ≤ v_line ∧ v_line < 6) (fun v_line v_t => V.int (g_offset v_line v_t))) := ⟨⟨_, ok_offset Ff_offset p_straight p_wavy p_embattled p_indented p_engrailed p_invected (PySem.W.mg_of X G aaLN) saLN, bf_offset⟩, kf_offset, PySem.W.mg_of X G af_offset⟩
    have p_bend_across : PF P w K mg base "bend_across" 1 f_bend_across ["p", "r"] (spI2 (fun v_p v_r => True) (fun v_p v_r => V.int (g_bend_across v_p v_r))) := ⟨⟨_, ok_bend_across Ff_bend_across, bf_bend_across⟩, kf_bend_across, PySem.W.mg_of X G af_bend_across⟩
    have p_bend_along : PF P w K mg base "bend_along" 1 f_bend_along ["p", "r"] (spI2 (fun v_p v_r => True) (fun v_p v_r => V.int (g_bend_along v_p v_r))) := ⟨⟨_, ok_bend_along Ff_bend_along, bf_bend_along⟩, kf_bend_along, PySem.W.mg_of X G af_bend_along⟩
    have p_mirrored : PF P w K mg base "mirrored" 1 f_mirrored ["p"] (spI1 (fun v_p => True) (fun v_p => V.int (g_mirrored v_p))) := ⟨⟨_, ok_mirrored Ff_mirrored ⟨_, PySem.W.mg_of X G ac_WIDTH⟩, bf_mirrored⟩, kf_mirrored, PySem.W.mg_of X G af_mirrored⟩
    have p_sinister_across : PF P w K mg base "sinister_across" 2 f_sinister_across ["p", "r"] (spI2 (fun v_p v_r => True) (fun v_p v_r => V.int (g_sinister_across v_p v_r))) := ⟨⟨_, ok_sinister_across Ff_sinister_across p_bend_across p_mirrored, bf_sinister_across⟩, kf_sinister_across, PySem.W.mg_of X G af_sinister_across⟩
    have p_sinister_along : PF P w K mg base "sinister_along" 2 f_sinister_along ["p", "r"] (spI2 (fun v_p v_r => True) (fun v_p v_r => V.int (g_sinister_along v_p v_r))) := ⟨⟨_, ok_sinister_along Ff_sinister_along p_bend_along p_mirrored, bf_sinister_along⟩, kf_sinister_along, PySem.W.mg_of X G af_sinister_along⟩
    have p_bend_offset : PF P w K mg base "bend_offset" 3 f_bend_offset ["p", "r", "line"] (spI3 (fun v_p v_r v_line => 0 ≤ v_line ∧ v_line < 6) (fun v_p v_r v_line => V.int (g_bend_offset v_p v_r v_line))) := ⟨⟨_, ok_bend_offset Ff_bend_offset p_bend_along p_offset, bf_bend_offset⟩, kf_bend_offset, PySem.W.mg_of X G af_bend_offset⟩
    have p_sinister_offset : PF P w K mg base "sinister_offset" 3 f_sinister_offset ["p", "r", "line"] (spI3 (fun v_p v_r v_line => 0 ≤ v_line ∧ v_line < 6) (fun v_p v_r v_line => V.int (g_sinister_offset v_p v_r v_line))) := ⟨⟨_, ok_sinister_offset Ff_sinister_offset p_offset p_sinister_along, bf_sinister_offset⟩, kf_sinister_offset, PySem.W.mg_of X G af_sinister_offset⟩
    have p_from_middle : PF P w K mg base "from_middle" 1 f_from_middle ["p"] (spI1 (fun v_p => True) (fun v_p => V.int (g_from_middle v_p))) := ⟨⟨_, ok_from_middle Ff_from_middle ⟨_, PySem.W.mg_of X G ac_WIDTH⟩ (PySem.W.mg_none_of X G z_abs), bf_from_middle⟩, kf_from_middle, PySem.W.mg_of X G af_from_middle⟩
    have p_per_pale : PF P w K mg base "per_pale" 3 f_per_pale ["p", "r", "line"] (spI3 (fun v_p v_r v_line => 0 ≤ v_line ∧ v_line < 6) (fun v_p v_r v_line => V.bl (g_per_pale v_p v_r v_line))) := ⟨⟨_, ok_per_pale Ff_per_pale p_offset, bf_per_pale⟩, kf_per_pale, PySem.W.mg_of X G af_per_pale⟩
    have p_per_fess : PF P w K mg base "per_fess" 3 f_per_fess ["p", "r", "line"] (spI3 (fun v_p v_r v_line => 0 ≤ v_line ∧ v_line < 6) (fun v_p v_r v_line => V.bl (g_per_fess v_p v_r v_line))) := ⟨⟨_, ok_per_fess Ff_per_fess p_offset, bf_per_fess⟩, kf_per_fess, PySem.W.mg_of X G af_per_fess⟩
    have p_per_bend : PF P w K mg base "per_bend" 4 f_per_bend ["p", "r", "line"] (spI3 (fun v_p v_r v_line => 0 ≤ v_line ∧ v_line < 6) (fun v_p v_r v_line => V.bl (g_per_bend v_p v_r v_line))) := ⟨⟨_, ok_per_bend Ff_per_bend p_bend_across p_bend_offset, bf_per_bend⟩, kf_per_bend, PySem.W.mg_of X G af_per_bend⟩
    have p_per_bend_sinister : PF P w K mg base "per_bend_sinister" 4 f_per_bend_sinister ["p", "r", "line"] (spI3 (fun v_p v_r v_line => 0 ≤ v_line ∧ v_line < 6) (fun v_p v_r v_line => V.bl (g_per_bend_sinister v_p v_r v_line))) := ⟨⟨_, ok_per_bend_sinister Ff_per_bend_sinister p_sinister_across p_sinister_offset, bf_per_bend_sinister⟩, kf_per_bend_sinister, PySem.W.mg_of X G af_per_bend_sinister⟩
    have p_per_chevron : PF P w K mg base "per_chevron" 3 f_per_chevron ["p", "r", "line"] (spI3 (fun v_p v_r v_line => 0 ≤ v_line ∧ v_line < 6) (fun v_p v_r v_line => V.bl (g_per_chevron v_p v_r v_line))) := ⟨⟨_, ok_per_chevron Ff_per_chevron p_from_middle p_offset, bf_per_chevron⟩, kf_per_chevron, PySem.W.mg_of X G af_per_chevron⟩
    have p_per_saltire : PF P w K mg base "per_saltire" 5 f_per_saltire ["p", "r", "line"] (spI3 (fun v_p v_r v_line => 0 ≤ v_line ∧ v_line < 6) (fun v_p v_r v_line => V.bl (g_per_saltire v_p v_r v_line))) := ⟨⟨_, ok_per_saltire Ff_per_saltire p_per_bend p_per_bend_sinister, bf_per_saltire⟩, kf_per_saltire, PySem.W.mg_of X G af_per_saltire⟩
    have p_quarterly : PF P w K mg base "quarterly" 4 f_quarterly ["p", "r", "line"] (spI3 (fun v_p v_r v_line => 0 ≤ v_line ∧ v_line < 6) (fun v_p v_r v_line => V.bl (g_quarterly v_p v_r v_line))) := ⟨⟨_, ok_quarterly Ff_quarterly p_per_fess p_per_pale, bf_quarterly⟩, kf_quarterly, PySem.W.mg_of X G af_quarterly⟩
    have p_gyronny : PF P w K mg base "gyronny" 6 f_gyronny ["p", "r", "line"] (spI3 (fun v_p v_r v_line => 0 ≤ v_line ∧ v_line < 6) (fun v_p v_r v_line => V.bl (g_gyronny v_p v_r v_line))) := ⟨⟨_, ok_gyronny Ff_gyronny p_per_saltire p_quarterly, bf_gyronny⟩, kf_gyronny, PySem.W.mg_of X G af_gyronny⟩
    have p_barry : PF P w K mg base "barry" 3 f_barry ["p", "r", "n", "line"] (spI4 (fun v_p v_r v_n v_line => 0 ≤ v_line ∧ v_line < 6 ∧ 2 ≤ v_n ∧ v_n ≤ 24) (fun v_p v_r v_n v_line => V.int (g_barry v_p v_r v_n v_line))) := ⟨⟨_, ok_barry Ff_barry p_offset, bf_barry⟩, kf_barry, PySem.W.mg_of X G af_barry⟩
    have p_paly : PF P w K mg base "paly" 3 f_paly ["p", "r", "n", "line"] (spI4 (fun v_p v_r v_n v_line => 0 ≤ v_line ∧ v_line < 6 ∧ 2 ≤ v_n ∧ v_n ≤ 24) (fun v_p v_r v_n v_line => V.int (g_paly v_p v_r v_n v_line))) := ⟨⟨_, ok_paly Ff_paly p_offset, bf_paly⟩, kf_paly, PySem.W.mg_of X G af_paly⟩
    have p_bendy : PF P w K mg base "bendy" 4 f_bendy ["p", "r", "n", "line"] (spI4 (fun v_p v_r v_n v_line => 0 ≤ v_line ∧ v_line < 6 ∧ 2 ≤ v_n ∧ v_n ≤ 24) (fun v_p v_r v_n v_line => V.int (g_bendy v_p v_r v_n v_line))) := ⟨⟨_, ok_bendy Ff_bendy p_bend_across p_bend_offset, bf_bendy⟩, kf_bendy, PySem.W.mg_of X G af_bendy⟩
    have p_bendy_sinister : PF P w K mg base "bendy_sinister" 4 f_bendy_sinister ["p", "r", "n", "line"] (spI4 (fun v_p v_r v_n v_line => 0 ≤ v_line ∧ v_line < 6 ∧ 2 ≤ v_n ∧ v_n ≤ 24) (fun v_p v_r v_n v_line => V.int (g_bendy_sinister v_p v_r v_n v_line))) := ⟨⟨_, ok_bendy_sinister Ff_bendy_sinister p_sinister_across p_sinister_offset, bf_bendy_sinister⟩, kf_bendy_sinister, PySem.W.mg_of X G af_bendy_sinister⟩
    have p_chevronny : PF P w K mg base "chevronny" 3 f_chevronny ["p", "r", "n", "line"] (spI4 (fun v_p v_r v_n v_line => 0 ≤ v_line ∧ v_line < 6 ∧ 2 ≤ v_n ∧ v_n ≤ 24) (fun v_p v_r v_n v_line => V.int (g_chevronny v_p v_r v_n v_line))) := ⟨⟨_, ok_chevronny Ff_chevronny p_from_middle p_offset, bf_chevronny⟩, kf_chevronny, PySem.W.mg_of X G af_chevronny⟩
    have p_chequy : PF P w K mg base "chequy" 1 f_chequy ["p", "r", "n", "line"] (spI4 (fun v_p v_r v_n v_line => 0 ≤ v_line ∧ v_line < 6 ∧ 2 ≤ v_n ∧ v_n ≤ 24) (fun v_p v_r v_n v_line => V.int (g_chequy v_p v_r v_n v_line))) := ⟨⟨_, ok_chequy Ff_chequy, bf_chequy⟩, kf_chequy, PySem.W.mg_of X G af_chequy⟩
    have p_lozengy : PF P w K mg base "lozengy" 2 f_lozengy ["p", "r", "n", "line"] (spI4 (fun v_p v_r v_n v_line => 0 ≤ v_line ∧ v_line < 6 ∧ 2 ≤ v_n ∧ v_n ≤ 24) (fun v_p v_r v_n v_line => V.int (g_lozengy v_p v_r v_n v_line))) := ⟨⟨_, ok_lozengy Ff_lozengy p_bend_across, bf_lozengy⟩, kf_lozengy, PySem.W.mg_of X G af_lozengy⟩
    have p_distance : PF P w K mg base "distance" 1 f_distance ["x", "y"] (spI2 (fun v_x v_y => -100 ≤ v_x ∧ v_x ≤ 100 ∧ -100 ≤ v_y ∧ v_y ≤ 100) (fun v_x v_y => V.int (g_distance v_x v_y))) := ⟨⟨_, ok_distance Ff_distance, bf_distance⟩, kf_distance, PySem.W.mg_of X G af_distance⟩
    have p_roundel : PF P w K mg base "roundel" 2 f_roundel ["x", "y"] (spI2 (fun v_x v_y => -48 ≤ v_x ∧ v_x ≤ 48 ∧ -48 ≤ v_y ∧ v_y ≤ 48) (fun v_x v_y => V.bl (g_roundel v_x v_y))) := ⟨⟨_, ok_roundel Ff_roundel p_distance, bf_roundel⟩, kf_roundel, PySem.W.mg_of X G af_roundel⟩
    have p_annulet : PF P w K mg base "annulet" 2 f_annulet ["x", "y"] (spI2 (fun v_x v_y => -48 ≤ v_x ∧ v_x ≤ 48 ∧ -48 ≤ v_y ∧ v_y ≤ 48) (fun v_x v_y => V.bl (g_annulet v_x v_y))) := ⟨⟨_, ok_annulet Ff_annulet p_distance, bf_annulet⟩, kf_annulet, PySem.W.mg_of X G af_annulet⟩
    have p_lozenge : PF P w K mg base "lozenge" 1 f_lozenge ["x", "y"] (spI2 (fun v_x v_y => -48 ≤ v_x ∧ v_x ≤ 48 ∧ -48 ≤ v_y ∧ v_y ≤ 48) (fun v_x v_y => V.bl (g_lozenge v_x v_y))) := ⟨⟨_, ok_lozenge Ff_lozenge (PySem.W.mg_none_of X G z_abs), bf_lozenge⟩, kf_lozenge, PySem.W.mg_of X G af_lozenge⟩
    have p_mascle : PF P w K mg base "mascle" 1 f_mascle ["x", "y"] (spI2 (fun v_x v_y => -48 ≤ v_x ∧ v_x ≤ 48 ∧ -48 ≤ v_y ∧ v_y ≤ 48) (fun v_x v_y => V.bl (g_mascle v_x v_y))) := ⟨⟨_, ok_mascle Ff_mascle (PySem.W.mg_none_of X G z_abs), bf_mascle⟩, kf_mascle, PySem.W.mg_of X G af_mascle⟩
    have p_fusil : PF P w K mg base "fusil" 1 f_fusil ["x", "y"] (spI2 (fun v_x v_y => -48 ≤ v_x ∧ v_x ≤ 48 ∧ -48 ≤ v_y ∧ v_y ≤ 48) (fun v_x v_y => V.bl (g_fusil v_x v_y))) := ⟨⟨_, ok_fusil Ff_fusil (PySem.W.mg_none_of X G z_abs), bf_fusil⟩, kf_fusil, PySem.W.mg_of X G af_fusil⟩
    have p_billet : PF P w K mg base "billet" 1 f_billet ["x", "y"] (spI2 (fun v_x v_y => -48 ≤ v_x ∧ v_x ≤ 48 ∧ -48 ≤ v_y ∧ v_y ≤ 48) (fun v_x v_y => V.bl (g_billet v_x v_y))) := ⟨⟨_, ok_billet Ff_billet (PySem.W.mg_none_of X G z_abs), bf_billet⟩, kf_billet, PySem.W.mg_of X G af_billet⟩
    have p_mullet : PF P w K mg base "mullet" 1 f_mullet ["x", "y"] (spI2 (fun v_x v_y => -48 ≤ v_x ∧ v_x ≤ 48 ∧ -48 ≤ v_y ∧ v_y ≤ 48) (fun v_x v_y => V.bl (g_mullet v_x v_y))) := ⟨⟨_, ok_mullet Ff_mullet (PySem.W.mg_none_of X G z_abs), bf_mullet⟩, kf_mullet, PySem.W.mg_of X G af_mullet⟩
    have p_crescent : PF P w K mg base "crescent" 3 f_crescent ["x", "y"] (spI2 (fun v_x v_y => -48 ≤ v_x ∧ v_x ≤ 48 ∧ -48 ≤ v_y ∧ v_y ≤ 48) (fun v_x v_y => V.bl (g_crescent v_x v_y))) := ⟨⟨_, ok_crescent Ff_crescent p_distance p_roundel, bf_crescent⟩, kf_crescent, PySem.W.mg_of X G af_crescent⟩
    have p_increscent : PF P w K mg base "increscent" 3 f_increscent ["x", "y"] (spI2 (fun v_x v_y => -48 ≤ v_x ∧ v_x ≤ 48 ∧ -48 ≤ v_y ∧ v_y ≤ 48) (fun v_x v_y => V.bl (g_increscent v_x v_y))) := ⟨⟨_, ok_increscent Ff_increscent p_distance p_roundel, bf_increscent⟩, kf_increscent, PySem.W.mg_of X G af_increscent⟩
    have p_cross_charges : PF P w K mg base "cross_charges" 1 f_cross_charges ["x", "y"] (spI2 (fun v_x v_y => -48 ≤ v_x ∧ v_x ≤ 48 ∧ -48 ≤ v_y ∧ v_y ≤ 48) (fun v_x v_y => V.bl (g_cross_charges v_x v_y))) := ⟨⟨_, ok_cross_charges Ff_cross_charges (PySem.W.mg_none_of X G z_abs), bf_cross_charges⟩, kf_cross_charges, PySem.W.mg_of X G af_cross_charges⟩
    have p_saltire_charges : PF P w K mg base "saltire_charges" 1 f_saltire_charges ["x", "y"] (spI2 (fun v_x v_y => -48 ≤ v_x ∧ v_x ≤ 48 ∧ -48 ≤ v_y ∧ v_y ≤ 48) (fun v_x v_y => V.bl (g_saltire_charges v_x v_y))) := ⟨⟨_, ok_saltire_charges Ff_saltire_charges (PySem.W.mg_none_of X G z_abs), bf_saltire_charges⟩, kf_saltire_charges, PySem.W.mg_of X G af_saltire_charges⟩
    have p_escutcheon : PF P w K mg base "escutcheon" 1 f_escutcheon ["x", "y"] (spI2 (fun v_x v_y => -48 ≤ v_x ∧ v_x ≤ 48 ∧ -48 ≤ v_y ∧ v_y ≤ 48) (fun v_x v_y => V.bl (g_escutcheon v_x v_y))) := ⟨⟨_, ok_escutcheon Ff_escutcheon (PySem.W.mg_none_of X G z_abs), bf_escutcheon⟩, kf_escutcheon, PySem.W.mg_of X G af_escutcheon⟩
    have p_tower : PF P w K mg base "tower" 1 f_tower ["x", "y"] (spI2 (fun v_x v_y => -48 ≤ v_x ∧ v_x ≤ 48 ∧ -48 ≤ v_y ∧ v_y ≤ 48) (fun v_x v_y => V.bl (g_tower v_x v_y))) := ⟨⟨_, ok_tower Ff_tower (PySem.W.mg_none_of X G z_abs), bf_tower⟩, kf_tower, PySem.W.mg_of X G af_tower⟩
    have p_sword : PF P w K mg base "sword" 1 f_sword ["x", "y"] (spI2 (fun v_x v_y => -48 ≤ v_x ∧ v_x ≤ 48 ∧ -48 ≤ v_y ∧ v_y ≤ 48) (fun v_x v_y => V.bl (g_sword v_x v_y))) := ⟨⟨_, ok_sword Ff_sword (PySem.W.mg_none_of X G z_abs), bf_sword⟩, kf_sword, PySem.W.mg_of X G af_sword⟩
    have p_wheel : PF P w K mg base "wheel" 2 f_wheel ["x", "y"] (spI2 (fun v_x v_y => -48 ≤ v_x ∧ v_x ≤ 48 ∧ -48 ≤ v_y ∧ v_y ≤ 48) (fun v_x v_y => V.bl (g_wheel v_x v_y))) := ⟨⟨_, ok_wheel Ff_wheel p_distance (PySem.W.mg_none_of X G z_abs), bf_wheel⟩, kf_wheel, PySem.W.mg_of X G af_wheel⟩
    have p_arrow : PF P w K mg base "arrow" 1 f_arrow ["x", "y"] (spI2 (fun v_x v_y => -48 ≤ v_x ∧ v_x ≤ 48 ∧ -48 ≤ v_y ∧ v_y ≤ 48) (fun v_x v_y => V.bl (g_arrow v_x v_y))) := ⟨⟨_, ok_arrow Ff_arrow (PySem.W.mg_none_of X G z_abs), bf_arrow⟩, kf_arrow, PySem.W.mg_of X G af_arrow⟩
    have p_part_middle : PF P w K mg base "part_middle" 1 f_part_middle ["length", "k", "parts"] (spI3 (fun v_length v_k v_parts => 0 ≤ v_k ∧ v_k < 20 ∧ 0 < v_parts ∧ v_parts < 20) (fun v_length v_k v_parts => V.int (g_part_middle v_length v_k v_parts))) := ⟨⟨_, ok_part_middle Ff_part_middle, bf_part_middle⟩, kf_part_middle, PySem.W.mg_of X G af_part_middle⟩
    have p_bend_within : PF P w K mg base "bend_within" 4 f_bend_within ["p", "r", "line", "reach"] (spI4 (fun v_p v_r v_line v_reach => 0 ≤ v_line ∧ v_line < 6) (fun v_p v_r v_line v_reach => V.bl (g_bend_within v_p v_r v_line v_reach))) := ⟨⟨_, ok_bend_within Ff_bend_within p_bend_across p_bend_offset (PySem.W.mg_none_of X G z_abs), bf_bend_within⟩, kf_bend_within, PySem.W.mg_of X G af_bend_within⟩
    have p_sinister_within : PF P w K mg base "sinister_within" 4 f_sinister_within ["p", "r", "line", "reach"] (spI4 (fun v_p v_r v_line v_reach => 0 ≤ v_line ∧ v_line < 6) (fun v_p v_r v_line v_reach => V.bl (g_sinister_within v_p v_r v_line v_reach))) := ⟨⟨_, ok_sinister_within Ff_sinister_within p_sinister_across p_sinister_offset (PySem.W.mg_none_of X G z_abs), bf_sinister_within⟩, kf_sinister_within, PySem.W.mg_of X G af_sinister_within⟩
    have p_chief : PF P w K mg base "chief" 3 f_chief ["p", "r", "line"] (spI3 (fun v_p v_r v_line => 0 ≤ v_line ∧ v_line < 6) (fun v_p v_r v_line => V.bl (g_chief v_p v_r v_line))) := ⟨⟨_, ok_chief Ff_chief p_offset, bf_chief⟩, kf_chief, PySem.W.mg_of X G af_chief⟩
    have p_base : PF P w K mg base "base" 3 f_base ["p", "r", "line"] (spI3 (fun v_p v_r v_line => 0 ≤ v_line ∧ v_line < 6) (fun v_p v_r v_line => V.bl (g_base v_p v_r v_line))) := ⟨⟨_, ok_base Ff_base p_offset, bf_base⟩, kf_base, PySem.W.mg_of X G af_base⟩
    have p_pale : PF P w K mg base "pale" 3 f_pale ["p", "r", "line"] (spI3 (fun v_p v_r v_line => 0 ≤ v_line ∧ v_line < 6) (fun v_p v_r v_line => V.bl (g_pale v_p v_r v_line))) := ⟨⟨_, ok_pale Ff_pale p_offset, bf_pale⟩, kf_pale, PySem.W.mg_of X G af_pale⟩
    have p_fess : PF P w K mg base "fess" 3 f_fess ["p", "r", "line"] (spI3 (fun v_p v_r v_line => 0 ≤ v_line ∧ v_line < 6) (fun v_p v_r v_line => V.bl (g_fess v_p v_r v_line))) := ⟨⟨_, ok_fess Ff_fess p_offset, bf_fess⟩, kf_fess, PySem.W.mg_of X G af_fess⟩
    have p_bend : PF P w K mg base "bend" 5 f_bend ["p", "r", "line"] (spI3 (fun v_p v_r v_line => 0 ≤ v_line ∧ v_line < 6) (fun v_p v_r v_line => V.bl (g_bend v_p v_r v_line))) := ⟨⟨_, ok_bend Ff_bend p_bend_within, bf_bend⟩, kf_bend, PySem.W.mg_of X G af_bend⟩
    have p_bend_sinister : PF P w K mg base "bend_sinister" 5 f_bend_sinister ["p", "r", "line"] (spI3 (fun v_p v_r v_line => 0 ≤ v_line ∧ v_line < 6) (fun v_p v_r v_line => V.bl (g_bend_sinister v_p v_r v_line))) := ⟨⟨_, ok_bend_sinister Ff_bend_sinister p_sinister_within, bf_bend_sinister⟩, kf_bend_sinister, PySem.W.mg_of X G af_bend_sinister⟩
    have p_chevron : PF P w K mg base "chevron" 3 f_chevron ["p", "r", "line"] (spI3 (fun v_p v_r v_line => 0 ≤ v_line ∧ v_line < 6) (fun v_p v_r v_line => V.bl (g_chevron v_p v_r v_line))) := ⟨⟨_, ok_chevron Ff_chevron p_from_middle p_offset, bf_chevron⟩, kf_chevron, PySem.W.mg_of X G af_chevron⟩
    have p_cross_ordinaries : PF P w K mg base "cross_ordinaries" 3 f_cross_ordinaries ["p", "r", "line"] (spI3 (fun v_p v_r v_line => 0 ≤ v_line ∧ v_line < 6) (fun v_p v_r v_line => V.bl (g_cross_ordinaries v_p v_r v_line))) := ⟨⟨_, ok_cross_ordinaries Ff_cross_ordinaries p_offset, bf_cross_ordinaries⟩, kf_cross_ordinaries, PySem.W.mg_of X G af_cross_ordinaries⟩
    have p_saltire_ordinaries : PF P w K mg base "saltire_ordinaries" 5 f_saltire_ordinaries ["p", "r", "line"] (spI3 (fun v_p v_r v_line => 0 ≤ v_line ∧ v_line < 6) (fun v_p v_r v_line => V.bl (g_saltire_ordinaries v_p v_r v_line))) := ⟨⟨_, ok_saltire_ordinaries Ff_saltire_ordinaries p_bend_within p_sinister_within, bf_saltire_ordinaries⟩, kf_saltire_ordinaries, PySem.W.mg_of X G af_saltire_ordinaries⟩
    have p_pile : PF P w K mg base "pile" 3 f_pile ["p", "r", "line"] (spI3 (fun v_p v_r v_line => 0 ≤ v_line ∧ v_line < 6) (fun v_p v_r v_line => V.bl (g_pile v_p v_r v_line))) := ⟨⟨_, ok_pile Ff_pile p_from_middle p_offset, bf_pile⟩, kf_pile, PySem.W.mg_of X G af_pile⟩
    have p_bordure : PF P w K mg base "bordure" 3 f_bordure ["p", "r", "line"] (spI3 (fun v_p v_r v_line => 0 ≤ v_line ∧ v_line < 6) (fun v_p v_r v_line => V.bl (g_bordure v_p v_r v_line))) := ⟨⟨_, ok_bordure Ff_bordure p_offset, bf_bordure⟩, kf_bordure, PySem.W.mg_of X G af_bordure⟩
    have p_canton : PF P w K mg base "canton" 3 f_canton ["p", "r", "line"] (spI3 (fun v_p v_r v_line => 0 ≤ v_line ∧ v_line < 6) (fun v_p v_r v_line => V.bl (g_canton v_p v_r v_line))) := ⟨⟨_, ok_canton Ff_canton p_offset, bf_canton⟩, kf_canton, PySem.W.mg_of X G af_canton⟩
    have p_quarter : PF P w K mg base "quarter" 3 f_quarter ["p", "r", "line"] (spI3 (fun v_p v_r v_line => 0 ≤ v_line ∧ v_line < 6) (fun v_p v_r v_line => V.bl (g_quarter v_p v_r v_line))) := ⟨⟨_, ok_quarter Ff_quarter p_offset, bf_quarter⟩, kf_quarter, PySem.W.mg_of X G af_quarter⟩
    have TP : Tab P w K mg base 6 ["p", "r", "line"] spT3 [f_per_pale, f_per_fess, f_per_bend, f_per_bend_sinister, f_per_chevron, f_per_saltire, f_quarterly, f_gyronny] := .cons (p_per_pale.i3 (by decide) (cv3 fa0)) (.cons (p_per_fess.i3 (by decide) (cv3 fa1)) (.cons (p_per_bend.i3 (by decide) (cv3 fa2)) (.cons (p_per_bend_sinister.i3 (by decide) (cv3 fa3)) (.cons (p_per_chevron.i3 (by decide) (cv3 fa4)) (.cons (p_per_saltire.i3 (by decide) (cv3 fa5)) (.cons (p_quarterly.i3 (by decide) (cv3 fa6)) (.cons (p_gyronny.i3 (by decide) (cv3 fa7)) (.nil))))))))
    have TV : Tab P w K mg base 6 ["p", "r", "n", "line"] spT4 [f_barry, f_paly, f_bendy, f_bendy_sinister, f_chevronny, f_chequy, f_lozengy] := .cons (p_barry.i4 (by decide) (cv4 pc0)) (.cons (p_paly.i4 (by decide) (cv4 pc1)) (.cons (p_bendy.i4 (by decide) (cv4 pc2)) (.cons (p_bendy_sinister.i4 (by decide) (cv4 pc3)) (.cons (p_chevronny.i4 (by decide) (cv4 pc4)) (.cons (p_chequy.i4 (by decide) (cv4 pc5)) (.cons (p_lozengy.i4 (by decide) (cv4 pc6)) (.nil)))))))
    have TC : Tab P w K mg base 3 ["x", "y"] spTC [f_roundel, f_annulet, f_lozenge, f_mascle, f_fusil, f_billet, f_mullet, f_crescent, f_increscent, f_cross_charges, f_saltire_charges, f_escutcheon, f_tower, f_sword, f_wheel, f_arrow] := .cons (p_roundel.i2 (by decide) (cv2 ch0)) (.cons (p_annulet.i2 (by decide) (cv2 ch1)) (.cons (p_lozenge.i2 (by decide) (cv2 ch2)) (.cons (p_mascle.i2 (by decide) (cv2 ch3)) (.cons (p_fusil.i2 (by decide) (cv2 ch4)) (.cons (p_billet.i2 (by decide) (cv2 ch5)) (.cons (p_mullet.i2 (by decide) (cv2 ch6)) (.cons (p_crescent.i2 (by decide) (cv2 ch7)) (.cons (p_increscent.i2 (by decide) (cv2 ch8)) (.cons (p_cross_charges.i2 (by decide) (cv2 ch9)) (.cons (p_saltire_charges.i2 (by decide) (cv2 ch10)) (.cons (p_escutcheon.i2 (by decide) (cv2 ch11)) (.cons (p_tower.i2 (by decide) (cv2 ch12)) (.cons (p_sword.i2 (by decide) (cv2 ch13)) (.cons (p_wheel.i2 (by decide) (cv2 ch14)) (.cons (p_arrow.i2 (by decide) (cv2 ch15)) (.nil))))))))))))))))
    have TO : Tab P w K mg base 5 ["p", "r", "line"] spTO [f_chief, f_base, f_pale, f_fess, f_bend, f_bend_sinister, f_chevron, f_cross_ordinaries, f_saltire_ordinaries, f_pile, f_bordure, f_canton, f_quarter] := .cons (p_chief.i3 (by decide) (cv3 or0)) (.cons (p_base.i3 (by decide) (cv3 or1)) (.cons (p_pale.i3 (by decide) (cv3 or2)) (.cons (p_fess.i3 (by decide) (cv3 or3)) (.cons (p_bend.i3 (by decide) (cv3 or4)) (.cons (p_bend_sinister.i3 (by decide) (cv3 or5)) (.cons (p_chevron.i3 (by decide) (cv3 or6)) (.cons (p_cross_ordinaries.i3 (by decide) (cv3 or7)) (.cons (p_saltire_ordinaries.i3 (by decide) (cv3 or8)) (.cons (p_pile.i3 (by decide) (cv3 or9)) (.cons (p_bordure.i3 (by decide) (cv3 or10)) (.cons (p_canton.i3 (by decide) (cv3 or11)) (.cons (p_quarter.i3 (by decide) (cv3 or12)) (.nil)))))))))))))
    have p_has_first : PF P w K mg base "has_first" 7 f_has_first ["field", "p", "r"] (spFP CF fun f p r => .bl (hf f p r)) := ⟨⟨_, ok_has_first Ff_has_first U.F (U.i "PARTED" 1 (by decide +kernel)) (U.i "VARIED" 2 (by decide +kernel)) (PySem.W.mg_of X G aaPW) (PySem.W.mg_of X G aaVW) saPW saVW rfl rfl TP TV, bf_has_first⟩, kf_has_first, PySem.W.mg_of X G af_has_first⟩
    have p_field_tincture : PF P w K mg base "field_tincture" 8 f_field_tincture ["field", "p", "r"] (spFP CF fun f p r => vn (f.at_ p r)) := ⟨⟨_, ok_field_tincture Ff_field_tincture U.F p_has_first, bf_field_tincture⟩, kf_field_tincture, PySem.W.mg_of X G af_field_tincture⟩
    have p_counterchanged_tincture : PF P w K mg base "counterchanged_tincture" 8 f_counterchanged_tincture ["field", "p", "r"] (spFP CF fun f p r => vn (Fill.counter.at_ f p r)) := ⟨⟨_, ok_counterchanged_tincture Ff_counterchanged_tincture U.F p_has_first, bf_counterchanged_tincture⟩, kf_counterchanged_tincture, PySem.W.mg_of X G af_counterchanged_tincture⟩
    have p_charge_has : PF P w K mg base "charge_has" 4 f_charge_has ["charge", "x", "y"] (spCH) := ⟨⟨_, ok_charge_has Ff_charge_has ⟨_, PySem.W.mg_of X G ac_REACH⟩ (PySem.W.mg_none_of X G z_abs) (PySem.W.mg_of X G aaBC) saBC rfl TC, bf_charge_has⟩, kf_charge_has, PySem.W.mg_of X G af_charge_has⟩
    have p_ordinary_has : PF P w K mg base "ordinary_has" 6 f_ordinary_has ["ordinary", "line", "p", "r"] (spOH) := ⟨⟨_, ok_ordinary_has Ff_ordinary_has (PySem.W.mg_of X G aaBO) saBO rfl TO, bf_ordinary_has⟩, kf_ordinary_has, PySem.W.mg_of X G af_ordinary_has⟩
    have p_middles_in_rows : PF P w K mg base "middles_in_rows" 2 f_middles_in_rows ["how_many"] (spMR) := ⟨⟨_, ok_middles_in_rows Ff_middles_in_rows RW ⟨_, PySem.W.mg_of X G ac_WIDTH⟩ ⟨_, PySem.W.mg_of X G ac_HEIGHT⟩ (PySem.W.mg_none_of X G z_enumerate) (PySem.W.mg_none_of X G z_range) (PySem.W.mg_none_of X G z_len) p_part_middle, bf_middles_in_rows⟩, kf_middles_in_rows, PySem.W.mg_of X G af_middles_in_rows⟩
    have p_middle : PF P w K mg base "middle" 2 f_middle ["manner", "k", "how_many"] (spMd) := ⟨⟨_, ok_middle Ff_middle M p_part_middle, bf_middle⟩, kf_middle, PySem.W.mg_of X G af_middle⟩
    have p_group_middles : PF P w K mg base "group_middles" 3 f_group_middles ["manner", "how_many"] (spGM) := ⟨⟨_, ok_group_middles Ff_group_middles M (PySem.W.mg_none_of X G z_range) p_middles_in_rows p_middle, bf_group_middles⟩, kf_group_middles, PySem.W.mg_of X G af_group_middles⟩
    have p_half_before_size : PF P w K mg base "half_before_size" 1 f_half_before_size ["manner", "how_many"] (spHB) := ⟨⟨_, ok_half_before_size Ff_half_before_size RW M (PySem.W.mg_none_of X G z_len) (PySem.W.mg_none_of X G z_min) (PySem.W.mg_none_of X G z_max), bf_half_before_size⟩, kf_half_before_size, PySem.W.mg_of X G af_half_before_size⟩
    have p_half_side : PF P w K mg base "half_side" 2 f_half_side ["manner", "how_many", "size"] (spHS) := ⟨⟨_, ok_half_side Ff_half_side p_half_before_size, bf_half_side⟩, kf_half_side, PySem.W.mg_of X G af_half_side⟩
    have p_charges_have : PF P w K mg base "charges_have" 5 f_charges_have ["charge", "half", "middles", "p", "r"] (spCV) := ⟨⟨_, ok_charges_have Ff_charges_have M p_charge_has, bf_charges_have⟩, kf_charges_have, PySem.W.mg_of X G af_charges_have⟩
    have p_group_has_points : PF P w K mg base "group_has_points" 6 f_group_has_points ["group", "points"] (spGP CF CO CG) := ⟨⟨_, ok_group_has_points Ff_group_has_points U.G p_half_side p_group_middles p_charges_have, bf_group_has_points⟩, kf_group_has_points, PySem.W.mg_of X G af_group_has_points⟩
    have p_layer_has_points : PF P w K mg base "layer_has_points" 7 f_layer_has_points ["layer", "points"] (spHP CF CO CG) := ⟨⟨_, ok_layer_has_points Ff_layer_has_points U.O TI p_ordinary_has p_group_has_points, bf_layer_has_points⟩, kf_layer_has_points, PySem.W.mg_of X G af_layer_has_points⟩
    have p_layer_tincture : PF P w K mg base "layer_tincture" 9 f_layer_tincture ["layer", "arms_field", "p", "r"] (spLT CF CO CG) := ⟨⟨_, ok_layer_tincture Ff_layer_tincture U.O U.G p_field_tincture p_counterchanged_tincture, bf_layer_tincture⟩, kf_layer_tincture, PySem.W.mg_of X G af_layer_tincture⟩
    have gDP : FnOk P w K mg base (CXx P w) 1 f_drawn_points _ [] spDP := ok_drawn_points Ff_drawn_points W
    have p_field_drawing : PF P w K mg base "field_drawing" 9 f_field_drawing ["field"] (spFDr CF) := ⟨⟨_, ok_field_drawing Ff_field_drawing gDP bf_drawn_points kf_drawn_points (PySem.W.mg_of X G af_drawn_points) p_field_tincture, bf_field_drawing⟩, kf_field_drawing, PySem.W.mg_of X G af_field_drawing⟩
    have p_cover_at : PF P w K mg base "cover_at" 10 f_cover_at ["layer", "arms_field", "point", "held"] (spCA CF CO CG) := ⟨⟨_, ok_cover_at Ff_cover_at p_layer_tincture, bf_cover_at⟩, kf_cover_at, PySem.W.mg_of X G af_cover_at⟩
    have p_layer_cover : PF P w K mg base "layer_cover" 11 f_layer_cover ["layer", "arms_field"] (spLC CF CO CG) := ⟨⟨_, ok_layer_cover Ff_layer_cover W gDP bf_drawn_points kf_drawn_points (PySem.W.mg_of X G af_drawn_points) p_layer_has_points p_cover_at, bf_layer_cover⟩, kf_layer_cover, PySem.W.mg_of X G af_layer_cover⟩
    have p_laid_over : PF P w K mg base "laid_over" 1 f_laid_over ["below", "cover"] (spLO) := ⟨⟨_, ok_laid_over Ff_laid_over W, bf_laid_over⟩, kf_laid_over, PySem.W.mg_of X G af_laid_over⟩
    have p_arms_drawing : PF P w K mg base "arms_drawing" 12 f_arms_drawing ["arms"] (spAD CF CO CG CA) := ⟨⟨_, ok_arms_drawing Ff_arms_drawing U.A p_field_drawing p_laid_over p_layer_cover, bf_arms_drawing⟩, kf_arms_drawing, PySem.W.mg_of X G af_arms_drawing⟩
    have p_row_bytes : PF P w K mg base "row_bytes" 1 f_row_bytes ["row"] (spRB) := ⟨⟨_, ok_row_bytes Ff_row_bytes (PySem.W.mg_none_of X G z_enumerate) (PySem.W.mg_none_of X G z_len), bf_row_bytes⟩, kf_row_bytes, PySem.W.mg_of X G af_row_bytes⟩
    have p_drawing_bytes : PF P w K mg base "drawing_bytes" 2 f_drawing_bytes ["drawn"] (spDB) := ⟨⟨_, ok_drawing_bytes Ff_drawing_bytes W (PySem.W.mg_none_of X G z_list) (PySem.W.mg_of X G aaAH) sAH p_row_bytes, bf_drawing_bytes⟩, kf_drawing_bytes, PySem.W.mg_of X G af_drawing_bytes⟩
    have p_with_length : PF P w K mg base "with_length" 1 f_with_length ["data"] (spWL) := ⟨⟨_, ok_with_length Ff_with_length (PySem.W.mg_none_of X G z_len), bf_with_length⟩, kf_with_length, PySem.W.mg_of X G af_with_length⟩
    exact ok_draw Ff_draw T U ⟨_, PySem.W.mg_of X G ac_NOT_WELL_MADE⟩ g9 bfRA kfRA p_with_length p_drawing_bytes p_arms_drawing
end Dr3
open PySem PySem.W PyProof.Rows
set_option maxRecDepth 100000 in
set_option maxHeartbeats 0 in
theorem PySem.Challenge.cw_shieldwords_s03_draw_holds : PySem.Challenge.rw_shieldwords_s03_draw.Holds := by
  w_on; refine PySem.Challenge.hd_s03_draw ?_
  k_fillS
  refine L2.walk_specX (r := PySem.Challenge.rw_shieldwords_s03_draw) (k := 13) (CX := fun w => L2.CXx PySem.Challenge.rw_shieldwords_s03_draw.prog w) (ps := ["a"]) (sp := Dr3.spDr) (by decide +kernel) rfl rfl ⟨rfl, by decide, by decide⟩ (fun w h Y => PySem.W.kIn_of Y) ?F ?S ?C
  case F =>
    intro w mg fa h Y KX G hmg
    refine' Dr3.all_mk KX G hmg ?aCE ?lCE ?lNE ?oNE ?iNE ?n0NE ?n1NE ?n2NE ?n3NE ?pCE ?aCR ?pgCR ?hdCR ?poCR ?saCR ?mkCR ?kcCR ?noCR_data ?noCR_place ?aCF ?pgCF ?hdCF ?poCF ?saCF ?mkCF ?kcCF ?noCF_kind ?noCF_way ?noCF_pieces ?noCF_line ?noCF_first ?noCF_second ?aCO ?pgCO ?hdCO ?poCO ?saCO ?mkCO ?kcCO ?noCO_ordinary ?noCO_line ?noCO_fill ?aCG ?pgCG ?hdCG ?poCG ?saCG ?mkCG ?kcCG ?noCG_charge ?noCG_how_many ?noCG_manner ?noCG_size ?noCG_fill ?aCA ?pgCA ?hdCA ?poCA ?saCA ?mkCA ?kcCA ?noCA_field ?noCA_layers ?ifE ?lfE ?cfE ?kfE ?afR ?ifR ?lfR ?cfR ?kfR ?afTk ?ifTk ?lfTk ?cfTk ?kfTk ?afTr ?ifTr ?lfTr ?cfTr ?kfTr ?afTo ?ifTo ?lfTo ?cfTo ?kfTo ?afTe ?ifTe ?lfTe ?cfTe ?kfTe ?afF ?ifF ?lfF ?cfF ?kfF ?afO ?ifO ?lfO ?cfO ?kfO ?afG ?ifG ?lfG ?cfG ?kfG ?afA ?ifA ?lfA ?cfA ?kfA ?afRP ?ifRP ?lfRP ?cfRP ?kfRP ?afRT ?ifRT ?lfRT ?cfRT ?kfRT ?afLV ?ifLV ?lfLV ?cfLV ?kfLV ?afRV ?ifRV ?lfRV ?cfRV ?kfRV ?afRF ?ifRF ?lfRF ?cfRF ?kfRF ?afFL ?ifFL ?lfFL ?cfFL ?kfFL ?afOL ?ifOL ?lfOL ?cfOL ?kfOL ?afGL ?ifGL ?lfGL ?cfGL ?kfGL ?afRL ?ifRL ?lfRL ?cfRL ?kfRL ?afRA ?ifRA ?lfRA ?cfRA ?kfRA ?af_straight ?lf_straight ?cf_straight ?kf_straight ?af_wavy ?lf_wavy ?cf_wavy ?kf_wavy ?af_embattled ?lf_embattled ?cf_embattled ?kf_embattled ?af_indented ?lf_indented ?cf_indented ?kf_indented ?af_engrailed ?lf_engrailed ?cf_engrailed ?kf_engrailed ?af_invected ?lf_invected ?cf_invected ?kf_invected ?af_offset ?lf_offset ?cf_offset ?kf_offset ?af_bend_across ?lf_bend_across ?cf_bend_across ?kf_bend_across ?af_bend_along ?lf_bend_along ?cf_bend_along ?kf_bend_along ?af_mirrored ?lf_mirrored ?cf_mirrored ?kf_mirrored ?af_sinister_across ?lf_sinister_across ?cf_sinister_across ?kf_sinister_across ?af_sinister_along ?lf_sinister_along ?cf_sinister_along ?kf_sinister_along ?af_bend_offset ?lf_bend_offset ?cf_bend_offset ?kf_bend_offset ?af_sinister_offset ?lf_sinister_offset ?cf_sinister_offset ?kf_sinister_offset ?af_from_middle ?lf_from_middle ?cf_from_middle ?kf_from_middle ?af_per_pale ?lf_per_pale ?cf_per_pale ?kf_per_pale ?af_per_fess ?lf_per_fess ?cf_per_fess ?kf_per_fess ?af_per_bend ?lf_per_bend ?cf_per_bend ?kf_per_bend ?af_per_bend_sinister ?lf_per_bend_sinister ?cf_per_bend_sinister ?kf_per_bend_sinister ?af_per_chevron ?lf_per_chevron ?cf_per_chevron ?kf_per_chevron ?af_per_saltire ?lf_per_saltire ?cf_per_saltire ?kf_per_saltire ?af_quarterly ?lf_quarterly ?cf_quarterly ?kf_quarterly ?af_gyronny ?lf_gyronny ?cf_gyronny ?kf_gyronny ?af_barry ?lf_barry ?cf_barry ?kf_barry ?af_paly ?lf_paly ?cf_paly ?kf_paly ?af_bendy ?lf_bendy ?cf_bendy ?kf_bendy ?af_bendy_sinister ?lf_bendy_sinister ?cf_bendy_sinister ?kf_bendy_sinister ?af_chevronny ?lf_chevronny ?cf_chevronny ?kf_chevronny ?af_chequy ?lf_chequy ?cf_chequy ?kf_chequy ?af_lozengy ?lf_lozengy ?cf_lozengy ?kf_lozengy ?af_distance ?lf_distance ?cf_distance ?kf_distance ?af_roundel ?lf_roundel ?cf_roundel ?kf_roundel ?af_annulet ?lf_annulet ?cf_annulet ?kf_annulet ?af_lozenge ?lf_lozenge ?cf_lozenge ?kf_lozenge ?af_mascle ?lf_mascle ?cf_mascle ?kf_mascle ?af_fusil ?lf_fusil ?cf_fusil ?kf_fusil ?af_billet ?lf_billet ?cf_billet ?kf_billet ?af_mullet ?lf_mullet ?cf_mullet ?kf_mullet ?af_crescent ?lf_crescent ?cf_crescent ?kf_crescent ?af_increscent ?lf_increscent ?cf_increscent ?kf_increscent ?af_cross_charges ?lf_cross_charges ?cf_cross_charges ?kf_cross_charges ?af_saltire_charges ?lf_saltire_charges ?cf_saltire_charges ?kf_saltire_charges ?af_escutcheon ?lf_escutcheon ?cf_escutcheon ?kf_escutcheon ?af_tower ?lf_tower ?cf_tower ?kf_tower ?af_sword ?lf_sword ?cf_sword ?kf_sword ?af_wheel ?lf_wheel ?cf_wheel ?kf_wheel ?af_arrow ?lf_arrow ?cf_arrow ?kf_arrow ?af_part_middle ?lf_part_middle ?cf_part_middle ?kf_part_middle ?af_bend_within ?lf_bend_within ?cf_bend_within ?kf_bend_within ?af_sinister_within ?lf_sinister_within ?cf_sinister_within ?kf_sinister_within ?af_chief ?lf_chief ?cf_chief ?kf_chief ?af_base ?lf_base ?cf_base ?kf_base ?af_pale ?lf_pale ?cf_pale ?kf_pale ?af_fess ?lf_fess ?cf_fess ?kf_fess ?af_bend ?lf_bend ?cf_bend ?kf_bend ?af_bend_sinister ?lf_bend_sinister ?cf_bend_sinister ?kf_bend_sinister ?af_chevron ?lf_chevron ?cf_chevron ?kf_chevron ?af_cross_ordinaries ?lf_cross_ordinaries ?cf_cross_ordinaries ?kf_cross_ordinaries ?af_saltire_ordinaries ?lf_saltire_ordinaries ?cf_saltire_ordinaries ?kf_saltire_ordinaries ?af_pile ?lf_pile ?cf_pile ?kf_pile ?af_bordure ?lf_bordure ?cf_bordure ?kf_bordure ?af_canton ?lf_canton ?cf_canton ?kf_canton ?af_quarter ?lf_quarter ?cf_quarter ?kf_quarter ?af_has_first ?lf_has_first ?cf_has_first ?kf_has_first ?af_field_tincture ?lf_field_tincture ?cf_field_tincture ?kf_field_tincture ?af_counterchanged_tincture ?lf_counterchanged_tincture ?cf_counterchanged_tincture ?kf_counterchanged_tincture ?af_charge_has ?lf_charge_has ?cf_charge_has ?kf_charge_has ?af_middles_in_rows ?lf_middles_in_rows ?cf_middles_in_rows ?kf_middles_in_rows ?af_middle ?lf_middle ?cf_middle ?kf_middle ?af_group_middles ?lf_group_middles ?cf_group_middles ?kf_group_middles ?af_half_before_size ?lf_half_before_size ?cf_half_before_size ?kf_half_before_size ?af_half_side ?lf_half_side ?cf_half_side ?kf_half_side ?af_charges_have ?lf_charges_have ?cf_charges_have ?kf_charges_have ?af_group_has_points ?lf_group_has_points ?cf_group_has_points ?kf_group_has_points ?af_ordinary_has ?lf_ordinary_has ?cf_ordinary_has ?kf_ordinary_has ?af_layer_has_points ?lf_layer_has_points ?cf_layer_has_points ?kf_layer_has_points ?af_layer_tincture ?lf_layer_tincture ?cf_layer_tincture ?kf_layer_tincture ?af_drawn_points ?lf_drawn_points ?cf_drawn_points ?kf_drawn_points ?af_field_drawing ?lf_field_drawing ?cf_field_drawing ?kf_field_drawing ?af_cover_at ?lf_cover_at ?cf_cover_at ?kf_cover_at ?af_layer_cover ?lf_layer_cover ?cf_layer_cover ?kf_layer_cover ?af_laid_over ?lf_laid_over ?cf_laid_over ?kf_laid_over ?af_arms_drawing ?lf_arms_drawing ?cf_arms_drawing ?kf_arms_drawing ?af_row_bytes ?lf_row_bytes ?cf_row_bytes ?kf_row_bytes ?af_drawing_bytes ?lf_drawing_bytes ?cf_drawing_bytes ?kf_drawing_bytes ?af_with_length ?lf_with_length ?cf_with_length ?kf_with_length ?af_draw ?lf_draw ?cf_draw ?kf_draw ?at9 ?ack1 ?ack2 ?ack3 ?ack4 ?ack5 ?ack6 ?ack7 ?ack8 ?ack9 ?ack10 ?ack11 ?ack12 ?ack13 ?ack14 ?ack15 ?ack16 ?ack17 ?ack18 ?ack19 ?ack20 ?ac_WIDTH ?ac_HEIGHT ?ac_REACH ?ac_IN_ROWS ?ac_IN_FESS ?ac_IN_PALE ?ac_IN_BEND ?ac_IN_BEND_SINISTER ?ac_IN_CHIEF ?ac_IN_BASE ?ac_NOT_WELL_MADE ?ac_STEP ?ac_MARGIN ?ac_ROWS_drawings ?ac_COLUMNS ?aaLN ?laLN ?aaPW ?laPW ?aaVW ?laVW ?aaBC ?laBC ?aaBO ?laBO ?aaRT ?laRT ?aaAH ?laAH ?z_ValueError ?z_len ?z_range ?z_abs ?z_enumerate ?z_min ?z_max ?z_isinstance ?z_zip ?z_list ?laR0 ?laR1 ?laR2 ?laR3 ?laR4 ?laR5 ?laR6 ?laR7 ?laR8 ?laR9 ?neCF ?neCO ?neCG ?neCA ?neGO ?haO ?haG ?hnO ?htkO ?hmO ?hmG ?icO ?tyO ?subGO
    (case aCE => k_is)
    (case lCE => k_is)
    (case lNE => k_is)
    (case oNE => first | rfl | decide +kernel)
    (case iNE => k_is)
    (case n0NE => k_is)
    (case n1NE => k_is)
    (case n2NE => k_is)
    (case n3NE => k_is)
    (case pCE => k_is)
    (case aCR => k_is)
    (case pgCR => k_is)
    (case hdCR => k_is)
    (case poCR => k_is)
    (case saCR => k_is)
    (case mkCR => k_is)
    (case kcCR => k_is)
    (case noCR_data => k_is)
    (case noCR_place => k_is)
    (case aCF => k_is)
    (case pgCF => k_is)
    (case hdCF => k_is)
    (case poCF => k_is)
    (case saCF => k_is)
    (case mkCF => k_is)
    (case kcCF => k_is)
    (case noCF_kind => k_is)
    (case noCF_way => k_is)
    (case noCF_pieces => k_is)
    (case noCF_line => k_is)
    (case noCF_first => k_is)
    (case noCF_second => k_is)
    (case aCO => k_is)
    (case pgCO => k_is)
    (case hdCO => k_is)
    (case poCO => k_is)
    (case saCO => k_is)
    (case mkCO => k_is)
    (case kcCO => k_is)
    (case noCO_ordinary => k_is)
    (case noCO_line => k_is)
    (case noCO_fill => k_is)
    (case aCG => k_is)
    (case pgCG => k_is)
    (case hdCG => k_is)
    (case poCG => k_is)
    (case saCG => k_is)
    (case mkCG => k_is)
    (case kcCG => k_is)
    (case noCG_charge => k_is)
    (case noCG_how_many => k_is)
    (case noCG_manner => k_is)
    (case noCG_size => k_is)
    (case noCG_fill => k_is)
    (case aCA => k_is)
    (case pgCA => k_is)
    (case hdCA => k_is)
    (case poCA => k_is)
    (case saCA => k_is)
    (case mkCA => k_is)
    (case kcCA => k_is)
    (case noCA_field => k_is)
    (case noCA_layers => k_is)
    (case ifE => k_is)
    (case lfE => k_is)
    (case cfE => k_is)
    (case kfE => k_is)
    (case afR => k_is)
    (case ifR => k_is)
    (case lfR => k_is)
    (case cfR => k_is)
    (case kfR => k_is)
    (case afTk => k_is)
    (case ifTk => k_is)
    (case lfTk => k_is)
    (case cfTk => k_is)
    (case kfTk => k_is)
    (case afTr => k_is)
    (case ifTr => k_is)
    (case lfTr => k_is)
    (case cfTr => k_is)
    (case kfTr => k_is)
    (case afTo => k_is)
    (case ifTo => k_is)
    (case lfTo => k_is)
    (case cfTo => k_is)
    (case kfTo => k_is)
    (case afTe => k_is)
    (case ifTe => k_is)
    (case lfTe => k_is)
    (case cfTe => k_is)
    (case kfTe => k_is)
    (case afF => k_is)
    (case ifF => k_is)
    (case lfF => k_is)
    (case cfF => k_is)
    (case kfF => k_is)
    (case afO => k_is)
    (case ifO => k_is)
    (case lfO => k_is)
    (case cfO => k_is)
    (case kfO => k_is)
    (case afG => k_is)
    (case ifG => k_is)
    (case lfG => k_is)
    (case cfG => k_is)
    (case kfG => k_is)
    (case afA => k_is)
    (case ifA => k_is)
    (case lfA => k_is)
    (case cfA => k_is)
    (case kfA => k_is)
    (case afRP => k_is)
    (case ifRP => k_is)
    (case lfRP => k_is)
    (case cfRP => k_is)
    (case kfRP => k_is)
    (case afRT => k_is)
    (case ifRT => k_is)
    (case lfRT => k_is)
    (case cfRT => k_is)
    (case kfRT => k_is)
    (case afLV => k_is)
    (case ifLV => k_is)
    (case lfLV => k_is)
    (case cfLV => k_is)
    (case kfLV => k_is)
    (case afRV => k_is)
    (case ifRV => k_is)
    (case lfRV => k_is)
    (case cfRV => k_is)
    (case kfRV => k_is)
    (case afRF => k_is)
    (case ifRF => k_is)
    (case lfRF => k_is)
    (case cfRF => k_is)
    (case kfRF => k_is)
    (case afFL => k_is)
    (case ifFL => k_is)
    (case lfFL => k_is)
    (case cfFL => k_is)
    (case kfFL => k_is)
    (case afOL => k_is)
    (case ifOL => k_is)
    (case lfOL => k_is)
    (case cfOL => k_is)
    (case kfOL => k_is)
    (case afGL => k_is)
    (case ifGL => k_is)
    (case lfGL => k_is)
    (case cfGL => k_is)
    (case kfGL => k_is)
    (case afRL => k_is)
    (case ifRL => k_is)
    (case lfRL => k_is)
    (case cfRL => k_is)
    (case kfRL => k_is)
    (case afRA => k_is)
    (case ifRA => k_is)
    (case lfRA => k_is)
    (case cfRA => k_is)
    (case kfRA => k_is)
    (case af_straight => k_is)
    (case lf_straight => k_is)
    (case cf_straight => k_is)
    (case kf_straight => k_is)
    (case af_wavy => k_is)
    (case lf_wavy => k_is)
    (case cf_wavy => k_is)
    (case kf_wavy => k_is)
    (case af_embattled => k_is)
    (case lf_embattled => k_is)
    (case cf_embattled => k_is)
    (case kf_embattled => k_is)
    (case af_indented => k_is)
    (case lf_indented => k_is)
    (case cf_indented => k_is)
    (case kf_indented => k_is)
    (case af_engrailed => k_is)
    (case lf_engrailed => k_is)
    (case cf_engrailed => k_is)
    (case kf_engrailed => k_is)
    (case af_invected => k_is)
    (case lf_invected => k_is)
    (case cf_invected => k_is)
    (case kf_invected => k_is)
    (case af_offset => k_is)
    (case lf_offset => k_is)
    (case cf_offset => k_is)
    (case kf_offset => k_is)
    (case af_bend_across => k_is)
    (case lf_bend_across => k_is)
    (case cf_bend_across => k_is)
    (case kf_bend_across => k_is)
    (case af_bend_along => k_is)
    (case lf_bend_along => k_is)
    (case cf_bend_along => k_is)
    (case kf_bend_along => k_is)
    (case af_mirrored => k_is)
    (case lf_mirrored => k_is)
    (case cf_mirrored => k_is)
    (case kf_mirrored => k_is)
    (case af_sinister_across => k_is)
    (case lf_sinister_across => k_is)
    (case cf_sinister_across => k_is)
    (case kf_sinister_across => k_is)
    (case af_sinister_along => k_is)
    (case lf_sinister_along => k_is)
    (case cf_sinister_along => k_is)
    (case kf_sinister_along => k_is)
    (case af_bend_offset => k_is)
    (case lf_bend_offset => k_is)
    (case cf_bend_offset => k_is)
    (case kf_bend_offset => k_is)
    (case af_sinister_offset => k_is)
    (case lf_sinister_offset => k_is)
    (case cf_sinister_offset => k_is)
    (case kf_sinister_offset => k_is)
    (case af_from_middle => k_is)
    (case lf_from_middle => k_is)
    (case cf_from_middle => k_is)
    (case kf_from_middle => k_is)
    (case af_per_pale => k_is)
    (case lf_per_pale => k_is)
    (case cf_per_pale => k_is)
    (case kf_per_pale => k_is)
    (case af_per_fess => k_is)
    (case lf_per_fess => k_is)
    (case cf_per_fess => k_is)
    (case kf_per_fess => k_is)
    (case af_per_bend => k_is)
    (case lf_per_bend => k_is)
    (case cf_per_bend => k_is)
    (case kf_per_bend => k_is)
    (case af_per_bend_sinister => k_is)
    (case lf_per_bend_sinister => k_is)
    (case cf_per_bend_sinister => k_is)
    (case kf_per_bend_sinister => k_is)
    (case af_per_chevron => k_is)
    (case lf_per_chevron => k_is)
    (case cf_per_chevron => k_is)
    (case kf_per_chevron => k_is)
    (case af_per_saltire => k_is)
    (case lf_per_saltire => k_is)
    (case cf_per_saltire => k_is)
    (case kf_per_saltire => k_is)
    (case af_quarterly => k_is)
    (case lf_quarterly => k_is)
    (case cf_quarterly => k_is)
    (case kf_quarterly => k_is)
    (case af_gyronny => k_is)
    (case lf_gyronny => k_is)
    (case cf_gyronny => k_is)
    (case kf_gyronny => k_is)
    (case af_barry => k_is)
    (case lf_barry => k_is)
    (case cf_barry => k_is)
    (case kf_barry => k_is)
    (case af_paly => k_is)
    (case lf_paly => k_is)
    (case cf_paly => k_is)
    (case kf_paly => k_is)
    (case af_bendy => k_is)
    (case lf_bendy => k_is)
    (case cf_bendy => k_is)
    (case kf_bendy => k_is)
    (case af_bendy_sinister => k_is)
    (case lf_bendy_sinister => k_is)
    (case cf_bendy_sinister => k_is)
    (case kf_bendy_sinister => k_is)
    (case af_chevronny => k_is)
    (case lf_chevronny => k_is)
    (case cf_chevronny => k_is)
    (case kf_chevronny => k_is)
    (case af_chequy => k_is)
    (case lf_chequy => k_is)
    (case cf_chequy => k_is)
    (case kf_chequy => k_is)
    (case af_lozengy => k_is)
    (case lf_lozengy => k_is)
    (case cf_lozengy => k_is)
    (case kf_lozengy => k_is)
    (case af_distance => k_is)
    (case lf_distance => k_is)
    (case cf_distance => k_is)
    (case kf_distance => k_is)
    (case af_roundel => k_is)
    (case lf_roundel => k_is)
    (case cf_roundel => k_is)
    (case kf_roundel => k_is)
    (case af_annulet => k_is)
    (case lf_annulet => k_is)
    (case cf_annulet => k_is)
    (case kf_annulet => k_is)
    (case af_lozenge => k_is)
    (case lf_lozenge => k_is)
    (case cf_lozenge => k_is)
    (case kf_lozenge => k_is)
    (case af_mascle => k_is)
    (case lf_mascle => k_is)
    (case cf_mascle => k_is)
    (case kf_mascle => k_is)
    (case af_fusil => k_is)
    (case lf_fusil => k_is)
    (case cf_fusil => k_is)
    (case kf_fusil => k_is)
    (case af_billet => k_is)
    (case lf_billet => k_is)
    (case cf_billet => k_is)
    (case kf_billet => k_is)
    (case af_mullet => k_is)
    (case lf_mullet => k_is)
    (case cf_mullet => k_is)
    (case kf_mullet => k_is)
    (case af_crescent => k_is)
    (case lf_crescent => k_is)
    (case cf_crescent => k_is)
    (case kf_crescent => k_is)
    (case af_increscent => k_is)
    (case lf_increscent => k_is)
    (case cf_increscent => k_is)
    (case kf_increscent => k_is)
    (case af_cross_charges => k_is)
    (case lf_cross_charges => k_is)
    (case cf_cross_charges => k_is)
    (case kf_cross_charges => k_is)
    (case af_saltire_charges => k_is)
    (case lf_saltire_charges => k_is)
    (case cf_saltire_charges => k_is)
    (case kf_saltire_charges => k_is)
    (case af_escutcheon => k_is)
    (case lf_escutcheon => k_is)
    (case cf_escutcheon => k_is)
    (case kf_escutcheon => k_is)
    (case af_tower => k_is)
    (case lf_tower => k_is)
    (case cf_tower => k_is)
    (case kf_tower => k_is)
    (case af_sword => k_is)
    (case lf_sword => k_is)
    (case cf_sword => k_is)
    (case kf_sword => k_is)
    (case af_wheel => k_is)
    (case lf_wheel => k_is)
    (case cf_wheel => k_is)
    (case kf_wheel => k_is)
    (case af_arrow => k_is)
    (case lf_arrow => k_is)
    (case cf_arrow => k_is)
    (case kf_arrow => k_is)
    (case af_part_middle => k_is)
    (case lf_part_middle => k_is)
    (case cf_part_middle => k_is)
    (case kf_part_middle => k_is)
    (case af_bend_within => k_is)
    (case lf_bend_within => k_is)
    (case cf_bend_within => k_is)
    (case kf_bend_within => k_is)
    (case af_sinister_within => k_is)
    (case lf_sinister_within => k_is)
    (case cf_sinister_within => k_is)
    (case kf_sinister_within => k_is)
    (case af_chief => k_is)
    (case lf_chief => k_is)
    (case cf_chief => k_is)
    (case kf_chief => k_is)
    (case af_base => k_is)
    (case lf_base => k_is)
    (case cf_base => k_is)
    (case kf_base => k_is)
    (case af_pale => k_is)
    (case lf_pale => k_is)
    (case cf_pale => k_is)
    (case kf_pale => k_is)
    (case af_fess => k_is)
    (case lf_fess => k_is)
    (case cf_fess => k_is)
    (case kf_fess => k_is)
    (case af_bend => k_is)
    (case lf_bend => k_is)
    (case cf_bend => k_is)
    (case kf_bend => k_is)
    (case af_bend_sinister => k_is)
    (case lf_bend_sinister => k_is)
    (case cf_bend_sinister => k_is)
    (case kf_bend_sinister => k_is)
    (case af_chevron => k_is)
    (case lf_chevron => k_is)
    (case cf_chevron => k_is)
    (case kf_chevron => k_is)
    (case af_cross_ordinaries => k_is)
    (case lf_cross_ordinaries => k_is)
    (case cf_cross_ordinaries => k_is)
    (case kf_cross_ordinaries => k_is)
    (case af_saltire_ordinaries => k_is)
    (case lf_saltire_ordinaries => k_is)
    (case cf_saltire_ordinaries => k_is)
    (case kf_saltire_ordinaries => k_is)
    (case af_pile => k_is)
    (case lf_pile => k_is)
    (case cf_pile => k_is)
    (case kf_pile => k_is)
    (case af_bordure => k_is)
    (case lf_bordure => k_is)
    (case cf_bordure => k_is)
    (case kf_bordure => k_is)
    (case af_canton => k_is)
    (case lf_canton => k_is)
    (case cf_canton => k_is)
    (case kf_canton => k_is)
    (case af_quarter => k_is)
    (case lf_quarter => k_is)
    (case cf_quarter => k_is)
    (case kf_quarter => k_is)
    (case af_has_first => k_is)
    (case lf_has_first => k_is)
    (case cf_has_first => k_is)
    (case kf_has_first => k_is)
    (case af_field_tincture => k_is)
    (case lf_field_tincture => k_is)
    (case cf_field_tincture => k_is)
    (case kf_field_tincture => k_is)
    (case af_counterchanged_tincture => k_is)
    (case lf_counterchanged_tincture => k_is)
    (case cf_counterchanged_tincture => k_is)
    (case kf_counterchanged_tincture => k_is)
    (case af_charge_has => k_is)
    (case lf_charge_has => k_is)
    (case cf_charge_has => k_is)
    (case kf_charge_has => k_is)
    (case af_middles_in_rows => k_is)
    (case lf_middles_in_rows => k_is)
    (case cf_middles_in_rows => k_is)
    (case kf_middles_in_rows => k_is)
    (case af_middle => k_is)
    (case lf_middle => k_is)
    (case cf_middle => k_is)
    (case kf_middle => k_is)
    (case af_group_middles => k_is)
    (case lf_group_middles => k_is)
    (case cf_group_middles => k_is)
    (case kf_group_middles => k_is)
    (case af_half_before_size => k_is)
    (case lf_half_before_size => k_is)
    (case cf_half_before_size => k_is)
    (case kf_half_before_size => k_is)
    (case af_half_side => k_is)
    (case lf_half_side => k_is)
    (case cf_half_side => k_is)
    (case kf_half_side => k_is)
    (case af_charges_have => k_is)
    (case lf_charges_have => k_is)
    (case cf_charges_have => k_is)
    (case kf_charges_have => k_is)
    (case af_group_has_points => k_is)
    (case lf_group_has_points => k_is)
    (case cf_group_has_points => k_is)
    (case kf_group_has_points => k_is)
    (case af_ordinary_has => k_is)
    (case lf_ordinary_has => k_is)
    (case cf_ordinary_has => k_is)
    (case kf_ordinary_has => k_is)
    (case af_layer_has_points => k_is)
    (case lf_layer_has_points => k_is)
    (case cf_layer_has_points => k_is)
    (case kf_layer_has_points => k_is)
    (case af_layer_tincture => k_is)
    (case lf_layer_tincture => k_is)
    (case cf_layer_tincture => k_is)
    (case kf_layer_tincture => k_is)
    (case af_drawn_points => k_is)
    (case lf_drawn_points => k_is)
    (case cf_drawn_points => k_is)
    (case kf_drawn_points => k_is)
    (case af_field_drawing => k_is)
    (case lf_field_drawing => k_is)
    (case cf_field_drawing => k_is)
    (case kf_field_drawing => k_is)
    (case af_cover_at => k_is)
    (case lf_cover_at => k_is)
    (case cf_cover_at => k_is)
    (case kf_cover_at => k_is)
    (case af_layer_cover => k_is)
    (case lf_layer_cover => k_is)
    (case cf_layer_cover => k_is)
    (case kf_layer_cover => k_is)
    (case af_laid_over => k_is)
    (case lf_laid_over => k_is)
    (case cf_laid_over => k_is)
    (case kf_laid_over => k_is)
    (case af_arms_drawing => k_is)
    (case lf_arms_drawing => k_is)
    (case cf_arms_drawing => k_is)
    (case kf_arms_drawing => k_is)
    (case af_row_bytes => k_is)
    (case lf_row_bytes => k_is)
    (case cf_row_bytes => k_is)
    (case kf_row_bytes => k_is)
    (case af_drawing_bytes => k_is)
    (case lf_drawing_bytes => k_is)
    (case cf_drawing_bytes => k_is)
    (case kf_drawing_bytes => k_is)
    (case af_with_length => k_is)
    (case lf_with_length => k_is)
    (case cf_with_length => k_is)
    (case kf_with_length => k_is)
    (case af_draw => k_is)
    (case lf_draw => k_is)
    (case cf_draw => k_is)
    (case kf_draw => k_is)
    (case at9 => k_is)
    (case ack1 => k_is)
    (case ack2 => k_is)
    (case ack3 => k_is)
    (case ack4 => k_is)
    (case ack5 => k_is)
    (case ack6 => k_is)
    (case ack7 => k_is)
    (case ack8 => k_is)
    (case ack9 => k_is)
    (case ack10 => k_is)
    (case ack11 => k_is)
    (case ack12 => k_is)
    (case ack13 => k_is)
    (case ack14 => k_is)
    (case ack15 => k_is)
    (case ack16 => k_is)
    (case ack17 => k_is)
    (case ack18 => k_is)
    (case ack19 => k_is)
    (case ack20 => k_is)
    (case ac_WIDTH => k_is)
    (case ac_HEIGHT => k_is)
    (case ac_REACH => k_is)
    (case ac_IN_ROWS => k_is)
    (case ac_IN_FESS => k_is)
    (case ac_IN_PALE => k_is)
    (case ac_IN_BEND => k_is)
    (case ac_IN_BEND_SINISTER => k_is)
    (case ac_IN_CHIEF => k_is)
    (case ac_IN_BASE => k_is)
    (case ac_NOT_WELL_MADE => k_is)
    (case ac_STEP => k_is)
    (case ac_MARGIN => k_is)
    (case ac_ROWS_drawings => k_is)
    (case ac_COLUMNS => k_is)
    (case aaLN => k_is)
    (case laLN => k_is)
    (case aaPW => k_is)
    (case laPW => k_is)
    (case aaVW => k_is)
    (case laVW => k_is)
    (case aaBC => k_is)
    (case laBC => k_is)
    (case aaBO => k_is)
    (case laBO => k_is)
    (case aaRT => k_is)
    (case laRT => k_is)
    (case aaAH => k_is)
    (case laAH => k_is)
    (case z_ValueError => k_is)
    (case z_len => k_is)
    (case z_range => k_is)
    (case z_abs => k_is)
    (case z_enumerate => k_is)
    (case z_min => k_is)
    (case z_max => k_is)
    (case z_isinstance => k_is)
    (case z_zip => k_is)
    (case z_list => k_is)
    (case laR0 => k_is)
    (case laR1 => k_is)
    (case laR2 => k_is)
    (case laR3 => k_is)
    (case laR4 => k_is)
    (case laR5 => k_is)
    (case laR6 => k_is)
    (case laR7 => k_is)
    (case laR8 => k_is)
    (case laR9 => k_is)
    (case neCF => decide)
    (case neCO => decide)
    (case neCG => decide)
    (case neCA => decide)
    (case neGO => decide)
    (case haO => k_is)
    (case haG => k_is)
    (case hnO => k_is)
    (case htkO => k_is)
    (case hmO => k_is)
    (case hmG => k_is)
    (case icO => k_is)
    (case tyO => k_is)
    (case subGO => k_is)
  case S =>
    intro K H xs a hO hwi hask hx
    cases hx with
    | cons h1 h2 =>
      cases h2
      cases h1 with
      | lst hs ha =>
        have e := L2.ints_dw a.1 _ ha
        subst e
        have q : ((Codec.inLen 0 300 a.1 && a.1.all (Codec.inInt 0 255)) && true) = true := hwi
        rw [Bool.and_eq_true, Bool.and_eq_true] at q
        refine ⟨_, a.1, rfl, fun x hx => Codec.inInt_iff.mp (List.all_eq_true.mp q.1.2 x hx), Dr3.SqF.of hs (fun ys z => ?_), fun H' p hp => .lst (L2.SqL.of hp) (L2.dw_ints _)⟩
        rcases hO _ with y | ⟨ob, u, y⟩ <;> (rw [y] at z; cases z)
  case C =>
    rintro w H s e s' ⟨x, C, d, H', rfl, nx, os, bare, un, hok, hx, hh, hE⟩
    exact hE
