import PyProof.Rows.All
import Wide.All
import OpenK.AllK
import Wide.FinOn
import KE.KLam
import Open.Tops
import PyProof.EqAt
import PyProof.EqKinds
import PyProof.TupleCall
import OpenK.KRaise
import OpenK.KOwn
import KE.KDictSum
import PyProof.Rows.SortWalk
import PyProof.EnumFor
import PyProof.SliceStr2
import PyProof.StrWalks
import KE.KIntText
import KE.IntTextLaws
import PyProof.ExcInit
import PyProof.ExcClass3
import PyProof.InstStore
import PyProof.StationsW
import PyProof.InstStoreFacts
import OpenK.KCls
import KE.KDictList
import PyProof.CompMap
import PyProof.ZipIter
import KE.KMinKey
import KE.KRevIter
import KE.KDictOf
import PyProof.AttrMissHeap
import PyProof.FactsAll.zip
import PyProof.TupleOfStr
import PyProof.ListMulRoad
import PySem.Challenge.RW_ledgerdb_k32_no_room
set_option Elab.async false
set_option linter.all false
set_option maxRecDepth 100000
set_option maxHeartbeats 0
set_option genInjectivity false in
set_option genSizeOf false in
structure PySem.W.Fast where
 (tw8510625027409154015 tw15183986126101165608 tw9204464540718944311 tw9642193775215515153 tw14762801326424355684 tw17157289870432219043 tw13060395316570067539 tw7176150005372695777 tw5076749433065851788 tw13304941316378550394 tw10955269718887645651 tw17029652437495386820 tw7903582620332231040 tw12620254446904977224 tw17365912057619863957 tw14242239357600953707 tw17406292621627348556 tw1196951080140854464 tw11156362282756979572 tw8918293323929935133 tw14878675131190629217 tw4726434634497573406 tw14457225492522120904 tw3622731569942522672 tw7321845267190055189 tw15015943055956530332 tw268110397450477256 tw4277547154669653132 tw13686923705025611942 tw945205705366380424 tw14104631760497451543 tw11905855886186106407 tw15251802420107706883 tw14830243057727675743 tw4312639351286888846 tw14486483006673307015 tw673884470906257978 tw11229916937921292793 tw7734422627928808143 tw10065950018599725043 tw16583606824121049002 tw7720085002712422364 tw13490132831469404483 tw7081730353317820206 tw11432604229647796042 tw16518508606180541272 tw7109304239230145601 tw2942478435028352163 tw15187150993176017391 tw6728739836249207956 tw5223904022802346035 tw10560801616175773117 tw10462574796729461857 tw10218757818583578697 tw1545619508786869765 tw13119203260773381272 tw4838617858846037700 tw7409114612264169471 tw4575036890316884379 tw6527540071745776956 tw6749626473292870899 tw14896758979015641709 tw2979528940652620203 tw4326354919867635488 tw9208073576621473092 tw1411452317486209819 tw2257920095099825806 tw2317333912197953883 tw9039931458450257420 tw11621066932142932794 tw10529759686020245921 tw16503192171719919292 tw749035275084918322 tw7873397500351608191 tw14252549709394840440 tw10537078200517205311 tw15457542375691334749 tw9280291222239330764 tw12757115863251936390 tw8252901170061034703 tw15249567409456821778 tw13787336902628698422 tw18100310958821844762 tw16766735479952875133 tw14795023462697004713 tw16652531183590891640 tw9312003498661420303 tw1736720290060822282 tw4423721912259364174 tw4838829972060475201 tw15870489351166582794 tw8059498498621050679 tw12486137454211957698 tw12131696128801299827 tw6165588048573023438 tw6641048294517815102 tw8351142316247347264 tw16674122491574068379 tw16844666119174130978 tw18332381590758071506 tw1664477348681359999 tw16138904229008526433 tw18189149439462618435 tw15530305143918945064 tw9747678822692929857 tw7399277524342366578 tw15881184307464600982 tw16273521733602762717 tw2330484560729807875 tw10083554281478862376 tw2655177269059849940 tw10075595162301797473 tw2459015782820803585 tw1445589549620710054 tw13777131436035157820 tw444342051653696570 tw1707683253430161325 tw12558805843768754675 tw8343656957835850811 tw4765458058345893607 tw10505327409342051979 tw17897388124493959745 tw4543082148242352303 tw7279449900145747005 tw449937662051907507 tw10320150697189511412 tw4989198652919025647 tw14493726353996769137 tw18000516828655718562 tw10221937908277888392 tw3359481111665946103 tw4424506568416730724 tw3238642789509248907 tw8388338011675824843 tw17922763149357963475 tw2979653345398099944 tw7907569842483423622 tw4904114952367382179 tw3109699978104880100 tw12199699862140309885 tw3137753051270010478 tw10807860417398378552 tw2294469990381636096 tw11381270995225779816 tw8898358284777474989 tw10348372090784970287 tw1246689454019204588 tw17178444329529394582 tw7597071252366569111 tw17420182316418540651 tw18162752143244965829 tw2468679356238992351 tw9768195853046923257 tw6278116982967366203 tw18365882097887902214 tw11450833054555410333 tw15372278877529871028 tw11291801303701453850 tw11612379488767335989 tw3079901649569337584 tw11202377663534461132 tw14136028414236016912 tw7436338150984777776 tw3594758999155490812 tw1515777023650614295 tw16708061273709829020 tw2704100438263427993 tw18039732843014921683 tw10963619366963813405 tw15980183373976382208 tw12702955991488023484 tw10963193541124621259 tw7070415844080900226 tw1341319977470051366 tw15286501943150131106 tw2543876694409912387 tw10778015902301797019 tw7433767932512676409 tw1917163052412548677 tw8023782915707405005 tw11926129974437839931 tw16899752148089463069 tw11772948571846354575 tw15578630264040530772 tw7717734045396180044 tw8926468819558202982 tw10214403990302544859 tw2576250528985357412 tw11704994070972126259 tw9274078031705685240 tw16759775564428044697 tw15107408159886394712 tw16845947018064828530 tw15457876789450790999 tw17298414485023727687 tw8926942173540055228 tw11014739165967504202 tw3776253508301723486 tw9234210806061961136 tw4467651464649024115 tw10118688463552517247 tw13698987791475771719 tw9609790106882346482 tw12556757001819397310 tw4016190176624592212 tw2028238548659073103 tw9897061972547419266 tw17199540331169027057 tw713928482436579023 tw16187433322888507671 tw16922434217141095716 tw1716669632860372050 tw13044255554712642038 tw10948789297564228400 tw14061640806520850667 tw4318214604244769759 tw14858443639927525420 tw2482945354370457913 tw17585058262964158642 tw453053781585201766 tw6886689863669287245 tw12649696390912381546 tw16585172226633719217 tw11843155213083808652 tw8788488030926244107 tw15442985429166400774 tw5624167573660310833 tw1219627661766498303 tw8719254843698859068 tw1285552646979718532 tw16504676072831933194 tw6815460606168965944 tw16713186740348581782 tw7480577062194552205 tw8108221502989455686 tw2789855173484675292 tw5840944384053213513 tw10394686866061551250 tw15887939767700708147 tw15715543488000907349 tw11654103490798182934 tw16267214120026772717 tw12732952451157898991 tw10578713994012734608 tw1793727469664823493 tw2478082286977481569 tw2113573086688465779 tw14134482299954087113 tw11093423119474798589 tw733860336446820369 tw4974514752832871501 tw6471324709186885757 tw13485079060649158252 tw5780230592649343285 tw4587078030420133191 tw11446019376995339946 tw6055703507384873823 tw12350295750534432285 tw1071625784276874003 tw10593855042719858268 tw2839800795574417007 tw17178210973987809868 tw4072937735902743256 tw9869591847655784624 tw11693168530624784102 tw11022015895527851938 tw1947652932357013727 tw955100951608333761 tw16452278636462658210 tw1829338873715217826 tw16708271161065000740 tw7950254454623164459 tw12951714261794341551 tw3985183487165661887 tw16746644228945821269 tw12813238599877703081 tw17800845866662248976 tw13778296149807516973 tw2246048742522149228 tw7545372366784679702 tw1457218583283883661 tw8779665648656296043 tw2351627428226021135 tw3862716097475023544 tw2019975349714716284 tw10001985329781855389 tw2336138622992380897 tw17738083450564302345 tw18172476939264214730 tw651598383070133993 tw7794796846812513330 tw17130311295069866501 tw5905577201975168622 tw3003457956078679557 tw2128413774279983169 tw7172757500641730133 tw8763726180704208820 tw266143579783338713 tw16026766121120834703 tw5762398326192692775 tw15814355231351490683 tw17527358709971698543 tw8358580950631776151 tw7409085332004217535 tw12758662672806760641 tw8738131235443172286 tw16976592257518520752 tw268550931370566524 tw11396158441324998714 tw11992824316810748382 tw1983762131506293281 tw14308846397223186904 tw10735805444858340995 tw10383624179891500952 tw17827553938760410661 tw5527798338528246163 tw4441678509940363723 tw7513590554500353916 tw7892324887343421068 tw16333027880605382135 tw11109482333357160417 tw4607957390647081746 tw5895512881298941744 tw3770117368242560078 tw1883752628641950118 tw11896192864791852098 tw10890561590795579492 tw14118327603294570839 tw33150070602278090 tw2363309816749749416 tw5719539762750429375 tw10112520243045061088 tw3269022065886404020 tw3278341831885945180 tw9085238708859591515 tw12485334417552831592 tw9407830264055544420 tw12004097450339678346 tw41444726355735287 tw1248741956504309139 tw17168138100024006645 tw7228595616099405682 tw4805588618164055473 tw14608033519636183500 tw4569797443891626432 tw13121499843608035136 tw7596916999656095830 tw12777741766945448523 tw9955216195745162563 tw8020152950197836117 tw10637453712792654881 tw13891296051760690016 tw703095512751642265 tw17684804709717762703 tw2452311427642810754 tw8208124389071059812 tw10288536894969951542 tw1051561838023179850 tw16330203919051232706 tw6498186281722668315 tw8524281031731006400 tw1809512866636065989 tw1174010879229724119 tw17650755612090092394 tw6006687377857498168 tw4065979917048192546 tw16391886824340325340 tw11409576284399440429 tw628085777187736000 tw12540144468605481244 tw16670475607651057665 tw18287251825122361909 tw17710190119627978361 tw13932673927372059751 tw1789976289065811048 tw18074287957067809915 tw16337185866493441099 tw4199589988640688650 tw17003131235883335762 tw11219875359261391485 tw5379317765992086882 tw5849352850781314725 tw13835225059066615509 tw14195892737666451913 tw8509426281151134086 tw5874107010028508645 tw17855805287211222099 tw11103489851726568839 tw15682122847769476808 tw3555260544279317180 tw10726780319779317175 tw3400499289558111460 tw4721751760252384449 tw8073477145869498385 tw12414625705383988021 tw6140049268227602329 tw11547884395822254613 tw15658656102567300884 tw10123365016626359621 tw95127141267747761 tw17983884790543704707 tw10382523486466096645 tw15839017718981482876 tw1355219932607936541 tw16211954640008847954 tw11563397611371748244 tw8230630283103317237:Nat)
open_shared h for PySem.Challenge.pw_ledgerdb_k32_no_room leaving 0
namespace HH
open PySem PySem.W PySem.Calls PyProof.Rows h
abbrev p:Program:=PySem.Challenge.pw_ledgerdb_k32_no_room
noncomputable abbrev b:=behindTheImports p
noncomputable abbrev cd:Code:=.body b env_1
abbrev q0:Pos:=⟨0,0,0,0⟩
abbrev q1:Pos:=⟨932,0,970,15⟩
abbrev ann:Option Value:=some (.ref 6)
abbrev B:=[topFrame q0]
abbrev tb:=treeTable
noncomputable abbrev S0 (w:World) (os:OsState):Shared:=⟨boot_heap w.params,Array.mk [],boot_drawn,boot_toks,os⟩
noncomputable abbrev Sb (w:World) (os:OsState):Shared:=SharedT.abs ⟨tree_4 w.params,15,{},Array.mk [],{},187,os⟩
noncomputable abbrev H1 (P:Params):Heap:=absHeap (tree_1416 P) 1329 {}
noncomputable abbrev Sk (w:World) (os:OsState):Shared:=⟨H1 w.params,Array.mk [],{},2106,os⟩
variable (w:World) (os:OsState)
noncomputable def preL:Option (Shared×Thread)×Option (Shared×Thread):=(topGo tb p w 11 ann 12 (S0 w os) (topStub p),some (Sb w os,⟨denote tb cd,cd,q0,B⟩))
theorem preE:@preL=@preL:=rfl
name_quick preQ for HH.preL by HH.preE
theorem pre:(preL w os).1=(preL w os).2:=by rw [Fast.preQ_eq]; kernel_rfl
theorem blk:segRun tb p w 11 ann 1 1 (Sb w os) (blockOf b env_1 cd q0 B)=some (.next,Sb w os,cd,q0):=by kernel_rfl
noncomputable def finL:Option Shared:=topRun tb p w 11 ann 2 (Sk w os) (restOf [] env_1 cd q1 B)
theorem finE:@finL=@finL:=rfl
name_quick finQ for HH.finL by HH.finE
theorem fin:finL w os=some (Sk w os):=(congrFun (congrFun Fast.finQ_eq w) os).trans (by kernel_rfl)
theorem run:topRun tb p w 11 ann (12+(1+9421)) (S0 w os) (topStub p)=some (Sk w os):=by
 refine go_top (pre w os) (piece_block (blk w os) ?_)
 refine Eq.mp ?_ (h.chain p b w os [] 2 (Sk w os) (fin w os))
 kernel_rfl
theorem opn:∀ w:World,(fencedOpening tb p w 18906).map (fun s=>(s.heap,s.gens,s.drawn,s.toks))=some (boot_heap w.params,Array.mk [],boot_drawn,boot_toks):=boot_open (by kernel_rfl) (by decide) fun s=>by kernel_rfl
theorem siz:((boot_heap w.params).isNs mainGlobals&&(Array.mk []:Array GenState).size==0,(boot_heap w.params).objs.size,(boot_heap w.params).nsMap mainGlobals "__annotations__")=(true,11,ann):=by kernel_rfl
noncomputable def q:Program:={p with main:={p.main with body:=p.main.body.drop 214}}
noncomputable def loose:List Str:="_wall"::"LedgerError"::"Dead"::"NoPage"::"NoBase"::"WrongWord"::"Constraint"::"NoRoom"::"NAME"::"KEPT"::"NUMBER_words"::"TEXT_words"::"SIGN"::"WRONG"::"KEPT_WORDS"::"LONG_SIGNS"::"SHORT_SIGNS"::"BETWEEN_WORDS"::"QUOTE"::"MOST_FIGURES"::"split_words"::"skip_blanks"::"find_end"::"skip_name_signs"::"find_text_end"::"make_word"::"make_number"::"make_text"::"is_name_sign"::"is_letter"::"is_figure"::"CREATE"::"DROP"::"INSERT"::"UPDATE"::"DELETE"::"SELECT"::"BEGIN"::"COMMIT"::"ROLLBACK"::"ROLLBACK_TO"::"SAVEPOINT"::"VALUE"::"COLUMN"::"ONE"::"TWO"::"INT_COLUMN"::"TEXT_COLUMN"::"COMPARING_SIGNS"::"MOST_WITHIN"::"END"::"Statement"::"Reader"::"read_statement"::"read_create"::"read_column"::"read_column_reading"::"read_drop"::"read_insert"::"read_update"::"read_change"::"read_delete"::"read_select"::"read_begin"::"read_commit"::"read_rollback"::"read_savepoint"::"STATEMENT_READERS"::"read_list"::"read_where"::"read_expression"::"read_or"::"read_and"::"read_not"::"read_comparison"::"read_sum"::"read_product"::"read_minus"::"enter_all"::"leave_all"::"read_last"::"COMPARISONS"::"truth_of"::"number_of"::"join_and"::"join_or"::"turn_about"::"add"::"subtract"::"multiply"::"negate"::"are_numbers"::"keep_small"::"is_null"::"is_not_null"::"order_key"::"compare"::"find_side"::"OPERATORS_OF_ONE"::"OPERATORS_OF_TWO"::"apply_two"::"reckon"::"MOST_SIGNS"::"Column"::"Table"::"make_table"::"insert_row"::"update_rows"::"delete_rows"::"select_rows"::"name_values"::"judge_rows"::"order_rows"::"make_result"::"change_row"::"with_rows"::"check_row"::"column_takes"::"check_unique"::"MOST_TABLES"::"MOST_COLUMNS"::"MOST_EXPRESSIONS"::"MOST_ROWS"::"MOST_MARKS"::"Verdict"::"judge"::"find_refusal"::"fits_transaction"::"find_wrong_names"::"find_made_twice"::"tell_missing"::"tell_repeated"::"list_columns"::"list_expressions"::"lacks_room"::"find_mark"::"carry_out"::"change_table"::"with_table"::"without_table"::"BASE"::"SIGNS"::"NULL"::"NUMBER_codes"::"NUMBER_BELOW_0"::"TEXT_codes"::"Tape"::"write_digits"::"read_digits"::"write_state"::"read_state"::"write_table"::"read_table"::"write_column"::"read_column_codes"::"read_row"::"write_value"::"read_value"::"write_text"::"read_text"::"write_whole"::"read_whole"::"MOST_NUMBERS"::"LARGEST_NUMBER"::"page_takes"::"Disk"::"FEWEST_PAGES"::"HEADS"::"NO_PAGE"::"HEAD_BEGIN"::"TURN_WIDTH"::"PAGE_WIDTH"::"Head"::"Store"::"make_ready"::"find_store"::"keep_state"::"put_numbers"::"check_size"::"find_head"::"read_head"::"next_head"::"put_head"::"split_numbers"::"choose_pages"::"put_parts"::"DEAD_REPLY"::"Base"::"format_disk"::"open_base"::"run"::"settle"::"go_back"::"change"::"_law_cell"::"_law_mix"::"_law_whole"::"_law_wholes"::"_law_like"::"_law_answer"::"_law_reply"::"_law_new"::[]
noncomputable def lkL:=((staticsOk (importedModules p.main.body) (boot_heap w.params) (H1 w.params)&&namesBound p (H1 w.params)&&gensDone (Sk w os)&&laidKept (boot_heap w.params) (H1 w.params)),true)
theorem lkE:@lkL=@lkL:=rfl
name_quick lkQ for HH.lkL by HH.lkE
theorem lk:(lkL w os).1=(lkL w os).2:=by rw [Fast.lkQ_eq]; kernel_rfl
noncomputable def lmL:=(openSeen q loose (importedModules p.main.body) (fun _=>true) true (Sk w os),openGood q loose)
theorem lmE:@lmL=@lmL:=rfl
name_quick lmQ for HH.lmL by HH.lmE
theorem lm:(lmL w os).1=(lmL w os).2:=by rw [Fast.lmQ_eq]; kernel_rfl
noncomputable def K:Params→Frag:=fun P=>(nat_lit 2,boot_o_2 P)::(nat_lit 3,o_1351 P)::(nat_lit 20,o_12 P)::(nat_lit 21,o_13 P)::(nat_lit 30,o_22 P)::(nat_lit 31,o_117 P)::(nat_lit 32,o_24 P)::(nat_lit 43,o_39 P)::(nat_lit 44,o_40 P)::(nat_lit 55,o_55 P)::(nat_lit 56,o_56 P)::(nat_lit 67,o_71 P)::(nat_lit 68,o_72 P)::(nat_lit 83,o_91 P)::(nat_lit 84,o_92 P)::(nat_lit 86,o_94 P)::(nat_lit 87,o_95 P)::(nat_lit 98,o_110 P)::(nat_lit 99,o_111 P)::(nat_lit 110,o_126 P)::(nat_lit 111,o_127 P)::(nat_lit 114,o_130 P)::(nat_lit 115,o_131 P)::(nat_lit 116,o_132 P)::(nat_lit 117,o_133 P)::(nat_lit 123,o_142 P)::(nat_lit 124,o_143 P)::(nat_lit 130,o_149 P)::(nat_lit 131,o_150 P)::(nat_lit 137,o_156 P)::(nat_lit 138,o_157 P)::(nat_lit 144,o_163 P)::(nat_lit 145,o_164 P)::(nat_lit 151,o_170 P)::(nat_lit 152,o_171 P)::(nat_lit 158,o_177 P)::(nat_lit 159,o_178 P)::(nat_lit 163,o_182 P)::(nat_lit 164,o_183 P)::(nat_lit 170,o_189 P)::(nat_lit 171,o_190 P)::(nat_lit 177,o_196 P)::(nat_lit 178,o_197 P)::(nat_lit 184,o_203 P)::(nat_lit 185,o_204 P)::(nat_lit 191,o_210 P)::(nat_lit 192,o_211 P)::(nat_lit 193,o_215 P)::(nat_lit 206,o_228 P)::(nat_lit 207,o_229 P)::(nat_lit 209,o_231 P)::(nat_lit 210,o_232 P)::(nat_lit 211,o_233 P)::(nat_lit 212,o_234 P)::(nat_lit 227,o_252 P)::(nat_lit 228,o_253 P)::(nat_lit 234,o_259 P)::(nat_lit 235,o_260 P)::(nat_lit 241,o_266 P)::(nat_lit 242,o_267 P)::(nat_lit 248,o_273 P)::(nat_lit 249,o_274 P)::(nat_lit 255,o_280 P)::(nat_lit 256,o_281 P)::(nat_lit 262,o_287 P)::(nat_lit 263,o_288 P)::(nat_lit 269,o_294 P)::(nat_lit 270,o_295 P)::(nat_lit 276,o_301 P)::(nat_lit 277,o_302 P)::(nat_lit 283,o_308 P)::(nat_lit 284,o_309 P)::(nat_lit 290,o_315 P)::(nat_lit 291,o_316 P)::(nat_lit 297,o_322 P)::(nat_lit 298,o_323 P)::(nat_lit 300,o_325 P)::(nat_lit 301,o_326 P)::(nat_lit 302,o_327 P)::(nat_lit 303,o_328 P)::(nat_lit 311,o_339 P)::(nat_lit 312,o_340 P)::(nat_lit 318,o_346 P)::(nat_lit 319,o_347 P)::(nat_lit 325,o_353 P)::(nat_lit 326,o_354 P)::(nat_lit 332,o_360 P)::(nat_lit 333,o_361 P)::(nat_lit 339,o_367 P)::(nat_lit 340,o_368 P)::(nat_lit 346,o_374 P)::(nat_lit 347,o_375 P)::(nat_lit 353,o_381 P)::(nat_lit 354,o_382 P)::(nat_lit 360,o_388 P)::(nat_lit 361,o_389 P)::(nat_lit 367,o_395 P)::(nat_lit 368,o_396 P)::(nat_lit 374,o_402 P)::(nat_lit 375,o_403 P)::(nat_lit 381,o_409 P)::(nat_lit 382,o_410 P)::(nat_lit 388,o_416 P)::(nat_lit 389,o_417 P)::(nat_lit 395,o_423 P)::(nat_lit 396,o_424 P)::(nat_lit 397,o_428 P)::(nat_lit 403,o_434 P)::(nat_lit 404,o_435 P)::(nat_lit 410,o_441 P)::(nat_lit 411,o_442 P)::(nat_lit 417,o_448 P)::(nat_lit 418,o_449 P)::(nat_lit 424,o_455 P)::(nat_lit 425,o_456 P)::(nat_lit 431,o_462 P)::(nat_lit 432,o_463 P)::(nat_lit 438,o_469 P)::(nat_lit 439,o_470 P)::(nat_lit 445,o_476 P)::(nat_lit 446,o_477 P)::(nat_lit 452,o_488 P)::(nat_lit 453,o_489 P)::(nat_lit 459,o_495 P)::(nat_lit 460,o_496 P)::(nat_lit 466,o_502 P)::(nat_lit 467,o_503 P)::(nat_lit 473,o_509 P)::(nat_lit 474,o_510 P)::(nat_lit 480,o_516 P)::(nat_lit 481,o_517 P)::(nat_lit 487,o_523 P)::(nat_lit 488,o_524 P)::(nat_lit 489,o_525 P)::(nat_lit 501,o_537 P)::(nat_lit 502,o_538 P)::(nat_lit 508,o_544 P)::(nat_lit 509,o_545 P)::(nat_lit 515,o_556 P)::(nat_lit 516,o_557 P)::(nat_lit 522,o_563 P)::(nat_lit 523,o_564 P)::(nat_lit 529,o_570 P)::(nat_lit 530,o_571 P)::(nat_lit 536,o_577 P)::(nat_lit 537,o_578 P)::(nat_lit 543,o_584 P)::(nat_lit 544,o_585 P)::(nat_lit 550,o_591 P)::(nat_lit 551,o_592 P)::(nat_lit 557,o_598 P)::(nat_lit 558,o_599 P)::(nat_lit 564,o_605 P)::(nat_lit 565,o_606 P)::(nat_lit 571,o_612 P)::(nat_lit 572,o_613 P)::(nat_lit 578,o_619 P)::(nat_lit 579,o_620 P)::(nat_lit 585,o_626 P)::(nat_lit 586,o_627 P)::(nat_lit 592,o_633 P)::(nat_lit 593,o_634 P)::(nat_lit 599,o_640 P)::(nat_lit 600,o_641 P)::(nat_lit 606,o_650 P)::(nat_lit 607,o_651 P)::(nat_lit 608,o_652 P)::(nat_lit 609,o_653 P)::(nat_lit 615,o_659 P)::(nat_lit 616,o_660 P)::(nat_lit 622,o_666 P)::(nat_lit 623,o_667 P)::(nat_lit 636,o_685 P)::(nat_lit 637,o_686 P)::(nat_lit 639,o_688 P)::(nat_lit 640,o_689 P)::(nat_lit 641,o_690 P)::(nat_lit 642,o_691 P)::(nat_lit 657,o_709 P)::(nat_lit 658,o_710 P)::(nat_lit 660,o_712 P)::(nat_lit 661,o_713 P)::(nat_lit 662,o_714 P)::(nat_lit 663,o_715 P)::(nat_lit 669,o_721 P)::(nat_lit 670,o_722 P)::(nat_lit 674,o_726 P)::(nat_lit 675,o_727 P)::(nat_lit 679,o_731 P)::(nat_lit 680,o_732 P)::(nat_lit 684,o_736 P)::(nat_lit 685,o_737 P)::(nat_lit 689,o_741 P)::(nat_lit 690,o_742 P)::(nat_lit 694,o_746 P)::(nat_lit 695,o_747 P)::(nat_lit 699,o_754 P)::(nat_lit 700,o_755 P)::(nat_lit 706,o_761 P)::(nat_lit 707,o_762 P)::(nat_lit 711,o_766 P)::(nat_lit 712,o_767 P)::(nat_lit 718,o_773 P)::(nat_lit 719,o_774 P)::(nat_lit 723,o_778 P)::(nat_lit 724,o_779 P)::(nat_lit 730,o_785 P)::(nat_lit 731,o_786 P)::(nat_lit 737,o_792 P)::(nat_lit 738,o_793 P)::(nat_lit 744,o_799 P)::(nat_lit 745,o_800 P)::(nat_lit 758,o_816 P)::(nat_lit 759,o_817 P)::(nat_lit 761,o_819 P)::(nat_lit 762,o_820 P)::(nat_lit 763,o_821 P)::(nat_lit 764,o_822 P)::(nat_lit 772,o_830 P)::(nat_lit 773,o_831 P)::(nat_lit 779,o_837 P)::(nat_lit 780,o_838 P)::(nat_lit 786,o_844 P)::(nat_lit 787,o_845 P)::(nat_lit 791,o_849 P)::(nat_lit 792,o_850 P)::(nat_lit 796,o_854 P)::(nat_lit 797,o_855 P)::(nat_lit 801,o_862 P)::(nat_lit 802,o_863 P)::(nat_lit 808,o_869 P)::(nat_lit 809,o_870 P)::(nat_lit 813,o_874 P)::(nat_lit 814,o_875 P)::(nat_lit 818,o_879 P)::(nat_lit 819,o_880 P)::(nat_lit 825,o_886 P)::(nat_lit 826,o_887 P)::(nat_lit 830,o_891 P)::(nat_lit 831,o_892 P)::(nat_lit 837,o_898 P)::(nat_lit 838,o_899 P)::(nat_lit 844,o_905 P)::(nat_lit 845,o_906 P)::(nat_lit 851,o_912 P)::(nat_lit 852,o_913 P)::(nat_lit 858,o_919 P)::(nat_lit 859,o_920 P)::(nat_lit 872,o_936 P)::(nat_lit 873,o_937 P)::(nat_lit 879,o_943 P)::(nat_lit 880,o_944 P)::(nat_lit 886,o_950 P)::(nat_lit 887,o_951 P)::(nat_lit 893,o_957 P)::(nat_lit 894,o_958 P)::(nat_lit 896,o_960 P)::(nat_lit 897,o_961 P)::(nat_lit 898,o_962 P)::(nat_lit 899,o_963 P)::(nat_lit 907,o_971 P)::(nat_lit 908,o_972 P)::(nat_lit 914,o_978 P)::(nat_lit 915,o_979 P)::(nat_lit 921,o_988 P)::(nat_lit 922,o_989 P)::(nat_lit 928,o_995 P)::(nat_lit 929,o_996 P)::(nat_lit 935,o_1002 P)::(nat_lit 936,o_1003 P)::(nat_lit 940,o_1007 P)::(nat_lit 941,o_1008 P)::(nat_lit 947,o_1014 P)::(nat_lit 948,o_1015 P)::(nat_lit 954,o_1021 P)::(nat_lit 955,o_1022 P)::(nat_lit 959,o_1026 P)::(nat_lit 960,o_1027 P)::(nat_lit 966,o_1033 P)::(nat_lit 967,o_1034 P)::(nat_lit 973,o_1040 P)::(nat_lit 974,o_1041 P)::(nat_lit 978,o_1045 P)::(nat_lit 979,o_1046 P)::(nat_lit 983,o_1050 P)::(nat_lit 984,o_1051 P)::(nat_lit 990,o_1057 P)::(nat_lit 991,o_1058 P)::(nat_lit 997,o_1064 P)::(nat_lit 998,o_1065 P)::(nat_lit 1002,o_1072 P)::(nat_lit 1003,o_1073 P)::(nat_lit 1014,o_1087 P)::(nat_lit 1015,o_1088 P)::(nat_lit 1021,o_1094 P)::(nat_lit 1022,o_1095 P)::(nat_lit 1028,o_1101 P)::(nat_lit 1029,o_1102 P)::(nat_lit 1035,o_1108 P)::(nat_lit 1036,o_1109 P)::(nat_lit 1042,o_1115 P)::(nat_lit 1043,o_1116 P)::(nat_lit 1049,o_1122 P)::(nat_lit 1050,o_1123 P)::(nat_lit 1056,o_1129 P)::(nat_lit 1057,o_1130 P)::(nat_lit 1063,o_1136 P)::(nat_lit 1064,o_1137 P)::(nat_lit 1070,o_1143 P)::(nat_lit 1071,o_1144 P)::(nat_lit 1077,o_1150 P)::(nat_lit 1078,o_1151 P)::(nat_lit 1080,o_1153 P)::(nat_lit 1081,o_1154 P)::(nat_lit 1082,o_1155 P)::(nat_lit 1083,o_1156 P)::(nat_lit 1086,o_1162 P)::(nat_lit 1087,o_1163 P)::(nat_lit 1100,o_1176 P)::(nat_lit 1101,o_1177 P)::(nat_lit 1103,o_1179 P)::(nat_lit 1104,o_1180 P)::(nat_lit 1105,o_1181 P)::(nat_lit 1106,o_1182 P)::(nat_lit 1121,o_1200 P)::(nat_lit 1122,o_1201 P)::(nat_lit 1124,o_1203 P)::(nat_lit 1125,o_1204 P)::(nat_lit 1126,o_1205 P)::(nat_lit 1127,o_1206 P)::(nat_lit 1135,o_1214 P)::(nat_lit 1136,o_1215 P)::(nat_lit 1142,o_1221 P)::(nat_lit 1143,o_1222 P)::(nat_lit 1149,o_1228 P)::(nat_lit 1150,o_1229 P)::(nat_lit 1156,o_1235 P)::(nat_lit 1157,o_1236 P)::(nat_lit 1163,o_1242 P)::(nat_lit 1164,o_1243 P)::(nat_lit 1168,o_1250 P)::(nat_lit 1169,o_1251 P)::(nat_lit 1175,o_1257 P)::(nat_lit 1176,o_1258 P)::(nat_lit 1182,o_1264 P)::(nat_lit 1183,o_1265 P)::(nat_lit 1189,o_1271 P)::(nat_lit 1190,o_1272 P)::(nat_lit 1194,o_1276 P)::(nat_lit 1195,o_1277 P)::(nat_lit 1199,o_1281 P)::(nat_lit 1200,o_1282 P)::(nat_lit 1206,o_1288 P)::(nat_lit 1207,o_1289 P)::(nat_lit 1208,o_1290 P)::(nat_lit 1221,o_1306 P)::(nat_lit 1222,o_1307 P)::(nat_lit 1224,o_1309 P)::(nat_lit 1225,o_1310 P)::(nat_lit 1226,o_1311 P)::(nat_lit 1227,o_1312 P)::(nat_lit 1235,o_1320 P)::(nat_lit 1236,o_1321 P)::(nat_lit 1242,o_1327 P)::(nat_lit 1243,o_1328 P)::(nat_lit 1249,o_1334 P)::(nat_lit 1250,o_1335 P)::(nat_lit 1256,o_1341 P)::(nat_lit 1257,o_1342 P)::(nat_lit 1263,o_1348 P)::(nat_lit 1264,o_1349 P)::(nat_lit 1270,o_1358 P)::(nat_lit 1271,o_1359 P)::(nat_lit 1277,o_1365 P)::(nat_lit 1278,o_1366 P)::(nat_lit 1284,o_1372 P)::(nat_lit 1285,o_1373 P)::(nat_lit 1291,o_1379 P)::(nat_lit 1292,o_1380 P)::(nat_lit 1303,o_1391 P)::(nat_lit 1304,o_1392 P)::(nat_lit 1308,o_1396 P)::(nat_lit 1309,o_1397 P)::(nat_lit 1315,o_1403 P)::(nat_lit 1316,o_1404 P)::(nat_lit 1322,o_1410 P)::(nat_lit 1323,o_1411 P)::(nat_lit 1327,o_1415 P)::(nat_lit 1328,o_1416 P)::[]
noncomputable def as:List Addr:=[2,3,20,21,30,31,32,43,44,55,56,67,68,83,84,86,87,98,99,110,111,114,115,116,117,123,124,130,131,137,138,144,145,151,152,158,159,163,164,170,171,177,178,184,185,191,192,193,206,207,209,210,211,212,227,228,234,235,241,242,248,249,255,256,262,263,269,270,276,277,283,284,290,291,297,298,300,301,302,303,311,312,318,319,325,326,332,333,339,340,346,347,353,354,360,361,367,368,374,375,381,382,388,389,395,396,397,403,404,410,411,417,418,424,425,431,432,438,439,445,446,452,453,459,460,466,467,473,474,480,481,487,488,489,501,502,508,509,515,516,522,523,529,530,536,537,543,544,550,551,557,558,564,565,571,572,578,579,585,586,592,593,599,600,606,607,608,609,615,616,622,623,636,637,639,640,641,642,657,658,660,661,662,663,669,670,674,675,679,680,684,685,689,690,694,695,699,700,706,707,711,712,718,719,723,724,730,731,737,738,744,745,758,759,761,762,763,764,772,773,779,780,786,787,791,792,796,797,801,802,808,809,813,814,818,819,825,826,830,831,837,838,844,845,851,852,858,859,872,873,879,880,886,887,893,894,896,897,898,899,907,908,914,915,921,922,928,929,935,936,940,941,947,948,954,955,959,960,966,967,973,974,978,979,983,984,990,991,997,998,1002,1003,1014,1015,1021,1022,1028,1029,1035,1036,1042,1043,1049,1050,1056,1057,1063,1064,1070,1071,1077,1078,1080,1081,1082,1083,1086,1087,1100,1101,1103,1104,1105,1106,1121,1122,1124,1125,1126,1127,1135,1136,1142,1143,1149,1150,1156,1157,1163,1164,1168,1169,1175,1176,1182,1183,1189,1190,1194,1195,1199,1200,1206,1207,1208,1221,1222,1224,1225,1226,1227,1235,1236,1242,1243,1249,1250,1256,1257,1263,1264,1270,1271,1277,1278,1284,1285,1291,1292,1303,1304,1308,1309,1315,1316,1322,1323,1327,1328]
theorem ase (P:Params):as=(K P).map (·.1):=by kernel_rfl
noncomputable abbrev H:Hook:=kmHook K as ase [1166]
theorem get_at (t:BT) (n:Nat) (l:Life) (a:Nat) (h:a<n):(absHeap t n l).get? a=alive ((t.get a).getD default):=by
 unfold Heap.get?
 rw [absHeap_at,if_pos h]
 generalize (t.get a).getD default=o
 obtain ⟨c,d,dt,sl⟩:=o
 cases dt<;>rfl
theorem obs:H.obs (Sk w os)=H.val w:=by
 show (as.map (H1 w.params).get?,[1166].map (H1 w.params).get?)=((K w.params).map fun p=>some p.2,[1166].map fun _=>some (tabObj #[]))
 refine looks_pair ((List.map_congr_left (g:=fun a=>alive (((tree_1416 w.params).get a).getD default)) fun a h=>get_at _ _ _ a ?_).trans ?_) ((List.map_congr_left (g:=fun a=>alive (((tree_1416 w.params).get a).getD default)) fun a h=>get_at _ _ _ a ?_).trans ?_)
 · have:as.all (Nat.blt · 1329)=true:=by kernel_rfl
   exact Nat.le_of_ble_eq_true (List.all_eq_true.mp this a h)
 · kernel_rfl
 · cases h with | head=>decide | tail _ h=>cases h
 · kernel_rfl
theorem left:LeftO p q loose (fun _=>true) H.obs H.val 18906:=LeftO.of_pieces (H₁:=H1) opn siz run (by decide) fun w=>funext fun os=>looks_pair (lk w os) (looks_pair (lm w os) (obs w os))
noncomputable def d:DefRec:=((defOf q "law").get (by kernel_rfl)).1
theorem dn:d.name="law":=by kernel_rfl
theorem top (said:PySem.Challenge.rw_ledgerdb_k32_no_room.row.wellSaid=true) (hc:WalkO q loose (fun _ _=>True) H.says PySem.Challenge.rw_ledgerdb_k32_no_room.row.toRowW d [] fun f vs=>PySem.call f vs):PySem.Challenge.rw_ledgerdb_k32_no_room.row.Holds:=by
 refine holds_open (q:=q) (loose:=loose) (Xt:=fun _=>true) (XP:=fun _ _=>True) (Yf:=H.obs) (Ya:=H.val) (YP:=H.says) (N:=18906) left (Hook.of H) (Hook.keeps H) (fun _ _=>trivial) (fun _ _ _ _ _=>trivial) (by kernel_rfl) (by kernel_rfl) (by kernel_rfl) (fun s _=>recFacts_of rfl) (by rfl) said (by decide +kernel) ⟨rfl,rfl,rfl,rfl,rfl,by decide +kernel⟩ ?hw hc
 w_witness2
theorem law (hc:WalkO q loose (fun _ _=>True) H.says PySem.Challenge.rw_ledgerdb_k32_no_room.row.toRowW d [] fun f vs=>PySem.call f vs):PySem.Challenge.rw_ledgerdb_k32_no_room.Holds:=by
 w_on; o_law
 exact top ‹_› hc
end HH
set_option bootstrap.genMatcherCode false
set_option genSizeOf false
namespace L2
open PySem PySem.Spec PyProof.Rows
theorem dk[Decidable p](h:p:=by decide +kernel):p:=h
theorem Wx:0<=sizeLine:=by decide
theorem xZ:1<=sizeLine:=by decide
theorem zF:2<=sizeLine:=by decide
theorem z8:3<=sizeLine:=by decide
theorem zl5:5<=sizeLine:=by decide
noncomputable abbrev gf:=Sum Int Str
noncomputable def xC:gf->Value->Bool
 | .inl k,v=>Value.isInt k v
 | .inr x,v=>Value.isStrOf x v
noncomputable def YS(w:World):gf->Int
 | .inl k=>hashInt k
 | .inr x=>hashStr w x
theorem dX:∀ {k:gf} {v:Value},xC k v=true->(∃ i t,k=Sum.inl i/\v=Value.int i t)\/(∃ x t,k=Sum.inr x/\v=Value.str x t)
 | .inl i,v,h=>by
  obtain ⟨t,e⟩:=Value.isInt_shape (k:=i) (v:=v) h
  exact .inl ⟨i,t,rfl,e⟩
 | .inr x,v,h=>by
  obtain ⟨t,e⟩:=Value.isStrOf_shape (x:=x) (v:=v) h
  exact .inr ⟨x,t,rfl,e⟩
theorem Ni(i:Int)(t:Tok):xC (.inl i) (.int i t)=true:=by simp [xC,Value.isInt]
theorem Lw(x:Str)(t:Tok):xC (.inr x) (.str x t)=true:=by simp [xC,Value.isStrOf]
theorem Vx(a b:Int):decide ((Sum.inl a:gf)=Sum.inl b)=(a == b):=by
 by_cases e:a=b
 .subst e;simp
 .have h:¬ (Sum.inl a:gf)=Sum.inl b:=fun q=>e (Sum.inl.inj q)
  rw [decide_eq_false h]
  exact (beq_eq_false_iff_ne.mpr e).symm
theorem Vp(a b:Str):decide ((Sum.inr a:gf)=Sum.inr b)=decide (a=b):=by
 by_cases e:a=b
 .subst e;simp
 .have h:¬ (Sum.inr a:gf)=Sum.inr b:=fun q=>e (Sum.inr.inj q)
  rw [decide_eq_false h,decide_eq_false e]
theorem VD(a:Int)(b:Str):decide ((Sum.inl a:gf)=Sum.inr b)=false:=decide_eq_false (fun q=>nomatch q)
theorem Vb(a:Str)(b:Int):decide ((Sum.inr a:gf)=Sum.inl b)=false:=decide_eq_false (fun q=>nomatch q)
noncomputable def cY(prog:Program)(w:World):PySem.KeyKind prog w gf where
 is:=xC
 hash:=YS w
 inj:=fun v a b ha hb=>by
  rcases dX ha with ⟨i,t,rfl,rfl⟩ | ⟨x,t,rfl,rfl⟩
  .rcases dX hb with ⟨j,u,rfl,e⟩ | ⟨y,u,rfl,e⟩
   .injection e with e1 _;rw [e1]
   .exact nomatch e
  .rcases dX hb with ⟨j,u,rfl,e⟩ | ⟨y,u,rfl,e⟩
   .exact nomatch e
   .injection e with e1 _;rw [e1]
 byValue:=fun k v h=>by
  rcases dX h with ⟨i,t,rfl,rfl⟩ | ⟨x,t,rfl,rfl⟩ <;> rfl
 pyHash:=fun hv h=>by
  rcases dX hv with ⟨i,t,rfl,rfl⟩ | ⟨x,t,rfl,rfl⟩
  .exact wpAny_pyHash_int h
  .exact wpAny_pyHash_str h
 eqBool:=fun hu hv h=>by
  rcases dX hu with ⟨i,t,rfl,rfl⟩ | ⟨x,t,rfl,rfl⟩
  .rcases dX hv with ⟨j,u,rfl,rfl⟩ | ⟨y,u,rfl,rfl⟩
   .rw [Vx] at h;exact wpAny_eqBool_int h
   .rw [VD] at h;exact SeqAt.EqAt.int_str i t y u _ _ _ _ h
  .rcases dX hv with ⟨j,u,rfl,rfl⟩ | ⟨y,u,rfl,rfl⟩
   .rw [Vb] at h;exact SeqAt.EqAt.str_int x t j u _ _ _ _ h
   .rw [Vp] at h;exact wpAny_eqBool_str h
 «strs»:=fun k x t v h=>by
  rcases dX h with ⟨i,u,rfl,e⟩ | ⟨y,u,rfl,e⟩
  .exact nomatch e
  .injection e with e1 _
   subst e1
   cases v <;> rfl
theorem Fw(prog:Program)(w:World)(i:Int)(t:Tok):(cY prog w).is (.inl i) (.int i t)=true:=Ni i t
theorem Fd(prog:Program)(w:World)(x:Str)(t:Tok):(cY prog w).is (.inr x) (.str x t)=true:=Lw x t
inductive V where
 | non | bl (b:Bool) | int (i:Int) | str (x:Str) | byt (b:Array UInt8) | flt (b:UInt64) | ref (a:Addr) | ty (n:String)
 deriving DecidableEq
noncomputable def cQ:V->Value->Prop
 | .non,u=>u=Value.none
 | .bl b,u=>u=Value.bool b
 | .int i,u=>∃ t,u=Value.int i t
 | .str x,u=>∃ t,u=Value.str x t
 | .byt b,u=>∃ t,u=Value.bytes b t
 | .flt b,u=>∃ t,u=Value.float b t
 | .ref a,u=>u=Value.ref a
 | .ty n,u=>u=Value.type n
noncomputable abbrev cI:List V->List Value->Prop:=Paired cQ
theorem cI.length(r:cI xs us):xs.length=us.length:=Paired.length r
theorem cI.get:∀ {xs:List V} {us:List Value} {i:Nat} {x:V},cI xs us->xs[i]?=some x->∃ u,us[i]?=some u/\cQ x u
 | _,_,_,_,.nil,e=>by simp at e
 | _,_,0,_,.cons r _,e=>by simp at e;subst e;exact ⟨_,rfl,r⟩
 | _,_,i+1,x,.cons _ t,e=>by
  obtain ⟨u,h1,h2⟩:=cI.get (i:=i) (x:=x) t (by simpa using e)
  exact ⟨u,by simpa using h1,h2⟩
theorem cI.set(r:cQ x u):∀ {xs:List V} {us:List Value} (i:Nat),cI xs us->cI (xs.set i x) (us.set i u)
 | _,_,_,.nil=>.nil
 | _,_,0,.cons _ t=>.cons r t
 | _,_,i+1,.cons q t=>.cons q (cI.set r i t)
theorem cI.append:∀ {xs ys:List V} {us ws:List Value},cI xs us->cI ys ws->cI (xs++ys) (us++ws)
 | _,_,_,_,.nil,s=>s
 | _,_,_,_,.cons r t,s=>.cons r (cI.append t s)
theorem cI.take:∀ {xs:List V} {us:List Value} (n:Nat),cI xs us->cI (xs.take n) (us.take n)
 | _,_,0,_=>.nil
 | _,_,_+1,.nil=>.nil
 | _,_,n+1,.cons r t=>.cons r (cI.take n t)
theorem cI.drop:∀ {xs:List V} {us:List Value} (n:Nat),cI xs us->cI (xs.drop n) (us.drop n)
 | _,_,0,r=>r
 | _,_,_+1,.nil=>.nil
 | _,_,n+1,.cons _ t=>cI.drop n t
noncomputable def oJ:Option V->Option Value->Prop
 | some v,some u=>cQ v u
 | none,none=>True
 | _,_=>False
noncomputable def KV{κ:Type}:List (κ × V)->List (κ × Value)->Prop:=Paired fun (p:κ × V) (q:κ × Value)=>p.1=q.1/\cQ p.2 q.2
noncomputable def kV:gf->V
 | .inl i=>.int i
 | .inr x=>.str x
inductive HO where
 /-- a list -/
 | lst (xs:List V)
 /-- a tuple (never changes) -/
 | tup (xs:List V)
 /-- a dict whose keys are ints and texts;one whose keys are tuples of ints and texts (the empty one is both) -/
 | dK (kvs:List (gf × V)) | dT (kvs:List (List gf × V))
 /-- a set of ints: its members,its size -/
 | set (S:Int->Bool) (n:Nat)
 /-- an instance of the class at C,its dict at dx,its attributes -/
 | ins (C dx:Addr) (fs:List (Str × V))
 /-- the dict of the instance at x -/
 | own (x:Addr)
 /-- the dict of an exception -/
 | xd (fs:List (Str × V))
 /-- a bound method,f of x -/
 | met (f x:Addr)
 /-- a range object lo,lo+1,.. below hi -/
 | rng (lo hi:Int)
 /-- a thing that is known to the object (the script;a dict while a loop walks it): read,never written while it is so -/
 | frz (o:Obj) (u:HO)
 /-- a code object's table -/
 | tbl (ps:Array Value)
 /-- any other thing,by what is true of its one object (a def of one's own: SetO a S n:=HO.ext fun h=>..) -/
 | ext (φ:Heap->Prop)
noncomputable abbrev Hp:=Addr->Option HO
noncomputable def bQ(H:Hp)(a:Addr)(o:HO):Hp:=fun b=>if b=a then some o else H b
theorem aj:bQ H a o a=some o:=by unfold bQ;rw [if_pos rfl]
theorem aA(h:b≠a):bQ H a o b=H b:=by unfold bQ;rw [if_neg h]
theorem bY:bQ (bQ H a o) a u=bQ H a u:=by
 funext b;unfold bQ;split <;> rfl
theorem gA{H:Hp}{a b:Addr}{o u:HO}(h:H a=some o)(h':H b=some u)(d:o≠u):a≠b:=by
 intro e;subst e;rw [h] at h';exact d (Option.some.inj h')
theorem aO{H:Hp}{a b:Addr}{o:HO}(h:H a=some o)(h':H b=none):a≠b:=by
 intro e;subst e;rw [h] at h';cases h'
section
variable(P:Program)(w:World)
noncomputable def dW(H:Hp)(h:Heap)(a:Addr):HO->Prop
 | .lst xs=>xs.length<=sizeLine/\∃ (its:List Value) (n:Nat),cI xs its/\h.get? a=some { cls:=.type "list",data:=.seq its.toArray n }
 | .tup xs=>xs.length<=sizeLine/\∃ its:List Value,cI xs its/\IsTup h a its.toArray
 | .dK kvs=>kvs.length<=sizeLine/\(a == sysModules)=false/\∃ vs,KV kvs vs/\h.DictOf (cY P w) a vs
 | .dT kvs=>kvs.length<=sizeLine/\(a == sysModules)=false/\∃ xs:List (List gf × Addr × Value),
   Paired (fun (p:List gf × V) (q:List gf × Addr × Value)=>p.1=q.1/\H q.2.1=some (.tup (p.1.map kV))/\cQ p.2 q.2.2) kvs xs /\
   ∃ o es ep,h.get? a=some o/\o.ExactDict/\o.data=.dict es ep/\es.toList=xs.map (entryOfKey (tupleKind (cY P w)))/\(xs.map (·.1)).Nodup
 | .set S n=>h.SetOf (intKind P w) a S n
 | .ins C dx fs=>H dx=some (.own a)/\fs.length<=1000/\dx≠a/\h.get? a=some (PySem.W.instObj C dx) /\
   ∃ mA,h.Ns1 dx mA/\(∀ f,oJ (fs.lookup f) (mA f))/\PySem.Within mA (fs.map (·.1))
 | .own _=>∃ o,h.get? a=some o
 | .xd fs=>∃ mA,h.Ns1 a mA/\∀ f,oJ (fs.lookup f) (mA f)
 | .rng lo hi=>∃ t u v,h.get? a=some { cls:=.type "range",data:=.fields #[.int lo t,.int hi u,.int 1 v] }
 | .frz o u=>h.get? a=some o/\dW H h a u
 | .tbl ps=>h.get? a=some { cls:=.none,data:=.fields ps }
 | .met f x=>h.get? a=some (PySem.W.methodObj (.ref f) (.ref x))
 | .ext φ=>φ h/\(∃ o,h.get? a=some o)/\∀ h1 h2:Heap,φ h1->(∀ o,h1.get? a=some o->h2.get? a=some o)->φ h2
noncomputable def qw(H:Hp)(h:Heap):Prop:=∀ a o,H a=some o->dW P w H h a o
end
section
variable{P:Program}{w:World}{H H':Hp}{h h':Heap}{a:Addr}{o:HO}
theorem dW.lt(x:dW P w H h a o):a<h.objs.size:=by
 cases o with
 | lst xs=>obtain ⟨_,_,_,_,e⟩:=x;exact Heap.lt_size e
 | tup xs=>obtain ⟨_,_,_,p⟩:=x;exact p.lt
 | dK kvs=>obtain ⟨_,_,_,_,o,_,_,e,_⟩:=x;exact Heap.lt_size e
 | dT kvs=>obtain ⟨_,_,_,_,o,_,_,e,_⟩:=x;exact Heap.lt_size e
 | set S n=>obtain ⟨o,_,_,_,e,_⟩:=x;exact Heap.lt_size e
 | ins C dx fs=>obtain ⟨_,_,_,e,_⟩:=x;exact Heap.lt_size e
 | own y=>obtain ⟨_,e⟩:=x;exact Heap.lt_size e
 | xd fs=>obtain ⟨_,⟨_,_,_,e,_⟩,_⟩:=x;exact Heap.lt_size e
 | rng lo hi=>obtain ⟨_,_,_,e⟩:=x;exact Heap.lt_size e
 | frz ob u=>obtain ⟨e,_⟩:=x;exact Heap.lt_size e
 | tbl ps=>exact Heap.lt_size (show h.get? a=some _ from x)
 | met f y=>exact Heap.lt_size (show h.get? a=some _ from x)
 | ext φ=>obtain ⟨_,⟨_,e⟩,_⟩:=x;exact Heap.lt_size e
theorem Paired.mapP:∀ {l₁:List α} {l₂:List β},Paired F l₁ l₂->(∀ a b,F a b->G a b)->Paired G l₁ l₂
 | _,_,.nil,_=>.nil
 | _,_,.cons r t,f=>.cons (f _ _ r) (Paired.mapP t f)
theorem Paired.imp'(f:∀ a b,F a b->G a b)(r:Paired F l₁ l₂):Paired G l₁ l₂:=Paired.mapP r f
theorem dW.stay(x:dW P w H h a o)(k:∀ b u,(b=a\/H b=some (.own a))->h.get? b=some u->h'.get? b=some u)
  (ho:∀ b,H b=some (.own a)->H' b=some (.own a)) (ht:∀ b xs,H b=some (.tup xs)->H' b=some (.tup xs)):dW P w H' h' a o:=by
 induction o with
 | lst xs=>obtain ⟨z,its,n,r,e⟩:=x;exact ⟨z,its,n,r,k _ _ (.inl rfl) e⟩
 | tup xs=>obtain ⟨z,its,r,ob,e,c⟩:=x;exact ⟨z,its,r,ob,k _ _ (.inl rfl) e,c⟩
 | dK kvs=>obtain ⟨z,y,vs,r,ob,es,ep,e,c⟩:=x;exact ⟨z,y,vs,r,ob,es,ep,k _ _ (.inl rfl) e,c⟩
 | dT kvs =>
  obtain ⟨z,y,xs,r,ob,es,ep,e,c⟩:=x
  exact ⟨z,y,xs,Paired.mapP r fun p q z=>⟨z.1,ht _ _ z.2.1,z.2.2⟩,ob,es,ep,k _ _ (.inl rfl) e,c⟩
 | set S n=>obtain ⟨ob,es,ep,t,e,c⟩:=x;exact ⟨ob,es,ep,t,k _ _ (.inl rfl) e,c⟩
 | ins C dx fs =>
  obtain ⟨d,z,ne,e,mA,⟨od,es,ep,e2,c⟩,r⟩:=x
  exact ⟨ho _ d,z,ne,k _ _ (.inl rfl) e,mA,⟨od,es,ep,k _ _ (.inr d) e2,c⟩,r⟩
 | own y=>obtain ⟨ob,e⟩:=x;exact ⟨ob,k _ _ (.inl rfl) e⟩
 | xd fs=>obtain ⟨mA,⟨od,es,ep,e,c⟩,r⟩:=x;exact ⟨mA,⟨od,es,ep,k _ _ (.inl rfl) e,c⟩,r⟩
 | rng lo hi=>obtain ⟨t,u,v,e⟩:=x;exact ⟨t,u,v,k _ _ (.inl rfl) e⟩
 | frz ob u ih=>obtain ⟨e,q⟩:=x;exact ⟨k _ _ (.inl rfl) e,ih q⟩
 | tbl ps =>
  have e:h.get? a=some { cls:=.none,data:=.fields ps }:=x
  show h'.get? a=some { cls:=.none,data:=.fields ps }
  exact k a _ (.inl rfl) e
 | met f y =>
  have e:h.get? a=some (PySem.W.methodObj (.ref f) (.ref y)):=x
  show h'.get? a=some (PySem.W.methodObj (.ref f) (.ref y))
  exact k a _ (.inl rfl) e
 | ext φ=>obtain ⟨p,⟨o,e⟩,st⟩:=x;exact ⟨st _ _ p fun o q=>k _ _ (.inl rfl) q,⟨o,k _ _ (.inl rfl) e⟩,st⟩
theorem qw.lt(x:qw P w H h)(e:H a=some o):a<h.objs.size:=(x a o e).lt
theorem qw.fresh(x:qw P w H h)(e:h.objs.size<=a):H a=none:=by
 cases q:H a with
 | none=>rfl
 | some u=>exact absurd (Nat.lt_of_lt_of_le (x.lt q) e) (Nat.lt_irrefl _)
theorem qw.kept(x:qw P w H h)(k:∀ b u,h.get? b=some u->h'.get? b=some u):qw P w H h':=fun a o e =>
 (x a o e).stay (fun b u _ q=>k b u q) (fun _ q=>q) fun _ _ q=>q
theorem qw.laid(x:qw P w H h)(k:∀ b u,h.get? b=some u->h'.get? b=some u)(hp:h.objs.size<=a)(new:dW P w (bQ H a o) h' a o):qw P w (bQ H a o) h':=fun b u e=>by
 have hn:=x.fresh hp
 by_cases hb:b=a
 .subst hb;rw [aj] at e;cases e;exact new
 .rw [aA hb] at e
  exact (x b u e).stay (fun c v _ q=>k c v q) (fun c q=>by rw [aA (aO q hn)];exact q) fun c xs q=>by rw [aA (aO q hn)];exact q
end
noncomputable def Rd(H:Hp)(a:Addr)(u:HO):Prop:=H a=some u\/∃ o,H a=some (.frz o u)
theorem Rd.ok(r:Rd H a u)(x:qw P w H h):dW P w H h a u:=by
 rcases r with r | ⟨o,r⟩
 .exact x a u r
 .obtain ⟨_,q⟩:=x a _ r
  exact q
noncomputable def Xo:Option HO->Prop
 | some (.lst _)=>True
 | some (.dK _)=>True
 | some (.dT _)=>True
 | some (.set _ _)=>True
 | some (.ins _ _ _)=>True
 | some (.ext _)=>True
 | _=>False
section
variable{P:Program}{w:World}{H:Hp}{h h':Heap}{x e:Addr}{o':HO}
theorem qw.write(ok:qw P w H h)(mu:Xo (H x))(he:e=x\/H e=some (.own x))(k:∀ b u,b≠e->h.get? b=some u->h'.get? b=some u)(heo:∃ u,h'.get? e=some u)
  (new:dW P w (bQ H x o') h' x o'):qw P w (bQ H x o') h':=fun b u q=>by
 have nown:∀ c y,H c=some (.own y)->c≠x:=fun c y r z=>by subst z;rw [r] at mu;exact mu
 have ntup:∀ c xs,H c=some (.tup xs)->c≠x:=fun c xs r z=>by subst z;rw [r] at mu;exact mu
 by_cases hb:b=x
 .subst hb;rw [aj] at q;cases q;exact new
 .rw [aA hb] at q
  by_cases hbe:b=e
  .have q':H b=some (.own x):=by
    rcases he with z | z
    .exact absurd (hbe.trans z) hb
    .rw [hbe];exact z
   rw [q] at q';cases q'
   obtain ⟨v,hv⟩:=heo
   exact ⟨v,by rw [hbe];exact hv⟩
  .refine (ok b u q).stay (fun c v hc r=>k c v ?_ r) (fun c r=>by rw [aA (nown c b r)];exact r) fun c xs r=>by rw [aA (ntup c xs r)];exact r
   rcases hc with rfl | hc
   .exact hbe
   .rintro rfl
    rcases he with z | z
    .exact nown c b hc z
    .rw [hc] at z;cases z;exact hb rfl
end
structure Un(fs ex:List Addr)(H H':Hp)(h h':Heap):Prop where
 keep:∀ b o,h.get? b=some o->H b=none->b∉fs->b∉ex->h'.get? b=some o
 slot:∀ b o,h.get? b=some o->H b=none->b∈fs->b∉ex->∃ sl,h'.get? b=some { o with slots:=sl }
 free:∀ b o,h.get? b=some o->H b=none->b∉ex->H' b=none
 there:∀ b o,h.get? b=some o->b∉ex->∃ o',h'.get? b=some o'
 tups:∀ b xs,H b=some (.tup xs)->H' b=some (.tup xs)
 frzs:∀ b o u,H b=some (.frz o u)->H' b=some (.frz o u)
 tbls:∀ b ps,H b=some (.tbl ps)->∃ more,H' b=some (.tbl (ps++more))
section
variable{fs fs' ex ex':List Addr}{H H1 H2:Hp}{h h1 h2 h':Heap}{a x e:Addr}{o:HO}
theorem Un.any(u:Un fs ex H H1 h h1)(q:h.get? b=some ob)(n:H b=none)(hx:b∉ex):∃ sl,h1.get? b=some { ob with slots:=sl }:=by
 by_cases hb:b∈fs
 .exact u.slot b ob q n hb hx
 .exact ⟨ob.slots,u.keep b ob q n hb hx⟩
theorem Un.kept(k:∀ b u,h.get? b=some u->h'.get? b=some u):Un fs ex H H h h' :=
 ⟨fun b ob q _ _ _=>k b ob q,fun b ob q _ _ _=>⟨ob.slots,k b ob q⟩,fun _ _ _ n _=>n,fun b ob q _=>⟨ob,k b ob q⟩,fun _ _ q=>q,fun _ _ _ q=>q,fun _ ps q=>⟨#[],by rw [q];simp⟩⟩
theorem Un.refl:Un fs ex H H h h:=Un.kept fun _ _ q=>q
theorem Un.laid(k:∀ b u,h.get? b=some u->h'.get? b=some u)(hp:h.objs.size<=a)(hn:H a=none):Un fs ex H (bQ H a o) h h' where
 keep:=fun b u q _ _ _=>k b u q
 slot:=fun b u q _ _ _=>⟨u.slots,k b u q⟩
 free:=fun b u q n _=>by rw [aA (Nat.ne_of_lt (Nat.lt_of_lt_of_le (Heap.lt_size q) hp))];exact n
 there:=fun b u q _=>⟨u,k b u q⟩
 tups:=fun b xs q=>by rw [aA (aO q hn)];exact q
 frzs:=fun b u xs q=>by rw [aA (aO q hn)];exact q
 tbls:=fun b ps q=>⟨#[],by rw [aA (aO q hn),q];simp⟩
theorem Un.write(mu:Xo (H x))(he:e=x\/H e=some (.own x))(k:∀ b u,b≠e->h.get? b=some u->h'.get? b=some u)(heo:∃ u,h'.get? e=some u):Un fs ex H (bQ H x o) h h':=by
 have hx:∀ b,H b=none->b≠x:=fun b n z=>by subst z;rw [n] at mu;exact mu
 have hb:∀ b,H b=none->b≠e:=fun b n z=>by
  subst z
  rcases he with r | r
  .exact hx b n r
  .rw [n] at r;cases r
 have hm:∀ b u,H b=some u->¬ Xo (some u)->b≠x:=fun b u q nm z=>by subst z;rw [q] at mu;exact nm mu
 refine ⟨fun b u q n _ _=>k b u (hb b n) q,fun b u q n _ _=>⟨u.slots,k b u (hb b n) q⟩,fun b u q n _=>by rw [aA (hx b n)];exact n,fun b u q _=>?_,
  fun b xs q=>by rw [aA (hm b _ q fun z=>z)];exact q,fun b u xs q=>by rw [aA (hm b _ q fun z=>z)];exact q,fun b ps q=>⟨#[],by rw [aA (hm b _ q fun z=>z),q];simp⟩⟩
 by_cases hbe:b=e
 .subst hbe;exact heo
 .exact ⟨u,k b u hbe q⟩
end
noncomputable def Yn(h:Heap)(H:Hp):List Addr:=(List.range h.objs.size).filter fun a=>(H a).isSome
noncomputable def Aa(h:Heap)(H:Hp):Heap:=PySem.W.hideAll h (Yn h H)
theorem Mv(h:Heap)(H:Hp):(Aa h H).objs.size=h.objs.size:=PySem.W.hideAll_size _ _
theorem Rb(e:h.get? b=some o)(n:H b=none):(Aa h H).get? b=some o :=
 PySem.W.hideAll_get _ e fun hm=>by
  have q:(H b).isSome=true:=(List.mem_filter.mp hm).2
  rw [n] at q;simp at q
theorem Sx(e:(Aa h H).get? b=some o):h.get? b=some o/\H b=none:=by
 have e':h.get? b=some o:=PySem.W.of_hideAll (Yn h H) e
 refine ⟨e',?_⟩
 cases q:H b with
 | none=>rfl
 | some x =>
  have hm:b∈Yn h H:=List.mem_filter.mpr ⟨List.mem_range.mpr (Heap.lt_size e'),by simp [q]⟩
  have z:(Aa h H).get? b=none:=PySem.W.hideAll_none (Yn h H) hm
  rw [z] at e;cases e
noncomputable def RQ(g h:Heap)(L:Addr):List (Addr × Obj):=(List.range h.objs.size).filterMap fun a=>if a=L\/(g.get? a).isSome=true then none else (h.get? a).map fun o=>(a,o)
noncomputable def wM(g h:Heap)(L d:Addr):List (Addr × Obj):=(RQ g h L).filter fun p=>decide (p.1≠d)
structure Mod(K:PySem.W.Frag)(mg:Str->Option Value)(base:Heap):Prop where
 kin:K.In base
 glob:base.Ns mainGlobals mg
 blt:∃ mb,base.Ns builtinsNs mb/\∀ x:Str,x≠"__name__"->mb x=bootBuiltins x
 nolimit:base.NoLimit
structure Cx where
 prog:Program
 w:World
 K:PySem.W.Frag
 mg:Str->Option Value
 base:Heap
 A:Around
 N:List Str
 s₀:Shared
 H₀:Hp
 env:Env
 outer:List Env
 stack:List Env
 ex:List Addr
 fn:Str->Bool
 calm:Bool
 pn:List (Addr × Obj)
 xe:Value->Shared->Prop
noncomputable def qz(l:List Env):List Addr:=l.filterMap (·.frame)
noncomputable abbrev Cx.fs(X:Cx):List Addr:=qz X.outer
noncomputable def Ym(sc:Scope)(x:Str):Prop:=sc.names.lookup x=some .local\/sc.names.lookup x=some .cell\/sc.names.lookup x=some .free
noncomputable def Xq(sc:Scope)(x:Str):Prop:=sc.names.lookup x=some .local\/sc.names.lookup x=some .cell
noncomputable def Yp(env:Env)(h:Heap)(m:Str->Option Value)(x:Str)(u:Value):Prop :=
 (env.kindOf x=some .local/\m x=some u)\/((env.kindOf x=some .cell\/env.kindOf x=some .free)/\∃ c,env.cells.lookup x=some c/\h.IsCell c (some u))
structure Cx.Ok(X:Cx):Prop where
 mod:Mod X.K X.mg X.base
 kind:X.env.scope.kind=.function
 glob:X.env.globals=mainGlobals
 blt:X.env.builtins=builtinsNs
 above:X.s₀.heap.objs.size<=X.env.locals
 inj:∀ x y c,X.env.cells.lookup x=some c->X.env.cells.lookup y=some c->x=y
 has:∀ x,(X.env.kindOf x=some .cell\/X.env.kindOf x=some .free)->∃ c,X.env.cells.lookup x=some c
 cab:∀ x c,X.fn x=true->X.env.cells.lookup x=some c->X.s₀.heap.objs.size<=c
 hd:X.calm=true->X.A.handled=none
 frames:X.A.frames=some X.stack
 stk:X.stack=X.outer\/(X.stack=X.env::X.outer/\X.env.frame=some X.env.locals)
 exf:∀ b∈X.ex,b≠X.env.locals/\∀ x c,X.env.cells.lookup x=some c->c≠b
 bs:∀ b o,X.base.get? b=some o->X.s₀.heap.get? b=some o/\X.H₀ b=none
 bsz:X.base.objs.size<=X.s₀.heap.objs.size
 noex:∀ b o,X.base.get? b=some o->b∉X.ex
 exfs:∀ b∈X.ex,b∉X.fs
 funs:X.s₀.heap.FunFrames X.base X.outer
 frf:∀ b∈X.fs,X.H₀ b=none
structure bj(X:Cx)(pins:List (Addr × Obj))(σ:List (Option V))(H:Hp)(s:Shared):Prop where
 ok:X.Ok
 os:s.os=X.s₀.os
 bare:AllBare s.gens
 base:Un X.fs X.ex X.H₀ H X.s₀.heap s.heap
 loc:∃ m,s.heap.Ns X.env.locals m/\∀ (i:Nat) (x:Str) (v:V),X.N[i]?=some x->σ[i]?=some (some v)->Ym X.env.scope x->∃ u,cQ v u/\Yp X.env s.heap m x u
 cell:∀ x c,X.env.cells.lookup x=some c->∃ v,s.heap.IsCell c v
 free:H X.env.locals=none
 freeC:∀ x c,X.env.cells.lookup x=some c->H c=none
 pin:∀ p∈X.pn++pins,s.heap.get? p.1=some p.2/\H p.1=none/\p.1≠X.env.locals/\p.1∉X.fs/\∀ v,p.2.data≠.cell v
 hok:qw X.prog X.w H s.heap
 len:σ.length=X.N.length
section
variable{X:Cx}{pins:List (Addr × Obj)}{σ:List (Option V)}{H H':Hp}{s:Shared}{h':Heap}
theorem Cx.Ok.nofr(ok:X.Ok)(e:X.base.get? b=some o):b∉X.fs:=fun hb=>by
 have:=(ok.funs.mem hb).1
 rw [e] at this;cases this
theorem bj.bs(I:bj X pins σ H s):∀ b o,X.base.get? b=some o->s.heap.get? b=some o/\H b=none:=fun b o e =>
 ⟨I.base.keep b o (I.ok.bs b o e).1 (I.ok.bs b o e).2 (I.ok.nofr e) (I.ok.noex b o e),I.base.free b o (I.ok.bs b o e).1 (I.ok.bs b o e).2 (I.ok.noex b o e)⟩
theorem bj.bk(I:bj X pins σ H s):∀ b o,X.base.get? b=some o->s.heap.get? b=some o:=fun b o e=>(I.bs b o e).1
theorem bj.mod(I:bj X pins σ H s):Mod X.K X.mg X.base:=I.ok.mod
theorem bj.kIn(I:bj X pins σ H s):X.K.In s.heap:=I.ok.mod.kin.keeps I.bk
theorem bj.nolimit(I:bj X pins σ H s):s.heap.NoLimit:=I.ok.mod.nolimit.keeps I.bk
theorem bj.fr(I:bj X pins σ H s):∃ m,Fr X.base X.env.locals s.heap m :=
 let ⟨m,hn,_⟩:=I.loc
 ⟨m,hn,I.bk,Nat.le_trans I.ok.bsz I.ok.above⟩
theorem bj.lt(I:bj X pins σ H s):X.env.locals<s.heap.objs.size:=let ⟨_,hn,_⟩:=I.loc;hn.lt
theorem bj.sz(I:bj X pins σ H s):X.s₀.heap.objs.size<=s.heap.objs.size:=Nat.le_trans I.ok.above (Nat.le_of_lt I.lt)
theorem bj.nofs(I:bj X pins σ H s)(h:s.heap.objs.size<=a):a∉X.fs:=fun hb=>by
 obtain ⟨_,o,ho,_⟩:=I.ok.funs.mem hb
 exact absurd (Nat.lt_of_lt_of_le (Heap.lt_size ho) (Nat.le_trans I.sz h)) (Nat.lt_irrefl _)
theorem bj.cne(I:bj X pins σ H s):∀ x c,X.env.cells.lookup x=some c->c≠X.env.locals:=fun x c e z=>by
 obtain ⟨v,o,ho,hd⟩:=I.cell x c e
 obtain ⟨m,⟨o',es,ep,ho',hd',_⟩,_⟩:=I.loc
 rw [z,ho'] at ho;cases ho;rw [hd'] at hd;cases hd
theorem bj.funs(I:bj X pins σ H s):s.heap.FunFrames X.base X.outer:=by
 have all:∀ (l:List Env),(∀ b∈qz l,b∈X.fs)->X.s₀.heap.FunFrames X.base l->s.heap.FunFrames X.base l:=by
  intro l
  induction l with
  | nil=>intro _ _;trivial
  | cons env r ih =>
   intro hs hl
   obtain ⟨hk,⟨L,o,hf,hn,ho,hd⟩,hr⟩:=hl
   have hL:L∈X.fs:=hs L (by unfold qz;rw [List.filterMap_cons,hf];exact List.mem_cons_self)
   obtain ⟨sl,e⟩:=I.base.slot L o ho (I.ok.frf L hL) hL fun z=>I.ok.exfs L z hL
   exact ⟨hk,⟨L,_,hf,hn,e,hd⟩,ih (fun b hb=>hs b (by unfold qz;rw [List.filterMap_cons,hf];exact List.mem_cons_of_mem _ hb)) hr⟩
 exact all X.outer (fun _ hb=>hb) I.ok.funs
theorem bj.stack(I:bj X pins σ H s):s.heap.FunFrames X.base X.stack:=by
 rcases I.ok.stk with e | ⟨e,hf⟩
 .rw [e];exact I.funs
 .rw [e]
  obtain ⟨m,hn,_⟩:=I.loc
  refine .cons (by rw [I.ok.kind];decide) hf hn ?_ I.funs
  exact Heap.get?_none_of_le (Nat.le_trans I.ok.bsz I.ok.above)
theorem bj.stkSub(I:bj X pins σ H s):∀ b∈qz X.stack,b∈X.env.locals::X.fs:=fun b hb=>by
 rcases I.ok.stk with e | ⟨e,hf⟩
 .rw [e] at hb;exact List.mem_cons_of_mem _ hb
 .rw [e] at hb
  unfold qz at hb
  rw [List.filterMap_cons,hf] at hb
  exact hb
theorem bj.stkFree(I:bj X pins σ H s):∀ b∈qz X.stack,H b=none:=fun b hb=>by
 rcases List.mem_cons.mp (I.stkSub b hb) with e | hb
 .rw [e];exact I.free
 .obtain ⟨_,o,ho,_⟩:=I.ok.funs.mem hb
  exact I.base.free b o ho (I.ok.frf b hb) fun z=>I.ok.exfs b z hb
theorem bj.step{g':Array GenState}{t':Nat}{d':Drawn}{ch:List Addr}(I:bj X pins σ H s)
  (hch:∀ b∈ch,(b∈X.ex\/X.s₀.heap.objs.size<=b)/\b≠X.env.locals/\(∀ x c,X.env.cells.lookup x=some c->c≠b)/\∀ p∈X.pn++pins,p.1≠b)
  (keep:∀ b o,b≠X.env.locals->b∉X.fs->b∉ch->s.heap.get? b=some o->H b=none->h'.get? b=some o)
  (slot:∀ b o,b≠X.env.locals->b∈X.fs->b∉ch->s.heap.get? b=some o->H b=none->∃ sl,h'.get? b=some { o with slots:=sl }) (free:∀ b o,b∉ch->s.heap.get? b=some o->H b=none->H' b=none)
  (there:∀ b o,b∉ch->s.heap.get? b=some o->∃ o',h'.get? b=some o')
  (tups:∀ b xs,H b=some (.tup xs)->H' b=some (.tup xs)) (frzs:∀ b o u,H b=some (.frz o u)->H' b=some (.frz o u)) (tbls:∀ b ps,H b=some (.tbl ps)->∃ more,H' b=some (.tbl (ps++more)))
  (ns:∀ m,s.heap.Ns X.env.locals m->h'.Ns X.env.locals m) (hok:qw X.prog X.w H' h') (hg:AllBare g') :
  bj X pins σ H' { s with heap:=h',gens:=g',drawn:=d',toks:=t' }:=by
 have neL:∀ b o,X.s₀.heap.get? b=some o->b≠X.env.locals:=fun b o e=>Nat.ne_of_lt (Nat.lt_of_lt_of_le (Heap.lt_size e) I.ok.above)
 have neC:∀ b o,X.s₀.heap.get? b=some o->b∉X.ex->b∉ch:=fun b o e hx hb=>by
  rcases (hch b hb).1 with z | z
  .exact hx z
  .exact absurd (Nat.lt_of_lt_of_le (Heap.lt_size e) z) (Nat.lt_irrefl _)
 have cellK:∀ x c,X.env.cells.lookup x=some c->∀ v,s.heap.IsCell c v->h'.IsCell c v:=fun x c e v ⟨o,ho,hd⟩=>by
  have nch:c∉ch:=fun z=>(hch c z).2.2.1 x c e rfl
  by_cases hc:c∈X.fs
  .obtain ⟨sl,q⟩:=slot c o (I.cne x c e) hc nch ho (I.freeC x c e)
   exact ⟨_,q,hd⟩
  .exact ⟨o,keep c o (I.cne x c e) hc nch ho (I.freeC x c e),hd⟩
 refine ⟨I.ok,I.os,hg,⟨fun b o e n hb hx=>?_,fun b o e n hb hx=>?_,fun b o e n hx=>?_,fun b o e hx=>?_,fun b xs e=>tups b xs (I.base.tups b xs e),fun b o xs e=>frzs b o xs (I.base.frzs b o xs e),fun b ps e=>?_⟩,?_,fun x c e=>?_,?_,fun x c e=>?_,fun p hp=>?_,hok,I.len⟩
 .exact keep b o (neL b o e) hb (neC b o e hx) (I.base.keep b o e n hb hx) (I.base.free b o e n hx)
 .obtain ⟨sl,e1⟩:=I.base.slot b o e n hb hx
  obtain ⟨sl',e2⟩:=slot b _ (neL b o e) hb (neC b o e hx) e1 (I.base.free b o e n hx)
  exact ⟨sl',e2⟩
 .obtain ⟨o',e1⟩:=I.base.there b o e hx
  exact free b o' (neC b o e hx) e1 (I.base.free b o e n hx)
 .obtain ⟨o',e1⟩:=I.base.there b o e hx
  exact there b o' (neC b o e hx) e1
 .obtain ⟨m1,e1⟩:=I.base.tbls b ps e
  obtain ⟨m2,e2⟩:=tbls b _ e1
  exact ⟨m1++m2,by rw [e2,Array.append_assoc]⟩
 .obtain ⟨m,hn,hl⟩:=I.loc
  refine ⟨m,ns m hn,fun i x v e1 e2 e3=>?_⟩
  obtain ⟨u,r,l⟩:=hl i x v e1 e2 e3
  refine ⟨u,r,?_⟩
  rcases l with l | ⟨k,c,e,z⟩
  .exact .inl l
  .exact .inr ⟨k,c,e,cellK x c e _ z⟩
 .obtain ⟨v,z⟩:=I.cell x c e
  exact ⟨v,cellK x c e v z⟩
 .obtain ⟨m,⟨o,_,_,ho,_⟩,_⟩:=I.loc
  exact free _ o (fun z=>(hch _ z).2.1 rfl) ho I.free
 .obtain ⟨v,o,ho,hd⟩:=I.cell x c e
  exact free c o (fun z=>(hch c z).2.2.1 x c e rfl) ho (I.freeC x c e)
 .obtain ⟨e,n,ne,nf,d⟩:=I.pin p hp
  have nch:p.1∉ch:=fun z=>(hch p.1 z).2.2.2 p hp rfl
  exact ⟨keep p.1 p.2 ne nf nch e n,free p.1 p.2 nch e n,ne,nf,d⟩
theorem bj.un{t':Nat}(I:bj X pins σ H s)(u:Un X.fs [] H H' s.heap h')(hok:qw X.prog X.w H' h'):bj X pins σ H' { s with heap:=h',toks:=t' }:=by
 obtain ⟨m,⟨o,es,ep,ho,r⟩,_⟩:=id I.loc
 obtain ⟨sl,hL⟩:=u.any ho I.free (by simp)
 exact I.step (g':=s.gens) (d':=s.drawn) (ch:=[]) (fun _ z=>nomatch z) (fun b o _ hb _ e n=>u.keep b o e n hb (by simp)) (fun b o _ hb _ e n=>u.slot b o e n hb (by simp)) (fun b o _ e n=>u.free b o e n (by simp)) (fun b o _ e=>u.there b o e (by simp)) u.tups u.frzs u.tbls (fun m' hm=>by
  obtain ⟨o',es',ep',ho',r'⟩:=hm
  rw [ho] at ho';cases ho'
  exact ⟨_,es',ep',hL,r'⟩) hok I.bare
theorem bj.call{g':Array GenState}{t':Nat}{d':Drawn}{ch:List Addr}(I:bj X pins σ H s)(u:Un (qz X.stack) ch H H' s.heap h')(hok:qw X.prog X.w H' h')(hg:AllBare g')
  (hch:∀ b∈ch,(b∈X.ex\/X.s₀.heap.objs.size<=b)/\b≠X.env.locals/\(∀ x c,X.env.cells.lookup x=some c->c≠b)/\∀ p∈X.pn++pins,p.1≠b) :
  bj X pins σ H' { s with heap:=h',gens:=g',drawn:=d',toks:=t' }:=by
 obtain ⟨m,⟨o,es,ep,ho,r⟩,_⟩:=id I.loc
 obtain ⟨sl,hL⟩:=u.any ho I.free fun z=>(hch _ z).2.1 rfl
 exact I.step (ch:=ch) hch (fun b o hL hb hc e n=>u.keep b o e n (fun z=>(List.mem_cons.mp (I.stkSub b z)).elim hL hb) hc) (fun b o _ _ hc e n=>u.any e n hc) (fun b o hc e n=>u.free b o e n hc) (fun b o hc e=>u.there b o e hc) u.tups u.frzs u.tbls (fun m' hm=>by
  obtain ⟨o',es',ep',ho',r'⟩:=hm
  rw [ho] at ho';cases ho'
  exact ⟨_,es',ep',hL,r'⟩) hok hg
theorem bj.turned{t':Nat}{it:Addr}(I:bj X pins σ H s)(k:∀ b o,b≠it->s.heap.get? b=some o->h'.get? b=some o)(hn:H it=none)(hL:it≠X.env.locals)
  (h1:it∈X.ex\/X.s₀.heap.objs.size<=it) (h2:∀ x c,X.env.cells.lookup x=some c->c≠it) (h3:∀ p∈X.pn++pins,p.1≠it):bj X pins σ H { s with heap:=h',toks:=t' }:=by
 have nit:∀ b u,H b=some u->b≠it:=fun b u e z=>by rw [z,hn] at e;cases e
 refine I.step (g':=s.gens) (d':=s.drawn) (ch:=[it]) (fun b hb=>?_) (fun b o _ _ hc e _=>k b o (fun z=>hc (by simp [z])) e) (fun b o _ _ hc e _=>⟨o.slots,k b o (fun z=>hc (by simp [z])) e⟩) (fun _ _ _ _ n=>n)
  (fun b o hc e=>⟨o,k b o (fun z=>hc (by simp [z])) e⟩) (fun _ _ e=>e) (fun _ _ _ e=>e) (fun b ps e=>⟨#[],by rw [e];simp⟩) (fun m hm=>?_) (fun b u e=>?_) I.bare
 .have e:b=it:=by simpa using hb
  subst e
  exact ⟨h1,hL,h2,h3⟩
 .obtain ⟨o,es,ep,ho,r⟩:=hm
  exact ⟨o,es,ep,k _ o (Ne.symm hL) ho,r⟩
 .refine (I.hok b u e).stay (fun c v hc q=>k c v ?_ q) (fun _ q=>q) fun _ _ q=>q
  rcases hc with z | z
  .rw [z];exact nit b u e
  .exact nit c _ z
theorem bj.tok(I:bj X pins σ H s)(t:Nat):bj X pins σ H { s with toks:=t }:=I.un (h':=s.heap) (t':=t) Un.refl I.hok
theorem bj.kept(I:bj X pins σ H s)(k:∀ b u,s.heap.get? b=some u->h'.get? b=some u):bj X pins σ H { s with heap:=h',toks:=t' }:=I.un (Un.kept k) (I.hok.kept k)
theorem bj.laid(I:bj X pins σ H s)(k:∀ b u,s.heap.get? b=some u->h'.get? b=some u)(hp:s.heap.objs.size<=a)(new:dW X.prog X.w (bQ H a o) h' a o) :
  bj X pins σ (bQ H a o) { s with heap:=h',toks:=t' }:=I.un (Un.laid k hp (I.hok.fresh hp)) (I.hok.laid k hp new)
theorem bj.write(I:bj X pins σ H s)(mu:Xo (H x))(he:e=x\/H e=some (.own x))(k:∀ b u,b≠e->s.heap.get? b=some u->h'.get? b=some u)(heo:∃ u,h'.get? e=some u)
  (new:dW X.prog X.w (bQ H x o) h' x o):bj X pins σ (bQ H x o) { s with heap:=h',toks:=t' }:=I.un (Un.write mu he k heo) (I.hok.write mu he k heo new)
theorem bj.weak(I:bj X pins σ H s)(hl:σ'.length=σ.length)(w:∀ (i:Nat) v,σ'[i]?=some (some v)->σ[i]?=some (some v)):bj X pins σ' H s :=
 ⟨I.ok,I.os,I.bare,I.base,let ⟨m,hn,hl'⟩:=I.loc;⟨m,hn,fun i x v e1 e2 e3=>hl' i x v e1 (w i v e2) e3⟩,I.cell,I.free,I.freeC,I.pin,I.hok,hl.trans I.len⟩
theorem bj.pins_of(I:bj X pins σ H s)(h:∀ p∈pins',s.heap.get? p.1=some p.2/\H p.1=none/\p.1≠X.env.locals/\p.1∉X.fs/\∀ v,p.2.data≠.cell v):bj X pins' σ H s :=
 ⟨I.ok,I.os,I.bare,I.base,I.loc,I.cell,I.free,I.freeC,fun p hp=>(List.mem_append.mp hp).elim (fun z=>I.pin p (List.mem_append_left _ z)) (h p),I.hok,I.len⟩
theorem Hb{N:List Str}(hN:N.Nodup){i j:Nat}{x:Str}(a:N[i]?=some x)(b:N[j]?=some x):i=j:=by
 obtain ⟨h1,e1⟩:=List.getElem?_eq_some_iff.mp a
 obtain ⟨h2,e2⟩:=List.getElem?_eq_some_iff.mp b
 exact (List.getElem_inj hN).mp (e1.trans e2.symm)
theorem vK{M:Model}{A:Around}{E:Value->Shared->Prop}{i:Nat}{x:Str}{v:V}{u:Value}{Q:Unit->Shared->Prop}(I:bj X pins σ H s)(hN:X.N.Nodup)(hi:X.N[i]?=some x)(hx:Xq X.env.scope x)(r:cQ v u)
  (h:∀ s',bj X pins (σ.set i (some v)) H s'->(∃ a,Heap.SameBut a s.heap s'.heap/\(a=X.env.locals\/X.env.cells.lookup x=some a))->Q () s') (hf:X.fn x=true\/X.env.scope.names.lookup x=some .local:=by first | exact .inl rfl | exact .inr rfl | assumption):wpAny M A (storeName X.env x u) Q E s:=by
 obtain ⟨m,hn,hl⟩:=id I.loc
 have hcls:(X.env.scope.kind == .class || (X.env.scope.kind == .module && X.env.locals != X.env.globals))=false:=by rw [I.ok.kind];rfl
 have hiσ:i<σ.length:=by rw [I.len];exact (List.getElem?_eq_some_iff.mp hi).1
 have cne:=I.cne
 have tracked:∀ {a:Addr} {h':Heap},(∃ o,s.heap.get? a=some o/\H a=none)->Heap.SameBut a s.heap h'->qw X.prog X.w H h':=fun {a h'} ha hs b ob e=>by
  obtain ⟨_,_,hfree⟩:=ha
  refine (I.hok b ob e).stay (fun c w' hc q=>(hs.2 c ?_).trans q) (fun _ q=>q) fun _ _ q=>q
  rintro rfl
  rcases hc with rfl | hc
  .rw [hfree] at e;cases e
  .rw [hfree] at hc;cases hc
 rcases hx with hk | hk
 .refine wpAny_storeName_local hk hn (fun h' hn' hs=>?_) hcls
  obtain ⟨oL,_,_,hoL,_⟩:=id hn
  refine h _ ⟨I.ok,I.os,I.bare,⟨fun b o e n hb hx=>?_,fun b o e n hb hx=>?_,I.base.free,fun b o e hx=>?_,I.base.tups,I.base.frzs,I.base.tbls⟩,⟨_,hn',fun j y v' e1 e2 e3=>?_⟩,fun y c e=>?_,I.free,I.freeC,fun p hp=>?_,tracked ⟨oL,hoL,I.free⟩ hs,by simpa using I.len⟩ ⟨_,hs,.inl rfl⟩
  .exact (hs.2 b (Nat.ne_of_lt (Nat.lt_of_lt_of_le (Heap.lt_size e) I.ok.above))).trans (I.base.keep b o e n hb hx)
  .obtain ⟨sl,e1⟩:=I.base.slot b o e n hb hx
   exact ⟨sl,(hs.2 b (Nat.ne_of_lt (Nat.lt_of_lt_of_le (Heap.lt_size e) I.ok.above))).trans e1⟩
  .obtain ⟨o',e1⟩:=I.base.there b o e hx
   exact ⟨o',(hs.2 b (Nat.ne_of_lt (Nat.lt_of_lt_of_le (Heap.lt_size e) I.ok.above))).trans e1⟩
  .by_cases hj:j=i
   .subst hj
    rw [hi] at e1;cases e1
    rw [List.getElem?_set_self hiσ] at e2
    cases e2
    exact ⟨u,r,.inl ⟨hk,by simp⟩⟩
   .rw [List.getElem?_set_ne (Ne.symm hj)] at e2
    obtain ⟨u',r',q⟩:=hl j y v' e1 e2 e3
    refine ⟨u',r',?_⟩
    rcases q with ⟨k,e⟩ | ⟨k,c,e,z⟩
    .refine .inl ⟨k,?_⟩
     have:y≠x:=fun e=>hj (Hb hN e1 (e ▸ hi))
     simp [this,e]
    .exact .inr ⟨k,c,e,z.sameBut hs (cne y c e)⟩
  .obtain ⟨w',z⟩:=I.cell y c e
   exact ⟨w',z.sameBut hs (cne y c e)⟩
  .obtain ⟨e,n,ne,nf,d⟩:=I.pin p hp
   exact ⟨(hs.2 p.1 ne).trans e,n,ne,nf,d⟩
 .have hfn:X.fn x=true:=by
   rcases hf with z | z
   .exact z
   .rw [z] at hk;cases hk
  obtain ⟨c,hc⟩:=I.ok.has x (.inl hk)
  obtain ⟨w',z⟩:=I.cell x c hc
  refine wpAny_storeName_cell I.ok.kind hk hc z (fun h' hc' hs=>?_)
  obtain ⟨oc,hoc,hocd⟩:=id z
  refine h { s with heap:=h' } ⟨I.ok,I.os,I.bare,⟨fun b o e n hb hx=>?_,fun b o e n hb hx=>?_,I.base.free,fun b o e hx=>?_,I.base.tups,I.base.frzs,I.base.tbls⟩,⟨m,hn.sameBut hs (Ne.symm (cne x c hc)),fun j y v' e1 e2 e3=>?_⟩,fun y c' e=>?_,I.free,I.freeC,fun p hp=>?_,tracked ⟨oc,hoc,I.freeC x c hc⟩ hs,by simpa using I.len⟩ ⟨c,hs,.inr hc⟩
  .exact (hs.2 b (Nat.ne_of_lt (Nat.lt_of_lt_of_le (Heap.lt_size e) (I.ok.cab x c hfn hc)))).trans (I.base.keep b o e n hb hx)
  .obtain ⟨sl,e1⟩:=I.base.slot b o e n hb hx
   exact ⟨sl,(hs.2 b (Nat.ne_of_lt (Nat.lt_of_lt_of_le (Heap.lt_size e) (I.ok.cab x c hfn hc)))).trans e1⟩
  .obtain ⟨o',e1⟩:=I.base.there b o e hx
   exact ⟨o',(hs.2 b (Nat.ne_of_lt (Nat.lt_of_lt_of_le (Heap.lt_size e) (I.ok.cab x c hfn hc)))).trans e1⟩
  .by_cases hj:j=i
   .subst hj
    rw [hi] at e1;cases e1
    rw [List.getElem?_set_self hiσ] at e2
    cases e2
    exact ⟨u,r,.inr ⟨.inl hk,c,hc,hc'⟩⟩
   .rw [List.getElem?_set_ne (Ne.symm hj)] at e2
    obtain ⟨u',r',q⟩:=hl j y v' e1 e2 e3
    refine ⟨u',r',?_⟩
    rcases q with q | ⟨k,c',e,z'⟩
    .exact .inl q
    .refine .inr ⟨k,c',e,z'.sameBut hs ?_⟩
     rintro rfl
     exact hj (Hb hN e1 (I.ok.inj _ _ _ e hc ▸ hi))
  .by_cases hcc:c'=c
   .subst hcc;exact ⟨_,hc'⟩
   .obtain ⟨w2,z2⟩:=I.cell y c' e
    exact ⟨w2,z2.sameBut hs hcc⟩
  .obtain ⟨e,n,ne,nf,d⟩:=I.pin p hp
   refine ⟨(hs.2 p.1 ?_).trans e,n,ne,nf,d⟩
   intro q
   rw [q,hoc] at e
   have q':oc=p.2:=Option.some.inj e
   exact d w' (by rw [<- q'];exact hocd)
theorem w5(I:bj X pins σ H s)(hN:X.N.Nodup)(hi:X.N[i]?=some x)(hx:Xq X.env.scope x)(r:cQ v u)
  (h:∀ s',bj X pins (σ.set i (some v)) H s'->Q () s') (hf:X.fn x=true\/X.env.scope.names.lookup x=some .local:=by first | exact .inl rfl | exact .inr rfl | assumption):wpAny M A (storeName X.env x u) Q E s :=
 vK I hN hi hx r (fun s' I' _=>h s' I') hf
theorem bj.call'(I:bj X pins σ H s)(ho:s'.os=s.os)(u:Un (qz X.stack) ch H H' s.heap s'.heap)(hok:qw X.prog X.w H' s'.heap)(hg:AllBare s'.gens)
  (hch:∀ b∈ch,(b∈X.ex\/X.s₀.heap.objs.size<=b)/\b≠X.env.locals/\(∀ x c,X.env.cells.lookup x=some c->c≠b)/\∀ p∈X.pn++pins,p.1≠b):bj X pins σ H' s':=by
 obtain ⟨h',g',d',t',o'⟩:=s'
 have e:o'=s.os:=ho
 subst e
 exact I.call (g':=g') (t':=t') (d':=d') u hok hg hch
end
noncomputable abbrev XK:=Value->Option Addr->Hp->Prop
noncomputable abbrev St:=List (Option V)
noncomputable abbrev VK:=V->Hp->Prop
noncomputable abbrev TE:=St->Hp->VK->Prop
noncomputable abbrev TT:=St->Hp->(Bool->Hp->Prop)->Prop
noncomputable abbrev TA:=St->Hp->(List V->Hp->Prop)->Prop
structure ji where
 nx:St->Hp->Prop
 rt:VK
 bk:St->Hp->Prop:=fun _ _=>False
 ct:St->Hp->Prop:=fun _ _=>False
noncomputable abbrev TS:=ji->St->Hp->Prop
noncomputable def EP(X:Cx)(pins:List (Addr × Obj))(σ:St)(Q:VK)(u:Value)(s':Shared):Prop:=∃ v H',bj X pins σ H' s'/\cQ v u/\Q v H'
noncomputable def TP(X:Cx)(pins:List (Addr × Obj))(σ:St)(Q:Bool->Hp->Prop)(b:Bool)(s':Shared):Prop:=∃ H',bj X pins σ H' s'/\Q b H'
noncomputable def AP(X:Cx)(pins:List (Addr × Obj))(σ:St)(Q:List V->Hp->Prop)(us:List Value)(s':Shared):Prop:=∃ vs H',bj X pins σ H' s'/\cI vs us/\Q vs H'
noncomputable def SP(X:Cx)(pins:List (Addr × Obj))(D:ji)(f:Flow)(s':Shared):Prop :=
 match f with
 | .next=>∃ σ' H',bj X pins σ' H' s'/\D.nx σ' H'
 | .brk=>∃ σ' H',bj X pins σ' H' s'/\D.bk σ' H'
 | .cont=>∃ σ' H',bj X pins σ' H' s'/\D.ct σ' H'
 | .ret u=>∃ v σ' H',bj X pins σ' H' s'/\cQ v u/\D.rt v H'
noncomputable def PE(X:Cx)(e:Expr)(t:TE):Prop :=
 ∀ (pins:List (Addr × Obj)) (s:Shared) (σ:St) (H:Hp) (Q:VK),bj X pins σ H s->t σ H Q->wpAny (model X.prog X.w) X.A (eval e X.env) (EP X pins σ Q) X.xe s
noncomputable def PT(X:Cx)(e:Expr)(t:TT):Prop :=
 ∀ (pins:List (Addr × Obj)) (s:Shared) (σ:St) (H:Hp) (Q:Bool->Hp->Prop),bj X pins σ H s->t σ H Q->wpAny (model X.prog X.w) X.A (isTrue e X.env (eval e X.env)) (TP X pins σ Q) X.xe s
noncomputable def PW(X:Cx)(e:Expr)(t:TT):Prop :=
 ∀ (whole:Sem Value) (pins:List (Addr × Obj)) (s:Shared) (σ:St) (H:Hp) (Q:Bool->Hp->Prop),bj X pins σ H s->t σ H Q->wpAny (model X.prog X.w) X.A (isTrue e X.env whole) (TP X pins σ Q) X.xe s
theorem PW.pt(h:PW X e t):PT X e t:=h _
noncomputable def PA(X:Cx)(es:List Expr)(t:TA):Prop :=
 ∀ (pos:Pos) (pins:List (Addr × Obj)) (s:Shared) (σ:St) (H:Hp) (Q:List V->Hp->Prop),bj X pins σ H s->t σ H Q->wpAny (model X.prog X.w) X.A (spliced (backTo pos (starEach es X.env))) (AP X pins σ Q) X.xe s
noncomputable def PS(X:Cx)(st:Stmt)(t:TS):Prop :=
 ∀ (pins:List (Addr × Obj)) (s:Shared) (σ:St) (H:Hp) (D:ji),bj X pins σ H s->t D σ H->wpAny (model X.prog X.w) X.A (exec st X.env) (SP X pins D) X.xe s
noncomputable def xW(X:Cx)(st:List Stmt)(t:TS):Prop :=
 ∀ (pins:List (Addr × Obj)) (s:Shared) (σ:St) (H:Hp) (D:ji),bj X pins σ H s->t D σ H->wpAny (model X.prog X.w) X.A (execs st X.env) (SP X pins D) X.xe s
theorem dg(h:wpAny M A t Q E s)(hQ:∀ a s,Q a s->Q' a s):wpAny M A t Q' E s:=wpAny_mono h hQ fun _ _ x=>x
section
variable{X:Cx}
theorem bin{a b:Expr}{ta tb:TE}(ha:PE X a ta)(hb:PE X b tb){pins:List (Addr × Obj)}{s:Shared}{σ:St}{H:Hp}{R:V->V->Hp->Prop}(I:bj X pins σ H s)(h:ta σ H fun x H1=>tb σ H1 fun y H2=>R x y H2)
  {α:Type} {Q:α->Shared->Prop} {f:Value->Value->Sem α}
  (hf:∀ v u s2 x y H2,bj X pins σ H2 s2->cQ x v->cQ y u->R x y H2->wpAny (model X.prog X.w) X.A (f v u) Q X.xe s2) :
  wpAny (model X.prog X.w) X.A (eval a X.env) (fun v s₁=>wpAny (model X.prog X.w) X.A (eval b X.env) (fun u s₂=>wpAny (model X.prog X.w) X.A (f v u) Q X.xe s₂) X.xe s₁) X.xe s:=by
 refine dg (ha pins s σ H _ I h) fun v s1 ⟨x,H1,I1,r1,q1⟩=>?_
 refine dg (hb pins s1 σ H1 _ I1 q1) fun u s2 ⟨y,H2,I2,r2,q2⟩=>?_
 exact hf v u s2 x y H2 I2 r1 r2 q2
noncomputable def E2{α β:Type}(p:α->β->Prop)(a:α):Prop:=Exists (p a)
noncomputable def E3{α β γ:Type}(p:α->β->γ->Prop)(a:α):Prop:=Exists (E2 (p a))
noncomputable def E4{α β γ δ:Type}(p:α->β->γ->δ->Prop)(a:α):Prop:=Exists (E3 (p a))
noncomputable def E5{α β γ δ ε:Type}(p:α->β->γ->δ->ε->Prop)(a:α):Prop:=Exists (E4 (p a))
noncomputable def W8{α:Type}(p:α->Prop):Prop:=∀ a,p a
noncomputable def Al2{α β:Type}(p:α->β->Prop):Prop:=∀ a b,p a b
noncomputable def Yw(i:Nat)(σ:St)(H:Hp)(Q:VK)(v:V):Prop:=σ[i]?=some (some v)/\Q v H
noncomputable def cP(i:Nat):TE:=fun σ H Q=>Exists (Yw i σ H Q)
noncomputable def tC(v:V):TE:=fun _ H Q=>Q v H
theorem V6(hN:X.N[i]?=some x)(hv:Ym X.env.scope x)(hd:(x == ("__debug__":Str))=false:=by decide)(hcd:(x == ("__classdict__":Str))=false:=by decide):PE X (.Name x pos) (cP i):=by
 intro pins s σ H Q I h
 obtain ⟨v,e,h⟩:=h
 obtain ⟨m,hn,hl⟩:=I.loc
 obtain ⟨u,r,l⟩:=hl i x v hN e hv
 have fin:EP X pins σ Q u s:=⟨v,H,I,r,h⟩
 rcases l with ⟨hk,hm⟩ | ⟨hk,c,hc,hcell⟩
 .exact wpAny_Name (wpAny_loadName_local I.ok.kind hk hn hm fin) hd
 .rcases hk with hk | hk
  .exact wpAny_Name (wpAny_loadName_cell I.ok.kind hk hc hcell fin) hd
  .exact wpAny_Name (wpAny_loadName_free I.ok.kind hk hc hcell fin hcd) hd
theorem aF{i j pos}:PE X (.Constant (.int i) j pos) (tC (.int i)):=fun _ _ _ H _ I h=>wpAny_Constant_int ⟨.int i,H,I.tok _,⟨_,rfl⟩,h⟩
theorem lO{b j pos}:PE X (.Constant (.bool b) j pos) (tC (.bl b)):=fun _ _ _ H _ I h=>Constant_bool ⟨.bl b,H,I,rfl,h⟩
theorem je{j pos}:PE X (.Constant .none j pos) (tC .non):=fun _ _ _ H _ I h=>Constant_none ⟨.non,H,I,rfl,h⟩
theorem aX{x j pos}:PE X (.Constant (.str x) j pos) (tC (.str x)):=fun _ _ _ H _ I h=>Calls.Constant_str ⟨.str x,H,I.tok _,⟨_,rfl⟩,h⟩
noncomputable def Gl(X:Cx)(x:Str):Prop:=X.env.kindOf x=some .globalImplicit
theorem sI(I:bj X pins σ H s)(hg:Gl X x)(hm:X.mg x=some u)(h:Q u s)
  (hd:(x == ("__debug__":Str))=false:=by decide):wpAny (model X.prog X.w) X.A (eval (.Name x pos) X.env) Q E s :=
 Calls.Name_function_global I.ok.kind hg (Calls.loadGlobal_global (by rw [I.ok.glob];exact I.mod.glob.keeps I.bk) hm h) hd
theorem lM(I:bj X pins σ H s)(hg:Gl X x)(hm:X.mg x=none)(hv:bootBuiltins x=some u)(h:Q u s)
  (hn:x≠"__name__":=by decide) (hd:(x == ("__debug__":Str))=false:=by decide):wpAny (model X.prog X.w) X.A (eval (.Name x pos) X.env) Q E s:=by
 obtain ⟨mb,h1,h2⟩:=I.mod.blt
 exact Calls.Name_function_global I.ok.kind hg (Calls.loadGlobal_builtin (by rw [I.ok.glob];exact I.mod.glob.keeps I.bk) hm (by rw [I.ok.blt];exact h1.keeps I.bk) ((h2 x hn).trans hv) h) hd
theorem aN(hg:Gl X x)(hm:X.mg x=some u)(r:cQ v u)(hd:(x == ("__debug__":Str))=false:=by decide):PE X (.Name x pos) (tC v) :=
 fun _ _ _ H _ I h=>sI I hg hm ⟨v,H,I,r,h⟩ hd
theorem ir(hg:Gl X x)(hm:X.mg x=none)(hv:bootBuiltins x=some u)(r:cQ v u)(hn:x≠"__name__":=by decide)(hd:(x == ("__debug__":Str))=false:=by decide):PE X (.Name x pos) (tC v) :=
 fun _ _ _ H _ I h=>lM I hg hm hv ⟨v,H,I,r,h⟩ hn hd
variable{a b:Expr}{ta tb:TE}{pos:Pos}
noncomputable def PC(X:Cx)(op:CmpOp)(a b:Expr)(t:TE):Prop :=
 ∀ (pins:List (Addr × Obj)) (s:Shared) (σ:St) (H:Hp) (Q:VK),bj X pins σ H s->t σ H Q ->
  wpAny (model X.prog X.w) X.A (eval a X.env) (fun v s₁=>wpAny (model X.prog X.w) X.A (eval b X.env) (fun u s₂=>wpAny (model X.prog X.w) X.A (compareOp op v u) (EP X pins σ Q) X.xe s₂) X.xe s₁) X.xe s
theorem FW(b:Expr)(h:op≠.In)(h2:op≠.NotIn):behindInMarks op b=false:=by
 have e1:(op == CmpOp.In)=false:=by cases op <;> first | rfl | exact absurd rfl h
 have e2:(op == CmpOp.NotIn)=false:=by cases op <;> first | rfl | exact absurd rfl h2
 cases b <;> simp [behindInMarks,e1,e2]
noncomputable def Yv(Q:VK):VK:=fun x H1=>Q (.bl (decide (x=.non))) H1
noncomputable def YX(ta:TE):TE:=fun σ H Q=>ta σ H (Yv Q)
noncomputable def Xi(Q:VK):VK:=fun x H1=>Q (.bl (!decide (x=.non))) H1
noncomputable def XC(ta:TE):TE:=fun σ H Q=>ta σ H (Xi Q)
theorem cQ.none_iff(r:cQ x v):(v == Value.none)=decide (x=.non):=by
 cases x with
 | non=>cases r;rfl
 | bl _=>cases r;rfl
 | int _=>obtain ⟨t,rfl⟩:=r;rfl
 | str _=>obtain ⟨t,rfl⟩:=r;rfl
 | byt _=>obtain ⟨t,rfl⟩:=r;rfl
 | flt _=>obtain ⟨t,rfl⟩:=r;rfl
 | ref _=>cases r;rfl
 | ty _=>cases r;rfl
theorem lK{j pos'}(ha:PE X a ta):PC X .Is a (.Constant .none j pos') (YX ta):=by
 intro pins s σ H Q I h
 refine dg (ha pins s σ H _ I h) fun v s1 ⟨x,H1,I1,r1,q1⟩=>?_
 exact Constant_none (is_none_gen ⟨.bl _,H1,I1,by rw [r1.none_iff];rfl,q1⟩)
theorem jw{j pos'}(ha:PE X a ta):PC X .IsNot a (.Constant .none j pos') (XC ta):=by
 intro pins s σ H Q I h
 refine dg (ha pins s σ H _ I h) fun v s1 ⟨x,H1,I1,r1,q1⟩=>?_
 exact Constant_none (isnot_none_gen ⟨.bl _,H1,I1,by rw [r1.none_iff];rfl,q1⟩)
noncomputable def X7(Q:Bool->Hp->Prop)(x:V)(H:Hp)(c:Bool):Prop:=x=.bl c/\Q c H
noncomputable def Uk(Q:Bool->Hp->Prop):VK:=fun x H=>Exists (X7 Q x H)
noncomputable def tB(t:TE):TT:=fun σ H Q=>t σ H (Uk Q)
theorem V8(h:PC X op a b t)(h1:behindInMarks op b=false:=by first | exact FW _ (by decide) (by decide) | rfl):PE X (.Compare a [op] [b] pos) t:=fun pins s σ H Q I hw=>wpAny_Compare1 (h pins s σ H Q I hw) h1
theorem eV(h:PC X op a b t)(h1:behindInMarks op b=false:=by first | exact FW _ (by decide) (by decide) | rfl):PT X (.Compare a [op] [b] pos) (tB t):=by
 intro pins s σ H Q I hw
 refine wpAny_isTrue_Compare1 (dg (h pins s σ H _ I hw) fun v s1 h1=>dg h1 fun u s2 h2=>dg h2 fun c s3 ⟨x,H1,I1,r1,q1⟩=>?_) h1
 obtain ⟨d,rfl,q⟩:=q1
 cases r1
 exact wpAny_truthy_bool ⟨H1,I1,q⟩
theorem cu(h:PE X e t)(he:∀ whole,isTrue e X.env whole=(do let v <- whole;standAt e.pos;holding [v] (truthy v)):=by intro _;rfl):PT X e (tB t):=by
 intro pins s σ H Q I hw
 refine isTrue_plain (dg (h pins s σ H _ I hw) fun v s1 ⟨x,H1,I1,r1,q1⟩=>?_) (he _)
 obtain ⟨d,rfl,q⟩:=q1
 cases r1
 exact wpAny_truthy_bool ⟨H1,I1,q⟩
variable{tA tB':TT}{wM:List Expr}
noncomputable def Yt(u:TT)(σ:St)(Q:Bool->Hp->Prop):Bool->Hp->Prop:=fun c H1=>if c=true then u σ H1 Q else Q false H1
noncomputable def Wi(t u:TT):TT:=fun σ H Q=>t σ H (Yt u σ Q)
noncomputable def kOr(u:TT)(σ:St)(Q:Bool->Hp->Prop):Bool->Hp->Prop:=fun c H1=>if c=true then Q true H1 else u σ H1 Q
noncomputable def tOr(t u:TT):TT:=fun σ H Q=>t σ H (kOr u σ Q)
noncomputable def ZM(Q:Bool->Hp->Prop):Bool->Hp->Prop:=fun c H1=>Q (!c) H1
noncomputable def Vr(t:TT):TT:=fun σ H Q=>t σ H (ZM Q)
theorem uL(ha:PT X a tA):PW X (.BoolOp .And [a] pos) tA:=by
 intro wh pins s σ H Q I h
 refine isTrue_and (dg (ha pins s σ H Q I h) fun c s1 e=>?_)
 cases c with
 | true=>exact isTrue_and_nil e
 | false=>exact e
theorem pB(ha:PT X a tA):PW X (.BoolOp .Or [a] pos) tA:=by
 intro wh pins s σ H Q I h
 refine isTrue_or (dg (ha pins s σ H Q I h) fun c s1 e=>?_)
 cases c with
 | false=>exact isTrue_or_nil e
 | true=>exact e
theorem yo(ha:PT X a tA)(hb:PW X (.BoolOp .And (b::wM) pos) tB'):PW X (.BoolOp .And (a::b::wM) pos) (Wi tA tB'):=by
 intro wh pins s σ H Q I h
 refine isTrue_and (dg (ha pins s σ H _ I h) fun c s1 ⟨H1,I1,q1⟩=>?_)
 cases c with
 | true=>exact hb wh pins s1 σ H1 Q I1 q1
 | false=>exact ⟨H1,I1,q1⟩
theorem lZ(ha:PT X a tA)(hb:PW X (.BoolOp .Or (b::wM) pos) tB'):PW X (.BoolOp .Or (a::b::wM) pos) (tOr tA tB'):=by
 intro wh pins s σ H Q I h
 refine isTrue_or (dg (ha pins s σ H _ I h) fun c s1 ⟨H1,I1,q1⟩=>?_)
 cases c with
 | true=>exact ⟨H1,I1,q1⟩
 | false=>exact hb wh pins s1 σ H1 Q I1 q1
theorem fU(ha:PT X a tA):PT X (.UnaryOp .Not a pos) (Vr tA):=by
 intro pins s σ H Q I h
 exact isTrue_not (ha pins s σ H (fun c H1=>Q (!c) H1) I h)
noncomputable def Uq(ta tb:TE):TE:=fun σ H Q=>ta σ H fun x H1=>∃ c,x=.bl c/\if c=true then tb σ H1 Q else Q (.bl false) H1
noncomputable def ZW(ta tb:TE):TE:=fun σ H Q=>ta σ H fun x H1=>∃ c,x=.bl c/\if c=true then Q (.bl true) H1 else tb σ H1 Q
noncomputable def WN(ta:TE):TE:=fun σ H Q=>ta σ H fun x H1=>∃ c,x=.bl c/\Q (.bl (!c)) H1
theorem jH{op}(h:PE X a t):PE X (.BoolOp op [a] pos) t:=fun pins s σ H Q I hw=>BoolOp_one (h pins s σ H Q I hw)
theorem pH(ha:PE X a ta)(hb:PE X (.BoolOp .And (b::wM) pos) tb):PE X (.BoolOp .And (a::b::wM) pos) (Uq ta tb):=by
 intro pins s σ H Q I h
 refine BoolOp_and (dg (ha pins s σ H _ I h) fun v s1 ⟨x,H1,I1,r1,q1⟩=>?_)
 obtain ⟨c,rfl,q1⟩:=q1
 cases r1
 refine wpAny_truthy_bool ?_
 cases c with
 | true=>exact hb pins s1 σ H1 Q I1 q1
 | false=>exact ⟨.bl false,H1,I1,rfl,q1⟩
theorem BL(ha:PE X a ta)(hb:PE X (.BoolOp .Or (b::wM) pos) tb):PE X (.BoolOp .Or (a::b::wM) pos) (ZW ta tb):=by
 intro pins s σ H Q I h
 refine BoolOp_or (dg (ha pins s σ H _ I h) fun v s1 ⟨x,H1,I1,r1,q1⟩=>?_)
 obtain ⟨c,rfl,q1⟩:=q1
 cases r1
 refine wpAny_truthy_bool ?_
 cases c with
 | false=>exact hb pins s1 σ H1 Q I1 q1
 | true=>exact ⟨.bl true,H1,I1,rfl,q1⟩
theorem JK(ha:PE X a ta):PE X (.UnaryOp .Not a pos) (WN ta):=by
 intro pins s σ H Q I h
 refine UnaryOp_ (dg (ha pins s σ H _ I h) fun v s1 ⟨x,H1,I1,r1,q1⟩=>?_)
 obtain ⟨c,rfl,q1⟩:=q1
 cases r1
 exact not_of (wpAny_truthy_bool ⟨.bl (!c),H1,I1,rfl,q1⟩)
noncomputable def kIf(ta tb:TE)(σ:St)(Q:VK):Bool->Hp->Prop:=fun c H1=>if c=true then ta σ H1 Q else tb σ H1 Q
noncomputable def Wv(t:TT)(ta tb:TE):TE:=fun σ H Q=>t σ H (kIf ta tb σ Q)
theorem ig(hc:PT X c tA)(ha:PE X a ta)(hb:PE X b tb):PE X (.IfExp c a b pos) (Wv tA ta tb):=by
 intro pins s σ H Q I h
 refine wpAny_IfExp (dg (hc pins s σ H _ I h) fun d s1 ⟨H1,I1,q1⟩=>?_)
 cases d with
 | true=>exact ha pins s1 σ H1 Q I1 q1
 | false=>exact hb pins s1 σ H1 Q I1 q1
end
noncomputable def c7(K:PySem.W.Frag)(H:Hp)(a:Addr)(xs:List V):Prop :=
 Rd H a (.lst xs) \/
  ∃ (o:Obj) (its:Array Value) (n:Nat),K.lookup a=some o/\o.cls=.type "list"/\o.dict=none/\o.data=.seq its n/\its.size<=sizeLine/\cI xs its.toList
noncomputable def cZ(K:PySem.W.Frag)(H:Hp)(a:Addr)(xs:List V):Prop :=
 Rd H a (.tup xs) \/
  ∃ (o:Obj) (its:Array Value) (n:Nat),K.lookup a=some o/\o.cls=.type "tuple"/\o.data=.seq its n/\its.size<=sizeLine/\cI xs its.toList
noncomputable def Ys:Value->Option V
 | .none=>some .non
 | .bool b=>some (.bl b)
 | .int i _=>some (.int i)
 | .str x _=>some (.str x)
 | .bytes b _=>some (.byt b)
 | .float b _=>some (.flt b)
 | .ref a=>some (.ref a)
 | .type n=>some (.ty n)
 | _=>none
theorem cQ.abs(r:cQ x u):Ys u=some x:=by
 cases x with
 | non=>cases r;rfl
 | bl _=>cases r;rfl
 | int _=>obtain ⟨t,rfl⟩:=r;rfl
 | str _=>obtain ⟨t,rfl⟩:=r;rfl
 | byt _=>obtain ⟨t,rfl⟩:=r;rfl
 | flt _=>obtain ⟨t,rfl⟩:=r;rfl
 | ref _=>cases r;rfl
 | ty _=>cases r;rfl
theorem cQ.inj(r:cQ x u)(q:cQ y u):x=y:=Option.some.inj (r.abs.symm.trans q.abs)
theorem cI.inj:∀ {xs ys:List V} {us:List Value},cI xs us->cI ys us->xs=ys
 | _,_,_,.nil,.nil=>rfl
 | _,_,_,.cons r t,.cons r' t'=>by rw [r.inj r',cI.inj t t']
section
variable{X:Cx}{pins:List (Addr × Obj)}{σ:St}{H:Hp}{s:Shared}{a:Addr}{xs ys:List V}
theorem c7.of{K:PySem.W.Frag}(h:H a=some (.lst xs)):c7 K H a xs:=.inl (.inl h)
theorem cZ.of{K:PySem.W.Frag}(h:H a=some (.tup xs)):cZ K H a xs:=.inl (.inl h)
theorem bj.list(I:bj X pins σ H s)(h:c7 X.K H a xs):∃ its:List Value,cI xs its/\PlainL s.heap a its.toArray/\xs.length<=sizeLine:=by
 rcases h with h | ⟨o,its,n,hk,hc,hd,hs,hz,r⟩
 .obtain ⟨z,its,n,r,e⟩:=h.ok I.hok
  exact ⟨its,r,⟨_,n,e,rfl,rfl,rfl⟩,z⟩
 .refine ⟨its.toList,r,⟨o,n,I.kIn a o hk,hc,hd,by simpa using hs⟩,?_⟩
  have e:=r.length
  simp only [Array.length_toList] at e
  omega
theorem bj.tuple(I:bj X pins σ H s)(h:cZ X.K H a xs):∃ its:List Value,cI xs its/\IsTup s.heap a its.toArray/\xs.length<=sizeLine:=by
 rcases h with h | ⟨o,its,n,hk,hc,hs,hz,r⟩
 .obtain ⟨z,its,r,p⟩:=h.ok I.hok
  exact ⟨its,r,p,z⟩
 .refine ⟨its.toList,r,⟨o,I.kIn a o hk,hc,n,by simpa using hs⟩,?_⟩
  have e:=r.length
  simp only [Array.length_toList] at e
  omega
theorem bj.list_inj(I:bj X pins σ H s)(h:c7 X.K H a xs)(h':c7 X.K H a ys):xs=ys:=by
 obtain ⟨its,r,⟨o,n,e,_,_,d⟩,_⟩:=I.list h
 obtain ⟨its',r',⟨o',n',e',_,_,d'⟩,_⟩:=I.list h'
 rw [e] at e';cases e'
 rw [d] at d'
 injection d' with d1 _
 have:its=its':=by simpa using congrArg Array.toList d1
 subst this
 exact r.inj r'
theorem bj.tuple_inj(I:bj X pins σ H s)(h:cZ X.K H a xs)(h':cZ X.K H a ys):xs=ys:=by
 obtain ⟨its,r,⟨o,e,_,n,d⟩,_⟩:=I.tuple h
 obtain ⟨its',r',⟨o',e',_,n',d'⟩,_⟩:=I.tuple h'
 rw [e] at e';cases e'
 rw [d] at d'
 injection d' with d1 _
 have:its=its':=by simpa using congrArg Array.toList d1
 subst this
 exact r.inj r'
end
noncomputable abbrev Cx.wish(X:Cx)(E:Value->Shared->Prop):Cx:={ X with xe:=E }
noncomputable abbrev Cx.nox(X:Cx):Cx:=X.wish fun _ _=>False
theorem Cx.Ok.wish{X:Cx}(ok:X.Ok)(E:Value->Shared->Prop):(X.wish E).Ok :=
 ⟨ok.mod,ok.kind,ok.glob,ok.blt,ok.above,ok.inj,ok.has,ok.cab,ok.hd,ok.frames,ok.stk,ok.exf,ok.bs,ok.bsz,ok.noex,ok.exfs,ok.funs,ok.frf⟩
theorem Cx.Ok.unwish{X:Cx}{E:Value->Shared->Prop}(ok:(X.wish E).Ok):X.Ok :=
 ⟨ok.mod,ok.kind,ok.glob,ok.blt,ok.above,ok.inj,ok.has,ok.cab,ok.hd,ok.frames,ok.stk,ok.exf,ok.bs,ok.bsz,ok.noex,ok.exfs,ok.funs,ok.frf⟩
section
variable{X:Cx}{pins:List (Addr × Obj)}{σ:St}{H:Hp}{s:Shared}{E:Value->Shared->Prop}
theorem bj.wish(I:bj X pins σ H s)(E:Value->Shared->Prop):bj (X.wish E) pins σ H s:=⟨I.ok.wish E,I.os,I.bare,I.base,I.loc,I.cell,I.free,I.freeC,I.pin,I.hok,I.len⟩
theorem bj.unwish(I:bj (X.wish E) pins σ H s):bj X pins σ H s:=⟨I.ok.unwish,I.os,I.bare,I.base,I.loc,I.cell,I.free,I.freeC,I.pin,I.hok,I.len⟩
theorem SP.unwish(h:SP (X.wish E) pins D f s'):SP X pins D f s':=by
 cases f with
 | next=>obtain ⟨σ',H',I,q⟩:=h;exact ⟨σ',H',I.unwish,q⟩
 | brk=>obtain ⟨σ',H',I,q⟩:=h;exact ⟨σ',H',I.unwish,q⟩
 | cont=>obtain ⟨σ',H',I,q⟩:=h;exact ⟨σ',H',I.unwish,q⟩
 | ret u=>obtain ⟨v,σ',H',I,r,q⟩:=h;exact ⟨v,σ',H',I.unwish,r,q⟩
theorem xW.nox{st:List Stmt}{t:TS}(h:xW X.nox st t):xW X st t:=fun pins s σ H D I hw =>
 wpAny_mono (h pins s σ H D (I.wish _) hw) (fun _ _ q=>q.unwish) fun _ _ z=>False.elim z
end
section
variable{X:Cx}{st:Stmt}{wM:List Stmt}{t u:TS}{e:Expr}{te:TE}{pos:Pos}
noncomputable def tG:TS:=fun D σ H=>D.nx σ H
noncomputable def jV(t u:TS):TS:=fun D σ H=>t { D with nx:=u D } σ H
theorem aU:xW X [] tG:=fun _ _ σ H _ I h=>wpAny_execs_nil ⟨σ,H,I,h⟩
theorem ak(h1:PS X st t)(h2:xW X wM u):xW X (st::wM) (jV t u):=by
 intro pins s σ H D I h
 refine wpAny_execs_cons (dg (h1 pins s σ H { D with nx:=u D } I h) fun f s1 q=>?_)
 cases f with
 | next =>
  obtain ⟨σ',H',I',q⟩:=q
  exact h2 pins s1 σ' H' D I' q
 | ret v=>exact q
 | brk=>exact q
 | cont=>exact q
theorem aq(h1:PS X st t):xW X [st] t:=by
 intro pins s σ H D I h
 refine wpAny_execs_cons (dg (h1 pins s σ H D I h) fun f s1 q=>?_)
 cases f with
 | next=>exact wpAny_execs_nil q
 | ret v=>exact q
 | brk=>exact q
 | cont=>exact q
theorem bj.quiet(I:bj X pins σ H s):interactive X.env=false:=by simp [interactive,I.ok.kind]
noncomputable def WD(D:ji)(σ:St):VK:=fun _ H1=>D.nx σ H1
noncomputable def xB(te:TE):TS:=fun D σ H=>te σ H (WD D σ)
theorem bz(he:PE X e te)(hs:swapsWith e none pos.line X.env=pure false:=by rfl):PS X (.Expr e pos) (xB te):=by
 intro pins s σ H D I h
 exact wpAny_Expr_any (dg (he pins s σ H _ I h) fun v s1 ⟨x,H1,I1,r1,q1⟩=>⟨σ,H1,I1,q1⟩) I.quiet hs
noncomputable def RK(te:TE):TS:=fun D σ H=>te σ H D.rt
theorem aQ(he:PE X e te):PS X (.Return (some e) pos) (RK te):=by
 intro pins s σ H D I h
 exact wpAny_Return_some (dg (he pins s σ H _ I h) fun v s1 ⟨x,H1,I1,r1,q1⟩=>⟨x,σ,H1,I1,r1,q1⟩)
noncomputable def Yq(t u:TS)(D:ji)(σ:St):Bool->Hp->Prop:=fun b H1=>if b=true then t D σ H1 else u D σ H1
noncomputable def uA(c:TT)(t u:TS):TS:=fun D σ H=>c σ H (Yq t u D σ)
theorem bu(hc:PT X c tc)(ha:xW X a t)(hb:xW X b u):PS X (.If c a b pos) (uA tc t u):=by
 intro pins s σ H D I h
 refine wpAny_If (dg (hc pins s σ H _ I h) fun d s1 ⟨H1,I1,q1⟩=>?_)
 cases d with
 | true=>exact ha pins s1 σ H1 D I1 q1
 | false=>exact hb pins s1 σ H1 D I1 q1
noncomputable def Ij:TS:=fun _ _ _=>False
theorem aV:xW X sts Ij:=fun _ _ _ _ _ _ h=>h.elim
end
noncomputable abbrev TG:=V->St->Hp->(St->Hp->Prop)->Prop
noncomputable abbrev W2:=List V->St->Hp->(St->Hp->Prop)->Prop
noncomputable def PG(X:Cx)(target:Expr)(t:TG):Prop :=
 ∀ (pins:List (Addr × Obj)) (s:Shared) (σ:St) (H:Hp) (v:V) (u:Value) (Q:St->Hp->Prop),bj X pins σ H s->cQ v u->t v σ H Q ->
  wpAny (model X.prog X.w) X.A (assign target X.env u) (fun _ s'=>∃ σ' H',bj X pins σ' H' s'/\Q σ' H') X.xe s
noncomputable def Yj(X:Cx)(ts:List Expr)(t:W2):Prop :=
 ∀ (pins:List (Addr × Obj)) (s:Shared) (σ:St) (H:Hp) (vs:List V) (us:List Value) (Q:St->Hp->Prop),bj X pins σ H s->cI vs us->t vs σ H Q ->
  wpAny (model X.prog X.w) X.A (assignInOrder ((assignEach ts X.env).map (·.2)) us) (fun _ s'=>∃ σ' H',bj X pins σ' H' s'/\Q σ' H') X.xe s
noncomputable abbrev Yc:=V->V->V->Hp->(Hp->Prop)->Prop
noncomputable def Xz(X:Cx)(t:Yc):Prop :=
 ∀ (pins:List (Addr × Obj)) (s:Shared) (σ:St) (H:Hp) (o i v:V) (ov iv u:Value) (Q:Hp->Prop),bj X pins σ H s->cQ o ov->cQ i iv->cQ v u->t o i v H Q ->
  wpAny (model X.prog X.w) X.A (setItem ov iv u) (fun _ s'=>∃ H',bj X pins σ H' s'/\Q H') X.xe s
noncomputable abbrev W9:=V->V->Hp->VK->Prop
noncomputable def Z7(X:Cx)(op:Operator)(t:W9):Prop :=
 ∀ (pins:List (Addr × Obj)) (s:Shared) (σ:St) (H:Hp) (x y:V) (v u:Value) (Q:VK),bj X pins σ H s->cQ x v->cQ y u->t x y H Q ->
  wpAny (model X.prog X.w) X.A (inplaceOp op v u) (EP X pins σ Q) X.xe s
section
variable{X:Cx}{pos:Pos}
noncomputable def dJ(i:Nat):TG:=fun v σ H Q=>Q (σ.set i (some v)) H
theorem cz(hN:X.N.Nodup)(hi:X.N[i]?=some x)(hx:Xq X.env.scope x)(hf:X.fn x=true\/X.env.scope.names.lookup x=some .local:=by first | exact .inl rfl | exact .inr rfl | assumption):PG X (.Name x pos) (dJ i):=by
 intro pins s σ H v u Q I r h
 exact wpAny_assign_Name (w5 I hN hi hx r (fun s' I'=>⟨_,H,I',h⟩) hf)
noncomputable def Jp:W2:=fun vs σ H Q=>vs=[]/\Q σ H
noncomputable def jC(t:TG)(u:W2):W2:=fun vs σ H Q=>∃ v r,vs=v::r/\t v σ H fun σ' H'=>u r σ' H' Q
theorem jy:Yj X [] Jp:=by
 intro pins s σ H vs us Q I r h
 obtain ⟨e,h⟩:=h
 subst e
 cases r
 exact assignInOrder_nil ⟨σ,H,I,h⟩
theorem cR(h1:PG X e t)(h2:Yj X es u)
  (hs:(assignEach (e::es) X.env).map (·.2)=assign e X.env::(assignEach es X.env).map (·.2):=by rfl):Yj X (e::es) (jC t u):=by
 intro pins s σ H vs us Q I r h
 obtain ⟨v,vr,e1,h⟩:=h
 subst e1
 cases r with
 | cons r rr =>
  rw [hs]
  refine assignInOrder_cons (dg (h1 pins s σ H _ _ _ I r h) fun _ s1 ⟨σ1,H1,I1,q1⟩=>?_)
  exact h2 pins s1 σ1 H1 _ _ Q I1 rr q1
noncomputable def Il(K:PySem.W.Frag)(n:Nat)(t:W2):TG:=fun v σ H Q=>∃ a xs,v=.ref a/\cZ K H a xs/\xs.length=n/\t xs σ H Q
theorem nY(hc:X.calm=true)(h:Yj X es t)
  (hn:(assignEach es X.env).length=n:=by rfl) (hst:(assignEach es X.env).findIdx? (·.1)=none:=by rfl):PG X (.Tuple es k pos) (Il X.K n t):=by
 intro pins s σ H v u Q I r hw
 obtain ⟨a,xs,e1,hq,hl,hw⟩:=hw
 subst e1
 cases r
 obtain ⟨its,rv,ht,hz⟩:=I.tuple hq
 refine assign_Tuple_tuple (I.ok.hd hc) ht (by simp [hn,<- hl,rv.length]) hst fun h' hx=>?_
 have I1:bj X pins σ H { s with heap:=h' }:=I.kept (t':=s.toks) fun b o e=>hx b o (Nat.ne_of_lt (Heap.lt_size e)) e
 exact h pins _ σ H xs _ Q I1 (by simpa using rv) hw
noncomputable def YQ(to ti:TE)(t:Yc):TG:=fun v σ H Q=>to σ H fun o H1=>ti σ H1 fun i H2=>t o i v H2 fun H3=>Q σ H3
theorem UV(ho:PE X o to)(hi:PE X i ti)(hs:Xz X t)
  (ha:∀ v,assign (.Subscript o i pos) X.env v=(do
   let ov <- holding [v] (eval o X.env)
   let iv <- holding [v,ov] (eval i X.env)
   standAt pos
   holding [v,ov,iv] (setItem ov iv v)
   release [v,ov,iv] []):=by intro _;rfl):PG X (.Subscript o i pos) (YQ to ti t):=by
 intro pins s σ H v u Q I r h
 rw [ha]
 refine wpAny_bind (wpAny_holding (dg (ho pins s σ H _ I h) fun ov s1 ⟨x,H1,I1,r1,q1⟩=>?_))
 refine wpAny_bind (wpAny_holding (dg (hi pins s1 σ H1 _ I1 q1) fun iv s2 ⟨y,H2,I2,r2,q2⟩=>?_))
 refine wpAny_bind (wpAny_standAt (wpAny_bind (wpAny_holding (dg (hs pins s2 σ H2 x y v ov iv u _ I2 r1 r2 r q2) fun _ s3 ⟨H3,I3,q3⟩=>?_))))
 exact wpAny_release ⟨σ,H3,I3,q3⟩
noncomputable def Zk(g:TG)(D:ji)(σ:St):VK:=fun x H1=>g x σ H1 D.nx
noncomputable def oF(te:TE)(g:TG):TS:=fun D σ H=>te σ H (Zk g D σ)
theorem Vz(he:PE X e te)(hg:PG X tg g)(hs:swapsWithSole [tg] e pos.line X.env=pure false:=by rfl)(hw:swappedStores [tg] e X.env=pure none:=by rfl)
  (h1:(assignEach [tg] X.env).map (·.2)=[assign tg X.env]:=by rfl):PS X (.Assign [tg] e pos) (oF te g):=by
 intro pins s σ H D I h
 refine wpAny_Assign_stores (dg (he pins s σ H _ I h) fun v s1 ⟨x,H1,I1,r1,q1⟩=>?_) hs hw
 rw [h1]
 exact dg (hg pins s1 σ H1 x v _ I1 r1 q1) fun _ s2 q=>q
theorem bc(hN:X.N.Nodup)(hi:X.N[i]?=some x)(hx:Xq X.env.scope x)(he:PE X e te)(hs:swapsWith e (some (.Name x pos')) pos.line X.env=pure false:=by rfl)(hf:X.fn x=true\/X.env.scope.names.lookup x=some .local:=by first | exact .inl rfl | exact .inr rfl | assumption) :
  PS X (.Assign [.Name x pos'] e pos) (oF te (dJ i)):=by
 intro pins s σ H D I h
 refine wpAny_Assign_Name (dg (he pins s σ H _ I h) fun v s1 ⟨y,H1,I1,r1,q1⟩=>?_) hs
 exact w5 I1 hN hi hx r1 (fun s2 I2=>⟨_,H1,I2,q1⟩) hf
noncomputable def ZQ(D:ji)(σ:St)(i:Nat):VK:=fun z H2=>D.nx (σ.set i (some z)) H2
noncomputable def Xc(D:ji)(σ:St)(i:Nat)(ti:W9)(x:V):VK:=fun y H1=>ti x y H1 (ZQ D σ i)
noncomputable def Y5(i:Nat)(te:TE)(ti:W9)(D:ji)(σ:St)(H:Hp)(x:V):Prop:=σ[i]?=some (some x)/\te σ H (Xc D σ i ti x)
noncomputable def ZC(i:Nat)(te:TE)(ti:W9):TS:=fun D σ H=>Exists (Y5 i te ti D σ H)
theorem O8(hN:X.N.Nodup)(hi:X.N[i]?=some x)(hx:Xq X.env.scope x)(he:PE X e te)(ho:Z7 X op ti)(hf:X.fn x=true\/X.env.scope.names.lookup x=some .local:=by first | exact .inl rfl | exact .inr rfl | assumption) :
  PS X (.AugAssign (.Name x pos') op e pos) (ZC i te ti):=by
 intro pins s σ H D I h
 obtain ⟨v,e1,h⟩:=h
 obtain ⟨m,hn,hl⟩:=I.loc
 have vis:Ym X.env.scope x:=by rcases hx with k | k;exact .inl k;exact .inr (.inl k)
 obtain ⟨u,r,l⟩:=hl i x v hi e1 vis
 refine wpAny_AugAssign_Name ?_
 have go:wpAny (model X.prog X.w) X.A (eval e X.env) (fun w s₂=>wpAny (model X.prog X.w) X.A (inplaceOp op u w) (fun r s₃=>wpAny (model X.prog X.w) X.A (storeName X.env x r) (fun _=>SP X pins D .next) X.xe s₃) X.xe s₂) X.xe s:=by
  refine dg (he pins s σ H _ I h) fun w s1 ⟨y,H1,I1,r1,q1⟩=>?_
  refine dg (ho pins s1 σ H1 v y u w _ I1 r r1 q1) fun z s2 ⟨zv,H2,I2,r2,q2⟩=>?_
  exact w5 I2 hN hi hx r2 (fun s3 I3=>⟨_,H2,I3,q2⟩) hf
 rcases l with ⟨hk,hm⟩ | ⟨hk,c,hc,hcell⟩
 .exact wpAny_loadName_local I.ok.kind hk hn hm go
 .rcases hk with hk | hk
  .exact wpAny_loadName_cell I.ok.kind hk hc hcell go
  .rcases hx with k | k
   .have:X.env.scope.names.lookup x=some .free:=hk
    rw [k] at this;cases this
   .have:X.env.scope.names.lookup x=some .free:=hk
    rw [k] at this;cases this
noncomputable def ipI(f:Int->Int->Int):W9:=fun x y H Q=>∃ i j,x=.int i/\y=.int j/\Q (.int (f i j)) H
theorem QF:Z7 X .Add (ipI fun i j=>i+j):=by
 intro pins s σ H x y v u Q I r1 r2 h
 obtain ⟨i,j,e1,e2,q⟩:=h
 subst e1;subst e2
 obtain ⟨t,rfl⟩:=r1
 obtain ⟨t',rfl⟩:=r2
 exact iadd_int ⟨.int _,H,I.tok _,⟨_,rfl⟩,q⟩
end
section
variable{X:Cx}{pos:Pos}
noncomputable def VF(c:TT)(tb:TS):TS:=fun D σ H=>∃ W:Nat->St->Hp->Prop,(∃ m,W m σ H)/\∀ m σ H,W m σ H ->
 c σ H fun b H1=>if b=true then ∃ N:St->Hp->Prop,(∀ σ' H',N σ' H'->∃ m',m'<m/\W m' σ' H')/\tb { D with nx:=N,ct:=N,bk:=D.nx } σ H1 else D.nx σ H1
theorem gP(hp:PassesOwn (model X.prog X.w) X.A X.env X.xe)(hc:PT X c tc)(hb:xW X body tb):PS X (.While c body [] pos) (VF tc tb):=by
 intro pins s σ H D I h
 obtain ⟨W,⟨m0,w0⟩,turn⟩:=h
 refine wpAny_While (codeAny_whileLoop (fun n s'=>∃ σ' H',bj X pins σ' H' s'/\W n σ' H') ?_ m0 ⟨σ,H,I,w0⟩)
 rintro n s1 ⟨σ1,H1,I1,w1⟩
 refine wpAny_passesOwn hp (dg (hc pins s1 σ1 H1 _ I1 (turn n σ1 H1 w1)) fun b s2 ⟨H2,I2,q2⟩=>?_)
 cases b with
 | true =>
  obtain ⟨N,hN,q2⟩:=q2
  rw [if_pos rfl]
  refine wpAny_passesOwn hp (dg (hb pins s2 σ1 H2 _ I2 q2) fun f s3 q3=>?_)
  cases f with
  | next =>
   obtain ⟨σ3,H3,I3,n3⟩:=q3
   obtain ⟨m',hm,w3⟩:=hN σ3 H3 n3
   exact ⟨m',hm,σ3,H3,I3,w3⟩
  | cont =>
   obtain ⟨σ3,H3,I3,n3⟩:=q3
   obtain ⟨m',hm,w3⟩:=hN σ3 H3 n3
   exact ⟨m',hm,σ3,H3,I3,w3⟩
  | brk=>exact q3
  | ret v=>exact q3
 | false =>
  rw [if_neg Bool.false_ne_true]
  exact wpAny_execs_nil ⟨σ1,H2,I2,q2⟩
end
structure It where
 go:Nat->Hp->Prop
 yld:Nat->Hp->V->Hp->Prop
 stop:Nat->Hp->Prop
noncomputable def oW(X:Cx)(pins:List (Addr × Obj))(H:Hp)(b:Addr):Prop :=
 H b=none/\b≠X.env.locals/\b∉X.fs/\(b∈X.ex\/X.s₀.heap.objs.size<=b)/\(∀ x c,X.env.cells.lookup x=some c->c≠b)/\∀ p∈X.pn++pins,p.1≠b
theorem bj.fpOk(I:bj X pins σ H s)(hb:s.heap.objs.size<=b)(hn:H' b=none):oW X pins H' b:=by
 refine ⟨hn,Nat.ne_of_gt (Nat.lt_of_lt_of_le I.lt hb),I.nofs hb,.inr (Nat.le_trans I.sz hb),fun x c e z=>?_,fun p hp z=>?_⟩
 .obtain ⟨v,q⟩:=I.cell x c e
  exact absurd (Nat.lt_of_lt_of_le q.lt (by rw [z];exact hb)) (Nat.lt_irrefl _)
 .exact absurd (Nat.lt_of_lt_of_le (Heap.lt_size (I.pin p hp).1) (by rw [z];exact hb)) (Nat.lt_irrefl _)
structure vM(P:Program)(w:World)(K:PySem.W.Frag)(tg:Expr)(J:It)(fp:List Addr)(it:Addr)(tn:Nat->Heap->Prop):Prop where
 mem:it∈fp
 obj:∀ i h,tn i h->∀ b∈fp,∃ o,h.get? b=some o/\∀ v,o.data≠.cell v
 keep:∀ i h h',tn i h->(∀ b∈fp,∀ o,h.get? b=some o->h'.get? b=some o)->tn i h'
 item:∀ (X:Cx),X.prog=P->X.w=w->X.K=K->X.calm=true->∀ (i:Nat) (pins:List (Addr × Obj)) (s:Shared) (σ:St) (H:Hp) (E:Value->Shared->Prop),bj X pins σ H s->(∀ b∈fp,oW X pins H b)->tn i s.heap->J.go i H ->
  wpAny (model P w) X.A (pyNext (.ref it)) (fun r s1=>∃ u,r=some u /\
   wpAny (model P w) X.A (letOwnedTupleGo tg (.ref it) u) (fun _ s2=>∃ x H',bj X pins σ H' s2/\cQ x u/\J.yld i H x H'/\tn (i+1) s2.heap/\∀ b∈fp,H' b=none) E s1) E s
 done:∀ (X:Cx),X.prog=P->X.w=w->X.K=K->X.calm=true->∀ (i:Nat) (pins:List (Addr × Obj)) (s:Shared) (σ:St) (H:Hp) (E:Value->Shared->Prop),bj X pins σ H s->(∀ b∈fp,oW X pins H b)->tn i s.heap->J.stop i H ->
  wpAny (model P w) X.A (pyNext (.ref it)) (fun r s1=>r=none/\bj X pins σ H s1) E s
 self:∀ (A:Around) (i:Nat) (s:Shared) (Q:Value->Shared->Prop) (E:Value->Shared->Prop),tn i s.heap->Q (.ref it) s->wpAny (model P w) A (pyIter (.ref it)) Q E s
noncomputable abbrev TI:=St->Hp->(It->Hp->Prop)->Prop
noncomputable def YF(X:Cx)(pins:List (Addr × Obj))(σ:St)(tg:Expr)(R:It->Hp->Prop)(itv:Value)(s2:Shared):Prop :=
 ∃ (it:Addr) (fp:List Addr) (tn:Nat->Heap->Prop) (J:It) (H':Hp),itv=.ref it/\bj X pins σ H' s2/\vM X.prog X.w X.K tg J fp it tn/\tn 0 s2.heap/\(∀ b∈fp,oW X pins H' b)/\R J H'
noncomputable def PI(X:Cx)(tg iter:Expr)(wi:TI):Prop :=
 ∀ (pins:List (Addr × Obj)) (s:Shared) (σ:St) (H:Hp) (R:It->Hp->Prop),bj X pins σ H s->wi σ H R ->
  wpAny (model X.prog X.w) X.A (eval iter X.env) (fun v s1=>wpAny (model X.prog X.w) X.A (pyIter v) (YF X pins σ tg R) X.xe s1) X.xe s
theorem xP(ho:s.heap.get? it=some o)(hc:o.cls=.type n)(hd:o.data=.fields vs)
    (hn:["enumerate","zip","dict_itemiterator","dict_reverseitemiterator","odict_iterator","itertools.zip_longest","itertools.pairwise"].contains n=false) (hQ:Q () s):wpAny M A (letOwnedTupleGo tg (.ref it) u) Q E s:=by
  unfold letOwnedTupleGo
  cases tg <;> first
    | exact wpAny_pure hQ
    | (cases u <;> first
        | exact wpAny_pure hQ
        | (refine wpAny_bind (wpAny_load ho ?_)
           rw [hc,hd]
           show wpAny M A (if (["enumerate","zip","dict_itemiterator","dict_reverseitemiterator","odict_iterator","itertools.zip_longest","itertools.pairwise"].contains n && vs[0]? == some (rawInt _))=true then _ else _) Q E s
           rw [if_neg (by intro h;rw [hn,Bool.false_and] at h;cases h)]
           exact wpAny_pure hQ))
noncomputable def Px(K:PySem.W.Frag)(a:Addr):It :=
 ⟨fun i H=>∃ xs x,c7 K H a xs/\xs[i]?=some x,fun i H x H'=>H'=H/\∀ xs,c7 K H a xs->xs[i]?=some x,fun i H=>∃ xs,c7 K H a xs/\xs.length<=i⟩
noncomputable def Tu(K:PySem.W.Frag)(a:Addr):It :=
 ⟨fun i H=>∃ xs x,cZ K H a xs/\xs[i]?=some x,fun i H x H'=>H'=H/\∀ xs,cZ K H a xs->xs[i]?=some x,fun i H=>∃ xs,cZ K H a xs/\xs.length<=i⟩
noncomputable def Ud(lo:Int)(n:Nat):It:=⟨fun i _=>i<n,fun i H x H'=>H'=H/\x=.int (lo+i),fun i _=>n<=i⟩
theorem Ny{P:Program}{w:World}{K:PySem.W.Frag}{tg:Expr}(a it:Addr):vM P w K tg (Px K a) [it] it (fun i h=>h.IsListIter it a i) where
 mem:=by simp
 obj:=fun i h st b hb=>by
  have e:b=it:=by simpa using hb
  subst e
  obtain ⟨o,e,c,d⟩:=st
  exact ⟨o,e,fun v z=>by rw [d] at z;cases z⟩
 keep:=fun i h h' st k=>st.at fun o e=>k it (by simp) o e
 item:=by
  intro X hP hw hK hc i pins s σ H E I hf st hg
  subst hP hw hK
  obtain ⟨xs,x,hq,hx⟩:=hg
  obtain ⟨its,rv,p,hz⟩:=I.list hq
  obtain ⟨u,hu,ru⟩:=rv.get hx
  obtain ⟨f0,f1,f2,f3,f4,f5⟩:=hf it (by simp)
  refine wpAny_pyNext_list_item st p.isList (x:=u) (by simpa using hu) fun h' st' sb=>?_
  have I1:bj X pins σ H { s with heap:=h' }:=I.turned (t':=s.toks) (fun b o hb e=>(sb.2 b hb).trans e) f0 f1 f3 f4 f5
  obtain ⟨o,e,c,d⟩:=id st'
  exact ⟨u,rfl,xP (s:={ s with heap:=h' }) e c d (by decide) ⟨x,H,I1,ru,⟨rfl,fun ys hy=>by rw [I.list_inj hy hq];exact hx⟩,st',fun b hb=>(hf b hb).1⟩⟩
 done:=by
  intro X hP hw hK hc i pins s σ H E I hf st hg
  subst hP hw hK
  obtain ⟨xs,hq,hx⟩:=hg
  obtain ⟨its,rv,p,hz⟩:=I.list hq
  obtain ⟨f0,f1,f2,f3,f4,f5⟩:=hf it (by simp)
  have hl:=rv.length
  exact wpAny_pyNext_list_end (I.ok.hd hc) st p.isList (by simp;omega) fun h' eb=>⟨rfl,I.turned (t':=s.toks) (fun b o hb e=>eb b o hb e) f0 f1 f3 f4 f5⟩
 self:=fun _ _ _ _ _ st h=>wpAny_pyIter_listiter st h
theorem JM{P:Program}{w:World}{K:PySem.W.Frag}{tg:Expr}(a it:Addr):vM P w K tg (Tu K a) [it] it (fun i h=>h.IsTupleIter it a i) where
 mem:=by simp
 obj:=fun i h st b hb=>by
  have e:b=it:=by simpa using hb
  subst e
  obtain ⟨o,e,c,d⟩:=st
  exact ⟨o,e,fun v z=>by rw [d] at z;cases z⟩
 keep:=fun i h h' st k=>st.at fun o e=>k it (by simp) o e
 item:=by
  intro X hP hw hK hc i pins s σ H E I hf st hg
  subst hP hw hK
  obtain ⟨xs,x,hq,hx⟩:=hg
  obtain ⟨its,rv,p,hz⟩:=I.tuple hq
  obtain ⟨u,hu,ru⟩:=rv.get hx
  obtain ⟨f0,f1,f2,f3,f4,f5⟩:=hf it (by simp)
  refine wpAny_pyNext_tuple_item st (show s.heap.IsTuple a its.toArray from p) (x:=u) (by simpa using hu) fun h' st' sb=>?_
  have I1:bj X pins σ H { s with heap:=h' }:=I.turned (t':=s.toks) (fun b o hb e=>(sb.2 b hb).trans e) f0 f1 f3 f4 f5
  obtain ⟨o,e,c,d⟩:=id st'
  exact ⟨u,rfl,xP (s:={ s with heap:=h' }) e c d (by decide) ⟨x,H,I1,ru,⟨rfl,fun ys hy=>by rw [I.tuple_inj hy hq];exact hx⟩,st',fun b hb=>(hf b hb).1⟩⟩
 done:=by
  intro X hP hw hK hc i pins s σ H E I hf st hg
  subst hP hw hK
  obtain ⟨xs,hq,hx⟩:=hg
  obtain ⟨its,rv,p,hz⟩:=I.tuple hq
  obtain ⟨f0,f1,f2,f3,f4,f5⟩:=hf it (by simp)
  have hl:=rv.length
  exact wpAny_pyNext_tuple_end (I.ok.hd hc) st (show s.heap.IsTuple a its.toArray from p) (by simp;omega) fun h' eb=>⟨rfl,I.turned (t':=s.toks) (fun b o hb e=>eb b o hb e) f0 f1 f3 f4 f5⟩
 self:=fun _ _ _ _ _ st h=>wpAny_pyIter_tupleiter st h
theorem Ie{P:Program}{w:World}{K:PySem.W.Frag}{tg:Expr}(it:Addr)(lo:Int)(n:Nat):vM P w K tg (Ud lo n) [it] it (fun i h=>IsRangeIter h it (lo+(i:Nat) * 1) ((n:Int) - (i:Nat)) 1) where
 mem:=by simp
 obj:=fun i h st b hb=>by
  have e:b=it:=by simpa using hb
  subst e
  exact ⟨_,st,fun v z=>by
   have z':Data.fields _=Data.cell v:=z
   cases z'⟩
 keep:=fun i h h' st k=>k it (by simp) _ st
 item:=by
  intro X hP hw hK hc i pins s σ H E I hf st hg
  subst hP hw hK
  obtain ⟨f0,f1,f2,f3,f4,f5⟩:=hf it (by simp)
  have W:=Walks.range (prog:=X.prog) (w:=X.w) (I.ok.hd hc) it lo 1 n
  refine W.item i s _ _ hg st fun v h' tk hv st' kk=>?_
  obtain ⟨t,rfl⟩:=hv
  have I1:bj X pins σ H { s with heap:=h',toks:=tk }:=I.turned (fun b o hb e=>kk b o (by simpa using hb) e) f0 f1 f3 f4 f5
  refine ⟨_,rfl,xP (s:={ s with heap:=h',toks:=tk }) (n := "range_iterator") st' rfl rfl (by decide) ⟨.int (lo+i),H,I1,⟨t,?_⟩,⟨rfl,rfl⟩,st',fun b hb=>(hf b hb).1⟩⟩
  rw [Int.mul_one]
 done:=by
  intro X hP hw hK hc i pins s σ H E I hf st hg
  subst hP hw hK
  obtain ⟨f0,f1,f2,f3,f4,f5⟩:=hf it (by simp)
  exact wpAny_pyNext_range_end (I.ok.hd hc) st (by have:n<=i:=hg;omega) fun h' eb=>⟨rfl,I.turned (t':=s.toks) (fun b o hb e=>eb b o hb e) f0 f1 f3 f4 f5⟩
 self:=fun _ _ _ _ _ st h=>wpAny_pyIter_rangeiter st h
section
variable{X:Cx}{tg:Expr}
noncomputable def qiL(K:PySem.W.Frag)(R:It->Hp->Prop)(x:V)(H1:Hp)(a:Addr):Prop:=x=.ref a/\(∃ xs,c7 K H1 a xs)/\R (Px K a) H1
noncomputable def kiL(K:PySem.W.Frag)(R:It->Hp->Prop):VK:=fun x H1=>Exists (qiL K R x H1)
noncomputable def X5(K:PySem.W.Frag)(tl:TE):TI:=fun σ H R=>tl σ H (kiL K R)
noncomputable def qiT(K:PySem.W.Frag)(R:It->Hp->Prop)(x:V)(H1:Hp)(a:Addr):Prop:=x=.ref a/\(∃ xs,cZ K H1 a xs)/\R (Tu K a) H1
noncomputable def kiT(K:PySem.W.Frag)(R:It->Hp->Prop):VK:=fun x H1=>Exists (qiT K R x H1)
noncomputable def ZL(K:PySem.W.Frag)(tl:TE):TI:=fun σ H R=>tl σ H (kiT K R)
theorem gB{l:Expr}{tl:TE}(hl:PE X l tl):PI X tg l (X5 X.K tl):=by
 intro pins s σ H R I h
 refine dg (hl pins s σ H _ I h) fun v s1 ⟨x,H1,I1,r1,q1⟩=>?_
 obtain ⟨a,e,⟨xs,hq⟩,q⟩:=q1
 subst e
 cases r1
 obtain ⟨its,rv,p,hz⟩:=I1.list hq
 refine wpAny_pyIter_list p.isList ?_
 refine ⟨s1.heap.objs.size,[s1.heap.objs.size],_,_,H1,rfl,I1.kept (t':=s1.toks) fun b o e=>Heap.get?_push_of_some _ e,Ny a _,⟨_,Heap.get?_push_size _ rfl,rfl,rfl⟩,fun b hb=>?_,q⟩
 have e:b=s1.heap.objs.size:=by simpa using hb
 subst e
 exact I1.fpOk (Nat.le_refl _) (I1.hok.fresh (Nat.le_refl _))
theorem yq{l:Expr}{tl:TE}(hl:PE X l tl):PI X tg l (ZL X.K tl):=by
 intro pins s σ H R I h
 refine dg (hl pins s σ H _ I h) fun v s1 ⟨x,H1,I1,r1,q1⟩=>?_
 obtain ⟨a,e,⟨xs,hq⟩,q⟩:=q1
 subst e
 cases r1
 obtain ⟨its,rv,p,hz⟩:=I1.tuple hq
 refine wpAny_pyIter_tuple (show s1.heap.IsTuple a its.toArray from p) ?_
 refine ⟨s1.heap.objs.size,[s1.heap.objs.size],_,_,H1,rfl,I1.kept (t':=s1.toks) fun b o e=>Heap.get?_push_of_some _ e,JM a _,⟨_,Heap.get?_push_size _ rfl,rfl,rfl⟩,fun b hb=>?_,q⟩
 have e:b=s1.heap.objs.size:=by simpa using hb
 subst e
 exact I1.fpOk (Nat.le_refl _) (I1.hok.fresh (Nat.le_refl _))
theorem Qk{pins:List (Addr × Obj)}{σ:St}{H:Hp}{s:Shared}{R:It->Hp->Prop}{E:Value->Shared->Prop}{lo hi:Int}{t u v:Tok}{tk:Nat}(I:bj X pins σ H s)(h1:-(2 ^ 62)<=lo)(h2:lo<2 ^ 62)(h3:-(2 ^ 62)<=hi)(h4:hi<2 ^ 62)
  (q:R (Ud lo (hi - lo).toNat) H):wpAny (model X.prog X.w) X.A (pyIter (.ref s.heap.objs.size)) (YF X pins σ tg R) E { s with heap:=s.heap.push { cls:=.type "range",data:=.fields #[.int lo t,.int hi u,.int 1 v] },toks:=tk }:=by
 refine wpAny_pyIter_range (IsRange.new ..) (small_one h1 h2 h3 h4) ?_
 have I1:bj X pins σ H { s with heap:=s.heap.push { cls:=.type "range",data:=.fields #[.int lo t,.int hi u,.int 1 v] },toks:=tk }:=I.kept fun b o e=>Heap.get?_push_of_some _ e
 refine ⟨(s.heap.push { cls:=.type "range",data:=.fields #[.int lo t,.int hi u,.int 1 v] }).objs.size,[(s.heap.push { cls:=.type "range",data:=.fields #[.int lo t,.int hi u,.int 1 v] }).objs.size],_,_,H,rfl,
  I1.kept (t':=tk) fun b o e=>Heap.get?_push_of_some _ e,Ie _ lo (hi - lo).toNat,?_,fun b hb=>?_,q⟩
 .have e1:lo+((0:Nat):Int) * 1=lo:=by simp
  have e2:(((hi - lo).toNat:Nat):Int) - ((0:Nat):Int)=Builtin.Range.rangeSize lo hi 1:=by rw [rangeSize_one];split <;> omega
  show IsRangeIter _ _ (lo+((0:Nat):Int) * 1) ((((hi - lo).toNat:Nat):Int) - ((0:Nat):Int)) 1
  rw [e1,e2]
  exact Heap.get?_push_size _ rfl
 .have e:b=(s.heap.push { cls:=.type "range",data:=.fields #[.int lo t,.int hi u,.int 1 v] }).objs.size:=by simpa using hb
  subst e
  exact I1.fpOk (Nat.le_refl _) (I1.hok.fresh (Nat.le_refl _))
noncomputable def G9(ta:TA):TI:=fun σ H R=>ta σ H fun vs H1=>∃ j:Int,vs=[.int j]/\-(2 ^ 62)<=j/\j<2 ^ 62/\R (Ud 0 j.toNat) H1
theorem jo{a:Expr}{ta:TA}{p pos:Pos}(hg:Gl X "range")(hm:X.mg "range"=none)(ha:PA X [a] ta)(hs:starEach [a] X.env=[(false,eval a X.env)]:=by rfl):PI X tg (.Call (.Name "range" p) [a] [] pos) (G9 ta):=by
 intro pins s σ H R I h
 refine Call_ (lM I hg hm boot_range (PyProof.Rows.callWith_type1 (dg (ha pos pins s σ H _ I h) fun us s1 ⟨vs,H1,I1,r1,q1⟩=>?_) hs rfl))
 obtain ⟨j,e,q1,q2,q⟩:=q1
 subst e
 cases r1 with
 | cons r rr =>
  cases rr
  obtain ⟨t,rfl⟩:=r
  exact call_range_1 (Qk I1 (by omega) (by omega) q1 q2 (by simpa using q))
noncomputable def FoS(g:TG)(tb:TS)(D:ji)(J:It)(W:Nat->Nat->St->Hp->Prop):Prop:=∀ i m σ H,W i m σ H ->
 (J.stop i H/\D.nx σ H)\/(J.go i H/\∃ N:St->Hp->Prop,(∀ σ' H',N σ' H'->∃ m',m'<m/\W (i+1) m' σ' H')/\∀ x H',J.yld i H x H'->g x σ H' fun σ2 H2=>tb { D with nx:=N,ct:=N,bk:=D.nx } σ2 H2)
noncomputable def ZV(g:TG)(tb:TS)(D:ji)(σ:St)(J:It)(H1:Hp)(W:Nat->Nat->St->Hp->Prop):Prop:=(∃ m,W 0 m σ H1)/\FoS g tb D J W
noncomputable def Y9(g:TG)(tb:TS)(D:ji)(σ:St):It->Hp->Prop:=fun J H1=>Exists (ZV g tb D σ J H1)
noncomputable def Tt(wi:TI)(g:TG)(tb:TS):TS:=fun D σ H=>wi σ H (Y9 g tb D σ)
noncomputable def xX(fp:List Addr)(h:Heap):List (Addr × Obj):=fp.filterMap fun b=>(h.get? b).map fun o=>(b,o)
theorem ju(hb:b∈fp)(e:h.get? b=some o):(b,o)∈xX fp h:=List.mem_filterMap.mpr ⟨b,hb,by rw [e];rfl⟩
theorem M3(hp:p∈xX fp h):p.1∈fp/\h.get? p.1=some p.2:=by
 obtain ⟨b,hb,e⟩:=List.mem_filterMap.mp hp
 cases q:h.get? b with
 | none=>rw [q] at e;cases e
 | some o =>
  rw [q] at e
  have e':(b,o)=p:=Option.some.inj e
  subst e'
  exact ⟨hb,q⟩
theorem bj.pinned(I:bj X pins σ H s)(hf:∀ b∈fp,oW X pins H b)(ho:∀ b∈fp,∃ o,s.heap.get? b=some o/\∀ v,o.data≠.cell v):bj X (pins++xX fp s.heap) σ H s :=
 I.pins_of fun p hp=>(List.mem_append.mp hp).elim (fun z=>I.pin p (List.mem_append_right _ z)) fun z=>by
  obtain ⟨hb,e⟩:=M3 z
  obtain ⟨f0,f1,f2,_⟩:=hf p.1 hb
  obtain ⟨o,e',d⟩:=ho p.1 hb
  rw [e] at e';cases e'
  exact ⟨e,f0,f1,f2,d⟩
theorem bj.unpinned(I:bj X (pins++pl) σ H s):bj X pins σ H s:=I.pins_of fun p hp=>I.pin p (List.mem_append_right _ (List.mem_append_left _ hp))
theorem jn(hp:PassesOwn (model X.prog X.w) X.A X.env X.xe)(hc:X.calm=true)(hi:PI X tg iter wi)(hg:PG X tg g)(hb:xW X body tb)
  (hs:∀ x,foldedSetIterable iter X.env x=pure x:=by intro _;rfl):PS X (.For tg iter body [] pos) (Tt wi g tb):=by
 intro pins s σ H D I h
 refine wpAny_For (dg (hi pins s σ H _ I h) fun v s1 h1=>dg h1 fun itv s2 h2=>?_) hs
 obtain ⟨it,fp,tn,J,H2,e,I2,T,st2,f2,W,⟨m0,w0⟩,turn⟩:=h2
 subst e
 -- what stays true of the iterator's objects through the loop
 have stat:∀ {H':Hp},(∀ b∈fp,H' b=none)->∀ b∈fp,oW X pins H' b:=fun hn b hb=>⟨hn b hb,(f2 b hb).2⟩
 refine codeAny_forLoop_any (fun n s'=>∃ i σ' H',bj X pins σ' H' s'/\tn i s'.heap/\(∀ b∈fp,H' b=none)/\W i n σ' H') ?_ m0 ⟨0,σ,H2,I2,st2,fun b hb=>(f2 b hb).1,w0⟩
 rintro n s3 ⟨i,σ3,H3,I3,st3,fr3,w3⟩
 rcases turn i n σ3 H3 w3 with ⟨stop,qn⟩ | ⟨go,N,hN,step⟩
 .refine wpAny_passesOwn hp (dg (T.done X rfl rfl rfl hc i pins s3 σ3 H3 X.xe I3 (stat fr3) st3 stop) fun r s4 ⟨hr,I4⟩=>?_)
  subst hr
  exact wpAny_execs_nil ⟨σ3,H3,I4,qn⟩
 .refine wpAny_passesOwn hp (dg (T.item X rfl rfl rfl hc i pins s3 σ3 H3 X.xe I3 (stat fr3) st3 go) fun r s4 ⟨u,hr,h4⟩=>?_)
  subst hr
  refine wpAny_passesOwn hp (dg h4 fun _ s5 ⟨x,H5,I5,r5,y5,st5,fr5⟩=>?_)
  have I5':=I5.pinned (stat fr5) (T.obj _ _ st5)
  refine wpAny_passesOwn hp (dg (hg _ s5 σ3 H5 x u _ I5' r5 (step x H5 y5)) fun _ s6 ⟨σ6,H6,I6,q6⟩=>?_)
  refine wpAny_passesOwn hp (dg (hb _ s6 σ6 H6 _ I6 q6) fun f s7 q7=>?_)
  have again:∀ {σ7:St} {H7:Hp},bj X (pins++xX fp s5.heap) σ7 H7 s7->N σ7 H7->∃ m,m<n/\∃ i σ' H',bj X pins σ' H' s7/\tn i s7.heap/\(∀ b∈fp,H' b=none)/\W i m σ' H':=fun {σ7 H7} I7 n7=>by
   obtain ⟨m',hm,w7⟩:=hN σ7 H7 n7
   refine ⟨m',hm,i+1,σ7,H7,I7.unpinned,T.keep _ _ _ st5 fun b hb o e=>(I7.pin (b,o) (List.mem_append_right _ (List.mem_append_right _ (ju hb e)))).1,fun b hb=>?_,w7⟩
   obtain ⟨o,e,d⟩:=T.obj _ _ st5 b hb
   exact (I7.pin (b,o) (List.mem_append_right _ (List.mem_append_right _ (ju hb e)))).2.1
  cases f with
  | next=>obtain ⟨σ7,H7,I7,n7⟩:=q7;exact again I7 n7
  | cont=>obtain ⟨σ7,H7,I7,n7⟩:=q7;exact again I7 n7
  | brk=>obtain ⟨σ7,H7,I7,q7⟩:=q7;exact ⟨σ7,H7,I7.unpinned,q7⟩
  | ret v=>obtain ⟨x7,σ7,H7,I7,r7,q7⟩:=q7;exact ⟨x7,σ7,H7,I7.unpinned,r7,q7⟩
end
theorem xK{K:PySem.W.Frag}{a:Addr}{xs:List V}{g:TG}{tb:TS}{D:ji}{σ:St}{H:Hp}(Pv:Nat->St->Hp->Prop)(h0:Pv 0 σ H)(hl:∀ i σ H,i<=xs.length->Pv i σ H->c7 K H a xs)
  (hs:∀ i x σ H,xs[i]?=some x->Pv i σ H->g x σ H fun σ2 H2=>tb { D with nx:=Pv (i+1),ct:=Pv (i+1),bk:=D.nx } σ2 H2) (hd:∀ σ H,Pv xs.length σ H->D.nx σ H) :
  ∃ W:Nat->Nat->St->Hp->Prop,(∃ m,W 0 m σ H)/\∀ i m σ H,W i m σ H ->
   ((Px K a).stop i H/\D.nx σ H)\/((Px K a).go i H/\∃ N:St->Hp->Prop,(∀ σ' H',N σ' H'->∃ m',m'<m/\W (i+1) m' σ' H')/\∀ x H',(Px K a).yld i H x H'->g x σ H' fun σ2 H2=>tb { D with nx:=N,ct:=N,bk:=D.nx } σ2 H2):=by
 refine ⟨fun i m σ H=>m=xs.length - i/\i<=xs.length/\Pv i σ H,⟨xs.length,by simp,Nat.zero_le _,h0⟩,?_⟩
 rintro i m σ H ⟨rfl,hi,p⟩
 have q:=hl i σ H hi p
 by_cases hlt:i<xs.length
 .refine .inr ⟨⟨xs,xs[i],q,by simp [hlt]⟩,Pv (i+1),fun σ' H' p'=>⟨xs.length - (i+1),by omega,rfl,hlt,p'⟩,fun x H' y=>?_⟩
  obtain ⟨e,y⟩:=y
  subst e
  exact hs i x σ _ (y xs q) p
 .have e:i=xs.length:=by omega
  subst e
  exact .inl ⟨⟨xs,q,Nat.le_refl _⟩,hd σ H p⟩
theorem RX{K:PySem.W.Frag}{a:Addr}{xs:List V}{g:TG}{tb:TS}{D:ji}{σ:St}{H:Hp}(Pv:Nat->St->Hp->Prop)(h0:Pv 0 σ H)(hl:∀ i σ H,i<=xs.length->Pv i σ H->cZ K H a xs)
  (hs:∀ i x σ H,xs[i]?=some x->Pv i σ H->g x σ H fun σ2 H2=>tb { D with nx:=Pv (i+1),ct:=Pv (i+1),bk:=D.nx } σ2 H2) (hd:∀ σ H,Pv xs.length σ H->D.nx σ H) :
  ∃ W:Nat->Nat->St->Hp->Prop,(∃ m,W 0 m σ H)/\∀ i m σ H,W i m σ H ->
   ((Tu K a).stop i H/\D.nx σ H)\/((Tu K a).go i H/\∃ N:St->Hp->Prop,(∀ σ' H',N σ' H'->∃ m',m'<m/\W (i+1) m' σ' H')/\∀ x H',(Tu K a).yld i H x H'->g x σ H' fun σ2 H2=>tb { D with nx:=N,ct:=N,bk:=D.nx } σ2 H2):=by
 refine ⟨fun i m σ H=>m=xs.length - i/\i<=xs.length/\Pv i σ H,⟨xs.length,by simp,Nat.zero_le _,h0⟩,?_⟩
 rintro i m σ H ⟨rfl,hi,p⟩
 have q:=hl i σ H hi p
 by_cases hlt:i<xs.length
 .refine .inr ⟨⟨xs,xs[i],q,by simp [hlt]⟩,Pv (i+1),fun σ' H' p'=>⟨xs.length - (i+1),by omega,rfl,hlt,p'⟩,fun x H' y=>?_⟩
  obtain ⟨e,y⟩:=y
  subst e
  exact hs i x σ _ (y xs q) p
 .have e:i=xs.length:=by omega
  subst e
  exact .inl ⟨⟨xs,q,Nat.le_refl _⟩,hd σ H p⟩
theorem oU{lo:Int}{n:Nat}{g:TG}{tb:TS}{D:ji}{σ:St}{H:Hp}(Pv:Nat->St->Hp->Prop)(h0:Pv 0 σ H)
  (hs:∀ i σ H,i<n->Pv i σ H->g (.int (lo+i)) σ H fun σ2 H2=>tb { D with nx:=Pv (i+1),ct:=Pv (i+1),bk:=D.nx } σ2 H2) (hd:∀ σ H,Pv n σ H->D.nx σ H) :
  ∃ W:Nat->Nat->St->Hp->Prop,(∃ m,W 0 m σ H)/\∀ i m σ H,W i m σ H ->
   ((Ud lo n).stop i H/\D.nx σ H)\/((Ud lo n).go i H/\∃ N:St->Hp->Prop,(∀ σ' H',N σ' H'->∃ m',m'<m/\W (i+1) m' σ' H')/\∀ x H',(Ud lo n).yld i H x H'->g x σ H' fun σ2 H2=>tb { D with nx:=N,ct:=N,bk:=D.nx } σ2 H2):=by
 refine ⟨fun i m σ H=>m=n - i/\i<=n/\Pv i σ H,⟨n,by simp,Nat.zero_le _,h0⟩,?_⟩
 rintro i m σ H ⟨rfl,hi,p⟩
 by_cases hlt:i<n
 .refine .inr ⟨hlt,Pv (i+1),fun σ' H' p'=>⟨n - (i+1),by omega,rfl,hlt,p'⟩,fun x H' y=>?_⟩
  obtain ⟨e,y⟩:=y
  subst e y
  exact hs i σ _ hlt p
 .have e:i=n:=by omega
  subst e
  exact .inl ⟨Nat.le_refl _,hd σ H p⟩
noncomputable abbrev R2:=V->V->Hp->VK->Prop
noncomputable def uc(X:Cx)(f:Value->Value->Sem Value)(r:R2):Prop :=
 ∀ (pins:List (Addr × Obj)) (s:Shared) (σ:St) (H:Hp) (x y:V) (v u:Value) (Q:VK),bj X pins σ H s->cQ x v->cQ y u->r x y H Q ->
  wpAny (model X.prog X.w) X.A (f v u) (EP X pins σ Q) X.xe s
noncomputable def lW(X:Cx)(f:Value)(r:List V->Hp->VK->Prop):Prop :=
 ∀ (pins:List (Addr × Obj)) (s:Shared) (σ:St) (H:Hp) (xs:List V) (us:List Value) (Q:VK),bj X pins σ H s->cI xs us->r xs H Q ->
  wpAny (model X.prog X.w) X.A (call f us) (EP X pins σ Q) X.xe s
noncomputable def ZD(X:Cx)(r:V->Hp->(Bool->Hp->Prop)->Prop):Prop :=
 ∀ (pins:List (Addr × Obj)) (s:Shared) (σ:St) (H:Hp) (x:V) (v:Value) (Q:Bool->Hp->Prop),bj X pins σ H s->cQ x v->r x H Q ->
  wpAny (model X.prog X.w) X.A (truthy v) (TP X pins σ Q) X.xe s
noncomputable def Yx(r:R2)(x:V)(Q:VK):VK:=fun y H2=>r x y H2 Q
noncomputable def kOp(r:R2)(tb:TE)(σ:St)(Q:VK):VK:=fun x H1=>tb σ H1 (Yx r x Q)
noncomputable def jj(r:R2)(ta tb:TE):TE:=fun σ H Q=>ta σ H (kOp r tb σ Q)
noncomputable def qI(C:Int->Int->Prop)(g:Int->Int->V)(x y:V)(H:Hp)(Q:VK)(i j:Int):Prop:=x=.int i/\y=.int j/\C i j/\Q (g i j) H
noncomputable def rI(C:Int->Int->Prop)(g:Int->Int->V):R2:=fun x y H Q=>Exists (E2 (qI C g x y H Q))
noncomputable def qI0(g:Int->Int->V)(x y:V)(H:Hp)(Q:VK)(i j:Int):Prop:=x=.int i/\y=.int j/\Q (g i j) H
noncomputable def Ik(g:Int->Int->V):R2:=fun x y H Q=>Exists (E2 (qI0 g x y H Q))
section
variable{X:Cx}{a b c:Expr}{ta tb tc:TE}{pos:Pos}
theorem Sv(ha:PE X a ta)(hb:PE X b tb){pins:List (Addr × Obj)}{s:Shared}{σ:St}{H:Hp}{R:V->V->Hp->Prop}(I:bj X pins σ H s)
  (h:ta σ H fun x H1=>tb σ H1 fun y H2=>R x y H2) {Q:Value->Shared->Prop} {f:Value->Value->Sem Value}
  (hf:∀ v u s2 x y H2,bj X pins σ H2 s2->cQ x v->cQ y u->R x y H2->wpAny (model X.prog X.w) X.A (f v u) Q X.xe s2) :
  wpAny (model X.prog X.w) X.A (eval a X.env) (fun v s₁=>wpAny (model X.prog X.w) X.A (eval b X.env) (fun u s₂=>wpAny (model X.prog X.w) X.A (f v u) Q X.xe s₂) X.xe s₁) X.xe s:=by
 refine dg (ha pins s σ H _ I h) fun v s1 ⟨x,H1,I1,r1,q1⟩=>?_
 refine dg (hb pins s1 σ H1 _ I1 q1) fun u s2 ⟨y,H2,I2,r2,q2⟩=>?_
 exact hf v u s2 x y H2 I2 r1 r2 q2
theorem cD{op:Operator}{r:R2}(ho:uc X (binaryOp op) r)(ha:PE X a ta)(hb:PE X b tb):PE X (.BinOp a op b pos) (jj r ta tb):=by
 intro pins s σ H Q I h
 exact wpAny_BinOp (Sv ha hb I h fun v u s2 x y H2 I2 rx ry q=>ho pins s2 σ H2 x y v u Q I2 rx ry q)
theorem YD{f:Value->Value->Sem Value}{C:Int->Int->Prop}{g:Int->Int->Int}
  (rule:∀ (i j:Int) (t u:Tok) (s:Shared) (Q:Value->Shared->Prop) (E:Value->Shared->Prop),C i j->Q (.int (g i j) s.toks) { s with toks:=s.toks+1 }->wpAny (model X.prog X.w) X.A (f (.int i t) (.int j u)) Q E s) :
  uc X f (rI C fun i j=>.int (g i j)):=by
 intro pins s σ H x y v u Q I rx ry h
 obtain ⟨i,j,rfl,rfl,hc,q⟩:=h
 obtain ⟨t,rfl⟩:=rx
 obtain ⟨t',rfl⟩:=ry
 exact rule i j t t' s _ _ hc ⟨.int (g i j),H,I.tok _,⟨_,rfl⟩,q⟩
theorem Xy{f:Value->Value->Sem Value}{g:Int->Int->Int}
  (rule:∀ (i j:Int) (t u:Tok) (s:Shared) (Q:Value->Shared->Prop) (E:Value->Shared->Prop),Q (.int (g i j) s.toks) { s with toks:=s.toks+1 }->wpAny (model X.prog X.w) X.A (f (.int i t) (.int j u)) Q E s) :
  uc X f (Ik fun i j=>.int (g i j)):=by
 intro pins s σ H x y v u Q I rx ry h
 obtain ⟨i,j,rfl,rfl,q⟩:=h
 obtain ⟨t,rfl⟩:=rx
 obtain ⟨t',rfl⟩:=ry
 exact rule i j t t' s _ _ ⟨.int (g i j),H,I.tok _,⟨_,rfl⟩,q⟩
theorem Ti{f:Value->Value->Sem Value}{g:Int->Int->Bool}
  (rule:∀ (i j:Int) (t u:Tok) (s:Shared) (Q:Value->Shared->Prop) (E:Value->Shared->Prop),Q (.bool (g i j)) s->wpAny (model X.prog X.w) X.A (f (.int i t) (.int j u)) Q E s) :
  uc X f (Ik fun i j=>.bl (g i j)):=by
 intro pins s σ H x y v u Q I rx ry h
 obtain ⟨i,j,rfl,rfl,q⟩:=h
 obtain ⟨t,rfl⟩:=rx
 obtain ⟨t',rfl⟩:=ry
 exact rule i j t t' s _ _ ⟨.bl (g i j),H,I,rfl,q⟩
noncomputable def Zu(i j:Int):Prop:=0<j/\j<1073741824
noncomputable def UL(i j:Int):Prop:=(-(2 ^ 64)<i/\i<2 ^ 64)\/(-(2 ^ 64)<j/\j<2 ^ 64)
theorem UL.ok(h:UL i j):IntMulOk i j:=by
 rcases h with ⟨h1,h2⟩ | ⟨h1,h2⟩
 .exact .of_left (intBits_le_64 h1 h2)
 .exact .of_right (intBits_le_64 h1 h2)
theorem gU:uc X (binaryOp .Add) (Ik fun i j=>.int (i+j)):=Xy fun _ _ _ _ _ _ _ q=>add_int q
theorem V9:uc X (binaryOp .Sub) (Ik fun i j=>.int (i - j)):=Xy fun _ _ _ _ _ _ _ q=>sub_int q
theorem EY:uc X (binaryOp .Mult) (rI UL fun i j=>.int (i * j)):=YD fun _ _ _ _ _ _ _ hc q=>mul_int q hc.ok
theorem La:uc X (binaryOp .FloorDiv) (rI Zu fun i j=>.int (i / j)):=YD fun i j _ _ _ _ _ hc q=>by
 have h1:(0:Int)<j:=hc.1
 have h2:j<1073741824:=hc.2
 exact floordiv_int (by omega) (by rw [Int.fdiv_eq_ediv_of_nonneg i (by omega)];exact q) (.inl (PyProof.noPylong_small (by omega)))
theorem nO:uc X (binaryOp .Mod) (rI (fun _ j=>0<j) fun i j=>.int (i % j)):=YD fun i j _ _ _ _ _ hc q=>by
 have h1:(0:Int)<j:=hc
 exact mod_int' (by omega) (by rw [Int.fmod_eq_emod_of_nonneg i (by omega)];exact q)
end
noncomputable def Xe:V->V->Bool
 | .non,.non=>true | .non,.int _=>true | .int _,.non=>true | .non,.bl _=>true | .bl _,.non=>true | .non,.str _=>true | .str _,.non=>true
 | .int _,.int _=>true | .bl _,.bl _=>true | .str _,.str _=>true | .byt _,.byt _=>true
 | .int _,.str _=>true | .str _,.int _=>true | .bl _,.str _=>true | .str _,.bl _=>true
 | _,_=>false
noncomputable def Nz:R2:=fun x y H Q=>Xe x y=true/\Q (.bl (decide (x=y))) H
noncomputable def Z6:R2:=fun x y H Q=>Xe x y=true/\Q (.bl (!decide (x=y))) H
theorem K8:decide (V.int i=V.int j)=(i == j):=by
 rw [Bool.eq_iff_iff]
 simp
theorem Pk:decide (V.bl i=V.bl j)=(i == j):=by
 rw [Bool.eq_iff_iff]
 simp
theorem Lj:decide (V.str i=V.str j)=(i == j):=by
 rw [Bool.eq_iff_iff]
 simp
theorem Lq:decide (V.byt i=V.byt j)=(i.toList == j.toList):=by
 rw [Bool.eq_iff_iff]
 cases i
 cases j
 simp
section
variable{X:Cx}{a b c:Expr}{ta tb tc:TE}{pos:Pos}
theorem dB(I:bj X pins σ H s)(q:Q (.bl k) H)(e:k=k'):EP X pins σ Q (.bool k') s:=by
 subst e
 exact ⟨.bl k,H,I,rfl,q⟩
theorem dG:uc X (compareOp .Eq) Nz:=by
 intro pins s σ H x y v u Q I rx ry h
 obtain ⟨hs,q⟩:=h
 cases x with
 | non =>
  cases rx
  cases y with
  | non=>cases ry;exact PySem.EqNone.eq_none_none (dB I q (by simp))
  | bl j=>cases ry;exact PySem.EqNone.eq_none_bool (dB I q (by simp))
  | int j=>obtain ⟨t',rfl⟩:=ry;exact PySem.EqNone.eq_none_int (dB I q (by simp))
  | str j=>obtain ⟨t',rfl⟩:=ry;exact PySem.EqNone.eq_none_str (dB I q (by simp))
  | _=>exact absurd (show false=true from hs) Bool.false_ne_true
 | bl i =>
  cases rx
  cases y with
  | non=>cases ry;exact PySem.EqNone.eq_bool_none (dB I q (by simp))
  | bl j=>cases ry;exact eq_bool (dB I q Pk)
  | str j=>obtain ⟨t',rfl⟩:=ry;exact PySem.EqMixed.eq_bool_str (dB I q (by simp))
  | _=>exact absurd (show false=true from hs) Bool.false_ne_true
 | int i =>
  obtain ⟨t,rfl⟩:=rx
  cases y with
  | non=>cases ry;exact PySem.EqNone.eq_int_none (dB I q (by simp))
  | int j=>obtain ⟨t',rfl⟩:=ry;exact eq_int (dB I q K8)
  | str j=>obtain ⟨t',rfl⟩:=ry;exact PySem.EqMixed.eq_int_str (dB I q (by simp))
  | _=>exact absurd (show false=true from hs) Bool.false_ne_true
 | str i =>
  obtain ⟨t,rfl⟩:=rx
  cases y with
  | non=>cases ry;exact PySem.EqNone.eq_str_none (dB I q (by simp))
  | bl j=>cases ry;exact PySem.EqMixed.eq_str_bool (dB I q (by simp))
  | int j=>obtain ⟨t',rfl⟩:=ry;exact PySem.EqMixed.eq_str_int (dB I q (by simp))
  | str j=>obtain ⟨t',rfl⟩:=ry;exact eq_str (dB I q Lj)
  | _=>exact absurd (show false=true from hs) Bool.false_ne_true
 | byt i =>
  obtain ⟨t,rfl⟩:=rx
  cases y with
  | byt j=>obtain ⟨t',rfl⟩:=ry;exact PySem.W.eq_bytes (dB I q Lq)
  | _=>exact absurd (show false=true from hs) Bool.false_ne_true
 | _=>cases y <;> exact absurd (show false=true from hs) Bool.false_ne_true
theorem qi:uc X (compareOp .NotEq) Z6:=by
 intro pins s σ H x y v u Q I rx ry h
 obtain ⟨hs,q⟩:=h
 cases x with
 | non =>
  cases rx
  cases y with
  | non=>cases ry;exact PySem.EqNone.ne_none_none (dB I q (by simp))
  | bl j=>cases ry;exact PySem.EqNone.ne_none_bool (dB I q (by simp))
  | int j=>obtain ⟨t',rfl⟩:=ry;exact PySem.EqNone.ne_none_int (dB I q (by simp))
  | str j=>obtain ⟨t',rfl⟩:=ry;exact PySem.EqNone.ne_none_str (dB I q (by simp))
  | _=>exact absurd (show false=true from hs) Bool.false_ne_true
 | bl i =>
  cases rx
  cases y with
  | non=>cases ry;exact PySem.EqNone.ne_bool_none (dB I q (by simp))
  | bl j=>cases ry;exact ne_bool (dB I q (congrArg not Pk))
  | str j=>obtain ⟨t',rfl⟩:=ry;exact PySem.EqMixed.ne_bool_str (dB I q (by simp))
  | _=>exact absurd (show false=true from hs) Bool.false_ne_true
 | int i =>
  obtain ⟨t,rfl⟩:=rx
  cases y with
  | non=>cases ry;exact PySem.EqNone.ne_int_none (dB I q (by simp))
  | int j=>obtain ⟨t',rfl⟩:=ry;exact ne_int (dB I q (congrArg not K8))
  | str j=>obtain ⟨t',rfl⟩:=ry;exact PySem.EqMixed.ne_int_str (dB I q (by simp))
  | _=>exact absurd (show false=true from hs) Bool.false_ne_true
 | str i =>
  obtain ⟨t,rfl⟩:=rx
  cases y with
  | non=>cases ry;exact PySem.EqNone.ne_str_none (dB I q (by simp))
  | bl j=>cases ry;exact PySem.EqMixed.ne_str_bool (dB I q (by simp))
  | int j=>obtain ⟨t',rfl⟩:=ry;exact PySem.EqMixed.ne_str_int (dB I q (by simp))
  | str j=>obtain ⟨t',rfl⟩:=ry;exact ne_str (dB I q (congrArg not Lj))
  | _=>exact absurd (show false=true from hs) Bool.false_ne_true
 | byt i =>
  obtain ⟨t,rfl⟩:=rx
  cases y with
  | byt j=>obtain ⟨t',rfl⟩:=ry;exact PySem.W.ne_bytes (dB I q (congrArg not Lq))
  | _=>exact absurd (show false=true from hs) Bool.false_ne_true
 | _=>cases y <;> exact absurd (show false=true from hs) Bool.false_ne_true
theorem wg:uc X (compareOp .Lt) (Ik fun i j=>.bl (decide (i<j))):=Ti fun _ _ _ _ _ _ _ q=>lt_int q
theorem Qx:uc X (compareOp .LtE) (Ik fun i j=>.bl (decide (i<=j))):=Ti fun _ _ _ _ _ _ _ q=>le_int q
theorem yl:uc X (compareOp .Gt) (Ik fun i j=>.bl (decide (j<i))):=Ti fun _ _ _ _ _ _ _ q=>gt_int q
theorem Rj:uc X (compareOp .GtE) (Ik fun i j=>.bl (decide (j<=i))):=Ti fun _ _ _ _ _ _ _ q=>ge_int q
theorem QJ:uc X (compareOp .Is) (fun x y H Q=>y=.non/\Q (.bl (decide (x=.non))) H):=by
 intro pins s σ H x y v u Q I rx ry h
 obtain ⟨rfl,q⟩:=h
 cases ry
 refine is_none_gen (dB I q ?_)
 cases x <;> first
  | (cases rx;rfl)
  | (obtain ⟨t,rfl⟩:=rx;rfl)
theorem bh(b:Expr)(h:op≠.In:=by decide)(h2:op≠.NotIn:=by decide):behindInMarks op b=false:=by
 have e1:(op == CmpOp.In)=false:=by cases op <;> first | rfl | exact absurd rfl h
 have e2:(op == CmpOp.NotIn)=false:=by cases op <;> first | rfl | exact absurd rfl h2
 cases b <;> simp [behindInMarks,e1,e2]
theorem eQ{op:CmpOp}{r:R2}(ho:uc X (compareOp op) r)(ha:PE X a ta)(hb:PE X b tb)(hm:behindInMarks op b=false):PE X (.Compare a [op] [b] pos) (jj r ta tb):=by
 intro pins s σ H Q I h
 exact wpAny_Compare1 (Sv ha hb I h fun v u s2 x y H2 I2 rx ry q=>ho pins s2 σ H2 x y v u Q I2 rx ry q) hm
noncomputable def oR(t:TE):TT:=fun σ H Q=>t σ H (Uk Q)
theorem aZ(ho:uc X (compareOp op) r)(ha:PE X a ta)(hb:PE X b tb)(hm:behindInMarks op b=false):PT X (.Compare a [op] [b] pos) (oR (jj r ta tb)):=by
 intro pins s σ H Q I h
 refine wpAny_isTrue_Compare1 (dg (ha pins s σ H _ I h) fun v s1 ⟨x,H1,I1,r1,q1⟩=>dg (hb pins s1 σ H1 _ I1 q1) fun u s2 ⟨y,H2,I2,r2,q2⟩ =>
  dg (ho pins s2 σ H2 x y v u _ I2 r1 r2 q2) fun c s3 ⟨z,H3,I3,r3,k,e,q3⟩=>?_) hm
 subst e
 cases r3
 exact wpAny_truthy_bool ⟨H3,I3,q3⟩
noncomputable def Oq(r r':R2)(ta tb tc:TE):TE:=fun σ H Q=>ta σ H fun x H1=>tb σ H1 fun y H2=>r x y H2 fun z H3=>∃ k,z=.bl k /\
 (if k=true then tc σ H3 fun w' H4=>r' y w' H4 Q else Q (.bl false) H3)
theorem yL(ho:uc X (compareOp op) r)(ho':uc X (compareOp op') r')(ha:PE X a ta)(hb:PE X b tb)(hc:PE X c tc)
  (hm:lastMarks [op,op'] [b,c]=false:=by with_unfolding_all rfl):PE X (.Compare a [op,op'] [b,c] pos) (Oq r r' ta tb tc):=by
 intro pins s σ H Q I h
 refine Compare_chain (dg (ha pins s σ H _ I h) fun v s1 ⟨x,H1,I1,r1,q1⟩=>chain_link (dg (hb pins s1 σ H1 _ I1 q1) fun u s2 ⟨y,H2,I2,r2,q2⟩ =>
  dg (ho pins s2 σ H2 x y v u _ I2 r1 r2 q2) fun d s3 ⟨z,H3,I3,r3,k,e,q3⟩=>?_)) hm
 subst e
 cases r3
 refine wpAny_truthy_bool ?_
 cases k with
 | false=>exact ite_ff ⟨.bl false,H3,I3,rfl,q3⟩
 | true=>exact ite_tt (chain_last (dg (hc pins s3 σ H3 _ I3 q3) fun w' s4 ⟨z',H4,I4,r4,q4⟩=>ho' pins s4 σ H4 y z' u w' Q I4 r2 r4 q4))
theorem Oz(ho:uc X (compareOp op) r)(ho':uc X (compareOp op') r')(ha:PE X a ta)(hb:PE X b tb)(hc:PE X c tc)
  (hm:lastMarks [op,op'] [b,c]=false:=by with_unfolding_all rfl):PT X (.Compare a [op,op'] [b,c] pos) (oR (Oq r r' ta tb tc)):=by
 intro pins s σ H Q I h
 refine isTrue_chain (dg (ha pins s σ H _ I h) fun v s1 ⟨x,H1,I1,r1,q1⟩=>test_link (dg (hb pins s1 σ H1 _ I1 q1) fun u s2 ⟨y,H2,I2,r2,q2⟩ =>
  dg (ho pins s2 σ H2 x y v u _ I2 r1 r2 q2) fun d s3 ⟨z,H3,I3,r3,k,e,q3⟩=>?_)) hm
 subst e
 cases r3
 refine wpAny_truthy_bool ?_
 cases k with
 | false =>
  obtain ⟨k',e',q'⟩:=q3
  cases e'
  exact ite_ff ⟨H3,I3,q'⟩
 | true =>
  refine ite_tt (test_last (dg (hc pins s3 σ H3 _ I3 q3) fun w' s4 ⟨z',H4,I4,r4,q4⟩=>dg (ho' pins s4 σ H4 y z' u w' _ I4 r2 r4 q4) fun d' s5 ⟨z2,H5,I5,r5,k2,e2,q5⟩=>?_))
  subst e2
  cases r5
  exact wpAny_truthy_bool ⟨H5,I5,q5⟩
noncomputable def Xb(K:PySem.W.Frag)(x:V)(H:Hp)(k:Bool):Prop :=
 match x with
 | .non=>k=false
 | .bl b=>k=b
 | .int i=>k=(i != 0)
 | .str y=>y.length<=sizeLine/\k=((y.length:Int) != 0)
 | .byt y=>y.size<=sizeLine/\k=((y.size:Int) != 0)
 | .ref p=>(∃ xs,c7 K H p xs/\k=!xs.isEmpty)\/(∃ xs,cZ K H p xs/\k=!xs.isEmpty)\/∃ kvs,H p=some (.dK kvs)/\k=!kvs.isEmpty
 | _=>False
theorem Ja(r:KV kvs vs):(!vs.isEmpty)=!kvs.isEmpty:=by
 cases r <;> rfl
theorem xx(r:cI xs its):(!its.toArray.isEmpty)=!xs.isEmpty:=by
 cases r <;> simp
theorem vO:(sizeLine:Nat)<2 ^ 63:=by rw [sizeLine_eq];decide
theorem VR:ZD X (fun x H Q=>∃ k,Xb X.K x H k/\Q k H):=by
 intro pins s σ H x v Q I rx h
 obtain ⟨k,e,q⟩:=h
 have hl:=vO
 have hs:sizeLine=16777216:=sizeLine_eq
 cases x with
 | non =>
  cases rx
  have e':k=false:=e
  subst e'
  exact truthy_none ⟨H,I,q⟩
 | bl b =>
  cases rx
  have e':k=b:=e
  subst e'
  exact wpAny_truthy_bool ⟨H,I,q⟩
 | int i =>
  obtain ⟨t,rfl⟩:=rx
  have e':k=(i != 0):=e
  subst e'
  exact PySem.P.truthy_int ⟨H,I,q⟩
 | str y =>
  obtain ⟨t,rfl⟩:=rx
  obtain ⟨hy,e'⟩:y.length<=sizeLine/\k=((y.length:Int) != 0):=e
  subst e'
  exact PySem.P.truthy_str (by omega) ⟨H,I.tok _,q⟩
 | byt y =>
  obtain ⟨t,rfl⟩:=rx
  obtain ⟨hy,e'⟩:y.size<=sizeLine/\k=((y.size:Int) != 0):=e
  subst e'
  exact PySem.W.truthy_bytes (by omega) ⟨H,I.tok _,q⟩
 | ref p =>
  cases rx
  have e':(∃ xs,c7 X.K H p xs/\k=!xs.isEmpty)\/(∃ xs,cZ X.K H p xs/\k=!xs.isEmpty)\/∃ kvs,H p=some (.dK kvs)/\k=!kvs.isEmpty:=e
  rcases e' with ⟨xs,hx,e'⟩ | ⟨xs,hx,e'⟩ | ⟨kvs,hx,e'⟩
  .subst e'
   obtain ⟨its,r,pl,hz⟩:=I.list hx
   have hlen:=r.length
   exact wpAny_truthy_list pl.isList (by simp only [List.size_toArray];omega) ⟨H,I.tok _,by rw [xx r];exact q⟩
  .subst e'
   obtain ⟨its,r,pl,hz⟩:=I.tuple hx
   have hlen:=r.length
   exact truthy_tuple pl (by simp only [List.size_toArray];omega) ⟨H,I.tok _,by rw [xx r];exact q⟩
  .subst e'
   obtain ⟨hz,hS,vs,r,m⟩:kvs.length<=sizeLine/\(p == sysModules)=false/\∃ vs,KV kvs vs/\s.heap.DictOf (cY X.prog X.w) p vs:=I.hok p _ hx
   have hlen:kvs.length=vs.length:=Paired.length r
   exact wpAny_truthy_dict hS m (by omega) ⟨H,I.tok _,by rw [Ja r];exact q⟩
 | _=>exact (show False from e).elim
theorem HH(ha:PE X a ta)(he:∀ whole,isTrue a X.env whole=(do let v <- whole;standAt a.pos;holding [v] (truthy v))) :
  PT X a (fun σ H Q=>ta σ H fun x H'=>∃ k,Xb X.K x H' k/\Q k H'):=by
 intro pins s σ H Q I h
 exact isTrue_plain (dg (ha pins s σ H _ I h) fun v s1 ⟨x,H1,I1,r1,q1⟩=>VR pins s1 σ H1 x v Q I1 r1 q1) (he _)
theorem dH:uc X (binaryOp .Add) (fun x y H Q=>∃ i j,x=.str i/\y=.str j/\i.length+j.length<=sizeLine/\Q (.str (i++j)) H):=by
 intro pins s σ H x y v u Q I rx ry h
 obtain ⟨i,j,rfl,rfl,hz,q⟩:=h
 obtain ⟨t,rfl⟩:=rx
 obtain ⟨t',rfl⟩:=ry
 exact add_str (fun t' tk=>⟨.str (i++j),H,I.tok _,⟨_,rfl⟩,q⟩) hz
noncomputable def Pj(b:Expr):Prop:=∀ o i,subscripted b false o i=operate [o,i] (getItem o i)
theorem iH(ha:PE X a ta)(hb:PE X b tb)(hs:Pj b) :
  PE X (.Subscript a b pos) (jj (fun x y H Q=>∃ z i c,x=.str z/\y=.int i/\0<=i/\i<2 ^ 63/\i<z.length/\z.cps[i.toNat]?=some c/\Q (.str ⟨#[c]⟩) H) ta tb):=by
 intro pins s σ H Q I h
 refine Subscript_ (Sv ha hb I h fun v u s2 x y H2 I2 rx ry q=>?_)
 obtain ⟨z,i,c,rfl,rfl,h0,h63,h1,hc,q⟩:=q
 obtain ⟨t,rfl⟩:=rx
 obtain ⟨t',rfl⟩:=ry
 have e:seqIndex? i z.length=some i.toNat:=PySem.StrLaws.seqIndex_nonneg h0 h1
 exact tail_any (typeIs_str s2 z t) slot_str_getitem.lookup (getItem_str (c:=c) (by
  have e1:decide (i < -(2 ^ 63:Int))=false:=decide_eq_false (by omega)
  have e2:decide (i >= 2 ^ 63)=false:=decide_eq_false (by omega)
  rw [e1,e2] <;> rfl) (by rw [e];exact hc) ⟨.str ⟨#[c]⟩,H2,I2.tok _,⟨_,rfl⟩,q⟩) (hs _ _)
theorem lu(r:cI [x] us):∃ u,us=[u]/\cQ x u:=by
 cases r with
 | cons r1 r2=>cases r2;exact ⟨_,rfl,r1⟩
theorem Om(r:cI [x,y] us):∃ u w',us=[u,w']/\cQ x u/\cQ y w':=by
 cases r with
 | cons r1 r2 =>
  cases r2 with
  | cons r3 r4=>cases r4;exact ⟨_,_,rfl,r1,r3⟩
theorem jU:lW X (.type "str") (fun xs H Q=>∃ i,xs=[.int i]/\i.natAbs.log2<1920/\Q (.str (toString i)) H):=by
 intro pins s σ H xs us Q I r h
 obtain ⟨i,rfl,hz,q⟩:=h
 obtain ⟨u,rfl,t,rfl⟩:=lu r
 exact PySem.P.str_of_int hz ⟨.str _,H,I.tok _,⟨_,rfl⟩,q⟩
noncomputable def Y0(K:PySem.W.Frag)(x:V)(H:Hp)(n:Nat):Prop :=
 match x with
 | .str y=>y.length<=sizeLine/\n=y.length
 | .byt y=>y.size<=sizeLine/\n=y.size
 | .ref p=>(∃ xs,c7 K H p xs/\n=xs.length)\/∃ xs,cZ K H p xs/\n=xs.length
 | _=>False
theorem u0:lW X (.builtin "len") (fun xs H Q=>∃ x n,xs=[x]/\Y0 X.K x H n/\Q (.int n) H):=by
 intro pins s σ H xs us Q I r h
 obtain ⟨x,n,rfl,e,q⟩:=h
 obtain ⟨u,rfl,rx⟩:=lu r
 have hl:=vO
 have hs:sizeLine=16777216:=sizeLine_eq
 cases x with
 | str y =>
  obtain ⟨t,rfl⟩:=rx
  obtain ⟨hy,e'⟩:y.length<=sizeLine/\n=y.length:=e
  subst e'
  exact len_str (by omega) ⟨.int _,H,I.tok _,⟨_,rfl⟩,q⟩
 | byt y =>
  obtain ⟨t,rfl⟩:=rx
  obtain ⟨hy,e'⟩:y.size<=sizeLine/\n=y.size:=e
  subst e'
  exact PySem.W.len_bytes (by omega) ⟨.int _,H,I.tok _,⟨_,rfl⟩,q⟩
 | ref p =>
  cases rx
  have e':(∃ xs,c7 X.K H p xs/\n=xs.length)\/∃ xs,cZ X.K H p xs/\n=xs.length:=e
  rcases e' with ⟨xs,hx,e'⟩ | ⟨xs,hx,e'⟩
  .subst e'
   obtain ⟨its,r',pl,hz⟩:=I.list hx
   have hlen:=r'.length
   exact Calls.call_len_list pl.isList (by simp only [List.size_toArray];omega) ⟨.int xs.length,H,I.tok _,⟨_,by simp only [List.size_toArray];rw [hlen]⟩,q⟩
  .subst e'
   obtain ⟨its,r',pl,hz⟩:=I.tuple hx
   have hlen:=r'.length
   exact len_tuple pl (by simp only [List.size_toArray];omega) ⟨.int xs.length,H,I.tok _,⟨_,by simp only [List.size_toArray];rw [hlen]⟩,q⟩
 | _=>exact (show False from e).elim
end
structure yz(h:Heap)(x dx C:Addr)(mA:Str->Option Value):Prop where
 obj:h.get? x=some (PySem.W.instObj C dx)
 ns:h.Ns1 dx mA
 ne:dx≠x
theorem Nb{h:Heap}{dx:Addr}{mA:Str->Option Value}(n:h.Ns1 dx mA):∃ od,h.get? dx=some od/\∀ name,PySem.W.lookIn name od=some (mA name):=by
 obtain ⟨o,es,ep,ho,hd,hk,_,hm⟩:=n
 refine ⟨o,ho,fun name=>?_⟩
 have e:=hm name
 unfold nsFind findBy at e
 rw [<- Array.find?_toList] at e
 unfold PySem.W.lookIn
 rw [hd]
 dsimp only
 split
 .rename_i y q
  rw [q] at e
  exact congrArg some e
 .rename_i q
  rw [q] at e
  have a:es.toList.any (·.refKey)=false:=by
   rw [List.any_eq_false]
   intro y hy
   obtain ⟨z,t,hkey⟩:=hk y (Array.mem_toList_iff.mp hy)
   simp [DictEntry.refKey,hkey]
  have a':¬ es.toList.any (·.refKey)=true:=by rw [a];exact Bool.false_ne_true
  rw [if_neg a']
  exact congrArg some e
theorem yz.look(I:yz h x dx C mA):∃ od,PySem.W.InstAt h x (PySem.W.instObj C dx) C (some od)/\∀ name,PySem.W.lookIn name od=some (mA name) :=
 let ⟨od,ho,hl⟩:=Nb I.ns
 ⟨od,⟨I.obj,rfl,rfl,ho⟩,hl⟩
section
variable{prog:Program}{w:World}{A:Around}{E:Value->Shared->Prop}{s:Shared}{K:PySem.W.Frag}{x dx C f:Addr}{mA:Str->Option Value}{name:Str}{v:Value}
theorem K7(X:K.In s.heap)(I:yz s.heap x dx C mA)(hg:PySem.W.plainGet K C name=true)(hh:PySem.W.hasDictIn K C=true)
  (ha:PySem.W.findIn K (.ref C) name=some none) (hv:mA name=some v) (hv':PySem.W.handedIn v=true) (h:Q v { s with toks:=s.toks+1 }) :
  wpAny (model prog w) A (getAttr (.ref x) name expr) Q E s:=by
 obtain ⟨od,J,hl⟩:=I.look
 exact PySem.W.get_value X J (PySem.W.plainGet_of hg).1 (PySem.W.findObj_own hh ha rfl (by rw [hl,hv])) hv' h
theorem N6(X:K.In s.heap)(I:yz s.heap x dx C mA)(hg:PySem.W.plainGet K C name=true)
  (hf:PySem.W.findIn K (.ref C) name=some (some (.ref f))) (ht:PySem.W.isFn K (.ref f)=true) (hv:mA name=none) (h:Q (.ref f,[.ref x]) s) :
  wpAny (model prog w) A (getMethod (.ref x) name pl) Q E s:=by
 obtain ⟨od,J,hl⟩:=I.look
 exact PySem.W.method_fn X J (PySem.W.plainGet_of hg).1 (PySem.W.plainGet_of hg).2 hf (beq_iff_eq.mp ht) (by show (PySem.W.lookIn name od).map (·.isSome)=some false;rw [hl,hv];rfl) h
theorem SN(X:K.In s.heap)(I:yz s.heap x dx C mA)
  (hs:PySem.W.findIn K (.ref C) "__setattr__"=some (some (.builtin "object.__setattr__"))) (hp:PySem.W.plainOver K C=true) (ht:PySem.W.takerIn K C name=some none) (hh:PySem.W.hasDictIn K C=true)
  (hw:PySem.Within mA ns) (hsz:ns.length<=sizeLine)
  (h:∀ h',yz h' x dx C (fun y=>if y=name then some v else mA y)->Heap.SameBut dx s.heap h'->Q () { s with heap:=h',toks:=s.toks+2 }) :
  wpAny (model prog w) A (setAttr (.ref x) name v) Q E s:=by
 obtain ⟨od,J,hl⟩:=I.look
 refine PySem.W.set_plain X J hs (PySem.W.osa_open (s:={ s with toks:=s.toks+1 }) (r:=none) X J hp ht fun b=>?_)
 obtain ⟨cd,hc,hd'⟩:=PySem.W.any_some hh
 have hx:s.heap.get? x=some ⟨.ref C,some dx,.plain,#[]⟩:=I.obj
 refine wpAny_bind (wpAny_pure (wpAny_bind (wpAny_bind (wpAny_loadPart hx (wpAny_bind (PySem.W.Looks.here (s:={ s with toks:=s.toks+1 }) (PySem.W.looks_clsIn X hc) ?_))))))
 rw [hd']
 refine wpAny_pure (a:=some dx) (wpAny_bind (wpAny_pure (wpAny_bind ?_)))
 refine wpAny_nsSet1 (s:={ s with toks:=s.toks+1 }) I.ns fun h' hn2 hs2=>?_
 obtain ⟨oD,esD,epD,hoD,hdD,hcD⟩:=hn2.count (PySem.Within.cons name v hw)
 refine wpAny_bind (wpAny_lookBehind hoD (by rw [hdD];exact pastItsLine_dict (Nat.le_trans hcD (by rw [List.length_cons];omega))) ?_)
 exact wpAny_pure (h _ ⟨(hs2.2 _ (Ne.symm I.ne)).trans I.obj,hn2,I.ne⟩ hs2)
theorem Fz(X:K.In s.heap)(hm:PySem.W.makesIn K C=true)
  (hi:PySem.W.findIn K (.ref C) "__init__"=some (some (.ref f))) (hf:PySem.W.typeIn K (.ref f)=some (.type "function"))
  (h:codeAny (model prog w) (A.under (.builtin "type.__call__" ⟨.ref C::vs,kw⟩)) (.call (.ref f) ⟨.ref (s.heap.objs.size+1)::vs,kw⟩) (PySem.W.InitBack (s.heap.objs.size+1) R)
   { s with heap:=(s.heap.push PySem.W.emptyDict).push (PySem.W.instObj C s.heap.objs.size) }) :
  codeAny (model prog w) A (.call (.ref C) ⟨vs,kw⟩) R s:=by
 obtain ⟨hh,g,d,t,os⟩:=s
 exact PySem.W.make_core (PySem.W.makes_of X hm) (PySem.W.looks_findIn X hi) (fun self=>PySem.W.bind_fn X self hf) (.inl rfl) h
end
noncomputable def eU(f:Str)(v:V):List (Str × V)->List (Str × V)
 | []=>[(f,v)]
 | (g,x)::r=>if g=f then (g,v)::r else (g,x)::eU f v r
theorem vX(f g:Str)(v:V):∀ fs:List (Str × V),(eU f v fs).lookup g=if g=f then some v else fs.lookup g
 | []=>by
  show List.lookup g [(f,v)]=_
  by_cases h:g=f
  .have hb:(g == f)=true:=beq_iff_eq.mpr h
   simp only [List.lookup,hb,if_pos h]
  .have hb:(g == f)=false:=beq_eq_false_iff_ne.mpr h
   simp only [List.lookup,hb,if_neg h]
 | (k,x)::r=>by
  have ih:=vX f g v r
  rw [show eU f v ((k,x)::r)=(if k=f then (k,v)::r else (k,x)::eU f v r) from rfl]
  by_cases hk:k=f
  .rw [if_pos hk]
   by_cases h:g=k
   .have hb:(g == k)=true:=beq_iff_eq.mpr h
    simp only [List.lookup,hb,if_pos (h.trans hk)]
   .have hb:(g == k)=false:=beq_eq_false_iff_ne.mpr h
    simp only [List.lookup,hb,if_neg (fun e:g=f=>h (e.trans hk.symm))]
  .rw [if_neg hk]
   by_cases h:g=k
   .have hb:(g == k)=true:=beq_iff_eq.mpr h
    simp only [List.lookup,hb,if_neg (fun e:g=f=>hk (h.symm.trans e))]
   .have hb:(g == k)=false:=beq_eq_false_iff_ne.mpr h
    simp only [List.lookup,hb]
    exact ih
theorem vp(f:Str)(v:V):∀ fs:List (Str × V),f∈(eU f v fs).map (·.1)/\∀ g,g∈fs.map (·.1)->g∈(eU f v fs).map (·.1)
 | []=>⟨by simp [eU],fun g h=>by simp at h⟩
 | (k,x)::r=>by
  obtain ⟨i1,i2⟩:=vp f v r
  rw [show eU f v ((k,x)::r)=(if k=f then (k,v)::r else (k,x)::eU f v r) from rfl]
  by_cases hk:k=f
  .rw [if_pos hk]
   subst hk
   exact ⟨by simp,fun g h=>by simpa using h⟩
  .rw [if_neg hk]
   refine ⟨?_,fun g h=>?_⟩
   .rw [List.map_cons]
    exact List.mem_cons_of_mem _ i1
   .rw [List.map_cons] at h ⊢
    rcases List.mem_cons.mp h with e | e
    .exact List.mem_cons.mpr (.inl e)
    .exact List.mem_cons_of_mem _ (i2 g e)
theorem iI(f:Str)(v:V):∀ fs:List (Str × V),(eU f v fs).length<=fs.length+1
 | []=>by simp [eU]
 | (k,x)::r=>by
  have ih:=iI f v r
  rw [show eU f v ((k,x)::r)=(if k=f then (k,v)::r else (k,x)::eU f v r) from rfl]
  by_cases hk:k=f
  .rw [if_pos hk,List.length_cons,List.length_cons];omega
  .rw [if_neg hk,List.length_cons,List.length_cons];omega
theorem oJ.some_of(r:oJ (some v) o):∃ u,o=some u/\cQ v u:=by
 cases o with
 | none=>exact (show False from r).elim
 | some u=>exact ⟨u,rfl,r⟩
theorem oJ.none_of(r:oJ none o):o=none:=by
 cases o with
 | none=>rfl
 | some u=>exact (show False from r).elim
theorem Lx(r:cQ v u):PySem.W.handedIn u=true:=by
 cases v with
 | non=>cases (show u=Value.none from r);rfl
 | bl b=>cases (show u=Value.bool b from r);rfl
 | int i=>obtain ⟨t,e⟩:=(show ∃ t,u=Value.int i t from r);cases e;rfl
 | str x=>obtain ⟨t,e⟩:=(show ∃ t,u=Value.str x t from r);cases e;rfl
 | byt b=>obtain ⟨t,e⟩:=(show ∃ t,u=Value.bytes b t from r);cases e;rfl
 | flt b=>obtain ⟨t,e⟩:=(show ∃ t,u=Value.float b t from r);cases e;rfl
 | ref a=>cases (show u=Value.ref a from r);rfl
 | ty n=>cases (show u=Value.type n from r);rfl
section
variable{P:Program}{w:World}{H H':Hp}{h h':Heap}{a C dx:Addr}{fs fs':List (Str × V)}
theorem uO(hok:qw P w H h)(e:H a=some (.ins C dx fs)):∃ mA,yz h a dx C mA/\(∀ f,oJ (fs.lookup f) (mA f))/\PySem.Within mA (fs.map (·.1))/\fs.length<=1000/\H dx=some (.own a):=by
 obtain ⟨d,z,ne,ob,mA,n,r,q⟩:=(show dW P w H h a (.ins C dx fs) from hok a _ e)
 exact ⟨mA,⟨ob,n,ne⟩,r,q,z,d⟩
end
structure jQ(K:PySem.W.Frag)(C:Addr):Prop where
 pg:PySem.W.plainGet K C Str.empty=true
 hd:PySem.W.hasDictIn K C=true
 po:PySem.W.plainOver K C=true
 sa:PySem.W.findIn K (.ref C) "__setattr__"=some (some (.builtin "object.__setattr__"))
theorem jQ.get{K:PySem.W.Frag}{C:Addr}(c:jQ K C)(f:Str):PySem.W.plainGet K C f=true:=c.pg
noncomputable def dw(K:PySem.W.Frag)(C:Addr)(f:Str):Prop:=PySem.W.findIn K (.ref C) f=some none
theorem dw.taker{K:PySem.W.Frag}{C:Addr}{f:Str}(n:dw K C f):PySem.W.takerIn K C f=some none:=by
 unfold PySem.W.takerIn
 rw [show PySem.W.findIn K (.ref C) f=some none from n]
 rfl
structure wV(K:PySem.W.Frag)(C:Addr)(m:Str)(f:Addr):Prop where
 at_:PySem.W.findIn K (.ref C) m=some (some (.ref f))
 fn:PySem.W.isFn K (.ref f)=true
 kp:PySem.W.keepIn K (.ref f)=true
section
variable{X:Cx}{pins:List (Addr × Obj)}{σ:St}{H:Hp}{s:Shared}{a C dx:Addr}{fs:List (Str × V)}{f:Str}{v:V}{A:Around}{E:Value->Shared->Prop}
theorem ym(I:bj X pins σ H s)(e:H a=some (.ins C dx fs))(c:jQ X.K C)(n:dw X.K C f)(l:fs.lookup f=some v)
  (h:∀ u s',bj X pins σ H s'->cQ v u->Q u s'):wpAny (model X.prog X.w) A (getAttr (.ref a) f b) Q E s:=by
 obtain ⟨mA,O,r,_,_,_⟩:=uO I.hok e
 obtain ⟨u,hu,ru⟩:=oJ.some_of (v:=v) (o:=mA f) (by rw [<- l];exact r f)
 exact K7 I.kIn O (c.get f) c.hd n hu (Lx ru) (h u _ (I.tok _) ru)
theorem uh(I:bj X pins σ H s)(e:H a=some (.ins C dx fs))(c:jQ X.K C)(k:wV X.K C m g)(l:fs.lookup m=none)
  (h:Q (.ref g,[.ref a]) s):wpAny (model X.prog X.w) A (getMethod (.ref a) m pl) Q E s:=by
 obtain ⟨mA,O,r,_,_,_⟩:=uO I.hok e
 have hn:mA m=none:=oJ.none_of (by rw [<- l];exact r m)
 exact N6 I.kIn O (c.get m) k.at_ k.fn hn h
theorem xE(I:bj X pins σ H s)(e:H a=some (.ins C dx fs))(c:jQ X.K C)(n:dw X.K C f)(hl:fs.length<1000)(ry:cQ y u)
  (h:∀ s',bj X pins σ (bQ H a (.ins C dx (eU f y fs))) s'->Q () s'):wpAny (model X.prog X.w) A (setAttr (.ref a) f u) Q E s:=by
 obtain ⟨mA,O,r,wi,_,ho⟩:=uO I.hok e
 have hz:(fs.map (·.1)).length<=sizeLine:=by rw [List.length_map,sizeLine_eq];omega
 refine SN I.kIn O c.sa c.po n.taker c.hd wi hz fun h' O' sb=>h _ ?_
 have hd:∃ o,h'.get? dx=some o:=let ⟨o,_,_,e',_⟩:=O'.ns;⟨o,e'⟩
 refine I.write (x:=a) (e:=dx) (by rw [e];exact True.intro) (.inr ho) (fun b q hb z=>(sb.2 b hb).trans z) hd ?_
 refine ⟨by rw [aA O.ne];exact ho,?_,O.ne,O'.obj,_,O'.ns,fun g=>?_,fun g hg=>?_⟩
 .have:=iI f y fs;omega
 .show oJ ((eU f y fs).lookup g) (if g=f then some u else mA g)
  rw [vX]
  by_cases q:g=f
  .rw [if_pos q,if_pos q];exact ry
  .rw [if_neg q,if_neg q];exact r g
 .by_cases q:g=f
  .rw [q];exact (vp f y fs).1
  .refine (vp f y fs).2 g (wi g fun z=>hg ?_)
   show (if g=f then some u else mA g)=none
   rw [if_neg q];exact z
theorem bj.made(I:bj X pins σ H s):bj X pins σ (bQ (bQ H s.heap.objs.size (.own (s.heap.objs.size+1))) (s.heap.objs.size+1) (.ins C s.heap.objs.size []))
  { s with heap:=(s.heap.push PySem.W.emptyDict).push (PySem.W.instObj C s.heap.objs.size) }:=by
 have e1:(s.heap.push PySem.W.emptyDict).get? s.heap.objs.size=some PySem.W.emptyDict:=Heap.get?_push_size s.heap rfl
 have e2:((s.heap.push PySem.W.emptyDict).push (PySem.W.instObj C s.heap.objs.size)).get? (s.heap.objs.size+1)=some (PySem.W.instObj C s.heap.objs.size):=by
  have:=Heap.get?_push_size (s.heap.push PySem.W.emptyDict) (o:=PySem.W.instObj C s.heap.objs.size) rfl
  rwa [Heap.size_push] at this
 have e3:(s.heap.push PySem.W.emptyDict).Ns s.heap.objs.size (fun _=>none):=⟨PySem.W.emptyDict,#[],_,e1,rfl,(fun e he=>absurd he (by simp)),fun _=>rfl⟩
 have I1:=I.laid (a:=s.heap.objs.size) (o:=.own (s.heap.objs.size+1)) (h':=s.heap.push PySem.W.emptyDict) (t':=s.toks) (fun b u q=>Heap.get?_push_of_some _ q) (Nat.le_refl _) ⟨_,e1⟩
 refine I1.laid (a:=s.heap.objs.size+1) (o:=.ins C s.heap.objs.size []) (t':=s.toks) (fun b u q=>Heap.get?_push_of_some _ q) (Nat.le_of_eq (Heap.size_push _ _)) ?_
 have ne:s.heap.objs.size≠s.heap.objs.size+1:=Nat.ne_of_lt (Nat.lt_succ_self _)
 refine ⟨by rw [aA ne,aj],Nat.zero_le _,ne,e2,fun _=>none,(Heap.Ns1.of_empty e3).at fun o q=>Heap.get?_push_of_some _ q,fun _=>True.intro,fun y hy=>absurd rfl hy⟩
theorem J4(hb:attributeBase e f env (eval e env)=eval e env)
  (h:wpAny (model prog w) A (eval e env) (fun o s₁=>wpAny (model prog w) A (getAttr o f true) Q E s₁) E s):wpAny (model prog w) A (eval (.Attribute e f pos) env) Q E s :=
 Attribute_any_ h (by rw [arm_eval_Attribute,hb])
end
noncomputable def Zi(K:PySem.W.Frag)(f:Str)(Q:VK)(x:V)(H1:Hp)(a C dx:Addr)(fs:List (Str × V))(v:V):Prop:=x=.ref a/\H1 a=some (.ins C dx fs)/\jQ K C/\dw K C f/\fs.lookup f=some v/\Q v H1
noncomputable def YG(K:PySem.W.Frag)(f:Str)(Q:VK):VK:=fun x H1=>Exists (E5 (Zi K f Q x H1))
noncomputable def QL(K:PySem.W.Frag)(ta:TE)(f:Str):TE:=fun σ H Q=>ta σ H (YG K f Q)
noncomputable def ZJ(K:PySem.W.Frag)(ta tv:TE)(f:Str):TS:=fun D σ H=>tv σ H fun y H1=>ta σ H1 fun x H2=>∃ a C dx fs,x=.ref a/\H2 a=some (.ins C dx fs)/\jQ K C/\dw K C f/\fs.length<1000 /\
 D.nx σ (bQ H2 a (.ins C dx (eU f y fs)))
noncomputable def Wq(X:Cx)(op:Operator)(rd:V->V->Hp->VK->Prop):Prop :=
 ∀ (pins:List (Addr × Obj)) (s:Shared) (σ:St) (H:Hp) (x y:V) (u v:Value) (Q:VK),bj X pins σ H s->cQ x u->cQ y v->rd x y H Q->wpAny (model X.prog X.w) X.A (inplaceOp op u v) (EP X pins σ Q) X.xe s
noncomputable def SX(K:PySem.W.Frag)(ta tv:TE)(rd:V->V->Hp->VK->Prop)(f:Str):TS:=fun D σ H=>ta σ H fun x H1=>∃ a C dx fs v,x=.ref a/\H1 a=some (.ins C dx fs)/\jQ K C/\dw K C f/\fs.lookup f=some v /\
 tv σ H1 fun y H2=>rd v y H2 fun z H3=>∃ dx' fs',H3 a=some (.ins C dx' fs')/\fs'.length<1000/\D.nx σ (bQ H3 a (.ins C dx' (eU f z fs')))
section
variable{X:Cx}{o e value:Expr}{f:Str}{pos pos' tpos:Pos}{ta tv:TE}
theorem aY(he:PE X e ta)(hb:attributeBase e f X.env (eval e X.env)=eval e X.env):PE X (.Attribute e f pos) (QL X.K ta f):=by
 intro pins s σ H Q I h
 refine J4 hb (dg (he pins s σ H _ I h) fun u s1 ⟨x,H1,I1,rx,a,C,dx,fs,v,ex,ea,c,n,l,q⟩=>?_)
 subst ex
 obtain rfl:u=Value.ref a:=rx
 exact ym I1 ea c n l fun u' s2 I2 ru=>⟨v,H1,I2,ru,q⟩
theorem b7(ha:PE X o ta)(hv:PE X value tv)(hs:swapsWith value (some (.Attribute o f pos')) pos.line X.env=pure false):PS X (.Assign [.Attribute o f pos'] value pos) (ZJ X.K ta tv f):=by
 intro pins s σ H D I h
 refine plainObj_wpAny_Assign_Attribute (dg (hv pins s σ H _ I h) fun u s1 ⟨y,H1,I1,ry,q⟩=>dg (ha pins s1 σ H1 _ I1 q) fun ov s2 ⟨x,H2,I2,rx,a,C,dx,fs,ex,ea,c,n,l,q2⟩=>?_) hs
 subst ex
 obtain rfl:ov=Value.ref a:=rx
 exact xE I2 ea c n l ry fun s3 I3=>⟨σ,_,I3,q2⟩
theorem oG(ha:PE X o ta)(hv:PE X value tv)(hop:Wq X op rd):PS X (.AugAssign (.Attribute o f tpos) op value pos) (SX X.K ta tv rd f):=by
 intro pins s σ H D I h
 refine wpAny_AugAssign_AttributeAny (dg (ha pins s σ H _ I h) fun ov s1 ⟨x,H1,I1,rx,a,C,dx,fs,v,ex,ea,c,n,l,q⟩=>?_)
 subst ex
 obtain rfl:ov=Value.ref a:=rx
 refine ym I1 ea c n l fun u s2 I2 ru=>dg (hv pins s2 σ H1 _ I2 q) fun w3 s3 ⟨y,H2,I3,ry,q3⟩=>dg (hop pins s3 σ H2 v y u w3 _ I3 ru ry q3) fun w4 s4 ⟨z,H3,I4,rz,dx',fs',ea',l',q4⟩=>?_
 exact xE I4 ea' c n l' rz fun s5 I5=>⟨σ,_,I5,q4⟩
noncomputable def Yz:V->V->Hp->VK->Prop:=fun x y H Q=>∃ i j,x=.int i/\y=.int j/\Q (.int (i+j)) H
noncomputable def Zm:V->V->Hp->VK->Prop:=fun x y H Q=>∃ i j,x=.int i/\y=.int j/\Q (.int (i - j)) H
theorem JF:Wq X .Add Yz:=by
 rintro pins s σ H x y u v Q I rx ry ⟨i,j,rfl,rfl,q⟩
 obtain ⟨t,rfl⟩:=(show ∃ t,u=Value.int i t from rx)
 obtain ⟨t',rfl⟩:=(show ∃ t',v=Value.int j t' from ry)
 exact PyProof.Rows.iadd_int ⟨.int (i+j),H,I.tok _,⟨_,rfl⟩,q⟩
theorem Qz:Wq X .Sub Zm:=by
 rintro pins s σ H x y u v Q I rx ry ⟨i,j,rfl,rfl,q⟩
 obtain ⟨t,rfl⟩:=(show ∃ t,u=Value.int i t from rx)
 obtain ⟨t',rfl⟩:=(show ∃ t',v=Value.int j t' from ry)
 exact PyProof.Rows.isub_int ⟨.int (i - j),H,I.tok _,⟨_,rfl⟩,q⟩
theorem Ug(he:PE X e te)(I:bj X pins σ H s)
  (h:te σ H fun x H1=>∃ a C dx fs g,x=.ref a/\H1 a=some (.ins C dx fs)/\jQ X.K C/\wV X.K C m g/\fs.lookup m=none /\
   ∀ s1,bj X pins σ H1 s1->wpAny (model X.prog X.w) X.A (callWith pos (.ref g) [.ref a] (backTo pos (starEach args X.env)) (backToKw pos (keywordEach [] X.env))) Q X.xe s1)
  (ht:eval (.Call (.Attribute e m apos) args [] pos) X.env=(do
   let ov <- eval e X.env
   standAt apos.atName
   let (f,first) <- holding [ov] (getMethod ov m pl)
   callWith pos f first (backTo pos (starEach args X.env)) (backToKw pos (keywordEach [] X.env)))) :
  wpAny (model X.prog X.w) X.A (eval (.Call (.Attribute e m apos) args [] pos) X.env) Q X.xe s:=by
 refine PySem.W.methodCall_KW (pl:=pl) (dg (he pins s σ H _ I h) fun u s1 ⟨x,H1,I1,rx,a,C,dx,fs,g,ex,ea,c,k,l,q⟩=>?_) ht
 subst ex
 obtain rfl:u=Value.ref a:=rx
 exact uh I1 ea c k l (q s1 I1)
end
section
variable{X:Cx}{pins:List (Addr × Obj)}{σ:St}{H:Hp}{s:Shared}{A:Around}{E:Value->Shared->Prop}{Q:Value->Shared->Prop}{c:Value}{b:Bool}
inductive vm(K:PySem.W.Frag)(H:Hp):V->Value->Prop where
 | non:vm K H .non (.type "NoneType")
 | bl (x:Bool):vm K H (.bl x) (.type "bool")
 | int (i:Int):vm K H (.int i) (.type "int")
 | str (x:Str):vm K H (.str x) (.type "str")
 | flt (x:UInt64):vm K H (.flt x) (.type "float")
 | lst {a:Addr} {xs:List V} (e:H a=some (.lst xs)):vm K H (.ref a) (.type "list")
 | frz {a:Addr} {o:Obj} {xs:List V} (e:H a=some (.frz o (.lst xs))):vm K H (.ref a) (.type "list")
 | tup {a:Addr} {xs:List V} (e:H a=some (.tup xs)):vm K H (.ref a) (.type "tuple")
 | dK {a:Addr} {kvs:List (gf × V)} (e:H a=some (.dK kvs)):vm K H (.ref a) (.type "dict")
 | dT {a:Addr} {kvs:List (List gf × V)} (e:H a=some (.dT kvs)):vm K H (.ref a) (.type "dict")
 | ins {a C dx:Addr} {fs:List (Str × V)} (e:H a=some (.ins C dx fs)) (cl:jQ K C) (ha:PySem.W.findIn K (.ref C) "__class__"=some (some (.builtin "object.__class__")))
   (hn:PySem.W.specialIn K (.builtin "object.__class__") "__get__"=some (some (.builtin "getset_descriptor.__get__"))) (htk:PySem.W.takesIn K (.builtin "object.__class__")=some true)
   (hm:PySem.W.mroIn K C (.type "object")=some true):vm K H (.ref a) (.ref C)
theorem Nv(I:bj X pins σ H s)(rx:cQ x u)(ty:vm X.K H x t)(e:PySem.W.kitOne X.K t c=some b)(h:∀ tk,Q (.bool b) { s with toks:=tk }) :
  wpAny (model X.prog X.w) A (call (.builtin "isinstance") [u,c]) Q E s:=by
 cases ty with
 | non=>cases (show u=Value.none from rx);exact PySem.W.kia_one PySem.W.kitx_none I.kIn True.intro e (fun z=>nomatch z) h
 | bl y=>cases (show u=Value.bool y from rx);exact PySem.W.kia_one PySem.W.kitx_bool I.kIn True.intro e (fun z=>nomatch z) h
 | int i=>obtain ⟨t,q⟩:=(show ∃ t,u=Value.int i t from rx);cases q;exact PySem.W.kia_one PySem.W.kitx_int I.kIn True.intro e (fun z=>nomatch z) h
 | str y=>obtain ⟨t,q⟩:=(show ∃ t,u=Value.str y t from rx);cases q;exact PySem.W.kia_one PySem.W.kitx_str I.kIn True.intro e (fun z=>nomatch z) h
 | flt y=>obtain ⟨t,q⟩:=(show ∃ t,u=Value.float y t from rx);cases q;exact PySem.W.kia_one PySem.W.kitx_float I.kIn True.intro e (fun z=>nomatch z) h
 | @lst a xs ea =>
  cases (show u=Value.ref a from rx)
  obtain ⟨_,_,n,_,h1⟩:=(show dW X.prog X.w H s.heap a (.lst xs) from I.hok a _ ea)
  exact PySem.W.kia_one PySem.W.kitx_list I.kIn ⟨_,h1,rfl⟩ e (fun z=>nomatch z) h
 | @frz a ob xs ea =>
  cases (show u=Value.ref a from rx)
  obtain ⟨_,_,_,n,_,h1⟩:=(show dW X.prog X.w H s.heap a (.frz ob (.lst xs)) from I.hok a _ ea)
  exact PySem.W.kia_one PySem.W.kitx_list I.kIn ⟨_,h1,rfl⟩ e (fun z=>nomatch z) h
 | @tup a xs ea =>
  cases (show u=Value.ref a from rx)
  obtain ⟨_,_,_,p⟩:=(show dW X.prog X.w H s.heap a (.tup xs) from I.hok a _ ea)
  obtain ⟨o,h1,h2,_⟩:=p
  exact PySem.W.kia_one PySem.W.kitx_tuple I.kIn ⟨o,h1,h2⟩ e (fun z=>nomatch z) h
 | @dK a kvs ea =>
  cases (show u=Value.ref a from rx)
  obtain ⟨_,_,vs,_,p⟩:=(show dW X.prog X.w H s.heap a (.dK kvs) from I.hok a _ ea)
  obtain ⟨o,es,ep,h1,h2,_⟩:=p
  exact PySem.W.kia_one PySem.W.kitx_dict I.kIn ⟨o,h1,h2.1⟩ e (fun z=>nomatch z) h
 | @dT a kvs ea =>
  cases (show u=Value.ref a from rx)
  obtain ⟨_,_,xs,_,o,es,ep,h1,h2,_⟩:=(show dW X.prog X.w H s.heap a (.dT kvs) from I.hok a _ ea)
  exact PySem.W.kia_one PySem.W.kitx_dict I.kIn ⟨o,h1,h2.1⟩ e (fun z=>nomatch z) h
 | @ins a C dx fs ea cl ha hn htk hm =>
  cases (show u=Value.ref a from rx)
  obtain ⟨mA,O,_⟩:=uO I.hok ea
  obtain ⟨od,J,_⟩:=O.look
  exact PySem.W.kia_one (PySem.W.kitx_own (cl.get _) cl.hd ha hn htk hm) I.kIn J e (fun z=>nomatch z) h
end
structure cO(k:Nat)(A:Around):Prop where
 hd:A.handled=none
 dp:A.depth+3 * k+5<recursionLimit
 un:A.units+16 * k+200<cLine
theorem cO.mono(r:cO k A)(h:j<=k):cO j A:=⟨r.hd,by have:=r.dp;omega,by have:=r.un;omega⟩
theorem cO.deeper(r:cO (k+1) A)(env:Env):cO k (A.deeper env) :=
 ⟨r.hd,by have:=r.dp;show A.depth+1+3 * k+5<_;omega,by have:=r.un;show A.units+3+16 * k+200<_;omega⟩
theorem cO.in1(r:cO (k+1) A):cO k A.in1 :=
 ⟨r.hd,by have:=r.dp;show A.depth+3 * k+5<_;omega,by have:=r.un;show A.units+1+16 * k+200<_;omega⟩
theorem IV{A:Around}{C:Addr}{us:List Value}{kw:List (Str × Value)}:(A.under (.builtin "type.__call__" ⟨.ref C::us,kw⟩)).depth=A.depth+1:=by
 first | rfl | simp [Around.under,Code.weight,Code.isCreation,Code.isGuard,Code.isCaller,Code.frames,Code.isFrame,guardIds]
theorem Iw{A:Around}{C:Addr}{us:List Value}{kw:List (Str × Value)}:(A.under (.builtin "type.__call__" ⟨.ref C::us,kw⟩)).units=A.units+1:=by
 first | rfl | simp [Around.under,Code.cUnits,Code.frames,Code.isFrame]
theorem cO.make(r:cO (k+1) A)(C:Addr)(us:List Value)(kw:List (Str × Value)):cO k (A.under (.builtin "type.__call__" ⟨.ref C::us,kw⟩)) :=
 ⟨r.hd,by have:=r.dp;rw [IV];omega,by have:=r.un;rw [Iw];omega⟩
theorem cO.depth(r:cO k A):A.depth<recursionLimit:=by have:=r.dp;omega
theorem cO.units(r:cO k A):A.units+64<cLine:=by have:=r.un;omega
noncomputable def cW:TA:=fun _ H Q=>Q [] H
noncomputable def jL(x:V)(Q:List V->Hp->Prop):List V->Hp->Prop:=fun xs H2=>Q (x::xs) H2
noncomputable def qg(tr:TA)(σ:St)(Q:List V->Hp->Prop):VK:=fun x H1=>tr σ H1 (jL x Q)
noncomputable def aW(ta:TE)(tr:TA):TA:=fun σ H Q=>ta σ H (qg tr σ Q)
section
variable{X:Cx}{e:Expr}{es:List Expr}{te:TE}{t:TA}{pos:Pos}
theorem ao:PA X [] cW:=fun _ _ _ _ H Q I h=>Calls.spliced_nil ⟨[],H,I,.nil,h⟩
theorem aa(ha:PE X e te)(hr:PA X es t)(hs:starEach (e::es) X.env=(false,eval e X.env)::starEach es X.env:=by rfl):PA X (e::es) (aW te t):=by
 intro pos pins s σ H Q I h
 rw [hs]
 show wpAny _ _ (spliced ((false,eval e X.env)::backTo pos (starEach es X.env))) _ _ s
 refine Calls.spliced_cons (dg (ha pins s σ H _ I h) fun u s1 ⟨x,H1,I1,r1,q1⟩=>?_)
 exact dg (hr pos pins s1 σ H1 _ I1 q1) fun us s2 ⟨xs,H2,I2,r2,q2⟩=>⟨x::xs,H2,I2,.cons r1 r2,q2⟩
noncomputable def Wj(Q:VK)(H1:Hp)(o:HO)(p:Addr):Prop:=H1 p=none->Q (.ref p) (bQ H1 p o)
noncomputable def Zq(Q:VK):List V->Hp->Prop:=fun xs H1=>xs.length<=sizeLine/\W8 (Wj Q H1 (.tup xs))
noncomputable def vA(t:TA):TE:=fun σ H Q=>t σ H (Zq Q)
noncomputable def Zb(Q:VK):List V->Hp->Prop:=fun xs H1=>xs.length<=sizeLine/\W8 (Wj Q H1 (.lst xs))
noncomputable def Rf(t:TA):TE:=fun σ H Q=>t σ H (Zb Q)
theorem b8{x1}(h:PA X es t):PE X (.Tuple es x1 pos) (vA t):=by
 intro pins s σ H Q I hq
 refine wpAny_Tuple_spliced (dg (h pos pins s σ H _ I hq) fun us s1 ⟨xs,H1,I1,r,z,q⟩=>⟨by rw [<- r.length];exact z,?_⟩)
 have hf:H1 s1.heap.objs.size=none:=I1.hok.fresh (Nat.le_refl _)
 refine ⟨.ref s1.heap.objs.size,bQ H1 s1.heap.objs.size (.tup xs),I1.laid (t':=s1.toks) (fun b u e=>Heap.get?_push_of_some _ e) (Nat.le_refl _) ?_,rfl,q _ hf⟩
 exact ⟨z,us,r,⟨_,Heap.get?_push_size _ rfl,rfl,_,rfl⟩⟩
theorem eO(h:PA X es t):PE X (.List es pos) (Rf t):=by
 intro pins s σ H Q I hq
 refine wpAny_List_spliced (dg (h pos pins s σ H _ I hq) fun us s1 ⟨xs,H1,I1,r,z,q⟩=>⟨by rw [<- r.length];exact z,?_⟩)
 have hf:H1 s1.heap.objs.size=none:=I1.hok.fresh (Nat.le_refl _)
 refine ⟨.ref s1.heap.objs.size,bQ H1 s1.heap.objs.size (.lst xs),I1.laid (t':=s1.toks) (fun b u e=>Heap.get?_push_of_some _ e) (Nat.le_refl _) ?_,rfl,q _ hf⟩
 exact ⟨z,us,0,r,Heap.get?_push_size _ rfl⟩
end
noncomputable abbrev Sp:=List V->Hp->VK->XK->Prop
noncomputable abbrev zJ:=List Env->Hp->Shared->XK->Value->Shared->Prop
structure Fj(P:Program)(w:World)(K:PySem.W.Frag)(mg:Str->Option Value)(base:Heap)(A:Around)(outer:List Env)(s:Shared)(H:Hp):Prop where
 frames:A.frames=some outer
 mod:Mod K mg base
 bs:∀ b o,base.get? b=some o->s.heap.get? b=some o/\H b=none
 bsz:base.objs.size<=s.heap.objs.size
 funs:s.heap.FunFrames base outer
 frf:∀ b∈qz outer,H b=none
 hok:qw P w H s.heap
 bare:AllBare s.gens
noncomputable def CE(outer:List Env)(P:Program)(w:World)(H:Hp)(s:Shared)(Q:VK)(u:Value)(s':Shared):Prop :=
 ∃ v H',s'.os=s.os/\AllBare s'.gens/\Un (qz outer) [] H H' s.heap s'.heap/\qw P w H' s'.heap/\cQ v u/\Q v H'
noncomputable def CR(CX:zJ)(outer:List Env)(P:Program)(w:World)(H:Hp)(s:Shared)(Q:VK)(E:XK)(r:Result)(s':Shared):Prop :=
 match r with
 | .ok (.ret u)=>CE outer P w H s Q u s'
 | .ok _=>False
 | .error e=>CX outer H s E e s'
structure bf(P:Program)(w:World)(K:PySem.W.Frag)(mg:Str->Option Value)(base:Heap)(CX:zJ)(k:Nat)(f:Addr)(fd:FuncData)(ps:List Str)(sp:Sp):Prop where
 len:∀ vs H Q E,sp vs H Q E->vs.length=ps.length
 run:∀ (A:Around) (outer:List Env) (s:Shared) (H:Hp) (args:Args) (us:List Value) (vs:List V) (Q:VK) (E:XK),cO k A->Fj P w K mg base A outer s H->BindsTo s fd args (ps.zip us)->cI vs us->sp vs H Q E ->
  codeAny (model P w) A (.call (.ref f) args) (CR CX outer P w H s Q E) s
theorem bf.mono{P:Program}{w:World}{K:PySem.W.Frag}{mg:Str->Option Value}{base:Heap}{CX:zJ}{j k:Nat}{f:Addr}{fd:FuncData}{ps:List Str}{sp:Sp}(F:bf P w K mg base CX j f fd ps sp)(h:j<=k) :
  bf P w K mg base CX k f fd ps sp:=⟨F.len,fun A outer s H args us vs Q E hr=>F.run A outer s H args us vs Q E (hr.mono h)⟩
theorem bf.imp{P:Program}{w:World}{K:PySem.W.Frag}{mg:Str->Option Value}{base:Heap}{CX:zJ}{k:Nat}{f:Addr}{fd:FuncData}{ps:List Str}{sp sp':Sp}(F:bf P w K mg base CX k f fd ps sp)
  (h:∀ vs H Q E,sp' vs H Q E->sp vs H Q E):bf P w K mg base CX k f fd ps sp' :=
 ⟨fun vs H Q E q=>F.len vs H Q E (h _ _ _ _ q),fun A outer s H args us vs Q E hr he hb hv hs=>F.run A outer s H args us vs Q E hr he hb hv (h _ _ _ _ hs)⟩
theorem Fj.make{P:Program}{w:World}{K:PySem.W.Frag}{mg:Str->Option Value}{base:Heap}{A:Around}{outer:List Env}{s:Shared}{H:Hp}(e:Fj P w K mg base A outer s H)(C:Addr)(us:List Value)(kw:List (Str × Value)) :
  Fj P w K mg base (A.under (.builtin "type.__call__" ⟨.ref C::us,kw⟩)) outer s H:=⟨by first | exact e.frames | (simpa [Around.under,Code.envs,Code.isFrame,pushEnvs] using e.frames),e.mod,e.bs,e.bsz,e.funs,e.frf,e.hok,e.bare⟩
section
variable{X:Cx}{pins:List (Addr × Obj)}{σ:St}{H:Hp}{s s':Shared}
theorem bj.env0(I:bj X pins σ H s):Fj X.prog X.w X.K X.mg X.base X.A X.stack s H :=
 ⟨I.ok.frames,I.ok.mod,I.bs,Nat.le_trans I.ok.bsz I.sz,I.stack,I.stkFree,I.hok,I.bare⟩
theorem bj.after(I:bj X pins σ H s)(h:CE X.stack X.prog X.w H s Q u s'):EP X pins σ Q u s':=by
 obtain ⟨v,H',os,bare,un,hok,r,q⟩:=h
 obtain ⟨hh,g,d,t,os'⟩:=s'
 obtain rfl:os'=s.os:=os
 exact ⟨v,H',I.call (h':=hh) (g':=g) (d':=d) (t':=t) (ch:=[]) un hok bare (fun b z=>absurd z (by simp)),r,q⟩
end
noncomputable def qm(sp:Sp)(dvs:List V)(E:St->XK)(σ:St)(Q:VK):List V->Hp->Prop:=fun vs H1=>sp (vs++dvs) H1 Q (E σ)
noncomputable def gD(sp:Sp)(dvs:List V)(E:St->XK)(t:TA):TE:=fun σ H Q=>t σ H (qm sp dvs E σ Q)
noncomputable def Vt(sp:Sp)(dvs:List V)(E:St->XK)(σ:St)(Q:VK)(x:V):List V->Hp->Prop:=fun vs H2=>sp (x::(vs++dvs)) H2 Q (E σ)
noncomputable def XR(C:Addr)(m:Str)(sp:Sp)(dvs:List V)(E:St->XK)(t:TA)(σ:St)(Q:VK)(x:V)(H1:Hp)(a dx:Addr)(fs:List (Str × V)):Prop:=x=.ref a/\H1 a=some (.ins C dx fs)/\fs.lookup m=none/\t σ H1 (Vt sp dvs E σ Q x)
noncomputable def XD(C:Addr)(m:Str)(sp:Sp)(dvs:List V)(E:St->XK)(t:TA)(σ:St)(Q:VK):VK:=fun x H1=>Exists (E3 (XR C m sp dvs E t σ Q x H1))
noncomputable def qR(C:Addr)(m:Str)(sp:Sp)(dvs:List V)(E:St->XK)(ta:TE)(t:TA):TE:=fun σ H Q=>ta σ H (XD C m sp dvs E t σ Q)
noncomputable def kMk(Q:VK)(x:Addr):VK:=fun v H2=>v=.non/\Q (.ref x) H2
noncomputable def Xr(C:Addr)(sp:Sp)(dvs:List V)(E:St->XK)(σ:St)(Q:VK)(vs:List V)(H1:Hp)(x dx:Addr):Prop:=H1 x=none->H1 dx=none->dx≠x->sp (.ref x::(vs++dvs)) (bQ (bQ H1 dx (.own x)) x (.ins C dx [])) (kMk Q x) (E σ)
noncomputable def W4(C:Addr)(sp:Sp)(dvs:List V)(E:St->XK)(σ:St)(Q:VK):List V->Hp->Prop:=fun vs H1=>Al2 (Xr C sp dvs E σ Q vs H1)
noncomputable def T6(C:Addr)(sp:Sp)(dvs:List V)(E:St->XK)(t:TA):TE:=fun σ H Q=>t σ H (W4 C sp dvs E σ Q)
noncomputable def dR(K:PySem.W.Frag)(fd:FuncData)(ps:List Str)(ds:List Value):Prop :=
 ∀ (s:Shared) (us:List Value),K.In s.heap->(us++ds).length=ps.length->BindsTo s fd ⟨us,[]⟩ (ps.zip (us++ds))
theorem dR.all{K:PySem.W.Frag}{fd:FuncData}{ps:List Str}(h:∀ us:List Value,us.length=ps.length->bindArgs fd ⟨us,[]⟩=pure (ps.zip us)):dR K fd ps []:=fun s us _ hl=>by
 rw [List.append_nil] at hl ⊢
 exact .of_eq (h us hl)
noncomputable def kZ(CX:zJ)(X:Cx)(E:St->XK):Prop:=∀ (pins:List (Addr × Obj)) (σ:St) (H:Hp) (s:Shared) (e:Value) (s':Shared),bj X pins σ H s->CX X.stack H s (E σ) e s'->X.xe e s'
section
variable{X:Cx}{CX:zJ}{k:Nat}{f C:Addr}{fd:FuncData}{ps:List Str}{sp:Sp}{dvs:List V}{ds:List Value}{E:St->XK}{x m:Str}{p pos apos:Pos}{e o:Expr}{es:List Expr}{ta:TE}{t:TA}
theorem zj(F:bf X.prog X.w X.K X.mg X.base CX k f fd ps sp)(hr:cO k X.A)(hb:dR X.K fd ps ds)(hd:cI dvs ds)(hx:kZ CX X E)
  (I:bj X pins σ H s) (r:cI vs us) (h:sp (vs++dvs) H Q (E σ)):wpAny (model X.prog X.w) X.A (call (.ref f) us) (EP X pins σ Q) X.xe s:=by
 have r2:cI (vs++dvs) (us++ds):=r.append hd
 have hl:(us++ds).length=ps.length:=by rw [<- r2.length];exact F.len _ _ _ _ h
 refine wpAny_call (codeAny_mono (F.run X.A X.stack s H ⟨us,[]⟩ (us++ds) (vs++dvs) Q (E σ) hr I.env0 (hb s us I.kIn hl) r2 h) fun r s' hq=>?_)
 cases r with
 | error e=>exact hx pins σ H s e s' I hq
 | ok fl =>
  cases fl with
  | ret u=>exact I.after hq
  | next=>exact False.elim hq
  | brk=>exact False.elim hq
  | cont=>exact False.elim hq
theorem aJ(F:bf X.prog X.w X.K X.mg X.base CX k f fd ps sp)(hr:cO k X.A)(hg:Gl X x)(hm:X.mg x=some (.ref f))(hk:PySem.W.keepIn X.K (.ref f)=true)(hb:dR X.K fd ps ds)(hd:cI dvs ds)(hx:kZ CX X E)
  (ha:PA X (e::es) t) (hdb:(x == ("__debug__":Str))=false:=by decide) (he:starEach (e::es) X.env=(false,eval e X.env)::starEach es X.env:=by rfl) (hpl:(backTo pos (starEach es X.env)).any (·.1)=false:=by rfl) :
  PE X (.Call (.Name x p) (e::es) [] pos) (gD sp dvs E t):=by
 intro pins s σ H Q I h
 refine wpAny_Call_Name_kw (sI I hg hm ?_ hdb)
 refine PySem.W.callWith_K (h₀:=X.base) I.ok.mod.kin hk (dg (ha pos pins s σ H _ I h) fun us s1 ⟨vs,H1,I1,r,q⟩=>⟨I1.kIn,?_⟩) he hpl
 exact zj F hr hb hd hx I1 r q
theorem cG(he:PE X o ta)(c:jQ X.K C)(hm:wV X.K C m f)(F:bf X.prog X.w X.K X.mg X.base CX k f fd ps sp)(hr:cO k X.A)(hb:dR X.K fd ps ds)(hd:cI dvs ds)(hx:kZ CX X E)(ha:PA X (e::es) t)
  (hst:starEach (e::es) X.env=(false,eval e X.env)::starEach es X.env:=by rfl) (hpl:(backTo pos (starEach es X.env)).any (·.1)=false:=by rfl)
  (ht:eval (.Call (.Attribute o m apos) (e::es) [] pos) X.env=(do
   let ov <- eval o X.env
   standAt apos.atName
   let (f,first) <- holding [ov] (getMethod ov m pl)
   callWith pos f first (backTo pos (starEach (e::es) X.env)) (backToKw pos (keywordEach [] X.env))):=by rfl) :
  PE X (.Call (.Attribute o m apos) (e::es) [] pos) (qR C m sp dvs E ta t):=by
 intro pins s σ H Q I h
 refine PySem.W.methodCall_KW (pl:=pl) (dg (he pins s σ H _ I h) fun u s1 ⟨x,H1,I1,rx,a,dx,fs,ex,ea,l,q⟩=>?_) ht
 subst ex
 obtain rfl:u=Value.ref a:=rx
 refine uh I1 ea c hm l ?_
 refine PySem.W.callWith_K (first:=[.ref a]) (h₀:=X.base) I.ok.mod.kin hm.kp (dg (ha pos pins s1 σ H1 _ I1 q) fun us s2 ⟨vs,H2,I2,r,q2⟩=>⟨I2.kIn,?_⟩) hst hpl
 exact zj (us:=.ref a::us) (vs:=.ref a::vs) F hr hb hd hx I2 (.cons rfl r) q2
theorem dC(he:PE X o ta)(c:jQ X.K C)(hm:wV X.K C m f)(F:bf X.prog X.w X.K X.mg X.base CX k f fd ps sp)(hr:cO k X.A)(hb:dR X.K fd ps ds)(hd:cI dvs ds)(hx:kZ CX X E)
  (ht:eval (.Call (.Attribute o m apos) [] [] pos) X.env=(do
   let ov <- eval o X.env
   standAt apos.atName
   let (f,first) <- holding [ov] (getMethod ov m pl)
   callWith pos f first (backTo pos (starEach [] X.env)) (backToKw pos (keywordEach [] X.env))):=by rfl) :
  PE X (.Call (.Attribute o m apos) [] [] pos) (qR C m sp dvs E ta cW):=by
 intro pins s σ H Q I h
 refine PySem.W.methodCall_KW (pl:=pl) (dg (he pins s σ H _ I h) fun u s1 ⟨x,H1,I1,rx,a,dx,fs,ex,ea,l,q⟩=>?_) ht
 subst ex
 obtain rfl:u=Value.ref a:=rx
 refine uh I1 ea c hm l ?_
 exact PySem.W.callWith_K0 (first:=[.ref a]) I1.kIn hm.kp (zj (us:=[.ref a]) (vs:=[.ref a]) F hr hb hd hx I1 (.cons rfl .nil) q)
structure Mk(K:PySem.W.Frag)(C f:Addr):Prop where
 makes:PySem.W.makesIn K C=true
 init:PySem.W.findIn K (.ref C) "__init__"=some (some (.ref f))
 fn:PySem.W.isFn K (.ref f)=true
 kp:PySem.W.keepIn K (.ref C)=true
theorem Qd(M:Mk X.K C f)(F:bf X.prog X.w X.K X.mg X.base CX k f fd ps sp)(hr:cO (k+1) X.A)(hb:dR X.K fd ps ds)(hd:cI dvs ds)
  (hx:kZ CX X E) (I:bj X pins σ H s) (r:cI vs us)
  (h:∀ x dx,H x=none->H dx=none->dx≠x->sp (.ref x::(vs++dvs)) (bQ (bQ H dx (.own x)) x (.ins C dx [])) (fun v H2=>v=.non/\Q (.ref x) H2) (E σ)) :
  wpAny (model X.prog X.w) X.A (call (.ref C) us) (EP X pins σ Q) X.xe s:=by
 have hq:=h (s.heap.objs.size+1) s.heap.objs.size (I.hok.fresh (Nat.le_succ _)) (I.hok.fresh (Nat.le_refl _)) (Nat.ne_of_lt (Nat.lt_succ_self _))
 have I2:=bj.made (C:=C) I
 have r2:cI (V.ref (s.heap.objs.size+1)::(vs++dvs)) (Value.ref (s.heap.objs.size+1)::(us++ds)):=.cons rfl (r.append hd)
 have hl:(Value.ref (s.heap.objs.size+1)::us++ds).length=ps.length:=by
  have e:=r2.length
  rw [F.len _ _ _ _ hq] at e
  exact e.symm
 refine wpAny_call (Fz (f:=f) I.kIn M.makes M.init (beq_iff_eq.mp M.fn) (codeAny_mono (F.run _ X.stack _ _ ⟨Value.ref (s.heap.objs.size+1)::us,[]⟩ (Value.ref (s.heap.objs.size+1)::(us++ds)) _ _ (E σ) (hr.make C us [])
  (I2.env0.make C us []) (hb _ (Value.ref (s.heap.objs.size+1)::us) I2.kIn hl) r2 hq) fun r s' hq'=>?_))
 cases r with
 | error e=>exact hx pins σ _ _ e s' I2 hq'
 | ok fl =>
  cases fl with
  | ret u =>
   obtain ⟨v,H',I3,rv,ev,q3⟩:=I2.after hq'
   subst ev
   exact ⟨rv,⟨V.ref (s.heap.objs.size+1),H',I3,rfl,q3⟩⟩
  | next=>exact False.elim hq'
  | brk=>exact False.elim hq'
  | cont=>exact False.elim hq'
theorem eY(M:Mk X.K C f)(F:bf X.prog X.w X.K X.mg X.base CX k f fd ps sp)(hr:cO (k+1) X.A)(hg:Gl X x)(hm:X.mg x=some (.ref C))(hb:dR X.K fd ps ds)(hd:cI dvs ds)(hx:kZ CX X E)
  (ha:PA X (e::es) t) (hdb:(x == ("__debug__":Str))=false:=by decide) (he:starEach (e::es) X.env=(false,eval e X.env)::starEach es X.env:=by rfl) (hpl:(backTo pos (starEach es X.env)).any (·.1)=false:=by rfl) :
  PE X (.Call (.Name x p) (e::es) [] pos) (T6 C sp dvs E t):=by
 intro pins s σ H Q I h
 refine wpAny_Call_Name_kw (sI I hg hm ?_ hdb)
 refine PySem.W.callWith_K (h₀:=X.base) I.ok.mod.kin M.kp (dg (ha pos pins s σ H _ I h) fun us s1 ⟨vs,H1,I1,r,q⟩=>⟨I1.kIn,?_⟩) he hpl
 exact Qd M F hr hb hd hx I1 r q
end
section
variable{X:Cx}{CX:zJ}{k:Nat}{f C:Addr}{fd:FuncData}{ps ks:List Str}{sp:Sp}{E:St->XK}{x m:Str}{p pos apos kpos:Pos}{e o:Expr}{es:List Expr}{kws:List Keyword}{te ta:TE}{t tk:TA}{nm:Option Str}
variable{g:List Value->List Value->List Value}{gV:List V->List V->List V}
end
structure aG(N P:List Str)(sc:Scope):Prop where
 kind:sc.kind=.function
 co:sc.isCoroutine=false
 gen:sc.isGenerator=false
 nd:N.Nodup
 pre:N.take P.length=P
 par:∀ x∈P,sc.names.lookup x=some .local\/sc.names.lookup x=some .cell
 nofree:∀ y∈sc.names,y.2≠.free
theorem d9(h:sc.kind=.function:=by rfl)(a:sc.isCoroutine=false:=by rfl)(b:sc.isGenerator=false:=by rfl)(c:N.Nodup:=by decide +kernel)(d:N.take P.length=P:=by rfl)(e:∀ x∈P,sc.names.lookup x=some .local\/sc.names.lookup x=some .cell:=by decide +kernel)(f:∀ y∈sc.names,y.2≠.free:=by decide +kernel):aG N P sc:=⟨h,a,b,c,d,e,f⟩
theorem BW{kindOf:Str->Option NameKind}{x:Str}:∀ {binds:List (Str × Value)} {m:Str->Option Value},(∀ v,(x,v)∉binds)->bindL kindOf binds m x=m x
 | [],_,_=>rfl
 | (n,v)::r,m,h=>by
  unfold bindL
  rw [BW fun w hw=>h w (List.mem_cons_of_mem _ hw)]
  split
  .have:x≠n:=by rintro rfl;exact h v List.mem_cons_self
   simp [this]
  .rfl
theorem Bb{kindOf:Str->Option NameKind}{x:Str}:∀ {binds:List (Str × Value)} {m:Str->Option Value},(∀ v,(x,v)∉binds)->bindC kindOf binds m x=m x
 | [],_,_=>rfl
 | (n,v)::r,m,h=>by
  unfold bindC
  rw [Bb fun w hw=>h w (List.mem_cons_of_mem _ hw)]
  split
  .rfl
  .have:x≠n:=by rintro rfl;exact h v List.mem_cons_self
   simp [this]
theorem Bc{kindOf:Str->Option NameKind}{x:Str}{v:Value}:∀ {P:List Str} {vs:List Value} {i:Nat} {m:Str->Option Value},P.Nodup->P[i]?=some x->vs[i]?=some v->kindOf x=some .local ->
  bindL kindOf (P.zip vs) m x=some v
 | [],_,_,_,_,h,_,_=>by simp at h
 | _::_,[],_,_,_,_,h,_=>by simp at h
 | p::P,w::vs,0,m,nd,h1,h2,hk=>by
  simp at h1 h2;subst h1;subst h2
  show bindL kindOf ((p,w)::P.zip vs) m p=_
  unfold bindL
  rw [BW fun v hv=>(List.nodup_cons.mp nd).1 (List.of_mem_zip hv).1,if_pos hk]
  simp
 | p::P,w::vs,i+1,m,nd,h1,h2,hk=>by
  show bindL kindOf ((p,w)::P.zip vs) m x=_
  unfold bindL
  exact Bc (i:=i) (List.nodup_cons.mp nd).2 (by simpa using h1) (by simpa using h2) hk
theorem Cd{kindOf:Str->Option NameKind}{x:Str}{v:Value}:∀ {P:List Str} {vs:List Value} {i:Nat} {m:Str->Option Value},P.Nodup->P[i]?=some x->vs[i]?=some v->kindOf x≠some .local ->
  bindC kindOf (P.zip vs) m x=some v
 | [],_,_,_,_,h,_,_=>by simp at h
 | _::_,[],_,_,_,_,h,_=>by simp at h
 | p::P,w::vs,0,m,nd,h1,h2,hk=>by
  simp at h1 h2;subst h1;subst h2
  show bindC kindOf ((p,w)::P.zip vs) m p=_
  unfold bindC
  rw [Bb fun v hv=>(List.nodup_cons.mp nd).1 (List.of_mem_zip hv).1,if_neg hk]
  simp
 | p::P,w::vs,i+1,m,nd,h1,h2,hk=>by
  show bindC kindOf ((p,w)::P.zip vs) m x=_
  unfold bindC
  exact Cd (i:=i) (List.nodup_cons.mp nd).2 (by simpa using h1) (by simpa using h2) hk
noncomputable def lJ(N:List Str)(vs:List V):St:=vs.map some++List.replicate (N.length - vs.length) none
noncomputable def bU(CX:zJ)(P:Program)(w:World)(K:PySem.W.Frag)(mg:Str->Option Value)(base:Heap)(N:List Str)(qual:Str)(scope:Scope)(f:Addr)(cd:Value)(A:Around)(outer:List Env)(s:Shared)(H:Hp)(E:XK):Cx where
 prog:=P
 w:=w
 K:=K
 mg:=mg
 base:=base
 A:=A.deeper (envOfC qual scope s.heap.objs.size f cd)
 N:=N
 s₀:=s
 H₀:=H
 env:=envOfC qual scope s.heap.objs.size f cd
 outer:=outer
 stack:=envOfC qual scope s.heap.objs.size f cd::outer
 ex:=[]
 calm:=true
 fn:=fun _=>true
 pn:=[]
 xe:=fun e s'=>wpAny (model P w) (A.deeper (envOfC qual scope s.heap.objs.size f cd)) («leaving» (envOfC qual scope s.heap.objs.size f cd) e) (fun _ s''=>CX outer H s E e s'') (fun e' s''=>CX outer H s E e' s'') s'
theorem Hd{sc:Scope}{n:Nat}{x:Str}(h:sc.names.lookup x=some .cell):∃ c,(cellsFrom n sc.names []).lookup x=some c:=by
 have q:=PySem.W.cellsFrom_some sc.names n [] (.inl h)
 exact Option.isSome_iff_exists.mp q
theorem Bw{CX:zJ}{P:Program}{w:World}{K:PySem.W.Frag}{mg:Str->Option Value}{base:Heap}{N ps:List Str}{qual:Str}{scope:Scope}{f:Addr}{cd:Value}{A:Around}{outer:List Env}{s s1:Shared}{H:Hp}{E:XK}{us:List Value}{vs:List V}
  (S:aG N ps scope) (hd:A.handled=none) (e0:Fj P w K mg base A outer s H) (hl:vs.length=ps.length) (r:cI vs us)
  (x:InCallC s s.heap.objs.size (bindL (envOfC qual scope s.heap.objs.size f cd).kindOf (ps.zip us) fun _=>none) (cellsFrom (s.heap.objs.size+1) scope.names []) (bindC (envOfC qual scope s.heap.objs.size f cd).kindOf (ps.zip us) fun _=>none) s1) :
  bj (bU CX P w K mg base N qual scope f cd A outer s H E) [] (lJ N vs) H s1:=by
 have hpl:ps.length<=N.length:=by have:=congrArg List.length S.pre;rw [List.length_take] at this;omega
 obtain ⟨h1,tk,rfl,hk⟩:=x.done
 have noA:∀ b:Addr,b∉(bU CX P w K mg base N qual scope f cd A outer s H E).ex:=fun b z=>absurd (show b∈([]:List Addr) from z) (by simp)
 refine ⟨⟨e0.mod,S.kind,rfl,rfl,Nat.le_refl _,fun y z c h1 h2=>?_,fun y hy=>?_,fun y c _ h=>?_,fun _=>hd,Around.frames_deeper e0.frames,.inr ⟨rfl,rfl⟩,fun b z=>absurd z (noA b),e0.bs,e0.bsz,fun b _ _=>noA b,fun b z=>absurd z (noA b),e0.funs,e0.frf⟩,
  rfl,e0.bare,Un.kept hk,⟨_,x.toInCall.ns,fun i y v h1 h2 h3=>?_⟩,fun y c h=>⟨_,x.cell y c h⟩,e0.hok.fresh (Nat.le_refl _),fun y c h=>?_,fun p hp=>absurd (show p∈([]:List (Addr × Obj)) from hp) (by simp),e0.hok.kept hk,?_⟩
 .exact name_of_addr x.apart (PySem.mem_of_lookup h1) (PySem.mem_of_lookup h2)
 .have hy:scope.names.lookup y=some .cell\/scope.names.lookup y=some .free:=hy
  rcases hy with hy | hy
  .exact Hd hy
  .exact absurd rfl (S.nofree _ (PySem.mem_of_lookup hy))
 .exact Nat.le_of_lt (x.above y c (PySem.mem_of_lookup h))
 .have hi:i<vs.length:=by
   unfold lJ at h2
   by_cases hi:i<vs.length
   .exact hi
   .rw [List.getElem?_append_right (by simpa using hi)] at h2
    rw [List.getElem?_replicate] at h2
    split at h2 <;> cases h2
  have ha:vs[i]?=some v:=by
   unfold lJ at h2
   rw [List.getElem?_append_left (by simpa using hi),List.getElem?_map] at h2
   cases e:vs[i]? with
   | none=>rw [e] at h2;cases h2
   | some a=>rw [e] at h2;cases h2;rfl
  obtain ⟨u,hu,rv⟩:=r.get ha
  have hp:ps[i]?=some y:=by
   rw [<- S.pre,List.getElem?_take_of_lt (by omega)];exact h1
  have ndP:ps.Nodup:=by rw [<- S.pre];exact S.nd.sublist (List.take_sublist _ _)
  refine ⟨u,rv,?_⟩
  rcases S.par y (List.mem_of_getElem? hp) with k | k
  .exact .inl ⟨k,Bc ndP hp hu k⟩
  .obtain ⟨c,e⟩:=Hd (n:=s.heap.objs.size+1) k
   refine .inr ⟨.inl k,c,e,?_⟩
   have q:=x.cell y c e
   rw [Cd ndP hp hu (by show scope.names.lookup y≠_;rw [k];decide)] at q
   exact q
 .exact e0.hok.fresh (Nat.le_of_lt (x.above y c (PySem.mem_of_lookup h)))
 .unfold lJ
  show _=N.length
  rw [List.length_append,List.length_map,List.length_replicate]
  omega
theorem Qv{CX:zJ}{P:Program}{w:World}{K:PySem.W.Frag}{mg:Str->Option Value}{base:Heap}{k:Nat}{f:Addr}{name qual:Str}{params:Arguments}{body:List Stmt}{scope:Scope}{dV kV doc pm cdv ct oc:Value}{an od:Option Addr}
  {osl:Array (Option Value)} {N ps:List Str} {sp:Sp} (lk:K.lookup f=some ⟨oc,od,.func (PySem.W.fnOf name qual params body scope dV kV doc pm an cdv ct),osl⟩) (hcd:PySem.W.codeIn K cdv qual=true) (S:aG N ps scope)
  (len:∀ vs H Q E,sp vs H Q E->vs.length=ps.length)
  (hbody:∀ (A:Around) (outer:List Env) (s:Shared) (H:Hp) (vs:List V) (Q:VK) (E:XK),cO k (A.deeper (envOfC qual scope s.heap.objs.size f cdv))->sp vs H Q E ->
   ∃ t,xW (bU CX P w K mg base N qual scope f cdv A outer s H E) body t/\t { nx:=fun _ H'=>Q .non H',rt:=Q } (lJ N vs) H) :
  bf P w K mg base CX (k+1) f (PySem.W.fnOf name qual params body scope dV kV doc pm an cdv ct) ps sp:=by
 refine ⟨len,fun A outer s H args us vs Q E hr e0 hb r hsp=>?_⟩
 have hl:=len _ _ _ _ hsp
 have KX:K.In s.heap:=e0.mod.kin.keeps fun b o e=>(e0.bs b o e).1
 have lim:s.heap.NoLimit:=e0.mod.nolimit.keeps fun b o e=>(e0.bs b o e).1
 have hkind:∀ y∈ps.zip us,scope.names.lookup y.1=some .local\/(scope.names.lookup y.1=some .cell/\((cellsFrom (s.heap.objs.size+1) scope.names []).lookup y.1).isSome=true):=fun ⟨n,v⟩ hy=>by
  rcases S.par n (List.of_mem_zip hy).1 with q | q
  .exact .inl q
  .exact .inr ⟨q,PySem.W.cellsFrom_some _ _ _ (.inl q)⟩
 refine codeAny_call_function hr.depth (KX _ _ lk) rfl S.co S.gen rfl (PySem.W.codeRec_of KX hcd) (hb _ _ _ _ ?_)
 refine wpAny_newFunctionEnv_cells S.kind hkind fun env he s1 x=>?_
 subst he
 refine ⟨lim.keeps x.toInCall.keep,codeAny_func ?_⟩
 obtain ⟨t,ht,hq⟩:=hbody A outer s H vs Q E (hr.deeper _) hsp
 have I:bj (bU CX P w K mg base N qual scope f cdv A outer s H E) [] (lJ N vs) H s1:=Bw S hr.hd e0 hl r x
 refine wpAny_mono (ht [] s1 (lJ N vs) H _ I hq) (fun fl s' hs=>?_) fun e s' hs=>hs
 have fin:∀ {σ':St} {H':Hp} {v:V} {u:Value},bj (bU CX P w K mg base N qual scope f cdv A outer s H E) [] σ' H' s'->cQ v u->Q v H'->CE outer P w H s Q u s' :=
  fun {σ' H' v u} J rv q=>⟨v,H',J.os,J.bare,J.base,J.hok,rv,q⟩
 cases fl with
 | ret u =>
  obtain ⟨v,σ',H',J,rv,q⟩:=hs
  exact fin J rv q
 | next =>
  obtain ⟨σ',H',J,q⟩:=hs
  exact fin (v:=V.non) (u:=Value.none) J rfl q
 | brk =>
  obtain ⟨_,_,_,q⟩:=hs
  exact False.elim q
 | cont =>
  obtain ⟨_,_,_,q⟩:=hs
  exact False.elim q
section
variable{X:Cx}{x:Str}{p pos:Pos}{e:Expr}{es:List Expr}{t:TA}{id T:String}{r:List V->Hp->VK->Prop}
noncomputable def kCB(r:List V->Hp->VK->Prop)(Q:VK):List V->Hp->Prop:=fun vs H1=>r vs H1 Q
noncomputable def Ws(r:List V->Hp->VK->Prop)(t:TA):TE:=fun σ H Q=>t σ H (kCB r Q)
theorem bw(hc:lW X (.builtin id) r)(hg:Gl X x)(hm:X.mg x=none)(hv:bootBuiltins x=some (.builtin id))(ha:PA X (e::es) t)(hn:x≠"__name__":=by decide)(hdb:(x == ("__debug__":Str))=false:=by decide)
  (he:starEach (e::es) X.env=(false,eval e X.env)::starEach es X.env:=by rfl) (hpl:(backTo pos (starEach es X.env)).any (·.1)=false:=by rfl):PE X (.Call (.Name x p) (e::es) [] pos) (Ws r t):=by
 intro pins s σ H Q I h
 refine wpAny_Call_Name_kw (lM I hg hm hv ?_ hn hdb)
 exact PyProof.Rows.callWith_builtin1 (dg (ha pos pins s σ H _ I h) fun us s1 ⟨vs,H1,I1,r1,q1⟩=>hc pins s1 σ H1 vs us Q I1 r1 q1) he hpl
theorem dN(hc:lW X (.type T) r)(hg:Gl X x)(hm:X.mg x=none)(hv:bootBuiltins x=some (.type T))(ha:PA X (e::es) t)(hn:x≠"__name__":=by decide)(hdb:(x == ("__debug__":Str))=false:=by decide)
  (he:starEach (e::es) X.env=(false,eval e X.env)::starEach es X.env:=by rfl) (hpl:(backTo pos (starEach es X.env)).any (·.1)=false:=by rfl):PE X (.Call (.Name x p) (e::es) [] pos) (Ws r t):=by
 intro pins s σ H Q I h
 refine wpAny_Call_Name_kw (lM I hg hm hv ?_ hn hdb)
 exact PyProof.Rows.callWith_type1 (dg (ha pos pins s σ H _ I h) fun us s1 ⟨vs,H1,I1,r1,q1⟩=>hc pins s1 σ H1 vs us Q I1 r1 q1) he hpl
end
end L2
namespace HT
open PySem PyProof.Rows
section
open PySem.SeqAt
open PySem.AutoSeq1 (wpAny_loadPart')
open PySem.MeetsSeq PySem.MeetsSeq2 PySem.MeetsSeq3
end
section
variable{prog:Program}{w:World}{A:Around}{E:Value->Shared->Prop}{s:Shared}
noncomputable def oZ(n d:Nat):Option Int->Nat
 | none=>d
 | some v=>if v<0 then (v+(n:Int)).toNat else min v.toNat n
theorem Fe(n d:Nat):oZ n d none=d:=rfl
theorem wZ(n d k:Nat):oZ n d (some (k:Int))=min k n:=by
 show (if (k:Int)<0 then ((k:Int)+(n:Int)).toNat else min (k:Int).toNat n)=min k n
 rw [if_neg (by omega),Int.toNat_natCast]
theorem Vd(n d:Nat)(hd:d<=n)(o:Option Int):oZ n d o<=n:=by
 cases o with
 | none=>exact hd
 | some v =>
  show (if v<0 then (v+(n:Int)).toNat else min v.toNat n)<=n
  by_cases hv:v<0
  .rw [if_pos hv];omega
  .rw [if_neg hv];exact Nat.min_le_right _ _
end
end HT
namespace L2
open PySem PySem.Spec PyProof.Rows
noncomputable abbrev TO:=St->Hp->(Option Int->Hp->Prop)->Prop
noncomputable def PO(X:Cx)(e:Option Expr)(t:TO):Prop :=
 ∀ (pins:List (Addr × Obj)) (s:Shared) (σ:St) (H:Hp) (Q:Option Int->Hp->Prop),bj X pins σ H s->t σ H Q ->
  wpAny (model X.prog X.w) X.A (evalPart e X.env) (fun u s'=>∃ o H',bj X pins σ H' s'/\IsPart u o/\Q o H') X.xe s
noncomputable def RB:TO:=fun _ H Q=>Q none H
noncomputable def Xh(Q:Option Int->Hp->Prop)(x:V)(H1:Hp)(i:Int):Prop:=x=.int i/\Q (some i) H1
noncomputable def X4(Q:Option Int->Hp->Prop):VK:=fun x H1=>Exists (Xh Q x H1)
noncomputable def Yb(t:TE):TO:=fun σ H Q=>t σ H (X4 Q)
section
variable{X:Cx}{e:Expr}{te:TE}{lo hi:Option Expr}{tl th:TO}{pos p2:Pos}
theorem JX:PO X none RB:=by
 intro pins s σ H Q I h
 rw [evalPart_none]
 exact wpAny_pure ⟨none,H,I,.none,h⟩
theorem mQ(h:PE X e te):PO X (some e) (Yb te):=by
 intro pins s σ H Q I hw
 rw [evalPart_some]
 refine dg (h pins s σ H _ I hw) fun u s1 ⟨x,H1,I1,r1,q1⟩=>?_
 obtain ⟨i,rfl,q⟩:=q1
 obtain ⟨t,rfl⟩:=r1
 exact ⟨some i,H1,I1,.int i t,q⟩
noncomputable def Yo(X:Cx)(r:V->Option Int->Option Int->Hp->VK->Prop):Prop :=
 ∀ (pins:List (Addr × Obj)) (s:Shared) (σ:St) (H:Hp) (x:V) (v vl vu:Value) (lo hi:Option Int) (sl:Addr) (Q:VK),bj X pins σ H s->cQ x v->s.heap.IsSliceOf sl vl vu .none->IsPart vl lo->IsPart vu hi->r x lo hi H Q ->
  ∃ T id,typeLookup (.type T) "__getitem__"=pure (some (.builtin id))/\s.TypeIs v T/\wpAny (model X.prog X.w) X.A (getItem v (.ref sl)) (EP X pins σ Q) X.xe s
noncomputable def ZR(r:V->Option Int->Option Int->Hp->VK->Prop)(x:V)(l:Option Int)(Q:VK):Option Int->Hp->Prop:=fun u H3=>r x l u H3 Q
noncomputable def YW(r:V->Option Int->Option Int->Hp->VK->Prop)(th:TO)(σ:St)(x:V)(Q:VK):Option Int->Hp->Prop:=fun l H2=>th σ H2 (ZR r x l Q)
noncomputable def kSl(r:V->Option Int->Option Int->Hp->VK->Prop)(tl th:TO)(σ:St)(Q:VK):VK:=fun x H1=>tl σ H1 (YW r th σ x Q)
noncomputable def tSl(r:V->Option Int->Option Int->Hp->VK->Prop)(te:TE)(tl th:TO):TE:=fun σ H Q=>te σ H (kSl r tl th σ Q)
theorem qH(hr:Yo X r)(he:PE X e te)(hl:PO X lo tl)(hu:PO X hi th):PE X (.Subscript e (.Slice lo hi none p2) pos) (tSl r te tl th):=by
 intro pins s σ H Q I h
 refine Subscript_ (dg (he pins s σ H _ I h) fun v s1 ⟨x,H1,I1,r1,q1⟩=>?_)
 refine wpAny_Slice (dg (hl pins s1 σ H1 _ I1 q1) fun vl s2 ⟨l,H2,I2,pl,q2⟩=>dg (hu pins s2 σ H2 _ I2 q2) fun vu s3 ⟨u,H3,I3,pu,q3⟩=>?_)
 rw [evalPart_none]
 refine wpAny_pure ?_
 have I4:bj X pins σ H3 { s3 with heap:=s3.heap.push { cls:=.type "slice",data:=.fields #[vl,vu,.none] } }:=I3.kept (t':=s3.toks) fun b ob q=>Heap.get?_push_of_some _ q
 obtain ⟨T,id,hT,ht,hg⟩:=hr pins { s3 with heap:=s3.heap.push { cls:=.type "slice",data:=.fields #[vl,vu,.none] } } σ H3 x v vl vu l u s3.heap.objs.size Q I4 r1 (Heap.IsSliceOf.new ..) pl pu q3
 show wpAny (model X.prog X.w) X.A (subscriptTail e (.Slice lo hi none p2) v (.ref s3.heap.objs.size)) (EP X pins σ Q) X.xe { s3 with heap:=s3.heap.push { cls:=.type "slice",data:=.fields #[vl,vu,.none] } }
 exact tail_any (ops:=[.ref s3.heap.objs.size,v]) ht hT hg (by with_unfolding_all rfl)
noncomputable def vz(xs:List V)(lo hi:Option Int):List V:=(xs.drop (HT.oZ xs.length 0 lo)).take (HT.oZ xs.length xs.length hi - HT.oZ xs.length 0 lo)
theorem Hi(xs:List V)(lo hi:Option Int):(vz xs lo hi).length<=xs.length:=by
 unfold vz
 rw [List.length_take,List.length_drop]
 omega
end
noncomputable def RD(n:Nat)(i:Int):Option Nat:=if 0<=i then (if i<n then some i.toNat else none) else if -(n:Int)<=i then some (i+n).toNat else none
noncomputable def T7{α:Type}(xs:List α)(i:Int):Option α:=(RD xs.length i).bind fun j=>xs[j]?
theorem Ky(h:RD n i=some j):seqIndex? i n=some j/\j<n/\-(n:Int)<=i/\i<n:=by
 unfold RD at h
 by_cases h0:0<=i
 .rw [if_pos h0] at h
  by_cases h1:i<n
  .rw [if_pos h1] at h
   have e:i.toNat=j:=Option.some.inj h
   exact ⟨by rw [seqIndex_of h0 h1,e],by omega,by omega,h1⟩
  .rw [if_neg h1] at h;cases h
 .rw [if_neg h0] at h
  by_cases h1:-(n:Int)<=i
  .rw [if_pos h1] at h
   have e:(i+n).toNat=j:=Option.some.inj h
   exact ⟨by rw [seqIndex_neg (by omega) h1,e],by omega,h1,by omega⟩
  .rw [if_neg h1] at h;cases h
theorem Kv(h:T7 xs i=some v):∃ j,seqIndex? i xs.length=some j/\xs[j]?=some v/\j<xs.length/\-(xs.length:Int)<=i/\i<xs.length:=by
 unfold T7 at h
 cases e:RD xs.length i with
 | none=>rw [e] at h;cases h
 | some j =>
  rw [e] at h
  obtain ⟨h1,h2,h3,h4⟩:=Ky e
  exact ⟨j,h1,h,h2,h3,h4⟩
theorem DP{α:Type}{xs:List α}{j:Nat}{v:α}(h:xs[j]?=some v):T7 xs (j:Int)=some v:=by
 have hj:j<xs.length:=(List.getElem?_eq_some_iff.mp h).1
 have e:RD xs.length (j:Int)=some j:=by
  unfold RD
  rw [if_pos (by omega),if_pos (by omega)];simp
 unfold T7;rw [e];exact h
noncomputable def Tj(b:Expr):Prop:=∀ o i,subscripted b false o i=operate [o,i] (getItem o i)
noncomputable def Yr(X:Cx)(r:R2):Prop :=
 ∀ (value slice:Expr) (pins:List (Addr × Obj)) (s:Shared) (σ:St) (H:Hp) (x y:V) (v u:Value) (Q:VK),bj X pins σ H s->cQ x v->cQ y u->r x y H Q ->
  subscripted slice false v u=operate [v,u] (getItem v u)->wpAny (model X.prog X.w) X.A (subscriptTail value slice v u) (EP X pins σ Q) X.xe s
noncomputable def MtR(X:Cx)(id:String)(r:V->List V->Hp->VK->Prop):Prop :=
 ∀ (pins:List (Addr × Obj)) (s:Shared) (σ:St) (H:Hp) (x:V) (xs:List V) (v:Value) (us:List Value) (Q:VK),bj X pins σ H s->cQ x v->cI xs us->r x xs H Q ->
  wpAny (model X.prog X.w) X.A (call (.builtin id) (v::us)) (EP X pins σ Q) X.xe s
section
variable{X:Cx}{a b:Expr}{ta tb:TE}{pos:Pos}
theorem cA(hr:Yr X r)(ha:PE X a ta)(hb:PE X b tb)(hs:Tj b):PE X (.Subscript a b pos) (jj r ta tb):=by
 intro pins s σ H Q I h
 exact Subscript_ (Sv ha hb I h fun v u s2 x y H2 I2 rx ry q=>hr a b pins s2 σ H2 x y v u Q I2 rx ry q (hs _ _))
noncomputable def Y4(K:PySem.W.Frag)(x y:V)(H:Hp)(Q:VK)(p:Addr)(xs:List V)(i:Int)(v:V):Prop:=x=.ref p/\y=.int i/\c7 K H p xs/\T7 xs i=some v/\Q v H
noncomputable def X8(K:PySem.W.Frag):R2:=fun x y H Q=>Exists (E4 (Y4 K x y H Q))
noncomputable def YB(K:PySem.W.Frag)(x y:V)(H:Hp)(Q:VK)(p:Addr)(xs:List V)(i:Int)(v:V):Prop:=x=.ref p/\y=.int i/\cZ K H p xs/\T7 xs i=some v/\Q v H
noncomputable def Iz(K:PySem.W.Frag):R2:=fun x y H Q=>Exists (E4 (YB K x y H Q))
theorem jz:Yr X (X8 X.K):=by
 intro value slice pins s σ H x y v u Q I rx ry h hs
 obtain ⟨p,xs,i,z,rfl,rfl,hq,he,q⟩:=h
 cases rx
 obtain ⟨t,rfl⟩:=ry
 obtain ⟨its,r,pl,hz⟩:=I.list hq
 obtain ⟨j,h1,h2,h3,h4,h5⟩:=Kv he
 obtain ⟨w,ew,rw'⟩:=r.get h2
 have hl:=r.length
 have hn:=vO
 have fin:EP X pins σ Q w s:=⟨z,H,I,rw',q⟩
 by_cases h0:0<=i
 .have hj:i.toNat=j:=by
   rw [seqIndex_of h0 h5] at h1
   exact Option.some.inj h1
  exact item_listR pl.isList h0 (by omega) (by rw [hj];simpa using ew) fin hs
 .have hj:(i+(its.toArray.size:Int)).toNat=j:=by
   rw [seqIndex_neg (by omega) h4] at h1
   rw [List.size_toArray,<- hl]
   exact Option.some.inj h1
  exact subscriptTail_builtinR (x:=w) pl.isList.typeIs slot_list_getitem.lookup
   (wpAny_getItem_list_neg (Q:=fun r s'=>r=w/\EP X pins σ Q r s') pl.isList (by omega) (by rw [List.size_toArray] <;> omega) (by omega) (by rw [hj];simpa using ew) ⟨rfl,fin⟩) hs
theorem cj:Yr X (Iz X.K):=by
 intro value slice pins s σ H x y v u Q I rx ry h hs
 obtain ⟨p,xs,i,z,rfl,rfl,hq,he,q⟩:=h
 cases rx
 obtain ⟨t,rfl⟩:=ry
 obtain ⟨its,r,pl,hz⟩:=I.tuple hq
 obtain ⟨j,h1,h2,h3,h4,h5⟩:=Kv he
 obtain ⟨w,ew,rw'⟩:=r.get h2
 have hl:=r.length
 have hn:=vO
 have fin:EP X pins σ Q w s:=⟨z,H,I,rw',q⟩
 exact subscriptTail_builtinR (x:=w) pl.typeIs slot_tuple_getitem.lookup
  (getItem_tuple (j:=j) (Q:=fun r s'=>r=w/\EP X pins σ Q r s') pl (by omega) (by omega) (by rw [List.size_toArray,<- hl];exact h1) (by simpa using ew) ⟨rfl,fin⟩) hs
theorem Ju(its:List Value)(n j:Nat)(u:Value):Obj.mapSeq (·.setIfInBounds j u) { cls:=.type "list",data:=.seq its.toArray n }={ cls:=.type "list",data:=.seq (its.set j u).toArray n }:=by
 simp [Obj.mapSeq]
theorem bj.lst(I:bj X pins σ H s)(h:H p=some (.lst xs)) :
  ∃ (its:List Value) (n:Nat),cI xs its/\s.heap.get? p=some { cls:=.type "list",data:=.seq its.toArray n }/\xs.length<=sizeLine:=by
 obtain ⟨z,its,n,r,e⟩:=I.hok p _ h
 exact ⟨its,n,r,e,z⟩
theorem bj.lstUpd{pins:List (Addr × Obj)}{σ:St}{H:Hp}{s:Shared}{p:Addr}{xs ys:List V}{its its':List Value}{n n':Nat}{f:Obj->Obj}(I:bj X pins σ H s)(h:H p=some (.lst xs))
  (ho:s.heap.get? p=some { cls:=.type "list",data:=.seq its.toArray n }) (hf:f { cls:=.type "list",data:=.seq its.toArray n }={ cls:=.type "list",data:=.seq its'.toArray n' }) (r:cI ys its') (hz:ys.length<=sizeLine) (t:Nat) :
  bj X pins σ (bQ H p (.lst ys)) { s with heap:=s.heap.update p f,toks:=t }:=by
 have e:(s.heap.update p f).get? p=some { cls:=.type "list",data:=.seq its'.toArray n' }:=by
  rw [Heap.get?_update_self f ho (by rw [hf] <;> rfl),hf]
 refine I.write (x:=p) (e:=p) (by rw [h];trivial) (.inl rfl) (fun b u hb q=>(Heap.get?_update_other _ _ (Ne.symm hb)).trans q) ⟨_,e⟩ ?_
 exact ⟨hz,its',n',r,e⟩
noncomputable def XF:V->V->V->Hp->(Hp->Prop)->Prop:=fun o i v H Q=>∃ p xs k j,o=.ref p/\i=.int k/\H p=some (.lst xs)/\RD xs.length k=some j/\Q (bQ H p (.lst (xs.set j v)))
theorem NP:Xz X XF:=by
 intro pins s σ H o i v ov iv u Q I ro ri rv h
 obtain ⟨p,xs,k,j,rfl,rfl,hp,hj,q⟩:=h
 cases ro
 obtain ⟨t,rfl⟩:=ri
 obtain ⟨its,n,r,ho,hz⟩:=I.lst hp
 obtain ⟨h1,h2,h3,h4⟩:=Ky hj
 have hl:=r.length
 have hn:=vO
 have I':bj X pins σ (bQ H p (.lst (xs.set j v))) { s with heap:=s.heap.update p (Obj.mapSeq (·.setIfInBounds j u)) } :=
  I.lstUpd hp ho (Ju its n j u) (r.set rv j) (by rw [List.length_set];exact hz) s.toks
 by_cases h0:0<=k
 .have hk:k.toNat=j:=by
   rw [seqIndex_of h0 h4] at h1
   exact Option.some.inj h1
  exact PySem.W.ki_setAt ho h0 (by omega) (by rw [List.size_toArray,<- hl];exact h4) (by rw [hk];exact ⟨_,I',q⟩)
 .have hk:(k+(its.toArray.size:Int)).toNat=j:=by
   rw [seqIndex_neg (by omega) h3] at h1
   rw [List.size_toArray,<- hl]
   exact Option.some.inj h1
  exact PySem.W.ki_setBack ho (by omega) (by rw [List.size_toArray,<- hl];exact h3) (by omega) (by rw [hk];exact ⟨_,I',q⟩)
theorem Dy(lo hi:Option Int)(n:Nat):(sliceBounds lo hi none n).1=((HT.oZ n 0 lo:Nat):Int)/\(sliceBounds lo hi none n).2.1=((HT.oZ n n hi:Nat):Int)/\(sliceBounds lo hi none n).2.2=1:=by
 refine ⟨?_,?_,rfl⟩
 .cases lo with
  | none=>simp [sliceBounds,HT.oZ]
  | some i =>
   simp only [sliceBounds,HT.oZ,Option.getD_none,show (1:Int) > 0 by decide,if_true]
   by_cases h:i<0
   .simp only [h,if_true] <;> omega
   .simp only [h,if_false] <;> omega
 .cases hi with
  | none=>simp [sliceBounds,HT.oZ]
  | some i =>
   simp only [sliceBounds,HT.oZ,Option.getD_none,show (1:Int) > 0 by decide,if_true]
   by_cases h:i<0
   .simp only [h,if_true] <;> omega
   .simp only [h,if_false] <;> omega
theorem Ak(its:List Value)(lo hi:Option Int):slicePick its.toArray lo hi none=((its.drop (HT.oZ its.length 0 lo)).take (HT.oZ its.length its.length hi - HT.oZ its.length 0 lo)).toArray:=by
 obtain ⟨h1,h2,h3⟩:=Dy lo hi its.toArray.size
 unfold slicePick
 rw [h1,h2,h3]
 simp only [sliceRange_one,pick_run,List.size_toArray] <;> rfl
noncomputable def YM(K:PySem.W.Frag)(x:V)(lo hi:Option Int)(H:Hp)(Q:VK)(a:Addr)(xs:List V):Prop:=x=.ref a/\c7 K H a xs/\W8 (Wj Q H (.lst (vz xs lo hi)))
noncomputable def Za(K:PySem.W.Frag):V->Option Int->Option Int->Hp->VK->Prop:=fun x lo hi H Q=>Exists (E2 (YM K x lo hi H Q))
theorem Et:Yo X (Za X.K):=by
 intro pins s σ H x v vl vu lo hi sl Q I rx hs pl pu h
 obtain ⟨a,xs,rfl,hx,q⟩:=h
 cases rx
 obtain ⟨its,r,ht,hz⟩:=I.list hx
 have hlen:=r.length
 refine ⟨"list",_,slot_list_getitem.lookup,ht.isList.typeIs,?_⟩
 refine wpAny_getItem_list_slice ht.isList hs pl pu .none (by simp) ?_ (by rw [List.size_toArray] <;> omega)
 rw [Ak,<- hlen]
 refine ⟨.ref s.heap.objs.size,_,I.laid (t':=s.toks) (o:=.lst (vz xs lo hi)) (fun b ob q=>Heap.get?_push_of_some _ q) (Nat.le_refl _) ?_,rfl,q _ (I.hok.fresh (Nat.le_refl _))⟩
 exact ⟨Nat.le_trans (Hi xs lo hi) hz,_,0,(r.drop (HT.oZ xs.length 0 lo)).take (HT.oZ xs.length xs.length hi - HT.oZ xs.length 0 lo),Heap.get?_push_size _ rfl⟩
noncomputable def jE:V->Bool
 | .non=>true
 | .bl _=>true
 | .int _=>true
 | .str _=>true
 | _=>false
noncomputable def Rp:V->V->Bool
 | .non,.non=>true
 | .bl a,.bl b=>a == b
 | .bl a,.int b=>(if a then 1 else 0) == b
 | .int a,.bl b=>a == (if b then 1 else 0)
 | .int a,.int b=>a == b
 | .str a,.str b=>a == b
 | _,_=>false
theorem Ve(ry:cQ y u)(rx:cQ x v)(fy:jE y=true)(fx:jE x=true):SeqAt.EqAt A s u v (Rp y x):=by
 cases y with
 | non =>
  cases ry
  cases x with
  | non=>cases rx;exact SeqAt.EqAt.same _
  | bl b=>cases rx;exact SeqAt.EqAt.none_bool b
  | int b=>obtain ⟨t,rfl⟩:=rx;exact SeqAt.EqAt.none_int b t
  | str b=>obtain ⟨t,rfl⟩:=rx;exact SeqAt.EqAt.none_str b t
  | _=>exact absurd (show false=true from fx) Bool.false_ne_true
 | bl a =>
  cases ry
  cases x with
  | non=>cases rx;exact SeqAt.EqAt.bool_none a
  | bl b=>cases rx;exact SeqAt.EqAt.bool_bool a b
  | int b=>obtain ⟨t,rfl⟩:=rx;exact SeqAt.EqAt.bool_int a b t
  | str b=>obtain ⟨t,rfl⟩:=rx;exact SeqAt.EqAt.bool_str a b t
  | _=>exact absurd (show false=true from fx) Bool.false_ne_true
 | int a =>
  obtain ⟨t',rfl⟩:=ry
  cases x with
  | non=>cases rx;exact SeqAt.EqAt.int_none a t'
  | bl b=>cases rx;exact SeqAt.EqAt.int_bool a t' b
  | int b=>obtain ⟨t,rfl⟩:=rx;exact SeqAt.EqAt.int_int a t' b t
  | str b=>obtain ⟨t,rfl⟩:=rx;exact SeqAt.EqAt.int_str a t' b t
  | _=>exact absurd (show false=true from fx) Bool.false_ne_true
 | str a =>
  obtain ⟨t',rfl⟩:=ry
  cases x with
  | non=>cases rx;exact SeqAt.EqAt.str_none a t'
  | bl b=>cases rx;exact SeqAt.EqAt.str_bool a t' b
  | int b=>obtain ⟨t,rfl⟩:=rx;exact SeqAt.EqAt.str_int a t' b t
  | str b=>obtain ⟨t,rfl⟩:=rx;exact SeqAt.EqAt.str_str a t' b t
  | _=>exact absurd (show false=true from fx) Bool.false_ne_true
 | _=>exact absurd (show false=true from fy) Bool.false_ne_true
noncomputable def Ir(x:V)(u:Value):Bool:=match u with
 | .none=>Rp .non x
 | .bool b=>Rp (.bl b) x
 | .int i _=>Rp (.int i) x
 | .str z _=>Rp (.str z) x
 | _=>false
theorem Py(r:cQ y u)(f:jE y=true):Ir x u=Rp y x:=by
 cases y with
 | non=>cases r;rfl
 | bl b=>cases r;rfl
 | int i=>obtain ⟨t,rfl⟩:=r;rfl
 | str z=>obtain ⟨t,rfl⟩:=r;rfl
 | _=>exact absurd (show false=true from f) Bool.false_ne_true
theorem uV:∀ {xs:List V} {us:List Value},cI xs us->xs.all jE=true->us.any (Ir x)=xs.any fun y=>Rp y x
 | _,_,.nil,_=>rfl
 | y::xs,u::us,.cons r t,f=>by
  rw [List.all_cons,Bool.and_eq_true] at f
  rw [List.any_cons,List.any_cons,Py r f.1,uV t f.2]
theorem qD(rx:cQ x v)(fx:jE x=true):∀ {xs:List V} {us:List Value},cI xs us->xs.all jE=true->∀ u∈us,SeqAt.EqAt A s u v (Ir x u)
 | _,_,.nil,_=>fun u hu=>by cases hu
 | y::xs,u::us,.cons r t,f=>fun u' hu=>by
  rw [List.all_cons,Bool.and_eq_true] at f
  rcases List.mem_cons.mp hu with rfl | hu
  .rw [Py r f.1];exact Ve r rx f.1 fx
  .exact qD rx fx t f.2 u' hu
noncomputable def zy(x:V)(xs:List V):Bool:=xs.any fun y=>Rp y x
noncomputable def qIn(K:PySem.W.Frag)(neg:Bool)(x y:V)(H:Hp)(Q:VK)(p:Addr)(xs:List V):Prop:=y=.ref p/\(c7 K H p xs\/cZ K H p xs)/\jE x=true/\xs.all jE=true/\Q (.bl (if neg then !zy x xs else zy x xs)) H
noncomputable def Zf(K:PySem.W.Frag)(neg:Bool):R2:=fun x y H Q=>Exists (E2 (qIn K neg x y H Q))
theorem gW:uc X (compareOp .In) (Zf X.K false):=by
 intro pins s σ H x y v u Q I rx ry h
 obtain ⟨p,xs,rfl,hq,fx,fs,q⟩:=h
 cases ry
 rcases hq with hq | hq
 .obtain ⟨its,r,pl,hz⟩:=I.list hq
  refine SeqAt.in_listAt (Ir x) pl.isList (fun w hw=>qD rx fx r fs w (by simpa using hw)) ⟨.bl _,H,I,rfl,?_⟩
  rw [show its.toArray.any (Ir x)=its.any (Ir x) by simp,uV r fs]
  exact q
 .obtain ⟨its,r,pl,hz⟩:=I.tuple hq
  refine SeqAt.in_tupleAt (Ir x) pl (fun w hw=>qD rx fx r fs w (by simpa using hw)) ⟨.bl _,H,I,rfl,?_⟩
  rw [show its.toArray.any (Ir x)=its.any (Ir x) by simp,uV r fs]
  exact q
theorem vd:uc X (compareOp .NotIn) (Zf X.K true):=by
 intro pins s σ H x y v u Q I rx ry h
 obtain ⟨p,xs,rfl,hq,fx,fs,q⟩:=h
 cases ry
 rcases hq with hq | hq
 .obtain ⟨its,r,pl,hz⟩:=I.list hq
  refine SeqAt.notIn_listAt (Ir x) pl.isList (fun w hw=>qD rx fx r fs w (by simpa using hw)) ⟨.bl _,H,I,rfl,?_⟩
  rw [show its.toArray.any (Ir x)=its.any (Ir x) by simp,uV r fs]
  exact q
 .obtain ⟨its,r,pl,hz⟩:=I.tuple hq
  refine SeqAt.notIn_tupleAt (Ir x) pl (fun w hw=>qD rx fx r fs w (by simpa using hw)) ⟨.bl _,H,I,rfl,?_⟩
  rw [show its.toArray.any (Ir x)=its.any (Ir x) by simp,uV r fs]
  exact q
theorem bx:lW X (.builtin "len") (fun xs H Q=>∃ p ys,xs=[.ref p]/\(c7 X.K H p ys\/cZ X.K H p ys)/\Q (.int ys.length) H):=by
 intro pins s σ H xs us Q I r h
 obtain ⟨p,ys,rfl,hq,q⟩:=h
 obtain ⟨u,rfl,rx⟩:=lu r
 cases rx
 have hn:=vO
 rcases hq with hq | hq
 .obtain ⟨its,r',pl,hz⟩:=I.list hq
  have hlen:=r'.length
  exact Calls.call_len_list pl.isList (by simp only [List.size_toArray] <;> omega) ⟨.int ys.length,H,I.tok _,⟨s.toks+1,by rw [List.size_toArray,hlen]⟩,q⟩
 .obtain ⟨its,r',pl,hz⟩:=I.tuple hq
  have hlen:=r'.length
  exact len_tuple pl (by simp only [List.size_toArray] <;> omega) ⟨.int ys.length,H,I.tok _,⟨s.toks+1,by rw [List.size_toArray,hlen]⟩,q⟩
theorem jP:lW X (.type "list") (fun xs H Q=>∃ p ys,xs=[.ref p]/\(c7 X.K H p ys\/cZ X.K H p ys)/\∀ l,H l=none->Q (.ref l) (bQ H l (.lst ys))):=by
 intro pins s σ H xs us Q I r h
 obtain ⟨p,ys,rfl,hq,q⟩:=h
 obtain ⟨u,rfl,rx⟩:=lu r
 cases rx
 have fin:∀ (its:List Value),cI ys its->ys.length<=sizeLine->∀ (h':Heap) (c':Nat),(∀ b o',s.heap.get? b=some o'->h'.get? b=some o') ->
   h'.get? s.heap.objs.size=some { cls:=.type "list",dict:=none,data:=.seq its.toArray c',slots:=#[] }->EP X pins σ Q (.ref s.heap.objs.size) { s with heap:=h' }:=fun its r' hz h' c' kp e =>
  ⟨.ref s.heap.objs.size,_,I.laid (t':=s.toks) kp (Nat.le_refl _) (show dW X.prog X.w _ h' _ (.lst ys) from ⟨hz,its,c',r',e⟩),rfl,q _ (I.hok.fresh (Nat.le_refl _))⟩
 rcases hq with hq | hq
 .obtain ⟨its,r',pl,hz⟩:=I.list hq
  have hlen:=r'.length
  obtain ⟨o,ho,hc,n,hd⟩:=pl.isList
  exact call_list_seq p (.inl rfl) ho hc hd (fun h' c' kp e=>fin its r' hz h' c' kp e) (by simp only [List.size_toArray] <;> omega)
 .obtain ⟨its,r',pl,hz⟩:=I.tuple hq
  have hlen:=r'.length
  obtain ⟨o,ho,hc,n,hd⟩:=pl
  exact call_list_seq p (.inr rfl) ho hc hd (fun h' c' kp e=>fin its r' hz h' c' kp e) (by simp only [List.size_toArray] <;> omega)
theorem ie:lW X (.type "tuple") (fun xs H Q=>∃ p ys,xs=[.ref p]/\((c7 X.K H p ys/\∀ l,H l=none->Q (.ref l) (bQ H l (.tup ys)))\/(cZ X.K H p ys/\Q (.ref p) H))):=by
 intro pins s σ H xs us Q I r h
 obtain ⟨p,ys,rfl,h⟩:=h
 obtain ⟨u,rfl,rx⟩:=lu r
 cases rx
 rcases h with ⟨hq,q⟩ | ⟨hq,q⟩
 .obtain ⟨its,r',pl,hz⟩:=I.list hq
  have hlen:=r'.length
  refine call_tuple_list pl.isList (fun h' kp=>?_) (by simp only [List.size_toArray] <;> omega)
  have I1:bj X pins σ H { s with heap:=h' }:=I.kept (t':=s.toks) kp
  have I2:bj X pins σ (bQ H h'.objs.size (.tup ys)) { s with heap:=h'.push { cls:=.type "tuple",data:=.seq its.toArray } } :=
   I1.laid (t':=s.toks) (fun b o e=>Heap.get?_push_of_some _ e) (Nat.le_refl _) (show dW X.prog X.w _ _ _ (.tup ys) from ⟨hz,its,r',IsTup.new _ _⟩)
  exact ⟨.ref h'.objs.size,_,I2,rfl,q _ (I1.hok.fresh (Nat.le_refl _))⟩
 .obtain ⟨its,r',pl,hz⟩:=I.tuple hq
  exact call_tuple_same pl ⟨.ref p,H,I,rfl,q⟩
noncomputable def Zc(K:PySem.W.Frag)(T:String)(x:V)(H:Hp):Prop:=match x with
 | .str _=>T="str"
 | .int _=>T="int"
 | .ref p=>(T="list"/\∃ xs,c7 K H p xs)\/(T="tuple"/\∃ o,K.lookup p=some o/\o.cls=.type "tuple"/\o.dict=none) \/
   (T="dict"/\((∃ kvs,H p=some (.dK kvs))\/∃ kvs,H p=some (.dT kvs)))\/(T="set"/\∃ S n,H p=some (.set S n))
 | _=>False
theorem V0(I:bj X pins σ H s)(r:cQ x v)(ty:Zc X.K T x H) :
  s.TypeIs v T/\∀ a,v=.ref a->∃ ob,s.heap.get? a=some ob/\ob.dict=none:=by
 cases x with
 | str z =>
  obtain ⟨t,rfl⟩:=r
  cases (show T="str" from ty)
  exact ⟨typeIs_str s z t,fun _ e=>nomatch e⟩
 | int i =>
  obtain ⟨t,rfl⟩:=r
  cases (show T="int" from ty)
  exact ⟨typeIs_int s i t,fun _ e=>nomatch e⟩
 | ref p =>
  cases r
  rcases ty with ⟨rfl,xs,hq⟩ | ⟨rfl,o,hk,hc,hd⟩ | ⟨rfl,hk⟩ | ⟨rfl,S,n,hk⟩
  .obtain ⟨its,_,pl,_⟩:=I.list hq
   refine ⟨pl.isList.typeIs,fun a e=>?_⟩
   cases e
   obtain ⟨o,n,e,c,hd,_⟩:=pl
   exact ⟨o,e,hd⟩
  .refine ⟨⟨o,I.kIn p o hk,hc⟩,fun a e=>?_⟩
   cases e
   exact ⟨o,I.kIn _ o hk,hd⟩
  .have z:∃ o,s.heap.get? p=some o/\o.ExactDict:=by
    rcases hk with ⟨kvs,hk⟩ | ⟨kvs,hk⟩
    .obtain ⟨_,_,_,_,o,_,_,e,ex,_⟩:=I.hok p _ hk
     exact ⟨o,e,ex⟩
    .obtain ⟨_,_,_,_,o,_,_,e,ex,_⟩:=I.hok p _ hk
     exact ⟨o,e,ex⟩
   obtain ⟨o,e,ex⟩:=z
   refine ⟨⟨o,e,ex.1⟩,fun a e2=>?_⟩
   cases e2
   exact ⟨o,e,ex.2.1⟩
  .obtain ⟨o,_,_,_,e,ex,_⟩:=I.hok p _ hk
   refine ⟨⟨o,e,ex.1⟩,fun a e2=>?_⟩
   cases e2
   exact ⟨o,e,ex.2.1⟩
 | _=>exact False.elim ty
noncomputable def Y7(r:V->List V->Hp->VK->Prop)(x:V)(Q:VK):List V->Hp->Prop:=fun xs H2=>r x xs H2 Q
noncomputable def kBM(K:PySem.W.Frag)(T:String)(r:V->List V->Hp->VK->Prop)(t:TA)(σ:St)(Q:VK):VK:=fun x H1=>Zc K T x H1/\t σ H1 (Y7 r x Q)
noncomputable def Yk(K:PySem.W.Frag)(T:String)(r:V->List V->Hp->VK->Prop)(to:TE)(t:TA):TE:=fun σ H Q=>to σ H (kBM K T r t σ Q)
variable{o e:Expr}{es:List Expr}{to:TE}{t:TA}{name:Str}{apos cpos:Pos}{T id:String}{r:V->List V->Hp->VK->Prop}
theorem lB(pa:PlainAttrs T)(slot:Slot T name id)(hty:typeOf (.builtin id)=pure (.type "method_descriptor"))(hm:MtR X id r)(ho:PE X o to)(ha:PA X (e::es) t)
  (hbase:attributeBase o name X.env (eval o X.env)=eval o X.env:=by rfl)
  (hfew:((backTo cpos (starEach (e::es) X.env)).all (fun x=>!x.1) && (backToKw cpos (keywordEach [] X.env)).all (fun x=>x.1.isSome)
   && decide ((e::es).length+([]:List Keyword).length+(if ([]:List Keyword).isEmpty then 0 else 1)<30))=true:=by rfl)
  (hline:(apos.endLine == cpos.line)=true:=by rfl) (hs:starEach (e::es) X.env=(false,eval e X.env)::starEach es X.env:=by rfl) (hplain:(backTo cpos (starEach es X.env)).any (·.1)=false:=by rfl) :
  PE X (.Call (.Attribute o name apos) (e::es) [] cpos) (Yk X.K T r to t):=by
 intro pins s σ H Q I h
 refine wpAny_Call_method_late hbase hfew hline rfl (dg (ho pins s σ H _ I h) fun v s1 ⟨x,H1,I1,r1,ty,q1⟩=>?_)
 obtain ⟨h1,h2⟩:=V0 I1 r1 ty
 refine ⟨T,id,pa,slot,hty,h1,h2,?_⟩
 have hA:=ha cpos pins s1 σ H1 _ I1 q1
 rw [hs] at hA ⊢
 refine Calls.callWith_builtin (by show (false || (backTo cpos (starEach es X.env)).any (·.1))=false;rw [hplain] <;> rfl) (Calls.evalArgs_plain ?_)
 exact dg hA fun us s2 ⟨vs,H2,I2,r2,q2⟩=>hm pins s2 σ H2 x vs v us Q I2 r1 r2 q2
end
noncomputable def Zr(X:Cx)(id:String)(r:V->List V->Hp->VK->Prop):Prop :=
 ∀ (pins:List (Addr × Obj)) (s:Shared) (σ:St) (H:Hp) (x:V) (xs:List V) (v:Value) (us:List Value) (Q:VK),bj X pins σ H s->cQ x v->cI xs us->r x xs H Q ->
  wpAny (model X.prog X.w) X.A (call (.builtin id) (v::us)) (EP X pins σ Q) X.xe s
theorem cI.one:∀ {x:V} {us:List Value},cI [x] us->∃ u,us=[u]/\cQ x u
 | _,_,.cons r .nil=>⟨_,rfl,r⟩
theorem cI.rep(h:cI xs us):∀ k:Nat,cI (List.replicate k xs).flatten (List.replicate k us).flatten
 | 0=>.nil
 | k+1=>by
  rw [List.replicate_succ,List.replicate_succ,List.flatten_cons,List.flatten_cons]
  exact cI.append h (cI.rep h k)
theorem Bk(its:List Value):∀ (k:Nat) (acc:List Value),
  List.foldl (fun x1 x2=>x1++x2) acc.toArray (List.replicate k its.toArray)=(acc++(List.replicate k its).flatten).toArray
 | 0,acc=>by simp
 | k+1,acc=>by
  have e:acc.toArray++its.toArray=(acc++its).toArray:=by simp
  have e2:(acc++its)++(List.replicate k its).flatten=acc++(List.replicate (k+1) its).flatten:=by
   rw [List.replicate_succ,List.flatten_cons,List.append_assoc]
  rw [<- e2,<- Bk its k (acc++its),<- e,List.replicate_succ,List.foldl_cons]
section
variable{X:Cx}{pins:List (Addr × Obj)}{σ:St}{H:Hp}{s:Shared}{l b:Addr}{xs ys zs:List V}
theorem bj.lset{its its':List Value}{n:Nat}{f:Array Value->Array Value}{t':Nat}(I:bj X pins σ H s)(hH:H l=some (.lst xs))
  (e:s.heap.get? l=some { cls:=.type "list",data:=.seq its.toArray n }) (hf:f its.toArray=its'.toArray) (hv:cI ys its') (hz:ys.length<=sizeLine) :
  bj X pins σ (bQ H l (.lst ys)) { s with heap:=s.heap.update l (Obj.mapSeq f),toks:=t' }:=by
 have q:=PySem.IsL.update e f
 rw [hf] at q
 refine I.write (x:=l) (e:=l) (by rw [hH];exact trivial) (.inl rfl) (fun b' u hb hu=>(Heap.get?_update_other s.heap (Obj.mapSeq f) (Ne.symm hb)).trans hu) ⟨_,q⟩ ?_
 exact ⟨hz,its',_,hv,q⟩
theorem bj.lnew(I:bj X pins σ H s)(hv:cI ys its)(hz:ys.length<=sizeLine) :
  bj X pins σ (bQ H s.heap.objs.size (.lst ys)) { s with heap:=s.heap.push { cls:=.type "list",data:=.seq its.toArray },toks:=t' } :=
 I.laid (fun _ _ q=>Heap.get?_push_of_some _ q) (Nat.le_refl _) ⟨hz,its,0,hv,Heap.get?_push_size _ rfl⟩
theorem bj.fresh(I:bj X pins σ H s):H s.heap.objs.size=none:=I.hok.fresh (Nat.le_refl _)
theorem bj.lstM(I:bj X pins σ H s)(hH:H l=some (.lst xs)):xs.length<=sizeLine/\∃ (its:List Value) (n:Nat),cI xs its/\xs.length=its.length/\s.heap.get? l=some { cls:=.type "list",data:=.seq its.toArray n }:=by
 obtain ⟨z,its,n,r,e⟩:=I.hok l _ hH
 exact ⟨z,its,n,r,r.length,e⟩
theorem Ge(h:n<=sizeLine):Builtin.List.listTooLong n=false:=by
 unfold Builtin.List.listTooLong
 exact decide_eq_false (by omega)
end
section
variable{X:Cx}
noncomputable def RN(x:V)(vs:List V)(H:Hp)(Q:VK)(l:Addr)(xs:List V)(y:V):Prop:=x=.ref l/\vs=[y]/\H l=some (.lst xs)/\xs.length<sizeLine/\Q .non (bQ H l (.lst (xs++[y])))
noncomputable def S7:V->List V->Hp->VK->Prop:=fun x vs H Q=>Exists (E3 (RN x vs H Q))
theorem gj:Zr X "list.append" S7:=by
 intro pins s σ H x vs v us Q I rx rv h
 obtain ⟨l,xs,y,rfl,rfl,hH,hz,q⟩:=h
 cases rx
 obtain ⟨u,rfl,ru⟩:=rv.one
 obtain ⟨z,its,n,r,hl,e⟩:=I.lstM hH
 refine call_meets F.slot_list_append ⟨_,e,rfl⟩ F.entry_list_append (F.args_list_append_2 _ _) (PySem.list_append l its.toArray n u (by rw [List.size_toArray];omega)) ⟨e,?_⟩
 refine ⟨.non,_,I.lset (its':=its++[u]) hH e (by simp) (r.append (.cons ru .nil)) ?_,rfl,q⟩
 rw [List.length_append,List.length_singleton]
 omega
noncomputable def TV:V->List V->Hp->VK->Prop:=fun x vs H Q=>∃ l b xs zs,x=.ref l/\vs=[.ref b]/\H l=some (.lst xs)/\H b=some (.lst zs)/\xs.length+zs.length<=sizeLine/\Q .non (bQ H l (.lst (xs++zs)))
theorem vU:Zr X "list.extend" TV:=by
 intro pins s σ H x vs v us Q I rx rv h
 obtain ⟨l,b,xs,zs,rfl,rfl,hH,hB,hz,q⟩:=h
 cases rx
 obtain ⟨u,rfl,ru⟩:=rv.one
 cases ru
 obtain ⟨z,its,n,r,hl,e⟩:=I.lstM hH
 obtain ⟨z2,its2,n2,r2,hl2,e2⟩:=I.lstM hB
 have hsz:its.toArray.size+its2.toArray.size<=sizeLine:=by rw [List.size_toArray,List.size_toArray];omega
 have hlong:¬ (!its.toArray.isEmpty && Builtin.List.listTooLong (its.toArray.size+its2.toArray.size))=true:=by
  rw [Ge hsz,Bool.and_false]
  exact Bool.false_ne_true
 refine call_meets F.slot_list_extend ⟨_,e,rfl⟩ F.entry_list_extend (F.args_list_extend_2 _ _)
  (AutoSeq1.list_extend_list_list_0 l its.toArray n b its2.toArray n2 hlong (by rw [List.size_toArray];omega) (by omega)) ⟨e,e2,?_⟩
 refine ⟨.non,_,I.lset (its':=its++its2) hH e (by simp) (r.append r2) ?_,rfl,q⟩
 rw [List.length_append]
 omega
noncomputable def ZG:R2:=fun x y H Q=>∃ l b xs zs,x=.ref l/\y=.ref b/\H l=some (.lst xs)/\H b=some (.lst zs)/\xs.length+zs.length<=sizeLine/\∀ p,H p=none->Q (.ref p) (bQ H p (.lst (xs++zs)))
theorem vJ:uc X (binaryOp .Add) ZG:=by
 intro pins s σ H x y v u Q I rx ry h
 obtain ⟨l,b,xs,zs,rfl,rfl,hH,hB,hz,q⟩:=h
 cases rx
 cases ry
 obtain ⟨z,its,n,r,hl,e⟩:=I.lstM hH
 obtain ⟨z2,its2,n2,r2,hl2,e2⟩:=I.lstM hB
 refine PySem.P.add_list e e2 ?_ (by rw [List.size_toArray,List.size_toArray];omega)
 have ea:its.toArray++its2.toArray=(its++its2).toArray:=by simp
 rw [ea]
 exact ⟨.ref _,_,I.lnew (t':=s.toks) (r.append r2) (by rw [List.length_append];omega),rfl,q _ I.fresh⟩
noncomputable def Vu:R2:=fun x y H Q=>∃ l k xs,x=.ref l/\y=.int k/\H l=some (.lst xs)/\-(2 ^ 63)<=k/\k<2 ^ 63/\xs.length * k.toNat<=sizeLine /\
 ∀ p,H p=none->Q (.ref p) (bQ H p (.lst (List.replicate k.toNat xs).flatten))
theorem SJ(xs:List α)(k:Nat):(List.replicate k xs).flatten.length=k * xs.length:=by
 induction k with
 | zero=>simp
 | succ k ih=>rw [List.replicate_succ,List.flatten_cons,List.length_append,ih,Nat.succ_mul,Nat.add_comm]
theorem Jq:uc X (binaryOp .Mult) Vu:=by
 intro pins s σ H x y v u Q I rx ry h
 obtain ⟨l,k,xs,rfl,rfl,hH,h1,h2,hz,q⟩:=h
 cases rx
 obtain ⟨t,rfl⟩:=ry
 obtain ⟨z,its,n,r,hl,e⟩:=I.lstM hH
 have hlen:its.toArray.size * k.toNat<=sizeLine:=by rw [List.size_toArray,<- hl];exact hz
 have hcap:¬ its.toArray.size * k.toNat > (2 ^ 63 - 1) / 8:=by
  have:(sizeLine:Nat)<=(2 ^ 63 - 1) / 8:=by decide
  omega
 have hfit:¬ (!Builtin.List.listFitsIndex k)=true:=by
  rw [fitsIndex_both h1 h2]
  exact Bool.false_ne_true
 have hlong:¬ Builtin.List.listTooLong (its.toArray.size * k.toNat)=true:=by
  rw [Ge hlen]
  exact Bool.false_ne_true
 have hnew:List.foldl (fun x1 x2=>x1++x2) #[] (List.replicate (if its.toArray.isEmpty=true then 0 else k.toNat) its.toArray)=(List.replicate k.toNat its).flatten.toArray:=by
  have f0:∀ m:Nat,List.foldl (fun x1 x2=>x1++x2) #[] (List.replicate m its.toArray)=(List.replicate m its).flatten.toArray:=fun m=>by
   have:=Bk its m []
   rw [List.nil_append] at this
   exact this
  rw [f0]
  cases its with
  | nil=>simp
  | cons a r'=>rw [if_neg (by simp)]
 refine wpAny_binaryOp_repeat_ref (T := "list") (U := "int") (by decide) ⟨_,e,rfl⟩ (fun s'=>typeIs_int s' k t) noFill_list_mul F.fills_int_mul F.slot_int_rmul repeat_list F.slot_int_index.lookup
  (call_meets F.slot_int_rmul (typeIs_int s k t) F.entry_int_rmul (F.args_int_rmul_2 _ _) (int___rmul___int_list k t l its.toArray n)
   ⟨e,rfl,⟨_,e,rfl⟩,call_meets F.slot_list_mul ⟨_,e,rfl⟩ F.entry_list_mul (F.args_list_mul_2 _ _) (AutoListH.list___mul___list_int_3 l its.toArray n k t hfit hcap hlong) ⟨e,?_⟩⟩)
 rw [hnew]
 exact ⟨.ref _,_,I.lnew (t':=s.toks) (r.rep k.toNat) (by rw [SJ,Nat.mul_comm];exact hz),rfl,q _ I.fresh⟩
end
section
variable{prog:Program}{w:World}{A:Around}{E:Value->Shared->Prop}{s:Shared}
end
section
variable{X:Cx}
end
section
variable{κ:Type}[DecidableEq κ]
noncomputable def fQ(kvs:List (κ × V))(k:κ):Option V:=(kvs.find? fun kv=>decide (kv.1=k)).map (·.2)
noncomputable def lD(kvs:List (κ × V))(k:κ)(v:V):List (κ × V) :=
 if (kvs.any fun kv=>decide (kv.1=k))=true then kvs.map (fun kv=>if kv.1=k then (kv.1,v) else kv) else kvs++[(k,v)]
theorem gn{p:κ × V}{r:List (κ × V)}{k:κ}(e:p.1=k):fQ (p::r) k=some p.2:=by simp [fQ,List.find?_cons,e]
theorem gm{p:κ × V}{r:List (κ × V)}{k:κ}(e:¬ p.1=k):fQ (p::r) k=fQ r k:=by simp [fQ,List.find?_cons,e]
theorem uB(k:κ):∀ kvs:List (κ × V),(kvs.any fun kv=>decide (kv.1=k))=(fQ kvs k).isSome
 | []=>rfl
 | p::r=>by
  rw [List.any_cons]
  by_cases e:p.1=k
  .simp only [gn e,decide_eq_true e,Bool.true_or,Option.isSome_some]
  .rw [gm e,decide_eq_false e,Bool.false_or];exact uB k r
theorem FQ(k j:κ)(y:V):∀ kvs:List (κ × V),fQ (kvs.map fun kv=>if kv.1=k then (kv.1,y) else kv) j=(fQ kvs j).map fun x=>if j=k then y else x
 | []=>rfl
 | p::r=>by
  have ih:=FQ k j y r
  rw [List.map_cons]
  by_cases h:p.1=k
  .rw [if_pos h]
   by_cases e:p.1=j
   .rw [gn (p:=(p.1,y)) e,gn e,Option.map_some,if_pos (e.symm.trans h)]
   .rw [gm (p:=(p.1,y)) e,gm e,ih]
  .rw [if_neg h]
   by_cases e:p.1=j
   .rw [gn (p:=p) e,gn e,Option.map_some,if_neg (fun z=>h (e.trans z))]
   .rw [gm (p:=p) e,gm e,ih]
theorem Ca(k j:κ)(y:V):∀ kvs:List (κ × V),fQ kvs k=none->fQ (kvs++[(k,y)]) j=if j=k then some y else fQ kvs j
 | [],_=>by
  by_cases e:k=j
  .rw [if_pos e.symm];exact gn (p:=(k,y)) e
  .rw [if_neg (fun z=>e z.symm)];exact gm (p:=(k,y)) e
 | p::r,hn=>by
  rw [List.cons_append]
  have hk:¬ p.1=k:=fun z=>by rw [gn z] at hn;cases hn
  rw [gm hk] at hn
  have ih:=Ca k j y r hn
  by_cases e:p.1=j
  .rw [gn e,gn e,if_neg (fun z=>hk (e.trans z))]
  .rw [gm e,gm e,ih]
theorem Gx(kvs:List (κ × V))(k j:κ)(y:V):fQ (lD kvs k y) j=if j=k then some y else fQ kvs j:=by
 unfold lD
 by_cases a:(kvs.any fun kv=>decide (kv.1=k))=true
 .rw [if_pos a,FQ]
  rw [uB] at a
  by_cases e:j=k
  .obtain ⟨x,hx⟩:=Option.isSome_iff_exists.mp a
   rw [if_pos e,e,hx,Option.map_some,if_pos rfl]
  .rw [if_neg e]
   cases fQ kvs j with
   | none=>rfl
   | some x=>rw [Option.map_some,if_neg e]
 .rw [if_neg a]
  refine Ca k j y kvs ?_
  rw [uB] at a
  cases q:fQ kvs k with
  | none=>rfl
  | some x=>rw [q] at a;exact (a rfl).elim
theorem v8(kvs:List (κ × V))(k:κ)(v:V):(lD kvs k v).length<=kvs.length+1:=by
 unfold lD
 split
 .rw [List.length_map];omega
 .rw [List.length_append,List.length_cons,List.length_nil];omega
theorem oJ.isSome_eq(r:oJ o u):o.isSome=u.isSome:=by
 cases o with
 | none=>cases u with
  | none=>rfl
  | some _=>exact (show False from r).elim
 | some _=>cases u with
  | none=>exact (show False from r).elim
  | some _=>rfl
theorem oJ.getD(r:oJ o u)(rd:cQ d d'):cQ (o.getD d) (u.getD d'):=by
 cases o with
 | none=>cases u with
  | none=>exact rd
  | some _=>exact (show False from r).elim
 | some _=>cases u with
  | none=>exact (show False from r).elim
  | some _=>exact r
theorem KV.val{kvs:List (κ × V)}{vs:List (κ × Value)}(r:KV kvs vs)(k:κ):oJ (fQ kvs k) (valueAt vs k):=by
 unfold KV at r
 induction r with
 | nil=>exact True.intro
 | @cons p q ps qs h t ih =>
  obtain ⟨h1,h2⟩:=h
  by_cases e:p.1=k
  .have e':q.1=k:=h1.symm.trans e
   have b:valueAt (q::qs) k=some q.2:=by simp [valueAt,List.find?_cons,e']
   rw [gn e,b];exact h2
  .have e':¬ q.1=k:=fun z=>e (h1.trans z)
   have b:valueAt (q::qs) k=valueAt qs k:=by simp [valueAt,List.find?_cons,e']
   rw [gm e,b];exact ih
theorem KV.any(r:KV kvs vs)(k:κ):(kvs.any fun kv=>decide (kv.1=k))=vs.any fun kv=>decide (kv.1=k):=by
 unfold KV at r
 induction r with
 | nil=>rfl
 | cons h t ih=>rw [List.any_cons,List.any_cons,ih,h.1]
theorem KV.repl(r:KV kvs vs)(k:κ)(ry:cQ y u) :
  KV (kvs.map fun kv=>if kv.1=k then (kv.1,y) else kv) (vs.map fun kv=>if kv.1=k then (kv.1,u) else kv):=by
 unfold KV at r ⊢
 induction r with
 | nil=>exact .nil
 | @cons p q ps qs h t ih =>
  rw [List.map_cons,List.map_cons]
  refine .cons ?_ ih
  obtain ⟨h1,h2⟩:=h
  by_cases e:p.1=k
  .rw [if_pos e,if_pos (h1.symm.trans e)];exact ⟨h1,ry⟩
  .rw [if_neg e,if_neg (fun z=>e (h1.trans z))];exact ⟨h1,h2⟩
theorem KV.put(r:KV kvs vs)(k:κ)(ry:cQ y u):KV (lD kvs k y) (stored vs k u):=by
 unfold lD stored
 rw [r.any k]
 by_cases e:(vs.any fun kv=>decide (kv.1=k))=true
 .rw [if_pos e,if_pos e];exact r.repl k ry
 .rw [if_neg e,if_neg e];exact Paired.snoc r ⟨rfl,ry⟩
theorem KV.keys{kvs:List (κ × V)}{vs:List (κ × Value)}(r:KV kvs vs):kvs.map (·.1)=vs.map (·.1):=by
 unfold KV at r
 induction r with
 | nil=>rfl
 | cons h t ih=>rw [List.map_cons,List.map_cons,ih,h.1]
theorem KV.length(r:KV kvs vs):kvs.length=vs.length:=Paired.length r
end
theorem v9(r:cQ (kV k) u):(cY P w).is k u=true:=by
 cases k with
 | inl i=>obtain ⟨t,e⟩:=(show ∃ t,u=Value.int i t from r);subst e;exact Fw P w i t
 | inr x=>obtain ⟨t,e⟩:=(show ∃ t,u=Value.str x t from r);subst e;exact Fd P w x t
theorem BZ:∀ {ks:List gf} {us:List Value},cI (ks.map kV) us->ItemsAre (cY P w) ks us
 | [],_,r=>by rw [List.map_nil] at r;cases r;exact .nil
 | k::ks,_,r=>by
  rw [List.map_cons] at r
  cases r with
  | cons h t=>exact .cons (v9 h) (BZ t)
noncomputable abbrev KT(H:Hp):List (List gf × V)->List (List gf × Addr × Value)->Prop:=Paired fun p q=>p.1=q.1/\H q.2.1=some (.tup (p.1.map kV))/\cQ p.2 q.2.2
theorem KT.val{H:Hp}{kvs:List (List gf × V)}{xs:List (List gf × Addr × Value)}(r:KT H kvs xs)(k:List gf):oJ (fQ kvs k) ((atKey xs k).map (·.2)):=by
 induction r with
 | nil=>exact True.intro
 | @cons p q ps qs h t ih =>
  obtain ⟨h1,_,h2⟩:=h
  by_cases e:p.1=k
  .have e':q.1=k:=h1.symm.trans e
   have b:atKey (q::qs) k=some q.2:=by simp [atKey,List.find?_cons,e']
   rw [gn e,b];exact h2
  .have e':¬ q.1=k:=fun z=>e (h1.trans z)
   have b:atKey (q::qs) k=atKey qs k:=by simp [atKey,List.find?_cons,e']
   rw [gm e,b];exact ih
theorem KT.repl(r:KT H kvs xs)(k:List gf)(ry:cQ y u) :
  KT H (kvs.map fun kv=>if kv.1=k then (kv.1,y) else kv) (xs.map (putAt k u)):=by
 induction r with
 | nil=>exact .nil
 | @cons p q ps qs h t ih =>
  rw [List.map_cons,List.map_cons]
  refine .cons ?_ ih
  obtain ⟨h1,h2,h3⟩:=h
  unfold putAt
  by_cases e:p.1=k
  .rw [if_pos e,if_pos (h1.symm.trans e)];exact ⟨h1,h2,ry⟩
  .rw [if_neg e,if_neg (fun z=>e (h1.trans z))];exact ⟨h1,h2,h3⟩
theorem KT.put(r:KT H kvs xs)(k:List gf)(hb:H b=some (.tup (k.map kV)))(ry:cQ y u) :
  KT H (lD kvs k y) (storedH xs k b u):=by
 have e:(kvs.any fun kv=>decide (kv.1=k))=(atKey xs k).isSome:=by
  rw [uB,(r.val k).isSome_eq,Option.isSome_map]
 unfold lD storedH
 rw [e]
 by_cases q:(atKey xs k).isSome=true
 .rw [if_pos q,if_pos q];exact r.repl k ry
 .rw [if_neg q,if_neg q];exact Paired.snoc r ⟨rfl,hb,ry⟩
theorem KT.keeps(r:KT H kvs xs)(ht:∀ b ys,H b=some (.tup ys)->H' b=some (.tup ys)):KT H' kvs xs :=
 Paired.mapP r fun _ _ z=>⟨z.1,ht _ _ z.2.1,z.2.2⟩
section
variable{P:Program}{w:World}{H:Hp}{h:Heap}{a:Addr}
theorem T5(ok:qw P w H h)(e:Rd H a u):dW P w H h a u:=e.ok ok
theorem wB(ok:qw P w H h)(e:Rd H a (.dK kvs)):kvs.length<=sizeLine/\(a == sysModules)=false/\∃ vs,KV kvs vs/\h.DictOf (cY P w) a vs :=
 show dW P w H h a (.dK kvs) from T5 ok e
theorem Oa(ok:qw P w H h)(e:H a=some (.dK kvs)):kvs.length<=sizeLine/\(a == sysModules)=false/\∃ vs,KV kvs vs/\h.DictOf (cY P w) a vs:=wB ok (.inl e)
theorem vH(ok:qw P w H h)(e:H a=some (.tup (ks.map kV))):(tupleKind (cY P w)).is h ks a:=by
 obtain ⟨_,its,r,o,h1,h2,n,h3⟩:=(show dW P w H h a (.tup (ks.map kV)) from ok a _ e)
 exact ⟨o,its.toArray,n,h1,h2,h3,by simpa using BZ r⟩
theorem zf(ok:qw P w H h)(e:Rd H a (.dT kvs)):kvs.length<=sizeLine/\(a == sysModules)=false /\
  ∃ xs,KT H kvs xs/\h.DictOfH (tupleKind (cY P w)) a xs:=by
 obtain ⟨z,y,xs,r,o,es,ep,h1,h2,h3,h4,h5⟩:=(show dW P w H h a (.dT kvs) from T5 ok e)
 refine ⟨z,y,xs,r,o,es,ep,h1,h2,h3,h4,fun x hx=>?_,h5⟩
 have all:∀ {l:List (List gf × V)} {m:List (List gf × Addr × Value)},KT H l m->∀ x∈m,(tupleKind (cY P w)).is h x.1 x.2.1:=by
  intro l m q
  induction q with
  | nil=>intro x hx;exact nomatch hx
  | @cons p q ps qs hq t ih =>
   intro x hx
   rcases List.mem_cons.mp hx with e | hx
   .subst e
    exact vH ok (by rw [<- hq.1];exact hq.2.1)
   .exact ih x hx
 exact all r x hx
theorem Xn(ok:qw P w H h)(e:H a=some (.dT kvs)):kvs.length<=sizeLine/\(a == sysModules)=false /\
  ∃ xs,KT H kvs xs/\h.DictOfH (tupleKind (cY P w)) a xs:=zf ok (.inl e)
end
noncomputable def oE(H:Hp)(a:Addr)(y:V)(r:Option V):Prop :=
 (∃ kvs k,Rd H a (.dK kvs)/\y=kV k/\r=fQ kvs k)\/∃ kvs k b,Rd H a (.dT kvs)/\y=.ref b/\H b=some (.tup (k.map kV))/\r=fQ kvs k
noncomputable def Ib(H:Hp)(a:Addr)(y v:V)(H':Hp):Prop :=
 (∃ kvs k,H a=some (.dK kvs)/\y=kV k/\kvs.length<sizeLine/\H'=bQ H a (.dK (lD kvs k v))) \/
 ∃ kvs k b,H a=some (.dT kvs)/\y=.ref b/\H b=some (.tup (k.map kV))/\kvs.length<sizeLine/\H'=bQ H a (.dT (lD kvs k v))
theorem oE.k{H:Hp}{a:Addr}{kvs:List (gf × V)}{k:gf}(e:H a=some (.dK kvs)):oE H a (kV k) (fQ kvs k):=.inl ⟨kvs,k,.inl e,rfl,rfl⟩
theorem Ib.k{H:Hp}{a:Addr}{kvs:List (gf × V)}{k:gf}{v:V}(e:H a=some (.dK kvs))(hl:kvs.length<sizeLine):Ib H a (kV k) v (bQ H a (.dK (lD kvs k v))):=.inl ⟨kvs,k,e,rfl,hl,rfl⟩
section
variable{X:Cx}{pins:List (Addr × Obj)}{σ:St}{H:Hp}{s:Shared}{a:Addr}{y v:V}{u r:Value}{o:Option V}{A:Around}{E:Value->Shared->Prop}
theorem bj.big(I:bj X pins σ H s):sysModules<s.heap.objs.size:=by
 have h:mainGlobals<s.heap.objs.size:=(I.mod.glob.keeps I.bk).lt
 exact Nat.lt_trans (by decide) h
theorem Nr(hu:A.units+1<cLine)(I:bj X pins σ H s)(g:oE H a y (some v))(ry:cQ y u)(h:∀ w' s',bj X pins σ H s'->cQ v w'->Q w' s') :
  wpAny (model X.prog X.w) A (getItem (.ref a) u) Q E s:=by
 rcases g with ⟨kvs,k,e,ey,l⟩ | ⟨kvs,k,b,e,ey,eb,l⟩
 .subst ey
  obtain ⟨z,hd,vs,rel,dd⟩:=wB I.hok e
  obtain ⟨w',hw,rw'⟩:=oJ.some_of (v:=v) (o:=valueAt vs k) (by rw [l];exact rel.val k)
  exact wpAny_getItem_of (v9 ry) dd.mapOf hw (h w' _ (I.tok _) rw')
 .subst ey
  cases (show u=Value.ref b from ry)
  obtain ⟨z,hd,xs,rel,dd⟩:=zf I.hok e
  obtain ⟨w',hw,rw'⟩:=oJ.some_of (v:=v) (o:=(atKey xs k).map (·.2)) (by rw [l];exact rel.val k)
  obtain ⟨p,hp,hp2⟩:=Option.map_eq_some_iff.mp hw
  refine wpAny_getItem_heap (tupleKind_room_in1 hu) (vH I.hok eb) dd hp ?_
  rw [hp2]
  exact h w' _ (I.tok _) rw'
theorem ZK(hu:A.units+1<cLine)(I:bj X pins σ H s)(g:oE H a y o)(ry:cQ y u)(h:∀ s',bj X pins σ H s'->Q (.bool o.isSome) s') :
  wpAny (model X.prog X.w) A (compareOp .In u (.ref a)) Q E s:=by
 rcases g with ⟨kvs,k,e,ey,l⟩ | ⟨kvs,k,b,e,ey,eb,l⟩
 .subst ey
  obtain ⟨z,hd,vs,rel,dd⟩:=wB I.hok e
  refine wpAny_in_of (v9 ry) hd dd.mapOf ?_
  rw [<- (rel.val k).isSome_eq,<- l]
  exact h _ (I.tok _)
 .subst ey
  cases (show u=Value.ref b from ry)
  obtain ⟨z,hd,xs,rel,dd⟩:=zf I.hok e
  refine wpAny_in_heap (tupleKind_room_in1 hu) (vH I.hok eb) hd dd ?_
  have q:=(rel.val k).isSome_eq
  rw [Option.isSome_map] at q
  rw [<- q,<- l]
  exact h _ (I.tok _)
theorem RG(hu:A.units+1<cLine)(I:bj X pins σ H s)(g:oE H a y o)(ry:cQ y u)(h:∀ s',bj X pins σ H s'->Q (.bool (!o.isSome)) s') :
  wpAny (model X.prog X.w) A (compareOp .NotIn u (.ref a)) Q E s:=by
 rcases g with ⟨kvs,k,e,ey,l⟩ | ⟨kvs,k,b,e,ey,eb,l⟩
 .subst ey
  obtain ⟨z,hd,vs,rel,dd⟩:=wB I.hok e
  refine wpAny_notIn_of (v9 ry) hd dd.mapOf ?_
  rw [<- (rel.val k).isSome_eq,<- l]
  exact h _ (I.tok _)
 .subst ey
  cases (show u=Value.ref b from ry)
  obtain ⟨z,hd,xs,rel,dd⟩:=zf I.hok e
  refine wpAny_notIn_heap (tupleKind_room_in1 hu) (vH I.hok eb) hd dd ?_
  have q:=(rel.val k).isSome_eq
  rw [Option.isSome_map] at q
  rw [<- q,<- l]
  exact h _ (I.tok _)
theorem Lh(I:bj X pins σ H s)(mu:Xo (H a))(hs:Heap.SameBut a s.heap h')(he:∃ q,h'.get? a=some q)(new:dW X.prog X.w (bQ H a ob) h' a ob) :
  bj X pins σ (bQ H a ob) { s with heap:=h',toks:=t' } :=
 I.write (x:=a) (e:=a) mu (.inl rfl) (fun b q hb z=>(hs.2 b hb).trans z) he new
theorem JB(z:kvs.length<=sizeLine)(hd:(a == sysModules)=false)(rel:KV kvs vs)(dd:h'.DictOf (cY P w) a vs) :
  dW P w H' h' a (.dK kvs):=⟨z,hd,vs,rel,dd⟩
theorem Mt(hu:A.units+1<cLine)(I:bj X pins σ H s)(g:Ib H a y v H')(ry:cQ y u)(rv:cQ v r)(h:∀ s',bj X pins σ H' s'->Q () s') :
  wpAny (model X.prog X.w) A (setItem (.ref a) u r) Q E s:=by
 rcases g with ⟨kvs,k,e,ey,l,eH⟩ | ⟨kvs,k,b,e,ey,eb,l,eH⟩
 .subst ey eH
  obtain ⟨z,hd,vs,rel,dd⟩:=Oa I.hok e
  have hz:vs.length<=sizeLine:=by rw [<- rel.length];exact z
  have hl:(lD kvs k v).length<=sizeLine:=by have:=v8 kvs k v;omega
  refine wpAny_setItem_pairs (hsz:=hz) (v9 ry) dd fun h' dd' hs=>h _ ?_
  have he:∃ q,h'.get? a=some q:=let ⟨q,_,_,hq,_⟩:=dd';⟨q,hq⟩
  exact Lh I (by rw [e];exact True.intro) hs he (JB hl hd (rel.put k rv) dd')
 .subst ey eH
  cases (show u=Value.ref b from ry)
  obtain ⟨z,hd,xs,rel,dd⟩:=Xn I.hok e
  have hz:xs.length<=sizeLine:=by rw [<- Paired.length rel];exact z
  have hl:(lD kvs k v).length<=sizeLine:=by have:=v8 kvs k v;omega
  refine wpAny_setItem_heap (hsz:=hz) (tupleKind_room_in1 hu) (vH I.hok eb) dd fun h' dd' hs=>h _ ?_
  obtain ⟨q,es,ep,hq,h2,h3,h4,_,h5⟩:=dd'
  refine Lh I (by rw [e];exact True.intro) hs ⟨q,hq⟩ ⟨hl,hd,_,(rel.put k eb rv).keeps fun c ys ec=>?_,q,es,ep,hq,h2,h3,h4,h5⟩
  rw [aA (gA ec e (fun z=>nomatch z))]
  exact ec
end
section
variable{X:Cx}{pins:List (Addr × Obj)}{σ:St}{H:Hp}{s:Shared}{a:Addr}{kvs:List (gf × V)}{k:gf}{u:Value}{A:Around}{E:Value->Shared->Prop}
theorem XS(I:bj X pins σ H s)(e:Rd H a (.dK kvs))(h:∀ t s',bj X pins σ H s'->Q (.int kvs.length t) s'):wpAny (model X.prog X.w) A (call (.builtin "len") [.ref a]) Q E s:=by
 obtain ⟨z,hd,vs,rel,dd⟩:=wB I.hok e
 refine call_len_dict hd dd (by rw [<- rel.length];rw [sizeLine_eq] at z;omega) ?_
 rw [<- rel.length]
 exact h _ _ (I.tok _)
end
noncomputable def VJ(i:Expr):Prop:=∀ ov iv,subscripted i false ov iv=operate [ov,iv] (getItem ov iv)
theorem KJ{prog:Program}{w:World}{A:Around}{E:Value->Shared->Prop}{s:Shared}{env:Env}{value slice:Expr}{pos:Pos}{T id:String}{Q:Value->Shared->Prop}
  (hl:typeLookup (.type T) "__getitem__"=pure (some (.builtin id))) (hs:VJ slice)
  (h:wpAny (model prog w) A (eval value env) (fun o s₁=>wpAny (model prog w) A (eval slice env) (fun i s₂=>s₂.TypeIs o T/\wpAny (model prog w) A (getItem o i) Q E s₂) E s₁) E s) :
  wpAny (model prog w) A (eval (.Subscript value slice pos) env) Q E s:=by
 refine Subscript_ (wpAny_mono h (fun o s₁ h₁=>wpAny_mono h₁ (fun i s₂ h₂=>?_) fun _ _ x=>x) fun _ _ x=>x)
 obtain ⟨hT,h₂⟩:=h₂
 unfold subscriptTail
 refine wpAny_bind ?_
 rw [getitemInPython_of_ne hT.not_modules]
 refine wpAny_bind (wpAny_specialOf hT hl ?_)
 have fin:wpAny (model prog w) A (subscripted slice false o i) (fun r s₃=>wpAny (model prog w) A (letTemporaryGo value o r >>= fun _=>pure r) Q E s₃) E s₂:=by
  rw [hs o i]
  exact wpAny_operating (wpAny_mono h₂ (fun r s₃ h₃=>wpAny_bind (wpAny_letTemporaryGo (wpAny_pure h₃))) fun _ _ x=>x)
 first
  | exact wpAny_pure (wpAny_bind fin)
  | exact wpAny_bind (wpAny_pure (wpAny_bind fin))
  | exact wpAny_bind fin
theorem Fl(I:bj X pins σ H s)(g:oE H a y o):s.TypeIs (.ref a) "dict":=by
 rcases g with ⟨kvs,k,e,_,_⟩ | ⟨kvs,k,b,e,_,_,_⟩
 .obtain ⟨_,_,vs,_,dd⟩:=wB I.hok e
  exact dd.typeIs
 .obtain ⟨_,_,xs,_,dd⟩:=zf I.hok e
  exact dd.typeIs
noncomputable def Xx(x y:V)(H2:Hp)(Q:VK)(a:Addr)(v:V):Prop:=x=.ref a/\oE H2 a y (some v)/\Q v H2
noncomputable def Wh(x:V)(Q:VK):VK:=fun y H2=>Exists (E2 (Xx x y H2 Q))
noncomputable def WM(ty:TE)(σ:St)(Q:VK):VK:=fun x H1=>ty σ H1 (Wh x Q)
noncomputable def WR(td ty:TE):TE:=fun σ H Q=>td σ H (WM ty σ Q)
noncomputable def Yy(y x:V)(H2:Hp)(Q:VK)(a:Addr)(o:Option V):Prop:=x=.ref a/\oE H2 a y o/\Q (.bl (o.isSome)) H2
noncomputable def Xm(y:V)(Q:VK):VK:=fun x H2=>Exists (E2 (Yy y x H2 Q))
noncomputable def YC(td:TE)(σ:St)(Q:VK):VK:=fun y H1=>td σ H1 (Xm y Q)
noncomputable def Zg(ty td:TE):TE:=fun σ H Q=>ty σ H (YC td σ Q)
noncomputable def Su(y x:V)(H2:Hp)(Q:VK)(a:Addr)(o:Option V):Prop:=x=.ref a/\oE H2 a y o/\Q (.bl (!o.isSome)) H2
noncomputable def Pr(y:V)(Q:VK):VK:=fun x H2=>Exists (E2 (Su y x H2 Q))
noncomputable def RC(td:TE)(σ:St)(Q:VK):VK:=fun y H1=>td σ H1 (Pr y Q)
noncomputable def Tp(ty td:TE):TE:=fun σ H Q=>ty σ H (RC td σ Q)
noncomputable def XH(td ty tv:TE):TS:=fun D σ H=>tv σ H fun v H1=>td σ H1 fun x H2=>ty σ H2 fun y H3=>∃ a H4,x=.ref a/\Ib H3 a y v H4/\D.nx σ H4
section
variable{X:Cx}{o i e value:Expr}{pos pos' tpos:Pos}{td ty tv:TE}
theorem rY(hu:X.A.units+1<cLine)(ho:PE X o td)(hi:PE X i ty)(hs:VJ i):PE X (.Subscript o i pos) (WR td ty):=by
 intro pins s σ H Q I h
 refine KJ PySem.F.slot_dict_getitem.lookup hs (dg (ho pins s σ H _ I h) fun u s1 ⟨x,H1,I1,rx,q1⟩=>dg (hi pins s1 σ H1 _ I1 q1) fun iv s2 ⟨y,H2,I2,ry,a,v,ex,g,q2⟩=>?_)
 subst ex
 obtain rfl:u=Value.ref a:=rx
 exact ⟨Fl I2 g,Nr hu I2 g ry fun w' s3 I3 rw'=>⟨v,H2,I3,rw',q2⟩⟩
theorem Q7(hu:X.A.units+1<cLine)(hi:PE X i ty)(ho:PE X o td):PC X .In i o (Zg ty td):=by
 intro pins s σ H Q I h
 refine dg (hi pins s σ H _ I h) fun iv s1 ⟨y,H1,I1,ry,q1⟩=>dg (ho pins s1 σ H1 _ I1 q1) fun u s2 ⟨x,H2,I2,rx,a,ov,ex,g,q2⟩=>?_
 subst ex
 obtain rfl:u=Value.ref a:=rx
 exact ZK hu I2 g ry fun s3 I3=>⟨.bl ov.isSome,H2,I3,rfl,q2⟩
theorem Mh(hu:X.A.units+1<cLine)(hi:PE X i ty)(ho:PE X o td):PC X .NotIn i o (Tp ty td):=by
 intro pins s σ H Q I h
 refine dg (hi pins s σ H _ I h) fun iv s1 ⟨y,H1,I1,ry,q1⟩=>dg (ho pins s1 σ H1 _ I1 q1) fun u s2 ⟨x,H2,I2,rx,a,ov,ex,g,q2⟩=>?_
 subst ex
 obtain rfl:u=Value.ref a:=rx
 exact RG hu I2 g ry fun s3 I3=>⟨.bl (!ov.isSome),H2,I3,rfl,q2⟩
theorem Dj(hu:X.A.units+1<cLine)(ho:PE X o td)(hi:PE X i ty)(hv:PE X value tv)(hs:swapsWith value (some (.Subscript o i pos')) pos.line X.env=pure false) :
  PS X (.Assign [.Subscript o i pos'] value pos) (XH td ty tv):=by
 intro pins s σ H D I h
 refine wpAny_Assign_Subscript (dg (hv pins s σ H _ I h) fun r s1 ⟨v,H1,I1,rv,q1⟩=>dg (ho pins s1 σ H1 _ I1 q1) fun u s2 ⟨x,H2,I2,rx,q2⟩=>dg (hi pins s2 σ H2 _ I2 q2) fun iv s3 ⟨y,H3,I3,ry,a,H4,ex,g,q3⟩=>?_) hs
 subst ex
 obtain rfl:u=Value.ref a:=rx
 exact Mt hu I3 g ry rv fun s4 I4=>⟨σ,H4,I4,q3⟩
end
theorem O4(h:Heap)(hb:sysModules<h.objs.size):dW P w H (h.push { cls:=.type "dict",data:=.dict #[] }) h.objs.size (.dK []) :=
 ⟨Nat.zero_le _,beq_eq_false_iff_ne.mpr (Ne.symm (Nat.ne_of_lt hb)),[],.nil,Heap.DictOf.new h⟩
noncomputable def Wa:TE:=fun _ H Q=>∀ p,H p=none->Q (.ref p) (bQ H p (.dK []))
section
variable{X:Cx}{pos:Pos}
theorem rC:PE X (.Dict [] [] pos) Wa:=fun pins s σ H Q I h =>
 wpAny_Dict_empty ⟨.ref s.heap.objs.size,_,I.laid (a:=s.heap.objs.size) (o:=.dK []) (t':=s.toks) (fun _ _ q=>Heap.get?_push_of_some _ q) (Nat.le_refl _) (O4 s.heap I.big),rfl,h _ (I.hok.fresh (Nat.le_refl _))⟩
end
structure M1(X:Cx)(o:Expr)(m:Str)(apos:Pos)(e:Expr)(cpos:Pos):Prop where
 base:attributeBase o m X.env (eval o X.env)=eval o X.env
 few:((backTo cpos (starEach [e] X.env)).all (fun x=>!x.1) && (backToKw cpos (keywordEach [] X.env)).all (fun x=>x.1.isSome)
  && decide (([e]:List Expr).length+([]:List Keyword).length+(if ([]:List Keyword).isEmpty then 0 else 1)<30))=true
 line:(apos.endLine == cpos.line)=true
 trees:backTo cpos (starEach [e] X.env)=[(false,eval e X.env)]
structure M2(X:Cx)(o:Expr)(m:Str)(apos:Pos)(e f:Expr)(cpos:Pos):Prop where
 base:attributeBase o m X.env (eval o X.env)=eval o X.env
 few:((backTo cpos (starEach [e,f] X.env)).all (fun x=>!x.1) && (backToKw cpos (keywordEach [] X.env)).all (fun x=>x.1.isSome)
  && decide (([e,f]:List Expr).length+([]:List Keyword).length+(if ([]:List Keyword).isEmpty then 0 else 1)<30))=true
 line:(apos.endLine == cpos.line)=true
 trees:backTo cpos (starEach [e,f] X.env)=[(false,eval e X.env),(false,eval f X.env)]
noncomputable def Z0(H:Hp)(a:Addr):Prop:=(∃ kvs,Rd H a (.dK kvs))\/∃ kvs,Rd H a (.dT kvs)
theorem Qp(I:bj X pins σ H s)(d:Z0 H a) :
  s.TypeIs (.ref a) "dict"/\(∀ b,Value.ref a=.ref b->∃ ob,s.heap.get? b=some ob/\ob.dict=none)/\(a == sysModules)=false:=by
 rcases d with ⟨kvs,e⟩ | ⟨kvs,e⟩
 .obtain ⟨_,hd,vs,_,dd⟩:=wB I.hok e
  refine ⟨dd.typeIs,fun b q=>?_,hd⟩
  cases q
  obtain ⟨ob,_,_,h1,h2,_⟩:=dd
  exact ⟨ob,h1,h2.2.1⟩
 .obtain ⟨_,hd,xs,_,dd⟩:=zf I.hok e
  refine ⟨dd.typeIs,fun b q=>?_,hd⟩
  cases q
  obtain ⟨ob,_,_,h1,h2,_⟩:=dd
  exact ⟨ob,h1,h2.2.1⟩
section
variable{X:Cx}{pins:List (Addr × Obj)}{σ:St}{H:Hp}{s:Shared}{a:Addr}{y d:V}{u r:Value}{o:Option V}{A:Around}{E:Value->Shared->Prop}
theorem Vf(hu:A.units+1<cLine)(I:bj X pins σ H s)(g:oE H a y o)(ry:cQ y u)(rd:cQ d r)(h:∀ w' s',bj X pins σ H s'->cQ (o.getD d) w'->Q w' s') :
  wpAny (model X.prog X.w) A (call (.builtin "dict.get") [.ref a,u,r]) Q E s:=by
 rcases g with ⟨kvs,k,e,ey,l⟩ | ⟨kvs,k,b,e,ey,eb,l⟩
 .subst ey
  obtain ⟨z,hd,vs,rel,dd⟩:=wB I.hok e
  refine call_meetsIn PySem.F.slot_dict_get dd.typeIs PySem.F.entry_dict_get (PySem.F.args_dict_get_3 _ _ _) (meets_dict_get_default (cY X.prog X.w) a (v9 ry) hd r) ⟨_,dd.mapOf,h _ _ (I.tok _) ?_⟩
  rw [l]
  exact (rel.val k).getD rd
 .subst ey
  cases (show u=Value.ref b from ry)
  obtain ⟨z,hd,xs,rel,dd⟩:=zf I.hok e
  refine call_meetsIn PySem.F.slot_dict_get dd.typeIs PySem.F.entry_dict_get (PySem.F.args_dict_get_3 _ _ _) (meetsH_dict_get_default (tupleKind (cY X.prog X.w)) a b hd r) ⟨tupleKind_room_in1 hu,k,xs,vH I.hok eb,dd,h _ _ (I.tok _) ?_⟩
  rw [l]
  exact (rel.val k).getD rd
end
noncomputable def VM(td ty tx:TE):TE:=fun σ H Q=>td σ H fun x H1=>∃ a,x=.ref a/\Z0 H1 a/\ty σ H1 fun y H2=>tx σ H2 fun z H3=>∃ o,oE H3 a y o/\Q (o.getD z) H3
section
variable{X:Cx}{o e f:Expr}{apos cpos:Pos}{td ty tx:TE}
theorem Qs(hu:X.A.units+1<cLine)(ho:PE X o td)(he:PE X e ty)(hf:PE X f tx)(m:M2 X o "get" apos e f cpos):PE X (.Call (.Attribute o "get" apos) [e,f] [] cpos) (VM td ty tx):=by
 intro pins s σ H Q I h
 refine wpAny_Call_method m.base m.few m.line PySem.F.plainAttrs_dict PySem.F.slot_dict_get PySem.F.type_dict_get (dg (ho pins s σ H _ I h) fun u s1 ⟨x,H1,I1,rx,a,ex,d,q1⟩=>?_)
 subst ex
 obtain rfl:u=Value.ref a:=rx
 obtain ⟨t1,t2,_⟩:=Qp I1 d
 refine ⟨t1,t2,?_⟩
 rw [m.trees]
 refine Calls.callWith_builtin rfl (Calls.evalArgs_plain (Calls.spliced_cons (dg (he pins s1 σ H1 _ I1 q1) fun iv s2 ⟨y,H2,I2,ry,q2⟩ =>
  Calls.spliced_cons (dg (hf pins s2 σ H2 _ I2 q2) fun fv s3 ⟨z,H3,I3,rz,ov,g,q3⟩=>Calls.spliced_nil ?_))))
 exact Vf hu I3 g ry rz fun w' s4 I4 rw'=>⟨_,H3,I4,rw',q3⟩
end
section
variable{X:Cx}{pins:List (Addr × Obj)}{σ:St}{H:Hp}{s:Shared}{a:Addr}{kvs:List (gf × V)}{A:Around}{E:Value->Shared->Prop}
end
section
variable{X:Cx}{pins:List (Addr × Obj)}{σ:St}{H:Hp}{s:Shared}{a:Addr}{y:V}{u:Value}{A:Around}{E:Value->Shared->Prop}
end
end L2
namespace Att
open PySem PySem.W PySem.Calls PyProof.Rows
theorem wF:∀ (ns:List Int) (vs:List Value),WellAll P h vs (ns.map WData.int)->IntsAre vs ns:=by
 intro ns
 induction ns with
 | nil =>
  intro vs w
  rw [List.map_nil] at w
  cases w
  exact .nil
 | cons n ns ih =>
  intro vs w
  rw [List.map_cons] at w
  cases w with
  | cons a b =>
   cases a
   exact .cons _ _ (ih _ b)
theorem Ly{l:OpenLaw}{n:Nat}(hn:l.most=some n){P:Params}{h:Heap}{args:List WData}{vals:List Value}
  (hpre:l.row.toRowW.claim.pre args=true) (hwl:WellAll P h vals args) :
  ∃ a vs ns,vals=[Value.ref a]/\args=[WData.list (ns.map WData.int)]/\h.get? a=some { cls:=.type "list",data:=.seq vs.toArray }/\IntsAre vs ns/\ns.length<=n:=by
 have hsh:WShape.hasAll [] args [.list .int]=true:=(pre_splitW hpre).1
 have hc:l.pre.holds [] { args:=args }=true:=(pre_splitW hpre).2
 obtain ⟨d,r,rfl,h1,h2⟩:=hasAllW_cons hsh
 obtain rfl:=hasAllW_nil h2
 obtain ⟨xs,rfl,h3⟩:=hasW_list h1
 obtain ⟨ns,rfl⟩:=items_int h3
 have hlen:ns.length<=n:=by
  unfold OpenLaw.pre at hc
  have h4:(WTm.not (.lt (.lit (.int (n:Int))) (.len (.arg 0)))).holds [] { args:=[.list (ns.map .int)] }=true:=by
   have h4:=(holds_andW hc).1
   rw [hn] at h4
   exact h4
  have h5:=condW_of h4 (w_not (w_lt w_lit (w_len_list (w_arg rfl))))
  rw [List.length_map] at h5
  refine Nat.le_of_not_lt fun q=>?_
  have q':(n:Int)<((ns.length:Nat):Int):=by omega
  first
   | (rw [decide_eq_true q'] at h5;exact absurd h5 (by decide))
   | (simp at h5;omega)
 cases hwl with
 | cons w1 w2 =>
  cases w2
  cases w1 with
  | list ho hall=>exact ⟨_,_,ns,rfl,rfl,ho,wF ns _ hall,hlen⟩
theorem LQ(l:OpenLaw)(args:List WData):l.row.toRowW.claim.post args (.bool true) args=true :=
 postW_of (r:=l.row.toRowW) (X:=(true == true))
  (show WShape.has [] (.bool true) .bool=true by first | rfl | decide | simp [WShape.has,WShape.arms,WShape.armsAll])
  (show (WTm.eq .res (.lit (.bool true))).value [] { args:=args,res:=some (.bool true),after:=args }=some (.bool (true == true)) from w_eq_bool (w_res rfl) w_lit) rfl
theorem attach_call{l:OpenLaw}{n:Nat}{q:Program}{loose:List Str}{XP:(Str->Option Value)->Heap->Prop}{YP:World->Heap->Prop}{d:DefRec}
  (hn:l.most=some n) (hdf:d.params.defaults=[])
  (call:∀ (w:World) (s₀ s₁:Shared) (mg mb:Str->Option Value) (fa:Addr) (o:Obj) (pm cd doc:Value) (a:Addr) (vs:List Value) (ns:List Int),
   Ground q loose [] XP w s₀ mg mb s₁.heap->YP w s₁.heap ->
   s₁.heap.get? fa=some o->o.data=.func (docDef d.name d.params d.body d.scope pm cd doc)->s₁.heap.CodeRec cd d.name->mg d.name=some (.ref fa) ->
   s₁.heap.get? a=some { cls:=.type "list",data:=.seq vs.toArray }->IntsAre vs ns->ns.length<=n->s₁.gens=#[] ->
   codeAny (model l.prog w) callerA (.call (.ref fa) ⟨[.ref a],[]⟩) (fun r s'=>r=.ok (.ret (.bool true))/\OldK s₁.heap s'.heap/\s'.os=s₁.os/\AllBare s'.gens) s₁) :
  WalkO q loose XP YP l.row.toRowW d [] (fun f vs=>PySem.call f vs):=by
 intro w s₀ s₁ mg mb G Y fa o pm cd doc dV kV ho hd hcd hD hmg hg args vals as hpre hlay hrd hwl hlo
 obtain rfl:dV=.none:=Dflts.none hD hdf
 obtain rfl:kV=.none:=Dflts.noKw hD
 obtain ⟨a,vs,ns,rfl,rfl,hobj,hints,hlen⟩:=Ly hn hpre hwl
 refine enter_call (codeAny_mono (call w s₀ s₁ mg mb fa o pm cd doc a vs ns G Y ho (fd_plain hd) hcd hmg hobj hints hlen hg) fun r s' hq=>?_)
 obtain ⟨rfl,h2,h3,h4⟩:=hq
 exact ⟨.inl ⟨.bool true,.bool true,[],rfl,fun _=>rfl,.bool true,LQ l _,fun _=>⟨List.Pairwise.nil,fun _ hm=>(nomatch hm)⟩⟩,h2,h3,h4⟩
section
variable{prog:Program}{w:World}{A:Around}{E:Value->Shared->Prop}{s:Shared}{K:Frag}
end
end Att
namespace L2
open PySem PySem.Spec PyProof.Rows
theorem Ax:∀ {vs:List Value} {ns:List Int},IntsAre vs ns->cI (ns.map V.int) vs
 | _,_,.nil=>.nil
 | _,_,.cons n t h=>.cons ⟨t,rfl⟩ (Ax h)
noncomputable abbrev KOf{K:PySem.W.Frag}{h:Heap}(_:K.In h):PySem.W.Frag:=K
noncomputable def dF(s:Stmt)(j:Nat):Stmt:=match s with
 | .ClassDef _ _ _ body _ _ _ _ _ _ _=>body.getD j (.Pass ⟨0,0,0,0⟩)
 | _=>.Pass ⟨0,0,0,0⟩
noncomputable def ik(s:Stmt):Arguments:=match s with
 | .FunctionDef _ a _ _ _ _ _ _ _ _=>a
 | _=>{ posonlyargs:=[],args:=[],vararg:=none,kwonlyargs:=[],kw_defaults:=[],kwarg:=none,defaults:=[] }
noncomputable def eN(s:Stmt):List Stmt:=match s with
 | .FunctionDef _ _ b _ _ _ _ _ _ _=>b
 | _=>[]
noncomputable def az(s:Stmt):Scope:=match s with
 | .FunctionDef _ _ _ _ _ _ sc _ _ _=>sc
 | _=>{ kind:=.function,names:=[],isGenerator:=false,isCoroutine:=false }
noncomputable abbrev cX:zJ:=fun _ _ _ _ _ _=>False
noncomputable abbrev E0:St->XK:=fun _ _ _ _=>False
theorem aM:kZ cX X E0:=fun _ _ _ _ _ _ _ h=>h.elim
structure dq(K:PySem.W.Frag)(x qual:Str)(st:Stmt)(f:Addr)(fd:FuncData):Prop where
 ex:∃ (oc:Value) (od:Option Addr) (kV doc pm:Value) (an:Option Addr) (cdv ct:Value) (osl:Array (Option Value)),
  fd=PySem.W.fnOf x qual (ik st) (eN st) (az st) .none kV doc pm an cdv ct/\K.lookup f=some ⟨oc,od,.func fd,osl⟩/\PySem.W.codeIn K cdv qual=true
 kp:PySem.W.keepIn K (.ref f)=true
section
variable{P:Program}{w:World}{K:PySem.W.Frag}{mg:Str->Option Value}{base:Heap}
theorem dq.ok{x qual:Str}{st:Stmt}{f:Addr}{fd:FuncData}{N ps:List Str}{k:Nat}{sp:Sp}(F:dq K x qual st f fd)(S:aG N ps (az st))(len:∀ vs H Q E,sp vs H Q E->vs.length=ps.length)
  (hbody:∀ (cdv:Value) (A:Around) (outer:List Env) (s:Shared) (H:Hp) (vs:List V) (Q:VK) (E:XK),cO k (A.deeper (envOfC qual (az st) s.heap.objs.size f cdv))->sp vs H Q E ->
   ∃ t,xW (bU cX P w K mg base N qual (az st) f cdv A outer s H E).nox (eN st) t/\t { nx:=fun _ H'=>Q .non H',rt:=Q } (lJ N vs) H):bf P w K mg base cX (k+1) f fd ps sp:=by
 obtain ⟨oc,od,kV,doc,pm,an,cdv,ct,osl,rfl,lk,hcd⟩:=F.ex
 refine Qv lk hcd S len fun A outer s H vs Q E hr hsp=>?_
 obtain ⟨t,h,q⟩:=hbody cdv A outer s H vs Q E hr hsp
 exact ⟨t,h.nox,q⟩
theorem dq.oq{x qual:Str}{st:Stmt}{f:Addr}{fd:FuncData}{N ps:List Str}{k:Nat}{sp:Sp}(F:dq K x qual st f fd)(S:aG N ps (az st))
  (hbody:∀ (cdv:Value) (A:Around) (outer:List Env) (s:Shared) (H:Hp) (vs:List V) (Q:VK) (E:XK),cO k (A.deeper (envOfC qual (az st) s.heap.objs.size f cdv))->sp vs H Q E ->
   ∃ t,xW (bU cX P w K mg base N qual (az st) f cdv A outer s H E).nox (eN st) t/\t { nx:=fun _ H'=>Q .non H',rt:=Q } (lJ N vs) H) (len:∀ vs H Q E,sp vs H Q E->vs.length=ps.length:=by intro _ _ _ _ h;repeat (first | (obtain ⟨rfl,_⟩:=h;rfl) | obtain ⟨_,h⟩:=h)):bf P w K mg base cX (k+1) f fd ps sp :=
 F.ok S len hbody
theorem dq.binds{x qual:Str}{st:Stmt}{f:Addr}{fd:FuncData}{ps:List Str}(F:dq K x qual st f fd)
  (h:∀ (kV doc pm:Value) (an:Option Addr) (cdv ct:Value) (us:List Value),us.length=ps.length->bindArgs (PySem.W.fnOf x qual (ik st) (eN st) (az st) .none kV doc pm an cdv ct) ⟨us,[]⟩=pure (ps.zip us)):dR K fd ps []:=by
 obtain ⟨oc,od,kV,doc,pm,an,cdv,ct,osl,rfl,lk,hcd⟩:=F.ex
 exact .all (h kV doc pm an cdv ct)
theorem Cq{x qual:Str}{st:Stmt}{f:Addr}{oc:Value}{od an:Option Addr}{osl:Array (Option Value)}{kV doc pm cdv ct:Value}(l:K.lookup f=some ⟨oc,od,.func (PySem.W.fnOf x qual (ik st) (eN st) (az st) .none kV doc pm an cdv ct),osl⟩)
  (c:PySem.W.codeIn K cdv qual=true) (k:PySem.W.keepIn K (.ref f)=true):dq K x qual st f (PySem.W.fnOf x qual (ik st) (eN st) (az st) .none kV doc pm an cdv ct):=⟨⟨oc,od,kV,doc,pm,an,cdv,ct,osl,rfl,l,c⟩,k⟩
end
theorem ql(hr:cO k A):A.units+1<cLine:=Nat.lt_of_le_of_lt (Nat.add_le_add_left (by decide:1<=64) _) hr.units
section
variable{X:Cx}
theorem pv(i:Nat)(hN:X.N[i]?=some x:=by rfl)(hv:Ym X.env.scope x:=by first | exact Or.inl rfl | exact Or.inr (Or.inl rfl) | exact Or.inr (Or.inr rfl))(hd:(x == ("__debug__":Str))=false:=by decide)
  (hcd:(x == ("__classdict__":Str))=false:=by decide):PE X (.Name x pos) (cP i):=V6 hN hv hd hcd
theorem M5:lW X (.builtin "len") (fun xs H Q=>∃ a kvs,xs=[V.ref a]/\H a=some (.dK kvs)/\Q (.int kvs.length) H):=by
 intro pins s σ H xs us Q I r h
 obtain ⟨a,kvs,rfl,ha,q⟩:=h
 obtain ⟨u,rfl,ru⟩:=lu r
 cases ru
 exact XS I (.inl ha) fun t s' I'=>⟨.int kvs.length,H,I',⟨t,rfl⟩,q⟩
end
theorem cJ{A B:Prop}(h:B):if false=true then A else B:=by
 rw [if_neg Bool.false_ne_true]
 exact h
theorem eG{A B:Prop}(h:A):if true=true then A else B:=by
 rw [if_pos rfl]
 exact h
theorem vq{c A B:Prop}[Decidable c](h1:c->A)(h2:¬ c->B):if c then A else B:=by
 by_cases h:c
 .rw [if_pos h]
  exact h1 h
 .rw [if_neg h]
  exact h2 h
theorem Ka{c A B:Prop}[Decidable c](hc:c)(h:B):if (!decide c)=true then A else B:=by
 rw [decide_eq_true hc]
 exact cJ h
noncomputable def aR(H H':Hp):Prop:=∀ b o,H b=some o->H' b=some o
theorem aR.refl(H:Hp):aR H H:=fun _ _ h=>h
theorem aR.trans(a:aR H H1)(b:aR H1 H2):aR H H2:=fun c o h=>b c o (a c o h)
theorem aR.free(e:aR H H')(h:H' l=Option.none):H l=Option.none:=by
 cases q:H l with
 | none=>rfl
 | some o =>
  rw [e l o q] at h
  cases h
theorem aR.seq{K:PySem.W.Frag}{H H':Hp}{a:Addr}{xs:List V}(e:aR H H')(h:c7 K H a xs):c7 K H' a xs:=by
 rcases h with (h | ⟨o,h⟩) | h
 .exact .inl (.inl (e _ _ h))
 .exact .inl (.inr ⟨o,e _ _ h⟩)
 .exact .inr h
section
variable{κ:Type}[DecidableEq κ]
end
theorem dW.ex(x:dW P w H h a o):∃ u,h.get? a=some u:=by
 cases o with
 | lst xs=>obtain ⟨_,its,n,_,e⟩:=x;exact ⟨_,e⟩
 | tup xs=>obtain ⟨_,its,_,o,e,_⟩:=x;exact ⟨o,e⟩
 | dK kvs=>obtain ⟨_,_,vs,_,o,es,ep,e,_⟩:=x;exact ⟨o,e⟩
 | dT kvs=>obtain ⟨_,_,xs,_,o,es,ep,e,_⟩:=x;exact ⟨o,e⟩
 | set S n=>obtain ⟨o,_,_,_,e,_⟩:=x;exact ⟨o,e⟩
 | ins C dx fs=>obtain ⟨_,_,_,e,_⟩:=x;exact ⟨_,e⟩
 | own b=>exact x
 | xd fs=>obtain ⟨mA,n,_⟩:=x;obtain ⟨o,_,_,e,_⟩:=n;exact ⟨o,e⟩
 | met f b=>exact ⟨_,x⟩
 | rng lo hi=>obtain ⟨_,_,_,e⟩:=x;exact ⟨_,e⟩
 | frz ob u=>exact ⟨_,x.1⟩
 | tbl ps=>exact ⟨_,x⟩
 | ext φ=>exact x.2.1
structure Gg(P:Program)(w:World)(outer:List Env)(H:Hp)(s:Shared)(a:Addr)(c:Value)(H':Hp)(s':Shared):Prop where
 os:s'.os=s.os
 bare:AllBare s'.gens
 un:Un (qz outer) [] H H' s.heap s'.heap
 hok:qw P w H' s'.heap
 fly:∃ (B:Heap) (t:Addr),Heap.FlyingW B outer a c (.ref t) s'.heap/\∀ b o,s'.heap.get? b=some o->b∉qz outer->((∃ o',s.heap.get? b=some o')\/(H' b).isSome=true)->B.get? b=some o
noncomputable def vY(P:Program)(w:World):zJ:=fun outer H s E e s'=>∃ a c H',e=.ref a/\Gg P w outer H s a c H' s'/\E c none H'
section
variable{P:Program}{w:World}{outer:List Env}{H H':Hp}{s s':Shared}{a:Addr}{c:Value}{B h5:Heap}
theorem xJ(u:Un (qz outer) [] H H' s.heap s'.heap)(hok:qw P w H' s'.heap)(hB:∀ b o,s'.heap.get? b=some o->b∉qz outer->((∃ o',s.heap.get? b=some o')\/(H' b).isSome=true)->B.get? b=some o)
  (st:B.StaysIn h5) (sm:s'.heap.UpToSlots h5) (fn:∀ b∈qz outer,∃ o,s'.heap.get? b=some o/\∀ vs,o.data≠.fields vs) (ff:∀ b∈qz outer,H' b=none) :
  Un (qz outer) [] H H' s.heap h5/\qw P w H' h5:=by
 have tr:∀ b o,(H' b).isSome=true->s'.heap.get? b=some o->h5.get? b=some o:=fun b o q e =>
  st b o (hB b o e (fun hm=>by rw [ff b hm] at q;cases q) (.inr q))
 refine ⟨⟨fun b o e n hb hx=>st b o (hB b o (u.keep b o e n hb hx) hb (.inl ⟨o,e⟩)),fun b o e n hb hx=>?_,u.free,fun b o e hx=>?_,u.tups,u.frzs,u.tbls⟩,fun b ob e=>?_⟩
 .obtain ⟨sl,e1⟩:=u.slot b o e n hb hx
  obtain ⟨o2,h2,nf⟩:=fn b hb
  rw [e1] at h2
  cases h2
  obtain ⟨sl',e2⟩:=sm b _ e1 nf
  exact ⟨sl',e2⟩
 .obtain ⟨o',e1⟩:=u.there b o e hx
  by_cases hb:b∈qz outer
  .obtain ⟨o2,h2,nf⟩:=fn b hb
   obtain ⟨sl',e2⟩:=sm b _ h2 nf
   exact ⟨_,e2⟩
  .exact ⟨o',st b o' (hB b o' e1 hb (.inl ⟨o,e⟩))⟩
 .refine (hok b ob e).stay (fun d u' hd q=>tr d u' ?_ q) (fun _ q=>q) fun _ _ q=>q
  rcases hd with rfl | hd
  .rw [e];rfl
  .rw [hd];rfl
end
section
variable{X:Cx}{pins:List (Addr × Obj)}{σ:St}{H H':Hp}{s s':Shared}
theorem bj.stkThere(I:bj X pins σ H s):∀ b∈qz X.stack,∃ o,s.heap.get? b=some o/\∀ vs,o.data≠.fields vs:=fun b hb=>(I.stack.mem hb).2
theorem Gg.ff(I:bj X pins σ H s)(F:Gg X.prog X.w X.stack H s a c H' s'):∀ b∈qz X.stack,H' b=none:=fun b hb=>by
 obtain ⟨o,e,_⟩:=I.stkThere b hb
 exact F.un.free b o e (I.stkFree b hb) (List.not_mem_nil)
theorem Gg.fn(F:Gg P w outer H s a c H' s'):∀ b∈qz outer,∃ o,s'.heap.get? b=some o/\∀ vs,o.data≠.fields vs:=fun b hb=>by
 obtain ⟨B,t,fl,_⟩:=F.fly
 exact (fl.2.2.1.mem hb).2
end
noncomputable def Rk(X:Cx)(E:St->XK):Prop:=∀ (pins:List (Addr × Obj)) (σ:St) (H:Hp) (s:Shared) (h':Heap) (e:Addr) (c:Value) (vs:List Value),bj X pins σ H s->Heap.MadeExcOf s.heap h' e c vs->E σ c none H->X.xe (.ref e) { s with heap:=h' }
section
variable{P:Program}{w:World}{K:PySem.W.Frag}{mg:Str->Option Value}{base:Heap}{N:List Str}{qual:Str}{scope:Scope}{f:Addr}{cd:Value}{A:Around}{outer:List Env}{s₀:Shared}{H₀:Hp}{E:XK}
theorem yR:kZ (vY P w) (bU (vY P w) P w K mg base N qual scope f cd A outer s₀ H₀ E) (fun _=>E):=by
 intro pins σ H s e s' I h
 obtain ⟨a,c,H',rfl,F,hE⟩:=h
 have ff:=F.ff I
 have fn:=F.fn
 obtain ⟨B,t,fl,hB⟩:=F.fly
 show wpAny (model P w) (A.deeper (envOfC qual scope s₀.heap.objs.size f cd)) («leaving» (envOfC qual scope s₀.heap.objs.size f cd) (.ref a)) _ _ s'
 refine wpAny_leaves_onW (L:=s₀.heap.objs.size) (outer:=outer) I.ok.frames rfl fl fun h' fl' sm=>?_
 obtain ⟨U,hok⟩:=xJ F.un F.hok hB fl'.1 sm fn ff
 have J:=I.call' (s':={ s' with heap:=h' }) F.os U hok F.bare (fun b hb=>nomatch hb)
 refine ⟨a,c,H',rfl,⟨J.os,J.bare,J.base,hok,B,t,fl',fun b o e hb hx=>?_⟩,hE⟩
 have hst:b∉qz (envOfC qual scope s₀.heap.objs.size f cd::outer)->∀ o2,s'.heap.get? b=some o2->((∃ o',s.heap.get? b=some o')\/(H' b).isSome=true)->B.get? b=some o:=fun hn o2 e2 z=>by
  have q:=hB b o2 e2 hn z
  have q2:=fl'.1 b o2 q
  rw [e] at q2
  cases q2
  exact q
 rcases hx with ⟨o',e0⟩ | ht
 .obtain ⟨o1,e1⟩:=I.base.there b o' e0 (List.not_mem_nil)
  obtain ⟨o2,e2⟩:=F.un.there b o1 e1 (List.not_mem_nil)
  refine hst (fun hm=>?_) o2 e2 (.inl ⟨o1,e1⟩)
  rcases List.mem_cons.mp (show b∈s₀.heap.objs.size::qz outer from hm) with z | z
  .exact absurd (Heap.lt_size e0) (by rw [z];exact Nat.lt_irrefl _)
  .exact hb z
 .cases q:H' b with
  | none=>rw [q] at ht;cases ht
  | some ob =>
   obtain ⟨o2,e2⟩:=(F.hok b ob q).ex
   exact hst (fun hm=>by rw [ff b hm] at q;cases q) o2 e2 (.inr ht)
theorem xj:Rk (bU (vY P w) P w K mg base N qual scope f cd A outer s₀ H₀ E) (fun _=>E):=by
 intro pins σ H s h1 e c vs I hx hE
 show wpAny (model P w) (A.deeper (envOfC qual scope s₀.heap.objs.size f cd)) («leaving» (envOfC qual scope s₀.heap.objs.size f cd) (.ref e)) _ _ { s with heap:=h1 }
 have hin:∀ env∈(envOfC qual scope s₀.heap.objs.size f cd::outer),∀ b,env.frame=some b->b∈qz (envOfC qual scope s₀.heap.objs.size f cd::outer):=fun env he b hb=>List.mem_filterMap.mpr ⟨env,he,hb⟩
 have fn:=I.stkThere
 have ff:=I.stkFree
 refine wpAny_leaves_madeW (s:={ s with heap:=h1 }) (L:=s₀.heap.objs.size) (outer:=outer) (h:=s.heap) (base:=PySem.W.hideAll s.heap (qz (envOfC qual scope s₀.heap.objs.size f cd::outer))) I.ok.frames rfl (fun b o q=>PySem.W.of_hideAll _ q) (PySem.W.funFrames_hide I.stack hin) hx fun h' t fl tp _ sm=>?_
 have hB:∀ b o,h1.get? b=some o->b∉qz (envOfC qual scope s₀.heap.objs.size f cd::outer)->((∃ o',s.heap.get? b=some o')\/(H b).isSome=true)->(PySem.W.hideAll s.heap (qz (envOfC qual scope s₀.heap.objs.size f cd::outer))).get? b=some o:=fun b o e hn z=>by
  have ex:∃ o',s.heap.get? b=some o':=by
   rcases z with z | z
   .exact z
   .cases q:H b with
    | none=>rw [q] at z;cases z
    | some ob=>exact (I.hok b ob q).ex
  obtain ⟨o',e'⟩:=ex
  have q:=hx.keeps b o' e'
  rw [e] at q
  cases q
  exact PySem.W.hideAll_get _ e' hn
 have U0:Un (qz (envOfC qual scope s₀.heap.objs.size f cd::outer)) [] H H s.heap h1:=Un.kept hx.keeps
 have hok1:qw P w H h1:=I.hok.kept hx.keeps
 obtain ⟨U,hok⟩:=xJ (s:=s) (s':={ s with heap:=h1 }) U0 hok1 hB fl.1 sm (fun b hb=>by obtain ⟨o,e,nf⟩:=fn b hb;exact ⟨o,hx.keeps b o e,nf⟩) ff
 have J:=I.call' (s':={ s with heap:=h' }) rfl U hok I.bare (fun b hb=>nomatch hb)
 refine ⟨e,c,H,rfl,⟨J.os,J.bare,J.base,hok,_,t,fl,fun b o q hb z=>?_⟩,hE⟩
 have hst:b∉qz (envOfC qual scope s₀.heap.objs.size f cd::outer)->∀ o2,s.heap.get? b=some o2->(PySem.W.hideAll s.heap (qz (envOfC qual scope s₀.heap.objs.size f cd::outer))).get? b=some o:=fun hn o2 e2=>by
  have q1:=PySem.W.hideAll_get _ e2 hn
  have q2:=fl.1 b o2 q1
  rw [q] at q2
  cases q2
  exact q1
 rcases z with ⟨o',e0⟩ | ht
 .obtain ⟨o1,e1⟩:=I.base.there b o' e0 (List.not_mem_nil)
  refine hst (fun hm=>?_) o1 e1
  rcases List.mem_cons.mp (show b∈s₀.heap.objs.size::qz outer from hm) with z | z
  .exact absurd (Heap.lt_size e0) (by rw [z];exact Nat.lt_irrefl _)
  .exact hb z
 .cases qq:H b with
  | none=>rw [qq] at ht;cases ht
  | some ob =>
   obtain ⟨o2,e2⟩:=(I.hok b ob qq).ex
   exact hst (fun hm=>by rw [ff b hm] at qq;cases qq) o2 e2
end
theorem SQ{K:PySem.W.Frag}{h₀:Heap}{C:Addr}{bmB:List Value}{newId:String}(X:K.In h₀)(q:PySem.W.excIn K C bmB newId=true) :
  ∃ bm N nm q bs hdct sn sub ab col dd k0 k1 k2 k3 k5 mN,h₀.get? C=some (excClassObj nm q C N bs bm hdct sn sub ab col dd k0 k1 k2 k3 k5 newId)/\h₀.Ns N mN/\mN "__init__"=none/\OwnTail h₀ bmB bm:=by
 unfold PySem.W.excIn at q
 split at q
 .rename_i dd cd sl ho
  split at q
  .rename_i C' bm k0 k1 k2 k3 n k5 hm hs
   simp only [Bool.and_eq_true,beq_iff_eq,Bool.not_eq_true'] at q
   obtain ⟨⟨⟨⟨⟨rfl,rfl⟩,hdel⟩,ht⟩,hok⟩,hni⟩:=q
   obtain ⟨nm,bs,mro,ns,qn,hd,sn,sub,ab,col,del⟩:=cd
   dsimp only at hm hdel hok hni
   subst hm hdel
   have hsl:sl=#[k0,k1,k2,k3,some (.builtin n),k5]:=by
    obtain ⟨l⟩:=sl
    simp only at hs
    rw [hs]
   subst hsl
   exact ⟨bm,ns,nm,qn,bs,hd,sn,sub,ab,col,dd,k0,k1,k2,k3,k5,_,X _ _ ho,.of_isNs (PySem.W.isNs_of_in X hok),PySem.W.nsMap_none_of_in X hok hni,PySem.W.tail_of_in X ht⟩
  .cases q
 .cases q
section
variable{X:Cx}{E:St->XK}{x:Str}{C:Addr}{np cpos pos:Pos}{e:Expr}{es:List Expr}{t:TA}{B newId initId:String}{bmB:List Value}
noncomputable def UJ(E:St->XK)(C:Addr)(σ:St):List V->Hp->Prop:=fun vs H1=>vs.length<=sizeLine/\E σ (.ref C) none H1
noncomputable def Rr(E:St->XK)(C:Addr)(t:TA):TS:=fun _ σ H=>t σ H (UJ E C σ)
theorem qO(hx:Rk X E)(hc:X.calm=true)(hg:Gl X x)(hm:X.mg x=some (.ref C))(q:PySem.W.excIn X.K C bmB newId=true)(FB:ExcBaseFacts B newId initId bmB)(ha:PA X (e::es) t)
  (hdb:(x == ("__debug__":Str))=false:=by decide) (he:starEach (e::es) X.env=(false,eval e X.env)::starEach es X.env:=by rfl) (hpl:(backTo cpos (starEach es X.env)).any (·.1)=false:=by rfl) :
  PS X (.Raise (some (.Call (.Name x np) (e::es) [] cpos)) none pos) (Rr E C t):=by
 intro pins s σ H D I h
 obtain ⟨bm,N,nm,qn,bs,hdct,sn,sub,ab,col,dd,k0,k1,k2,k3,k5,mN,hC,hN,hni,T⟩:=SQ I.mod.kin q
 refine wpAny_Raise_call_subT (C:=C) (nm:=nm) (q:=qn) (N:=N) (bs:=bs) (bm:=bm) (hdct:=hdct) (sn:=sn) (sub:=sub) (ab:=ab) (col:=col) (dd:=dd) (k0:=k0) (k1:=k1) (k2:=k2) (k3:=k3) (k5:=k5)
  FB (mN:=mN) (T.hasType FB.hasBase) (I.ok.hd hc) (by rw [he];show (false || (backTo cpos (starEach es X.env)).any (·.1))=false;rw [hpl];rfl) hni (sI I hg hm ⟨rfl,?_⟩ hdb)
 have h2:=ha cpos pins s σ H _ I h
 rw [he] at h2 ⊢
 refine Calls.evalArgs_plain (wpAny_mono h2 (fun us s2 z=>?_) fun _ _ y=>y)
 obtain ⟨vs,H1,I1,r,hl,hE⟩:=z
 exact ⟨rfl,by rw [<- r.length];exact hl,I1.bk _ _ hC,hN.keeps I1.bk,T.keeps I1.bk,fun h' e' hm=>hx pins σ H1 s2 h' e' (.ref C) us I1 hm hE⟩
end
noncomputable abbrev Cx.at_(X:Cx)(pn:List (Addr × Obj))(E:Value->Shared->Prop):Cx:={ X with pn:=pn,xe:=E }
noncomputable abbrev Cx.hand(X:Cx)(pn:List (Addr × Obj))(a:Addr):Cx:={ X with A:=X.A.mark (some (.ref a)),calm:=false,pn:=pn,xe:=fun _ _=>False }
section
variable{X:Cx}{pins pn:List (Addr × Obj)}{σ:St}{H:Hp}{s:Shared}{E:Value->Shared->Prop}{a:Addr}
theorem Cx.Ok.at_(ok:X.Ok):(X.at_ pn E).Ok:=⟨ok.mod,ok.kind,ok.glob,ok.blt,ok.above,ok.inj,ok.has,ok.cab,ok.hd,ok.frames,ok.stk,ok.exf,ok.bs,ok.bsz,ok.noex,ok.exfs,ok.funs,ok.frf⟩
theorem Cx.Ok.unat(ok:(X.at_ pn E).Ok):X.Ok:=⟨ok.mod,ok.kind,ok.glob,ok.blt,ok.above,ok.inj,ok.has,ok.cab,ok.hd,ok.frames,ok.stk,ok.exf,ok.bs,ok.bsz,ok.noex,ok.exfs,ok.funs,ok.frf⟩
theorem Cx.Ok.hand(ok:X.Ok):(X.hand pn a).Ok:=⟨ok.mod,ok.kind,ok.glob,ok.blt,ok.above,ok.inj,ok.has,ok.cab,fun z=>(nomatch z),ok.frames,ok.stk,ok.exf,ok.bs,ok.bsz,ok.noex,ok.exfs,ok.funs,ok.frf⟩
theorem bj.toAt(I:bj X pins σ H s):bj (X.at_ (X.pn++pins) E) [] σ H s:=⟨I.ok.at_,I.os,I.bare,I.base,I.loc,I.cell,I.free,I.freeC,fun p hp=>I.pin p (by simpa using hp),I.hok,I.len⟩
theorem bj.ofAt(I:bj (X.at_ (X.pn++pins) E) more σ H s):bj X pins σ H s:=⟨I.ok.unat,I.os,I.bare,I.base,I.loc,I.cell,I.free,I.freeC,fun p hp=>I.pin p (List.mem_append_left _ hp),I.hok,I.len⟩
theorem bj.toHand(I:bj X pins σ H s)(h:s.heap.get? a=some oe)(hn:H a=none)(h1:a≠X.env.locals)(h2:a∉X.fs)(h3:∀ v,oe.data≠.cell v):bj (X.hand (X.pn++pins++[(a,oe)]) a) [] σ H s :=
 ⟨I.ok.hand,I.os,I.bare,I.base,I.loc,I.cell,I.free,I.freeC,fun p hp=>by
  rw [List.append_nil] at hp
  rcases List.mem_append.mp hp with hp | hp
  .exact I.pin p hp
  .rcases List.mem_singleton.mp hp with rfl
   exact ⟨h,hn,h1,h2,h3⟩,I.hok,I.len⟩
theorem bj.ofHand(ok:X.Ok)(I:bj (X.hand (X.pn++pins++[(a,oe)]) a) more σ H s):bj X pins σ H s :=
 ⟨ok,I.os,I.bare,I.base,I.loc,I.cell,I.free,I.freeC,fun p hp=>I.pin p (List.mem_append_left _ (List.mem_append_left _ hp)),I.hok,I.len⟩
end
theorem zU{K:PySem.W.Frag}{M:Model}{A:Around}{E:Value->Shared->Prop}{s:Shared}{a C:Addr}{oe:Obj}{c:Value}{b:Bool}{Q:Bool->Shared->Prop}(X:K.In s.heap)(ha:s.heap.get? a=some oe)(hc:oe.cls=c)
  (hC:PySem.W.typeIn K (.ref C)=some (.type "type")) (hE:PySem.W.subIn K (.ref C) (.type "BaseException")=some true) (hs:PySem.W.subIn K c (.ref C)=some b) (hcl:(PySem.W.clsIn K C).isSome=true) (h:Q b s):wpAny M A (excMatches (.ref a) (.ref C)) Q E s:=by
 obtain ⟨hp,g,d,t,os⟩:=s
 have L1:=PySem.W.looks_typeIn (M:=M) X hC
 have L2:=PySem.W.looks_subIn (M:=M) X hE
 have L3:=PySem.W.looks_subIn (M:=M) X hs
 have L4:PySem.W.Looks M hp (typeOf (.ref a)) c:=hc ▸ (PySem.W.Looks.ld ha).andThen .now
 have LI:PySem.W.Looks M hp (isInstance (.ref C) (.type "tuple")) false:=L1.andThen (PySem.W.Looks.of_pure tc_notTuple)
 have LT:PySem.W.Looks M hp (isType (.ref C)) true:=by
  unfold PySem.W.clsIn at hcl
  split at hcl
  .rename_i c' d' cd' sl' ho
   intro A' Q' E' s' k q
   unfold isType loadHead
   exact wpAny_bind (wpAny_loadPart (k _ _ (X _ _ ho)) (wpAny_pure q))
  .cases hcl
 have LE:PySem.W.Looks M hp (isExcClass (.ref C)) true:=LT.andThen L2
 unfold excMatches
 refine wpAny_bind (LI.at ?_)
 simp only [Bool.false_eq_true,if_false]
 refine wpAny_bind (wpAny_pure ?_)
 simp only [List.forIn_cons,List.forIn_nil]
 refine wpAny_bind (wpAny_bind (wpAny_bind (LE.at ?_)))
 simp only [Bool.not_true,Bool.false_eq_true,if_false]
 refine wpAny_pure (wpAny_pure ?_)
 refine wpAny_bind (L4.at ?_)
 refine wpAny_bind (wpAny_bind (wpAny_bind (L3.at ?_)))
 cases b with
 | true=>exact wpAny_pure (wpAny_pure (wpAny_pure h))
 | false=>exact wpAny_pure (wpAny_pure (wpAny_pure h))
section
variable{X:Cx}
end
section
variable{prog:Program}{w:World}{A:Around}{R:Result->Shared->Prop}{s:Shared}
theorem uw(I:Nat->Shared->Prop)
  (turn:∀ n s,I n s->wpAny (model prog w) A (pyNext it) (fun r s₁=>match r with
   | none=>R (.ok .next) s₁
   | some v=>wpAny (model prog w) A (letOwnedTupleGo target it v) (fun _ s₂=>wpAny (model prog w) A (assign target env v) (fun _ s₃=>wpAny (model prog w) A (eval elt env) (fun x s₄ =>
     wpAny (model prog w) A (call (.builtin "list.append") [acc,x]) (fun _ s₅=>∃ m,m<n/\I m s₅) (fun _ _=>False) s₄) (fun _ _=>False) s₃) (fun _ _=>False) s₂) (fun _ _=>False) s₁) (fun _ _=>False) s)
  (n:Nat) (h:I n s):codeAny (model prog w) A (.compLoop (.ListComp elt [⟨target,iter,[],0⟩] scope pos) 0 it acc env) R s:=by
 refine codeAny_loop rfl I (fun n s hI=>?_) n h
 show wpAny _ _ ((compTurn (.ListComp elt [⟨target,iter,[],0⟩] scope pos) 0 it acc env).onRaise (fun x=>do noteFrame x env;theTreesLotGoes x)) _ _ s
 refine wpAny_noted ?_
 rw [compTurn_list1]
 refine wpAny_bind (wpAny_standAt (wpAny_bind (wpAny_mono (turn n s hI) (fun r s₁ h₁=>?_) fun _ _ f=>f.elim)))
 cases r with
 | none=>exact wpAny_pure h₁
 | some v =>
  refine wpAny_bind (wpAny_mono h₁ (fun _ s₂ h₂=>?_) fun _ _ f=>f.elim)
  refine wpAny_bind (wpAny_mono h₂ (fun _ s₃ h₃=>?_) fun _ _ f=>f.elim)
  refine wpAny_bind (wpAny_bind (wpAny_mono h₃ (fun x s₄ h₄=>?_) fun _ _ f=>f.elim))
  refine wpAny_bind (wpAny_mono h₄ (fun _ s₅ h₅=>?_) fun _ _ f=>f.elim)
  exact wpAny_pure (wpAny_pure ⟨rfl,h₅⟩)
end
noncomputable abbrev Cx.comp(X:Cx)(pins:List (Addr × Obj))(scope:Scope)(cl:List (Str × Addr))(Nc:List Str)(fp:List Addr)(s:Shared)(H:Hp):Cx :=
 { X with N:=Nc,s₀:=s,H₀:=H,env:=compEnvC scope cl s.heap.objs.size X.env,outer:=X.stack,stack:=X.stack,ex:=fp,fn:=fun _=>false,pn:=X.pn++pins,xe:=fun _ _=>False }
noncomputable def Az(cells:List (Str × Addr)):List (Str × Addr)->Prop
 | []=>True
 | p::r=>cells.lookup p.1=some p.2/\Az cells r
noncomputable def Bq(cl:List (Str × Addr)):List (Str × NameKind)->Prop
 | []=>True
 | p::r=>((p.2=.cell\/p.2=.free)->∃ c,cl.lookup p.1=some c)/\Bq cl r
noncomputable def FJ(X:Cx)(sc:Scope)(cl:List (Str × Addr)):List Str->List Nat->Prop
 | [],[]=>True
 | x::r,j::q=>(X.N[j]?=some x/\(X.env.kindOf x=some .cell\/X.env.kindOf x=some .free)/\(∃ c,X.env.cells.lookup x=some c/\cl.lookup x=some c)/\(sc.names.lookup x=some .cell\/sc.names.lookup x=some .free))/\FJ X sc cl r q
 | _,_=>False
noncomputable def jB(js:List Nat)(σ:St):St:=js.map fun j=>(σ[j]?).join
theorem FJ.len:∀ {fv:List Str} {js:List Nat},FJ X sc cl fv js->fv.length=js.length
 | [],[],_=>rfl
 | _::_,_::_,h=>by simp [h.2.len]
 | [],_::_,h=>h.elim
 | _::_,[],h=>h.elim
theorem FJ.get:∀ {fv:List Str} {js:List Nat} {k:Nat},FJ X sc cl fv js->fv[k]?=some x->(jB js σ)[k]?=some (some v) ->
  ∃ (j:Nat) (c:Addr),X.N[j]?=some x/\σ[j]?=some (some v)/\(X.env.kindOf x=some .cell\/X.env.kindOf x=some .free)/\X.env.cells.lookup x=some c/\cl.lookup x=some c/\(sc.names.lookup x=some .cell\/sc.names.lookup x=some .free)
 | y::r,j::q,0,h,e1,e2=>by
  obtain ⟨⟨h1,h2,⟨c,h3,h4⟩,h5⟩,_⟩:=h
  have ex:y=x:=by simpa using e1
  subst ex
  have e3:(σ[j]?).join=some v:=by simpa [jB] using e2
  exact ⟨j,c,h1,Option.join_eq_some_iff.mp e3,h2,h3,h4,h5⟩
 | y::r,j::q,k+1,h,e1,e2=>FJ.get (fv:=r) (js:=q) (k:=k) h.2 (by simpa using e1) (by simpa [jB] using e2)
 | [],[],k,_,e1,_=>by simp at e1
 | [],_::_,_,h,_,_=>h.elim
 | _::_,[],_,h,_,_=>h.elim
theorem Az.get:∀ {cl:List (Str × Addr)},Az cells cl->cl.lookup x=some c->cells.lookup x=some c
 | [],_,e=>by simp at e
 | (y,d)::r,h,e=>by
  rw [List.lookup_cons] at e
  cases q:x == y with
  | true =>
   rw [q] at e
   have ex:x=y:=beq_iff_eq.mp q
   subst ex
   cases e
   exact h.1
  | false=>rw [q] at e;exact Az.get h.2 e
theorem Bq.get:∀ {l:List (Str × NameKind)},Bq cl l->l.lookup x=some k->(k=.cell\/k=.free)->∃ c,cl.lookup x=some c
 | [],_,e,_=>by simp at e
 | (y,d)::r,h,e,hk=>by
  rw [List.lookup_cons] at e
  cases q:x == y with
  | true =>
   rw [q] at e
   have ex:x=y:=beq_iff_eq.mp q
   subst ex
   cases e
   exact h.1 hk
  | false=>rw [q] at e;exact Bq.get h.2 e hk
noncomputable def vf(J:It)(te:TE)(fv:St)(Q:VK)(D:Addr)(H1:Hp):Prop :=
 ∃ W:Nat->Nat->List V->Hp->Prop,(∃ m,W 0 m [] (bQ H1 D (.lst [])))/\∀ i m ys Hc,W i m ys Hc->Hc D=some (.lst ys) /\
  ((J.stop i Hc/\Q (.ref D) Hc)\/(J.go i Hc/\ys.length<sizeLine/\∀ x H',J.yld i Hc x H'->te (some x::fv) H' fun y H3=>H3 D=some (.lst ys)/\∃ m',m'<m/\W (i+1) m' (ys++[y]) (bQ H3 D (.lst (ys++[y])))))
noncomputable def WQ(js:List Nat)(te:TE)(σ:St)(Q:VK)(J:It)(H1:Hp)(D:Addr):Prop:=H1 D=none->vf J te (jB js σ) Q D H1
noncomputable def W6(js:List Nat)(te:TE)(σ:St)(Q:VK):It->Hp->Prop:=fun J H1=>W8 (WQ js te σ Q J H1)
noncomputable def O5(wi:TI)(js:List Nat)(te:TE):TE:=fun σ H Q=>wi σ H (W6 js te σ Q)
section
variable{X:Cx}{elt iter:Expr}{x:Str}{px pos:Pos}{scope:Scope}{fv:List Str}{js:List Nat}{wi:TI}{te:TE}
structure CQ(X:Cx)(iter:Expr)(scope:Scope)(cl:List (Str × Addr))(x:Str)(fv:List Str)(js:List Nat):Prop where
 clos:closureFor scope X.env=pure cl
 kind:scope.kind=.function
 nocell:∀ y∈scope.names,y.2≠.cell
 names:∀ y∈scope.names,y.2=.local->scope.names.lookup y.1=some .local
 hx:scope.names.lookup x=some .local
 nd:(x::fv).Nodup
 sub:Az X.env.cells cl
 all:Bq cl (relabel scope X.env).names
 fvs:FJ X (relabel scope X.env) cl fv js
 fold:∀ y,foldedSetIterable iter X.env y=pure y
theorem Ii(T:CQ X iter scope cl x fv js)(I:bj X pins σ H s3)(hf:∀ b∈fp,oW X pins H b)
  (ho:∀ b∈fp,b<s3.heap.objs.size) (hn:h1.Ns s3.heap.objs.size (fun _=>none)) (hk:∀ b o,s3.heap.get? b=some o->h1.get? b=some o) :
  bj (X.comp pins scope cl (x::fv) fp s3 H) [] (none::jB js σ) H { s3 with heap:=h1,toks:=tk }:=by
 have cne:∀ y c,cl.lookup y=some c->X.env.cells.lookup y=some c:=fun y c e=>T.sub.get e
 have cle:∀ y c,cl.lookup y=some c->∃ v,s3.heap.IsCell c v:=fun y c e=>I.cell y c (cne y c e)
 have clt:∀ y c,cl.lookup y=some c->c≠s3.heap.objs.size:=fun y c e=>by
  obtain ⟨v,o,q,_⟩:=cle y c e
  exact Nat.ne_of_lt (Heap.lt_size q)
 refine ⟨⟨I.ok.mod,T.kind,I.ok.glob,I.ok.blt,Nat.le_refl _,fun y z c e1 e2=>I.ok.inj y z c (cne y c e1) (cne z c e2),fun y hy=>?_,fun _ _ e _=>(nomatch e),I.ok.hd,I.ok.frames,.inl rfl,fun b hb=>⟨Nat.ne_of_lt (ho b hb),fun y c e=>(hf b hb).2.2.2.2.1 y c (cne y c e)⟩,
  I.bs,Nat.le_trans I.ok.bsz I.sz,fun b o e hb=>?_,fun b hb hm=>?_,I.stack,I.stkFree⟩,rfl,I.bare,Un.kept hk,⟨_,hn,fun i y v e1 e2 e3=>?_⟩,fun y c e=>?_,I.hok.fresh (Nat.le_refl _),fun y c e=>I.freeC y c (cne y c e),fun p hp=>?_,I.hok.kept hk,?_⟩
 .rcases hy with e | e
  .exact T.all.get e (.inl rfl)
  .exact T.all.get e (.inr rfl)
 .obtain ⟨_,_,_,q,_⟩:=hf b hb
  rcases q with q | q
  .exact I.ok.noex b o e q
  .exact absurd (Heap.lt_size (I.ok.bs b o e).1) (Nat.not_lt.mpr q)
 .obtain ⟨_,q1,q2,_⟩:=hf b hb
  rcases List.mem_cons.mp (I.stkSub b hm) with z | z
  .exact q1 z
  .exact q2 z
 .cases i with
  | zero=>simp at e2
  | succ k =>
   obtain ⟨j,c,g1,g2,g3,g4,g5,g6⟩:=T.fvs.get (σ:=σ) (k:=k) (x:=y) (v:=v) (by simpa using e1) (by simpa using e2)
   obtain ⟨m,_,hl⟩:=I.loc
   obtain ⟨u,r,l⟩:=hl j y v g1 g2 (g3.elim (fun z=>.inr (.inl z)) fun z=>.inr (.inr z))
   refine ⟨u,r,.inr ⟨g6,c,g5,?_⟩⟩
   rcases l with ⟨z,_⟩ | ⟨_,c',z,o,e,d⟩
   .rcases g3 with g | g
    .rw [g] at z;cases z
    .rw [g] at z;cases z
   .rw [g4] at z
    cases z
    exact ⟨o,hk _ _ e,d⟩
 .obtain ⟨v,o,e,d⟩:=cle y c e
  exact ⟨v,o,hk _ _ e,d⟩
 .rw [List.append_nil] at hp
  obtain ⟨e,n,ne,nf,d⟩:=I.pin p hp
  refine ⟨hk _ _ e,n,Nat.ne_of_lt (Heap.lt_size e),fun hm=>?_,d⟩
  rcases List.mem_cons.mp (I.stkSub _ hm) with z | z
  .exact ne z
  .exact nf z
 .simp [jB,T.fvs.len]
theorem Ht(I:bj X pins σ H s3)(hf:∀ b∈fp,oW X pins H b)
  (J:bj (X.comp pins scope cl (x::fv) fp s3 H) more σ' H' s1) (hs:Heap.SameBut s3.heap.objs.size s1.heap h'):bj X pins σ H' { s1 with heap:=h' }:=by
 have ne:∀ b o,s3.heap.get? b=some o->b≠s3.heap.objs.size:=fun b o e=>Nat.ne_of_lt (Heap.lt_size e)
 have B:=J.base
 have U:Un (qz X.stack) fp H H' s3.heap h':=⟨fun b o e n hb hx=>(hs.2 b (ne b o e)).trans (B.keep b o e n hb hx),fun b o e n hb hx=>by
   obtain ⟨sl,q⟩:=B.slot b o e n hb hx
   exact ⟨sl,(hs.2 b (ne b o e)).trans q⟩,B.free,fun b o e hx=>by
   obtain ⟨o',q⟩:=B.there b o e hx
   exact ⟨o',(hs.2 b (ne b o e)).trans q⟩,B.tups,B.frzs,B.tbls⟩
 have fr:H' s3.heap.objs.size=none:=J.free
 have hok:qw X.prog X.w H' h':=fun b ob e=>by
  refine (J.hok b ob e).stay (fun c u hc q=>(hs.2 c ?_).trans q) (fun _ q=>q) fun _ _ q=>q
  rintro rfl
  rcases hc with rfl | hc
  .rw [fr] at e;cases e
  .rw [fr] at hc;cases hc
 exact I.call' (s':={ s1 with heap:=h' }) J.os U hok J.bare fun b hb=>⟨(hf b hb).2.2.2.1,(hf b hb).2.1,(hf b hb).2.2.2.2.1,(hf b hb).2.2.2.2.2⟩
theorem Bl(hc:X.calm=true)
  (T:CQ X iter scope cl x fv js) (I:bj X pins σ (bQ H1 D (.lst [])) s3) (hf:∀ b∈fp,oW X pins (bQ H1 D (.lst [])) b) (Tn:vM X.prog X.w X.K (.Name x px) J fp it tn) (t0:tn 0 s3.heap)
  (hn:h1.Ns s3.heap.objs.size (fun _=>none)) (hk:∀ b o,s3.heap.get? b=some o->h1.get? b=some o)
  (he:PE (X.comp pins scope cl (x::fv) fp s3 (bQ H1 D (.lst []))) elt te) (hW:vf J te (jB js σ) Q D H1)
  (hR:∀ Hc s1,bj (X.comp pins scope cl (x::fv) fp s3 (bQ H1 D (.lst []))) [] (none::jB js σ) Hc s1->Q (.ref D) Hc->R (.ok .next) s1) :
  codeAny (model X.prog X.w) X.A (.compLoop (.ListComp elt [⟨.Name x px,iter,[],0⟩] scope pos) 0 (.ref it) (.ref D) (compEnvC scope cl s3.heap.objs.size X.env)) R { s3 with heap:=h1,toks:=tk }:=by
 have ho:∀ b∈fp,b<s3.heap.objs.size:=fun b hb=>by
  obtain ⟨o,e,_⟩:=Tn.obj 0 _ t0 b hb
  exact Heap.lt_size e
 have I0:=Ii (tk:=tk) T I hf ho hn hk
 obtain ⟨W,⟨m0,w0⟩,step⟩:=hW
 have fpc:∀ {Hc:Hp},(∀ b∈fp,Hc b=none)->∀ b∈fp,oW (X.comp pins scope cl (x::fv) fp s3 (bQ H1 D (.lst []))) [] Hc b:=fun {Hc} hn b hb=>by
  refine ⟨hn b hb,Nat.ne_of_lt (ho b hb),fun hm=>?_,.inl hb,fun y c e=>(hf b hb).2.2.2.2.1 y c (T.sub.get e),fun p hp=>(hf b hb).2.2.2.2.2 p (by simpa using hp)⟩
  rcases List.mem_cons.mp (I.stkSub _ hm) with z | z
  .exact (hf b hb).2.1 z
  .exact (hf b hb).2.2.1 z
 refine uw (fun n s=>∃ i ys Hc,bj (X.comp pins scope cl (x::fv) fp s3 (bQ H1 D (.lst []))) [] (none::jB js σ) Hc s/\tn i s.heap/\(∀ b∈fp,Hc b=none)/\W i n ys Hc) ?_ m0
  ⟨0,[],_,I0,Tn.keep _ _ _ t0 fun b _ o e=>hk b o e,fun b hb=>(hf b hb).1,w0⟩
 rintro n s ⟨i,ys,Hc,Ic,tc,fc,wc⟩
 obtain ⟨hD,hh⟩:=step i n ys Hc wc
 rcases hh with ⟨stop,q⟩ | ⟨go,hl,turn⟩
 .refine dg (Tn.done (X.comp pins scope cl (x::fv) fp s3 (bQ H1 D (.lst []))) rfl rfl rfl hc i [] s _ Hc _ Ic (fpc fc) tc stop) fun r s1 ⟨hr,I1⟩=>?_
  subst hr
  exact hR Hc s1 I1 q
 .refine dg (Tn.item (X.comp pins scope cl (x::fv) fp s3 (bQ H1 D (.lst []))) rfl rfl rfl hc i [] s _ Hc _ Ic (fpc fc) tc go) fun r s1 ⟨u,hr,h4⟩=>?_
  subst hr
  refine dg h4 fun _ s5 ⟨y,H5,I5,r5,y5,t5,f5⟩=>?_
  have I5':=I5.pinned (fpc f5) (Tn.obj _ _ t5)
  have hxl:(relabel scope X.env).names.lookup x=some .local:=lookup_relabel_local T.hx
  have pg:PG (X.comp pins scope cl (x::fv) fp s3 (bQ H1 D (.lst []))) (.Name x px) (dJ 0):=cz (i:=0) T.nd rfl (.inl hxl) (.inr hxl)
  refine dg (pg _ s5 _ H5 y u (fun σ6 H6=>σ6=some y::jB js σ/\H6=H5) I5' r5 ⟨rfl,rfl⟩) fun _ s6 ⟨σ6,H6,I6,e6,e6'⟩=>?_
  subst e6 e6'
  refine dg (he _ s6 _ _ _ I6 (turn y _ y5)) fun v s7 ⟨z,H7,I7,r7,hD7,m',hm,w7⟩=>?_
  refine dg (gj _ s7 _ H7 (.ref D) [z] (.ref D) [v] (fun _ H8=>H8=bQ H7 D (.lst (ys++[z]))) I7 rfl (.cons r7 .nil) ⟨D,ys,z,rfl,rfl,hD7,hl,rfl⟩) fun _ s8 ⟨_,H8,I8,_,e8⟩=>?_
  subst e8
  refine ⟨m',hm,i+1,ys++[z],_,I8.unpinned.weak ?_ ?_,Tn.keep _ _ _ t5 fun b hb o e=>(I8.pin (b,o) (List.mem_append_right _ (List.mem_append_right _ (ju hb e)))).1,fun b hb=>?_,w7⟩
  .simp
  .intro k v' e
   cases k with
   | zero=>simp at e
   | succ k=>simpa using e
  .obtain ⟨o,e,d⟩:=Tn.obj _ _ t5 b hb
   exact (I8.pin (b,o) (List.mem_append_right _ (List.mem_append_right _ (ju hb e)))).2.1
theorem jg(hc:X.calm=true)(T:CQ X iter scope cl x fv js)(hi:PI X (.Name x px) iter wi)(he:∀ pins fp s H,PE (X.comp pins scope cl (x::fv) fp s H) elt te) :
  PE X (.ListComp elt [⟨.Name x px,iter,[],0⟩] scope pos) (O5 wi js te):=by
 intro pins s σ H Q I h
 rw [eval_ListComp]
 refine wpAny_comprehension_free (use:=none) rfl T.fold T.clos T.kind T.names (dg (hi pins s σ H _ I h) fun v s1 h1=>dg h1 fun itv s2 h2=>?_)
 obtain ⟨it,fp,tn,J,H1,rfl,I2,Tn,t0,f2,hR⟩:=h2
 refine wpAny_newObj_type ?_
 have ho:∀ b∈fp,b≠s2.heap.objs.size:=fun b hb=>by
  obtain ⟨o,e,_⟩:=Tn.obj 0 _ t0 b hb
  exact Nat.ne_of_lt (Heap.lt_size e)
 have I3:bj X pins σ (bQ H1 s2.heap.objs.size (.lst [])) _:=I2.lnew (t':=s2.toks) (ys:=[]) (its:=[]) .nil (Nat.zero_le _)
 have f3:∀ b∈fp,oW X pins (bQ H1 s2.heap.objs.size (.lst [])) b:=fun b hb=>⟨by rw [aA (ho b hb)];exact (f2 b hb).1,(f2 b hb).2⟩
 have t3:tn 0 (s2.heap.push { cls:=.type "list",data:=.seq ([]:List Value).toArray }):=Tn.keep _ _ _ t0 fun b _ o e=>Heap.get?_push_of_some _ e
 have hW:=hR s2.heap.objs.size (I2.hok.fresh (Nat.le_refl _))
 refine wpAny_newFunctionEnv T.nocell (by intro y hy;simp at hy) (fun h1 hn hs=>?_) T.kind
 have hk:∀ b o,(s2.heap.push { cls:=.type "list",data:=.seq ([]:List Value).toArray }).get? b=some o->h1.get? b=some o:=fun b o e =>
  (hs.2 b (Nat.ne_of_lt (Heap.lt_size e))).trans (Heap.get?_push_of_some _ e)
 have loop:=fun tk=>Bl (elt:=elt) (pos:=pos) (px:=px) (R:=compPost (model X.prog X.w) X.A X.xe none (EP X pins σ Q) (.ref s2.heap.objs.size) (s2.heap.push { cls:=.type "list",data:=.seq ([]:List Value).toArray }).objs.size) (tk:=tk) hc T I3 f3 Tn t3 hn hk (he pins fp _ _) hW
  fun Hc s1 J q=>by
   obtain ⟨m,hm,_⟩:=J.loc
   exact ⟨m,hm,fun h' hs'=>⟨.ref s2.heap.objs.size,Hc,Ht I3 f3 J hs',rfl,q⟩⟩
 refine codeAny_compStart_list (loop _) ?_
 exact Tn.self _ 0 _ _ _ (Tn.keep _ _ _ t3 fun b _ o e=>hk b o e) (loop _)
theorem RM(hc:X.calm=true)(T:CQ X iter scope cl x fv js)(hN:X.N.Nodup)(hy:X.N[i]?=some y)(hl:X.env.scope.names.lookup y=some .local)
  (hsw:swapsWith (.ListComp elt [⟨.Name x px,iter,[],0⟩] scope pos) (some (.Name y py)) spos.line X.env=pure true)
  (hi:PI X (.Name x px) iter wi) (he:∀ pins fp s H,PE (X.comp pins scope cl (x::fv) fp s H) elt te) :
  PS X (.Assign [.Name y py] (.ListComp elt [⟨.Name x px,iter,[],0⟩] scope pos) spos) (oF (O5 wi js te) (dJ i)):=by
 intro pins s σ H D I h
 rw [exec_Assign_Name_used _ _ _ _ hsw]
 refine wpAny_bind (wpAny_standAt (wpAny_bind ?_))
 show wpAny _ X.A (do let _ <- comprehension (.ListComp elt [⟨.Name x px,iter,[],0⟩] scope pos) scope X.env _ (newList []) false (eval iter X.env) (some (assign (.Name y py) X.env))) _ _ s
 refine wpAny_bind (wpAny_mono (wpAny_comprehension_free (use:=some (assign (.Name y py) X.env)) (Q:=fun _ s'=>SP X pins D .next s') rfl T.fold T.clos T.kind T.names (dg (hi pins s σ H _ I h) fun v s1 h1=>dg h1 fun itv s2 h2=>?_)) (fun _ s' hq=>wpAny_pure (wpAny_pure hq)) fun _ _ e=>e)
 obtain ⟨it,fp,tn,J,H1,rfl,I2,Tn,t0,f2,hR⟩:=h2
 refine wpAny_newObj_type ?_
 have ho:∀ b∈fp,b≠s2.heap.objs.size:=fun b hb=>by
  obtain ⟨o,e,_⟩:=Tn.obj 0 _ t0 b hb
  exact Nat.ne_of_lt (Heap.lt_size e)
 have I3:bj X pins σ (bQ H1 s2.heap.objs.size (.lst [])) _:=I2.lnew (t':=s2.toks) (ys:=[]) (its:=[]) .nil (Nat.zero_le _)
 have f3:∀ b∈fp,oW X pins (bQ H1 s2.heap.objs.size (.lst [])) b:=fun b hb=>⟨by rw [aA (ho b hb)];exact (f2 b hb).1,(f2 b hb).2⟩
 have t3:tn 0 (s2.heap.push { cls:=.type "list",data:=.seq ([]:List Value).toArray }):=Tn.keep _ _ _ t0 fun b _ o e=>Heap.get?_push_of_some _ e
 have hW:=hR s2.heap.objs.size (I2.hok.fresh (Nat.le_refl _))
 refine wpAny_newFunctionEnv T.nocell (by intro y hy;simp at hy) (fun h1 hn hs=>?_) T.kind
 have hk:∀ b o,(s2.heap.push { cls:=.type "list",data:=.seq ([]:List Value).toArray }).get? b=some o->h1.get? b=some o:=fun b o e =>
  (hs.2 b (Nat.ne_of_lt (Heap.lt_size e))).trans (Heap.get?_push_of_some _ e)
 have loop:=fun tk=>Bl (elt:=elt) (pos:=pos) (px:=px) (R:=compPost (model X.prog X.w) X.A X.xe (some (assign (.Name y py) X.env)) (fun _ s'=>SP X pins D .next s') (.ref s2.heap.objs.size) (s2.heap.push { cls:=.type "list",data:=.seq ([]:List Value).toArray }).objs.size) (tk:=tk) hc T I3 f3 Tn t3 hn hk (he pins fp _ _) hW
  fun Hc s1 J q=>by
   have I4:bj X pins σ Hc s1:=Ht I3 f3 J (Heap.SameBut.refl ..)
   obtain ⟨m,hm,_⟩:=J.loc
   have fr:Hc (s2.heap.push { cls:=.type "list",data:=.seq ([]:List Value).toArray }).objs.size=none:=J.free
   have Cge:X.s₀.heap.objs.size<=(s2.heap.push { cls:=.type "list",data:=.seq ([]:List Value).toArray }).objs.size:=I3.sz
   have CL:(s2.heap.push { cls:=.type "list",data:=.seq ([]:List Value).toArray }).objs.size≠X.env.locals:=fun e=>Nat.lt_irrefl _ (e ▸ I3.lt)
   show wpAny _ X.A (assign (.Name y py) X.env (.ref s2.heap.objs.size)) _ _ s1
   refine wpAny_assign_Name (vK I4 hN hy (.inl hl) (v:=.ref s2.heap.objs.size) rfl (fun s5 I5 ⟨a,hs5,ha⟩=>?_) (.inr hl))
   have hCa:(s2.heap.push { cls:=.type "list",data:=.seq ([]:List Value).toArray }).objs.size≠a:=by
    rcases ha with z | z
    .rw [z];exact CL
    .obtain ⟨v,o,q,_⟩:=I3.cell y a z
     exact Nat.ne_of_gt (Heap.lt_size q)
   refine ⟨m,hm.sameBut hs5 hCa,fun h' hs'=>⟨σ.set i (some (.ref s2.heap.objs.size)),Hc,?_,q⟩⟩
   refine I5.turned (t':=s5.toks) (it:=(s2.heap.push { cls:=.type "list",data:=.seq ([]:List Value).toArray }).objs.size) (fun b o hb e=>(hs'.2 b hb).trans e) fr CL (.inr Cge) (fun z c e=>?_) fun p hp=>?_
   .obtain ⟨v,o,q,_⟩:=I3.cell z c e
    exact Nat.ne_of_lt (Heap.lt_size q)
   .obtain ⟨q,_⟩:=I3.pin p hp
    exact Nat.ne_of_lt (Heap.lt_size q)
 refine codeAny_compStart_list (loop _) ?_
 exact Tn.self _ 0 _ _ _ (Tn.keep _ _ _ t3 fun b _ o e=>hk b o e) (loop _)
end
theorem yp{lo:Int}{n:Nat}{te:TE}{fv:St}{Q:VK}{D:Addr}{H1:Hp}(Pv:Nat->List V->Hp->Prop)(hn:n<=sizeLine)(h0:Pv 0 [] (bQ H1 D (.lst [])))(hD:∀ i ys Hc,i<=n->Pv i ys Hc->Hc D=some (.lst ys)/\ys.length=i)
  (hs:∀ (i:Nat) ys Hc (k:VK),i<n->Pv i ys Hc->(∀ y H3,H3 D=some (.lst ys)->Pv (i+1) (ys++[y]) (bQ H3 D (.lst (ys++[y])))->k y H3)->te (some (.int (lo+i))::fv) Hc k) (hd:∀ ys Hc,Pv n ys Hc->Q (.ref D) Hc) :
  vf (Ud lo n) te fv Q D H1:=by
 refine ⟨fun i m ys Hc=>m=n - i/\i<=n/\Pv i ys Hc,⟨n,rfl,Nat.zero_le _,h0⟩,?_⟩
 rintro i m ys Hc ⟨rfl,hi,p⟩
 obtain ⟨d,l⟩:=hD i ys Hc hi p
 refine ⟨d,?_⟩
 by_cases hlt:i<n
 .refine .inr ⟨hlt,by omega,?_⟩
  rintro x H' ⟨rfl,rfl⟩
  exact hs i ys _ _ hlt p fun y H3 a b=>⟨a,n - (i+1),by omega,rfl,by omega,b⟩
 .have e:i=n:=by omega
  subst e
  exact .inl ⟨Nat.le_refl _,hd ys Hc p⟩
theorem Mg{K:PySem.W.Frag}{a:Addr}{xs:List V}{te:TE}{fv:St}{Q:VK}{D:Addr}{H1:Hp}(Pv:Nat->List V->Hp->Prop)(hn:xs.length<=sizeLine)(h0:Pv 0 [] (bQ H1 D (.lst [])))
  (hD:∀ i ys Hc,i<=xs.length->Pv i ys Hc->Hc D=some (.lst ys)/\ys.length=i/\c7 K Hc a xs)
  (hs:∀ (i:Nat) x ys Hc (k:VK),xs[i]?=some x->Pv i ys Hc->(∀ y H3,H3 D=some (.lst ys)->Pv (i+1) (ys++[y]) (bQ H3 D (.lst (ys++[y])))->k y H3)->te (some x::fv) Hc k) (hd:∀ ys Hc,Pv xs.length ys Hc->Q (.ref D) Hc) :
  vf (Px K a) te fv Q D H1:=by
 refine ⟨fun i m ys Hc=>m=xs.length - i/\i<=xs.length/\Pv i ys Hc,⟨xs.length,rfl,Nat.zero_le _,h0⟩,?_⟩
 rintro i m ys Hc ⟨rfl,hi,p⟩
 obtain ⟨d,l,q⟩:=hD i ys Hc hi p
 refine ⟨d,?_⟩
 by_cases hlt:i<xs.length
 .refine .inr ⟨⟨xs,xs[i],q,by simp [hlt]⟩,by omega,?_⟩
  rintro x H' ⟨rfl,y⟩
  exact hs i x ys _ _ (y xs q) p fun y H3 a b=>⟨a,xs.length - (i+1),by omega,rfl,by omega,b⟩
 .have e:i=xs.length:=by omega
  subst e
  exact .inl ⟨⟨xs,q,Nat.le_refl _⟩,hd ys Hc p⟩
theorem au(h:H D=none):aR H (bQ H D o):=fun b u e=>by
 rw [aA (aO e h)]
 exact e
theorem wC{lo:Int}{n:Nat}{te:TE}{fv:St}{Q:VK}{D:Addr}{H1:Hp}(f:Nat->V)(hn:n<=sizeLine)(hD:H1 D=none)(hs:∀ (i:Nat) Hc (k:VK),i<n->aR H1 Hc->k (f i) Hc->te (some (.int (lo+i))::fv) Hc k)
  (hd:Q (.ref D) (bQ H1 D (.lst ((List.range n).map f)))):vf (Ud lo n) te fv Q D H1:=by
 refine yp (fun i ys Hc=>ys=(List.range i).map f/\Hc=bQ H1 D (.lst ys)) hn ⟨rfl,rfl⟩ ?_ ?_ ?_
 .rintro i ys Hc _ ⟨rfl,rfl⟩
  exact ⟨aj,by simp⟩
 .rintro i ys Hc k hi ⟨rfl,rfl⟩ h
  refine hs i _ k hi (au hD) (h _ _ aj ⟨?_,?_⟩)
  .rw [List.range_succ,List.map_append];rfl
  .rw [bY]
 .rintro ys Hc ⟨rfl,rfl⟩
  exact hd
theorem ye{K:PySem.W.Frag}{a:Addr}{xs:List V}{te:TE}{fv:St}{Q:VK}{D:Addr}{H1:Hp}(f:V->V)(hn:xs.length<=sizeLine)(hq:c7 K H1 a xs)(hD:H1 D=none)
  (hs:∀ (i:Nat) x Hc (k:VK),xs[i]?=some x->aR H1 Hc->k (f x) Hc->te (some x::fv) Hc k) (hd:Q (.ref D) (bQ H1 D (.lst (xs.map f)))):vf (Px K a) te fv Q D H1:=by
 refine Mg (fun i ys Hc=>ys=(xs.take i).map f/\Hc=bQ H1 D (.lst ys)) hn ⟨rfl,rfl⟩ ?_ ?_ ?_
 .rintro i ys Hc hi ⟨rfl,rfl⟩
  exact ⟨aj,by simp [Nat.min_eq_left hi],(au hD).seq hq⟩
 .rintro i x ys Hc k hi ⟨rfl,rfl⟩ h
  refine hs i x _ k hi (au hD) (h _ _ aj ⟨?_,?_⟩)
  .rw [List.take_succ,hi,List.map_append];rfl
  .rw [bY]
 .rintro ys Hc ⟨rfl,rfl⟩
  rw [List.take_length]
  exact hd
open PySem PySem.Spec PyProof.Rows PySem.SeqAt
section
variable{P:Program}{w:World}{K:PySem.W.Frag}{mg:Str->Option Value}{base:Heap}
theorem dq.okX{x qual:Str}{st:Stmt}{f:Addr}{fd:FuncData}{N ps:List Str}{k:Nat}{sp:Sp}(F:dq K x qual st f fd)(S:aG N ps (az st))(len:∀ vs H Q E,sp vs H Q E->vs.length=ps.length)
  (hbody:∀ (cdv:Value) (A:Around) (outer:List Env) (s:Shared) (H:Hp) (vs:List V) (Q:VK) (E:XK),cO k (A.deeper (envOfC qual (az st) s.heap.objs.size f cdv))->sp vs H Q E ->
   ∃ t,xW (bU (vY P w) P w K mg base N qual (az st) f cdv A outer s H E) (eN st) t/\t { nx:=fun _ H'=>Q .non H',rt:=Q } (lJ N vs) H):bf P w K mg base (vY P w) (k+1) f fd ps sp:=by
 obtain ⟨oc,od,kV,doc,pm,an,cdv,ct,osl,rfl,lk,hcd⟩:=F.ex
 exact Qv lk hcd S len fun A outer s H vs Q E hr hsp=>hbody cdv A outer s H vs Q E hr hsp
theorem dq.oqX{x qual:Str}{st:Stmt}{f:Addr}{fd:FuncData}{N ps:List Str}{k:Nat}{sp:Sp}(F:dq K x qual st f fd)(S:aG N ps (az st))
  (hbody:∀ (cdv:Value) (A:Around) (outer:List Env) (s:Shared) (H:Hp) (vs:List V) (Q:VK) (E:XK),cO k (A.deeper (envOfC qual (az st) s.heap.objs.size f cdv))->sp vs H Q E ->
   ∃ t,xW (bU (vY P w) P w K mg base N qual (az st) f cdv A outer s H E) (eN st) t/\t { nx:=fun _ H'=>Q .non H',rt:=Q } (lJ N vs) H) (len:∀ vs H Q E,sp vs H Q E->vs.length=ps.length:=by intro _ _ _ _ h;repeat (first | (obtain ⟨rfl,_⟩:=h;rfl) | obtain ⟨_,h⟩:=h)):bf P w K mg base (vY P w) (k+1) f fd ps sp :=
 F.okX S len hbody
end
section
variable{X:Cx}
theorem vD(hc:X.calm=true):lW X (.builtin "all") (fun xs H Q=>∃ (p:Addr) (bs:List Bool),xs=[.ref p]/\c7 X.K H p (bs.map V.bl)/\Q (.bl (bs.all id)) H):=by
 intro pins s σ H xs us Q I r h
 obtain ⟨p,bs,rfl,hq,q⟩:=h
 obtain ⟨u,rfl,rx⟩:=lu r
 cases rx
 obtain ⟨its,r',pl,hz⟩:=I.list hq
 have hl:=pl.isList
 have hlt:p<s.heap.objs.size:=by obtain ⟨_,e,_⟩:=hl;exact Heap.lt_size e
 have hlen:its.length=bs.length:=by rw [<- r'.length,List.length_map]
 refine call_all_walk (wpAny_pyIter_list hl ?_)
 refine ⟨s.heap.objs.size,[s.heap.objs.size,p],[s.heap.objs.size],its.toArray.size,_,_,fun i=>(bs[i]?).getD true,rfl,Walks.list (A:=X.A.in1) (I.ok.hd hc) _ p (Nat.ne_of_lt hlt) its.toArray,
  ⟨⟨_,Heap.get?_push_size _ rfl,rfl,rfl⟩,hl.push _⟩,fun i v s' Q' E' hP hQ=>?_,fun h' tk hk=>?_⟩
 .have hP':its[i]?=some v:=by simpa using hP
  have hi:i<bs.length:=by rw [<- hlen];exact (List.getElem?_eq_some_iff.mp hP').1
  obtain ⟨u,hu,ru⟩:=r'.get (i:=i) (x:=.bl bs[i]) (by simp [hi])
  rw [hP'] at hu
  cases hu
  cases (show v=Value.bool bs[i] from ru)
  simp only [List.getElem?_eq_getElem hi,Option.getD_some] at hQ
  exact wpAny_truthy_bool hQ
 .have e:((List.range its.toArray.size).all fun i=>(bs[i]?).getD true)=bs.all id:=by
   rw [List.size_toArray,hlen]
   have g:∀ l:List Bool,((List.range l.length).all fun i=>(l[i]?).getD true)=l.all id:=fun l=>by
    induction l with
    | nil=>rfl
    | cons b l ih=>simp only [List.length_cons,List.range_succ_eq_map,List.all_cons,List.all_map,List.getElem?_cons_zero,Option.getD_some,id];rw [<- ih];congr 1
   exact g bs
  rw [e]
  refine ⟨.bl (bs.all id),H,I.kept (t':=tk) fun b o e=>?_,rfl,q⟩
  exact hk b o (fun hm=>by rw [List.mem_singleton.mp hm] at e;exact Nat.lt_irrefl _ (Heap.lt_size e)) (Heap.get?_push_of_some _ e)
mutual
inductive NB(K:PySem.W.Frag)(H:Hp):V->PyData->Prop where
 | non:NB K H .non .none
 | bl (b:Bool):NB K H (.bl b) (.bool b)
 | int (i:Int):NB K H (.int i) (.int i)
 | str (x:Str):NB K H (.str x) (.str x)
 | lst {a:Addr} {xs:List V} {ds:List PyData}:c7 K H a xs->Ds K H xs ds->NB K H (.ref a) (.list ds)
inductive Ds(K:PySem.W.Frag)(H:Hp):List V->List PyData->Prop where
 | nil:Ds K H [] []
 | cons {x:V} {d:PyData} {xs:List V} {ds:List PyData}:NB K H x d->Ds K H xs ds->Ds K H (x::xs) (d::ds)
end
mutual
noncomputable def V7:PyData->Bool
 | .dict _=>false
 | .list xs=>vN xs
 | .tuple xs=>vN xs
 | .none=>true
 | .bool _=>true
 | .int _=>true
 | .str _=>true
noncomputable def vN:List PyData->Bool
 | []=>true
 | d::r=>V7 d && vN r
end
mutual
theorem NB.reads{P:Program}{w:World}{pins:List (Addr × Obj)}{σ:St}{H:Hp}{s:Shared}(I:bj X pins σ H s):∀ {x:V} {d:PyData} {u:Value},NB X.K H x d->cQ x u->∃ as,Reads s.heap u d as
 | _,_,u,.non,r=>by cases (show u=Value.none from r);exact ⟨_,.none⟩
 | _,_,u,.bl b,r=>by cases (show u=Value.bool b from r);exact ⟨_,.bool b⟩
 | _,_,u,.int i,r=>by obtain ⟨t,e⟩:=(show ∃ t,u=Value.int i t from r);cases e;exact ⟨_,.int i t⟩
 | _,_,u,.str x,r=>by obtain ⟨t,e⟩:=(show ∃ t,u=Value.str x t from r);cases e;exact ⟨_,.str x t⟩
 | _,_,u,.lst (a:=a) h l,r=>by
  cases (show u=Value.ref a from r)
  obtain ⟨its,rv,⟨o,n,e,c,_,d⟩,_⟩:=I.list h
  obtain ⟨as,q⟩:=Ds.reads (P:=P) (w:=w) I l rv
  exact ⟨_,.list e c d (by simpa using q)⟩
theorem Ds.reads{P:Program}{w:World}{pins:List (Addr × Obj)}{σ:St}{H:Hp}{s:Shared}(I:bj X pins σ H s):∀ {xs:List V} {ds:List PyData} {us:List Value},Ds X.K H xs ds->cI xs us->∃ as,ReadsAll s.heap us ds as
 | _,_,_,.nil,.nil=>⟨_,.nil⟩
 | _,_,_,.cons h l,.cons r rr=>by
  obtain ⟨as,q⟩:=NB.reads (P:=P) (w:=w) I h r
  obtain ⟨bs,q2⟩:=Ds.reads (P:=P) (w:=w) I l rr
  exact ⟨_,.cons q q2⟩
end
end
section
variable{X:Cx}
theorem Jr(hu:X.A.units+64<cLine):uc X (compareOp .NotEq) (fun x y H Q=>∃ d e,NB X.K H x d/\NB X.K H y e/\shaped d=true/\shaped e=true/\noMix d e=true/\Q (.bl (!same d e)) H):=by
 intro pins s σ H x y v u Q I rx ry h
 obtain ⟨d,e,hx,hy,sd,se,nm,q⟩:=h
 obtain ⟨as,ra⟩:=hx.reads (P:=X.prog) (w:=X.w) I rx
 obtain ⟨bs,rb⟩:=hy.reads (P:=X.prog) (w:=X.w) I ry
 exact ne_dataH_same ra rb sd se hu nm ⟨.bl (!same d e),H,I,rfl,q⟩
noncomputable def Xp:V->Value
 | .ref a=>.ref a
 | .ty n=>.type n
 | _=>.none
theorem gF:lW X (.builtin "isinstance") (fun xs H Q=>∃ x c t b,xs=[x,c]/\((∃ a,c=.ref a)\/∃ n,c=.ty n)/\vm X.K H x t/\PySem.W.kitOne X.K t (Xp c)=some b/\Q (.bl b) H):=by
 intro pins s σ H xs us Q I r h
 obtain ⟨x,c,t,b,rfl,hc,ty,k,q⟩:=h
 obtain ⟨u,w',rfl,ru,rw'⟩:=Om r
 have e:w'=Xp c:=by
  rcases hc with ⟨a,rfl⟩ | ⟨n,rfl⟩
  .exact rw'
  .exact rw'
 subst e
 exact Nv I ru ty k fun tk=>⟨.bl b,H,I.tok _,rfl,q⟩
theorem Od(hv:PE X v tv)(hx:x.length<=sizeLine):PE X (.JoinedStr [.Constant (.str x) j p1,.FormattedValue v (-1) none p2] pos)
  (fun σ H Q=>tv σ H fun y H1=>∃ i,y=.int i/\i.natAbs.log2<1920/\x.length+(toString i:Str).length<=sizeLine/\Q (.str (Str.empty++x++toString i)) H1):=by
 intro pins s σ H Q I h
 refine JoinedStr_many (joinParts_cons (dg (aX (x:=x) (j:=j) (pos:=p1) pins s σ H (fun v H1=>v=.str x/\H1=H) I ⟨rfl,rfl⟩) fun u s1 z=>?_))
 obtain ⟨v',H1,I1,r1,rfl,rfl⟩:=z
 obtain ⟨t,rfl⟩:=(show ∃ t,u=Value.str x t from r1)
 have e0:(Str.empty++x).length=x.length:=by rw [strLen_append];exact Nat.zero_add _
 refine ⟨?_,joinParts_cons (FormattedValue_plain (dg (hv pins s1 σ _ _ I1 h) fun u2 s2 z=>?_))⟩
 .rw [e0];exact hx
 .obtain ⟨y,H2,I2,r2,i,rfl,hi,hz,q⟩:=z
  obtain ⟨t2,rfl⟩:=(show ∃ t,u2=Value.int i t from r2)
  refine formatField_int_small hi ⟨?_,joinParts_nil ?_ ?_⟩
  .rw [strLen_append,e0];exact hz
  .exact ⟨.str _,H2,I2.tok _,⟨_,rfl⟩,q⟩
  .rw [strLen_append,e0];exact hz
end
structure GQ(H₀:Hp)(a:Addr):Prop where
 f:∀ o u,H₀ a≠some (.frz o u)
 t:∀ xs,H₀ a≠some (.tup xs)
 b:∀ ps,H₀ a≠some (.tbl ps)
section
variable{X:Cx}{pins:List (Addr × Obj)}{σ:St}{H:Hp}{s:Shared}{a:Addr}{o:Obj}{kvs:List (gf × V)}
theorem bj.loose(I:bj X pins σ H s)(e:H a=some (.dK kvs)):GQ X.H₀ a :=
 ⟨fun o u z=>(by have:=I.base.frzs a o u z;rw [e] at this;cases this),fun xs z=>(by have:=I.base.tups a xs z;rw [e] at this;cases this),fun ps z=>(by obtain ⟨m,q⟩:=I.base.tbls a ps z;rw [e] at q;cases q)⟩
theorem bj.redo(I:bj X pins σ H s)(e:H a=some u)(hu:∀ xs,u≠.tup xs)(ho:∀ b,u≠.own b)(L:GQ X.H₀ a)(new:dW X.prog X.w H s.heap a v):bj X pins σ (bQ H a v) s:=by
 have k:∀ b w',H b=some w'->b≠a->bQ H a v b=some w':=fun b w' q n=>by rw [aA n];exact q
 have tt:∀ b xs,H b=some (.tup xs)->bQ H a v b=some (.tup xs):=fun b xs q=>k b _ q fun z=>by subst z;rw [e] at q;cases q;exact hu xs rfl
 have oo:∀ b c,H b=some (.own c)->bQ H a v b=some (.own c):=fun b c q=>k b _ q fun z=>by subst z;rw [e] at q;cases q;exact ho c rfl
 have nn:∀ b,H b=none->bQ H a v b=none:=fun b q=>by rw [aA (fun z=>by subst z;rw [e] at q;cases q)];exact q
 refine ⟨I.ok,I.os,I.bare,⟨I.base.keep,I.base.slot,fun b o' q n hx=>nn b (I.base.free b o' q n hx),I.base.there,fun b xs q=>tt b xs (I.base.tups b xs q),fun b o' u' q=>?_,fun b ps q=>?_⟩,I.loc,I.cell,nn _ I.free,fun x c q=>nn c (I.freeC x c q),fun p hp=>?_,fun b ob q=>?_,I.len⟩
 .exact k b _ (I.base.frzs b o' u' q) fun z=>by subst z;exact L.f _ _ q
 .obtain ⟨m,q'⟩:=I.base.tbls b ps q
  exact ⟨m,k b _ q' fun z=>by subst z;exact L.b _ q⟩
 .obtain ⟨p1,p2,p3⟩:=I.pin p hp
  exact ⟨p1,nn _ p2,p3⟩
 .by_cases z:b=a
  .subst z
   rw [aj] at q
   cases q
   exact new.stay (fun _ _ _ q=>q) (fun c q=>oo c _ q) tt
  .rw [aA z] at q
   exact (I.hok b ob q).stay (fun _ _ _ q=>q) (fun c q=>oo c _ q) tt
theorem bj.freeze(I:bj X pins σ H s)(e:H a=some (.dK kvs))(ho:s.heap.get? a=some o):bj X pins σ (bQ H a (.frz o (.dK kvs))) s :=
 I.redo e (fun _ z=>nomatch z) (fun _ z=>nomatch z) (I.loose e) ⟨ho,I.hok a _ e⟩
theorem bj.thaw(I:bj X pins σ H s)(L:GQ X.H₀ a)(e:H a=some (.frz o (.dK kvs))):bj X pins σ (bQ H a (.dK kvs)) s :=
 I.redo e (fun _ z=>nomatch z) (fun _ z=>nomatch z) L (I.hok a _ e).2
end
noncomputable def W7(a:Addr)(o:Obj)(kvs:List (gf × V)):It :=
 ⟨fun i H=>H a=some (.frz o (.dK kvs))/\i<kvs.length,fun i H x H'=>H'=H/\∃ p,kvs[i]?=some p/\x=kV p.1,fun i H=>H a=some (.frz o (.dK kvs))/\kvs.length<=i⟩
noncomputable def Ng(o:Obj):Nat:=match o.data with | .dict _ ep=>ep | _=>0
theorem xu(I:bj X pins σ H s)(e:H a=some (.frz o (.dK kvs))) :
  (a == sysModules)=false/\∃ vs,KV kvs vs/\s.heap.DictAt (cY X.prog X.w) a vs (Ng o):=by
 obtain ⟨ho,_,hd,vs,r,o',es,ep,e1,e2,e3,e4⟩:=I.hok a _ e
 rw [ho] at e1
 cases e1
 have ee:Ng o=ep:=by unfold Ng;rw [e3]
 exact ⟨hd,vs,r,o,es,ho,e2,by rw [ee];exact e3,e4⟩
theorem Ql(h:xC k u=true):cQ (kV k) u:=by
 rcases dX h with ⟨i,t,rfl,rfl⟩ | ⟨x,t,rfl,rfl⟩
 .exact ⟨t,rfl⟩
 .exact ⟨t,rfl⟩
theorem Nu{P:Program}{w:World}{K:PySem.W.Frag}{tg:Expr}(a it:Addr)(o:Obj)(kvs:List (gf × V))(hne:a≠it):vM P w K tg (W7 a o kvs) [it] it (fun i h=>h.IsKeyIter it a i kvs.length (Ng o)) where
 mem:=by simp
 obj:=fun i h st b hb=>by
  have e:b=it:=by simpa using hb
  subst e
  obtain ⟨o,e,c,d⟩:=st
  exact ⟨o,e,fun v z=>by rw [d] at z;cases z⟩
 keep:=fun i h h' st k=>st.at fun o e=>k it (by simp) o e
 item:=by
  intro X hP hw hK hc i pins s σ H E I hf st hg
  subst hP hw hK
  obtain ⟨e,hi⟩:=hg
  obtain ⟨hd,vs,r,D⟩:=xu I e
  have hlen:=r.length
  obtain ⟨p,hp⟩:∃ p,kvs[i]?=some p:=⟨kvs[i],by simp [hi]⟩
  have hk:vs[i]?.map (·.1)=some p.1:=by
   have q:=congrArg (fun l=>l[i]?) r.keys
   simp only [List.getElem?_map] at q
   rw [hp] at q
   exact q.symm
  obtain ⟨⟨k',v⟩,hx,e2⟩:=Option.map_eq_some_iff.mp hk
  obtain ⟨f0,f1,f2,f3,f4,f5⟩:=hf it (by simp)
  have st':s.heap.IsKeyIter it a i vs.length (Ng o):=by rw [<- hlen];exact st
  refine wpAny_pyNext_dict_item st' D hx fun key h' hkey st2 sb=>?_
  have I1:bj X pins σ H { s with heap:=h' }:=I.turned (t':=s.toks) (fun b o hb e=>(sb.2 b hb).trans e) f0 f1 f3 f4 f5
  obtain ⟨o2,e3,c3,d3⟩:=id st2
  have ek:k'=p.1:=e2
  refine ⟨key,rfl,xP (s:={ s with heap:=h' }) e3 c3 d3 (by decide) ⟨kV p.1,H,I1,Ql (by rw [<- ek];exact hkey),⟨rfl,p,hp,rfl⟩,by rw [hlen];exact st2,fun b hb=>(hf b hb).1⟩⟩
 done:=by
  intro X hP hw hK hc i pins s σ H E I hf st hg
  subst hP hw hK
  obtain ⟨e,hi⟩:=hg
  obtain ⟨hd,vs,r,D⟩:=xu I e
  have hlen:=r.length
  obtain ⟨f0,f1,f2,f3,f4,f5⟩:=hf it (by simp)
  have st':s.heap.IsKeyIter it a i vs.length (Ng o):=by rw [<- hlen];exact st
  exact wpAny_pyNext_dict_end (I.ok.hd hc) st' D (by simp;omega) fun h' eb=>⟨rfl,I.turned (t':=s.toks) (fun b o hb e=>eb b o hb e) f0 f1 f3 f4 f5⟩
 self:=fun _ _ _ _ _ st h=>wpAny_pyIter_keyiter st h
section
variable{X:Cx}{tg:Expr}
noncomputable def XM(H₀:Hp)(tl:TE):TI:=fun σ H R=>tl σ H fun x H1=>∃ a kvs,x=.ref a/\H1 a=some (.dK kvs)/\(GQ H₀ a->∀ o,R (W7 a o kvs) (bQ H1 a (.frz o (.dK kvs))))
theorem RP{l:Expr}{tl:TE}(hl:PE X l tl):PI X tg l (XM X.H₀ tl):=by
 intro pins s σ H R I h
 refine dg (hl pins s σ H _ I h) fun v s1 ⟨x,H1,I1,r1,q1⟩=>?_
 obtain ⟨a,kvs,e,hq,q⟩:=q1
 subst e
 cases r1
 obtain ⟨o,ho⟩:=(I1.hok a _ hq).ex
 have I2:=I1.freeze hq ho
 obtain ⟨hd,vs,r,D⟩:=xu I2 aj
 have hlen:=r.length
 refine wpAny_pyIter_dict hd D ?_
 have hlt:=Heap.lt_size ho
 refine ⟨s1.heap.objs.size,[s1.heap.objs.size],_,_,_,rfl,I2.kept (t':=s1.toks) fun b o e=>Heap.get?_push_of_some _ e,Nu a _ o kvs (Nat.ne_of_lt hlt),⟨_,Heap.get?_push_size _ rfl,rfl,by rw [hlen];rfl⟩,fun b hb=>?_,q (I1.loose hq) o⟩
 have e:b=s1.heap.objs.size:=by simpa using hb
 subst e
 exact I2.fpOk (Nat.le_refl _) (I2.hok.fresh (Nat.le_refl _))
noncomputable def Ea(H₀:Hp)(P:Hp->Prop)(H:Hp):Prop:=∃ a o kvs,GQ H₀ a/\H a=some (.frz o (.dK kvs))/\P (bQ H a (.dK kvs))
noncomputable def Ub(H₀:Hp)(D:ji):ji:={ nx:=fun σ=>Ea H₀ (D.nx σ),rt:=fun v=>Ea H₀ (D.rt v),bk:=fun σ=>Ea H₀ (D.bk σ),ct:=fun σ=>Ea H₀ (D.ct σ) }
noncomputable def WP(H₀:Hp)(t:TS):TS:=fun D σ H=>t (Ub H₀ D) σ H
theorem TY{st:Stmt}{t:TS}(h:PS X st t):PS X st (WP X.H₀ t):=by
 intro pins s σ H D I q
 refine dg (h pins s σ H (Ub X.H₀ D) I q) fun f s1 z=>?_
 cases f with
 | next=>obtain ⟨σ',H',I',a,o,kvs,L,e,z⟩:=z;exact ⟨σ',_,I'.thaw L e,z⟩
 | brk=>obtain ⟨σ',H',I',a,o,kvs,L,e,z⟩:=z;exact ⟨σ',_,I'.thaw L e,z⟩
 | cont=>obtain ⟨σ',H',I',a,o,kvs,L,e,z⟩:=z;exact ⟨σ',_,I'.thaw L e,z⟩
 | ret u=>obtain ⟨v,σ',H',I',r,a,o,kvs,L,e,z⟩:=z;exact ⟨v,σ',_,I'.thaw L e,r,z⟩
end
theorem Qa{a:Addr}{o:Obj}{kvs:List (gf × V)}{g:TG}{tb:TS}{D:ji}{σ:St}{H:Hp}(Pv:Nat->St->Hp->Prop)(h0:Pv 0 σ H)(hl:∀ i σ H,i<=kvs.length->Pv i σ H->H a=some (.frz o (.dK kvs)))
  (hs:∀ i p σ H,kvs[i]?=some p->Pv i σ H->g (kV p.1) σ H fun σ2 H2=>tb { D with nx:=Pv (i+1),ct:=Pv (i+1),bk:=D.nx } σ2 H2) (hd:∀ σ H,Pv kvs.length σ H->D.nx σ H) :
  ∃ W:Nat->Nat->St->Hp->Prop,(∃ m,W 0 m σ H)/\∀ i m σ H,W i m σ H ->
   ((W7 a o kvs).stop i H/\D.nx σ H)\/((W7 a o kvs).go i H/\∃ N:St->Hp->Prop,(∀ σ' H',N σ' H'->∃ m',m'<m/\W (i+1) m' σ' H')/\∀ x H',(W7 a o kvs).yld i H x H'->g x σ H' fun σ2 H2=>tb { D with nx:=N,ct:=N,bk:=D.nx } σ2 H2):=by
 refine ⟨fun i m σ H=>m=kvs.length - i/\i<=kvs.length/\Pv i σ H,⟨kvs.length,by simp,Nat.zero_le _,h0⟩,?_⟩
 rintro i m σ H ⟨rfl,hi,p⟩
 have q:=hl i σ H hi p
 by_cases hlt:i<kvs.length
 .refine .inr ⟨⟨q,hlt⟩,Pv (i+1),fun σ' H' p'=>⟨kvs.length - (i+1),by omega,rfl,hlt,p'⟩,fun x H' y=>?_⟩
  obtain ⟨rfl,p',e,rfl⟩:=y
  exact hs i p' σ _ e p
 .have e:i=kvs.length:=by omega
  subst e
  exact .inl ⟨⟨q,Nat.le_refl _⟩,hd σ H p⟩
open PySem PySem.Spec PyProof.Rows PySem.W
section
variable{prog:Program}{w:World}{A:Around}{E:Value->Shared->Prop}{K:PySem.W.Frag}{a C:Addr}{h:Heap}{g:Array GenState}{d:Drawn}{t:Nat}{os:OsState}{oe:Obj}
end
section
variable{X:Cx}{pins:List (Addr × Obj)}{σ:L2.St}{H:Hp}{s:Shared}
theorem bj.turnedNew{t':Nat}{ch:List Addr}{T:Addr}{o:HO}{h':Heap}(I:bj X pins σ H s)(hch:∀ b∈ch,oW X pins H b)(k:∀ b o,b∉ch->s.heap.get? b=some o->h'.get? b=some o)
  (hT:s.heap.objs.size<=T) (new:dW X.prog X.w (bQ H T o) h' T o):bj X pins σ (bQ H T o) { s with heap:=h',toks:=t' }:=by
 have nT:H T=none:=I.hok.fresh hT
 have up:∀ b u,H b=some u->bQ H T o b=some u:=fun b u e=>by rw [aA (aO e nT)];exact e
 have nch:∀ b u,H b=some u->b∉ch:=fun b u e hb=>by rw [(hch b hb).1] at e;cases e
 refine I.step (g':=s.gens) (d':=s.drawn) (ch:=ch) (fun b hb=>?_) (fun b o _ _ hc e _=>k b o hc e) (fun b o _ _ hc e _=>⟨o.slots,k b o hc e⟩) (fun b u _ e n=>?_)
  (fun b o hc e=>⟨o,k b o hc e⟩) (fun b xs e=>up b _ e) (fun b o u e=>up b _ e) (fun b ps e=>⟨#[],by rw [up b _ e];simp⟩) (fun m hm=>?_) (fun b u e=>?_) I.bare
 .obtain ⟨_,f1,f2,f3,f4,f5⟩:=hch b hb
  exact ⟨f3,f1,f4,f5⟩
 .rw [aA (Nat.ne_of_lt (Nat.lt_of_lt_of_le (Heap.lt_size e) hT))]
  exact n
 .obtain ⟨o,es,ep,ho,r⟩:=hm
  exact ⟨o,es,ep,k _ o (fun hb=>(hch _ hb).2.1 rfl) ho,r⟩
 .by_cases z:b=T
  .subst z
   rw [aj] at e
   cases e
   exact new
  .rw [aA z] at e
   refine (I.hok b u e).stay (fun c v hc q=>k c v ?_ q) (fun c q=>up c _ q) fun c xs q=>up c _ q
   rcases hc with z | z
   .rw [z];exact nch b u e
   .exact nch c _ z
theorem bj.turnedL{t':Nat}{ch:List Addr}{h':Heap}(I:bj X pins σ H s)(hch:∀ b∈ch,oW X pins H b)(k:∀ b o,b∉ch->s.heap.get? b=some o->h'.get? b=some o):bj X pins σ H { s with heap:=h',toks:=t' }:=by
 have nch:∀ b u,H b=some u->b∉ch:=fun b u e hb=>by rw [(hch b hb).1] at e;cases e
 refine I.step (g':=s.gens) (d':=s.drawn) (ch:=ch) (fun b hb=>?_) (fun b o _ _ hc e _=>k b o hc e) (fun b o _ _ hc e _=>⟨o.slots,k b o hc e⟩) (fun _ _ _ _ n=>n)
  (fun b o hc e=>⟨o,k b o hc e⟩) (fun _ _ e=>e) (fun _ _ _ e=>e) (fun b ps e=>⟨#[],by rw [e];simp⟩) (fun m hm=>?_) (fun b u e=>?_) I.bare
 .obtain ⟨_,f1,f2,f3,f4,f5⟩:=hch b hb
  exact ⟨f3,f1,f4,f5⟩
 .obtain ⟨o,es,ep,ho,r⟩:=hm
  exact ⟨o,es,ep,k _ o (fun hb=>(hch _ hb).2.1 rfl) ho,r⟩
 .refine (I.hok b u e).stay (fun c v hc q=>k c v ?_ q) (fun _ q=>q) fun _ _ q=>q
  rcases hc with z | z
  .rw [z];exact nch b u e
  .exact nch c _ z
end
section
variable{X:Cx}
end
section
variable{X:Cx}
theorem sJ:uc X (compareOp .LtE) (fun x y H Q=>∃ i j,x=.str i/\y=.str j/\Q (.bl (!decide (j.cps.toList<i.cps.toList))) H):=by
 intro pins s σ H x y v u Q I rx ry h
 obtain ⟨i,j,rfl,rfl,q⟩:=h
 obtain ⟨t,rfl⟩:=rx
 obtain ⟨t',rfl⟩:=ry
 exact PySem.P.le_str (dB I q rfl)
noncomputable def Hw(cs:List Nat)(lo hi:Option Int):List Nat:=(cs.drop (HT.oZ cs.length 0 lo)).take (HT.oZ cs.length cs.length hi - HT.oZ cs.length 0 lo)
noncomputable def DN(z:Str)(lo hi:Option Int):Str:=⟨(Hw z.cps.toList lo hi).toArray⟩
theorem Ji(z:Str)(lo hi:Option Int):(Builtin.Str.strSliceIndices lo hi 1 z.length).filterMap (z.cps[·]?)=Hw z.cps.toList lo hi:=by
 have hl:z.cps.toList.length=z.length:=by simp [Str.length]
 have h1:Builtin.Str.strSliceIndices lo hi 1 z.length=sliceRange ((HT.oZ z.length 0 lo:Nat):Int) ((HT.oZ z.length z.length hi:Nat):Int) 1:=by
  unfold Builtin.Str.strSliceIndices
  simp only [show (1:Int) > 0 by decide,if_true]
  congr 1
  .cases lo with
   | none=>rfl
   | some i =>
    unfold HT.oZ
    by_cases h:i<0
    .simp only [h,if_true];omega
    .simp only [h,if_false];omega
  .cases hi with
   | none=>rfl
   | some i =>
    unfold HT.oZ
    by_cases h:i<0
    .simp only [h,if_true];omega
    .simp only [h,if_false];omega
 rw [h1,sliceRange_one,pick_run]
 unfold Hw
 rw [hl]
theorem Im(lo hi:Option Int)(n:Nat):(Builtin.Str.strSliceIndices lo hi 1 n).length=HT.oZ n n hi - HT.oZ n 0 lo:=by
 have h1:Builtin.Str.strSliceIndices lo hi 1 n=sliceRange ((HT.oZ n 0 lo:Nat):Int) ((HT.oZ n n hi:Nat):Int) 1:=by
  unfold Builtin.Str.strSliceIndices
  simp only [show (1:Int) > 0 by decide,if_true]
  congr 1
  .cases lo with
   | none=>rfl
   | some i =>
    unfold HT.oZ
    by_cases h:i<0
    .simp only [h,if_true];omega
    .simp only [h,if_false];omega
  .cases hi with
   | none=>rfl
   | some i =>
    unfold HT.oZ
    by_cases h:i<0
    .simp only [h,if_true];omega
    .simp only [h,if_false];omega
 rw [h1,sliceRange_one]
 simp
theorem Jl{cs:List Nat}{lo hi:Option Int}(h:HT.oZ cs.length cs.length hi - HT.oZ cs.length 0 lo=cs.length):Hw cs lo hi=cs:=by
 unfold Hw
 have a:=HT.Vd cs.length cs.length (Nat.le_refl _) hi
 have e:cs.length=0\/HT.oZ cs.length 0 lo=0:=by omega
 rcases e with e | e
 .have:cs=[]:=List.length_eq_zero_iff.mp e
  subst this
  simp
 .rw [e] at h ⊢
  rw [List.drop_zero]
  exact List.take_of_length_le (by omega)
noncomputable def Zj:V->Option Int->Option Int->Hp->VK->Prop:=fun x lo hi H Q=>∃ z,x=.str z/\z.length<=sizeLine/\Q (.str (DN z lo hi)) H
theorem Je{h:Heap}{sl:Addr}{vl vu:Value}{lo hi:Option Int}(hs:h.IsSliceOf sl vl vu .none)(pl:IsPart vl lo)(pu:IsPart vu hi):∃ l u,h.IsSlice sl l u none/\l.map (·.1)=lo/\u.map (·.1)=hi:=by
 obtain ⟨o,e,c,d⟩:=hs
 cases pl with
 | none =>
  cases pu with
  | none=>exact ⟨none,none,⟨o,e,c,d⟩,rfl,rfl⟩
  | int j t=>exact ⟨none,some (j,t),⟨o,e,c,d⟩,rfl,rfl⟩
 | int i t =>
  cases pu with
  | none=>exact ⟨some (i,t),none,⟨o,e,c,d⟩,rfl,rfl⟩
  | int j t'=>exact ⟨some (i,t),some (j,t'),⟨o,e,c,d⟩,rfl,rfl⟩
theorem Q8:Yo X Zj:=by
 intro pins s σ H x v vl vu lo hi sl Q I rx hs pl pu h
 obtain ⟨z,rfl,hz,q⟩:=h
 obtain ⟨t,rfl⟩:=rx
 refine ⟨"str",_,slot_str_getitem.lookup,typeIs_str s z t,?_⟩
 obtain ⟨l,u,hS,el,eu⟩:=Je hs pl pu
 refine wpAny_getItem_str_slice hS rfl ?_
 have hl:z.cps.toList.length=z.length:=by simp [Str.length]
 have hpk:slicePicked z l u none=Builtin.Str.strSliceIndices lo hi 1 z.length:=by
  unfold slicePicked
  rw [el,eu]
  rfl
 unfold sliceMade
 rw [hpk]
 have hp:=Ji z lo hi
 by_cases hw:(Builtin.Str.strSliceIndices lo hi 1 z.length).length=z.length
 .have e1:((((none:Option (Int × Tok)).map (·.1)).getD 1 == 1 && (Builtin.Str.strSliceIndices lo hi 1 z.length).length == z.length)=true):=by rw [hw];simp
  rw [if_pos e1]
  have e2:DN z lo hi=z:=by
   unfold DN
   rw [Jl (by rw [hl,<- Im];exact hw)]
  rw [e2] at q
  exact ⟨.str z,H,I,⟨_,rfl⟩,q⟩
 .have e1:¬ ((((none:Option (Int × Tok)).map (·.1)).getD 1 == 1 && (Builtin.Str.strSliceIndices lo hi 1 z.length).length == z.length)=true):=by
   simp [hw]
  rw [if_neg e1,hp]
  refine ⟨?_,?_⟩
  .show (Hw z.cps.toList lo hi).toArray.size<=sizeLine
   rw [List.size_toArray]
   unfold Hw
   rw [List.length_take,List.length_drop]
   omega
  .exact ⟨.str (DN z lo hi),H,I.tok _,⟨_,rfl⟩,q⟩
theorem zO:lW X (.type "int") (fun xs H Q=>∃ z n,xs=[.str z]/\PySem.intText? z=some n/\z.length<=640/\Q (.int n) H):=by
 intro pins s σ H xs us Q I r h
 obtain ⟨z,n,rfl,hn,hl,q⟩:=h
 obtain ⟨u,rfl,t,rfl⟩:=lu r
 exact PySem.W.KIN.call_text hn hl ⟨.int n,H,I.tok _,⟨_,rfl⟩,q⟩
noncomputable def WX(z:Str):It:=⟨fun i _=>i<z.cps.toList.length,fun i H x H'=>H'=H/\∃ c,z.cps.toList[i]?=some c/\x=.str ⟨#[c]⟩,fun i _=>z.cps.toList.length<=i⟩
end
theorem MP{P:Program}{w:World}{K:PySem.W.Frag}{tg:Expr}(z:Str)(t:Tok)(it:Addr):vM P w K tg (WX z) [it] it (fun i h=>h.IsStrIter it "str_ascii_iterator" z t i) where
 mem:=by simp
 obj:=fun i h st b hb=>by
  have e:b=it:=by simpa using hb
  subst e
  obtain ⟨o,e,c,d⟩:=st
  exact ⟨o,e,fun v z=>by rw [d] at z;cases z⟩
 keep:=fun i h h' st k=>by
  obtain ⟨o,e,r⟩:=st
  exact ⟨o,k it (by simp) o e,r⟩
 item:=by
  intro X hP hw hK hc i pins s σ H E I hf st hg
  subst hP hw hK
  have hi:i<z.cps.toList.length:=hg
  obtain ⟨f0,f1,f2,f3,f4,f5⟩:=hf it (by simp)
  have hx:z.cps[i]?=some (z.cps.toList[i]):=by rw [<- Array.getElem?_toList,List.getElem?_eq_getElem hi]
  refine wpAny_pyNext_ascii_item st hx fun h' st' sb=>?_
  have I1:bj X pins σ H { s with heap:=h',toks:=s.toks+1 }:=I.turned (t':=s.toks+1) (fun b o hb e=>(sb.2 b hb).trans e) f0 f1 f3 f4 f5
  obtain ⟨o,e,c,d⟩:=id st'
  exact ⟨_,rfl,xP (s:={ s with heap:=h',toks:=s.toks+1 }) e c d (by decide) ⟨.str ⟨#[z.cps.toList[i]]⟩,H,I1,⟨_,rfl⟩,⟨rfl,_,List.getElem?_eq_getElem hi,rfl⟩,st',fun b hb=>(hf b hb).1⟩⟩
 done:=by
  intro X hP hw hK hc i pins s σ H E I hf st hg
  subst hP hw hK
  have hi:z.cps.toList.length<=i:=hg
  obtain ⟨f0,f1,f2,f3,f4,f5⟩:=hf it (by simp)
  exact wpAny_pyNext_ascii_end (I.ok.hd hc) st (by simpa using hi) fun h' eb=>⟨rfl,I.turned (t':=s.toks) (fun b o hb e=>eb b o hb e) f0 f1 f3 f4 f5⟩
 self:=fun _ _ _ _ _ st h=>wpAny_pyIter_striter_ascii st h
theorem Ml{P:Program}{w:World}{K:PySem.W.Frag}{tg:Expr}(z:Str)(t:Tok)(it:Addr):vM P w K tg (WX z) [it] it (fun i h=>h.IsStrIter it "str_iterator" z t i) where
 mem:=by simp
 obj:=fun i h st b hb=>by
  have e:b=it:=by simpa using hb
  subst e
  obtain ⟨o,e,c,d⟩:=st
  exact ⟨o,e,fun v z=>by rw [d] at z;cases z⟩
 keep:=fun i h h' st k=>by
  obtain ⟨o,e,r⟩:=st
  exact ⟨o,k it (by simp) o e,r⟩
 item:=by
  intro X hP hw hK hc i pins s σ H E I hf st hg
  subst hP hw hK
  have hi:i<z.cps.toList.length:=hg
  obtain ⟨f0,f1,f2,f3,f4,f5⟩:=hf it (by simp)
  have hx:z.cps[i]?=some (z.cps.toList[i]):=by rw [<- Array.getElem?_toList,List.getElem?_eq_getElem hi]
  refine wpAny_pyNext_wide_item st hx fun h' st' sb=>?_
  have I1:bj X pins σ H { s with heap:=h',toks:=s.toks+1 }:=I.turned (t':=s.toks+1) (fun b o hb e=>(sb.2 b hb).trans e) f0 f1 f3 f4 f5
  obtain ⟨o,e,c,d⟩:=id st'
  exact ⟨_,rfl,xP (s:={ s with heap:=h',toks:=s.toks+1 }) e c d (by decide) ⟨.str ⟨#[z.cps.toList[i]]⟩,H,I1,⟨_,rfl⟩,⟨rfl,_,List.getElem?_eq_getElem hi,rfl⟩,st',fun b hb=>(hf b hb).1⟩⟩
 done:=by
  intro X hP hw hK hc i pins s σ H E I hf st hg
  subst hP hw hK
  have hi:z.cps.toList.length<=i:=hg
  obtain ⟨f0,f1,f2,f3,f4,f5⟩:=hf it (by simp)
  exact wpAny_pyNext_wide_end (I.ok.hd hc) st (by simpa using hi) fun h' eb=>⟨rfl,I.turned (t':=s.toks) (fun b o hb e=>eb b o hb e) f0 f1 f3 f4 f5⟩
 self:=fun _ _ _ _ _ st h=>wpAny_pyIter_striter_wide st h
section
variable{X:Cx}{tg:Expr}
noncomputable def YH(tl:TE):TI:=fun σ H R=>tl σ H fun x H1=>∃ z,x=.str z/\R (WX z) H1
theorem Vj{l:Expr}{tl:TE}(hl:PE X l tl):PI X tg l (YH tl):=by
 intro pins s σ H R I h
 refine dg (hl pins s σ H _ I h) fun v s1 ⟨x,H1,I1,r1,q1⟩=>?_
 obtain ⟨z,e,q⟩:=q1
 subst e
 obtain ⟨t,rfl⟩:=r1
 have fin:∀ (o:Obj) (tn:Nat->Heap->Prop),(vM X.prog X.w X.K tg (WX z) [s1.heap.objs.size] s1.heap.objs.size tn)->tn 0 (s1.heap.push o)->YF X pins σ tg R (.ref s1.heap.objs.size) { s1 with heap:=s1.heap.push o }:=fun o tn T st=>by
  refine ⟨s1.heap.objs.size,[s1.heap.objs.size],tn,_,H1,rfl,I1.kept (t':=s1.toks) fun b o e=>Heap.get?_push_of_some _ e,T,st,fun b hb=>?_,q⟩
  have e:b=s1.heap.objs.size:=by simpa using hb
  subst e
  exact I1.fpOk (Nat.le_refl _) (I1.hok.fresh (Nat.le_refl _))
 cases ha:z.cps.all (·<128)
 .exact wpAny_pyIter_wide ha (fin _ _ (Ml z t _) ⟨_,Heap.get?_push_size _ rfl,rfl,rfl⟩)
 .exact wpAny_pyIter_ascii ha (fin _ _ (MP z t _) ⟨_,Heap.get?_push_size _ rfl,rfl,rfl⟩)
end
theorem zG(f:Nat->V)(hn:z.length<=sizeLine)(hD:H1 D=none)(hs:∀ (i:Nat) c Hc (k:VK),z.cps.toList[i]?=some c->aR H1 Hc->k (f c) Hc->te (some (.str ⟨#[c]⟩)::fv) Hc k)
  (hd:Q (.ref D) (bQ H1 D (.lst (z.cps.toList.map f)))):vf (WX z) te fv Q D H1:=by
 have hl:z.cps.toList.length=z.length:=by simp [Str.length]
 refine ⟨fun i m ys Hc=>m=z.cps.toList.length - i/\i<=z.cps.toList.length/\ys=(z.cps.toList.take i).map f/\Hc=bQ H1 D (.lst ys),⟨_,rfl,Nat.zero_le _,rfl,rfl⟩,?_⟩
 rintro i m ys Hc ⟨rfl,hi,rfl,rfl⟩
 refine ⟨aj,?_⟩
 by_cases hlt:i<z.cps.toList.length
 .refine .inr ⟨hlt,by rw [List.length_map,List.length_take];omega,?_⟩
  rintro x H' ⟨rfl,c,hc,rfl⟩
  refine hs i c _ _ hc (au hD) ⟨aj,z.cps.toList.length - (i+1),by omega,rfl,by omega,?_,?_⟩
  .rw [List.take_succ,hc,List.map_append];rfl
  .rw [bY]
 .have e:i=z.cps.toList.length:=by omega
  subst e
  rw [List.take_length]
  exact .inl ⟨Nat.le_refl _,hd⟩
end L2
set_option maxHeartbeats 4000000
namespace L2
open PySem
open PySem PyProof.Rows
section
variable{prog:Program}{w:World}{A:Around}{E:Value->Shared->Prop}{h:Heap}{g:Array GenState}{d:Drawn}{t:Nat}{os:OsState}
variable{nm qn:Str}{C N:Addr}{bs bm bmB:List Value}{sn:List Str}{sub:List Value}{ab:Bool}{col:Option Bool}{dd:Option Addr}{k0 k1 k2 k3 k5:Option Value}{B newId initId:String}{mN:Str->Option Value}
end
section
variable{prog:Program}{w:World}{A:Around}{E:Value->Shared->Prop}{s:Shared}{K:PySem.W.Frag}{x C:Addr}{ox:Obj}{cd:ClassData}{name:Str}{v:Value}
open PySem.W in
open PySem.W in
open PySem.W in
end
open PySem PySem.Spec PyProof.Rows
section
variable{P:Program}{w:World}{K:PySem.W.Frag}{mg:Str->Option Value}{base:Heap}{k:Nat}{f:Addr}{fd:FuncData}{ps:List Str}{sp:Sp}
end
section
variable{P:Program}{w:World}{K:PySem.W.Frag}{mg:Str->Option Value}{base:Heap}{N:List Str}{qual:Str}{scope:Scope}{f:Addr}{cd:Value}{A:Around}{outer:List Env}{s₀:Shared}{H₀:Hp}{E:XK}
end
section
variable{P:Program}{w:World}{K:PySem.W.Frag}{mg:Str->Option Value}{base:Heap}{N:List Str}{qual:Str}{scope:Scope}{f:Addr}{cd:Value}{A:Around}{outer:List Env}{s₀:Shared}{H₀:Hp}{E:XK}
end
section
variable{X:Cx}{E:St->XK}{x:Str}{C f:Addr}{fd:FuncData}{ps:List Str}{sp:Sp}{k:Nat}{np cpos pos:Pos}{e:Expr}{es:List Expr}{t:TA}{B newId initId:String}{bmB:List Value}
end
section
variable{X:Cx}{cn:Str}{L C f:Addr}{np apos pos:Pos}{e:Expr}{es:List Expr}{t:TA}{B newId initId:String}{bmB:List Value}
end
section
variable{X:Cx}{f:Str}{o value:Expr}{pos pos':Pos}{ta tv:TE}
end
open PySem PySem.Spec PyProof.Rows PySem.W
section
variable{prog:Program}{w:World}{A:Around}{E:Value->Shared->Prop}{K:PySem.W.Frag}{a C:Addr}{h:Heap}{g:Array GenState}{d:Drawn}{t:Nat}{os:OsState}{oe od:Obj}{f:Str}{v:Value}
end
section
variable{X:Cx}{e:Expr}{te:TE}{f:Str}{pos:Pos}{a:Addr}{oe:Obj}{c:Value}{o:Option Addr}
end
section
variable{X:Cx}
end
section
variable{X:Cx}{CX:zJ}{k:Nat}{f:Addr}{fd:FuncData}{ps:List Str}{sp:Sp}{dvs:List V}{ds:List Value}{E:St->XK}{x:Str}{p pos p2:Pos}{e a b:Expr}{es:List Expr}{tf:TE}{t:TA}
noncomputable def Vl(f:Addr)(sp:Sp)(dvs:List V)(E:St->XK)(tf:TE)(t:TA):TE:=fun σ H Q=>tf σ H fun v H1=>v=.ref f/\t σ H1 fun vs H2=>sp (vs++dvs) H2 Q (E σ)
theorem Hh(hf:PE X (.Name x p) tf)(F:bf X.prog X.w X.K X.mg X.base CX k f fd ps sp)(hr:cO k X.A)(hk:PySem.W.keepIn X.K (.ref f)=true)(hb:dR X.K fd ps ds)(hd:cI dvs ds)(hx:kZ CX X E)
  (ha:PA X (e::es) t) (he:starEach (e::es) X.env=(false,eval e X.env)::starEach es X.env:=by rfl) (hpl:(backTo pos (starEach es X.env)).any (·.1)=false:=by rfl) :
  PE X (.Call (.Name x p) (e::es) [] pos) (Vl f sp dvs E tf t):=by
 intro pins s σ H Q I h
 refine wpAny_Call_Name_kw (dg (hf pins s σ H _ I h) fun u s1 ⟨v,H1,I1,rv,ev,q⟩=>?_)
 subst ev
 obtain rfl:u=.ref f:=rv
 refine PySem.W.callWith_K (h₀:=X.base) I.ok.mod.kin hk (dg (ha pos pins s1 σ H1 _ I1 q) fun us s2 ⟨vs,H2,I2,r,q2⟩=>⟨I2.kIn,?_⟩) he hpl
 exact zj F hr hb hd hx I2 r q2
end
section
variable{X:Cx}{CX:zJ}{k:Nat}{ps:List Str}{E:St->XK}{pos p2:Pos}{e a b:Expr}{es:List Expr}{tf:TE}{t:TA}
noncomputable def VG(X:Cx)(CX:zJ)(k:Nat)(ps:List Str)(E:St->XK)(tf:TE)(t:TA):TE:=fun σ H Q=>tf σ H fun v H1=>∃ (f:Addr) (fd:FuncData) (sp:Sp),v=.ref f/\bf X.prog X.w X.K X.mg X.base CX k f fd ps sp/\PySem.W.keepIn X.K (.ref f)=true/\dR X.K fd ps []/\t σ H1 fun vs H2=>sp vs H2 Q (E σ)
theorem Mw(hf:PE X (.Subscript a b p2) tf)(hr:cO k X.A)(hx:kZ CX X E)(ha:PA X (e::es) t)(he:starEach (e::es) X.env=(false,eval e X.env)::starEach es X.env:=by rfl)(hpl:(backTo pos (starEach es X.env)).any (·.1)=false:=by rfl) :
  PE X (.Call (.Subscript a b p2) (e::es) [] pos) (VG X CX k ps E tf t):=by
 intro pins s σ H Q I h
 show wpAny (model X.prog X.w) X.A (do callWith pos (<- eval (.Subscript a b p2) X.env) [] (backTo pos (starEach (e::es) X.env)) (backToKw pos (keywordEach [] X.env))) _ _ s
 refine wpAny_bind (dg (hf pins s σ H _ I h) fun u s1 ⟨v,H1,I1,rv,f,fd,sp,ev,F,hk,hb,q⟩=>?_)
 subst ev
 obtain rfl:u=.ref f:=rv
 refine PySem.W.callWith_K (h₀:=X.base) I.ok.mod.kin hk (dg (ha pos pins s1 σ H1 _ I1 q) fun us s2 ⟨vs,H2,I2,r,q2⟩=>⟨I2.kIn,?_⟩) he hpl
 exact zj (dvs:=[]) F hr hb .nil hx I2 r (by rw [List.append_nil];exact q2)
end
structure SD(P:Program)(w:World)(K:PySem.W.Frag)(a:Addr)(kvs:List (gf × V)):Prop where
 sz:kvs.length<=sizeLine
 sys:(a == sysModules)=false
 ok:∀ h:Heap,K.In h->∃ vs,KV kvs vs/\h.DictOf (cY P w) a vs
section
variable{X:Cx}{o i:Expr}{pos:Pos}{td ty:TE}{a:Addr}{kvs:List (gf × V)}
noncomputable def WL(a:Addr)(kvs:List (gf × V))(td ty:TE):TE:=fun σ H Q=>td σ H fun x H1=>ty σ H1 fun y H2=>∃ k v,x=.ref a/\y=kV k/\fQ kvs k=some v/\Q v H2
theorem Ou(D:SD X.prog X.w X.K a kvs)(ho:PE X o td)(hi:PE X i ty)(hs:VJ i):PE X (.Subscript o i pos) (WL a kvs td ty):=by
 intro pins s σ H Q I h
 refine KJ PySem.F.slot_dict_getitem.lookup hs (dg (ho pins s σ H _ I h) fun u s1 ⟨x,H1,I1,rx,q1⟩=>dg (hi pins s1 σ H1 _ I1 q1) fun iv s2 ⟨y,H2,I2,ry,k,v,ex,ey,l,q2⟩=>?_)
 subst ex ey
 obtain rfl:u=Value.ref a:=rx
 obtain ⟨vs,rel,dd⟩:=D.ok _ I2.kIn
 obtain ⟨w',hw,rw'⟩:=oJ.some_of (v:=v) (o:=valueAt vs k) (by rw [<- l];exact rel.val k)
 exact ⟨dd.typeIs,wpAny_getItem_of (v9 ry) dd.mapOf hw ⟨v,H2,I2.tok _,rw',q2⟩⟩
theorem Bu:∀ {vs:List (gf × Value)} {us:List Value},us.length=vs.length->(∀ (j:Nat) (u:Value),us[j]?=some u->∃ k x,vs[j]?=some (k,x)/\(cY P w).is k u=true)->cI (vs.map fun q=>kV q.1) us
 | [],[],_,_=>.nil
 | q::vs,u::us,hl,h=>by
  obtain ⟨k,x,e1,e2⟩:=h 0 u rfl
  obtain rfl:q=(k,x):=by simpa using e1
  refine .cons ?_ (Bu (by simpa using hl) fun j u' e=>by simpa using h (j+1) u' (by simpa using e))
  rcases dX e2 with ⟨i,t,ek,ev⟩ | ⟨z,t,ek,ev⟩
  .dsimp only
   rw [ek,ev]
   exact ⟨t,rfl⟩
  .dsimp only
   rw [ek,ev]
   exact ⟨t,rfl⟩
 | [],_::_,hl,_=>by simp at hl
 | _::_,[],hl,_=>by simp at hl
theorem Fi(hc:X.calm=true)(D:SD X.prog X.w X.K a kvs):lW X (.type "list") (fun xs H Q=>xs=[.ref a]/\∀ l,H l=none->Q (.ref l) (bQ H l (.lst (kvs.map fun q=>kV q.1)))):=by
 intro pins s σ H xs us Q I r h
 obtain ⟨rfl,q⟩:=h
 obtain ⟨u,rfl,rx⟩:=lu r
 cases rx
 obtain ⟨vs,rel,dd⟩:=D.ok _ I.kIn
 obtain ⟨ep,hat⟩:=dd.dictAt
 have hlen:vs.length=kvs.length:=rel.length.symm
 refine PySem.W.kdl_call (PySem.W.kdl_dict (knd:=cY X.prog X.w) (kvs:=vs) (ep:=ep) D.sys) (I.ok.hd hc) hat (by rw [hlen];exact D.sz) fun h' tk acc c' hkp hS hacc=>?_
 have hv:cI (vs.map fun q=>kV q.1) acc.toList:=Bu (P:=X.prog) (w:=X.w) (by rw [Array.length_toList,hacc.1]) fun j u e=>hacc.2 j u (by rw [<- Array.getElem?_toList];exact e)
 have ek:(kvs.map fun q=>kV q.1)=vs.map fun q=>kV q.1:=by
  have e:=congrArg (List.map kV) rel.keys
  rw [List.map_map,List.map_map] at e
  exact e
 refine ⟨.ref s.heap.objs.size,_,I.laid (t':=tk) hkp (Nat.le_refl _) (show dW X.prog X.w _ h' _ (.lst (kvs.map fun q=>kV q.1)) from ⟨by rw [List.length_map];exact D.sz,acc.toList,c',by rw [ek];exact hv,by simpa using hS⟩),rfl,q _ (I.hok.fresh (Nat.le_refl _))⟩
end
inductive Sy(P:Params):List DictEntry->List (gf × V)->Prop
 | nil:Sy P [] []
 | cons {x:Str} {t:Tok} {u:Value} {v:V} {es:List DictEntry} {kvs:List (gf × V)}:cQ v u->Sy P es kvs->Sy P (⟨PyData.keyHash P x,.str x t,u⟩::es) ((.inr x,v)::kvs)
theorem Sy.keys:∀ {es:List DictEntry} {kvs:List (gf × V)},Sy w.params es kvs->∀ e∈es,∃ k,(cY P w).is k e.key=true/\e.hash=(cY P w).hash k
 | _,_,.nil,e,he=>by cases he
 | _,_,.cons (x:=x) (t:=t) (u:=u) r s,e,he=>by
  rcases List.mem_cons.mp he with rfl | he
  .exact ⟨.inr x,by show Value.isStrOf x (.str x t)=true;simp [Value.isStrOf],rfl⟩
  .exact s.keys e he
theorem Sy.pairs:∀ {es:List DictEntry} {kvs:List (gf × V)},Sy w.params es kvs->∃ vs,KV kvs vs/\Pairs (cY P w) es vs/\vs.map (·.1)=kvs.map (·.1)
 | _,_,.nil=>⟨[],.nil,.nil,rfl⟩
 | _,_,.cons (x:=x) (t:=t) (u:=u) r s=>by
  obtain ⟨vs,a,b,c⟩:=s.pairs (P:=P)
  exact ⟨(.inr x,u)::vs,.cons ⟨rfl,r⟩ a,.cons (by show Value.isStrOf x (.str x t)=true;simp [Value.isStrOf]) rfl b,by rw [List.map_cons,List.map_cons,c]⟩
theorem X3{P:Program}{w:World}{K:PySem.W.Frag}{a:Addr}{es:Array DictEntry}{ep:Nat}{kvs:List (gf × V)}(hl:K.lookup a=some ⟨.type "dict",none,.dict es ep,#[]⟩)(hs:Sy w.params es.toList kvs)(nd:(kvs.map (·.1)).Nodup)(sz:kvs.length<=sizeLine)(sys:(a == sysModules)=false):SD P w K a kvs:=by
 refine ⟨sz,sys,fun h kin=>?_⟩
 obtain ⟨vs,q1,q2,q3⟩:=hs.pairs (P:=P)
 exact ⟨vs,q1,_,es,ep,kin _ _ hl,⟨rfl,rfl,rfl⟩,rfl,fun e he=>hs.keys e (Array.mem_toList_iff.mpr he),q2,by rw [q3];exact nd⟩
theorem Lg:∀ {zs:List Str} {us:List Value},cI (zs.map V.str) us->StrsAre us zs
 | [],_,.nil=>.nil
 | z::zs,_,.cons ⟨t,e⟩ r=>by
  subst e
  exact .cons z t (Lg r)
section
variable{X:Cx}
noncomputable def Lb(K:PySem.W.Frag):V->List V->Hp->VK->Prop:=fun x vs H Q=>∃ (z:Str) (p:Addr) (zs:List Str),x=.str z/\vs=[.ref p]/\c7 K H p (zs.map V.str)/\(zs.map (·.length)).sum+zs.length * z.length<=16777216/\Q (.str (Str.join z zs)) H
theorem Dw:Zr X "str.join" (Lb X.K):=by
 intro pins s σ H x vs v us Q I rx rv h
 obtain ⟨z,p,zs,rfl,rfl,hp,hz,q⟩:=h
 obtain ⟨t,rfl⟩:=rx
 obtain ⟨u,rfl,ru⟩:=rv.one
 cases ru
 obtain ⟨its,r,pl,_⟩:=I.list hp
 refine join_list pl.isList (ys:=zs) (Lg r) hz fun t' k=>⟨.str (Str.join z zs),H,I.tok _,⟨t',?_⟩,q⟩
 rw [show PySem.Txt.join z zs=Str.join z zs from StrLaws.glued_eq_join _ _]
end
section
open PySem.SeqAt
open PySem.AutoSeq1 (wpAny_loadPart')
open PySem.MeetsSeq PySem.MeetsSeq2 PySem.MeetsSeq3
end
section
variable{X:Cx}
end
section
variable{prog:Program}{w:World}{A:Around}{R:Result->Shared->Prop}{s:Shared}
theorem uv(I:Nat->Shared->Prop)
  (turn:∀ n s,I n s->wpAny (model prog w) A (pyNext it) (fun r s₁=>match r with
   | none=>R (.ok .next) s₁
   | some v=>wpAny (model prog w) A (letOwnedTupleGo target it v) (fun _ s₂=>wpAny (model prog w) A (assign target env v) (fun _ s₃ =>
     wpAny (model prog w) A (forIn ifs true fun c r=>if r=true then do let ok <- isTrue c env (eval c env);pure (ForInStep.yield ok) else pure (ForInStep.yield r)) (fun ok sk =>
      if ok=true then wpAny (model prog w) A (eval elt env) (fun x s₄ =>
       wpAny (model prog w) A (call (.builtin "list.append") [acc,x]) (fun _ s₅=>∃ m,m<n/\I m s₅) (fun _ _=>False) s₄) (fun _ _=>False) sk
      else ∃ m,m<n/\I m sk) (fun _ _=>False) s₃) (fun _ _=>False) s₂) (fun _ _=>False) s₁) (fun _ _=>False) s)
  (n:Nat) (h:I n s):codeAny (model prog w) A (.compLoop (.ListComp elt [⟨target,iter,ifs,0⟩] scope pos) 0 it acc env) R s:=by
 refine codeAny_loop rfl I (fun n s hI=>?_) n h
 show wpAny _ _ ((compTurn (.ListComp elt [⟨target,iter,ifs,0⟩] scope pos) 0 it acc env).onRaise (fun x=>do noteFrame x env;theTreesLotGoes x)) _ _ s
 refine wpAny_noted ?_
 rw [compTurn_list]
 refine wpAny_bind (wpAny_standAt (wpAny_bind (wpAny_mono (turn n s hI) (fun r s₁ h₁=>?_) fun _ _ f=>f.elim)))
 cases r with
 | none=>exact wpAny_pure h₁
 | some v =>
  refine wpAny_bind (wpAny_mono h₁ (fun _ s₂ h₂=>?_) fun _ _ f=>f.elim)
  refine wpAny_bind (wpAny_mono h₂ (fun _ s₃ h₃=>?_) fun _ _ f=>f.elim)
  refine wpAny_bind (wpAny_mono h₃ (fun ok sk hk=>?_) fun _ _ f=>f.elim)
  cases ok with
  | false=>exact wpAny_pure ⟨rfl,hk⟩
  | true=>exact wpAny_bind (wpAny_bind (wpAny_mono hk (fun x s₄ h₄=>wpAny_bind (wpAny_mono h₄ (fun _ s₅ h₅=>wpAny_pure (wpAny_pure ⟨rfl,h₅⟩)) fun _ _ f=>f.elim)) fun _ _ f=>f.elim))
end
noncomputable def Kp(st0 σ6:St):Prop:=σ6.length=st0.length/\∀ (k:Nat) (v:V),st0[k]?=some (some v)->σ6[k]?=some (some v)
noncomputable def Gk(J:It)(g:TG)(tt:TT)(te:TE)(st0:St)(Q:VK)(D:Addr)(H1:Hp):Prop :=
 ∃ W:Nat->Nat->List V->Hp->Prop,(∃ m,W 0 m [] (bQ H1 D (.lst [])))/\∀ i m ys Hc,W i m ys Hc->Hc D=some (.lst ys) /\
  ((J.stop i Hc/\Q (.ref D) Hc)\/(J.go i Hc/\ys.length<sizeLine/\∀ x H',J.yld i Hc x H'->g x st0 H' fun σ6 H6=>Kp st0 σ6/\tt σ6 H6 fun b H7 =>
   if b=true then te σ6 H7 fun y H3=>H3 D=some (.lst ys)/\∃ m',m'<m/\W (i+1) m' (ys++[y]) (bQ H3 D (.lst (ys++[y]))) else ∃ m',m'<m/\W (i+1) m' ys H7))
noncomputable def VV(xs:List Str)(js:List Nat)(g:TG)(tt:TT)(te:TE)(σ:St)(Q:VK)(J:It)(H1:Hp)(D:Addr):Prop:=H1 D=none->Gk J g tt te (xs.map (fun _=>none)++jB js σ) Q D H1
noncomputable def UT(xs:List Str)(js:List Nat)(g:TG)(tt:TT)(te:TE)(σ:St)(Q:VK):It->Hp->Prop:=fun J H1=>W8 (VV xs js g tt te σ Q J H1)
noncomputable def Rq(wi:TI)(xs:List Str)(js:List Nat)(g:TG)(tt:TT)(te:TE):TE:=fun σ H Q=>wi σ H (UT xs js g tt te σ Q)
noncomputable def Qj(X:Cx)(ifs:List Expr)(tt:TT):Prop :=
 ∀ (pins:List (Addr × Obj)) (s:Shared) (σ:St) (H:Hp) (Q:Bool->Hp->Prop),bj X pins σ H s->tt σ H Q ->
  wpAny (model X.prog X.w) X.A (forIn ifs true fun c r=>if r=true then do let ok <- isTrue c X.env (eval c X.env);pure (ForInStep.yield ok) else pure (ForInStep.yield r)) (TP X pins σ Q) X.xe s
theorem u9:Qj X [] (fun _ H Q=>Q true H):=fun pins s σ H Q I h=>wpAny_tests_nil ⟨H,I,h⟩
theorem qK(h:PT X c tt):Qj X [c] tt:=fun pins s σ H Q I hw=>wpAny_tests_one (h pins s σ H Q I hw)
section
variable{X:Cx}{elt iter tg:Expr}{ifs:List Expr}{xs:List Str}{pos:Pos}{scope:Scope}{fv:List Str}{js:List Nat}{wi:TI}{te:TE}{tt:TT}{g:TG}
structure Cw(X:Cx)(iter:Expr)(scope:Scope)(cl:List (Str × Addr))(xs fv:List Str)(js:List Nat):Prop where
 clos:closureFor scope X.env=pure cl
 kind:scope.kind=.function
 nocell:∀ y∈scope.names,y.2≠.cell
 names:∀ y∈scope.names,y.2=.local->scope.names.lookup y.1=some .local
 sub:Az X.env.cells cl
 all:Bq cl (relabel scope X.env).names
 fvs:FJ X (relabel scope X.env) cl fv js
 fold:∀ y,foldedSetIterable iter X.env y=pure y
theorem Hl(T:Cw X iter scope cl xs fv js)(I:bj X pins σ H s3)(hf:∀ b∈fp,oW X pins H b)
  (ho:∀ b∈fp,b<s3.heap.objs.size) (hn:h1.Ns s3.heap.objs.size (fun _=>none)) (hk:∀ b o,s3.heap.get? b=some o->h1.get? b=some o) :
  bj (X.comp pins scope cl (xs++fv) fp s3 H) [] (xs.map (fun _=>none)++jB js σ) H { s3 with heap:=h1,toks:=tk }:=by
 have cne:∀ y c,cl.lookup y=some c->X.env.cells.lookup y=some c:=fun y c e=>T.sub.get e
 have cle:∀ y c,cl.lookup y=some c->∃ v,s3.heap.IsCell c v:=fun y c e=>I.cell y c (cne y c e)
 have clt:∀ y c,cl.lookup y=some c->c≠s3.heap.objs.size:=fun y c e=>by
  obtain ⟨v,o,q,_⟩:=cle y c e
  exact Nat.ne_of_lt (Heap.lt_size q)
 refine ⟨⟨I.ok.mod,T.kind,I.ok.glob,I.ok.blt,Nat.le_refl _,fun y z c e1 e2=>I.ok.inj y z c (cne y c e1) (cne z c e2),fun y hy=>?_,fun _ _ e _=>(nomatch e),I.ok.hd,I.ok.frames,.inl rfl,fun b hb=>⟨Nat.ne_of_lt (ho b hb),fun y c e=>(hf b hb).2.2.2.2.1 y c (cne y c e)⟩,
  I.bs,Nat.le_trans I.ok.bsz I.sz,fun b o e hb=>?_,fun b hb hm=>?_,I.stack,I.stkFree⟩,rfl,I.bare,Un.kept hk,⟨_,hn,fun i y v e1 e2 e3=>?_⟩,fun y c e=>?_,I.hok.fresh (Nat.le_refl _),fun y c e=>I.freeC y c (cne y c e),fun p hp=>?_,I.hok.kept hk,?_⟩
 .rcases hy with e | e
  .exact T.all.get e (.inl rfl)
  .exact T.all.get e (.inr rfl)
 .obtain ⟨_,_,_,q,_⟩:=hf b hb
  rcases q with q | q
  .exact I.ok.noex b o e q
  .exact absurd (Heap.lt_size (I.ok.bs b o e).1) (Nat.not_lt.mpr q)
 .obtain ⟨_,q1,q2,_⟩:=hf b hb
  rcases List.mem_cons.mp (I.stkSub b hm) with z | z
  .exact q1 z
  .exact q2 z
 .by_cases hi:i<xs.length
  .rw [List.getElem?_append_left (by rw [List.length_map];exact hi),List.getElem?_map,List.getElem?_eq_getElem hi] at e2
   simp at e2
  .rw [List.getElem?_append_right (by rw [List.length_map];omega),List.length_map] at e2
   have e1':(xs++fv)[i]?=some y:=e1
   rw [List.getElem?_append_right (by omega)] at e1'
   obtain ⟨j,c,g1,g2,g3,g4,g5,g6⟩:=T.fvs.get (σ:=σ) (k:=i - xs.length) (x:=y) (v:=v) e1' e2
   obtain ⟨m,_,hl⟩:=I.loc
   obtain ⟨u,r,l⟩:=hl j y v g1 g2 (g3.elim (fun z=>.inr (.inl z)) fun z=>.inr (.inr z))
   refine ⟨u,r,.inr ⟨g6,c,g5,?_⟩⟩
   rcases l with ⟨z,_⟩ | ⟨_,c',z,o,e,d⟩
   .rcases g3 with g | g
    .rw [g] at z;cases z
    .rw [g] at z;cases z
   .rw [g4] at z
    cases z
    exact ⟨o,hk _ _ e,d⟩
 .obtain ⟨v,o,e,d⟩:=cle y c e
  exact ⟨v,o,hk _ _ e,d⟩
 .rw [List.append_nil] at hp
  obtain ⟨e,n,ne,nf,d⟩:=I.pin p hp
  refine ⟨hk _ _ e,n,Nat.ne_of_lt (Heap.lt_size e),fun hm=>?_,d⟩
  rcases List.mem_cons.mp (I.stkSub _ hm) with z | z
  .exact ne z
  .exact nf z
 .simp [jB,T.fvs.len]
theorem Bg(I:bj X pins σ H s3)(hf:∀ b∈fp,oW X pins H b)
  (J:bj (X.comp pins scope cl Nc fp s3 H) more σ' H' s1) (hs:Heap.SameBut s3.heap.objs.size s1.heap h'):bj X pins σ H' { s1 with heap:=h' }:=by
 have ne:∀ b o,s3.heap.get? b=some o->b≠s3.heap.objs.size:=fun b o e=>Nat.ne_of_lt (Heap.lt_size e)
 have B:=J.base
 have U:Un (qz X.stack) fp H H' s3.heap h':=⟨fun b o e n hb hx=>(hs.2 b (ne b o e)).trans (B.keep b o e n hb hx),fun b o e n hb hx=>by
   obtain ⟨sl,q⟩:=B.slot b o e n hb hx
   exact ⟨sl,(hs.2 b (ne b o e)).trans q⟩,B.free,fun b o e hx=>by
   obtain ⟨o',q⟩:=B.there b o e hx
   exact ⟨o',(hs.2 b (ne b o e)).trans q⟩,B.tups,B.frzs,B.tbls⟩
 have fr:H' s3.heap.objs.size=none:=J.free
 have hok:qw X.prog X.w H' h':=fun b ob e=>by
  refine (J.hok b ob e).stay (fun c u hc q=>(hs.2 c ?_).trans q) (fun _ q=>q) fun _ _ q=>q
  rintro rfl
  rcases hc with rfl | hc
  .rw [fr] at e;cases e
  .rw [fr] at hc;cases hc
 exact I.call' (s':={ s1 with heap:=h' }) J.os U hok J.bare fun b hb=>⟨(hf b hb).2.2.2.1,(hf b hb).2.1,(hf b hb).2.2.2.2.1,(hf b hb).2.2.2.2.2⟩
theorem zA(hc:X.calm=true)
  (T:Cw X iter scope cl xs fv js) (I:bj X pins σ (bQ H1 D (.lst [])) s3) (hf:∀ b∈fp,oW X pins (bQ H1 D (.lst [])) b) (Tn:vM X.prog X.w X.K tg J fp it tn) (t0:tn 0 s3.heap)
  (hn:h1.Ns s3.heap.objs.size (fun _=>none)) (hk:∀ b o,s3.heap.get? b=some o->h1.get? b=some o)
  (hg:PG (X.comp pins scope cl (xs++fv) fp s3 (bQ H1 D (.lst []))) tg g) (hts:Qj (X.comp pins scope cl (xs++fv) fp s3 (bQ H1 D (.lst []))) ifs tt)
  (he:PE (X.comp pins scope cl (xs++fv) fp s3 (bQ H1 D (.lst []))) elt te) (hW:Gk J g tt te (xs.map (fun _=>none)++jB js σ) Q D H1)
  (hR:∀ Hc s1,bj (X.comp pins scope cl (xs++fv) fp s3 (bQ H1 D (.lst []))) [] (xs.map (fun _=>none)++jB js σ) Hc s1->Q (.ref D) Hc->R (.ok .next) s1) :
  codeAny (model X.prog X.w) X.A (.compLoop (.ListComp elt [⟨tg,iter,ifs,0⟩] scope pos) 0 (.ref it) (.ref D) (compEnvC scope cl s3.heap.objs.size X.env)) R { s3 with heap:=h1,toks:=tk }:=by
 have ho:∀ b∈fp,b<s3.heap.objs.size:=fun b hb=>by
  obtain ⟨o,e,_⟩:=Tn.obj 0 _ t0 b hb
  exact Heap.lt_size e
 have I0:=Hl (tk:=tk) T I hf ho hn hk
 obtain ⟨W,⟨m0,w0⟩,step⟩:=hW
 have fpc:∀ {Hc:Hp},(∀ b∈fp,Hc b=none)->∀ b∈fp,oW (X.comp pins scope cl (xs++fv) fp s3 (bQ H1 D (.lst []))) [] Hc b:=fun {Hc} hn b hb=>by
  refine ⟨hn b hb,Nat.ne_of_lt (ho b hb),fun hm=>?_,.inl hb,fun y c e=>(hf b hb).2.2.2.2.1 y c (T.sub.get e),fun p hp=>(hf b hb).2.2.2.2.2 p (by simpa using hp)⟩
  rcases List.mem_cons.mp (I.stkSub _ hm) with z | z
  .exact (hf b hb).2.1 z
  .exact (hf b hb).2.2.1 z
 refine uv (fun n s=>∃ i ys Hc,bj (X.comp pins scope cl (xs++fv) fp s3 (bQ H1 D (.lst []))) [] (xs.map (fun _=>none)++jB js σ) Hc s/\tn i s.heap/\(∀ b∈fp,Hc b=none)/\W i n ys Hc) ?_ m0
  ⟨0,[],_,I0,Tn.keep _ _ _ t0 fun b _ o e=>hk b o e,fun b hb=>(hf b hb).1,w0⟩
 rintro n s ⟨i,ys,Hc,Ic,tc,fc,wc⟩
 obtain ⟨hD,hh⟩:=step i n ys Hc wc
 rcases hh with ⟨stop,q⟩ | ⟨go,hl,turn⟩
 .refine dg (Tn.done (X.comp pins scope cl (xs++fv) fp s3 (bQ H1 D (.lst []))) rfl rfl rfl hc i [] s _ Hc _ Ic (fpc fc) tc stop) fun r s1 ⟨hr,I1⟩=>?_
  subst hr
  exact hR Hc s1 I1 q
 .refine dg (Tn.item (X.comp pins scope cl (xs++fv) fp s3 (bQ H1 D (.lst []))) rfl rfl rfl hc i [] s _ Hc _ Ic (fpc fc) tc go) fun r s1 ⟨u,hr,h4⟩=>?_
  subst hr
  refine dg h4 fun _ s5 ⟨y,H5,I5,r5,y5,t5,f5⟩=>?_
  have I5':=I5.pinned (fpc f5) (Tn.obj _ _ t5)
  refine dg (hg _ s5 _ H5 y u _ I5' r5 (turn y _ y5)) fun _ s6 ⟨σ6,H6,I6,kp6,q6⟩=>?_
  refine dg (hts _ s6 σ6 H6 _ I6 q6) fun b s7 ⟨H7,I7,q7⟩=>?_
  have Am:∀ {s8:Shared} {H8:Hp},bj (X.comp pins scope cl (xs++fv) fp s3 (bQ H1 D (.lst []))) ([]++xX fp s5.heap) σ6 H8 s8->bj (X.comp pins scope cl (xs++fv) fp s3 (bQ H1 D (.lst []))) [] (xs.map (fun _=>none)++jB js σ) H8 s8/\tn (i+1) s8.heap/\∀ b∈fp,H8 b=none:=fun {s8 H8} I8=>by
   refine ⟨I8.unpinned.weak kp6.1.symm (fun k v' e=>kp6.2 k v' e),Tn.keep _ _ _ t5 fun b hb o e=>(I8.pin (b,o) (List.mem_append_right _ (List.mem_append_right _ (ju hb e)))).1,fun b hb=>?_⟩
   obtain ⟨o,e,d⟩:=Tn.obj _ _ t5 b hb
   exact (I8.pin (b,o) (List.mem_append_right _ (List.mem_append_right _ (ju hb e)))).2.1
  cases b with
  | false =>
   rw [if_neg Bool.false_ne_true] at q7 ⊢
   obtain ⟨m',hm,w7⟩:=q7
   obtain ⟨b1,b2,b3⟩:=Am I7
   exact ⟨m',hm,i+1,ys,H7,b1,b2,b3,w7⟩
  | true =>
   rw [if_pos rfl] at q7 ⊢
   refine dg (he _ s7 _ _ _ I7 q7) fun v s8 ⟨z,H8,I8,r8,hD8,m',hm,w8⟩=>?_
   refine dg (gj _ s8 _ H8 (.ref D) [z] (.ref D) [v] (fun _ H9=>H9=bQ H8 D (.lst (ys++[z]))) I8 rfl (.cons r8 .nil) ⟨D,ys,z,rfl,rfl,hD8,hl,rfl⟩) fun _ s9 ⟨_,H9,I9,_,e9⟩=>?_
   subst e9
   obtain ⟨b1,b2,b3⟩:=Am I9
   exact ⟨m',hm,i+1,ys++[z],_,b1,b2,b3,w8⟩
theorem qY(hc:X.calm=true)(T:Cw X iter scope cl xs fv js)(hi:PI X tg iter wi)(hg:∀ pins fp s H,PG (X.comp pins scope cl (xs++fv) fp s H) tg g)(hts:∀ pins fp s H,Qj (X.comp pins scope cl (xs++fv) fp s H) ifs tt)(he:∀ pins fp s H,PE (X.comp pins scope cl (xs++fv) fp s H) elt te) :
  PE X (.ListComp elt [⟨tg,iter,ifs,0⟩] scope pos) (Rq wi xs js g tt te):=by
 intro pins s σ H Q I h
 rw [eval_ListComp]
 refine wpAny_comprehension_free (use:=none) rfl T.fold T.clos T.kind T.names (dg (hi pins s σ H _ I h) fun v s1 h1=>dg h1 fun itv s2 h2=>?_)
 obtain ⟨it,fp,tn,J,H1,rfl,I2,Tn,t0,f2,hR⟩:=h2
 refine wpAny_newObj_type ?_
 have ho:∀ b∈fp,b≠s2.heap.objs.size:=fun b hb=>by
  obtain ⟨o,e,_⟩:=Tn.obj 0 _ t0 b hb
  exact Nat.ne_of_lt (Heap.lt_size e)
 have I3:bj X pins σ (bQ H1 s2.heap.objs.size (.lst [])) _:=I2.lnew (t':=s2.toks) (ys:=[]) (its:=[]) .nil (Nat.zero_le _)
 have f3:∀ b∈fp,oW X pins (bQ H1 s2.heap.objs.size (.lst [])) b:=fun b hb=>⟨by rw [aA (ho b hb)];exact (f2 b hb).1,(f2 b hb).2⟩
 have t3:tn 0 (s2.heap.push { cls:=.type "list",data:=.seq ([]:List Value).toArray }):=Tn.keep _ _ _ t0 fun b _ o e=>Heap.get?_push_of_some _ e
 have hW:=hR s2.heap.objs.size (I2.hok.fresh (Nat.le_refl _))
 refine wpAny_newFunctionEnv T.nocell (by intro y hy;simp at hy) (fun h1 hn hs=>?_) T.kind
 have hk:∀ b o,(s2.heap.push { cls:=.type "list",data:=.seq ([]:List Value).toArray }).get? b=some o->h1.get? b=some o:=fun b o e =>
  (hs.2 b (Nat.ne_of_lt (Heap.lt_size e))).trans (Heap.get?_push_of_some _ e)
 have loop:=fun tk=>zA (elt:=elt) (pos:=pos) (R:=compPost (model X.prog X.w) X.A X.xe none (EP X pins σ Q) (.ref s2.heap.objs.size) (s2.heap.push { cls:=.type "list",data:=.seq ([]:List Value).toArray }).objs.size) (tk:=tk) hc T I3 f3 Tn t3 hn hk (hg pins fp _ _) (hts pins fp _ _) (he pins fp _ _) hW
  fun Hc s1 J q=>by
   obtain ⟨m,hm,_⟩:=J.loc
   exact ⟨m,hm,fun h' hs'=>⟨.ref s2.heap.objs.size,Hc,Bg I3 f3 J hs',rfl,q⟩⟩
 refine codeAny_compStart_list (loop _) ?_
 exact Tn.self _ 0 _ _ _ (Tn.keep _ _ _ t3 fun b _ o e=>hk b o e) (loop _)
theorem uD(hc:X.calm=true)(T:Cw X iter scope cl xs fv js)(hN:X.N.Nodup)(hy:X.N[i]?=some y)(hl:X.env.scope.names.lookup y=some .local)
  (hsw:swapsWith (.ListComp elt [⟨tg,iter,ifs,0⟩] scope pos) (some (.Name y py)) spos.line X.env=pure true)
  (hi:PI X tg iter wi) (hg:∀ pins fp s H,PG (X.comp pins scope cl (xs++fv) fp s H) tg g) (hts:∀ pins fp s H,Qj (X.comp pins scope cl (xs++fv) fp s H) ifs tt) (he:∀ pins fp s H,PE (X.comp pins scope cl (xs++fv) fp s H) elt te) :
  PS X (.Assign [.Name y py] (.ListComp elt [⟨tg,iter,ifs,0⟩] scope pos) spos) (oF (Rq wi xs js g tt te) (dJ i)):=by
 intro pins s σ H D I h
 rw [exec_Assign_Name_used _ _ _ _ hsw]
 refine wpAny_bind (wpAny_standAt (wpAny_bind ?_))
 show wpAny _ X.A (do let _ <- comprehension (.ListComp elt [⟨tg,iter,ifs,0⟩] scope pos) scope X.env _ (newList []) false (eval iter X.env) (some (assign (.Name y py) X.env))) _ _ s
 refine wpAny_bind (wpAny_mono (wpAny_comprehension_free (use:=some (assign (.Name y py) X.env)) (Q:=fun _ s'=>SP X pins D .next s') rfl T.fold T.clos T.kind T.names (dg (hi pins s σ H _ I h) fun v s1 h1=>dg h1 fun itv s2 h2=>?_)) (fun _ s' hq=>wpAny_pure (wpAny_pure hq)) fun _ _ e=>e)
 obtain ⟨it,fp,tn,J,H1,rfl,I2,Tn,t0,f2,hR⟩:=h2
 refine wpAny_newObj_type ?_
 have ho:∀ b∈fp,b≠s2.heap.objs.size:=fun b hb=>by
  obtain ⟨o,e,_⟩:=Tn.obj 0 _ t0 b hb
  exact Nat.ne_of_lt (Heap.lt_size e)
 have I3:bj X pins σ (bQ H1 s2.heap.objs.size (.lst [])) _:=I2.lnew (t':=s2.toks) (ys:=[]) (its:=[]) .nil (Nat.zero_le _)
 have f3:∀ b∈fp,oW X pins (bQ H1 s2.heap.objs.size (.lst [])) b:=fun b hb=>⟨by rw [aA (ho b hb)];exact (f2 b hb).1,(f2 b hb).2⟩
 have t3:tn 0 (s2.heap.push { cls:=.type "list",data:=.seq ([]:List Value).toArray }):=Tn.keep _ _ _ t0 fun b _ o e=>Heap.get?_push_of_some _ e
 have hW:=hR s2.heap.objs.size (I2.hok.fresh (Nat.le_refl _))
 refine wpAny_newFunctionEnv T.nocell (by intro y hy;simp at hy) (fun h1 hn hs=>?_) T.kind
 have hk:∀ b o,(s2.heap.push { cls:=.type "list",data:=.seq ([]:List Value).toArray }).get? b=some o->h1.get? b=some o:=fun b o e =>
  (hs.2 b (Nat.ne_of_lt (Heap.lt_size e))).trans (Heap.get?_push_of_some _ e)
 have loop:=fun tk=>zA (elt:=elt) (pos:=pos) (R:=compPost (model X.prog X.w) X.A X.xe (some (assign (.Name y py) X.env)) (fun _ s'=>SP X pins D .next s') (.ref s2.heap.objs.size) (s2.heap.push { cls:=.type "list",data:=.seq ([]:List Value).toArray }).objs.size) (tk:=tk) hc T I3 f3 Tn t3 hn hk (hg pins fp _ _) (hts pins fp _ _) (he pins fp _ _) hW
  fun Hc s1 J q=>by
   have I4:bj X pins σ Hc s1:=Bg I3 f3 J (Heap.SameBut.refl ..)
   obtain ⟨m,hm,_⟩:=J.loc
   have fr:Hc (s2.heap.push { cls:=.type "list",data:=.seq ([]:List Value).toArray }).objs.size=none:=J.free
   have Cge:X.s₀.heap.objs.size<=(s2.heap.push { cls:=.type "list",data:=.seq ([]:List Value).toArray }).objs.size:=I3.sz
   have CL:(s2.heap.push { cls:=.type "list",data:=.seq ([]:List Value).toArray }).objs.size≠X.env.locals:=fun e=>Nat.lt_irrefl _ (e ▸ I3.lt)
   show wpAny _ X.A (assign (.Name y py) X.env (.ref s2.heap.objs.size)) _ _ s1
   refine wpAny_assign_Name (vK I4 hN hy (.inl hl) (v:=.ref s2.heap.objs.size) rfl (fun s5 I5 ⟨a,hs5,ha⟩=>?_) (.inr hl))
   have hCa:(s2.heap.push { cls:=.type "list",data:=.seq ([]:List Value).toArray }).objs.size≠a:=by
    rcases ha with z | z
    .rw [z];exact CL
    .obtain ⟨v,o,q,_⟩:=I3.cell y a z
     exact Nat.ne_of_gt (Heap.lt_size q)
   refine ⟨m,hm.sameBut hs5 hCa,fun h' hs'=>⟨σ.set i (some (.ref s2.heap.objs.size)),Hc,?_,q⟩⟩
   refine I5.turned (t':=s5.toks) (it:=(s2.heap.push { cls:=.type "list",data:=.seq ([]:List Value).toArray }).objs.size) (fun b o hb e=>(hs'.2 b hb).trans e) fr CL (.inr Cge) (fun z c e=>?_) fun p hp=>?_
   .obtain ⟨v,o,q,_⟩:=I3.cell z c e
    exact Nat.ne_of_lt (Heap.lt_size q)
   .obtain ⟨q,_⟩:=I3.pin p hp
    exact Nat.ne_of_lt (Heap.lt_size q)
 refine codeAny_compStart_list (loop _) ?_
 exact Tn.self _ 0 _ _ _ (Tn.keep _ _ _ t3 fun b _ o e=>hk b o e) (loop _)
end
section
variable{X:Cx}
end
end L2
namespace PySem
open Sem (wp)
section
variable{prog:Program}{w:World}{A:Around}{E:Value->Shared->Prop}{s:Shared}
theorem iJ{items}(hit:s.heap.IsTupleIter it l i)
  (hl:s.heap.IsTuple l items) (hx:items[i]?=some x)
  (hQ:∀ h',h'.IsTupleIter it l (i+1)->Heap.SameBut it s.heap h'->Q x { s with heap:=h' }) :
  wpAny (model prog w) A (Builtin.SmallTypes.nextOf (.ref it)) Q E s:=by
 obtain ⟨o,ho,hc,hd⟩:=id hit
 obtain ⟨ol,hol,_,nl,hdl⟩:=hl
 unfold Builtin.SmallTypes.nextOf
 refine wpAny_bind (wpAny_callSpecial?_slot (name:=Str.ofString "__next__") hit.typeIs F.slot_tuple_iterator_next
  (wpAny_call_entry F.slot_tuple_iterator_next hit.typeIs F.entry_tuple_iterator_next ?_ (F.args_tuple_iterator_next_1 _)))
 show wpAny _ _ (field (.ref it) 0 >>= _) _ _ s
 refine wpAny_bind (wpAny_field ho hd (x:=.ref l) rfl ?_)
 show wpAny _ _ (if (Value.ref l == Value.none)=true then _ else _) _ _ s
 rw [if_neg (show ¬ ((Value.ref l == Value.none)=true) from Bool.false_ne_true)]
 show wpAny _ _ (field (.ref it) 1 >>= _) _ _ s
 refine wpAny_bind (wpAny_field ho hd (x:=.int i 0) rfl ?_)
 show wpAny _ _ (seqItems? (.ref l) >>= _) _ _ s
 refine wpAny_bind (wpAny_seqItems hol hdl ?_)
 simp only [Int.toNat_natCast,hx]
 refine wpAny_bind (wpAny_setField ho hd (by simp) (wpAny_pure ⟨x,rfl,wpAny_pure (hQ _ ?_ (Heap.SameBut.update ..))⟩))
 exact ⟨_,Heap.get?_update_self _ ho (Obj.isFreed_of_fields (Obj.data_mapFields hd _)),(Obj.cls_mapFields ..).trans hc,by
  rw [Obj.data_mapFields hd];simp [rawInt]⟩
theorem iV{items}(hh:A.handled=none)
  (hit:s.heap.IsTupleIter it l i) (hl:s.heap.IsTuple l items) (hx:items[i]?=none)
  (hE:∀ h' e,Heap.ExtBut it s.heap h'->(∃ o,h'.get? e=some o/\o.cls=.type "StopIteration")->E (.ref e) { s with heap:=h' }) :
  wpAny (model prog w) A (Builtin.SmallTypes.nextOf (.ref it)) Q E s:=by
 obtain ⟨o,ho,hc,hd⟩:=id hit
 obtain ⟨ol,hol,_,nl,hdl⟩:=hl
 unfold Builtin.SmallTypes.nextOf
 refine wpAny_bind (wpAny_callSpecial?_slot (name:=Str.ofString "__next__") hit.typeIs F.slot_tuple_iterator_next
  (wpAny_call_entry F.slot_tuple_iterator_next hit.typeIs F.entry_tuple_iterator_next ?_ (F.args_tuple_iterator_next_1 _)))
 show wpAny _ _ (field (.ref it) 0 >>= _) _ _ s
 refine wpAny_bind (wpAny_field ho hd (x:=.ref l) rfl ?_)
 show wpAny _ _ (if (Value.ref l == Value.none)=true then _ else _) _ _ s
 rw [if_neg (show ¬ ((Value.ref l == Value.none)=true) from Bool.false_ne_true)]
 show wpAny _ _ (field (.ref it) 1 >>= _) _ _ s
 refine wpAny_bind (wpAny_field ho hd (x:=.int i 0) rfl ?_)
 show wpAny _ _ (seqItems? (.ref l) >>= _) _ _ s
 refine wpAny_bind (wpAny_seqItems hol hdl ?_)
 simp only [Int.toNat_natCast,hx]
 refine wpAny_bind (wpAny_rule (wpAny_bind (wpAny_setField ho hd (by simp) ?_)))
 show wpAny _ _ (newExc (.type "StopIteration") [] >>= _) _ _ _
 refine wpAny_bind ?_
 simp only [newExc,newTuple]
 refine wpAny_bind (wpAny_newObj_type ?_ (by size_fits))
 refine wpAny_bind (m:=firstArgMember _ _) (wpAny_of_eq (a:=Value.none) (by first | rfl | (simp only [firstArgMember];rfl)) ?_)
 refine wpAny_newObj_type ?_ (by size_fits)
 simp only [raiseNew]
 refine wpAny_bind (wpAny_handled ?_)
 first | rw [show A.in1.handled=none from hh] | rw [hh]
 refine wpAny_bind (wpAny_pure (wpAny_throw ?_))
 exact hE _ _ (((Heap.SameBut.update ..).extBut.push _).push _) ⟨_,Heap.get?_push_size _ rfl,rfl⟩
noncomputable def oY(b:Bool)(h:Heap)(it l:Addr)(k:Nat):Prop:=match b with
 | false=>h.IsListIter it l k
 | true=>h.IsTupleIter it l k
noncomputable def iK(b:Bool)(h:Heap)(l:Addr)(xs:Array Value):Prop:=match b with
 | false=>h.IsList l xs
 | true=>h.IsTuple l xs
theorem oY.extBut(x:oY b h a t i)(hs:Heap.ExtBut c h h')(hab:a≠c):oY b h' a t i:=by
 cases b with
 | false=>exact Heap.IsListIter.extBut x hs hab
 | true=>exact Heap.IsTupleIter.extBut x hs hab
theorem oY.at(x:oY b h a t i)(hk:∀ o,h.get? a=some o->h'.get? a=some o):oY b h' a t i:=by
 cases b with
 | false=>obtain ⟨o,e,r⟩:=x;exact ⟨o,hk o e,r⟩
 | true=>obtain ⟨o,e,r⟩:=x;exact ⟨o,hk o e,r⟩
theorem oY.lt(x:oY b h a t i):a<h.objs.size:=by
 cases b with
 | false=>obtain ⟨o,e,r⟩:=x;exact Heap.lt_size e
 | true=>obtain ⟨o,e,r⟩:=x;exact Heap.lt_size e
theorem oY.obj(x:oY b h a t i):∃ o,h.get? a=some o/\∀ v,o.data≠.cell v:=by
 cases b with
 | false=>obtain ⟨o,e,_,d⟩:=x;exact ⟨o,e,fun v z=>by rw [d] at z;cases z⟩
 | true=>obtain ⟨o,e,_,d⟩:=x;exact ⟨o,e,fun v z=>by rw [d] at z;cases z⟩
theorem iK.extBut(x:iK b h a xs)(hs:Heap.ExtBut c h h')(hab:a≠c):iK b h' a xs:=by
 cases b with
 | false=>exact Heap.IsList.extBut x hs hab
 | true=>exact Heap.IsTuple.extBut x hs hab
theorem iK.push(x:iK b h a xs)(o:Obj):iK b (h.push o) a xs:=by
 cases b with
 | false=>exact Heap.IsList.push x o
 | true=>exact Heap.IsTuple.push x o
theorem gZ{items}(hit:oY b s.heap it l i)(hl:iK b s.heap l items)(hx:items[i]?=some x)
  (hQ:∀ h',oY b h' it l (i+1)->Heap.SameBut it s.heap h'->Q x { s with heap:=h' }):wpAny (model prog w) A (Builtin.SmallTypes.nextOf (.ref it)) Q E s:=by
 cases b with
 | false=>exact wpAny_nextOf_list_item hit hl hx hQ
 | true=>exact iJ hit hl hx hQ
theorem iz{items}(hh:A.handled=none)(hit:oY b s.heap it l i)(hl:iK b s.heap l items)(hx:items[i]?=none)
  (hE:∀ h' e,Heap.ExtBut it s.heap h'->(∃ o,h'.get? e=some o/\o.cls=.type "StopIteration")->E (.ref e) { s with heap:=h' }):wpAny (model prog w) A (Builtin.SmallTypes.nextOf (.ref it)) Q E s:=by
 cases b with
 | false=>exact wpAny_nextOf_list_end hh hit hl hx hE
 | true=>exact iV hh hit hl hx hE
noncomputable def Gj(b:Bool):String:=if b=true then "tuple_iterator" else "list_iterator"
theorem qN{items}(ht:iK b s.heap t items)
  (hQ:Q (.ref s.heap.objs.size) { s with heap:=s.heap.push { cls:=.type (Gj b),data:=.fields #[.ref t,.int 0 0] } }):wpAny (model prog w) A (pyIter (.ref t)) Q E s:=by
 cases b with
 | false=>exact wpAny_pyIter_list ht hQ
 | true=>exact wpAny_pyIter_tuple ht hQ
theorem zu{b1 b2:Bool}{z TI TO i1 i2 l1 l2:Addr}{k1 k2:Nat}{xs ys:Array Value}{x y a b:Value}{Q:Value->Shared->Prop}(D:ZipApart z TI TO i1 i2 l1 l2)
  (hz:IsZip s.heap z TI TO .none) (hTI:IsPair s.heap TI (.ref i1) (.ref i2)) (hTO:IsPair s.heap TO a b)
  (h1:oY b1 s.heap i1 l1 k1) (h2:oY b2 s.heap i2 l2 k2) (hl1:iK b1 s.heap l1 xs) (hl2:iK b2 s.heap l2 ys) (hx:xs[k1]?=some x) (hy:ys[k2]?=some y)
  (hQ:∀ h',IsZip h' z TI TO (rawInt s.heap.objs.size)->IsPair h' TO x y->oY b1 h' i1 l1 (k1+1)->oY b2 h' i2 l2 (k2+1)->IsPair h' s.heap.objs.size x y->h'.objs.size=s.heap.objs.size+1 ->
   (∀ c o,c≠z->c≠TO->c≠i1->c≠i2->s.heap.get? c=some o->h'.get? c=some o)->Q (.ref s.heap.objs.size) { s with heap:=h' }) :
  wpAny (model prog w) A (Builtin.«zip.__next__» ⟨[.ref z],[]⟩) (fun fin s'=>∃ v,fin=.done (.ret v)/\Q v s') E s:=by
 show wpAny _ _ (field (.ref z) 2 >>= _) _ _ _
 refine wpAny_bind (wpAny_field hz rfl (x:=.bool false) rfl ?_)
 show wpAny _ _ (field (.ref z) 3 >>= _) _ _ _
 refine wpAny_bind (wpAny_field hz rfl (x:=.ref TI) rfl ?_)
 refine wpAny_bind (wpAny_seqItems hTI rfl ?_)
 show wpAny _ _ (Builtin.SmallTypes.ownedTupleIsFree (.ref z) >>= _) _ _ _
 refine wpAny_bind ?_
 unfold Builtin.SmallTypes.ownedTupleIsFree
 refine wpAny_bind (wpAny_field hz rfl (x:=.none) rfl (wpAny_pure ?_))
 simp only [if_true]
 refine wpAny_bind (wpAny_rule ?_)
 refine wpAny_bind (wpAny_field hz rfl (x:=.ref TO) rfl ?_)
 refine wpAny_bind (wpAny_setField_rec hz (by simp) fun h₁ hz₁ hs₁=>?_)
 replace hz₁:IsZip h₁ z TI TO .ellipsis:=hz₁
 refine wpAny_bind ?_
 simp only [List.zipIdx_cons,List.zipIdx_nil,List.forIn_cons,List.forIn_nil]
 refine wpAny_bind (wpAny_bind (wpAny_onRaise ?_))
 show wpAny _ _ (Builtin.SmallTypes.nextOf (.ref i1) >>= _) _ _ _
 refine wpAny_bind (gZ (h1.extBut hs₁.extBut D.i1z) (hl1.extBut hs₁.extBut D.l1z) hx fun h₂ h1₂ hs₂=>wpAny_pure ?_)
 have hTO₂:IsPair h₂ TO a b:=hs₂.extBut _ _ D.TOi1 (hs₁.extBut _ _ D.TOz hTO)
 refine wpAny_bind (wpAny_seqItems hTO₂ rfl ?_)
 refine wpAny_bind (wpAny_updateSeq_pair hTO₂ fun h₃ hTO₃ hs₃=>?_)
 replace hTO₃:IsPair h₃ TO x b:=hTO₃
 refine wpAny_bind (wpAny_letGo (wpAny_pure ?_))
 refine wpAny_bind (wpAny_bind (wpAny_onRaise ?_))
 show wpAny _ _ (Builtin.SmallTypes.nextOf (.ref i2) >>= _) _ _ _
 refine wpAny_bind (gZ (((h2.extBut hs₁.extBut D.i2z).extBut hs₂.extBut D.i12.symm).extBut hs₃.extBut D.TOi2.symm)
  (((hl2.extBut hs₁.extBut D.l2z).extBut hs₂.extBut D.l2i1).extBut hs₃.extBut D.l2TO) hy fun h₄ h2₄ hs₄=>wpAny_pure ?_)
 have hTO₄:IsPair h₄ TO x b:=hs₄.extBut _ _ D.TOi2 hTO₃
 refine wpAny_bind (wpAny_seqItems hTO₄ rfl ?_)
 refine wpAny_bind (wpAny_updateSeq_pair hTO₄ fun h₅ hTO₅ hs₅=>?_)
 replace hTO₅:IsPair h₅ TO x y:=hTO₅
 refine wpAny_bind (wpAny_letGo (wpAny_pure (wpAny_pure ?_)))
 refine wpAny_bind (wpAny_seqItems hTO₅ rfl ?_)
 refine wpAny_bind (wpAny_newTuple ?_)
 have hsz:h₅.objs.size=s.heap.objs.size:=by rw [hs₅.1,hs₄.1,hs₃.1,hs₂.1,hs₁.1]
 have hz₅:IsZip h₅ z TI TO .ellipsis:=hs₅.extBut _ _ D.TOz.symm (hs₄.extBut _ _ D.i2z.symm (hs₃.extBut _ _ D.TOz.symm (hs₂.extBut _ _ D.i1z.symm hz₁)))
 have hk₅:∀ c o,c≠z->c≠TO->c≠i1->c≠i2->s.heap.get? c=some o->h₅.get? c=some o:=fun c o c1 c2 c3 c4 e =>
  hs₅.extBut _ _ c2 (hs₄.extBut _ _ c4 (hs₃.extBut _ _ c2 (hs₂.extBut _ _ c3 (hs₁.extBut _ _ c1 e))))
 have h1₅:oY b1 h₅ i1 l1 (k1+1):=((h1₂.extBut hs₃.extBut D.TOi1.symm).extBut hs₄.extBut D.i12).extBut hs₅.extBut D.TOi1.symm
 have h2₅:oY b2 h₅ i2 l2 (k2+1):=h2₄.extBut hs₅.extBut D.TOi2.symm
 have hzlt:z<h₅.objs.size:=Heap.lt_size hz₅
 have hTOlt:TO<h₅.objs.size:=Heap.lt_size hTO₅
 have hi1lt:i1<h₅.objs.size:=oY.lt h1₅
 have hi2lt:i2<h₅.objs.size:=oY.lt h2₅
 show wpAny _ _ (Builtin.SmallTypes.ownedTupleHandOut (.ref z) (.ref h₅.objs.size) >>= _) _ _ _
 refine wpAny_bind ?_
 unfold Builtin.SmallTypes.ownedTupleHandOut
 have hz₆:IsZip (h₅.push { cls:=.type "tuple",data:=.seq #[x,y] }) z TI TO .ellipsis:=Heap.get?_push_of_some _ hz₅
 refine wpAny_bind (wpAny_setField_rec hz₆ (by simp) fun h₇ hz₇ hs₇=>?_)
 replace hz₇:IsZip h₇ z TI TO (rawInt h₅.objs.size):=hz₇
 refine wpAny_setField_rec hz₇ (by simp) fun h₈ hz₈ hs₈=>?_
 replace hz₈:IsZip h₈ z TI TO (rawInt h₅.objs.size):=hz₈
 have up:∀ c o,c≠z->h₅.get? c=some o->h₈.get? c=some o:=fun c o c1 e=>hs₈.extBut _ _ c1 (hs₇.extBut _ _ c1 (Heap.get?_push_of_some _ e))
 have hT₈:IsPair h₈ h₅.objs.size x y:=hs₈.extBut _ _ (Nat.ne_of_gt hzlt) (hs₇.extBut _ _ (Nat.ne_of_gt hzlt) (Heap.get?_push_size _ rfl))
 have hz8:h₈.objs.size=h₅.objs.size+1:=by rw [hs₈.1,hs₇.1,Heap.size_push]
 rw [hsz] at hz₈ hT₈ hz8
 refine wpAny_pure ⟨_,rfl,?_⟩
 show Q (.ref h₅.objs.size) _
 rw [hsz]
 exact hQ h₈ hz₈ (up _ _ D.TOz hTO₅) (h1₅.at fun o e=>up _ o D.i1z e) (h2₅.at fun o e=>up _ o D.i2z e) hT₈ hz8 fun c o c1 c2 c3 c4 e=>up c o c1 (hk₅ c o c1 c2 c3 c4 e)
theorem Ad(hh:A.handled=none)(D:ZipApart z TI TO i1 i2 l1 l2)
  (hz:IsZip s.heap z TI TO .none) (hTI:IsPair s.heap TI (.ref i1) (.ref i2)) (hTO:IsPair s.heap TO a b)
  (h1:oY b1 s.heap i1 l1 k1) (h2:oY b2 s.heap i2 l2 k2) (hl1:iK b1 s.heap l1 xs) (hl2:iK b2 s.heap l2 ys) (hend:xs[k1]?=none\/ys[k2]?=none)
  (hE:∀ h' e,(∀ c o,c≠z->c≠TO->c≠i1->c≠i2->s.heap.get? c=some o->h'.get? c=some o)->(∃ o,h'.get? e=some o/\o.cls=.type "StopIteration")->E (.ref e) { s with heap:=h' }) :
  wpAny (model prog w) A (Builtin.«zip.__next__» ⟨[.ref z],[]⟩) Q E s:=by
 show wpAny _ _ (field (.ref z) 2 >>= _) _ _ _
 refine wpAny_bind (wpAny_field hz rfl (x:=.bool false) rfl ?_)
 show wpAny _ _ (field (.ref z) 3 >>= _) _ _ _
 refine wpAny_bind (wpAny_field hz rfl (x:=.ref TI) rfl ?_)
 refine wpAny_bind (wpAny_seqItems hTI rfl ?_)
 show wpAny _ _ (Builtin.SmallTypes.ownedTupleIsFree (.ref z) >>= _) _ _ _
 refine wpAny_bind ?_
 unfold Builtin.SmallTypes.ownedTupleIsFree
 refine wpAny_bind (wpAny_field hz rfl (x:=.none) rfl (wpAny_pure ?_))
 simp only [if_true]
 refine wpAny_bind (wpAny_rule ?_)
 refine wpAny_bind (wpAny_field hz rfl (x:=.ref TO) rfl ?_)
 refine wpAny_bind (wpAny_setField_rec hz (by simp) fun h₁ hz₁ hs₁=>?_)
 replace hz₁:IsZip h₁ z TI TO .ellipsis:=hz₁
 refine wpAny_bind ?_
 simp only [List.zipIdx_cons,List.zipIdx_nil,List.forIn_cons,List.forIn_nil]
 refine wpAny_bind (wpAny_bind (wpAny_onRaise ?_))
 show wpAny _ _ (Builtin.SmallTypes.nextOf (.ref i1) >>= _) _ _ _
 cases hx:xs[k1]? with
 | none =>
  refine wpAny_bind (iz hh (h1.extBut hs₁.extBut D.i1z) (hl1.extBut hs₁.extBut D.l1z) hx fun h₂ e hs₂ he=>?_)
  obtain ⟨oe,hoe,hce⟩:=he
  have hz₂:IsZip h₂ z TI TO .ellipsis:=hs₂ _ _ D.i1z.symm hz₁
  have hez:e≠z:=fun x=>by subst x;rw [hz₂] at hoe;cases hoe;simp at hce
  refine wpAny_setField_rec hz₂ (by simp) fun h₃ _ hs₃=>hE h₃ e (fun c o c1 _ c3 _ x=>hs₃.extBut _ _ c1 (hs₂ _ _ c3 (hs₁.extBut _ _ c1 x))) ⟨oe,hs₃.extBut _ _ hez hoe,hce⟩
 | some x =>
  have hy:ys[k2]?=none:=by rcases hend with h | h;rw [hx] at h;cases h;exact h
  refine wpAny_bind (gZ (h1.extBut hs₁.extBut D.i1z) (hl1.extBut hs₁.extBut D.l1z) hx fun h₂ h1₂ hs₂=>wpAny_pure ?_)
  have hTO₂:IsPair h₂ TO a b:=hs₂.extBut _ _ D.TOi1 (hs₁.extBut _ _ D.TOz hTO)
  refine wpAny_bind (wpAny_seqItems hTO₂ rfl ?_)
  refine wpAny_bind (wpAny_updateSeq_pair hTO₂ fun h₃ hTO₃ hs₃=>?_)
  refine wpAny_bind (wpAny_letGo (wpAny_pure ?_))
  refine wpAny_bind (wpAny_bind (wpAny_onRaise ?_))
  show wpAny _ _ (Builtin.SmallTypes.nextOf (.ref i2) >>= _) _ _ _
  refine wpAny_bind (iz hh (((h2.extBut hs₁.extBut D.i2z).extBut hs₂.extBut D.i12.symm).extBut hs₃.extBut D.TOi2.symm)
   (((hl2.extBut hs₁.extBut D.l2z).extBut hs₂.extBut D.l2i1).extBut hs₃.extBut D.l2TO) hy fun h₄ e hs₄ he=>?_)
  obtain ⟨oe,hoe,hce⟩:=he
  have hz₄:IsZip h₄ z TI TO .ellipsis:=hs₄ _ _ D.i2z.symm (hs₃.extBut _ _ D.TOz.symm (hs₂.extBut _ _ D.i1z.symm hz₁))
  have hez:e≠z:=fun x=>by subst x;rw [hz₄] at hoe;cases hoe;simp at hce
  refine wpAny_setField_rec hz₄ (by simp) fun h₅ _ hs₅=>hE h₅ e (fun c o c1 c2 c3 c4 x=>hs₅.extBut _ _ c1 (hs₄ _ _ c4 (hs₃.extBut _ _ c2 (hs₂.extBut _ _ c3 (hs₁.extBut _ _ c1 x))))) ⟨oe,hs₅.extBut _ _ hez hoe,hce⟩
theorem jh(D:ZipApart z TI TO i1 i2 l1 l2)
  (hz:IsZip s.heap z TI TO .none) (hTI:IsPair s.heap TI (.ref i1) (.ref i2)) (hTO:IsPair s.heap TO a b)
  (h1:oY b1 s.heap i1 l1 k1) (h2:oY b2 s.heap i2 l2 k2) (hl1:iK b1 s.heap l1 xs) (hl2:iK b2 s.heap l2 ys) (hx:xs[k1]?=some x) (hy:ys[k2]?=some y)
  (hQ:∀ h',IsZip h' z TI TO (rawInt s.heap.objs.size)->IsPair h' TO x y->oY b1 h' i1 l1 (k1+1)->oY b2 h' i2 l2 (k2+1)->IsPair h' s.heap.objs.size x y->h'.objs.size=s.heap.objs.size+1 ->
   (∀ c o,c≠z->c≠TO->c≠i1->c≠i2->s.heap.get? c=some o->h'.get? c=some o)->Q (some (.ref s.heap.objs.size)) { s with heap:=h' }) :
  wpAny (model prog w) A (pyNext (.ref z)) Q E s:=by
 have hT:s.TypeIs (.ref z) "zip":=⟨_,hz,rfl⟩
 unfold pyNext
 exact wpAny_bind (wpAny_attempt (wpAny_callSpecial?_slot (name:=Str.ofString "__next__") hT F.slot_zip_next
  (wpAny_call_entry F.slot_zip_next hT F.entry_zip_next
   (zu D hz hTI hTO h1 h2 hl1 hl2 hx hy fun h' a1 a2 a3 a4 a5 a6 a7=>wpAny_pure (hQ h' a1 a2 a3 a4 a5 a6 a7)) (F.args_zip_next_1 _))))
theorem qx(hh:A.handled=none)(D:ZipApart z TI TO i1 i2 l1 l2)
  (hz:IsZip s.heap z TI TO .none) (hTI:IsPair s.heap TI (.ref i1) (.ref i2)) (hTO:IsPair s.heap TO a b)
  (h1:oY b1 s.heap i1 l1 k1) (h2:oY b2 s.heap i2 l2 k2) (hl1:iK b1 s.heap l1 xs) (hl2:iK b2 s.heap l2 ys) (hend:xs[k1]?=none\/ys[k2]?=none)
  (hQ:∀ h',(∀ c o,c≠z->c≠TO->c≠i1->c≠i2->s.heap.get? c=some o->h'.get? c=some o)->Q none { s with heap:=h' }):wpAny (model prog w) A (pyNext (.ref z)) Q E s:=by
 have hT:s.TypeIs (.ref z) "zip":=⟨_,hz,rfl⟩
 unfold pyNext
 refine wpAny_bind (wpAny_attempt (wpAny_callSpecial?_slot (name:=Str.ofString "__next__") hT F.slot_zip_next
  (wpAny_call_entry F.slot_zip_next hT F.entry_zip_next (Ad hh D hz hTI hTO h1 h2 hl1 hl2 hend fun h' e hk he=>?_) (F.args_zip_next_1 _))))
 obtain ⟨o,ho,hc⟩:=he
 refine wpAny_bind (wpAny_isInstance (T := "StopIteration") (b:=true) ⟨o,ho,hc⟩ isSubtype_stop ?_)
 exact wpAny_pure (hQ _ hk)
end
noncomputable abbrev Ls(b1 b2:Bool)(h:Heap)(l1:Addr):Heap:=h.push { cls:=.type (Gj b1),data:=.fields #[.ref l1,.int 0 0] }
noncomputable abbrev J3(b1 b2:Bool)(h:Heap)(l1 l2:Addr):Heap:=(Ls b1 b2 h l1).push { cls:=.type (Gj b2),data:=.fields #[.ref l2,.int 0 0] }
noncomputable abbrev KR(b1 b2:Bool)(h:Heap)(l1 l2:Addr):Heap:=(J3 b1 b2 h l1 l2).push { cls:=.type "tuple",data:=.seq #[.ref h.objs.size,.ref (Ls b1 b2 h l1).objs.size] }
noncomputable abbrev Kz(b1 b2:Bool)(h:Heap)(l1 l2:Addr):Heap:=(KR b1 b2 h l1 l2).push { cls:=.type "tuple",data:=.seq #[.none,.none] }
noncomputable abbrev yM(b1 b2:Bool)(h:Heap)(l1 l2:Addr):Heap:=(Kz b1 b2 h l1 l2).push { cls:=.type "zip",data:=.fields #[.none,.bool false,.bool false,.ref (J3 b1 b2 h l1 l2).objs.size,.ref (KR b1 b2 h l1 l2).objs.size] }
theorem yK(b1 b2:Bool)(l1 l2:Addr)(xs ys:Array Value) :
  Meets (Builtin.«zip.__new__» ⟨[.type "zip",.ref l1,.ref l2],[]⟩) (fun _ R s=>iK b1 s.heap l1 xs/\iK b2 s.heap l2 ys /\
   R (.ok (.ret (.ref (Kz b1 b2 s.heap l1 l2).objs.size))) { s with heap:=yM b1 b2 s.heap l1 l2 }) :=
 .of_wp fun prog w A R s h=>by
  obtain ⟨hp,g,d,tk,os⟩:=s;obtain ⟨hl1,hl2,h⟩:=h
  have hsub:=sub_zip
  have hL1:iK b1 (Shared.heap ⟨hp,g,d,tk,os⟩) l1 xs:=hl1
  have hL2:iK b2 (Shared.heap ⟨hp.push { cls:=.type (Gj b1),data:=.fields #[.ref l1,.int 0 0] },g,d,tk,os⟩) l2 ys:=iK.push hl2 _
  wp_walk using qN hL1,qN hL2
  exact ⟨_,rfl,h⟩
section
variable{prog:Program}{w:World}{A:Around}{E:Value->Shared->Prop}{s:Shared}
theorem oY.mk0(e:h.get? a=some { cls:=.type (Gj b),data:=.fields #[.ref l,.int 0 0] }):oY b h a l 0:=by
 cases b with
 | false=>exact ⟨_,e,rfl,rfl⟩
 | true=>exact ⟨_,e,rfl,rfl⟩
theorem v6(hl1:iK b1 s.heap l1 xs)(hl2:iK b2 s.heap l2 ys)
  (h:∀ h',IsZip h' (s.heap.objs.size+4) (s.heap.objs.size+2) (s.heap.objs.size+3) .none->IsPair h' (s.heap.objs.size+2) (.ref s.heap.objs.size) (.ref (s.heap.objs.size+1)) ->
   IsPair h' (s.heap.objs.size+3) .none .none->oY b1 h' s.heap.objs.size l1 0->oY b2 h' (s.heap.objs.size+1) l2 0->h'.objs.size=s.heap.objs.size+5 ->
   (∀ c o,s.heap.get? c=some o->h'.get? c=some o)->Q (.ref (s.heap.objs.size+4)) { s with heap:=h' }) :
  wpAny (model prog w) A (call (.type "zip") [.ref l1,.ref l2]) Q E s:=by
 refine callType_new F.called_zip (by decide) (F.typeCall_zip_2 _ _) (F.newCall_zip_2 _ _) (fun obj=>F.args_object_init_3 obj _ _) F.entry_zip_new
  (yK b1 b2 l1 l2 xs ys) ⟨hl1,hl2,?_⟩
 have z1:(Ls b1 b2 s.heap l1).objs.size=s.heap.objs.size+1:=Heap.size_push ..
 have z2:(J3 b1 b2 s.heap l1 l2).objs.size=s.heap.objs.size+2:=by rw [Heap.size_push,z1]
 have z3:(KR b1 b2 s.heap l1 l2).objs.size=s.heap.objs.size+3:=by rw [Heap.size_push,z2]
 have z4:(Kz b1 b2 s.heap l1 l2).objs.size=s.heap.objs.size+4:=by rw [Heap.size_push,z3]
 have z5:(yM b1 b2 s.heap l1 l2).objs.size=s.heap.objs.size+5:=by rw [Heap.size_push,z4]
 have g5:(yM b1 b2 s.heap l1 l2).get? (Kz b1 b2 s.heap l1 l2).objs.size=some _:=Heap.get?_push_size _ rfl
 have g4:(yM b1 b2 s.heap l1 l2).get? (KR b1 b2 s.heap l1 l2).objs.size=some _:=Heap.get?_push_of_some _ (Heap.get?_push_size _ rfl)
 have g3:(yM b1 b2 s.heap l1 l2).get? (J3 b1 b2 s.heap l1 l2).objs.size=some _:=Heap.get?_push_of_some _ (Heap.get?_push_of_some _ (Heap.get?_push_size _ rfl))
 have g2:(yM b1 b2 s.heap l1 l2).get? (Ls b1 b2 s.heap l1).objs.size=some _:=Heap.get?_push_of_some _ (Heap.get?_push_of_some _ (Heap.get?_push_of_some _ (Heap.get?_push_size _ rfl)))
 have g1:(yM b1 b2 s.heap l1 l2).get? s.heap.objs.size=some _:=Heap.get?_push_of_some _ (Heap.get?_push_of_some _ (Heap.get?_push_of_some _ (Heap.get?_push_of_some _ (Heap.get?_push_size _ rfl))))
 show _/\_
 rw [z2,z3,z4] at g5
 rw [z1,z2] at g3
 rw [z3] at g4
 rw [z1] at g2
 rw [z4]
 exact ⟨⟨_,g5,rfl⟩,h _ g5 g3 g4 (oY.mk0 g1) (oY.mk0 g2) z5 fun c o x =>
  Heap.get?_push_of_some _ (Heap.get?_push_of_some _ (Heap.get?_push_of_some _ (Heap.get?_push_of_some _ (Heap.get?_push_of_some _ x))))⟩
end
end PySem
namespace L2
open PySem PySem.Spec PyProof.Rows
noncomputable def Hq(K:PySem.W.Frag)(b:Bool)(H:Hp)(a:Addr)(xs:List V):Prop:=match b with
 | false=>c7 K H a xs
 | true=>cZ K H a xs
section
variable{X:Cx}{pins:List (Addr × Obj)}{σ:St}{H:Hp}{s:Shared}{a:Addr}{xs ys:List V}
theorem bj.seqB(I:bj X pins σ H s)(h:Hq X.K b H a xs):∃ its:List Value,cI xs its/\iK b s.heap a its.toArray/\xs.length<=sizeLine:=by
 cases b with
 | false =>
  obtain ⟨its,r,p,z⟩:=I.list h
  exact ⟨its,r,p.isList,z⟩
 | true =>
  obtain ⟨its,r,p,z⟩:=I.tuple h
  exact ⟨its,r,p,z⟩
theorem bj.seqB_inj(I:bj X pins σ H s)(h:Hq X.K b H a xs)(h':Hq X.K b H a ys):xs=ys:=by
 cases b with
 | false=>exact I.list_inj h h'
 | true=>exact I.tuple_inj h h'
end
noncomputable def RT(K:PySem.W.Frag)(b1 b2:Bool)(l1 l2:Addr):It :=
  ⟨fun i H=>∃ xs ys x y,Hq K b1 H l1 xs/\Hq K b2 H l2 ys/\xs[i]?=some x/\ys[i]?=some y,
   fun i H v H'=>∃ T x y,H T=none/\v=.ref T/\H'=bQ H T (.tup [x,y])/\∀ xs ys,Hq K b1 H l1 xs->Hq K b2 H l2 ys->xs[i]?=some x/\ys[i]?=some y,
   fun i H=>∃ xs ys,Hq K b1 H l1 xs/\Hq K b2 H l2 ys/\(xs.length<=i\/ys.length<=i)⟩
theorem Qt{P:Program}{w:World}{K:PySem.W.Frag}{elts:List Expr}{kx:Nat}{px:Pos}(b1 b2:Bool)(z TI TO i1 i2 l1 l2:Addr)(D:ZipApart z TI TO i1 i2 l1 l2) :
  vM P w K (.Tuple elts kx px) (RT K b1 b2 l1 l2) [z,TI,TO,i1,i2] z (fun i h=>IsZip h z TI TO .none/\IsPair h TI (.ref i1) (.ref i2)/\(∃ a b,IsPair h TO a b)/\oY b1 h i1 l1 i/\oY b2 h i2 l2 i) where
 mem:=by simp
 obj:=fun i h st b hb=>by
  obtain ⟨hz,hTI,⟨a,c,hTO⟩,h1,h2⟩:=st
  simp only [List.mem_cons,List.not_mem_nil,or_false] at hb
  rcases hb with rfl | rfl | rfl | rfl | rfl
  .exact ⟨_,hz,fun v z=>nomatch z⟩
  .exact ⟨_,hTI,fun v z=>nomatch z⟩
  .exact ⟨_,hTO,fun v z=>nomatch z⟩
  .exact h1.obj
  .exact h2.obj
 keep:=fun i h h' st k=>by
  obtain ⟨hz,hTI,⟨a,c,hTO⟩,h1,h2⟩:=st
  exact ⟨k z (by simp) _ hz,k TI (by simp) _ hTI,⟨a,c,k TO (by simp) _ hTO⟩,h1.at fun o x=>k i1 (by simp) o x,h2.at fun o x=>k i2 (by simp) o x⟩
 item:=by
  intro X hP hw hK hc i pins s σ H E I hf st hg
  subst hP hw hK
  obtain ⟨xs,ys,x,y,hq1,hq2,hx,hy⟩:=hg
  obtain ⟨its1,rv1,p1,_⟩:=I.seqB hq1
  obtain ⟨its2,rv2,p2,_⟩:=I.seqB hq2
  obtain ⟨u1,hu1,ru1⟩:=rv1.get hx
  obtain ⟨u2,hu2,ru2⟩:=rv2.get hy
  obtain ⟨hz,hTI,⟨a,c,hTO⟩,h1,h2⟩:=st
  refine jh D hz hTI hTO h1 h2 p1 p2 (x:=u1) (y:=u2) (by simpa using hu1) (by simpa using hu2) fun h' e1 e2 e3 e4 e5 e6 hk=>?_
  refine ⟨_,rfl,wpAny_letOwnedTupleGo_zip e1 fun h2' hz2 hs2=>?_⟩
  have nT:H s.heap.objs.size=none:=I.hok.fresh (Nat.le_refl _)
  have kp:∀ b o,b∉[z,TI,TO,i1,i2]->s.heap.get? b=some o->h2'.get? b=some o:=fun b o hb q=>by
   simp only [List.mem_cons,List.not_mem_nil,or_false,not_or] at hb
   obtain ⟨n1,n2,n3,n4,n5⟩:=hb
   exact (hs2.2 b n1).trans (hk b o n1 n3 n4 n5 q)
  have zlt:z<s.heap.objs.size:=Heap.lt_size hz
  have ht2:h2'.get? s.heap.objs.size=some { cls:=.type "tuple",data:=.seq #[u1,u2] }:=(hs2.2 _ (Nat.ne_of_gt zlt)).trans e5
  refine ⟨.ref s.heap.objs.size,bQ H s.heap.objs.size (.tup [x,y]),I.turnedNew (t':=s.toks) hf kp (Nat.le_refl _) ?_,rfl,⟨_,x,y,nT,rfl,rfl,fun xs' ys' g1 g2=>?_⟩,?_,fun b hb=>?_⟩
  .exact ⟨by show 2<=sizeLine;decide,[u1,u2],.cons ru1 (.cons ru2 .nil),_,ht2,rfl,_,rfl⟩
  .rw [I.seqB_inj g1 hq1,I.seqB_inj g2 hq2]
   exact ⟨hx,hy⟩
  .exact ⟨hz2,(hs2.2 _ D.TIz).trans (hk _ _ D.TIz D.TITO D.TIi1 D.TIi2 hTI),⟨_,_,(hs2.2 _ D.TOz).trans e2⟩,e3.at fun o q=>(hs2.2 _ D.i1z).trans q,e4.at fun o q=>(hs2.2 _ D.i2z).trans q⟩
  .have hb':=(hf b hb).1
   have:b≠s.heap.objs.size:=by
    simp only [List.mem_cons,List.not_mem_nil,or_false] at hb
    rcases hb with rfl | rfl | rfl | rfl | rfl
    .exact Nat.ne_of_lt zlt
    .exact Nat.ne_of_lt (Heap.lt_size hTI)
    .exact Nat.ne_of_lt (Heap.lt_size hTO)
    .exact Nat.ne_of_lt h1.lt
    .exact Nat.ne_of_lt h2.lt
   rw [aA this]
   exact hb'
 done:=by
  intro X hP hw hK hc i pins s σ H E I hf st hg
  subst hP hw hK
  obtain ⟨xs,ys,hq1,hq2,hle⟩:=hg
  obtain ⟨its1,rv1,p1,_⟩:=I.seqB hq1
  obtain ⟨its2,rv2,p2,_⟩:=I.seqB hq2
  have l1':=rv1.length
  have l2':=rv2.length
  obtain ⟨hz,hTI,⟨a,c,hTO⟩,h1,h2⟩:=st
  refine qx (I.ok.hd hc) D hz hTI hTO h1 h2 p1 p2 ?_ fun h' hk=>⟨rfl,I.turnedL (t':=s.toks) hf fun b o hb q=>?_⟩
  .rcases hle with h | h
   .exact .inl (by simp;omega)
   .exact .inr (by simp;omega)
  .simp only [List.mem_cons,List.not_mem_nil,or_false,not_or] at hb
   obtain ⟨n1,n2,n3,n4,n5⟩:=hb
   exact hk b o n1 n3 n4 n5 q
 self:=fun _ _ _ _ _ st h=>wpAny_pyIter_zip st.1 h
section
variable{X:Cx}
noncomputable def qiZ(K:PySem.W.Frag)(b1 b2:Bool)(R:It->Hp->Prop)(vs:List V)(H1:Hp)(l1 l2:Addr)(xs ys:List V):Prop:=vs=[.ref l1,.ref l2]/\Hq K b1 H1 l1 xs/\Hq K b2 H1 l2 ys/\R (RT K b1 b2 l1 l2) H1
noncomputable def kiZ(K:PySem.W.Frag)(b1 b2:Bool)(R:It->Hp->Prop):List V->Hp->Prop:=fun vs H1=>Exists (E4 (qiZ K b1 b2 R vs H1))
noncomputable def Zz(K:PySem.W.Frag)(b1 b2:Bool)(ta:TA):TI:=fun σ H R=>ta σ H (kiZ K b1 b2 R)
theorem Iu{b1 b2:Bool}{elts:List Expr}{kx:Nat}{px:Pos}{a b:Expr}{ta:TA}{p pos:Pos}(hg:Gl X "zip")(hm:X.mg "zip"=none)(ha:PA X [a,b] ta)(hs:starEach [a,b] X.env=[(false,eval a X.env),(false,eval b X.env)]:=by rfl)(hs2:starEach [b] X.env=[(false,eval b X.env)]:=by rfl) :
  PI X (.Tuple elts kx px) (.Call (.Name "zip" p) [a,b] [] pos) (Zz X.K b1 b2 ta):=by
 intro pins s σ H R I h
 refine Call_ (lM I hg hm PyProof.Rows.Boot.«zip» (PyProof.Rows.callWith_type1 (dg (ha pos pins s σ H _ I h) fun us s1 ⟨vs,H1,I1,r1,q1⟩=>?_) (by rw [hs,hs2]) (by rw [hs2];rfl)))
 obtain ⟨l1,l2,xs,ys,e,hq1,hq2,q⟩:=q1
 subst e
 obtain ⟨u1,u2,rfl,ru1,ru2⟩:=Om r1
 cases ru1
 cases ru2
 obtain ⟨its1,rv1,p1,_⟩:=I1.seqB hq1
 obtain ⟨its2,rv2,p2,_⟩:=I1.seqB hq2
 have lt1:l1<s1.heap.objs.size:=by cases b1 <;> (obtain ⟨o,e,_⟩:=p1;exact Heap.lt_size e)
 have lt2:l2<s1.heap.objs.size:=by cases b2 <;> (obtain ⟨o,e,_⟩:=p2;exact Heap.lt_size e)
 refine v6 p1 p2 fun h' hz hTI hTO h1 h2 hsz hk=>?_
 refine wpAny_pyIter_zip hz ?_
 have I2:bj X pins σ H1 { s1 with heap:=h' }:=I1.kept (t':=s1.toks) hk
 have fr:∀ b,s1.heap.objs.size<=b->H1 b=none:=fun b hb=>I1.hok.fresh hb
 have D:ZipApart (s1.heap.objs.size+4) (s1.heap.objs.size+2) (s1.heap.objs.size+3) s1.heap.objs.size (s1.heap.objs.size+1) l1 l2:=by
  have aux:∀ {m n:Nat},(m:Nat)≠n->@Ne Addr m n:=fun h=>h
  have lt1':@LT.lt Nat _ l1 s1.heap.objs.size:=lt1
  have lt2':@LT.lt Nat _ l2 s1.heap.objs.size:=lt2
  constructor <;> (refine aux ?_;omega)
 refine ⟨s1.heap.objs.size+4,[s1.heap.objs.size+4,s1.heap.objs.size+2,s1.heap.objs.size+3,s1.heap.objs.size,s1.heap.objs.size+1],_,_,H1,rfl,I2,Qt b1 b2 _ _ _ _ _ l1 l2 D,⟨hz,hTI,⟨_,_,hTO⟩,h1,h2⟩,fun b hb=>?_,q⟩
 have hb':s1.heap.objs.size<=b:=by
  simp only [List.mem_cons,List.not_mem_nil,or_false] at hb
  rcases hb with rfl | rfl | rfl | rfl | rfl
  .exact Nat.le_add_right _ _
  .exact Nat.le_add_right _ _
  .exact Nat.le_add_right _ _
  .exact Nat.le_refl _
  .exact Nat.le_add_right _ _
 exact I1.fpOk hb' (fr b hb')
end
end L2
namespace PySem
open Sem (wp)
open PySem.AutoSeq1 (wpAny_loadPart')
theorem qy(l:Addr)(items:Array Value)(n:Nat)(dct:Option Addr)(sl:Array (Option Value)) :
  Meets (Builtin.«enumerate.__new__» ⟨[.type "enumerate",.ref l],[]⟩) (fun _ R s=>s.heap.get? l=some { cls:=.type "tuple",dict:=dct,data:=.seq items n,slots:=sl } /\
   R (.ok (.ret (.ref (s.heap.push { cls:=.type "tuple_iterator",data:=.fields #[.ref l,.int 0 0] }).objs.size)))
    { s with heap:=(s.heap.push { cls:=.type "tuple_iterator",data:=.fields #[.ref l,.int 0 0] }).push { cls:=.type "enumerate",data:=.fields #[.none,.bool false,.ref s.heap.objs.size,rawInt 0,.none,.none] } }) :=
 .of_wp fun prog w A R s h=>by
  obtain ⟨hp,g,d,tk,os⟩:=s;obtain ⟨hl,h⟩:=h
  have hsub:=sub_enumerate
  have hL:Heap.IsTuple (Shared.heap ⟨hp,g,d,tk,os⟩) l items:=⟨_,hl,rfl,n,rfl⟩
  wp_walk using wpAny_loadPart' hl
  refine wpAny_stack_any fun st=>wpAny_pure ?_
  split
  .rename_i c _ _ _ _ _
   cases (c == Value.type "enumerate")
   .wp_walk using wpAny_loadPart' hl,wpAny_pyIter_tuple hL
    exact ⟨_,rfl,h⟩
   .wp_walk using wpAny_loadPart' hl,wpAny_pyIter_tuple hL
    exact ⟨_,rfl,h⟩
  .wp_walk using wpAny_loadPart' hl,wpAny_pyIter_tuple hL
   exact ⟨_,rfl,h⟩
section
variable{prog:Program}{w:World}{A:Around}{E:Value->Shared->Prop}{s:Shared}
theorem rG{e it l:Addr}{i:Nat}{items:Array Value}{x old:Value}{Q:Value->Shared->Prop}
  (he:IsEnum s.heap e it i old) (hit:s.heap.IsTupleIter it l i) (hl:s.heap.IsTuple l items) (hx:items[i]?=some x) (hne:e≠it)
  (hQ:∀ h',IsEnumOut h' e it ((i:Int)+1) x s.heap.objs.size->h'.IsTupleIter it l (i+1) ->
   h'.get? s.heap.objs.size=some { cls:=.type "tuple",data:=.seq #[.int i s.toks,x] }->h'.objs.size=s.heap.objs.size+1 ->
   (∀ b o,b≠e->b≠it->s.heap.get? b=some o->h'.get? b=some o)->Q (.ref s.heap.objs.size) { s with heap:=h',toks:=s.toks+1 }) :
  wpAny (model prog w) A (Builtin.«enumerate.__next__» ⟨[.ref e],[]⟩) (fun fin s'=>∃ v,fin=.done (.ret v)/\Q v s') E s:=by
 obtain ⟨hp,g,d,tk,os⟩:=s
 show wpAny _ _ (field (.ref e) 2 >>= _) _ _ _
 refine wpAny_bind (wpAny_field he rfl (x:=.ref it) rfl ?_)
 refine wpAny_bind (iJ hit hl hx fun h₁ hit₁ hs₁=>?_)
 replace hs₁:Heap.SameBut it hp h₁:=hs₁
 have he₁:IsEnum h₁ e it i old:=(hs₁.2 e hne).trans he
 show wpAny _ _ (field (.ref e) 3 >>= _) _ _ ⟨h₁,g,d,tk,os⟩
 refine wpAny_bind (wpAny_field he₁ rfl (x:=rawInt i) rfl ?_)
 show wpAny _ _ (field (.ref e) 4 >>= _) _ _ ⟨h₁,g,d,tk,os⟩
 refine wpAny_bind (wpAny_field he₁ rfl (x:=.none) rfl ?_)
 show wpAny _ _ (mkInt i >>= _) _ _ ⟨h₁,g,d,tk,os⟩
 refine wpAny_bind (wpAny_mkInt ?_)
 show wpAny _ _ (setField (.ref e) 3 (rawInt ((i:Int)+1)) >>= _) _ _ ⟨h₁,g,d,tk+1,os⟩
 refine wpAny_bind (wpAny_setField_rec he₁ (by simp) fun h₂ he₂ hs₂=>?_)
 replace hs₂:Heap.SameBut e h₁ h₂:=hs₂
 replace he₂:IsEnum h₂ e it ((i:Int)+1) old:=he₂
 show wpAny _ _ (setField (.ref e) 4 .none >>= _) _ _ ⟨h₂,g,d,tk+1,os⟩
 refine wpAny_bind (wpAny_setField_rec he₂ (by simp) fun h₃ he₃ hs₃=>?_)
 replace hs₃:Heap.SameBut e h₂ h₃:=hs₃
 replace he₃:IsEnum h₃ e it ((i:Int)+1) old:=he₃
 show wpAny _ _ (newTuple [.int i tk,x] >>= _) _ _ ⟨h₃,g,d,tk+1,os⟩
 refine wpAny_bind (wpAny_newTuple ?_)
 have he₄:IsEnum (h₃.push { cls:=.type "tuple",data:=.seq #[.int i tk,x] }) e it ((i:Int)+1) old:=Heap.get?_push_of_some _ he₃
 generalize hh₄:h₃.push { cls:=.type "tuple",data:=.seq #[.int i tk,x] }=h₄ at he₄
 have hsz:h₃.objs.size=hp.objs.size:=by rw [hs₃.1,hs₂.1,hs₁.1]
 have hel:e<hp.objs.size:=Heap.lt_size he
 have ht₄:h₄.get? hp.objs.size=some { cls:=.type "tuple",data:=.seq #[.int i tk,x] }:=by rw [<- hh₄,<- hsz];exact Heap.get?_push_size _ rfl
 have hz₄:h₄.objs.size=hp.objs.size+1:=by rw [<- hh₄,Heap.size_push,hsz]
 have hk₄:∀ b o,b≠e->b≠it->hp.get? b=some o->h₄.get? b=some o:=fun b o hbe hbi hb=>by
  rw [<- hh₄];exact Heap.get?_push_of_some _ (hs₃.extBut b o hbe (hs₂.extBut b o hbe (hs₁.extBut b o hbi hb)))
 have hit₄:h₄.IsTupleIter it l (i+1):=by
  rw [<- hh₄];obtain ⟨o,ho,r⟩:=(hit₁.extBut hs₂.extBut (Ne.symm hne)).extBut hs₃.extBut (Ne.symm hne);exact ⟨o,Heap.get?_push_of_some _ ho,r⟩
 show wpAny _ _ (Builtin.SmallTypes.ownedTupleIsFree (.ref e) >>= _) _ _ ⟨h₄,g,d,tk+1,os⟩
 rw [hsz]
 clear hh₄ he₃ hs₃ he₂ hs₂ he₁ hs₁ hit₁ hsz h₃ h₂ h₁
 refine wpAny_bind ?_
 .unfold Builtin.SmallTypes.ownedTupleIsFree
  refine wpAny_bind (wpAny_field he₄ rfl (x:=.none) rfl (wpAny_pure ?_))
  simp only [if_true]
  refine wpAny_bind (wpAny_rule ?_)
  refine wpAny_bind (wpAny_field he₄ rfl (x:=old) rfl ?_)
  refine wpAny_bind (wpAny_setField_rec he₄ (by simp) fun h₅ he₅ hs₅=>?_)
  replace hs₅:Heap.SameBut e h₄ h₅:=hs₅
  replace he₅:IsEnum h₅ e it ((i:Int)+1) x:=he₅
  show wpAny _ _ (Builtin.SmallTypes.ownedTupleHandOut (.ref e) (.ref hp.objs.size) >>= _) _ _ ⟨h₅,g,d,tk+1,os⟩
  refine wpAny_bind ?_
  .unfold Builtin.SmallTypes.ownedTupleHandOut
   refine wpAny_bind (wpAny_setField_rec he₅ (by simp) fun h₆ he₆ hs₆=>?_)
   replace hs₆:Heap.SameBut e h₅ h₆:=hs₆
   replace he₆:IsEnumOut h₆ e it ((i:Int)+1) x hp.objs.size:=he₆
   refine wpAny_setField_rec he₆ (by simp) fun h₇ he₇ hs₇=>?_
   replace hs₇:Heap.SameBut e h₆ h₇:=hs₇
   replace he₇:IsEnumOut h₇ e it ((i:Int)+1) x hp.objs.size:=he₇
   refine wpAny_bind (wpAny_letGo (wpAny_pure ⟨_,rfl,hQ h₇ he₇ ?_ ?_ ?_ ?_⟩))
   .exact ((hit₄.extBut hs₅.extBut (Ne.symm hne)).extBut hs₆.extBut (Ne.symm hne)).extBut hs₇.extBut (Ne.symm hne)
   .exact hs₇.extBut _ _ (Nat.ne_of_gt hel) (hs₆.extBut _ _ (Nat.ne_of_gt hel) (hs₅.extBut _ _ (Nat.ne_of_gt hel) ht₄))
   .rw [hs₇.1,hs₆.1,hs₅.1,hz₄]
   .exact fun b o hbe hbi hb=>hs₇.extBut b o hbe (hs₆.extBut b o hbe (hs₅.extBut b o hbe (hk₄ b o hbe hbi hb)))
theorem oK{e it l:Addr}{i:Nat}{items:Array Value}{x old:Value}{Q:Option Value->Shared->Prop}
  (he:IsEnum s.heap e it i old) (hit:s.heap.IsTupleIter it l i) (hl:s.heap.IsTuple l items) (hx:items[i]?=some x) (hne:e≠it)
  (hQ:∀ h',IsEnumOut h' e it ((i:Int)+1) x s.heap.objs.size->h'.IsTupleIter it l (i+1) ->
   h'.get? s.heap.objs.size=some { cls:=.type "tuple",data:=.seq #[.int i s.toks,x] }->h'.objs.size=s.heap.objs.size+1 ->
   (∀ b o,b≠e->b≠it->s.heap.get? b=some o->h'.get? b=some o)->Q (some (.ref s.heap.objs.size)) { s with heap:=h',toks:=s.toks+1 }) :
  wpAny (model prog w) A (pyNext (.ref e)) Q E s:=by
 have hT:s.TypeIs (.ref e) "enumerate":=⟨_,he,rfl⟩
 unfold pyNext
 exact wpAny_bind (wpAny_attempt (wpAny_callSpecial?_slot (name:=Str.ofString "__next__") hT F.slot_enumerate_next
  (wpAny_call_entry F.slot_enumerate_next hT F.entry_enumerate_next
   (rG he hit hl hx hne fun h' a b c d k=>wpAny_pure (hQ h' a b c d k)) (F.args_enumerate_next_1 _))))
theorem p6{e it l:Addr}{i:Nat}{items:Array Value}{old:Value}{Q:Option Value->Shared->Prop}(hh:A.handled=none)
  (he:IsEnum s.heap e it i old) (hit:s.heap.IsTupleIter it l i) (hl:s.heap.IsTuple l items) (hx:items[i]?=none)
  (hQ:∀ h',Heap.ExtBut it s.heap h'->Q none { s with heap:=h' }):wpAny (model prog w) A (pyNext (.ref e)) Q E s:=by
 have hT:s.TypeIs (.ref e) "enumerate":=⟨_,he,rfl⟩
 unfold pyNext
 refine wpAny_bind (wpAny_attempt (wpAny_callSpecial?_slot (name:=Str.ofString "__next__") hT F.slot_enumerate_next
  (wpAny_call_entry F.slot_enumerate_next hT F.entry_enumerate_next ?_ (F.args_enumerate_next_1 _))))
 show wpAny _ _ (field (.ref e) 2 >>= _) _ _ _
 refine wpAny_bind (wpAny_field he rfl (x:=.ref it) rfl ?_)
 refine wpAny_bind (iV hh hit hl hx fun h' x he' hx'=>?_)
 obtain ⟨o,ho,hc⟩:=hx'
 refine wpAny_bind (wpAny_isInstance (T := "StopIteration") (b:=true) ⟨o,ho,hc⟩ isSubtype_stop ?_)
 exact wpAny_pure (hQ _ he')
theorem qT(hL:s.heap.IsTuple l items)
  (h:∀ h',IsEnum h' (s.heap.objs.size+1) s.heap.objs.size 0 .none->h'.IsTupleIter s.heap.objs.size l 0->h'.objs.size=s.heap.objs.size+2 ->
   (∀ b o,s.heap.get? b=some o->h'.get? b=some o)->Q (.ref (s.heap.objs.size+1)) { s with heap:=h' }) :
  wpAny (model prog w) A (call (.type "enumerate") [.ref l]) Q E s:=by
 obtain ⟨⟨c,dct,dt,sl⟩,hl,hc,n,hd⟩:=hL
 replace hc:c=.type "tuple":=hc
 replace hd:dt=.seq items n:=hd
 subst hc hd
 refine callType_new F.called_enumerate (by decide) (F.typeCall_enumerate_1 _) (F.newCall_enumerate_1 _) (fun obj=>F.args_object_init_2 obj _) F.entry_enumerate_new
  (qy l items n dct sl) ⟨hl,?_⟩
 have hz:(s.heap.push { cls:=.type "tuple_iterator",data:=.fields #[.ref l,.int 0 0] }).objs.size=s.heap.objs.size+1:=Heap.size_push ..
 show _/\_
 rw [hz]
 have he:IsEnum ((s.heap.push { cls:=.type "tuple_iterator",data:=.fields #[.ref l,.int 0 0] }).push
   { cls:=.type "enumerate",data:=.fields #[.none,.bool false,.ref s.heap.objs.size,rawInt 0,.none,.none] }) (s.heap.objs.size+1) s.heap.objs.size 0 .none:=by
  have:=Heap.get?_push_size (s.heap.push { cls:=.type "tuple_iterator",data:=.fields #[.ref l,.int 0 0] })
   (o:={ cls:=.type "enumerate",data:=.fields #[.none,.bool false,.ref s.heap.objs.size,rawInt 0,.none,.none] }) rfl
  rw [hz] at this;exact this
 refine ⟨⟨_,he,rfl⟩,h _ he ⟨_,Heap.get?_push_of_some _ (Heap.get?_push_size _ rfl),rfl,rfl⟩ (by rw [Heap.size_push,hz]) fun b o x=>Heap.get?_push_of_some _ (Heap.get?_push_of_some _ x)⟩
end
end PySem
namespace L2
open PySem PySem.Spec PyProof.Rows
noncomputable def N8(K:PySem.W.Frag)(a:Addr):It :=
 ⟨fun i H=>∃ xs x,cZ K H a xs/\xs[i]?=some x,fun i H v H'=>∃ T x,H T=none/\v=.ref T/\H'=bQ H T (.tup [.int (i:Nat),x])/\∀ xs,cZ K H a xs->xs[i]?=some x,fun i H=>∃ xs,cZ K H a xs/\xs.length<=i⟩
theorem HY{P:Program}{w:World}{K:PySem.W.Frag}{elts:List Expr}{kx:Nat}{px:Pos}(a e it:Addr)(hei:e≠it):vM P w K (.Tuple elts kx px) (N8 K a) [e,it] e (fun i h=>(∃ old,IsEnum h e it (i:Nat) old)/\h.IsTupleIter it a i) where
 mem:=by simp
 obj:=fun i h st b hb=>by
  obtain ⟨⟨old,he⟩,o,e1,c,d⟩:=st
  rcases List.mem_cons.mp hb with rfl | hb
  .exact ⟨_,he,fun v z=>nomatch z⟩
  .have eb:b=it:=by simpa using hb
   subst eb
   exact ⟨o,e1,fun v z=>by rw [d] at z;cases z⟩
 keep:=fun i h h' st k=>by
  obtain ⟨⟨old,he⟩,hit⟩:=st
  exact ⟨⟨old,k e (by simp) _ he⟩,hit.at fun o x=>k it (by simp) o x⟩
 item:=by
  intro X hP hw hK hc i pins s σ H E I hf st hg
  subst hP hw hK
  obtain ⟨xs,x,hq,hx⟩:=hg
  obtain ⟨its,rv,p,hz⟩:=I.tuple hq
  obtain ⟨u,hu,ru⟩:=rv.get hx
  obtain ⟨⟨old,he⟩,hit⟩:=st
  refine oK he hit p (x:=u) (by simpa using hu) hei fun h1 ho hit1 hT hsz hk=>?_
  refine ⟨_,rfl,wpAny_letOwnedTupleGo_enum ho fun h2 he2 hs2=>?_⟩
  have helt:e<s.heap.objs.size:=Heap.lt_size he
  have hTe:s.heap.objs.size≠e:=Nat.ne_of_gt helt
  have nT:H s.heap.objs.size=none:=I.hok.fresh (Nat.le_refl _)
  have kp:∀ b o,b∉[e,it]->s.heap.get? b=some o->h2.get? b=some o:=fun b o hb q=>by
   have n1:b≠e:=fun z=>hb (by simp [z])
   have n2:b≠it:=fun z=>hb (by simp [z])
   exact (hs2.2 b n1).trans (hk b o n1 n2 q)
  have ht2:h2.get? s.heap.objs.size=some { cls:=.type "tuple",data:=.seq #[.int i s.toks,u] }:=(hs2.2 _ hTe).trans hT
  refine ⟨.ref s.heap.objs.size,bQ H s.heap.objs.size (.tup [.int (i:Nat),x]),I.turnedNew (t':=s.toks+1) hf kp (Nat.le_refl _) ?_,rfl,⟨_,x,nT,rfl,rfl,fun ys hy=>by rw [I.tuple_inj hy hq];exact hx⟩,⟨⟨_,by simpa using he2⟩,hit1.at fun o y=>(hs2.2 it hei.symm).trans y⟩,fun b hb=>?_⟩
  .exact ⟨by show 2<=sizeLine;decide,[.int i s.toks,u],.cons ⟨_,rfl⟩ (.cons ru .nil),_,ht2,rfl,_,rfl⟩
  .have hb':=(hf b hb).1
   have:b≠s.heap.objs.size:=by
    rcases List.mem_cons.mp hb with z | z
    .rw [z];exact hTe.symm
    .have eb:b=it:=by simpa using z
     obtain ⟨_,q,_⟩:=hit
     rw [eb];exact Nat.ne_of_lt (Heap.lt_size q)
   rw [aA this]
   exact hb'
 done:=by
  intro X hP hw hK hc i pins s σ H E I hf st hg
  subst hP hw hK
  obtain ⟨xs,hq,hx⟩:=hg
  obtain ⟨its,rv,p,hz⟩:=I.tuple hq
  have hl:=rv.length
  obtain ⟨⟨old,he⟩,hit⟩:=st
  refine p6 (I.ok.hd hc) he hit p (by simp;omega) fun h' eb=>⟨rfl,I.turnedL (t':=s.toks) hf fun b o hb q=>eb b o (fun z=>hb (by simp [z])) q⟩
 self:=fun _ _ _ _ _ st h=>by
  obtain ⟨⟨old,he⟩,_⟩:=st
  exact wpAny_pyIter_enum he h
section
variable{X:Cx}
noncomputable def Uy(K:PySem.W.Frag)(ta:TA):TI:=fun σ H R=>ta σ H fun vs H1=>∃ a xs,vs=[.ref a]/\cZ K H1 a xs/\R (N8 K a) H1
theorem Pa{elts:List Expr}{kx:Nat}{px:Pos}{a:Expr}{ta:TA}{p pos:Pos}(hg:Gl X "enumerate")(hm:X.mg "enumerate"=none)(ha:PA X [a] ta)(hs:starEach [a] X.env=[(false,eval a X.env)]:=by rfl):PI X (.Tuple elts kx px) (.Call (.Name "enumerate" p) [a] [] pos) (Uy X.K ta):=by
 intro pins s σ H R I h
 refine Call_ (lM I hg hm PyProof.Rows.Boot.«enumerate» (PyProof.Rows.callWith_type1 (dg (ha pos pins s σ H _ I h) fun us s1 ⟨vs,H1,I1,r1,q1⟩=>?_) hs rfl))
 obtain ⟨l,xs,e,hq,q⟩:=q1
 subst e
 cases r1 with
 | cons r rr =>
  cases rr
  cases r
  obtain ⟨its,rv,pl,hz⟩:=I1.tuple hq
  refine qT pl fun h' he hit hsz hk=>?_
  refine wpAny_pyIter_enum he ?_
  have I2:bj X pins σ H1 { s1 with heap:=h' }:=I1.kept (t':=s1.toks) hk
  have fr:∀ b,s1.heap.objs.size<=b->H1 b=none:=fun b hb=>I1.hok.fresh hb
  refine ⟨s1.heap.objs.size+1,[s1.heap.objs.size+1,s1.heap.objs.size],_,_,H1,rfl,I2,HY l _ _ (Nat.ne_of_gt (Nat.lt_succ_self _)),⟨⟨_,he⟩,hit⟩,fun b hb=>?_,q⟩
  have hb':s1.heap.objs.size<=b:=by
   rcases List.mem_cons.mp hb with z | z
   .rw [z];exact Nat.le_succ _
   .have:b=s1.heap.objs.size:=by simpa using z
    rw [this];exact Nat.le_refl _
  exact I1.fpOk hb' (fr b hb')
end
theorem M7{K:PySem.W.Frag}{a:Addr}{xs:List V}{g:TG}{tb:TS}{D:ji}{σ:L2.St}{H:Hp}(Pv:Nat->L2.St->Hp->Prop)(h0:Pv 0 σ H)(hl:∀ i σ H,i<=xs.length->Pv i σ H->cZ K H a xs)
  (hs:∀ i x σ H T,xs[i]?=some x->H T=none->Pv i σ H->g (.ref T) σ (bQ H T (.tup [.int (i:Nat),x])) fun σ2 H2=>tb { D with nx:=Pv (i+1),ct:=Pv (i+1),bk:=D.nx } σ2 H2) (hd:∀ σ H,Pv xs.length σ H->D.nx σ H) :
  ∃ W:Nat->Nat->L2.St->Hp->Prop,(∃ m,W 0 m σ H)/\∀ i m σ H,W i m σ H ->
   ((N8 K a).stop i H/\D.nx σ H)\/((N8 K a).go i H/\∃ N:L2.St->Hp->Prop,(∀ σ' H',N σ' H'->∃ m',m'<m/\W (i+1) m' σ' H')/\∀ x H',(N8 K a).yld i H x H'->g x σ H' fun σ2 H2=>tb { D with nx:=N,ct:=N,bk:=D.nx } σ2 H2):=by
 refine ⟨fun i m σ H=>m=xs.length - i/\i<=xs.length/\Pv i σ H,⟨xs.length,by simp,Nat.zero_le _,h0⟩,?_⟩
 rintro i m σ H ⟨rfl,hi,p⟩
 have q:=hl i σ H hi p
 by_cases hlt:i<xs.length
 .refine .inr ⟨⟨xs,xs[i],q,by simp [hlt]⟩,Pv (i+1),fun σ' H' p'=>⟨xs.length - (i+1),by omega,rfl,hlt,p'⟩,fun x H' y=>?_⟩
  obtain ⟨T,x',hT,rfl,rfl,hx⟩:=y
  exact hs i x' σ H T (hx xs q) hT p
 .have e:i=xs.length:=by omega
  subst e
  exact .inl ⟨⟨xs,q,Nat.le_refl _⟩,hd σ H p⟩
open PySem.W (codeHdIn kla_obj kla_fn CodeHd tabObj kla_makeFunction kla_makeFunctionHit kla_eval kla_callFunE kla_codeExpr)
noncomputable def Wr(c:Addr)(q:Str):HO:=.ext fun h=>h.CodeRec (.ref c) q
noncomputable def jb(H:Hp)(P:Addr)(pos:Pos)(q:Str):Prop :=
 H P=some (.tbl #[])\/∃ c,H P=some (.tbl #[rawInt pos.line,rawInt pos.col,.ref c])/\H c=some (Wr c q)
structure fY(H H':Hp):Prop where
 o:∀ b o,(∀ ps,o≠.tbl ps)->H b=some o->H' b=some o
 t:∀ b ps,H b=some (.tbl ps)->∃ ps',H' b=some (.tbl ps')
theorem fY.refl:fY H H:=⟨fun _ _ _ e=>e,fun _ ps e=>⟨ps,e⟩⟩
theorem fY.trans(a:fY H H1)(b:fY H1 H2):fY H H2:=⟨fun c o n e=>b.o c o n (a.o c o n e),fun c ps e=>let ⟨ps',e'⟩:=a.t c ps e;b.t c ps' e'⟩
theorem aR.t(a:aR H H'):fY H H':=⟨fun b o _ e=>a b o e,fun b ps e=>⟨ps,a b _ e⟩⟩
theorem fY.lst(a:fY H H')(e:H b=some (.lst xs)):H' b=some (.lst xs):=a.o b _ (fun _ z=>nomatch z) e
theorem fY.tup(a:fY H H')(e:H b=some (.tup xs)):H' b=some (.tup xs):=a.o b _ (fun _ z=>nomatch z) e
theorem fY.ins(a:fY H H')(e:H b=some (.ins C dx fs)):H' b=some (.ins C dx fs):=a.o b _ (fun _ z=>nomatch z) e
theorem fY.dK(a:fY H H')(e:H b=some (.dK kvs)):H' b=some (.dK kvs):=a.o b _ (fun _ z=>nomatch z) e
theorem fY.none(a:fY H H')(e:H' b=none):H b=none:=by
 cases h:H b with
 | none=>rfl
 | some o =>
  exfalso
  by_cases z:∃ ps,o=.tbl ps
  .obtain ⟨ps,rfl⟩:=z
   obtain ⟨ps',e'⟩:=a.t _ _ h
   rw [e'] at e;cases e
  .rw [a.o _ _ (fun ps e=>z ⟨ps,e⟩) h] at e;cases e
theorem fY.seqL{K:PySem.W.Frag}{H H':Hp}{a:Addr}{xs:List V}(t:fY H H')(h:c7 K H a xs):c7 K H' a xs:=by
 rcases h with (h | ⟨o,h⟩) | h
 .exact .inl (.inl (t.o _ _ (fun _ z=>nomatch z) h))
 .exact .inl (.inr ⟨o,t.o _ _ (fun _ z=>nomatch z) h⟩)
 .exact .inr h
theorem aR.tab(a:aR H H')(t:jb H P pos q):jb H' P pos q:=by
 rcases t with t | ⟨c,t1,t2⟩
 .exact .inl (a _ _ t)
 .exact .inr ⟨c,a _ _ t1,a _ _ t2⟩
noncomputable def zm(mg:Str->Option Value)(base:Heap):Prop:=∃ bm ob,mg "__builtins__"=some (.ref bm)/\bm≠builtinsNs/\base.get? bm=some ob/\ob.cls=.type "module"/\ob.dict=some builtinsNs/\ob.data=.plain
section
variable{X:Cx}{pins:List (Addr × Obj)}{σ:St}{H:Hp}{s:Shared}
theorem zm.at(b:zm X.mg X.base)(I:bj X pins σ H s)(hP:H P=some (.tbl ps)):s.heap.BuiltinsAt X.mg P:=by
 obtain ⟨bm,ob,b1,b2,b3,b4,b5,b6⟩:=b
 refine ⟨bm,ob,b1,b2,fun q=>?_,fun q=>?_,I.bk _ _ b3,b4,b5,b6⟩
 .obtain ⟨o,es,ep,e1,hd,_⟩:=I.mod.glob
  rw [q,e1] at b3;cases b3;rw [hd] at b6;cases b6
 .have:=(I.bs _ _ b3).2
  rw [q,hP] at this;cases this
theorem Xv(r:h.CodeRec (.ref c) q):dW P w H' h c (Wr c q):=by
 obtain ⟨c2,o,vs,t,e,g,d⟩:=id r
 cases e
 refine ⟨r,⟨o,g⟩,fun h1 h2 r1 k=>?_⟩
 obtain ⟨c3,o3,vs3,t3,e3,g3,d3⟩:=r1
 cases e3
 exact ⟨_,o3,vs3,t3,rfl,k _ g3,d3⟩
theorem Oe(I:bj X pins σ H s)(hdef:defaultsOf params X.env=([],[]))(hcl:closureFor scope X.env=pure [])(hcode:X.env.code=.ref c)
  (hC:codeHdIn X.K c P=true) (hb:zm X.mg X.base) (hq:X.env.qual++"<lambda>"=q) (hT:jb H P pos q)
  (h:∀ f c' ctv s' H',fY H H'->jb H' P pos q->bj X ((f,kla_obj "<lambda>" q params body scope [] ((X.mg "__name__").getD .none) c' ctv)::pins) σ H' s'->s'.heap.CodeRec (.ref c') q->Q (.ref f) s') :
  wpAny (model X.prog X.w) X.A (eval (.Lambda params body scope pos) X.env) Q X.xe s:=by
 subst hq
 refine kla_eval hdef ?_
 have C:=PySem.W.codeHd_of_K I.kIn hC
 have hg:=I.mod.glob.keeps I.bk
 rcases id hT with hP | ⟨c',hP,hc'⟩
 .have eP:s.heap.get? P=some (tabObj #[]):=I.hok P _ hP
  refine kla_makeFunction (mg:=X.mg) hcl I.ok.glob hg hcode C eP trivial rfl (fun z=>?_) (hb.at I hP) fun c' ctv h' tk hx hge hlt hrec htb=>?_
  .obtain ⟨o,es,ep,e1,hd,_⟩:=I.mod.glob
   have:=(I.bs _ _ e1).2
   rw [z,hP] at this;cases this
  have nc:H c'=none:=I.hok.fresh hge
  have pc:P≠c':=aO hP nc
  have sz:s.heap.objs.size<=h'.objs.size:=Nat.le_trans hge (Nat.le_of_lt hlt)
  have htb':h'.get? P=some (tabObj #[rawInt pos.line,rawInt pos.col,.ref c']):=htb
  generalize hfo:kla_obj "<lambda>" (X.env.qual++"<lambda>") params body scope [] ((X.mg "__name__").getD .none) c' ctv=fo
  have k2:∀ b o,b≠P->s.heap.get? b=some o->(h'.push fo).get? b=some o:=fun b o n e=>Heap.get?_push_of_some _ (hx b o n e)
  have nP:∀ b,H b=none->b≠P:=fun b n z=>by rw [z,hP] at n;cases n
  have kP:∀ b u,H b=some u->(∀ ps,u≠.tbl ps)->b≠P:=fun b u e n z=>by rw [z,hP] at e;cases e;exact n _ rfl
  have up:∀ b u,H b=some u->(∀ ps,u≠.tbl ps)->bQ (bQ H P (.tbl #[rawInt pos.line,rawInt pos.col,.ref c'])) c' (Wr c' (X.env.qual++"<lambda>")) b=some u:=fun b u e n=>by
   rw [aA (aO e nc),aA (kP b u e n)];exact e
  have J:bj X pins σ (bQ (bQ H P (.tbl #[rawInt pos.line,rawInt pos.col,.ref c'])) c' (Wr c' (X.env.qual++"<lambda>"))) { s with heap:=h'.push fo,toks:=tk }:=by
   refine I.step (g':=s.gens) (d':=s.drawn) (ch:=[]) (fun _ z=>nomatch z) (fun b o _ _ _ e n=>k2 b o (nP b n) e) (fun b o _ _ _ e n=>⟨o.slots,k2 b o (nP b n) e⟩) (fun b o _ e n=>?_)
    (fun b o _ e=>?_) (fun b xs e=>up b _ e fun _ z=>nomatch z) (fun b o u e=>up b _ e fun _ z=>nomatch z) (fun b ps e=>?_) (fun m hm=>?_) (fun b u e=>?_) I.bare
   .rw [aA (Nat.ne_of_lt (Nat.lt_of_lt_of_le (Heap.lt_size e) hge)),aA (nP b n)]
    exact n
   .by_cases z:b=P
    .subst z;exact ⟨_,Heap.get?_push_of_some _ htb'⟩
    .exact ⟨o,k2 b o z e⟩
   .by_cases z:b=P
    .subst z
     rw [hP] at e;cases e
     exact ⟨#[rawInt pos.line,rawInt pos.col,.ref c'],by rw [aA pc,aj];simp⟩
    .exact ⟨#[],by rw [aA (aO e nc),aA z,e];simp⟩
   .obtain ⟨o,es,ep,ho,r⟩:=hm
    exact ⟨o,es,ep,k2 _ o (nP _ I.free) ho,r⟩
   .by_cases z:b=c'
    .subst z
     rw [aj] at e;cases e
     exact Xv (hrec.push _)
    .rw [aA z] at e
     by_cases z2:b=P
     .subst z2
      rw [aj] at e;cases e
      exact Heap.get?_push_of_some _ htb'
     .rw [aA z2] at e
      refine (I.hok b u e).stay (fun d v hd q=>k2 d v ?_ q) (fun d q=>up d _ q fun _ z=>nomatch z) fun d xs q=>up d _ q fun _ z=>nomatch z
      rcases hd with rfl | hd
      .exact z2
      .exact kP d _ hd fun _ z=>nomatch z
  have sT:fY H (bQ (bQ H P (.tbl #[rawInt pos.line,rawInt pos.col,.ref c'])) c' (Wr c' (X.env.qual++"<lambda>"))):=⟨fun b o n e=>up b o e n,fun b ps e=>by
   by_cases z:b=P
   .subst z;exact ⟨_,by rw [aA pc,aj]⟩
   .exact ⟨ps,by rw [aA (aO e nc),aA z];exact e⟩⟩
  refine h h'.objs.size c' ctv _ _ sT (.inr ⟨c',by rw [aA pc,aj],aj⟩) (J.pins_of fun p hp=>?_) (hrec.push _)
  rcases List.mem_cons.mp hp with rfl | hp
  .refine ⟨by rw [<- hfo];exact Heap.get?_push_size _ rfl,?_,Nat.ne_of_gt (Nat.lt_of_lt_of_le I.lt sz),I.nofs sz,fun v z=>nomatch z⟩
   show bQ (bQ H P _) c' _ h'.objs.size=none
   rw [aA (Nat.ne_of_gt hlt),aA (Nat.ne_of_gt (Heap.lt_size htb'))]
   exact I.hok.fresh sz
  .exact J.pin p (List.mem_append_right _ hp)
 .have eP:s.heap.get? P=some (tabObj #[rawInt pos.line,rawInt pos.col,.ref c']):=I.hok P _ hP
  have rec0:s.heap.CodeRec (.ref c') (X.env.qual++"<lambda>"):=(show dW X.prog X.w H s.heap c' (Wr c' _) from I.hok c' _ hc').1
  refine kla_makeFunctionHit (mg:=X.mg) (cv:=.ref c') hcl I.ok.glob hg hcode C eP trivial (codeAmong_snoc (c:=.ref c') [] trivial rfl) (hb.at I hP) fun ctv h' tk hk sz=>?_
  generalize hfo:({ cls:=.type "function",data:=.func (kla_fn "<lambda>" (X.env.qual++"<lambda>") params body scope [] ((X.mg "__name__").getD .none) (.ref c') ctv) }:Obj)=fo
  have k2:∀ b o,s.heap.get? b=some o->(h'.push fo).get? b=some o:=fun b o e=>Heap.get?_push_of_some _ (hk b o e)
  have J:bj X pins σ H { s with heap:=h'.push fo,toks:=tk }:=I.kept k2
  refine h h'.objs.size c' ctv _ H fY.refl hT (J.pins_of fun p hp=>?_) (rec0.keeps k2)
  rcases List.mem_cons.mp hp with rfl | hp
  .exact ⟨by rw [<- hfo];exact Heap.get?_push_size _ rfl,I.hok.fresh sz,Nat.ne_of_gt (Nat.lt_of_lt_of_le I.lt sz),I.nofs sz,fun v z=>nomatch z⟩
  .exact J.pin p (List.mem_append_right _ hp)
end
theorem yz.keeps(O:yz h x dx C mA)(k:∀ b o,h.get? b=some o->h'.get? b=some o):yz h' x dx C mA:=by
 obtain ⟨ob,⟨od,es,ep,e,c⟩,ne⟩:=O
 exact ⟨k _ _ ob,⟨od,es,ep,k _ _ e,c⟩,ne⟩
section
variable{prog:Program}{w:World}{A:Around}{E:Value->Shared->Prop}{s:Shared}{K:PySem.W.Frag}
theorem Rg
  (hroom:A.depth<recursionLimit) (ho:s.heap.get? f=some (kla_obj "<lambda>" q params (.Attribute (.Name x p1) attr p2) scope [] pm c' ctv)) (hrec:s.heap.CodeRec (.ref c') q)
  (hk:scope.kind=.function) (hco:scope.isCoroutine=false) (hgen:scope.isGenerator=false) (hcell:∀ y∈scope.names,y.2≠.cell) (hloc:scope.names.lookup x=some .local) (hx:(x == ("__debug__":Str))=false)
  (hbind:∀ u,bindArgs (kla_fn "<lambda>" q params (.Attribute (.Name x p1) attr p2) scope [] pm (.ref c') ctv) ⟨[u],[]⟩=pure [(x,u)])
  (kin:K.In s.heap) (lim:s.heap.NoLimit) (O:yz s.heap p dx C mA) (hg:PySem.W.plainGet K C attr=true) (hd:PySem.W.hasDictIn K C=true) (ha:PySem.W.findIn K (.ref C) attr=some none) (hv:mA attr=some v) (hh:PySem.W.handedIn v=true)
  (h:∀ h' tk,(∀ b o,s.heap.get? b=some o->h'.get? b=some o)->Q v { s with heap:=h',toks:=tk }) :
  wpAny (model prog w) A (call (.ref f) [.ref p]) Q E s:=by
 refine wpAny_call (kla_callFunE hroom ho rfl hco hgen rfl hrec ?_)
 rw [hbind]
 refine wpAny_pure (wpAny_newFunctionEnv hcell (fun y hy=>?_) (fun h₁ hns hsb=>⟨lim.fresh _ hsb,?_⟩) hk)
 .rw [List.mem_singleton.mp hy];exact hloc
 have hk₁:∀ b o,s.heap.get? b=some o->h₁.get? b=some o:=fun b o e=>hsb.extBut b o (Nat.ne_of_lt (Heap.lt_size e)) (Heap.get?_push_of_some _ e)
 refine kla_codeExpr ?_
 refine J4 rfl ?_
 refine wpAny_Name ?_ hx
 refine wpAny_loadName_local (v:=.ref p) hk hloc hns (by simp) ?_
 exact K7 (kin.keeps hk₁) (O.keeps hk₁) hg hd ha hv hh (h _ _ hk₁)
theorem Nt(a f:Value):argsOk "max" ⟨[a],[(Str.ofString "key",f),(Str.ofString "default",.none)]⟩:=by unfold argsOk;kernel_rfl
noncomputable def Ks(prog:Program)(w:World)(A:Around)(s:Shared)(f:Addr)(vs:List Value)(kf:Nat->Int):Prop :=
 ∀ (i:Nat) (v:Value),vs[i]?=some v->∀ (h:Heap) (tk:Nat) (Q:Value->Shared->Prop),(∀ b o,s.heap.get? b=some o->h.get? b=some o) ->
  (∀ h' tk' t,(∀ b o,h.get? b=some o->h'.get? b=some o)->Q (.int (kf i) t) { s with heap:=h',toks:=tk' })->wpAny (model prog w) A (call (.ref f) [v]) Q (fun _ _=>False) { s with heap:=h,toks:=tk }
theorem Nf(hh:A.handled=none)(hl:s.heap.IsList l vs.toArray)(hI:s.heap.objs.size<=I)(hS:s.heap.objs.size<=S)(hSI:S≠I)
  (turn:Ks prog w A.in1 s f vs kf)
  (hR:∀ i v h' tk',vs[i]?=some v->(∀ j,j<vs.length->kf j<=kf i)->(∀ b o,s.heap.get? b=some o->h'.get? b=some o)->R (.ok (.ret v)) { s with heap:=h',toks:=tk' }) :
  ∀ (r j i:Nat) (h:Heap) (tk:Nat) (vb:Value) (tb:Tok) (c:Nat),vs.length - (j+1)=r->j+1<=vs.length->(∀ b o,s.heap.get? b=some o->h.get? b=some o) ->
   h.get? S=some (seqObj "list" #[vb,.int (kf i) tb] c)->h.IsListIter I l (j+1)->vs[i]?=some vb->(∀ j',j'<=j->kf j'<=kf i) ->
   codeAny (model prog w) A (.builtin "max.loop" ⟨[.ref I,.ref f,.ref S],[(Str.ofString "default",.none)]⟩) R { s with heap:=h,toks:=tk }:=by
 have hname:(toString "max"++toString ".loop":String)="max.loop":=by decide
 have hll:l<s.heap.objs.size:=by obtain ⟨ol,hol,_⟩:=id hl;exact Heap.lt_size hol
 have W:=Walks.list (prog:=prog) (w:=w) (A:=A.in1) hh I l (Nat.ne_of_lt (Nat.lt_of_lt_of_le hll hI)) vs.toArray
 have hsz:vs.toArray.size=vs.length:=List.size_toArray ..
 have out:∀ {h h':Heap} {ch:List Addr},(∀ b o,s.heap.get? b=some o->h.get? b=some o)->(∀ b∈ch,s.heap.objs.size<=b)->(∀ b o,b∉ch->h.get? b=some o->h'.get? b=some o)->∀ b o,s.heap.get? b=some o->h'.get? b=some o :=
  fun k hc k' b o e=>k' b o (fun hb=>absurd (Nat.lt_of_lt_of_le (Heap.lt_size e) (hc b hb)) (Nat.lt_irrefl _)) (k b o e)
 intro r
 induction r with
 | zero =>
  intro j i h tk vb tb c hr hj k hSo hit hvb hbest
  have hin:j+1=vs.length:=by omega
  refine codeAny_builtin PySem.F.entry_max_loop ?_
  rw [Around.under_plainId PySem.F.plain_max_loop _]
  show wpAny _ A.in1 (seqItems? (.ref S) >>= _) _ _ _
  refine wpAny_bind (wpAny_seqItems hSo rfl ?_)
  show wpAny _ A.in1 (tryCatch (pyNext (.ref I)) _ >>= _) _ _ _
  refine wpAny_bind (wpAny_tryCatch (W.done _ _ _ ⟨by rw [hsz,<- hin];exact hit,Heap.IsList.at hl fun o e=>k _ o e⟩ fun h' tk' hk'=>?_))
  have k1:=out k (fun b hb=>by rw [List.mem_singleton.mp hb];exact hI) hk'
  have hS':=hk' S _ (by simpa using hSI) hSo
  have s1:=Heap.SameBut.update h' S (Obj.mapSeq fun _=>(#[]:Array Value))
  show wpAny _ A.in1 (updateSeq S (fun _=>#[]) >>= _) _ _ _
  refine wpAny_bind ?_
  refine wpAny_updateSeq hS' rfl (wpAny_bind (wpAny_letGo (wpAny_pure ?_)))
  exact hR i vb _ _ hvb (fun j' hj'=>hbest j' (by omega)) (out (ch:=[S]) k1 (fun b hb=>by rw [List.mem_singleton.mp hb];exact hS) fun b o hb e=>(s1.2 b (by simpa using hb)).trans e)
 | succ r ih =>
  intro j i h tk vb tb c hr hj k hSo hit hvb hbest
  have hlt:j+1<vs.length:=by omega
  refine codeAny_builtin PySem.F.entry_max_loop ?_
  rw [Around.under_plainId PySem.F.plain_max_loop _]
  show wpAny _ A.in1 (seqItems? (.ref S) >>= _) _ _ _
  refine wpAny_bind (wpAny_seqItems hSo rfl ?_)
  show wpAny _ A.in1 (tryCatch (pyNext (.ref I)) _ >>= _) _ _ _
  refine wpAny_bind (wpAny_tryCatch (W.item (j+1) _ _ _ (by rw [hsz];exact hlt) ⟨hit,Heap.IsList.at hl fun o e=>k _ o e⟩ fun v h' tk' hP hst' hk'=>?_))
  have hv:vs[j+1]?=some v:=by simpa using hP
  have k1:=out k (fun b hb=>by rw [List.mem_singleton.mp hb];exact hI) hk'
  have hS':=hk' S _ (by simpa using hSI) hSo
  obtain ⟨oI',hoI',hoc,hod⟩:=id hst'.1
  show wpAny _ A.in1 (tryCatch (holding [v] (call (.ref f) [v])) _ >>= _) _ _ _
  refine wpAny_bind (wpAny_tryCatch (wpAny_holding (wpAny_mono (turn (j+1) v hv h' tk' (fun u s2=>∃ h2 tk2 t2,u=.int (kf (j+1)) t2/\s2={ s with heap:=h2,toks:=tk2 }/\∀ b o,h'.get? b=some o->h2.get? b=some o) k1 fun h2 tk2 t2 k2=>⟨h2,tk2,t2,rfl,rfl,k2⟩) (fun x s'' he=>?_) fun _ _ hF=>hF.elim)))
  obtain ⟨h2,tk2,t2,rfl,rfl,k2⟩:=he
  have nS2:=k2 _ _ hS'
  have hit2:h2.IsListIter I l (j+1+1):=⟨oI',k2 _ _ hoI',hoc,hod⟩
  have kk:∀ b o,s.heap.get? b=some o->h2.get? b=some o:=fun b o e=>k2 b o (k1 b o e)
  show wpAny _ A.in1 (tryCatch (holding [v,.int (kf (j+1)) t2] (richCompare .Gt (.int (kf (j+1)) t2) (.int (kf i) tb) >>= _)) _ >>= _) _ _ _
  refine wpAny_bind (wpAny_tryCatch (wpAny_holding (wpAny_bind (CmpOf.ints_gt (prog:=prog) (w:=w) (A:=A.in1) (P:=fun i v=>∃ t,v=.int (kf i) t) kf (fun i v h=>h) (j+1) i _ _ _ _ _ ⟨t2,rfl⟩ ⟨tb,rfl⟩ ?_))))
  refine wpAny_bind (wpAny_holding (wpAny_truthy_bool ?_))
  refine wpAny_bind (wpAny_letGo (wpAny_pure ?_))
  by_cases hb':kf (j+1) > kf i
  .have s1:=Heap.SameBut.update h2 S (Obj.mapSeq fun _=>#[v,.int (kf (j+1)) t2])
   obtain ⟨c2,hc2⟩:∃ c2,(h2.update S (Obj.mapSeq fun _=>#[v,.int (kf (j+1)) t2])).get? S=some (seqObj "list" #[v,.int (kf (j+1)) t2] c2):=⟨_,get?_update_seq nS2 fun _=>#[v,.int (kf (j+1)) t2]⟩
   simp only [hb',decide_true,if_true]
   refine wpAny_bind ?_
   refine wpAny_updateSeq nS2 rfl (wpAny_bind (wpAny_letGo ?_))
   rw [hname]
   refine wpAny_pure ⟨plainId_quiet PySem.F.plain_max_loop _,ih (j+1) (j+1) _ _ v t2 c2 (by omega) hlt (out (ch:=[S]) kk (fun b hb=>by rw [List.mem_singleton.mp hb];exact hS) fun b o hb e=>(s1.2 b (by simpa using hb)).trans e) hc2 ⟨oI',(s1.2 I hSI.symm).trans (k2 _ _ hoI'),hoc,hod⟩ hv fun j' hj'=>?_⟩
   by_cases e:j'=j+1
   .subst e;omega
   .have:=hbest j' (by omega)
    omega
  .simp only [hb',decide_false,Bool.false_eq_true,if_false]
   refine wpAny_bind (wpAny_letGo ?_)
   rw [hname]
   refine wpAny_pure ⟨plainId_quiet PySem.F.plain_max_loop _,ih (j+1) i _ _ vb tb c (by omega) hlt kk nS2 hit2 hvb fun j' hj'=>?_⟩
   by_cases e:j'=j+1
   .subst e;omega
   .exact hbest j' (by omega)
theorem Mj(hh:A.handled=none)(hl:s.heap.IsList l vs.toArray)(turn:Ks prog w A.in1 s f vs kf)
  (h0:vs=[]->∀ h' tk',(∀ b o,s.heap.get? b=some o->h'.get? b=some o)->Q .none { s with heap:=h',toks:=tk' })
  (hQ:∀ i v h' tk',vs[i]?=some v->(∀ j,j<vs.length->kf j<=kf i)->(∀ b o,s.heap.get? b=some o->h'.get? b=some o)->Q v { s with heap:=h',toks:=tk' }) :
  wpAny (model prog w) A (call (.builtin "max") [.ref l] [(Str.ofString "key",.ref f),(Str.ofString "default",.none)]) Q E s:=by
 have hname:(toString "max"++toString ".loop":String)="max.loop":=by decide
 have hll:l<s.heap.objs.size:=by obtain ⟨ol,hol,_⟩:=id hl;exact Heap.lt_size hol
 refine kmk_tree PySem.F.kind_max PySem.F.plain_max PySem.F.entry_max (Nt _ _) ?_
 show wpAny _ A.in1 (Builtin.Builtins.bindParams "max" ["key","default"] 0 ⟨[],[(Str.ofString "key",.ref f),(Str.ofString "default",.none)]⟩ >>= _) _ _ s
 refine wpAny_bind (wpAny_of_eq (show Builtin.Builtins.bindParams "max" ["key","default"] 0 ⟨[],[(Str.ofString "key",.ref f),(Str.ofString "default",.none)]⟩=pure [some (.ref f),some .none] from rfl) ?_)
 refine wpAny_bind (wpAny_pure ?_)
 refine wpAny_bind (wpAny_pyIter_list hl ?_)
 refine wpAny_bind (wpAny_newList ?_ (Nat.zero_le _))
 rw [hname]
 generalize hoI:({ cls:=.type "list_iterator",data:=.fields #[.ref l,.int 0 0] }:Obj)=oI
 have hSz:(s.heap.push oI).objs.size=s.heap.objs.size+1:=size_push' ..
 have hSI:(s.heap.push oI).objs.size≠s.heap.objs.size:=by rw [hSz];exact Nat.ne_of_gt (Nat.lt_succ_self _)
 have hSl:s.heap.objs.size<=(s.heap.push oI).objs.size:=by rw [hSz];exact Nat.le_succ _
 refine wpAny_pure ⟨plainId_quiet PySem.F.plain_max_loop _,?_⟩
 have k:∀ b o,s.heap.get? b=some o->((s.heap.push oI).push (seqObj "list" #[] 0)).get? b=some o:=fun b o e=>Heap.get?_push_of_some _ (Heap.get?_push_of_some _ e)
 have gI:((s.heap.push oI).push (seqObj "list" #[] 0)).get? s.heap.objs.size=some oI:=Heap.get?_push_of_some _ (Heap.get?_push_size _ (by rw [<- hoI];rfl))
 have gS:((s.heap.push oI).push (seqObj "list" #[] 0)).get? (s.heap.push oI).objs.size=some (seqObj "list" #[] 0):=Heap.get?_push_size _ rfl
 have hit:((s.heap.push oI).push (seqObj "list" #[] 0)).IsListIter s.heap.objs.size l 0:=⟨_,gI,by rw [<- hoI],by rw [<- hoI];rfl⟩
 have W:=Walks.list (prog:=prog) (w:=w) (A:=A.in1) hh s.heap.objs.size l (Nat.ne_of_lt hll) vs.toArray
 have hsz:vs.toArray.size=vs.length:=List.size_toArray ..
 have out:∀ {h h':Heap} {ch:List Addr},(∀ b o,s.heap.get? b=some o->h.get? b=some o)->(∀ b∈ch,s.heap.objs.size<=b)->(∀ b o,b∉ch->h.get? b=some o->h'.get? b=some o)->∀ b o,s.heap.get? b=some o->h'.get? b=some o :=
  fun k hc k' b o e=>k' b o (fun hb=>absurd (Nat.lt_of_lt_of_le (Heap.lt_size e) (hc b hb)) (Nat.lt_irrefl _)) (k b o e)
 refine codeAny_builtin PySem.F.entry_max_loop ?_
 rw [Around.under_plainId PySem.F.plain_max_loop _]
 show wpAny _ A.in1 (seqItems? (.ref _) >>= _) _ _ _
 refine wpAny_bind (wpAny_seqItems gS rfl ?_)
 show wpAny _ A.in1 (tryCatch (pyNext (.ref s.heap.objs.size)) _ >>= _) _ _ _
 by_cases hne:0<vs.length
 .refine wpAny_bind (wpAny_tryCatch (W.item 0 _ _ _ (by rw [hsz];exact hne) ⟨hit,Heap.IsList.at hl fun o e=>k _ o e⟩ fun v h' tk' hP hst' hk'=>?_))
  have hv:vs[0]?=some v:=by simpa using hP
  have k1:=out k (fun b hb=>by rw [List.mem_singleton.mp hb];exact Nat.le_refl _) hk'
  have hS':=hk' _ _ (by simpa using hSI) gS
  obtain ⟨oI',hoI',hoc,hod⟩:=id hst'.1
  show wpAny _ A.in1 (tryCatch (holding [v] (call (.ref f) [v])) _ >>= _) _ _ _
  refine wpAny_bind (wpAny_tryCatch (wpAny_holding (wpAny_mono (turn 0 v hv h' tk' (fun u s2=>∃ h2 tk2 t2,u=.int (kf 0) t2/\s2={ s with heap:=h2,toks:=tk2 }/\∀ b o,h'.get? b=some o->h2.get? b=some o) k1 fun h2 tk2 t2 k2=>⟨h2,tk2,t2,rfl,rfl,k2⟩) (fun x s'' he=>?_) fun _ _ hF=>hF.elim)))
  obtain ⟨h2,tk2,t2,rfl,rfl,k2⟩:=he
  have nS2:=k2 _ _ hS'
  have kk:∀ b o,s.heap.get? b=some o->h2.get? b=some o:=fun b o e=>k2 b o (k1 b o e)
  have s1:=Heap.SameBut.update h2 (s.heap.push oI).objs.size (Obj.mapSeq fun _=>#[v,.int (kf 0) t2])
  obtain ⟨c2,hc2⟩:∃ c2,(h2.update (s.heap.push oI).objs.size (Obj.mapSeq fun _=>#[v,.int (kf 0) t2])).get? (s.heap.push oI).objs.size=some (seqObj "list" #[v,.int (kf 0) t2] c2):=⟨_,get?_update_seq nS2 fun _=>#[v,.int (kf 0) t2]⟩
  show wpAny _ A.in1 (updateSeq (s.heap.push oI).objs.size (fun _=>#[v,.int (kf 0) t2]) >>= _) _ _ _
  refine wpAny_bind ?_
  refine wpAny_updateSeq nS2 rfl ?_
  rw [hname]
  refine wpAny_pure ⟨plainId_quiet PySem.F.plain_max_loop _,Nf hh hl (Nat.le_refl _) hSl hSI turn hQ _ 0 0 _ _ v t2 c2 rfl hne (out (ch:=[(s.heap.push oI).objs.size]) kk (fun b hb=>by rw [List.mem_singleton.mp hb];exact hSl) fun b o hb e=>(s1.2 b (by simpa using hb)).trans e) hc2 ⟨oI',(s1.2 _ hSI.symm).trans (k2 _ _ hoI'),hoc,hod⟩ hv fun j' hj'=>?_⟩
  rw [Nat.le_zero.mp hj']
  exact Int.le_refl _
 .have e0:vs=[]:=List.length_eq_zero_iff.mp (by omega)
  refine wpAny_bind (wpAny_tryCatch (W.done _ _ _ ⟨by rw [hsz,e0];exact hit,Heap.IsList.at hl fun o e=>k _ o e⟩ fun h' tk' hk'=>?_))
  have k1:=out k (fun b hb=>by rw [List.mem_singleton.mp hb];exact Nat.le_refl _) hk'
  exact wpAny_bind (wpAny_rule (wpAny_pure (h0 e0 _ _ k1)))
theorem Lz(hh:A.handled=none)(hl:s.heap.IsList l #[v])
  (hQ:∀ h' tk',(∀ b o,s.heap.get? b=some o->h'.get? b=some o)->Q v { s with heap:=h',toks:=tk' }) :
  wpAny (model prog w) A (call (.builtin "min") [.ref l]) Q E s:=by
 have hname:(toString "min"++toString ".loop":String)="min.loop":=by decide
 have hll:l<s.heap.objs.size:=by obtain ⟨ol,hol,_⟩:=id hl;exact Heap.lt_size hol
 refine call_function_tree F.kind_min F.plain_min F.entry_min (F.args_min1 _) ?_
 show wpAny _ A.in1 (Builtin.Builtins.bindParams "min" ["key","default"] 0 ⟨[],[]⟩ >>= _) _ _ s
 refine wpAny_bind (wpAny_of_eq (show Builtin.Builtins.bindParams "min" ["key","default"] 0 ⟨[],[]⟩=pure [none,none] from rfl) ?_)
 refine wpAny_bind (wpAny_pure ?_)
 refine wpAny_bind (wpAny_pyIter_list hl ?_)
 refine wpAny_bind (wpAny_newList ?_ (Nat.zero_le _))
 rw [hname]
 generalize hoI:({ cls:=.type "list_iterator",data:=.fields #[.ref l,.int 0 0] }:Obj)=oI
 have hSz:(s.heap.push oI).objs.size=s.heap.objs.size+1:=size_push' ..
 have hSI:(s.heap.push oI).objs.size≠s.heap.objs.size:=by rw [hSz];exact Nat.ne_of_gt (Nat.lt_succ_self _)
 have hSl:s.heap.objs.size<=(s.heap.push oI).objs.size:=by rw [hSz];exact Nat.le_succ _
 refine wpAny_pure ⟨plainId_quiet PySem.F.plain_min_loop _,?_⟩
 have k:∀ b o,s.heap.get? b=some o->((s.heap.push oI).push (seqObj "list" #[] 0)).get? b=some o:=fun b o e=>Heap.get?_push_of_some _ (Heap.get?_push_of_some _ e)
 have gI:((s.heap.push oI).push (seqObj "list" #[] 0)).get? s.heap.objs.size=some oI:=Heap.get?_push_of_some _ (Heap.get?_push_size _ (by rw [<- hoI];rfl))
 have gS:((s.heap.push oI).push (seqObj "list" #[] 0)).get? (s.heap.push oI).objs.size=some (seqObj "list" #[] 0):=Heap.get?_push_size _ rfl
 have hit:((s.heap.push oI).push (seqObj "list" #[] 0)).IsListIter s.heap.objs.size l 0:=⟨_,gI,by rw [<- hoI],by rw [<- hoI];rfl⟩
 have W:=Walks.list (prog:=prog) (w:=w) (A:=A.in1) hh s.heap.objs.size l (Nat.ne_of_lt hll) #[v]
 have out:∀ {h h':Heap} {ch:List Addr},(∀ b o,s.heap.get? b=some o->h.get? b=some o)->(∀ b∈ch,s.heap.objs.size<=b)->(∀ b o,b∉ch->h.get? b=some o->h'.get? b=some o)->∀ b o,s.heap.get? b=some o->h'.get? b=some o :=
  fun k hc k' b o e=>k' b o (fun hb=>absurd (Nat.lt_of_lt_of_le (Heap.lt_size e) (hc b hb)) (Nat.lt_irrefl _)) (k b o e)
 refine codeAny_builtin PySem.F.entry_min_loop ?_
 rw [Around.under_plainId PySem.F.plain_min_loop _]
 show wpAny _ A.in1 (seqItems? (.ref _) >>= _) _ _ _
 refine wpAny_bind (wpAny_seqItems gS rfl ?_)
 show wpAny _ A.in1 (tryCatch (pyNext (.ref s.heap.objs.size)) _ >>= _) _ _ _
 refine wpAny_bind (wpAny_tryCatch (W.item 0 _ _ _ (by show 0<1;decide) ⟨hit,Heap.IsList.at hl fun o e=>k _ o e⟩ fun v' h' tk' hP hst' hk'=>?_))
 obtain rfl:v=v':=by simpa using hP
 have k1:=out k (fun b hb=>by rw [List.mem_singleton.mp hb];exact Nat.le_refl _) hk'
 have hS':=hk' _ _ (by simpa using hSI) gS
 obtain ⟨oI',hoI',hoc,hod⟩:=id hst'.1
 have s1:=Heap.SameBut.update h' (s.heap.push oI).objs.size (Obj.mapSeq fun _=>#[v,v])
 obtain ⟨c2,hc2⟩:∃ c2,(h'.update (s.heap.push oI).objs.size (Obj.mapSeq fun _=>#[v,v])).get? (s.heap.push oI).objs.size=some (seqObj "list" #[v,v] c2):=⟨_,get?_update_seq hS' fun _=>#[v,v]⟩
 have k2:=out (ch:=[(s.heap.push oI).objs.size]) k1 (fun b hb=>by rw [List.mem_singleton.mp hb];exact hSl) fun b o hb e=>(s1.2 b (by simpa using hb)).trans e
 show wpAny _ A.in1 (updateSeq (s.heap.push oI).objs.size (fun _=>#[v,v]) >>= _) _ _ _
 refine wpAny_bind ?_
 refine wpAny_updateSeq hS' rfl ?_
 rw [hname]
 refine wpAny_pure ⟨plainId_quiet PySem.F.plain_min_loop _,?_⟩
 refine codeAny_builtin PySem.F.entry_min_loop ?_
 rw [Around.under_plainId PySem.F.plain_min_loop _]
 show wpAny _ A.in1 (seqItems? (.ref _) >>= _) _ _ _
 refine wpAny_bind (wpAny_seqItems hc2 rfl ?_)
 show wpAny _ A.in1 (tryCatch (pyNext (.ref s.heap.objs.size)) _ >>= _) _ _ _
 refine wpAny_bind (wpAny_tryCatch (W.done _ _ _ ⟨⟨oI',(s1.2 _ hSI.symm).trans hoI',hoc,hod⟩,Heap.IsList.at hl fun o e=>k2 _ o e⟩ fun h3 tk3 hk3=>?_))
 have k3:=out k2 (fun b hb=>by rw [List.mem_singleton.mp hb];exact Nat.le_refl _) hk3
 have hS3:=hk3 _ _ (by simpa using hSI) hc2
 have s3:=Heap.SameBut.update h3 (s.heap.push oI).objs.size (Obj.mapSeq fun _=>(#[]:Array Value))
 show wpAny _ A.in1 (updateSeq (s.heap.push oI).objs.size (fun _=>#[]) >>= _) _ _ _
 refine wpAny_bind ?_
 refine wpAny_updateSeq hS3 rfl (wpAny_bind (wpAny_letGo (wpAny_pure ?_)))
 exact hQ _ _ (out (ch:=[(s.heap.push oI).objs.size]) k3 (fun b hb=>by rw [List.mem_singleton.mp hb];exact hSl) fun b o hb e=>(s3.2 b (by simpa using hb)).trans e)
end
section
variable{X:Cx}
theorem Fx(hc:X.calm=true):lW X (.builtin "min") (fun xs H Q=>∃ l v,xs=[.ref l]/\c7 X.K H l [v]/\Q v H):=by
 intro pins s σ H xs us Q I r h
 obtain ⟨l,v,rfl,hl,q⟩:=h
 obtain ⟨u,rfl,ru⟩:=lu r
 cases ru
 obtain ⟨its,rv,pl,_⟩:=I.list hl
 obtain ⟨u,rfl,ru⟩:=rv.one
 exact Lz (I.ok.hd hc) pl.isList fun h' tk' k=>⟨v,H,I.kept k,ru,q⟩
noncomputable def Xk(kf:Addr->Int)(hs:List Addr)(v:V):Prop:=(hs=[]/\v=.non)\/∃ p,p∈hs/\v=.ref p/\∀ p'∈hs,kf p'<=kf p
noncomputable def RV(K:PySem.W.Frag)(P:Addr)(pos:Pos)(q attr:Str)(ta:TA):TE:=fun σ H Q=>ta σ H fun vs H1=>∃ l hs kf,vs=[.ref l]/\c7 K H1 l (hs.map V.ref) /\
 (∀ p∈hs,∃ C dx fs,H1 p=some (.ins C dx fs)/\jQ K C/\dw K C attr/\fs.lookup attr=some (.int (kf p)))/\jb H1 P pos q/\∀ H2 v,fY H1 H2->jb H2 P pos q->Xk kf hs v->Q v H2
theorem Bj:∀ {hs:List Addr} {us:List Value},cI (hs.map V.ref) us->us=hs.map Value.ref
 | [],_,.nil=>rfl
 | h::hs,_,.cons r t=>by
  rw [show _=Value.ref h from r,Bj t]
  rfl
theorem Nx{e:Expr}{ta:TA}{params:Arguments}{scope:Scope}{x attr q:Str}{p1 p2 lp np pos kp1 kp2 cp:Pos}{j:Nat}{c P:Addr}(hc:X.calm=true)(hroom:X.A.in1.depth<recursionLimit)(hg:Gl X "max")(hm:X.mg "max"=none)(ha:PA X [e] ta)
  (hdef:defaultsOf params X.env=([],[])) (hcl:closureFor scope X.env=pure []) (hcode:X.env.code=.ref c) (hC:codeHdIn X.K c P=true) (hb:zm X.mg X.base) (hq:X.env.qual++"<lambda>"=q)
  (hk:scope.kind=.function) (hco:scope.isCoroutine=false) (hgen:scope.isGenerator=false) (hcell:∀ y∈scope.names,y.2≠.cell) (hloc:scope.names.lookup x=some .local) (hx:(x == ("__debug__":Str))=false)
  (hbind:∀ c' pm ctv u,bindArgs (kla_fn "<lambda>" q params (.Attribute (.Name x p1) attr p2) scope [] pm (.ref c') ctv) ⟨[u],[]⟩=pure [(x,u)])
  (hst:starEach [e] X.env=[(false,eval e X.env)]:=by rfl) :
  PE X (.Call (.Name "max" np) [e] [⟨some "key",.Lambda params (.Attribute (.Name x p1) attr p2) scope lp,kp1⟩,⟨some "default",.Constant .none j cp,kp2⟩] pos) (RV X.K P lp q attr ta):=by
 intro pins s σ H Q I h
 refine wpAny_Call_Name_kw (lM I hg hm (u:=.builtin "max") (by rfl) ?_)
 refine callWith_kw (dg (ha pos pins s σ H _ I h) fun us s1 ⟨vs,H1,I1,rv,l,hs,kf,ev,hl,hi,hT,q1⟩=>?_) (he:=by rw [hst];rfl) (hplain:=by rw [hst];rfl)
 subst ev
 obtain ⟨u,rfl,ru⟩:=lu rv
 cases ru
 refine kws_cons (Oe I1 hdef hcl hcode hC hb hq hT fun f c' ctv s2 H2 sT hT2 I2 hrec=>?_)
 refine kws_cons (Constant_none (kws_nil ?_))
 obtain ⟨its,rvs,pl,_⟩:=I2.list (sT.seqL hl)
 have e2:=Bj rvs
 subst e2
 have hf:=(I2.pin _ (List.mem_append_right _ (List.mem_cons_self ..))).1
 refine Mj (vs:=hs.map Value.ref) (kf:=fun i=>kf (hs.getD i 0)) (I2.ok.hd hc) pl.isList (fun i v hv h tk Q' k hQ'=>?_) (fun e0 h' tk' k=>?_) (fun i v h' tk' hv hb' k=>?_)
 .rw [List.getElem?_map] at hv
  cases e3:hs[i]? with
  | none=>rw [e3] at hv;cases hv
  | some p =>
   rw [e3] at hv
   cases hv
   obtain ⟨C,dx,fs,ep,cl,na,lk⟩:=hi p (List.mem_of_getElem? e3)
   obtain ⟨mA,O,r,_,_,_⟩:=uO I2.hok (sT.ins ep)
   obtain ⟨u,hu,t,rfl⟩:=oJ.some_of (v:=.int (kf p)) (o:=mA attr) (by rw [<- lk];exact r attr)
   have I3:bj X _ σ H2 { s2 with heap:=h,toks:=tk }:=I2.kept k
   have eg:hs.getD i 0=p:=by rw [List.getD_eq_getElem?_getD,e3];rfl
   refine Rg (s:={ s2 with heap:=h,toks:=tk }) (K:=X.K) hroom (k _ _ hf) (hrec.keeps k) hk hco hgen hcell hloc hx (hbind c' _ ctv) I3.kIn I3.nolimit (O.keeps k) (cl.get attr) cl.hd na hu rfl fun h' tk' k'=>?_
   show Q' (.int (kf p) t) _
   have:=hQ' h' tk' t k'
   dsimp only at this
   rw [eg] at this
   exact this
 .have e4:hs=[]:=List.map_eq_nil_iff.mp e0
  exact ⟨.non,H2,(I2.kept k).pins_of fun p hp=>(I2.kept k).pin p (List.mem_append_right _ (List.mem_cons_of_mem _ hp)),rfl,q1 H2 .non sT hT2 (.inl ⟨e4,rfl⟩)⟩
 .rw [List.getElem?_map] at hv
  cases e3:hs[i]? with
  | none=>rw [e3] at hv;cases hv
  | some p =>
   rw [e3] at hv
   cases hv
   have eg:hs.getD i 0=p:=by rw [List.getD_eq_getElem?_getD,e3];rfl
   refine ⟨.ref p,H2,(I2.kept k).pins_of fun p hp=>(I2.kept k).pin p (List.mem_append_right _ (List.mem_cons_of_mem _ hp)),rfl,q1 H2 (.ref p) sT hT2 (.inr ⟨p,List.mem_of_getElem? e3,rfl,fun p' hp'=>?_⟩)⟩
   obtain ⟨j',hj',e5⟩:=List.getElem_of_mem hp'
   have:=hb' j' (by rw [List.length_map];exact hj')
   rw [eg,List.getD_eq_getElem?_getD,List.getElem?_eq_getElem hj',e5] at this
   exact this
end
noncomputable def Yd(K:PySem.W.Frag)(a:Addr)(n:Nat):It :=
 ⟨fun i H=>∃ xs x,c7 K H a xs/\i<n/\xs[n - 1 - i]?=some x,fun i H x H'=>H'=H/\∀ xs,c7 K H a xs->xs[n - 1 - i]?=some x,fun i _=>i=n⟩
theorem PQ{P:Program}{w:World}{K:PySem.W.Frag}{tg:Expr}(a it:Addr)(n:Nat):vM P w K tg (Yd K a n) [it] it (fun i h=>h.IsRevIter it a ((n:Int) - 1 - (i:Int))) where
 mem:=by simp
 obj:=fun i h st b hb=>by
  have e:b=it:=by simpa using hb
  subst e
  obtain ⟨o,e,c,d⟩:=st
  exact ⟨o,e,fun v z=>by rw [d] at z;cases z⟩
 keep:=fun i h h' st k=>st.at fun o e=>k it (by simp) o e
 item:=by
  intro X hP hw hK hc i pins s σ H E I hf st hg
  subst hP hw hK
  obtain ⟨xs,x,hq,hi,hx⟩:=hg
  obtain ⟨its,rv,p,hz⟩:=I.list hq
  obtain ⟨u,hu,ru⟩:=rv.get hx
  obtain ⟨f0,f1,f2,f3,f4,f5⟩:=hf it (by simp)
  have e1:(n:Int) - 1 - (i:Int)=((n - 1 - i:Nat):Int):=by omega
  rw [e1] at st
  refine wpAny_pyNext_rev_item st p.isList (x:=u) (by simpa using hu) fun h' st' sb=>?_
  have I1:bj X pins σ H { s with heap:=h' }:=I.turned (t':=s.toks) (fun b o hb e=>(sb.2 b hb).trans e) f0 f1 f3 f4 f5
  have e2:((n - 1 - i:Nat):Int) - 1=(n:Int) - 1 - ((i+1:Nat):Int):=by omega
  rw [e2] at st'
  obtain ⟨o,e,c,d⟩:=id st'
  exact ⟨u,rfl,xP (s:={ s with heap:=h' }) e c d (by decide) ⟨x,H,I1,ru,⟨rfl,fun ys hy=>by rw [I.list_inj hy hq];exact hx⟩,st',fun b hb=>(hf b hb).1⟩⟩
 done:=by
  intro X hP hw hK hc i pins s σ H E I hf st hg
  subst hP hw hK
  obtain rfl:i=n:=hg
  obtain ⟨f0,f1,f2,f3,f4,f5⟩:=hf it (by simp)
  have e1:(i:Int) - 1 - (i:Int)=-1:=by omega
  rw [e1] at st
  exact wpAny_pyNext_rev_end (I.ok.hd hc) st fun h' eb=>⟨rfl,I.turned (t':=s.toks) (fun b o hb e=>eb b o hb e) f0 f1 f3 f4 f5⟩
 self:=fun _ _ _ _ _ st h=>wpAny_pyIter_revIter st h
section
variable{X:Cx}{tg:Expr}
noncomputable def Yu(K:PySem.W.Frag)(ta:TA):TI:=fun σ H R=>ta σ H fun vs H1=>∃ a xs,vs=[.ref a]/\c7 K H1 a xs/\R (Yd K a xs.length) H1
theorem Uz{a:Expr}{ta:TA}{p pos:Pos}(hg:Gl X "reversed")(hm:X.mg "reversed"=none)(ha:PA X [a] ta)(hs:starEach [a] X.env=[(false,eval a X.env)]:=by rfl):PI X tg (.Call (.Name "reversed" p) [a] [] pos) (Yu X.K ta):=by
 intro pins s σ H R I h
 refine Call_ (lM I hg hm (u:=.type "reversed") (by rfl) (PyProof.Rows.callWith_type1 (dg (ha pos pins s σ H _ I h) fun us s1 ⟨vs,H1,I1,r1,q1⟩=>?_) hs rfl))
 obtain ⟨l,xs,e,hq,q⟩:=q1
 subst e
 cases r1 with
 | cons r rr =>
  cases rr
  cases r
  obtain ⟨its,rv,pl,hz⟩:=I1.list hq
  refine call_reversed_list pl.isList ?_
  have en:((its.toArray.size:Nat):Int) - 1=(xs.length:Int) - 1 - ((0:Nat):Int):=by
   rw [List.size_toArray,<- rv.length];simp
  have hit:(s1.heap.push (revObj l ((its.toArray.size:Int) - 1))).IsRevIter s1.heap.objs.size l ((xs.length:Int) - 1 - ((0:Nat):Int)):=by
   rw [<- en];exact ⟨_,Heap.get?_push_size _ rfl,rfl,rfl⟩
  refine wpAny_pyIter_revIter (s:={ s1 with heap:=s1.heap.push (revObj l ((its.toArray.size:Int) - 1)) }) hit ?_
  have I2:bj X pins σ H1 { s1 with heap:=s1.heap.push (revObj l ((its.toArray.size:Int) - 1)) }:=I1.kept (t':=s1.toks) fun b o e=>Heap.get?_push_of_some _ e
  refine ⟨s1.heap.objs.size,[s1.heap.objs.size],_,_,H1,rfl,I2,PQ l _ xs.length,hit,fun b hb=>?_,q⟩
  have e:b=s1.heap.objs.size:=by simpa using hb
  subst e
  exact I1.fpOk (Nat.le_refl _) (I1.hok.fresh (Nat.le_refl _))
end
theorem Sg{K:PySem.W.Frag}{a:Addr}{xs:List V}{g:TG}{tb:TS}{D:ji}{σ:St}{H:Hp}(Pv:Nat->St->Hp->Prop)(h0:Pv 0 σ H)(hl:∀ i σ H,i<=xs.length->Pv i σ H->c7 K H a xs)
  (hs:∀ i x σ H,i<xs.length->xs[xs.length - 1 - i]?=some x->Pv i σ H->g x σ H fun σ2 H2=>tb { D with nx:=Pv (i+1),ct:=Pv (i+1),bk:=D.nx } σ2 H2) (hd:∀ σ H,Pv xs.length σ H->D.nx σ H) :
  ∃ W:Nat->Nat->St->Hp->Prop,(∃ m,W 0 m σ H)/\∀ i m σ H,W i m σ H ->
   ((Yd K a xs.length).stop i H/\D.nx σ H)\/((Yd K a xs.length).go i H/\∃ N:St->Hp->Prop,(∀ σ' H',N σ' H'->∃ m',m'<m/\W (i+1) m' σ' H')/\∀ x H',(Yd K a xs.length).yld i H x H'->g x σ H' fun σ2 H2=>tb { D with nx:=N,ct:=N,bk:=D.nx } σ2 H2):=by
 refine ⟨fun i m σ H=>m=xs.length - i/\i<=xs.length/\Pv i σ H,⟨xs.length,by simp,Nat.zero_le _,h0⟩,?_⟩
 rintro i m σ H ⟨rfl,hi,p⟩
 have q:=hl i σ H hi p
 by_cases hlt:i<xs.length
 .have hlt':xs.length - 1 - i<xs.length:=by omega
  refine .inr ⟨⟨xs,xs[xs.length - 1 - i],q,hlt,by simp [hlt']⟩,Pv (i+1),fun σ' H' p'=>⟨xs.length - (i+1),by omega,rfl,hlt,p'⟩,fun x H' y=>?_⟩
  obtain ⟨e,y⟩:=y
  subst e
  exact hs i x σ _ hlt (y xs q) p
 .have e:i=xs.length:=by omega
  subst e
  exact .inl ⟨rfl,hd σ H p⟩
section
variable{P:Program}{w:World}{K:PySem.W.Frag}{mg:Str->Option Value}{base:Heap}{k:Nat}{f:Addr}{fd:FuncData}{ps:List Str}{sp:Sp}
theorem bf.down1(F:bf P w K mg base (vY P w) k f fd ps sp):bf P w K mg base cX k f fd ps (fun vs H Q _=>sp vs H Q fun _ _ _=>False) :=
 ⟨fun vs H Q E h=>F.len _ _ _ _ h,fun A outer s H args us vs Q E hr he hb hv hs=>codeAny_mono (F.run A outer s H args us vs Q _ hr he hb hv hs) fun r s' z=>by
  cases r with
  | ok fl=>cases fl <;> exact z
  | error e=>obtain ⟨a,c,H',e1,F1,z⟩:=z;exact z.elim⟩
theorem dq.okC{x qual:Str}{st:Stmt}{N:List Str}{c:Addr}(F:dq K x qual st f fd)(hc:fd.code=.ref c)(S:aG N ps (az st))(len:∀ vs H Q E,sp vs H Q E->vs.length=ps.length)
  (hbody:∀ (A:Around) (outer:List Env) (s:Shared) (H:Hp) (vs:List V) (Q:VK) (E:XK),cO k (A.deeper (envOfC qual (az st) s.heap.objs.size f (.ref c)))->sp vs H Q E ->
   ∃ t,xW (bU cX P w K mg base N qual (az st) f (.ref c) A outer s H E).nox (eN st) t/\t { nx:=fun _ H'=>Q .non H',rt:=Q } (lJ N vs) H):bf P w K mg base cX (k+1) f fd ps sp:=by
 obtain ⟨oc,od,kV,doc,pm,an,cdv,ct,osl,rfl,lk,hcd⟩:=F.ex
 obtain rfl:cdv=.ref c:=hc
 refine Qv lk hcd S len fun A outer s H vs Q E hr hsp=>?_
 obtain ⟨t,h,q⟩:=hbody A outer s H vs Q E hr hsp
 exact ⟨t,h.nox,q⟩
end
theorem di{b:Bool}{A B:Prop}(hb:b=false)(h:B):if b=true then A else B:=by
 rw [hb]
 exact cJ h
theorem jt{b:Bool}{A B:Prop}(hb:b=true)(h:A):if b=true then A else B:=by
 rw [hb]
 exact eG h
section
variable{X:Cx}
theorem oM{e:Expr}:PE X e (fun _ _ _=>False):=fun _ _ _ _ _ _ h=>h.elim
end
theorem Qn{K:PySem.W.Frag}{a:Addr}{xs:List V}{te:TE}{fv:St}{Q:VK}{D:Addr}{H1:Hp}(Pv:Nat->List V->Hp->Prop)(hn:xs.length<=sizeLine)(h0:Pv 0 [] (bQ H1 D (.lst [])))
  (hD:∀ i ys Hc,i<=xs.length->Pv i ys Hc->Hc D=some (.lst ys)/\ys.length=i/\cZ K Hc a xs)
  (hs:∀ (i:Nat) x ys Hc (k:VK),xs[i]?=some x->Pv i ys Hc->(∀ y H3,H3 D=some (.lst ys)->Pv (i+1) (ys++[y]) (bQ H3 D (.lst (ys++[y])))->k y H3)->te (some x::fv) Hc k) (hd:∀ ys Hc,Pv xs.length ys Hc->Q (.ref D) Hc) :
  vf (Tu K a) te fv Q D H1:=by
 refine ⟨fun i m ys Hc=>m=xs.length - i/\i<=xs.length/\Pv i ys Hc,⟨xs.length,rfl,Nat.zero_le _,h0⟩,?_⟩
 rintro i m ys Hc ⟨rfl,hi,p⟩
 obtain ⟨d,l,q⟩:=hD i ys Hc hi p
 refine ⟨d,?_⟩
 by_cases hlt:i<xs.length
 .refine .inr ⟨⟨xs,xs[i],q,by simp [hlt]⟩,by omega,?_⟩
  rintro x H' ⟨rfl,y⟩
  exact hs i x ys _ _ (y xs q) p fun y H3 a b=>⟨a,xs.length - (i+1),by omega,rfl,by omega,b⟩
 .have e:i=xs.length:=by omega
  subst e
  exact .inl ⟨⟨xs,q,Nat.le_refl _⟩,hd ys Hc p⟩
theorem JQ{K:PySem.W.Frag}{a:Addr}{xs:List V}{g:TG}{tt:TT}{te:TE}{st0:St}{Q:VK}{D:Addr}{H1:Hp}(Pv:Nat->List V->Hp->Prop)(hn:xs.length<=sizeLine)(h0:Pv 0 [] (bQ H1 D (.lst [])))
  (hD:∀ i ys Hc,i<=xs.length->Pv i ys Hc->Hc D=some (.lst ys)/\ys.length<=i/\c7 K Hc a xs)
  (hs:∀ (i:Nat) x ys Hc (k1:VK) (k2:Hp->Prop),xs[i]?=some x->Pv i ys Hc->(∀ y H3,H3 D=some (.lst ys)->Pv (i+1) (ys++[y]) (bQ H3 D (.lst (ys++[y])))->k1 y H3)->(∀ H7,Pv (i+1) ys H7->k2 H7) ->
   g x st0 Hc fun σ6 H6=>Kp st0 σ6/\tt σ6 H6 fun b H7=>if b=true then te σ6 H7 k1 else k2 H7) (hd:∀ ys Hc,Pv xs.length ys Hc->Q (.ref D) Hc) :
  Gk (Px K a) g tt te st0 Q D H1:=by
 refine ⟨fun i m ys Hc=>m=xs.length - i/\i<=xs.length/\Pv i ys Hc,⟨xs.length,rfl,Nat.zero_le _,h0⟩,?_⟩
 rintro i m ys Hc ⟨rfl,hi,p⟩
 obtain ⟨d,l,q⟩:=hD i ys Hc hi p
 refine ⟨d,?_⟩
 by_cases hlt:i<xs.length
 .refine .inr ⟨⟨xs,xs[i],q,by simp [hlt]⟩,by omega,?_⟩
  rintro x H' ⟨rfl,y⟩
  exact hs i x ys _ _ _ (y xs q) p (fun y H3 a b=>⟨a,xs.length - (i+1),by omega,rfl,by omega,b⟩) fun H7 b=>⟨xs.length - (i+1),by omega,rfl,by omega,b⟩
 .have e:i=xs.length:=by omega
  subst e
  exact .inl ⟨⟨xs,q,Nat.le_refl _⟩,hd ys Hc p⟩
theorem Va:Kp (none::fv) ((none::fv).set 0 (some x)):=⟨by simp,fun k v e=>by
 cases k with
 | zero=>simp at e
 | succ k=>simpa using e⟩
noncomputable def Oo(H:Hp)(Pt:Addr):Prop:=H Pt=some (.tbl #[])/\∀ b,H b=none\/(∃ o xs,H b=some (.frz o (.lst xs)))\/(b=Pt/\H b=some (.tbl #[]))
theorem Mr{P:Program}{w:World}{K:PySem.W.Frag}{mg mb:Str->Option Value}{CX:zJ}{k:Nat}{fa a c Pt:Addr}{fd:FuncData}{x:Str}{sp:Sp}{s₁:Shared}{vs:List Value}{ns:List Int}
  (KX:K.In s₁.heap) (hns:s₁.heap.Ns mainGlobals mg) (hb:s₁.heap.Ns builtinsNs mb) (hbb:∀ x:Str,x≠"__name__"->mb x=bootBuiltins x) (hlim:s₁.heap.NoLimit) (hg:s₁.gens=#[])
  (hP:s₁.heap.get? Pt=some (PySem.W.tabObj #[])) (hPK:K.lookup Pt=none) (hC:PySem.W.codeHdIn K c Pt=true) (hbm:zm mg s₁.heap)
  (ha:s₁.heap.get? a=some { cls:=.type "list",data:=.seq vs.toArray }) (hi:IntsAre vs ns) (hl:ns.length<=sizeLine) (hr:cO k callerA)
  (F:∀ base:Heap,K.In base->base.Ns mainGlobals mg->zm mg base->bf P w K mg base CX k fa fd [x] sp) (hbind:∀ (s:Shared) (u:Value),BindsTo s fd ⟨[u],[]⟩ [(x,u)])
  (hsp:∀ H:Hp,Oo H Pt->c7 K H a (ns.map V.int)->sp [.ref a] H (fun v _=>v=.bl true) fun _ _ _=>False)
  (hCX:∀ H e s',CX [] H s₁ (fun _ _ _=>False) e s'->False) :
  codeAny (model P w) callerA (.call (.ref fa) ⟨[.ref a],[]⟩) (fun r s'=>r=.ok (.ret (.bool true))/\OldK s₁.heap s'.heap/\s'.os=s₁.os/\AllBare s'.gens) s₁:=by
 have rv:=Ax hi
 have lenV:=hi.length
 have aP:a≠Pt:=fun z=>by rw [z,hP] at ha;cases ha
 have hct:isCodeTable s₁.heap Pt:=by
  obtain ⟨o,cvs,_,_,_,_,_,_,_,e1,e2,e3,e4,_⟩:=PySem.W.codeHd_of_K KX hC
  exact ⟨c,o,cvs,e1,e2,e3,e4⟩
 have core:∀ H:Hp,Oo H Pt->c7 K H a (ns.map V.int)->qw P w H s₁.heap->(∀ b,H b≠none->b=a\/b=Pt)->(H a≠none->K.lookup a=none) ->
   codeAny (model P w) callerA (.call (.ref fa) ⟨[.ref a],[]⟩) (fun r s'=>r=.ok (.ret (.bool true))/\OldK s₁.heap s'.heap/\s'.os=s₁.os/\AllBare s'.gens) s₁:=by
  intro H hO hS hok hA hK
  have base_of:∀ {b:Addr} {o:Obj},s₁.heap.get? b=some o->H b=none->(Aa s₁.heap H).get? b=some o:=fun e n=>Rb e n
  have untr:∀ {b:Addr} {o:Obj},s₁.heap.get? b=some o->(∀ its n,o.data≠.seq its n)->(∀ fs,o.data≠.fields fs)->H b=none:=fun {b o} e d1 d2=>by
   cases q:H b with
   | none=>rfl
   | some u =>
    exfalso
    rcases hA b (by rw [q];simp) with e' | e'
    .subst e'
     rw [ha] at e;cases e
     exact d1 _ _ rfl
    .subst e'
     rw [hP] at e;cases e
     exact d2 _ rfl
  have nsK:∀ {b:Addr} {m:Str->Option Value},s₁.heap.Ns b m->(Aa s₁.heap H).Ns b m:=fun {b m} ⟨o,es,ep,e,d,r⟩=>⟨o,es,ep,base_of e (untr e (fun _ _ z=>by rw [d] at z;cases z) fun _ z=>by rw [d] at z;cases z),d,r⟩
  have hKb:K.In (Aa s₁.heap H):=fun b o e=>base_of (KX b o e) (by
   cases q:H b with
   | none=>rfl
   | some u =>
    rcases hA b (by rw [q];simp) with e' | e'
    .subst e'
     rw [hK (by rw [q];simp)] at e;cases e
    .subst e'
     rw [hPK] at e;cases e)
  have hM:Mod K mg (Aa s₁.heap H):=⟨hKb,nsK hns,⟨mb,nsK hb,hbb⟩,let ⟨mc,h1,h2⟩:=hlim;⟨mc,nsK h1,h2⟩⟩
  have hBm:zm mg (Aa s₁.heap H):=by
   obtain ⟨bm,ob,b1,b2,b3,b4,b5,b6⟩:=hbm
   exact ⟨bm,ob,b1,b2,base_of b3 (untr b3 (fun _ _ z=>by rw [b6] at z;cases z) fun _ z=>by rw [b6] at z;cases z),b4,b5,b6⟩
  have e0:Fj P w K mg (Aa s₁.heap H) callerA [] s₁ H:=⟨rfl,hM,fun b o e=>Sx e,Nat.le_of_eq (Mv _ _),trivial,fun b hb=>absurd (show b∈([]:List Addr) from hb) (by simp),hok,.of_eq hg⟩
  refine codeAny_mono ((F _ hKb (nsK hns) hBm).run callerA [] s₁ H ⟨[.ref a],[]⟩ [.ref a] [.ref a] _ _ hr e0 (hbind s₁ (.ref a)) (.cons rfl .nil) (hsp H hO hS)) fun r s' h=>?_
  cases r with
  | error e=>exact (hCX H e s' h).elim
  | ok fl =>
   cases fl with
   | next=>exact False.elim h
   | brk=>exact False.elim h
   | cont=>exact False.elim h
   | ret u =>
    obtain ⟨v,H',os,bare,un,hok',r',q⟩:=h
    have q':v=.bl true:=q
    subst q'
    obtain rfl:u=Value.bool true:=r'
    have both:∀ b o,s₁.heap.get? b=some o->asItWas s₁.heap s'.heap b o/\∃ o',s'.heap.get? b=some o':=fun b o e=>by
     rcases hO.2 b with z | ⟨ob,xs,z⟩ | ⟨z0,z⟩
     .have:=un.keep b o e z (by intro z;exact absurd (show b∈([]:List Addr) from z) (by simp)) (by simp)
      exact ⟨.inl this,o,this⟩
     .have z2:=un.frzs b ob _ z
      obtain ⟨e1,_⟩:=hok b _ z
      obtain ⟨e2,_⟩:=hok' b _ z2
      rw [e] at e1;cases e1
      exact ⟨.inl e2,_,e2⟩
     .obtain ⟨more,z2⟩:=un.tbls b _ z
      have e2:s'.heap.get? b=some { cls:=.none,data:=.fields (#[]++more) }:=hok' b _ z2
      subst z0
      rw [hP] at e;cases e
      exact ⟨.inr (.inl ⟨hct,rfl,#[],more,rfl,e2⟩),_,e2⟩
    exact ⟨rfl,⟨fun b o e=>(both b o e).1,fun b o e=>(both b o e).2⟩,os,bare⟩
 have tP:∀ (H:Hp),H Pt=some (.tbl #[])->(∀ b u,b≠Pt->H b=some u->dW P w H s₁.heap b u)->qw P w H s₁.heap:=fun H hT hr b u e=>by
  by_cases z:b=Pt
  .subst z
   rw [hT] at e;cases e
   exact hP
  .exact hr b u z e
 cases hk:K.lookup a with
 | some o =>
  have e:=KX a o hk
  rw [ha] at e
  cases e
  have h1:(fun b=>if b=Pt then some (HO.tbl #[]) else none:Hp) Pt=some (.tbl #[]):=if_pos rfl
  refine core (fun b=>if b=Pt then some (.tbl #[]) else none) ⟨h1,fun b=>?_⟩ (.inr ⟨_,vs.toArray,_,hk,rfl,rfl,rfl,by rw [List.size_toArray,lenV];exact hl,by simpa using rv⟩) (tP _ h1 fun b u z e=>?_) (fun b z=>?_) fun z=>?_
  .by_cases hb:b=Pt
   .exact .inr (.inr ⟨hb,if_pos hb⟩)
   .exact .inl (if_neg hb)
  .have z':=(if_neg z).symm.trans e
   cases z'
  .by_cases hb:b=Pt
   .exact .inr hb
   .exact absurd (if_neg hb) z
  .exact absurd (if_neg aP) z
 | none =>
  have h1:(fun b=>if b=a then some (HO.frz { cls:=.type "list",data:=.seq vs.toArray } (.lst (ns.map V.int))) else if b=Pt then some (.tbl #[]) else none:Hp) Pt=some (.tbl #[]):=by
   show (if Pt=a then _ else if Pt=Pt then _ else _)=_
   rw [if_neg aP.symm,if_pos rfl]
  refine core (fun b=>if b=a then some (.frz { cls:=.type "list",data:=.seq vs.toArray } (.lst (ns.map V.int))) else if b=Pt then some (.tbl #[]) else none) ⟨h1,fun b=>?_⟩ (.inl (.inr ⟨{ cls:=.type "list",data:=.seq vs.toArray },if_pos rfl⟩)) (tP _ h1 fun b u z e=>?_) (fun b z=>?_) fun _=>hk
  .by_cases hb:b=a
   .exact .inr (.inl ⟨_,_,if_pos hb⟩)
   .by_cases hb2:b=Pt
    .exact .inr (.inr ⟨hb2,(if_neg hb).trans (if_pos hb2)⟩)
    .exact .inl ((if_neg hb).trans (if_neg hb2))
  .by_cases hb:b=a
   .have z':=(if_pos hb).symm.trans e
    cases z'
    subst hb
    exact ⟨ha,by rw [List.length_map];exact hl,vs,_,rv,ha⟩
   .have z':=((if_neg hb).trans (if_neg z)).symm.trans e
    cases z'
  .by_cases hb:b=a
   .exact .inl hb
   .by_cases hb2:b=Pt
    .exact .inr hb2
    .exact absurd ((if_neg hb).trans (if_neg hb2)) z
theorem Qu{l:PySem.W.OpenLaw}{n k:Nat}{q:Program}{loose:List Str}{XP:(Str->Option Value)->Heap->Prop}{YP:World->Heap->Prop}{d:DefRec}{K:Params->PySem.W.Frag}{CX:World->zJ}{sp:World->Sp}{x:Str}{c Pt:Addr}
  (hn:l.most=some n) (hn2:n<=sizeLine) (hdf:d.params.defaults=[]) (hr:cO k callerA)
  (hY:∀ (w:World) (h:Heap),YP w h->(K w.params).In h) (hYP:∀ (w:World) (h:Heap),YP w h->h.get? Pt=some (PySem.W.tabObj #[])) (hPK:∀ w:World,(K w.params).lookup Pt=none) (hC:∀ w:World,PySem.W.codeHdIn (K w.params) c Pt=true)
  (F:∀ (w:World) (mg:Str->Option Value) (fa:Addr) (h:Heap),(K w.params).In h->h.Ns mainGlobals mg->mg d.name=some (.ref fa) ->
   ∃ fd:FuncData,(∀ (s:Shared) (u:Value),BindsTo s fd ⟨[u],[]⟩ [(x,u)]) /\
    ∀ base:Heap,(K w.params).In base->base.Ns mainGlobals mg->zm mg base->bf l.prog w (K w.params) mg base (CX w) k fa fd [x] (sp w))
  (hsp:∀ (w:World) (H:Hp) (a:Addr) (ns:List Int),ns.length<=n->Oo H Pt->c7 (K w.params) H a (ns.map V.int)->sp w [.ref a] H (fun v _=>v=.bl true) fun _ _ _=>False)
  (hCX:∀ (w:World) (H:Hp) (s:Shared) (e:Value) (s':Shared),CX w [] H s (fun _ _ _=>False) e s'->False) :
  PySem.W.WalkO q loose XP YP l.row.toRowW d [] (fun f vs=>PySem.call f vs):=by
 refine Att.attach_call hn hdf fun w s₀ s₁ mg mb fa o pm cd doc a vs ns G Y ho hd hcd hmg hobj hints hlen hg=>?_
 have KX:=hY w _ Y
 obtain ⟨fd,hb,hF⟩:=F w mg fa _ KX G.T.g hmg
 exact Mr KX G.T.g G.T.b G.T.builtins G.T.nolimit hg (hYP w _ Y) (hPK w) (hC w) G.T.bmain hobj hints (Nat.le_trans hlen hn2) hr hF hb (fun H hO hS=>hsp w H a ns hlen hO hS) fun H e s'=>hCX w H s₁ e s'
noncomputable def Xw(K:PySem.W.Frag)(C:Addr)(th:TS)(D:ji):St->XK:=fun σ c _ H'=>PySem.W.subIn K c (.ref C)=some true/\th D σ H'
section
variable{X:Cx}
theorem Kg(hb:∀ pn E',xW (X.at_ pn E') body tb):PS X (.Try body (h0::hs) [] [] pos) tb:=by
 intro pins s σ H D I h
 refine wpAny_Try_except ?_
 refine wpAny_mono (hb (X.pn++pins) _ [] s σ H D I.toAt h) (fun f s₁ q=>?_) fun e s₁ q=>q
 cases f with
 | next=>obtain ⟨σ',H',J,q⟩:=q;exact aU pins s₁ σ' H' D J.ofAt q
 | brk=>obtain ⟨σ',H',J,q⟩:=q;exact ⟨σ',H',J.ofAt,q⟩
 | cont=>obtain ⟨σ',H',J,q⟩:=q;exact ⟨σ',H',J.ofAt,q⟩
 | ret u=>obtain ⟨v,σ',H',J,r,q⟩:=q;exact ⟨v,σ',H',J.ofAt,r,q⟩
theorem TX{body:List Stmt}{b₀:Stmt}{suite:List Stmt}{cn:Str}{C:Addr}{np hpos pos:Pos}{tb:ji->TS}{th:TS}
  (hg:Gl X cn) (hm:X.mg cn=some (.ref C))
  (hC:PySem.W.typeIn X.K (.ref C)=some (.type "type")) (hE:PySem.W.subIn X.K (.ref C) (.type "BaseException")=some true) (hcl:(PySem.W.clsIn X.K C).isSome=true)
  (hstk:X.stack=X.env::X.outer) (hfr:X.env.frame=some X.env.locals)
  (hb:∀ D pn E',kZ (vY X.prog X.w) (X.at_ pn E') (Xw X.K C th D)->xW (X.at_ pn E') body (tb D))
  (hh:∀ pn a,xW (X.hand pn a) (b₀::suite) th) (hd:(cn == ("__debug__":Str))=false:=by decide) :
  PS X (.Try body [.ExceptHandler (some (.Name cn np)) none (b₀::suite) hpos] [] [] pos) (fun D σ H=>tb D D σ H):=by
 intro pins s σ H D I h
 refine wpAny_Try_except ?_
 refine wpAny_mono (hb D (X.pn++pins) (fun e s₁=>wpAny (model X.prog X.w) X.A (noteFrame e X.env) (fun _ s₂=>wpAny (model X.prog X.w) X.A (setFlight e none) (fun _ s₃=>wpAny (model X.prog X.w) X.A (handleBy e X.env [.ExceptHandler (some (.Name cn np)) none (b₀::suite) hpos]) (SP X pins D) X.xe s₃) X.xe s₂) X.xe s₁) ?_ [] s σ H D I.toAt h) (fun f s₁ q=>?_) fun e s₁ q=>q
 .intro pins2 σ2 H2 s2 e s2' I2 z
  obtain ⟨a,c,H',rfl,F,hsub,hth⟩:=z
  have ff:=F.ff I2
  have fn:=F.fn
  obtain ⟨B,t,fl,hB⟩:=F.fly
  have fl0:Heap.FlyingW B (X.env::X.outer) a c (.ref t) s2'.heap:=by rw [<- hstk];exact fl
  have hA:X.A.frames=some (X.env::X.outer):=by rw [<- hstk];exact I.ok.frames
  refine wpAny_looks_onW hA hfr fl0 fun h₄ held₄ sm₄=>?_
  refine wpAny_landsW held₄ fun h₅ fl₅ sm₅=>?_
  have land:∀ h',Heap.FlyingW B (X.env::X.outer) a c (.ref t) h'->s2'.heap.UpToSlots h'->∃ oe,bj (X.hand (X.pn++pins++[(a,oe)]) a) [] σ2 H' { s2' with heap:=h' }/\h'.get? a=some oe/\oe.cls=c/\PySem.W.notCls oe=true:=fun h' fl' sm=>by
   obtain ⟨U,hok⟩:=xJ F.un F.hok hB fl'.1 sm fn ff
   have J:bj X pins σ2 H' { s2' with heap:=h' }:=(I2.call' (s':={ s2' with heap:=h' }) F.os U hok F.bare (fun b hb=>nomatch hb)).ofAt
   obtain ⟨oe,vs,q1,q2,q3,_⟩:=fl'.first
   have hnone:H' a=none:=by
    cases q:H' a with
    | none=>rfl
    | some ob =>
     obtain ⟨o2,e2⟩:=(F.hok a ob q).ex
     have:=hB a o2 e2 (fun hm=>by rw [ff a hm] at q;cases q) (.inr (by rw [q];rfl))
     rw [fl'.2.1] at this
     cases this
   have nfr:∀ b∈qz (X.env::X.outer),b≠a:=fun b hb z=>by
    subst z
    obtain ⟨_,o,q,nf⟩:=fl'.2.2.1.mem hb
    rw [q1] at q
    cases q
    exact nf vs q3
   have hloc:X.env.locals∈qz (X.env::X.outer):=List.mem_filterMap.mpr ⟨X.env,.head _,hfr⟩
   refine ⟨oe,J.toHand q1 hnone (Ne.symm (nfr _ hloc)) (fun hm=>?_) (fun v z=>by rw [q3] at z;cases z),q1,q2,by unfold PySem.W.notCls;rw [q3]⟩
   obtain ⟨env,he,hf⟩:=List.mem_filterMap.mp hm
   exact nfr a (List.mem_filterMap.mpr ⟨env,.tail _ he,hf⟩) rfl
  obtain ⟨oe5,J5,e5,c5,n5⟩:=land h₅ fl₅ (sm₄.trans sm₅)
  refine wpAny_handleBy_cons (codeAny_handlers_test (sI J5 hg hm ?_ hd)) (by intro q;cases q)
  refine zU J5.kIn e5 c5 hC hE hsub hcl ?_
  refine codeAny_handlers_suite ?_
  refine lands_againW fl₅ fun h₆ fl₆ sm₆=>?_
  obtain ⟨oe6,J6,e6,c6,n6⟩:=land h₆ fl₆ ((sm₄.trans sm₅).trans sm₆)
  refine wpAny_mono (hh (X.pn++pins++[(a,oe6)]) a [] _ _ H' _ J6 hth) (fun f s8 q=>?_) fun e s8 q=>q.elim
  cases f with
  | next=>obtain ⟨σ',H'',J8,q⟩:=q;exact ⟨_,_,J8.ofHand I.ok,q⟩
  | brk=>obtain ⟨σ',H'',J8,q⟩:=q;exact ⟨_,_,J8.ofHand I.ok,q⟩
  | cont=>obtain ⟨σ',H'',J8,q⟩:=q;exact ⟨_,_,J8.ofHand I.ok,q⟩
  | ret u=>obtain ⟨v,σ',H'',J8,r,q⟩:=q;exact ⟨v,_,_,J8.ofHand I.ok,r,q⟩
 .cases f with
  | next=>obtain ⟨σ',H',J,q⟩:=q;exact aU pins s₁ σ' H' D J.ofAt q
  | brk=>obtain ⟨σ',H',J,q⟩:=q;exact ⟨σ',H',J.ofAt,q⟩
  | cont=>obtain ⟨σ',H',J,q⟩:=q;exact ⟨σ',H',J.ofAt,q⟩
  | ret u=>obtain ⟨v,σ',H',J,r,q⟩:=q;exact ⟨v,σ',H',J.ofAt,r,q⟩
end
section
variable{X:Cx}
theorem Jy:lW X (.type "dict") (fun xs H Q=>∃ a kvs,xs=[V.ref a]/\H a=some (.dK kvs)/\∀ p,H p=none->Q (.ref p) (bQ H p (.dK kvs))):=by
 intro pins s σ H xs us Q I r h
 obtain ⟨a,kvs,rfl,ha,q⟩:=h
 obtain ⟨u,rfl,ru⟩:=lu r
 cases ru
 obtain ⟨z,hd,vs,rel,dd⟩:=Oa I.hok ha
 refine kt_call_dict (knd:=cY X.prog X.w) hd dd (by rw [<- rel.length];exact z) fun h' dd' hs=>?_
 refine ⟨.ref s.heap.objs.size,_,I.laid (a:=s.heap.objs.size) (o:=.dK kvs) (t':=s.toks) (fun b o e=>?_) (Nat.le_refl _) (JB z (beq_eq_false_iff_ne.mpr (Ne.symm (Nat.ne_of_lt I.big))) rel dd'),rfl,q _ (I.hok.fresh (Nat.le_refl _))⟩
 exact (hs.2 b (Nat.ne_of_lt (Heap.lt_size e))).trans (Heap.get?_push_of_some _ e)
end
theorem vP:typeLookup (.type "zip") "__getattr__"=pure none:=by rw [typeLookup_type,builtinLookup_eq_fast];kernel_rfl
theorem p7:entryFor table "zip.__getattribute__"=some Builtin.«object.__getattribute__» :=
 entryFor_alias (id' := "object.__getattribute__") (by kernel_rfl) (by decide +kernel) (by decide +kernel) (by kernel_rfl)
theorem Ae:typeLookup (.type "zip") "keys"=pure none:=by rw [typeLookup_type,builtinLookup_eq_fast];kernel_rfl
theorem Pz(a:Addr)(xs:Array Value)(sl:Array (Option Value))(u:Tok) :
  Meets (Builtin.«object.__getattribute__» ⟨[.ref a,.str "keys" u],[]⟩) (fun A R s=>s.heap.get? a=some { cls:=.type "zip",dict:=none,data:=.fields xs,slots:=sl }/\raisesAttr (.ref a) "keys" A R s) :=
 Meets.of_wp fun prog w A R s hs=>by
  obtain ⟨hp,g,d,tk,os⟩:=s
  obtain ⟨hx,hs⟩:=hs
  have hT:(⟨hp,g,d,tk,os⟩:Shared).TypeIs (.ref a) "zip":=⟨_,hx,rfl⟩
  have hmiss:=Ae
  unfold Builtin.«object.__getattribute__»
  repeat (any_goals (first | assumption | wp_step))
  exact wpAny_raiseAttrError hs.1 hs.2 (attrMsg_fits (by decide +kernel) (by size_fits))
theorem Jb
  (hx:s.heap.get? a=some { cls:=.type "zip",dict:=none,data:=.fields xs,slots:=sl }) (hA:A.handled=none)
  (h:∀ h' tk,(∀ b o,s.heap.get? b=some o->h'.get? b=some o)->Q none { s with heap:=h',toks:=tk }):wpAny (model prog w) A (getAttr? (.ref a) "keys") Q E s:=by
 obtain ⟨hp,g,d,tk,os⟩:=s
 have hT:∀ tk',(⟨hp,g,d,tk',os⟩:Shared).TypeIs (.ref a) "zip":=fun _=>⟨_,hx,rfl⟩
 have f1:=sub_AttributeError
 have f3:=F.slot_zip_getattribute.lookup
 have f4:=F.slot_zip_getattribute.bind (.ref a)
 have f5:=vP
 unfold getAttr? getAttrBy? getAttrBy
 repeat (any_goals (first | assumption | exact hT _ | ((with_reducible show wpAny _ _ (call (Value.builtin "zip.__getattribute__") _ _) _ _ _);refine call_meets F.slot_zip_getattribute (hT _) p7 (F.args_zip_getattribute_2 _ _) (Pz a xs sl _) ⟨hx,hA,fun h' tk' e hx'=>?_⟩) | wp_step))
 obtain ⟨t',u',he⟩:=hx'.there
 show wpAny _ _ (getattributeRaised _ _ _ _ _ _ _) _ _ _
 unfold getattributeRaised
 repeat (any_goals (first | assumption | wp_step))
 exact h _ _ hx'.keeps
theorem Gh(ho:s.heap.get? a=some o)(h:Q (some o) s):wpAny M A (loadIfAlive a) Q E s:=fun Γ p _=>by
 show Q (s.heap.get? a) s
 rw [ho]
 exact h
section
variable{prog:Program}{w:World}{A:Around}{E:Value->Shared->Prop}{s:Shared}
theorem QV{b1:Bool}{z TI TO T i1 i2 l1:Addr}{oT:Obj}{k1:Nat}{xs:Array Value}{Q:Option Value->Shared->Prop}(hh:A.handled=none)(hi:i1≠z)(hl:l1≠z)
  (hz:IsZip s.heap z TI TO (rawInt T)) (hT:s.heap.get? T=some oT) (hTI:IsPair s.heap TI (.ref i1) (.ref i2))
  (h1:oY b1 s.heap i1 l1 k1) (hl1:iK b1 s.heap l1 xs) (hend:xs[k1]?=none)
  (hQ:∀ h',(∀ c o,c≠z->c≠i1->s.heap.get? c=some o->h'.get? c=some o)->Q none { s with heap:=h' }):wpAny (model prog w) A (pyNext (.ref z)) Q E s:=by
 have hTy:s.TypeIs (.ref z) "zip":=⟨_,hz,rfl⟩
 unfold pyNext
 refine wpAny_bind (wpAny_attempt (wpAny_callSpecial?_slot (name:=Str.ofString "__next__") hTy F.slot_zip_next
  (wpAny_call_entry F.slot_zip_next hTy F.entry_zip_next ?_ (F.args_zip_next_1 _))))
 show wpAny _ _ (field (.ref z) 2 >>= _) _ _ _
 refine wpAny_bind (wpAny_field hz rfl (x:=.bool false) rfl ?_)
 show wpAny _ _ (field (.ref z) 3 >>= _) _ _ _
 refine wpAny_bind (wpAny_field hz rfl (x:=.ref TI) rfl ?_)
 refine wpAny_bind (wpAny_seqItems hTI rfl ?_)
 show wpAny _ _ (Builtin.SmallTypes.ownedTupleIsFree (.ref z) >>= _) _ _ _
 refine wpAny_bind ?_
 unfold Builtin.SmallTypes.ownedTupleIsFree
 refine wpAny_bind (wpAny_field hz rfl (x:=rawInt T) rfl ?_)
 show wpAny _ _ (loadIfAlive (T:Int).toNat >>= _) _ _ _
 rw [Int.toNat_natCast]
 refine wpAny_bind (Gh hT ?_)
 simp only [Option.isNone_some,Bool.false_eq_true,if_false]
 refine wpAny_bind (wpAny_field hz rfl (x:=.bool false) rfl ?_)
 rw [if_pos (by decide)]
 refine wpAny_bind (wpAny_setField_rec hz (by simp) fun h₁ hz₁ hs₁=>wpAny_pure ?_)
 simp only [Bool.false_eq_true,if_false]
 refine wpAny_bind ?_
 rw [<- Array.forIn_toList]
 simp only [List.forIn_cons,List.forIn_nil]
 refine wpAny_bind (wpAny_bind (wpAny_holding ?_))
 show wpAny _ _ (Builtin.SmallTypes.nextOf (.ref i1) >>= _) _ _ _
 refine wpAny_bind (iz hh (h1.extBut hs₁.extBut hi) (hl1.extBut hs₁.extBut hl) hend fun h₂ e hs₂ he=>?_)
 obtain ⟨o,ho,hc⟩:=he
 refine wpAny_bind (wpAny_isInstance (T := "StopIteration") (b:=true) ⟨o,ho,hc⟩ isSubtype_stop ?_)
 exact wpAny_pure (hQ _ fun c o c1 c2 x=>hs₂ _ _ c2 (hs₁.extBut _ _ c1 x))
end
theorem tL:entryFor table "dict.update.loop"=some Builtin.«dict.update.loop»:=entryFor_of_tree (by kernel_rfl)
theorem tU:plainId "dict.update.loop"=true:=by decide +kernel
section
variable{prog:Program}{w:World}{K:Type}[DecidableEq K]{knd:KeyKind prog w K}{A:Around}{E:Value->Shared->Prop}{s:Shared}
theorem M4(hh:A.handled=none)(hkey:knd.is k key=true)(hl1:iK b1 s.heap l1 #[key])(hl2:iK b2 s.heap l2 #[v])
  (h:∀ h' d tk,s.heap.objs.size<=d->h'.DictOf knd d [(k,v)]->(∀ b o,s.heap.get? b=some o->h'.get? b=some o)->Q (.ref d) { s with heap:=h',toks:=tk }) :
  wpAny (model prog w) A (call (.type "zip") [.ref l1,.ref l2]) (fun zv s1=>wpAny (model prog w) A (call (.type "dict") [zv]) Q E s1) E s:=by
 have lt1:l1<s.heap.objs.size:=by cases b1 <;> (obtain ⟨o,e,_⟩:=hl1;exact Heap.lt_size e)
 have lt2:l2<s.heap.objs.size:=by cases b2 <;> (obtain ⟨o,e,_⟩:=hl2;exact Heap.lt_size e)
 refine v6 hl1 hl2 fun h1 hz hTI hTO i1 i2 hsz hk=>?_
 have D:ZipApart (s.heap.objs.size+4) (s.heap.objs.size+2) (s.heap.objs.size+3) s.heap.objs.size (s.heap.objs.size+1) l1 l2:=by
  have aux:∀ {m n:Nat},(m:Nat)≠n->@Ne Addr m n:=fun h=>h
  have lt1':@LT.lt Nat _ l1 s.heap.objs.size:=lt1
  have lt2':@LT.lt Nat _ l2 s.heap.objs.size:=lt2
  constructor <;> (refine aux ?_;omega)
 refine callType_codes (Q₁:=fun obj s₁=>obj=.ref h1.objs.size/\s₁={ s with heap:=h1.push { cls:=.type "dict",data:=.dict #[] } }) F.kt_called_dict (F.kt_typeCall_dict_1 _) F.entry_dict_init (kt_code_dict_new (s:={ s with heap:=h1 }) _ ⟨rfl,rfl⟩) ?_
 rintro obj s₁ ⟨rfl,rfl⟩
 have hnew:(h1.push { cls:=.type "dict",data:=.dict #[] }).DictOf knd h1.objs.size []:=Heap.DictOf.new h1
 have hzd:IsZip (h1.push { cls:=.type "dict",data:=.dict #[] }) _ _ _ _:=Heap.get?_push_of_some _ hz
 have hzT:(⟨h1.push { cls:=.type "dict",data:=.dict #[] },s.gens,s.drawn,s.toks,s.os⟩:Shared).TypeIs (.ref (s.heap.objs.size+4)) "zip":=⟨_,hzd,rfl⟩
 refine ⟨hnew.typeIs,F.args_dict_init_2 _ _,?_⟩
 unfold Builtin.«dict.__init__»
 refine wpAny_bind ?_
 unfold Builtin.Dict.selfAndRest
 refine wpAny_bind (wpAny_notOrdered_dict hnew.typeIs ?_)
 show wpAny _ _ (pure (h1.objs.size,[Value.ref (s.heap.objs.size+4)])) _ _ _
 refine wpAny_pure ?_
 show wpAny _ _ (Builtin.Dict.updateFrom "dict.__init__" h1.objs.size (.ref (s.heap.objs.size+4)) [] .none) _ _ _
 unfold Builtin.Dict.updateFrom
 refine wpAny_bind (wpAny_typeOf hzT ?_)
 rw [if_pos (by decide)]
 refine wpAny_bind (Jb hzd (show A.in1.in1.handled=none from hh) fun h2 tk2 k2=>?_)
 rw [if_pos (by rfl)]
 have kp2:∀ b o,h1.get? b=some o->h2.get? b=some o:=fun b o e=>k2 b o (Heap.get?_push_of_some _ e)
 refine wpAny_bind (wpAny_rule ?_)
 refine wpAny_bind (wpAny_pyIter_zip (kp2 _ _ hz) ?_)
 refine wpAny_pure ⟨plainId_quiet tU _,?_⟩
 have d2:h2.DictOf knd h1.objs.size []:=by
  obtain ⟨o,es,ep,ho,r⟩:=hnew
  exact ⟨o,es,ep,k2 _ _ ho,r⟩
 have ks:∀ {b:Bool} {a t:Addr} {i:Nat},oY b h1 a t i->oY b h2 a t i:=fun x=>x.at fun o q=>kp2 _ _ q
 have kq:∀ {b:Bool} {a:Addr} {xs:Array Value},iK b s.heap a xs->iK b h2 a xs:=fun {b a xs} x=>by
  cases b <;> (obtain ⟨o,e,r⟩:=x;exact ⟨o,kp2 _ _ (hk _ _ e),r⟩)
 refine codeAny_builtin tL ?_
 unfold Builtin.«dict.update.loop»
 refine wpAny_bind (jh D (kp2 _ _ hz) (kp2 _ _ hTI) (kp2 _ _ hTO) (ks i1) (ks i2) (kq hl1) (kq hl2) (x:=key) (y:=v) rfl rfl fun h3 e1 e2 e3 e4 e5 e6 k3=>?_)
 dsimp only at e1 e2 e3 e4 e5 e6 k3 ⊢
 have n3:h1.objs.size≠s.heap.objs.size+4/\h1.objs.size≠s.heap.objs.size+3/\h1.objs.size≠s.heap.objs.size/\h1.objs.size≠s.heap.objs.size+1:=by
  rw [hsz];refine ⟨?_,?_,?_,?_⟩ <;> (intro z;have z':@Eq Nat _ _:=z;omega)
 have d3:h3.DictOf knd h1.objs.size []:=by
  obtain ⟨o,es,ep,ho,r⟩:=d2
  exact ⟨o,es,ep,k3 _ _ n3.1 n3.2.1 n3.2.2.1 n3.2.2.2 ho,r⟩
 have l2:h1.objs.size<h2.objs.size:=by
  obtain ⟨o,es,ep,ho,r⟩:=d2
  exact Heap.lt_size ho
 refine wpAny_bind (wpAny_holding (wpAny_bind (wpAny_tryCatch ?_)))
 unfold Builtin.Dict.pairItems
 refine wpAny_bind (wpAny_typeOf (T := "tuple") ⟨_,e5,rfl⟩ ?_)
 rw [if_pos (by decide)]
 refine wpAny_bind (wpAny_seqItems e5 rfl (wpAny_pure ?_))
 refine wpAny_holding (wpAny_dictSet_pairs (knd:=knd) hkey d3 fun h4 d4 k4=>?_)
 refine wpAny_pure ⟨plainId_quiet tU _,?_⟩
 refine codeAny_builtin tL ?_
 unfold Builtin.«dict.update.loop»
 have ne4:s.heap.objs.size+4≠h1.objs.size:=Ne.symm n3.1
 have kp4:∀ b o,b≠h1.objs.size->h3.get? b=some o->h4.get? b=some o:=fun b o hb e=>(k4.2 b hb).trans e
 refine wpAny_bind (QV (b1:=b1) (T:=h2.objs.size) (l1:=l1) (k1:=1) (xs:=#[key]) (show A.in1.handled=none from hh) D.i1z D.l1z (kp4 _ _ ne4 e1) (kp4 _ _ (Nat.ne_of_gt l2) e5) (kp4 _ _ ?_ (k3 _ _ ?_ ?_ ?_ ?_ (kp2 _ _ hTI))) (e3.at fun o q=>kp4 _ _ (Ne.symm n3.2.2.1) q) ?_ rfl fun h5 k5=>?_)
 .rw [hsz];intro z;have z':@Eq Nat _ _:=z;omega
 .exact D.TIz
 .exact D.TITO
 .exact D.TIi1
 .exact D.TIi2
 .have go:∀ o,s.heap.get? l1=some o->h4.get? l1=some o:=fun o e=>kp4 _ _ (fun z=>by have z':@Eq Nat _ _:=z;have lt1':@LT.lt Nat _ l1 s.heap.objs.size:=lt1;omega) (k3 _ _ D.l1z D.l1TO D.l1i1 D.l1i2 (kp2 _ _ (hk _ _ e)))
  cases b1 <;> (obtain ⟨o,e,r⟩:=hl1;exact ⟨o,go _ e,r⟩)
 .show wpAny _ _ (Builtin.Dict.addKeywords h1.objs.size [] >>= _) _ _ _
  refine wpAny_bind (wpAny_pure (wpAny_pure ⟨rfl,h h5 h1.objs.size _ (by rw [hsz];exact Nat.le_add_right _ _) ?_ fun b o e=>?_⟩))
  .obtain ⟨o,es,ep,ho,r⟩:=d4
   exact ⟨o,es,ep,k5 _ _ n3.1 n3.2.2.1 ho,r⟩
  .have lb:@LT.lt Nat _ b s.heap.objs.size:=Heap.lt_size e
   have ne:∀ {m:Nat},s.heap.objs.size<=m->b≠m:=fun {m} g z=>by have z':@Eq Nat _ _:=z;omega
   exact k5 _ _ (ne (by omega)) (ne (Nat.le_refl _)) (kp4 _ _ (ne (by omega)) (k3 _ _ (ne (by omega)) (ne (by omega)) (ne (by omega)) (ne (by omega)) (kp2 _ _ (hk _ _ e))))
end
section
variable{X:Cx}
noncomputable def MF(K:PySem.W.Frag)(b1 b2:Bool)(ta:TA):TE:=fun σ H Q=>ta σ H fun vs H1=>∃ (l1 l2:Addr) (z:Str) (y:V),vs=[.ref l1,.ref l2]/\Hq K b1 H1 l1 [.str z]/\Hq K b2 H1 l2 [y]/\∀ p,H1 p=none->Q (.ref p) (bQ H1 p (.dK [(.inr z,y)]))
theorem Ha(hc:X.calm=true)(hgd:Gl X "dict")(hmd:X.mg "dict"=none)(hg:Gl X "zip")(hm:X.mg "zip"=none)(ha:PA X [a,b] ta)(hs:starEach [a,b] X.env=[(false,eval a X.env),(false,eval b X.env)]:=by rfl)(hs2:starEach [b] X.env=[(false,eval b X.env)]:=by rfl)
  (hs3:starEach [.Call (.Name "zip" p) [a,b] [] pos] X.env=[(false,eval (.Call (.Name "zip" p) [a,b] [] pos) X.env)]:=by rfl) :
  PE X (.Call (.Name "dict" p2) [.Call (.Name "zip" p) [a,b] [] pos] [] pos2) (MF X.K b1 b2 ta):=by
 intro pins s σ H Q I h
 refine Call_ (lM I hgd hmd PyProof.Rows.boot_dict (PyProof.Rows.callWith_type1 ?_ (by rw [hs3];rfl) rfl))
 rw [hs3]
 show wpAny _ _ (spliced ((false,eval _ X.env)::[])) _ _ s
 refine Calls.spliced_cons ?_
 refine Call_ (lM I hg hm PyProof.Rows.Boot.«zip» (PyProof.Rows.callWith_type1 (dg (ha pos pins s σ H _ I h) fun us s1 ⟨vs,H1,I1,r1,q1⟩=>?_) (by rw [hs,hs2]) (by rw [hs2];rfl)))
 obtain ⟨l1,l2,z,y,e,hq1,hq2,q⟩:=q1
 subst e
 obtain ⟨u1,u2,rfl,ru1,ru2⟩:=Om r1
 cases ru1
 cases ru2
 obtain ⟨its1,rv1,p1,_⟩:=I1.seqB hq1
 obtain ⟨its2,rv2,p2',_⟩:=I1.seqB hq2
 obtain ⟨w1,rfl,rw1⟩:=lu rv1
 obtain ⟨w2,rfl,rw2⟩:=lu rv2
 refine dg (M4 (knd:=cY X.prog X.w) (k:=.inr z) (Q:=EP X pins σ Q) (I1.ok.hd hc) (v9 rw1) p1 p2' fun h' d tk hd dd kp=>?_) fun zv s2 q2=>Calls.spliced_nil q2
 have big:(d == sysModules)=false:=beq_eq_false_iff_ne.mpr (Ne.symm (Nat.ne_of_lt (Nat.lt_of_lt_of_le I1.big hd)))
 exact ⟨.ref d,_,I1.laid (a:=d) (o:=.dK [(.inr z,y)]) (t':=tk) kp hd (JB (by show 1<=sizeLine;decide) big (.cons ⟨rfl,rw2⟩ .nil) dd),rfl,q _ (I1.hok.fresh hd)⟩
end
open AutoSeq1 (wpAny_loadPart')
section
variable{prog:Program}{w:World}{A:Around}{E:Value->Shared->Prop}{s:Shared}{T:String}{r d:Addr}{n:Nat}{P:Nat->Value->Prop}{OK:Heap->Prop}
theorem Q5(K:PySem.W.KdlSrc prog w T r d n P OK)(hh:A.handled=none)(hok:OK s.heap)(S:Addr)(hSr:S≠r)(hSd:S≠d)(hn:n<=sizeLine)(hS:s.heap.get? S=some { cls:=.type "list",data:=.seq #[] })
  (hR:∀ (h':Heap) (tk:Nat) (acc:Array Value) (c:Nat),(∀ b o,b≠S->s.heap.get? b=some o->h'.get? b=some o)->h'.get? S=some { cls:=.type "list",dict:=none,data:=.seq acc c,slots:=#[] }->ItemsOf P acc n->R (.ok (.ret (.ref S))) { s with heap:=h',toks:=tk }) :
  codeAny (model prog w) A (.builtin "list.__iadd__" ⟨[.ref S,.ref r],[]⟩) R s:=by
 refine codeAny_builtin F.entry_list_iadd ?_
 rw [Around.under_plainId F.plain_list_iadd _]
 exact PySem.W.kdl_extend K hh hok S hSr hSd _ 0 hS hR hn
theorem Gu(K:PySem.W.KdlSrc prog w T r d n P OK)(hh:A.handled=none)(hok:OK s.heap)(hn:n<=sizeLine)
  (hQ:∀ h' tk acc,(∀ b o,s.heap.get? b=some o->h'.get? b=some o)->ItemsOf P acc n->Q acc.toList { s with heap:=h',toks:=tk }):wpAny (model prog w) A (collect (.ref r)) Q E s:=by
 unfold collect
 refine wpAny_bind (wpAny_runValue (codeAny_builtin F.entry_proto_collect ?_))
 rw [Around.under_plainId F.plain_proto_collect _]
 show wpAny _ A.in1 (newList [] >>= fun l=>again (.builtin "list.__iadd__" ⟨[l,.ref r],[]⟩)) _ _ s
 refine wpAny_bind (wpAny_newObj_type ?_)
 have hlt:=K.there _ hok
 have hS0:(s.heap.push { cls:=.type "list",data:=.seq ([]:List Value).toArray }).get? s.heap.objs.size=some { cls:=.type "list",data:=.seq #[] }:=Heap.get?_push_size _ rfl
 refine wpAny_pure ⟨plainId_quiet F.plain_list_iadd _,Q5 (s:={ s with heap:=s.heap.push { cls:=.type "list",data:=.seq ([]:List Value).toArray } }) K hh (K.keep _ _ hok fun b _ o e=>Heap.get?_push_of_some _ e) s.heap.objs.size (Nat.ne_of_gt hlt.1) (Nat.ne_of_gt hlt.2) hn hS0 fun h' tk acc c hk hS hacc=>?_⟩
 show wpAny _ A (load s.heap.objs.size >>= _) _ _ _
 refine wpAny_bind (wpAny_load hS ?_)
 exact wpAny_pure (hQ h' tk acc (fun b o e=>hk b o (Nat.ne_of_lt (Heap.lt_size e)) (Heap.get?_push_of_some _ e)) hacc)
theorem zW(K:PySem.W.KdlSrc prog w T r d n P OK)(hn:n<=sizeLine)(hTn:(Value.type T == Value.type "tuple")=false) :
  MeetsIn prog w (Builtin.«tuple.__new__» ⟨[.type "tuple",.ref r],[]⟩)
   (fun A R s=>A.handled=none/\OK s.heap/\∀ (h':Heap) (tk:Nat) (acc:Array Value),(∀ b o,s.heap.get? b=some o->h'.get? b=some o)->ItemsOf P acc n ->
    R (.ok (.ret (.ref h'.objs.size))) { s with heap:=h'.push { cls:=.type "tuple",data:=.seq acc },toks:=tk }) :=
 .of_wp fun A R s h=>by
  obtain ⟨hh,hok,h⟩:=h
  have hsub:=sub_tuple_self
  have hinit:=init_tuple_lookup
  have hmh:=madeHere_tuple
  have hT:s.TypeIs (.ref r) T:=K.type s hok
  have hh1:A.in1.handled=none:=hh
  obtain ⟨o,ho,hc⟩:=id hT
  wp_walk using wpAny_typeOf hT,wpAny_loadPart' ho,Gu K hh1 hok hn
  intro h' tk acc hk hacc
  show wpAny _ _ (Builtin.Tuple.tupleExact acc.toList.toArray >>= fun v=>ret v) _ _ _
  unfold Builtin.Tuple.tupleExact
  refine wpAny_bind (wpAny_newObj_type ?_ (show acc.toList.toArray.size<=sizeLine by simp only [Array.toArray_toList];rw [hacc.1];exact hn))
  refine wpAny_pure ⟨_,rfl,?_⟩
  have e:acc.toList.toArray=acc:=by simp
  rw [e]
  exact h h' tk acc hk hacc
theorem yW(K:PySem.W.KdlSrc prog w T r d n P OK)(hn:n<=sizeLine)(hTn:(Value.type T == Value.type "tuple")=false)(hh:A.handled=none)(hok:OK s.heap)
  (h:∀ (h':Heap) (tk:Nat) (acc:Array Value),(∀ b o,s.heap.get? b=some o->h'.get? b=some o)->ItemsOf P acc n->Q (.ref h'.objs.size) { s with heap:=h'.push { cls:=.type "tuple",data:=.seq acc },toks:=tk }) :
  wpAny (model prog w) A (call (.type "tuple") [.ref r]) Q E s :=
 callType_codes (Q₁:=fun obj s₁=>s₁.TypeIs obj "tuple"/\Q obj s₁) F.called_tuple (F.typeCall_tuple_1 _) F.entry_object_init
  (codeAny_call_builtin F.plain_tuple_new F.entry_tuple_new (wpAny_of_eq (F.newCall_tuple_1 _) (zW K hn hTn A.in1 _ s ⟨hh,hok,fun h' tk acc hk hacc=>⟨⟨_,Heap.get?_push_size _ rfl,rfl⟩,h h' tk acc hk hacc⟩⟩)))
  fun obj s₁ h₁=>⟨h₁.1,F.args_object_init_2 obj _,object_init_meets F.called_tuple.init.lookup F.called_tuple.made (by decide) prog w A.in1 _ s₁ ⟨h₁.1,rfl,h₁.2⟩⟩
end
theorem Ob:∀ {kvs:List (gf × V)} {vs:List (gf × Value)},KV kvs vs->cI (kvs.map (·.2)) (vs.map (·.2))
 | _,_,.nil=>.nil
 | _,_,.cons h t=>.cons h.2 (Ob t)
section
variable{X:Cx}
noncomputable def QM(to:TE):TE:=fun σ H Q=>to σ H fun x H1=>∃ (a:Addr) (kvs:List (gf × V)),x=.ref a/\H1 a=some (.dK kvs)/\∀ p,H1 p=none->Q (.ref p) (bQ H1 p (.tup (kvs.map (·.2))))
theorem Jo(hc:X.calm=true)(hgd:Gl X "tuple")(hmd:X.mg "tuple"=none)(ho:PE X o to)
  (hbase:attributeBase o "values" X.env (eval o X.env)=eval o X.env:=by rfl) (hline:(apos.endLine == cpos.line)=true:=by rfl)
  (hs3:starEach [.Call (.Attribute o "values" apos) [] [] cpos] X.env=[(false,eval (.Call (.Attribute o "values" apos) [] [] cpos) X.env)]:=by rfl) :
  PE X (.Call (.Name "tuple" p) [.Call (.Attribute o "values" apos) [] [] cpos] [] pos2) (QM to):=by
 intro pins s σ H Q I h
 refine Call_ (lM I hgd hmd PyProof.Rows.boot_tuple (PyProof.Rows.callWith_type1 ?_ (by rw [hs3];rfl) rfl))
 rw [hs3]
 show wpAny _ _ (spliced ((false,eval _ X.env)::[])) _ _ s
 refine Calls.spliced_cons ?_
 refine wpAny_Call_method0_late hbase hline (dg (ho pins s σ H _ I h) fun v s1 ⟨x,H1,I1,r1,a,kvs,ex,ha,q⟩=>?_)
 subst ex
 obtain rfl:v=Value.ref a:=r1
 obtain ⟨t1,t2,hS⟩:=Qp I1 (.inl ⟨kvs,.inl ha⟩)
 obtain ⟨z,_,vs,rel,dd⟩:=Oa I1.hok ha
 refine ⟨"dict","dict.values",PySem.F.plainAttrs_dict,PySem.F.slot_dict_values,PySem.F.type_dict_values,t1,t2,Calls.callWith_builtin rfl (PySem.evalArgs_none ?_)⟩
 refine call_meetsIn PySem.F.slot_dict_values t1 PySem.F.entry_dict_values (PySem.F.args_dict_values_1 _) (meets_dict_values (cY X.prog X.w) a hS) ⟨⟨_,dd⟩,?_⟩
 refine Calls.spliced_nil ?_
 obtain ⟨ob,es,ep,h1,h2,h3,h4,h5,h6⟩:=dd
 have hv:(s1.heap.push { cls:=.type "dict_values",data:=.fields #[.ref a] }).IsValuesView s1.heap.objs.size a:=⟨_,Heap.get?_push_size _ rfl,rfl,rfl⟩
 have hm:(s1.heap.push { cls:=.type "dict_values",data:=.fields #[.ref a] }).DictAt (cY X.prog X.w) a vs ep:=⟨ob,es,Heap.get?_push_of_some _ h1,h2,h3,h4,h5,h6⟩
 refine yW (PySem.W.kdl_values (knd:=cY X.prog X.w) (kvs:=vs) (ep:=ep)) (by rw [<- rel.length];exact z) (by decide) (I1.ok.hd hc) ⟨hv,hm⟩ fun h' tk acc kp hacc=>?_
 have kp':∀ b o,s1.heap.get? b=some o->h'.get? b=some o:=fun b o e=>kp b o (Heap.get?_push_of_some _ e)
 have I2:bj X pins σ H1 { s1 with heap:=h',toks:=tk }:=I1.kept (t':=tk) kp'
 have ra:cI (kvs.map (·.2)) acc.toList:=by
  have e:acc.toList=vs.map (·.2):=by
   refine List.ext_getElem? fun j=>?_
   rw [Array.getElem?_toList,List.getElem?_map]
   cases e1:acc[j]? with
   | some v =>
    obtain ⟨k,e2⟩:=hacc.2 j v e1
    rw [e2];rfl
   | none =>
    have:vs.length<=j:=by rw [<- hacc.1];exact Array.getElem?_eq_none_iff.mp e1
    rw [List.getElem?_eq_none this];rfl
  rw [e]
  exact Ob rel
 have hz:(kvs.map (·.2)).length<=sizeLine:=by rw [List.length_map];exact z
 have I3:=I2.laid (a:=h'.objs.size) (o:=.tup (kvs.map (·.2))) (t':=tk) (fun b o e=>Heap.get?_push_of_some { cls:=.type "tuple",data:=.seq acc } e) (Nat.le_refl _) ⟨hz,acc.toList,ra,by first | exact IsTup.new _ _ | (rw [Array.toArray_toList];exact IsTup.new _ _)⟩
 exact ⟨.ref h'.objs.size,_,I3,rfl,q _ (I2.hok.fresh (Nat.le_refl _))⟩
end
theorem vB:fillsNumberSlot (.type "tuple") "mul"=pure false :=
 PySem.fillsNumberSlot_seq (id := "tuple.__mul__") (r:=some (.builtin "tuple.__rmul__")) F.slot_tuple_mul.lookup (by decide +kernel) F.slot_tuple_rmul.lookup (by decide +kernel)
theorem Ef:seqRepeat? (.type "tuple")=pure (some (.builtin "tuple.__mul__")):=by
 unfold seqRepeat?
 rw [PySem.seqSlot_of (T := "tuple") (name := "__mul__") (id := "tuple.__mul__") F.slot_tuple_mul.lookup (by decide +kernel),PySem.seqSlot_of (T := "tuple") (name := "__rmul__") (id := "tuple.__rmul__") F.slot_tuple_rmul.lookup (by decide +kernel)]
 rfl
theorem Ed(a:Int)(t:Tok)(l:Addr)(xs:Array Value)(c:Nat)(dc:Option Addr)(sl:Array (Option Value)) :
  Meets (Builtin.«int.__rmul__» ⟨[.int a t,.ref l],[]⟩) (fun _ R s=>s.heap.get? l=some { cls:=.type "tuple",dict:=dc,data:=.seq xs c,slots:=sl }/\R (.ok (.ret Value.notImplemented)) s) :=
 .of_wp fun prog w A R s h=>by
  obtain ⟨hp,g,d,tk,os⟩:=s;obtain ⟨hl,h⟩:=h
  have hT:(⟨hp,g,d,tk,os⟩:Shared).TypeIs (.ref l) "tuple":=⟨_,hl,rfl⟩
  wp_walk using wpAny_typeOf hT
  exact ⟨_,rfl,h⟩
theorem Q6(l:Addr)(x:Value)(c:Nat)(dc:Option Addr)(sl:Array (Option Value))(t:Tok) :
  Meets (Builtin.«tuple.__mul__» ⟨[.ref l,.int 8 t],[]⟩) (fun _ R s=>s.heap.get? l=some { cls:=.type "tuple",dict:=dc,data:=.seq #[x] c,slots:=sl }/\R (.ok (.ret (.ref s.heap.objs.size))) { s with heap:=s.heap.push { cls:=.type "tuple",data:=.seq #[x,x,x,x,x,x,x,x] } }) :=
 .of_wp fun prog w A R s h=>by
  obtain ⟨hp,g,d,tk,os⟩:=s;obtain ⟨hl,h⟩:=h
  have hT:(⟨hp,g,d,tk,os⟩:Shared).TypeIs (.ref l) "tuple":=⟨_,hl,rfl⟩
  wp_walk using wpAny_typeOf hT
  exact ⟨_,rfl,h⟩
section
variable{X:Cx}
noncomputable def Up(K:PySem.W.Frag):R2:=fun x y H Q=>∃ a v,x=.ref a/\y=.int 8/\cZ K H a [v]/\∀ p,H p=none->Q (.ref p) (bQ H p (.tup [v,v,v,v,v,v,v,v]))
theorem Sd:uc X (binaryOp .Mult) (Up X.K):=by
 intro pins s σ H x y v u Q I rx ry h
 obtain ⟨a,z,rfl,rfl,hH,q⟩:=h
 cases rx
 obtain ⟨t,rfl⟩:=(show ∃ t,u=Value.int 8 t from ry)
 obtain ⟨its,r,pl,hz⟩:=I.tuple hH
 obtain ⟨w1,rfl,rw1⟩:=lu r
 obtain ⟨o,ho,hc,c,hd⟩:=pl
 obtain ⟨cl,dc,da,sl⟩:=o
 dsimp only at hc hd
 subst hc hd
 refine wpAny_binaryOp_repeat_ref (T := "tuple") (U := "int") (by decide) ⟨_,ho,rfl⟩ (fun s'=>typeIs_int s' 8 t) vB F.fills_int_mul F.slot_int_rmul Ef F.slot_int_index.lookup
  (call_meets F.slot_int_rmul (typeIs_int s 8 t) F.entry_int_rmul (F.args_int_rmul_2 _ _) (Ed 8 t a _ c dc sl)
   ⟨ho,rfl,⟨_,ho,rfl⟩,call_meets F.slot_tuple_mul ⟨_,ho,rfl⟩ F.entry_tuple_mul (F.args_tuple_mul_2 _ _) (Q6 a w1 c dc sl t) ⟨ho,?_⟩⟩)
 exact ⟨.ref s.heap.objs.size,_,I.laid (t':=s.toks) (fun b u e=>Heap.get?_push_of_some _ e) (Nat.le_refl _) (show dW X.prog X.w _ _ _ (.tup [z,z,z,z,z,z,z,z]) from ⟨by show 8<=sizeLine;decide,[w1,w1,w1,w1,w1,w1,w1,w1],.cons rw1 (.cons rw1 (.cons rw1 (.cons rw1 (.cons rw1 (.cons rw1 (.cons rw1 (.cons rw1 .nil))))))),IsTup.new _ _⟩),rfl,q _ I.fresh⟩
end
open PySem PySem.Spec PyProof.Rows PySem.SeqAt
mutual
inductive vI(K:PySem.W.Frag)(H:Hp):V->PyData->Prop where
 | int (i:Int):vI K H (.int i) (.int i)
 | str (x:Str):vI K H (.str x) (.str x)
 | lst {a:Addr} {xs:List V} {ds:List PyData}:c7 K H a xs->q9 K H xs ds->vI K H (.ref a) (.list ds)
 | tup {a:Addr} {xs:List V} {ds:List PyData}:cZ K H a xs->q9 K H xs ds->vI K H (.ref a) (.tuple ds)
inductive q9(K:PySem.W.Frag)(H:Hp):List V->List PyData->Prop where
 | nil:q9 K H [] []
 | cons {x:V} {d:PyData} {xs:List V} {ds:List PyData}:vI K H x d->q9 K H xs ds->q9 K H (x::xs) (d::ds)
end
section
variable{X:Cx}
mutual
theorem vI.reads(I:bj X pins σ H s):∀ {x:V} {d:PyData} {u:Value},vI X.K H x d->cQ x u->∃ as,Reads s.heap u d as
 | _,_,u,.int i,r=>by obtain ⟨t,e⟩:=(show ∃ t,u=Value.int i t from r);cases e;exact ⟨_,.int i t⟩
 | _,_,u,.str x,r=>by obtain ⟨t,e⟩:=(show ∃ t,u=Value.str x t from r);cases e;exact ⟨_,.str x t⟩
 | _,_,u,.lst (a:=a) h l,r=>by
  cases (show u=Value.ref a from r)
  obtain ⟨its,rv,⟨o,n,e,c,_,d⟩,_⟩:=I.list h
  obtain ⟨as,q⟩:=q9.reads I l rv
  exact ⟨_,.list e c d (by simpa using q)⟩
 | _,_,u,.tup (a:=a) h l,r=>by
  cases (show u=Value.ref a from r)
  obtain ⟨its,rv,⟨o,e,c,n,d⟩,_⟩:=I.tuple h
  obtain ⟨as,q⟩:=q9.reads I l rv
  exact ⟨_,.tuple e c d (by simpa using q)⟩
theorem q9.reads(I:bj X pins σ H s):∀ {xs:List V} {ds:List PyData} {us:List Value},q9 X.K H xs ds->cI xs us->∃ as,ReadsAll s.heap us ds as
 | _,_,_,.nil,.nil=>⟨_,.nil⟩
 | _,_,_,.cons h l,.cons r rr=>by
  obtain ⟨as,q⟩:=vI.reads I h r
  obtain ⟨bs,q2⟩:=q9.reads I l rr
  exact ⟨_,.cons q q2⟩
end
theorem Hv(hu:X.A.units+64<cLine):uc X (compareOp .Eq) (fun x y H Q=>∃ d,vI X.K H x d/\vI X.K H y d/\shaped d=true/\noMix d d=true/\same d d=true/\Q (.bl true) H):=by
 intro pins s σ H x y v u Q I rx ry h
 obtain ⟨d,hx,hy,sd,nm,sm,q⟩:=h
 obtain ⟨as,ra⟩:=hx.reads I rx
 obtain ⟨bs,rb⟩:=hy.reads I ry
 exact eq_dataH_same ra rb sd sd hu nm (by rw [sm];exact ⟨.bl true,H,I,rfl,q⟩)
end
theorem Sq{K:PySem.W.Frag}{b1 b2:Bool}{l1 l2:Addr}{xs ys:List V}{g:TG}{tb:TS}{D:ji}{σ:St}{H:Hp}(Pv:Nat->St->Hp->Prop)(el:xs.length=ys.length)(h0:Pv 0 σ H)(hl:∀ i σ H,i<=xs.length->Pv i σ H->Hq K b1 H l1 xs/\Hq K b2 H l2 ys)
  (hs:∀ i x y T σ H,xs[i]?=some x->ys[i]?=some y->H T=none->Pv i σ H->g (.ref T) σ (bQ H T (.tup [x,y])) fun σ2 H2=>tb { D with nx:=Pv (i+1),ct:=Pv (i+1),bk:=D.nx } σ2 H2) (hd:∀ σ H,Pv xs.length σ H->D.nx σ H) :
  ∃ W:Nat->Nat->St->Hp->Prop,(∃ m,W 0 m σ H)/\∀ i m σ H,W i m σ H ->
   ((RT K b1 b2 l1 l2).stop i H/\D.nx σ H)\/((RT K b1 b2 l1 l2).go i H/\∃ N:St->Hp->Prop,(∀ σ' H',N σ' H'->∃ m',m'<m/\W (i+1) m' σ' H')/\∀ x H',(RT K b1 b2 l1 l2).yld i H x H'->g x σ H' fun σ2 H2=>tb { D with nx:=N,ct:=N,bk:=D.nx } σ2 H2):=by
 refine ⟨fun i m σ H=>m=xs.length - i/\i<=xs.length/\Pv i σ H,⟨xs.length,by simp,Nat.zero_le _,h0⟩,?_⟩
 rintro i m σ H ⟨rfl,hi,p⟩
 obtain ⟨q1,q2⟩:=hl i σ H hi p
 by_cases hlt:i<xs.length
 .refine .inr ⟨⟨xs,ys,xs[i],ys[i]'(el ▸ hlt),q1,q2,by simp [hlt],by simp⟩,Pv (i+1),fun σ' H' p'=>⟨xs.length - (i+1),by omega,rfl,hlt,p'⟩,fun x H' y=>?_⟩
  obtain ⟨T,x1,y1,hT,rfl,rfl,hxy⟩:=y
  obtain ⟨a1,a2⟩:=hxy xs ys q1 q2
  exact hs i x1 y1 T σ H a1 a2 hT p
 .have e:i=xs.length:=by omega
  subst e
  exact .inl ⟨⟨xs,ys,q1,q2,.inl (Nat.le_refl _)⟩,hd σ H p⟩
theorem Mz{K:PySem.W.Frag}{b1 b2:Bool}{l1 l2:Addr}{xs zs:List V}{g:TG}{tt:TT}{te:TE}{st0:St}{Q:VK}{D:Addr}{H1:Hp}(Pv:Nat->List V->Hp->Prop)(el:xs.length=zs.length)(hn:xs.length<=sizeLine)(h0:Pv 0 [] (bQ H1 D (.lst [])))
  (hD:∀ i ys Hc,i<=xs.length->Pv i ys Hc->Hc D=some (.lst ys)/\ys.length<=i/\Hq K b1 Hc l1 xs/\Hq K b2 Hc l2 zs)
  (hs:∀ (i:Nat) x z T ys Hc (k1:VK) (k2:Hp->Prop),xs[i]?=some x->zs[i]?=some z->Hc T=none->Pv i ys Hc->(∀ y H3,H3 D=some (.lst ys)->Pv (i+1) (ys++[y]) (bQ H3 D (.lst (ys++[y])))->k1 y H3)->(∀ H7,Pv (i+1) ys H7->k2 H7) ->
   g (.ref T) st0 (bQ Hc T (.tup [x,z])) fun σ6 H6=>Kp st0 σ6/\tt σ6 H6 fun b H7=>if b=true then te σ6 H7 k1 else k2 H7) (hd:∀ ys Hc,Pv xs.length ys Hc->Q (.ref D) Hc) :
  Gk (RT K b1 b2 l1 l2) g tt te st0 Q D H1:=by
 refine ⟨fun i m ys Hc=>m=xs.length - i/\i<=xs.length/\Pv i ys Hc,⟨xs.length,rfl,Nat.zero_le _,h0⟩,?_⟩
 rintro i m ys Hc ⟨rfl,hi,p⟩
 obtain ⟨d,l,q1,q2⟩:=hD i ys Hc hi p
 refine ⟨d,?_⟩
 by_cases hlt:i<xs.length
 .refine .inr ⟨⟨xs,zs,xs[i],zs[i]'(el ▸ hlt),q1,q2,by simp [hlt],by simp⟩,by omega,?_⟩
  rintro v H' ⟨T,x1,z1,hT,rfl,rfl,hxy⟩
  obtain ⟨a1,a2⟩:=hxy xs zs q1 q2
  exact hs i x1 z1 T ys Hc _ _ a1 a2 hT p (fun y H3 a b=>⟨a,xs.length - (i+1),by omega,rfl,by omega,b⟩) fun H7 b=>⟨xs.length - (i+1),by omega,rfl,by omega,b⟩
 .have e:i=xs.length:=by omega
  subst e
  exact .inl ⟨⟨xs,zs,q1,q2,.inl (Nat.le_refl _)⟩,hd ys Hc p⟩
section
variable{X:Cx}
theorem MJ(hv:PE X v tv)(hx:x.length<=sizeLine):PE X (.JoinedStr [.Constant (.str x) j p1,.FormattedValue v (-1) none p2,.Constant (.str x') j' p3] pos)
  (fun σ H Q=>tv σ H fun y H1=>∃ i:Str,y=.str i/\x.length+i.length+x'.length<=sizeLine/\Q (.str (Str.empty++x++i++x')) H1):=by
 intro pins s σ H Q I h
 refine JoinedStr_many (joinParts_cons (dg (aX (x:=x) (j:=j) (pos:=p1) pins s σ H (fun v H1=>v=.str x/\H1=H) I ⟨rfl,rfl⟩) fun u s1 z=>?_))
 obtain ⟨v',H1,I1,r1,rfl,rfl⟩:=z
 obtain ⟨t,rfl⟩:=(show ∃ t,u=Value.str x t from r1)
 have e0:(Str.empty++x).length=x.length:=by rw [strLen_append];exact Nat.zero_add _
 refine ⟨?_,joinParts_cons (FormattedValue_plain (dg (hv pins s1 σ _ _ I1 h) fun u2 s2 z=>?_))⟩
 .rw [e0];exact hx
 .obtain ⟨y,H2,I2,r2,i,rfl,hz,q⟩:=z
  obtain ⟨t2,rfl⟩:=(show ∃ t,u2=Value.str i t from r2)
  refine formatField_str (fun t' tk=>⟨?_,?_⟩) (by omega)
  .rw [strLen_append,e0];omega
  .refine joinParts_cons (dg (aX (x:=x') (j:=j') (pos:=p3) pins _ σ H2 (fun v H1=>v=.str x'/\H1=H2) (I2.tok _) ⟨rfl,rfl⟩) fun u3 s3 z=>?_)
   obtain ⟨v3,H3,I3,r3,rfl,rfl⟩:=z
   obtain ⟨t3,rfl⟩:=(show ∃ t,u3=Value.str x' t from r3)
   refine ⟨?_,joinParts_nil ?_ ?_⟩
   .rw [strLen_append,strLen_append,e0];exact hz
   .exact ⟨.str _,H3,I3.tok _,⟨_,rfl⟩,q⟩
   .rw [strLen_append,strLen_append,e0];exact hz
end
noncomputable def Cz(H H':Hp):Prop:=∀ b o,H b=some o->(∀ ys,o≠.lst ys)->H' b=some o
theorem aR.keep(s:aR H H'):Cz H H':=fun b o e _=>s b o e
theorem Cz.trans(s:Cz H H')(t:Cz H' H''):Cz H H'':=fun b o e n=>t b o (s b o e n) n
theorem qQ(h:H D=some (.lst ys)):Cz H (bQ H D (.lst zs)):=fun b o e n=>by
 rw [aA (fun z=>by rw [z,h] at e;cases e;exact n ys rfl)]
 exact e
theorem JP(hD:H1 D=none)(s1:aR H1 Hc)(s2:aR Hc H3):aR H1 (bQ H3 D (.lst zs)):=fun b o e=>by
 rw [aA (aO e hD)]
 exact s2 _ _ (s1 _ _ e)
theorem lY:∀ {as:List α} {bs:List β} {a:α} {b:β},Paired R as bs->R a b->Paired R (as++[a]) (bs++[b])
 | _,_,_,_,.nil,h=>.cons h .nil
 | _,_,_,_,.cons h t,h2=>.cons h (lY t h2)
section
variable{α:Type}{J:It}{te:TE}{Q:VK}{D:Addr}{H1:Hp}
theorem yj(items:List α)(Y:α->Hp->V->Hp->Prop)(R:Hp->α->V->Prop)(hn:items.length<=sizeLine)(hD:H1 D=none)(st:∀ H H' x y,Cz H H'->R H x y->R H' x y)
  (go:∀ i Hc,i<items.length->aR H1 Hc->J.go i Hc) (stop:∀ Hc,aR H1 Hc->J.stop items.length Hc) (yld:∀ i Hc v H',aR H1 Hc->J.yld i Hc v H'->∃ a,items[i]?=some a/\Y a Hc v H')
  (hs:∀ a v Hc H' k,a∈items->aR H1 Hc->Y a Hc v H'->(∀ y H3,aR Hc H3->R H3 a y->k y H3)->te (some v::fv) H' k)
  (hd:∀ ys Hc,aR H1 Hc->Hc D=some (.lst ys)->Paired (R Hc) items ys->Q (.ref D) Hc):vf J te fv Q D H1:=by
 refine ⟨fun i m ys Hc=>m=items.length - i/\i<=items.length/\aR H1 Hc/\Hc D=some (.lst ys)/\Paired (R Hc) (items.take i) ys,⟨_,rfl,Nat.zero_le _,au hD,aj,.nil⟩,?_⟩
 rintro i m ys Hc ⟨rfl,hi,s1,d,p⟩
 refine ⟨d,?_⟩
 by_cases hlt:i<items.length
 .have ly:ys.length=i:=by rw [<- p.length,List.length_take];omega
  refine .inr ⟨go i Hc hlt s1,by omega,fun v H' y=>?_⟩
  obtain ⟨a,ea,hy⟩:=yld i Hc v H' s1 y
  refine hs a v Hc H' _ (List.mem_of_getElem? ea) s1 hy fun y H3 s3 r=>⟨s3 _ _ d,items.length - (i+1),by omega,rfl,by omega,JP hD s1 s3,aj,?_⟩
  rw [List.take_succ,ea]
  exact lY (Paired.imp' (fun _ _ z=>st _ _ _ _ (s3.keep.trans (qQ (s3 _ _ d))) z) p) (st _ _ _ _ (qQ (s3 _ _ d)) r)
 .have e:i=items.length:=by omega
  subst e
  rw [List.take_length] at p
  exact .inl ⟨stop Hc s1,hd ys Hc s1 d p⟩
theorem tX(items:List α)(Y:α->Hp->V->Hp->Prop)(p:α->Bool)(R:Hp->α->V->Prop)(hn:items.length<=sizeLine)(hD:H1 D=none)(st:∀ H H' x y,Cz H H'->R H x y->R H' x y)
  (go:∀ i Hc,i<items.length->aR H1 Hc->J.go i Hc) (stop:∀ Hc,aR H1 Hc->J.stop items.length Hc) (yld:∀ i Hc v H',aR H1 Hc->J.yld i Hc v H'->∃ a,items[i]?=some a/\Y a Hc v H')
  (hs:∀ a v Hc H' (k1:VK) (k2:Hp->Prop),a∈items->aR H1 Hc->Y a Hc v H'->(p a=true->∀ y H3,aR Hc H3->R H3 a y->k1 y H3)->(p a=false->∀ H7,aR Hc H7->k2 H7) ->
   g v st0 H' fun σ6 H6=>Kp st0 σ6/\tt σ6 H6 fun b H7=>if b=true then te σ6 H7 k1 else k2 H7)
  (hd:∀ ys Hc,aR H1 Hc->Hc D=some (.lst ys)->Paired (R Hc) (items.filter p) ys->Q (.ref D) Hc):Gk J g tt te st0 Q D H1:=by
 refine ⟨fun i m ys Hc=>m=items.length - i/\i<=items.length/\aR H1 Hc/\Hc D=some (.lst ys)/\Paired (R Hc) ((items.take i).filter p) ys,⟨_,rfl,Nat.zero_le _,au hD,aj,.nil⟩,?_⟩
 rintro i m ys Hc ⟨rfl,hi,s1,d,pp⟩
 refine ⟨d,?_⟩
 by_cases hlt:i<items.length
 .have ly:ys.length<=i:=by rw [<- pp.length];exact Nat.le_trans (List.length_filter_le ..) (by rw [List.length_take];omega)
  refine .inr ⟨go i Hc hlt s1,by omega,fun v H' y=>?_⟩
  obtain ⟨a,ea,hy⟩:=yld i Hc v H' s1 y
  refine hs a v Hc H' _ _ (List.mem_of_getElem? ea) s1 hy (fun pa y H3 s3 r=>⟨s3 _ _ d,items.length - (i+1),by omega,rfl,by omega,JP hD s1 s3,aj,?_⟩) (fun pa H7 s7=>⟨items.length - (i+1),by omega,rfl,by omega,s1.trans s7,s7 _ _ d,?_⟩)
  .rw [List.take_succ,ea,List.filter_append]
   have e1:List.filter p (some a).toList=[a]:=by show List.filter p [a]=[a];simp [pa]
   rw [e1]
   exact lY (Paired.imp' (fun _ _ z=>st _ _ _ _ (s3.keep.trans (qQ (s3 _ _ d))) z) pp) (st _ _ _ _ (qQ (s3 _ _ d)) r)
  .rw [List.take_succ,ea,List.filter_append]
   have e1:List.filter p (some a).toList=[]:=by show List.filter p [a]=[];simp [pa]
   rw [e1,List.append_nil]
   exact Paired.imp' (fun _ _ z=>st _ _ _ _ s7.keep z) pp
 .have e:i=items.length:=by omega
  subst e
  rw [List.take_length] at pp
  exact .inl ⟨stop Hc s1,hd ys Hc s1 d pp⟩
end
section
variable{K:PySem.W.Frag}{a:Addr}{xs:List V}{H1:Hp}
theorem ZS(h:H1 a=some (.tup xs))(i:Nat)(Hc:Hp)(hi:i<xs.length)(s:aR H1 Hc):(Tu K a).go i Hc:=⟨xs,xs[i],cZ.of (s _ _ h),by simp [hi]⟩
theorem PB(h:H1 a=some (.tup xs))(Hc:Hp)(s:aR H1 Hc):(Tu K a).stop xs.length Hc:=⟨xs,cZ.of (s _ _ h),Nat.le_refl _⟩
theorem V2(h:H1 a=some (.tup xs))(i:Nat)(Hc:Hp)(v:V)(H':Hp)(s:aR H1 Hc)(y:(Tu K a).yld i Hc v H'):∃ b,xs[i]?=some b/\(v=b/\H'=Hc):=by
 obtain ⟨e,y⟩:=y
 exact ⟨v,y xs (cZ.of (s _ _ h)),rfl,e⟩
theorem Rv(h:H1 a=some (.lst xs))(i:Nat)(Hc:Hp)(hi:i<xs.length)(s:aR H1 Hc):(Px K a).go i Hc:=⟨xs,xs[i],c7.of (s _ _ h),by simp [hi]⟩
theorem tQ(h:H1 a=some (.lst xs))(Hc:Hp)(s:aR H1 Hc):(Px K a).stop xs.length Hc:=⟨xs,c7.of (s _ _ h),Nat.le_refl _⟩
theorem zK(h:H1 a=some (.lst xs))(i:Nat)(Hc:Hp)(v:V)(H':Hp)(s:aR H1 Hc)(y:(Px K a).yld i Hc v H'):∃ b,xs[i]?=some b/\(v=b/\H'=Hc):=by
 obtain ⟨e,y⟩:=y
 exact ⟨v,y xs (c7.of (s _ _ h)),rfl,e⟩
end
noncomputable abbrev Wt:XK:=fun _ _ _=>False
structure KZ(P:Program)(w:World)(K:PySem.W.Frag)(mg:Str->Option Value)(base:Heap)(k:Nat)(f:Addr)(fd:FuncData)(ps:List Str)(sp:Sp):Prop where
 len:∀ vs H Q E,sp vs H Q E->vs.length=ps.length
 run:∀ (A:Around) (a:Addr) (outer:List Env) (s:Shared) (H:Hp) (args:Args) (us:List Value) (vs:List V) (Q:VK),cO k A->Fj P w K mg base A outer s H->BindsTo s fd args (ps.zip us)->cI vs us->sp vs H Q Wt ->
  codeAny (model P w) (A.mark (some (.ref a))) (.call (.ref f) args) (CR cX outer P w H s Q Wt) s
section
variable{P:Program}{w:World}{K:PySem.W.Frag}{mg:Str->Option Value}{base:Heap}
theorem bj.hand0(I:bj X pins σ H s):bj (X.hand X.pn a) pins σ H s:=⟨I.ok.hand,I.os,I.bare,I.base,I.loc,I.cell,I.free,I.freeC,I.pin,I.hok,I.len⟩
theorem dq.okH{x qual:Str}{st:Stmt}{f:Addr}{fd:FuncData}{N ps:List Str}{k:Nat}{sp:Sp}(F:dq K x qual st f fd)(S:aG N ps (az st))(len:∀ vs H Q E,sp vs H Q E->vs.length=ps.length)
  (hbody:∀ (cdv:Value) (A:Around) (a:Addr) (outer:List Env) (s:Shared) (H:Hp) (vs:List V) (Q:VK),sp vs H Q Wt ->
   ∃ t,xW ((bU cX P w K mg base N qual (az st) f cdv A outer s H Wt).hand [] a) (eN st) t/\t { nx:=fun _ H'=>Q .non H',rt:=Q } (lJ N vs) H):KZ P w K mg base (k+1) f fd ps sp:=by
 obtain ⟨oc,od,kV,doc,pm,an,cdv,ct,osl,rfl,lk,hcd⟩:=F.ex
 refine ⟨len,fun A a outer s H args us vs Q hr e0 hb r hsp=>?_⟩
 have hl:=len _ _ _ _ hsp
 have KX:K.In s.heap:=e0.mod.kin.keeps fun b o e=>(e0.bs b o e).1
 have lim:s.heap.NoLimit:=e0.mod.nolimit.keeps fun b o e=>(e0.bs b o e).1
 have hkind:∀ y∈ps.zip us,(az st).names.lookup y.1=some .local\/((az st).names.lookup y.1=some .cell/\((cellsFrom (s.heap.objs.size+1) (az st).names []).lookup y.1).isSome=true):=fun ⟨n,v⟩ hy=>by
  rcases S.par n (List.of_mem_zip hy).1 with q | q
  .exact .inl q
  .exact .inr ⟨q,PySem.W.cellsFrom_some _ _ _ (.inl q)⟩
 refine codeAny_call_function (show (A.mark (some (.ref a))).depth<_ from hr.depth) (KX _ _ lk) rfl S.co S.gen rfl (PySem.W.codeRec_of KX hcd) (hb _ _ _ _ ?_)
 refine wpAny_newFunctionEnv_cells S.kind hkind fun env he s1 x=>?_
 subst he
 refine ⟨lim.keeps x.toInCall.keep,codeAny_func ?_⟩
 obtain ⟨t,ht,hq⟩:=hbody cdv A a outer s H vs Q hsp
 have I:bj (bU cX P w K mg base N qual (az st) f cdv A outer s H Wt) [] (lJ N vs) H s1:=Bw S hr.hd e0 hl r x
 refine wpAny_mono (ht [] s1 (lJ N vs) H _ I.hand0 hq) (fun fl s' hs=>?_) fun e s' hs=>hs.elim
 have fin:∀ {σ':St} {H':Hp} {v:V} {u:Value},bj ((bU cX P w K mg base N qual (az st) f cdv A outer s H Wt).hand [] a) [] σ' H' s'->cQ v u->Q v H'->CE outer P w H s Q u s' :=
  fun {σ' H' v u} J rv q=>⟨v,H',J.os,J.bare,J.base,J.hok,rv,q⟩
 cases fl with
 | ret u =>
  obtain ⟨v,σ',H',J,rv,q⟩:=hs
  exact fin J rv q
 | next =>
  obtain ⟨σ',H',J,q⟩:=hs
  exact fin (v:=V.non) (u:=Value.none) J rfl q
 | brk =>
  obtain ⟨_,_,_,q⟩:=hs
  exact False.elim q
 | cont =>
  obtain ⟨_,_,_,q⟩:=hs
  exact False.elim q
end
section
variable{X:Cx}{x:Str}{p pos:Pos}{e:Expr}{es:List Expr}{t:TA}{C f a:Addr}{fd:FuncData}{ps:List Str}{sp:Sp}{k:Nat}{ds:List Value}{dvs:List V}{pn:List (Addr × Obj)}
theorem O6(M:Mk X.K C f)(F:KZ X.prog X.w X.K X.mg X.base k f fd ps sp)(hr:cO (k+1) X.A)(hg:Gl X x)(hm:X.mg x=some (.ref C))(hb:dR X.K fd ps ds)(hd:cI dvs ds)
  (ha:PA (X.hand pn a) (e::es) t) (hdb:(x == ("__debug__":Str))=false:=by decide) (he:starEach (e::es) X.env=(false,eval e X.env)::starEach es X.env:=by rfl) (hpl:(backTo pos (starEach es X.env)).any (·.1)=false:=by rfl) :
  PE (X.hand pn a) (.Call (.Name x p) (e::es) [] pos) (T6 C sp dvs E0 t):=by
 intro pins s σ H Q I h
 refine wpAny_Call_Name_kw (sI I hg hm ?_ hdb)
 refine PySem.W.callWith_K (h₀:=X.base) I.ok.mod.kin M.kp (dg (ha pos pins s σ H _ I h) fun us s1 ⟨vs,H1,I1,r,q⟩=>⟨I1.kIn,?_⟩) he hpl
 have hq:=q (s1.heap.objs.size+1) s1.heap.objs.size (I1.hok.fresh (Nat.le_succ _)) (I1.hok.fresh (Nat.le_refl _)) (Nat.ne_of_lt (Nat.lt_succ_self _))
 have I2:=bj.made (C:=C) I1
 have r2:cI (V.ref (s1.heap.objs.size+1)::(vs++dvs)) (Value.ref (s1.heap.objs.size+1)::(us++ds)):=.cons rfl (r.append hd)
 have hl:(Value.ref (s1.heap.objs.size+1)::us++ds).length=ps.length:=by
  have e:=r2.length
  rw [F.len _ _ _ _ hq] at e
  exact e.symm
 have e0:=(I2.env0.make C us [])
 refine wpAny_call (Fz (f:=f) I1.kIn M.makes M.init (beq_iff_eq.mp M.fn) (codeAny_mono (F.run _ a X.stack _ _ ⟨Value.ref (s1.heap.objs.size+1)::us,[]⟩ (Value.ref (s1.heap.objs.size+1)::(us++ds)) _ _ (hr.make C us [])
  ⟨e0.frames,e0.mod,e0.bs,e0.bsz,e0.funs,e0.frf,e0.hok,e0.bare⟩ (hb _ (Value.ref (s1.heap.objs.size+1)::us) I2.kIn hl) r2 hq) fun r s' hq'=>?_))
 cases r with
 | error e=>exact hq'.elim
 | ok fl =>
  cases fl with
  | ret u =>
   obtain ⟨v,H',I3,rv,ev,q3⟩:=I2.after hq'
   subst ev
   exact ⟨rv,⟨V.ref (s1.heap.objs.size+1),H',I3,rfl,q3⟩⟩
  | next=>exact False.elim hq'
  | brk=>exact False.elim hq'
  | cont=>exact False.elim hq'
end
end L2
namespace KL
open PySem L2
noncomputable def eE (i:Nat):Stmt:=PySem.Challenge.pw_ledgerdb_k32_no_room.main.body.getD i (.Pass ⟨0,0,0,0⟩)
noncomputable abbrev m7:Stmt:=eE 22
noncomputable abbrev nF:Stmt:=eE 23
noncomputable abbrev ur:Stmt:=eE 24
noncomputable abbrev iR:Stmt:=eE 25
noncomputable abbrev rD:Stmt:=eE 27
noncomputable abbrev oh:Stmt:=eE 28
noncomputable abbrev jZ:Stmt:=eE 30
noncomputable abbrev qX:Stmt:=eE 31
noncomputable abbrev qU:Stmt:=eE 32
noncomputable abbrev jq:Stmt:=dF (eE 54) 0
noncomputable abbrev nu:Stmt:=dF (eE 55) 0
noncomputable abbrev mY:Stmt:=dF (eE 55) 2
noncomputable abbrev nj:Stmt:=dF (eE 55) 3
noncomputable abbrev oA:Stmt:=dF (eE 55) 4
noncomputable abbrev jr:Stmt:=dF (eE 55) 5
noncomputable abbrev iQ:Stmt:=dF (eE 55) 6
noncomputable abbrev iG:Stmt:=dF (eE 55) 7
noncomputable abbrev iy:Stmt:=dF (eE 55) 8
noncomputable abbrev lE:Stmt:=dF (eE 55) 10
noncomputable abbrev jl:Stmt:=eE 56
noncomputable abbrev nq:Stmt:=eE 57
noncomputable abbrev nJ:Stmt:=eE 58
noncomputable abbrev nQ:Stmt:=eE 61
noncomputable abbrev ou:Stmt:=eE 65
noncomputable abbrev pL:Stmt:=eE 66
noncomputable abbrev jk:Stmt:=eE 69
noncomputable abbrev rF:Stmt:=eE 71
noncomputable abbrev pI:Stmt:=eE 72
noncomputable abbrev gO:Stmt:=eE 73
noncomputable abbrev rU:Stmt:=eE 74
noncomputable abbrev ph:Stmt:=eE 75
noncomputable abbrev pP:Stmt:=eE 76
noncomputable abbrev gK:Stmt:=eE 77
noncomputable abbrev pJ:Stmt:=eE 78
noncomputable abbrev iM:Stmt:=eE 79
noncomputable abbrev jT:Stmt:=eE 80
noncomputable abbrev my:Stmt:=eE 81
noncomputable abbrev lX:Stmt:=eE 82
noncomputable abbrev lR:Stmt:=eE 83
noncomputable abbrev yg:Stmt:=eE 105
noncomputable abbrev nU:Stmt:=dF (eE 108) 0
noncomputable abbrev o9:Stmt:=dF (eE 109) 0
noncomputable abbrev pA:Stmt:=eE 110
noncomputable abbrev pN:Stmt:=eE 111
noncomputable abbrev nM:Stmt:=eE 114
noncomputable abbrev nW:Stmt:=eE 115
noncomputable abbrev pU:Stmt:=eE 116
noncomputable abbrev nR:Stmt:=eE 118
noncomputable abbrev qJ:Stmt:=eE 120
noncomputable abbrev rE:Stmt:=eE 121
noncomputable abbrev lA:Stmt:=eE 122
noncomputable abbrev iW:Stmt:=dF (eE 130) 0
noncomputable abbrev DQ:Stmt:=eE 131
noncomputable abbrev lG:Stmt:=eE 132
noncomputable abbrev iB:Stmt:=eE 133
noncomputable abbrev iu:Stmt:=eE 134
noncomputable abbrev jc:Stmt:=eE 135
noncomputable abbrev jd:Stmt:=eE 136
noncomputable abbrev jM:Stmt:=eE 137
noncomputable abbrev lC:Stmt:=eE 138
noncomputable abbrev iD:Stmt:=eE 139
noncomputable abbrev qb:Stmt:=eE 140
noncomputable abbrev rn:Stmt:=eE 142
noncomputable abbrev kY:Stmt:=eE 143
noncomputable abbrev pK:Stmt:=eE 144
noncomputable abbrev rO:Stmt:=dF (eE 153) 0
noncomputable abbrev jJ:Stmt:=dF (eE 153) 1
noncomputable abbrev kj:Stmt:=eE 154
noncomputable abbrev ni:Stmt:=eE 155
noncomputable abbrev qd:Stmt:=eE 157
noncomputable abbrev jY:Stmt:=eE 173
noncomputable abbrev rQ:Stmt:=dF (eE 174) 0
noncomputable abbrev mU:Stmt:=dF (eE 174) 2
noncomputable abbrev qC:Stmt:=dF (eE 174) 3
noncomputable abbrev pQ:Stmt:=dF (eE 174) 4
noncomputable abbrev rB:Stmt:=dF (eE 174) 5
noncomputable abbrev jf:Stmt:=dF (eE 174) 8
noncomputable abbrev pG:Stmt:=dF (eE 174) 9
noncomputable abbrev rN:Stmt:=dF (eE 182) 0
noncomputable abbrev pM:Stmt:=dF (eE 183) 0
noncomputable abbrev pD:Stmt:=eE 184
noncomputable abbrev pq:Stmt:=eE 185
noncomputable abbrev pY:Stmt:=eE 188
noncomputable abbrev qZ:Stmt:=eE 189
noncomputable abbrev qP:Stmt:=eE 190
noncomputable abbrev rT:Stmt:=eE 191
noncomputable abbrev tW:Stmt:=eE 192
noncomputable abbrev rm:Stmt:=dF (eE 198) 0
noncomputable abbrev nZ:Stmt:=eE 199
noncomputable abbrev q8:Stmt:=eE 200
noncomputable abbrev Qg:Stmt:=eE 201
noncomputable abbrev xm:Stmt:=eE 202
noncomputable abbrev yr:Stmt:=eE 204
noncomputable abbrev uf:Stmt:=eE 206
noncomputable abbrev vL:Stmt:=eE 207
noncomputable abbrev rJ:Stmt:=eE 208
noncomputable abbrev tZ:Stmt:=eE 210
noncomputable abbrev jW:Stmt:=eE 211
noncomputable abbrev lV:Stmt:=eE 212
noncomputable abbrev vQ:Stmt:=eE 213
noncomputable abbrev tH:Stmt:=eE 214
noncomputable def vy:Pos:=⟨810,65,810,87⟩
noncomputable def lU(c:Nat):Bool:=decide (97<=c) && decide (c<=122)
noncomputable def gY(c:Nat):Bool:=decide (48<=c) && decide (c<=57)
noncomputable def sV(c:Nat):Bool:=lU c || (gY c || decide (c=95))
noncomputable def lQ(c:Nat):Bool:=decide (c=32) || decide (c=10)
noncomputable def vG(l:List Nat):Bool:=decide (l=[60,62]) || (decide (l=[60,61]) || decide (l=[62,61]))
noncomputable def gb(p:Nat->Bool):List Nat->Nat
 | []=>0
 | c::r=>if p c=true then gb p r+1 else 0
noncomputable def uI:List Nat->Nat
 | []=>0
 | c::r=>if (lU c || gY c)=true then gb sV (c::r) else if vG ((c::r).take 2)=true then 2 else 1
theorem uF(p:Nat->Bool):∀ l,gb p l<=l.length
 | []=>Nat.le_refl _
 | c::r=>by
  unfold gb
  have:=uF p r
  split
  .simp only [List.length_cons];omega
  .exact Nat.zero_le _
theorem Tq(l:List Nat):uI l<=l.length:=by
 cases l with
 | nil=>exact Nat.le_refl _
 | cons c r =>
  unfold uI
  have h1:=uF sV (c::r)
  simp only [List.length_cons] at h1 ⊢
  split
  .exact h1
  .split
   .rename_i h
    have:((c::r).take 2).length=2:=by
     unfold vG at h
     simp only [Bool.or_eq_true,decide_eq_true_eq] at h
     rcases h with h | h | h <;> rw [h] <;> rfl
    rw [List.length_take] at this
    simp only [List.length_cons] at this
    omega
   .omega
theorem QW(c:Nat)(r:List Nat):1<=uI (c::r):=by
 show 1<=(if (lU c || gY c)=true then gb sV (c::r) else if vG ((c::r).take 2)=true then 2 else 1)
 by_cases h:(lU c || gY c)=true
 .rw [if_pos h]
  have:sV c=true:=by
   unfold sV
   rw [Bool.or_eq_true] at h ⊢
   rcases h with h | h
   .exact .inl h
   .exact .inr (by rw [h];rfl)
  show 1<=(if sV c=true then gb sV r+1 else 0)
  rw [if_pos this]
  omega
 .rw [if_neg h]
  split <;> omega
theorem Bt{p:Nat->Bool}{l:List Nat}{n:Nat}{c:Nat}(h:l[n]?=some c)(hp:p c=true):gb p (l.drop n)=gb p (l.drop (n+1))+1:=by
 have hn:n<l.length:=(List.getElem?_eq_some_iff.mp h).1
 rw [List.drop_eq_getElem_cons hn]
 have e:l[n]=c:=(List.getElem?_eq_some_iff.mp h).2
 rw [e]
 show (if p c=true then gb p (l.drop (n+1))+1 else 0)=_
 rw [if_pos hp]
theorem Bf{p:Nat->Bool}{l:List Nat}{n:Nat}{c:Nat}(h:l[n]?=some c)(hp:p c=false):gb p (l.drop n)=0:=by
 have hn:n<l.length:=(List.getElem?_eq_some_iff.mp h).1
 rw [List.drop_eq_getElem_cons hn]
 have e:l[n]=c:=(List.getElem?_eq_some_iff.mp h).2
 rw [e]
 show (if p c=true then gb p (l.drop (n+1))+1 else 0)=_
 rw [hp]
 rfl
theorem Fy{p:Nat->Bool}{l:List Nat}{n:Nat}(h:l.length<=n):gb p (l.drop n)=0:=by
 rw [List.drop_eq_nil_of_le h]
 rfl
theorem Ck(c d:Nat):(!decide ((⟨#[d]⟩:Str).cps.toList<(⟨#[c]⟩:Str).cps.toList))=decide (c<=d):=by
 have:((⟨#[d]⟩:Str).cps.toList<(⟨#[c]⟩:Str).cps.toList) ↔ d<c:=by
  show ([d]:List Nat)<[c] ↔ d<c
  rw [List.cons_lt_cons_iff]
  constructor
  .rintro (h | ⟨_,h⟩)
   .exact h
   .exact absurd h (by simp)
  .exact .inl
 rw [decide_eq_decide.mpr this]
 by_cases h:d<c
 .rw [decide_eq_true h,decide_eq_false (by omega)];rfl
 .rw [decide_eq_false h,decide_eq_true (by omega)];rfl
theorem oO{b:Bool}{A B:Prop}(h1:b=true->A)(h2:b=false->B):if b=true then A else B:=by
 cases b with
 | true=>exact eG (B:=True) (h1 rfl)
 | false=>exact cJ (A:=True) (h2 rfl)
theorem uo(z:Str):z.cps.toList.length=z.length:=by simp [Str.length]
theorem yZ{z:Str}{i:Nat}(h:i<z.length):∃ c,z.cps.toList[i]?=some c/\z.cps[i]?=some c:=by
 have h':i<z.cps.size:=h
 exact ⟨z.cps[i],by simp [h'],by simp [h']⟩
noncomputable def GS(mg:Str->Option Value)(x z:Str):Prop:=∃ t,mg x=some (.str z t)
noncomputable def GI(mg:Str->Option Value)(x:Str)(i:Int):Prop:=∃ t,mg x=some (.int i t)
noncomputable def GT(K:PySem.W.Frag)(mg:Str->Option Value)(x:Str)(xs:List V):Prop:=∃ a,mg x=some (.ref a)/\∀ H,cZ K H a xs
noncomputable def Km:List V:=[.str "create",.str "table",.str "drop",.str "insert",.str "into",.str "values",.str "update",.str "set",.str "where",.str "delete",.str "from",.str "select",.str "order",.str "by",.str "desc",.str "limit",.str "begin",.str "commit",.str "rollback",.str "to",.str "savepoint",.str "int",.str "text",.str "not",.str "null",.str "unique",.str "or",.str "and",.str "is"]
noncomputable def xH:List V:=[.str "<>",.str "<=",.str ">="]
noncomputable def Dr:List V:=[.str "(",.str ")",.str ",",.str "=",.str "<",.str ">",.str "+",.str "-",.str "*"]
structure Vn(K:PySem.W.Frag)(mg:Str->Option Value):Prop where
 len:mg "len"=none
 all:mg "all"=none
 int:mg "int"=none
 name:GS mg "NAME" "name"
 kept:GS mg "KEPT" "kept"
 number:GS mg "NUMBER_words" "number"
 sign:GS mg "SIGN" "sign"
 quote:GS mg "QUOTE" "'"
 most:GI mg "MOST_FIGURES" 30
 words:GT K mg "KEPT_WORDS" Km
 long:GT K mg "LONG_SIGNS" xH
 short:GT K mg "SHORT_SIGNS" Dr
 betw:GT K mg "BETWEEN_WORDS" [.str " ",.str "\n"]
section
variable{P:Program}{w:World}{K:PySem.W.Frag}{mg:Str->Option Value}{base:Heap}
noncomputable def yS(p:Nat->Bool):Sp:=fun vs H Q _=>∃ c,vs=[.str ⟨#[c]⟩]/\Q (.bl (p c)) H
theorem Ew:aG ["sign"] ["sign"] (az qX):=d9
theorem Dh{f:Addr}{fd:FuncData}(F:dq K "is_letter" "is_letter" qX f fd):bf P w K mg base cX 1 f fd ["sign"] (yS lU):=by
 refine F.oq Ew ?_
 rintro _ _ _ _ H _ Q _ hr ⟨c,rfl,q⟩
 refine ⟨_,aq (aQ (yL sJ sJ aX (pv 0) aX)),?_⟩
 try dsimp only [bU]
 refine ⟨_,rfl,_,_,rfl,rfl,_,rfl,?_⟩
 have e1:(!decide ((⟨#[c]⟩:Str).cps.toList<("a":Str).cps.toList))=decide (97<=c):=Ck 97 c
 have e2:(!decide (("z":Str).cps.toList<(⟨#[c]⟩:Str).cps.toList))=decide (c<=122):=Ck c 122
 rw [e1]
 unfold lU at q
 refine oO (fun h=>⟨_,_,rfl,rfl,?_⟩) (fun h=>?_)
 .rw [h] at q
  rw [e2]
  exact q
 .rw [h] at q
  exact q
theorem Du:aG ["sign"] ["sign"] (az qU):=d9
theorem Cv{f:Addr}{fd:FuncData}(F:dq K "is_figure" "is_figure" qU f fd):bf P w K mg base cX 1 f fd ["sign"] (yS gY):=by
 refine F.oq Du ?_
 rintro _ _ _ _ H _ Q _ hr ⟨c,rfl,q⟩
 refine ⟨_,aq (aQ (yL sJ sJ aX (pv 0) aX)),?_⟩
 try dsimp only [bU]
 refine ⟨_,rfl,_,_,rfl,rfl,_,rfl,?_⟩
 have e1:(!decide ((⟨#[c]⟩:Str).cps.toList<("0":Str).cps.toList))=decide (48<=c):=Ck 48 c
 have e2:(!decide (("9":Str).cps.toList<(⟨#[c]⟩:Str).cps.toList))=decide (c<=57):=Ck c 57
 rw [e1]
 unfold gY at q
 refine oO (fun h=>⟨_,_,rfl,rfl,?_⟩) (fun h=>?_)
 .rw [h] at q
  rw [e2]
  exact q
 .rw [h] at q
  exact q
structure eZ(P:Program)(w:World)(K:PySem.W.Frag)(mg:Str->Option Value)(base:Heap)(k:Nat)(x:Str)(ps:List Str)(sp:Sp):Prop where
 ex:∃ (f:Addr) (fd:FuncData),mg x=some (.ref f)/\PySem.W.keepIn K (.ref f)=true/\bf P w K mg base cX k f fd ps sp/\dR K fd ps []
theorem PJ(c d:Nat):decide (V.str ⟨#[c]⟩=V.str ⟨#[d]⟩)=decide (c=d):=by
 have:(V.str ⟨#[c]⟩=V.str ⟨#[d]⟩) ↔ c=d:=⟨fun h=>by
  injection h with h
  injection h with h
  simpa using h,fun h=>by rw [h]⟩
 exact decide_eq_decide.mpr this
theorem wN:aG ["sign"] ["sign"] (az jZ):=d9
theorem wU{f:Addr}{fd:FuncData}(F:dq K "is_name_sign" "is_name_sign" jZ f fd)(GL:eZ P w K mg base 1 "is_letter" ["sign"] (yS lU))(GF:eZ P w K mg base 1 "is_figure" ["sign"] (yS gY)) :
  bf P w K mg base cX 2 f fd ["sign"] (yS sV):=by
 obtain ⟨fL,fdL,mL,kL,GL,bL⟩:=GL.ex
 obtain ⟨fF,fdF,mF,kF,GF,bF⟩:=GF.ex
 refine F.oq wN ?_
 rintro _ _ _ _ H _ Q _ hr ⟨c,rfl,q⟩
 refine ⟨_,aq (aQ (BL (aJ GL hr (by rfl) mL kL bL .nil aM (aa (pv 0) ao)) (BL (aJ GF hr (by rfl) mF kF bF .nil aM (aa (pv 0) ao)) (jH (eQ dG (pv 0) aX (bh _)))))),?_⟩
 try dsimp only [bU]
 unfold sV at q
 refine ⟨_,rfl,c,rfl,_,rfl,oO (fun h=>?_) (fun h=>?_)⟩
 .rw [h] at q
  exact q
 .rw [h] at q
  refine ⟨_,rfl,c,rfl,_,rfl,oO (fun h2=>?_) (fun h2=>?_)⟩
  .rw [h2] at q
   exact q
  .rw [h2] at q
   refine ⟨_,rfl,rfl,?_⟩
   have e:decide (V.str ⟨#[c]⟩=V.str ("_":Str))=decide (c=95):=PJ c 95
   rw [e]
   exact q
end
section
variable{P:Program}{w:World}{K:PySem.W.Frag}{mg:Str->Option Value}{base:Heap}
noncomputable def Eg(g:List Nat->Nat):Sp:=fun vs H Q _=>∃ (z:Str) (p:Nat),vs=[.str z,.int p]/\z.length<=1000000/\p<=z.length/\Q (.int ((p+g (z.cps.toList.drop p):Nat):Int)) H
theorem Tz(c:Nat):zy (.str ⟨#[c]⟩) [.str " ",.str "\n"]=lQ c:=by
 unfold zy lQ
 simp only [List.any_cons,List.any_nil,Bool.or_false]
 have e:∀ d:Nat,Rp (.str ⟨#[d]⟩) (.str ⟨#[c]⟩)=decide (c=d):=fun d=>by
  show ((⟨#[d]⟩:Str) == ⟨#[c]⟩)=decide (c=d)
  by_cases h:c=d
  .rw [h,decide_eq_true rfl];exact beq_self_eq_true _
  .rw [decide_eq_false h]
   refine beq_eq_false_iff_ne.mpr fun z=>h ?_
   injection z with z
   simpa using z.symm
 exact congr (congrArg or (e 32)) (e 10)
theorem rM:aG ["text","place"] ["text","place"] (az nF):=d9
theorem xn(F:dq K "skip_blanks" "skip_blanks" nF f fd)(T:Vn K mg):bf P w K mg base cX 1 f fd ["text","place"] (Eg (gb lQ)):=by
 obtain ⟨aB,mB,sB⟩:=T.betw
 refine F.oq rM ?_
 rintro _ A _ _ H _ Q _ hr ⟨z,p,rfl,hz,hp,q⟩
 refine ⟨_,ak (gP PassesOwn.never (yo (aZ wg (pv 1) (bw u0 (by rfl) T.len PySem.boot_len (aa (pv 0) ao)) (bh _)) (uL (aZ gW (iH (pv 0) (pv 1) (fun _ _=>rfl)) (aN (by rfl) mB (v:=.ref aB) rfl) (by rfl)))).pt
   (aq (O8 (i:=1) rM.nd rfl (Or.inl rfl) aF QF)))
  (aq (aQ (pv 1))),?_⟩
 try dsimp only [bU]
 refine ⟨fun m σ H'=>∃ n:Nat,m+n=z.length/\n<=z.length/\p+gb lQ (z.cps.toList.drop p)=n+gb lQ (z.cps.toList.drop n)/\σ=[some (.str z),some (.int n)]/\H'=H,⟨z.length - p,p,by omega,hp,rfl,rfl,rfl⟩,?_⟩
 rintro m σ H' ⟨n,hmn,hn,hq,rfl,rfl⟩
 refine ⟨_,rfl,_,rfl,_,z.length,rfl,⟨Nat.le_trans hz (by decide),rfl⟩,_,_,rfl,rfl,_,rfl,oO (fun h=>?_) (fun h=>?_)⟩
 .have hlt:n<z.length:=by have:=of_decide_eq_true h;omega
  obtain ⟨c,hc,hc'⟩:=yZ hlt
  refine ⟨_,rfl,_,rfl,z,n,c,rfl,rfl,by omega,by omega,by omega,hc',aB,_,rfl,.inr (sB _),rfl,rfl,_,rfl,?_⟩
  show if (zy (.str ⟨#[c]⟩) [.str " ",.str "\n"])=true then _ else _
  rw [Tz]
  refine oO (fun hb=>?_) (fun hb=>?_)
  .refine ⟨fun σ' H2=>∃ n':Nat,n'=n+1/\σ'=[some (.str z),some (.int n')]/\H2=H',?_,_,rfl,_,_,rfl,rfl,n+1,rfl,by simp,rfl⟩
   rintro σ' H2 ⟨n',rfl,rfl,rfl⟩
   exact ⟨z.length - (n+1),by omega,n+1,by omega,by omega,by rw [hq,Bt hc hb];omega,rfl,rfl⟩
  .refine ⟨_,rfl,?_⟩
   rw [hq,Bf hc hb] at q
   exact q
 .have hge:z.length<=n:=by have:=of_decide_eq_false h;omega
  refine cJ (A:=True) ⟨_,rfl,?_⟩
  rw [hq,Fy (by rw [uo];exact hge)] at q
  exact q
theorem kh:aG ["text","place"] ["text","place"] (az iR):=d9
theorem ud(F:dq K "skip_name_signs" "skip_name_signs" iR f fd)(T:Vn K mg)(G:eZ P w K mg base 2 "is_name_sign" ["sign"] (yS sV)):bf P w K mg base cX 3 f fd ["text","place"] (Eg (gb sV)):=by
 obtain ⟨fN,fdN,mN,kN,GN,bN⟩:=G.ex
 refine F.oq kh ?_
 rintro _ A _ _ H _ Q _ hr ⟨z,p,rfl,hz,hp,q⟩
 refine ⟨_,ak (gP PassesOwn.never (yo (aZ wg (pv 1) (bw u0 (by rfl) T.len PySem.boot_len (aa (pv 0) ao)) (bh _)) (uL (cu (aJ GN hr (by rfl) mN kN bN .nil aM (aa (iH (pv 0) (pv 1) (fun _ _=>rfl)) ao))))).pt
   (aq (O8 (i:=1) kh.nd rfl (Or.inl rfl) aF QF)))
  (aq (aQ (pv 1))),?_⟩
 try dsimp only [bU]
 refine ⟨fun m σ H'=>∃ n:Nat,m+n=z.length/\n<=z.length/\p+gb sV (z.cps.toList.drop p)=n+gb sV (z.cps.toList.drop n)/\σ=[some (.str z),some (.int n)]/\H'=H,⟨z.length - p,p,by omega,hp,rfl,rfl,rfl⟩,?_⟩
 rintro m σ H' ⟨n,hmn,hn,hq,rfl,rfl⟩
 refine ⟨_,rfl,_,rfl,_,z.length,rfl,⟨Nat.le_trans hz (by decide),rfl⟩,_,_,rfl,rfl,_,rfl,oO (fun h=>?_) (fun h=>?_)⟩
 .have hlt:n<z.length:=by have:=of_decide_eq_true h;omega
  obtain ⟨c,hc,hc'⟩:=yZ hlt
  refine ⟨_,rfl,_,rfl,z,n,c,rfl,rfl,by omega,by omega,by omega,hc',c,rfl,_,rfl,?_⟩
  refine oO (fun hb=>?_) (fun hb=>?_)
  .refine ⟨fun σ' H2=>∃ n':Nat,n'=n+1/\σ'=[some (.str z),some (.int n')]/\H2=H',?_,_,rfl,_,_,rfl,rfl,n+1,rfl,by simp,rfl⟩
   rintro σ' H2 ⟨n',rfl,rfl,rfl⟩
   exact ⟨z.length - (n+1),by omega,n+1,by omega,by omega,by rw [hq,Bt hc hb];omega,rfl,rfl⟩
  .refine ⟨_,rfl,?_⟩
   rw [hq,Bf hc hb] at q
   exact q
 .have hge:z.length<=n:=by have:=of_decide_eq_false h;omega
  refine cJ (A:=True) ⟨_,rfl,?_⟩
  rw [hq,Fy (by rw [uo];exact hge)] at q
  exact q
end
section
variable{P:Program}{w:World}{K:PySem.W.Frag}{mg:Str->Option Value}{base:Heap}
theorem Lk(z:Str)(a b:Nat)(h:a<=z.length)(hb:a<=b):DN z (some (a:Int)) (some (b:Int))=⟨((z.cps.toList.drop a).take (b - a)).toArray⟩:=by
 unfold DN Hw
 have hl:=uo z
 have e1:HT.oZ z.cps.toList.length 0 (some (a:Int))=a:=by
  unfold HT.oZ
  simp only [show ¬ ((a:Int)<0) by omega,if_false]
  omega
 rw [e1]
 by_cases hbz:b<=z.length
 .have e2:HT.oZ z.cps.toList.length z.cps.toList.length (some (b:Int))=b:=by
   unfold HT.oZ
   simp only [show ¬ ((b:Int)<0) by omega,if_false]
   omega
  rw [e2]
 .have e2:HT.oZ z.cps.toList.length z.cps.toList.length (some (b:Int))=z.cps.toList.length:=by
   unfold HT.oZ
   simp only [show ¬ ((b:Int)<0) by omega,if_false]
   omega
  rw [e2,List.take_of_length_le (l:=z.cps.toList.drop a) (by rw [List.length_drop];omega),List.take_of_length_le (by rw [List.length_drop];omega)]
theorem Hg(c:Nat):decide (V.str ⟨#[c]⟩=V.str ("'":Str))=decide (c=39):=PJ c 39
noncomputable def Ut:Sp:=fun vs H Q _=>∃ (z:Str) (p:Nat),vs=[.str z,.int p]/\z.length<=1000000/\p<z.length/\39∉z.cps.toList/\Q (.int ((p+uI (z.cps.toList.drop p):Nat):Int)) H
theorem RW(l:List Nat):zy (.str ⟨l.toArray⟩) xH=vG l:=by
 unfold zy vG xH
 simp only [List.any_cons,List.any_nil,Bool.or_false]
 have e:∀ d:List Nat,Rp (.str ⟨d.toArray⟩) (.str ⟨l.toArray⟩)=decide (l=d):=fun d=>by
  show ((⟨d.toArray⟩:Str) == ⟨l.toArray⟩)=decide (l=d)
  by_cases h:l=d
  .rw [h,decide_eq_true rfl];exact beq_self_eq_true _
  .rw [decide_eq_false h]
   refine beq_eq_false_iff_ne.mpr fun z=>h ?_
   injection z with z
   simpa using z.symm
 exact congr (congrArg or (e [60,62])) (congr (congrArg or (e [60,61])) (e [62,61]))
theorem Gv:aG ["text","start"] ["text","start"] (az ur):=d9
theorem Gw(F:dq K "find_end" "find_end" ur f fd)(T:Vn K mg)(GL:eZ P w K mg base 1 "is_letter" ["sign"] (yS lU))(GF:eZ P w K mg base 1 "is_figure" ["sign"] (yS gY))
  (GN:eZ P w K mg base 3 "skip_name_signs" ["text","place"] (Eg (gb sV))):bf P w K mg base cX 4 f fd ["text","start"] Ut:=by
 obtain ⟨fL,fdL,mL,kL,GL,bL⟩:=GL.ex
 obtain ⟨fF,fdF,mF,kF,GF,bF⟩:=GF.ex
 obtain ⟨fN,fdN,mN,kN,GN,bN⟩:=GN.ex
 obtain ⟨tq,mq⟩:=T.quote
 obtain ⟨aL,maL,sL⟩:=T.long
 refine F.oq Gv ?_
 rintro _ A _ _ H _ Q _ hr ⟨z,p,rfl,hz,hp,h39,q⟩
 have hr1:cO 1 _:=hr.mono (by decide)
 refine ⟨_,ak (bu (lZ (cu (aJ GL hr1 (by rfl) mL kL bL .nil aM (aa (iH (pv 0) (pv 1) (fun _ _=>rfl)) ao))) (pB (cu (aJ GF hr1 (by rfl) mF kF bF .nil aM (aa (iH (pv 0) (pv 1) (fun _ _=>rfl)) ao))))).pt
   (aq (aQ (aJ GN hr (by rfl) mN kN bN .nil aM (aa (pv 0) (aa (pv 1) ao))))) aU)
  (ak (bu (aZ dG (iH (pv 0) (pv 1) (fun _ _=>rfl)) (aN (by rfl) mq (v:=.str "'") ⟨_,rfl⟩) (bh _))
   aV aU)
  (ak (bu (aZ gW (qH Q8 (pv 0) (mQ (pv 1)) (mQ (cD gU (pv 1) aF))) (aN (by rfl) maL (v:=.ref aL) rfl) (by rfl))
   (aq (aQ (cD gU (pv 1) aF))) aU)
  (aq (aQ (cD gU (pv 1) aF))))),?_⟩
 try dsimp only [bU]
 obtain ⟨c,hc,hc'⟩:=yZ hp
 have hd:z.cps.toList.drop p=c::z.cps.toList.drop (p+1):=by
  rw [List.drop_eq_getElem_cons (by rw [uo];exact hp)]
  rw [(List.getElem?_eq_some_iff.mp hc).2]
 have ew:uI (z.cps.toList.drop p)=if (lU c || gY c)=true then gb sV (z.cps.toList.drop p) else if vG ((z.cps.toList.drop p).take 2)=true then 2 else 1:=by
  rw [hd];rfl
 rw [ew] at q
 refine ⟨_,rfl,_,rfl,z,p,c,rfl,rfl,by omega,by omega,by omega,hc',c,rfl,_,rfl,?_⟩
 have yes:(lU c || gY c)=true->Q (.int ((p+gb sV (z.cps.toList.drop p):Nat):Int)) H:=fun h=>by
  rw [if_pos h] at q;exact q
 refine oO (fun h1=>eG (B:=True) ⟨_,rfl,_,rfl,z,p,rfl,hz,by omega,yes (by rw [h1];rfl)⟩) (fun h1=>⟨_,rfl,_,rfl,z,p,c,rfl,rfl,by omega,by omega,by omega,hc',c,rfl,_,rfl,oO (fun h2=>⟨_,rfl,_,rfl,z,p,rfl,hz,by omega,yes (by rw [h2,Bool.or_true])⟩) (fun h2=>?_)⟩)
 have no:¬ (lU c || gY c)=true:=by rw [h1,h2];decide
 rw [if_neg no] at q
 refine ⟨_,rfl,_,rfl,z,p,c,rfl,rfl,by omega,by omega,by omega,hc',rfl,_,rfl,?_⟩
 rw [Hg,decide_eq_false fun e=>h39 (List.mem_of_getElem? (by rw [hc,e]))]
 refine cJ (A:=True) ?_
 refine ⟨_,rfl,_,rfl,_,rfl,_,rfl,_,_,rfl,rfl,_,rfl,z,rfl,Nat.le_trans hz (by decide),aL,_,rfl,.inr (sL _),rfl,rfl,_,rfl,?_⟩
 have e:DN z (some (p:Int)) (some ((p:Int)+2))=⟨((z.cps.toList.drop p).take 2).toArray⟩:=by
  have:=Lk z p (p+2) (by omega) (by omega)
  rw [show p+2 - p=2 by omega] at this
  exact this
 show if (zy (.str (DN z (some (p:Int)) (some ((p:Int)+2)))) xH)=true then _ else _
 rw [e,RW]
 refine oO (fun h4=>?_) (fun h4=>?_)
 .rw [if_pos h4] at q
  exact ⟨_,rfl,_,_,rfl,rfl,q⟩
 .rw [if_neg (by rw [h4];decide)] at q
  exact ⟨_,rfl,_,_,rfl,rfl,q⟩
end
noncomputable def J0(z:Str):Int:=(PySem.intText? z).getD 0
noncomputable def Qm(z:Str):Bool:=decide (z.length<=30) && z.cps.toList.all gY
noncomputable def JN(z:Str):Str × V:=if Qm z=true then ("number",.int (J0 z)) else ("wrong",.str z)
noncomputable def N7(z:Str):Bool:=zy (.str z) Km
noncomputable def KY(z:Str):Bool:=zy (.str z) xH || zy (.str z) Dr
noncomputable def jN(z:Str):Str × V:=match z.cps.toList with
 | []=>("wrong",.str z)
 | c::_=>if lU c=true then (if N7 z=true then ("kept",.str z) else ("name",.str z)) else if gY c=true then JN z else if KY z=true then ("sign",.str z) else ("wrong",.str z)
section
variable{P:Program}{w:World}{K:PySem.W.Frag}{mg:Str->Option Value}{base:Heap}
noncomputable def RZ(g:Str->Str × V)(pre:Str->Prop):Sp:=fun vs H Q _=>∃ z:Str,vs=[.str z]/\0<z.length/\z.length<=1000000/\pre z/\∀ (t:Addr) (H':Hp),H t=none->aR H H'->H' t=some (.tup [.str (g z).1,(g z).2])->Q (.ref t) H'
theorem DX{z:Str}(h:z.cps.toList.all gY=true):NumText.AllDigits z.cps.toList:=fun c hc=>by
 have:=List.all_eq_true.mp h c hc
 unfold gY at this
 simp only [Bool.and_eq_true,decide_eq_true_eq] at this
 omega
theorem Hz{z:Str}(h:0<z.length):∃ c r,z.cps.toList=c::r:=by
 cases e:z.cps.toList with
 | nil=>have:=uo z;rw [e] at this;simp at this;omega
 | cons c r=>exact ⟨c,r,rfl⟩
theorem yF:aG ["written"] ["written"] (az oh):=d9
theorem yU{f:Addr}{fd:FuncData}(F:dq K "make_number" "make_number" oh f fd)(T:Vn K mg)(GF:eZ P w K mg base 1 "is_figure" ["sign"] (yS gY)):bf P w K mg base cX 2 f fd ["written"] (RZ JN fun z=>Qm z=true):=by
 obtain ⟨fF,fdF,mF,kF,GF,bF⟩:=GF.ex
 obtain ⟨tn,mn⟩:=T.number
 obtain ⟨tm,mm⟩:=T.most
 refine F.oq yF ?_
 rintro _ A _ s H _ Q _ hr ⟨z,rfl,h0,hz,ok,q⟩
 refine ⟨_,ak (bu (lZ (aZ yl (bw u0 (by rfl) T.len PySem.boot_len (aa (pv 0) ao)) (aN (by rfl) mm (v:=.int 30) ⟨_,rfl⟩) (bh _))
   (pB (fU (cu (bw (vD rfl) (by rfl) T.all PyProof.Rows.Boot.«all» (aa (jg (x := "sign") (fv:=[]) (js:=[]) (cl:=[]) rfl
    ⟨by with_unfolding_all rfl,rfl,dk,dk,rfl,dk,trivial,by exact ⟨fun z=>(by rcases z with z | z <;> cases z),fun z=>(by rcases z with z | z <;> cases z),fun z=>(by rcases z with z | z <;> cases z),trivial⟩,trivial,fun _=>rfl⟩
    (Vj (pv 0)) (fun pins fp s H=>aJ GF hr (by rfl) mF kF bF .nil aM (aa (pv 0) ao))) ao)))))).pt
   aV aU)
  (aq (aQ (b8 (aa (aN (by rfl) mn (v:=.str "number") ⟨_,rfl⟩) (aa (dN zO (by rfl) T.int PyProof.Rows.boot_int (aa (pv 0) ao)) ao))))),?_⟩
 try dsimp only [bU]
 have e:JN z=(("number":Str),V.int (J0 z)):=if_pos ok
 obtain ⟨hle,ha⟩:=Bool.and_eq_true_iff.mp ok
 replace hle:=of_decide_eq_true hle
 rw [e] at q
 refine ⟨_,rfl,_,z.length,rfl,⟨Nat.le_trans hz (by decide),rfl⟩,_,_,rfl,rfl,_,rfl,oO (fun h=>by have:=of_decide_eq_true h;omega) fun h=>?_⟩
 refine ⟨_,rfl,z,rfl,fun D hD=>?_⟩
 refine zG (fun c=>.bl (gY c)) (Nat.le_trans hz (by decide)) hD (fun i c Hc k hc sm q=>⟨_,rfl,c,rfl,q⟩) ?_
 refine ⟨D,z.cps.toList.map gY,rfl,c7.of (by rw [aj,List.map_map];rfl),?_⟩
 have ea:(z.cps.toList.map gY).all id=z.cps.toList.all gY:=by rw [List.all_map];rfl
 rw [ea,ha]
 obtain ⟨c,r,hcr⟩:=Hz h0
 have hi:=intText_digits (DX ha) (by rw [hcr];simp) (Nat.le_trans hle (by decide))
 have hn:PySem.intText? z=some (J0 z):=by
  unfold J0
  rw [hi];rfl
 exact ⟨_,rfl,cJ (A:=True) ⟨_,rfl,z,_,rfl,hn,Nat.le_trans hle (by decide),zF,fun t ht=>q t _ ((au hD).free ht) ((au hD).trans (au ht)) aj⟩⟩
end
noncomputable def JL(z:Str):Prop:=(jN z).1≠"wrong"
noncomputable def gh:Nat->List Nat->List (List Nat)
 | 0,_=>[]
 | k+1,cs=>match cs.drop (gb lQ cs) with
  | []=>[]
  | c::r=>(c::r).take (uI (c::r))::gh k ((c::r).drop (uI (c::r)))
noncomputable abbrev mkS(l:List Nat):Str:=⟨l.toArray⟩
noncomputable def iU(z:Str):List (Str × V):=(gh z.length z.cps.toList).map fun l=>jN (mkS l)
theorem rZ(p:Nat->Bool):∀ l:List Nat,gb p (l.drop (gb p l))=0
 | []=>rfl
 | c::r=>by
  by_cases h:p c=true
  .have e:gb p (c::r)=gb p r+1:=by
    show (if p c=true then gb p r+1 else 0)=_
    rw [if_pos h]
   rw [e,List.drop_succ_cons]
   exact rZ p r
  .have e:gb p (c::r)=0:=by
    show (if p c=true then gb p r+1 else 0)=_
    rw [if_neg h]
   rw [e,List.drop_zero,e]
theorem vV(k:Nat)(l:List Nat):gh k (l.drop (gb lQ l))=gh k l:=by
 cases k with
 | zero=>rfl
 | succ k =>
  unfold gh
  rw [rZ,List.drop_zero]
theorem LC(k:Nat)(c:Nat)(r:List Nat)(h:gb lQ (c::r)=0):gh (k+1) (c::r)=(c::r).take (uI (c::r))::gh k ((c::r).drop (uI (c::r))):=by
 have e:(c::r).drop (gb lQ (c::r))=c::r:=by rw [h];rfl
 show (match (c::r).drop (gb lQ (c::r)) with
  | []=>[]
  | c::r=>(c::r).take (uI (c::r))::gh k ((c::r).drop (uI (c::r))))=_
 rw [e]
theorem Jk(k:Nat):gh k []=[]:=by
 cases k <;> rfl
noncomputable def Ye(H:Hp)(kv:Str × V)(r:V):Prop:=∃ t,r=.ref t/\H t=some (.tup [.str kv.1,kv.2])
noncomputable abbrev RJ(H:Hp)(ws:List (Str × V))(rs:List V):Prop:=Paired (Ye H) ws rs
theorem Ye.same(s:aR H H')(h:Ye H kv r):Ye H' kv r:=by
 obtain ⟨t,e,q⟩:=h
 exact ⟨t,e,s _ _ q⟩
theorem xF(p:Paired R a b)(h:R x y):Paired R (a++[x]) (b++[y]):=by
 induction p with
 | nil=>exact .cons h .nil
 | cons x _ ih=>exact .cons x ih
section
variable{P:Program}{w:World}{K:PySem.W.Frag}{mg:Str->Option Value}{base:Heap}
theorem LR:Km.all jE=true:=by rfl
theorem uQ:aG ["written","first"] ["written"] (az rD):=d9
theorem De(F:dq K "make_word" "make_word" rD f fd)(T:Vn K mg)(GL:eZ P w K mg base 1 "is_letter" ["sign"] (yS lU))(GF:eZ P w K mg base 1 "is_figure" ["sign"] (yS gY))
  (GN:eZ P w K mg base 2 "make_number" ["written"] (RZ JN fun z=>Qm z=true)):bf P w K mg base cX 3 f fd ["written"] (RZ jN fun z=>39∉z.cps.toList/\JL z):=by
 obtain ⟨fL,fdL,mL,kL,GL,bL⟩:=GL.ex
 obtain ⟨fF,fdF,mF,kF,GF,bF⟩:=GF.ex
 obtain ⟨fN,fdN,mN,kN,GN,bN⟩:=GN.ex
 obtain ⟨tq,mq⟩:=T.quote
 obtain ⟨tn,mn⟩:=T.name
 obtain ⟨tk,mk⟩:=T.kept
 obtain ⟨ts,ms⟩:=T.sign
 obtain ⟨aK,maK,sK⟩:=T.words
 obtain ⟨aL,maL,sL⟩:=T.long
 obtain ⟨aS,maS,sS⟩:=T.short
 refine F.oq uQ ?_
 rintro _ A _ _ H _ Q _ hr ⟨z,rfl,h0,hz,⟨hq,hp⟩,q⟩
 have hr1:cO 1 _:=hr.mono (by decide)
 refine ⟨_,ak (bc (i:=1) uQ.nd rfl (Or.inl rfl) (iH (pv 0) aF (fun _ _=>rfl)))
  (ak (bu (cu (aJ GL hr1 (by rfl) mL kL bL .nil aM (aa (pv 1) ao)))
   (aq (aQ (b8 (aa (ig (aZ gW (pv 0) (aN (by rfl) maK (v:=.ref aK) rfl) (by rfl)) (aN (by rfl) mk (v:=.str "kept") ⟨_,rfl⟩) (aN (by rfl) mn (v:=.str "name") ⟨_,rfl⟩)) (aa (pv 0) ao))))) aU)
  (ak (bu (cu (aJ GF hr1 (by rfl) mF kF bF .nil aM (aa (pv 1) ao)))
   (aq (aQ (aJ GN hr (by rfl) mN kN bN .nil aM (aa (pv 0) ao)))) aU)
  (ak (bu (aZ dG (pv 1) (aN (by rfl) mq (v:=.str "'") ⟨_,rfl⟩) (bh _))
   aV aU)
  (ak (bu (lZ (aZ gW (pv 0) (aN (by rfl) maL (v:=.ref aL) rfl) (by rfl)) (pB (aZ gW (pv 0) (aN (by rfl) maS (v:=.ref aS) rfl) (by rfl)))).pt
   (aq (aQ (b8 (aa (aN (by rfl) ms (v:=.str "sign") ⟨_,rfl⟩) (aa (pv 0) ao))))) aU)
  aV)))),?_⟩
 try dsimp only [bU]
 obtain ⟨c,hc,hc'⟩:=yZ h0
 obtain ⟨c2,r,hcr⟩:=Hz h0
 have ec:c2=c:=by rw [hcr] at hc;simpa using hc
 subst ec
 have two:2<=sizeLine:=by decide
 have ew:jN z=if lU c2=true then (if N7 z=true then (("kept":Str),V.str z) else (("name":Str),V.str z)) else if gY c2=true then JN z else if KY z=true then (("sign":Str),V.str z) else (("wrong":Str),V.str z):=by
  unfold jN
  rw [hcr]
 unfold JL at hp
 rw [ew] at q hp
 refine ⟨_,rfl,z,0,c2,rfl,rfl,by omega,by omega,by omega,hc',?_⟩
 refine ⟨_,rfl,c2,rfl,_,rfl,oO (fun h1=>?_) (fun h1=>?_)⟩
 .rw [if_pos h1] at q
  refine ⟨_,rfl,aK,_,rfl,.inr (sK _),rfl,LR,_,rfl,?_⟩
  show if N7 z=true then _ else _
  refine oO (fun h2=>?_) (fun h2=>?_)
  .rw [if_pos h2] at q
   exact ⟨_,rfl,two,fun t ht=>q t _ ht (au ht) aj⟩
  .rw [if_neg (by rw [h2];decide)] at q
   exact ⟨_,rfl,two,fun t ht=>q t _ ht (au ht) aj⟩
 .rw [if_neg (by rw [h1];decide)] at q hp
  refine ⟨_,rfl,c2,rfl,_,rfl,oO (fun h2=>?_) (fun h2=>?_)⟩
  .rw [if_pos h2] at q hp
   exact ⟨_,rfl,z,rfl,h0,hz,by unfold JN at hp;split at hp;assumption;exact absurd rfl hp,q⟩
  .rw [if_neg (by rw [h2];decide)] at q hp
   have hs:KY z=true:=by split at hp;assumption;exact absurd rfl hp
   rw [if_pos hs] at q
   refine ⟨_,rfl,rfl,_,rfl,?_⟩
   rw [Hg,decide_eq_false fun e=>?_]
   .refine cJ (A:=True) ⟨_,rfl,aL,_,rfl,.inr (sL _),rfl,rfl,_,rfl,oO (fun h4=>eG (B:=True) ⟨_,rfl,two,fun t ht=>q t _ ht (au ht) aj⟩) fun h4=>⟨_,rfl,aS,_,rfl,.inr (sS _),rfl,rfl,_,rfl,oO (fun h5=>⟨_,rfl,two,fun t ht=>q t _ ht (au ht) aj⟩) fun h5=>?_⟩⟩
    unfold KY at hs
    rw [show zy (.str z) Dr=false from h5,show zy (.str z) xH=false from h4] at hs
    cases hs
   .subst e
    exact hq (by rw [hcr];exact .head _)
noncomputable def JV:Sp:=fun vs H Q _=>∃ z:Str,vs=[.str z]/\z.length<=1000000/\39∉z.cps.toList/\(∀ l∈gh z.length z.cps.toList,JL (mkS l)) /\
 ∀ (l:Addr) (rs:List V) (H':Hp),H l=none->aR H H'->H' l=some (.lst rs)->RJ H' (iU z) rs->Q (.ref l) H'
theorem gR:aG ["text","words","place","behind"] ["text"] (az m7):=d9
theorem zq(F:dq K "split_words" "split_words" m7 f fd)(T:Vn K mg)(GB:eZ P w K mg base 1 "skip_blanks" ["text","place"] (Eg (gb lQ)))
  (GE:eZ P w K mg base 4 "find_end" ["text","start"] Ut) (GW:eZ P w K mg base 3 "make_word" ["written"] (RZ jN fun z=>39∉z.cps.toList/\JL z)):bf P w K mg base cX 5 f fd ["text"] JV:=by
 obtain ⟨fB,fdB,mB,kB,GB,bB⟩:=GB.ex
 obtain ⟨fE,fdE,mE,kE,GE,bE⟩:=GE.ex
 obtain ⟨fW,fdW,mW,kW,GW,bW⟩:=GW.ex
 refine F.oq gR ?_
 rintro _ _ _ s H _ Q _ hr ⟨z,rfl,hz,hq,hp,q⟩
 have hr1:cO 1 _:=hr.mono (by decide)
 have hr3:cO 3 _:=hr.mono (by decide)
 refine ⟨_,ak (bc (i:=1) gR.nd rfl (Or.inl rfl) (eO ao))
  (ak (bc (i:=2) gR.nd rfl (Or.inl rfl) (aJ GB hr1 (by rfl) mB kB bB .nil aM (aa (pv 0) (aa aF ao))))
  (ak (gP PassesOwn.never (aZ wg (pv 2) (bw u0 (by rfl) T.len PySem.boot_len (aa (pv 0) ao)) (bh _))
   (ak (bc (i:=3) gR.nd rfl (Or.inl rfl) (aJ GE hr (by rfl) mE kE bE .nil aM (aa (pv 0) (aa (pv 2) ao))))
   (ak (bz (lB PySem.F.plainAttrs_list PySem.F.slot_list_append PySem.F.type_list_append gj (pv 1) (aa (aJ GW hr3 (by rfl) mW kW bW .nil aM (aa (qH Q8 (pv 0) (mQ (pv 2)) (mQ (pv 3))) ao)) ao)))
   (aq (bc (i:=2) gR.nd rfl (Or.inl rfl) (aJ GB hr1 (by rfl) mB kB bB .nil aM (aa (pv 0) (aa (pv 3) ao))))))))
  (aq (aQ (pv 1))))),?_⟩
 try dsimp only [bU]
 refine ⟨Wx,fun l hl=>?_⟩
 refine ⟨_,rfl,z,0,rfl,hz,Nat.zero_le _,?_⟩
 have lenz:=uo z
 refine ⟨fun m σ H'=>∃ (n k:Nat) (dn:List (List Nat)) (rs:List V) (o:Option V),m+n=z.length/\n<=z.length/\z.length<=n+k/\gb lQ (z.cps.toList.drop n)=0/\gh z.length z.cps.toList=dn++gh k (z.cps.toList.drop n)/\rs.length<=n /\
  H' l=some (.lst rs)/\RJ H' (dn.map fun l=>jN (mkS l)) rs/\aR H H'/\σ=[some (.str z),some (.ref l),some (.int n),o],?_,?_⟩
 .refine ⟨z.length - gb lQ z.cps.toList,gb lQ z.cps.toList,z.length,[],[],none,?_,?_,?_,rZ _ _,?_,Nat.zero_le _,aj,.nil,au hl,?_⟩
  .have:=uF lQ z.cps.toList;omega
  .have:=uF lQ z.cps.toList;omega
  .omega
  .rw [vV];rfl
  .simp
   rfl
 .rintro m σ H1 ⟨n,k,dn,rs,o,hmn,hn,hk,hb,hpc,hrs,h1,ws,s1,rfl⟩
  refine ⟨_,rfl,_,rfl,_,z.length,rfl,⟨Nat.le_trans hz (by decide),rfl⟩,_,_,rfl,rfl,_,rfl,oO (fun h=>?_) (fun h=>?_)⟩
  .have hlt:n<z.length:=by have:=of_decide_eq_true h;omega
   obtain ⟨c,hc,hc'⟩:=yZ hlt
   have hd:z.cps.toList.drop n=c::z.cps.toList.drop (n+1):=by
    rw [List.drop_eq_getElem_cons (by rw [uo];exact hlt)]
    rw [(List.getElem?_eq_some_iff.mp hc).2]
   obtain ⟨k',rfl⟩:∃ k',k=k'+1:=⟨k - 1,by omega⟩
   have e1:=QW c (z.cps.toList.drop (n+1))
   have e2:=Tq (z.cps.toList.drop n)
   rw [List.length_drop] at e2
   rw [<- hd] at e1
   have hon:gh (k'+1) (z.cps.toList.drop n)=(z.cps.toList.drop n).take (uI (z.cps.toList.drop n))::gh k' ((z.cps.toList.drop n).drop (uI (z.cps.toList.drop n))):=by
    rw [hd]
    exact LC k' _ _ (by rw [<- hd];exact hb)
   generalize hwe:uI (z.cps.toList.drop n)=we at *
   rw [List.drop_drop] at hon
   have hcut:DN z (some (n:Int)) (some (((n+we:Nat):Nat):Int))=mkS ((z.cps.toList.drop n).take we):=by
    have:=Lk z n (n+we) hn (by omega)
    rw [show n+we - n=we by omega] at this
    exact this
   have hlen:(mkS ((z.cps.toList.drop n).take we)).length=we:=by
    show (((z.cps.toList.drop n).take we).toArray).size=we
    rw [List.size_toArray,List.length_take,List.length_drop]
    omega
   refine ⟨fun σ' H'=>∃ (t:Addr),aR H H'/\H' l=some (.lst (rs++[.ref t]))/\RJ H' ((dn++[(z.cps.toList.drop n).take we]).map fun l=>jN (mkS l)) (rs++[.ref t]) /\
    σ'=[some (.str z),some (.ref l),some (.int ((n+we+gb lQ (z.cps.toList.drop (n+we)):Nat):Int)),some (.int ((n+we:Nat):Int))],?_,?_⟩
   .rintro σ' H' ⟨t,s',hl',ws',rfl⟩
    have e3:=uF lQ (z.cps.toList.drop (n+we))
    have hdd:z.cps.toList.drop (n+we+gb lQ (z.cps.toList.drop (n+we)))=(z.cps.toList.drop (n+we)).drop (gb lQ (z.cps.toList.drop (n+we))):=by rw [List.drop_drop]
    rw [List.length_drop] at e3
    refine ⟨z.length - (n+we+gb lQ (z.cps.toList.drop (n+we))),by omega,n+we+gb lQ (z.cps.toList.drop (n+we)),k',dn++[(z.cps.toList.drop n).take we],rs++[.ref t],some (.int ((n+we:Nat):Int)),by omega,by omega,by omega,?_,?_,?_,hl',ws',s',rfl⟩
    .rw [hdd];exact rZ _ _
    .rw [hpc,hon,hdd,vV,List.append_assoc];rfl
    .rw [List.length_append];show rs.length+1<=_;omega
   .refine ⟨_,rfl,_,rfl,z,n,rfl,hz,hlt,hq,?_⟩
    rw [hwe]
    refine ⟨_,rfl,.inl ⟨rfl,_,c7.of h1⟩,_,rfl,_,rfl,_,rfl,_,rfl,_,rfl,z,rfl,Nat.le_trans hz (by decide),?_⟩
    refine ⟨_,rfl,by rw [hcut,hlen];omega,by rw [hcut,hlen];omega,by rw [hcut];exact ⟨fun e=>hq (List.mem_of_mem_drop (List.mem_of_mem_take (by simpa using e))),hp _ (by rw [hpc,hon];simp)⟩,fun t H2 ht s2 h2=>?_⟩
    rw [hcut] at h2
    have htl:t≠l:=fun z=>by rw [z,h1] at ht;cases ht
    refine ⟨l,rs,_,rfl,rfl,s2 _ _ h1,Nat.lt_of_le_of_lt (Nat.le_trans hrs (Nat.le_trans hn hz)) (by decide),?_⟩
    have s3:aR H (bQ H2 l (.lst (rs++[.ref t]))):=fun b u e=>by
     rw [aA (aO e hl)]
     exact s2 _ _ (s1 _ _ e)
    refine ⟨_,rfl,_,rfl,z,n+we,rfl,hz,by omega,t,s3,aj,?_,rfl⟩
    rw [List.map_append]
    refine xF (L2.Paired.imp' (fun kv r z=>?_) ws) ⟨t,rfl,by rw [aA htl];exact h2⟩
    obtain ⟨t',e,q⟩:=z
    exact ⟨t',e,by rw [aA (gA q h1 (by intro z;cases z))];exact s2 _ _ q⟩
  .have hge:z.length<=n:=by have:=of_decide_eq_false h;omega
   refine ⟨_,rfl,q l rs H1 hl s1 h1 ?_⟩
   unfold iU
   rw [hpc,List.drop_eq_nil_of_le (by rw [lenz];exact hge),Jk,List.append_nil]
   exact ws
end
noncomputable abbrev Wd:=Str × V
noncomputable def cM(ws:List Wd)(n:Nat):Wd:=(ws[n]?).getD ("end",.str "")
noncomputable def eX(ws:List Wd)(n:Nat)(cs:List V):Bool:=zy (.str (cM ws n).1) [.str "kept",.str "sign"] && zy (cM ws n).2 cs
noncomputable def oN(l:Addr)(n:Nat):List (Str × V):=[("words",.ref l),("passed",.int n),("within",.int 0)]
theorem Gy(l:Addr)(n j:Nat):eU "passed" (.int j) (oN l n)=oN l j:=by rfl
noncomputable def cg(A:List Addr)(H H':Hp):Prop:=∀ b o,H b=some o->b∉A->H' b=some o
theorem aR.step(s:aR H H'):cg A H H':=fun b o e _=>s b o e
theorem cg.trans(s:cg A H H1)(t:cg A H1 H2):cg A H H2:=fun b o e n=>t b o (s b o e n) n
theorem cg.mono(s:cg A H H')(h:∀ a∈A,a∈B):cg B H H':=fun b o e n=>s b o e fun m=>n (h b m)
theorem cg.refl(H:Hp):cg A H H:=fun _ _ e _=>e
theorem cg.at1:cg [p] H (bQ H p o):=fun b u e n=>by rw [aA (by simpa using n)];exact e
theorem cg.put(s:cg A H H1)(hp:p∈A):cg A H (bQ H1 p o):=fun b u e n=>by
 have nb:b≠p:=fun z=>by rw [z] at n;exact n hp
 rw [aA nb]
 exact s b u e n
theorem Hx(h:H p=some o):aR H (bQ H p o):=fun b u e=>by
 by_cases z:b=p
 .rw [z,h] at e
  rw [z,aj,e]
 .rw [aA z]
  exact e
structure dU(C:Addr)(H:Hp)(p l:Addr)(ws:List Wd)(n:Nat):Prop where
 ob:∃ dx,H p=some (.ins C dx (oN l n))
 li:∃ rs,H l=some (.lst rs)/\RJ H ws rs
 fl:∀ w∈ws,jE w.2=true
 len:ws.length<=1000000
section
variable{C:Addr}{H H':Hp}{p l:Addr}{ws:List Wd}{n n':Nat}
theorem dU.move(R:dU C H p l ws n)(s:cg A H H')(hA:∀ a∈A,a≠l/\∀ xs,H a≠some (.tup xs))(h':∃ dx,H' p=some (.ins C dx (oN l n'))):dU C H' p l ws n':=by
 obtain ⟨rs,h1,h2⟩:=R.li
 refine ⟨h',⟨rs,s _ _ h1 fun m=>(hA _ m).1 rfl,L2.Paired.imp' (fun kv r z=>?_) h2⟩,R.fl,R.len⟩
 obtain ⟨t,e,q⟩:=z
 exact ⟨t,e,s _ _ q fun m=>(hA _ m).2 _ q⟩
theorem dU.same(R:dU C H p l ws n)(s:aR H H'):dU C H' p l ws n:=by
 obtain ⟨dx,h⟩:=R.ob
 exact R.move (A:=[]) (aR.step s) (fun _ m=>nomatch m) ⟨dx,s _ _ h⟩
theorem dU.apart(R:dU C H p l ws n):p≠l/\∀ xs,H p≠some (.tup xs):=by
 obtain ⟨dx,h⟩:=R.ob
 obtain ⟨rs,h1,_⟩:=R.li
 exact ⟨gA h h1 (by intro z;cases z),fun xs z=>by rw [h] at z;cases z⟩
theorem dU.put(R:dU C H p l ws n)(n':Nat):dU C (bQ H p (.ins C dx (oN l n'))) p l ws n' :=
 R.move cg.at1 (fun a m=>by rcases List.mem_singleton.mp m with rfl;exact R.apart) ⟨dx,aj⟩
theorem dU.notT(R:dU C H p l ws n):∀ o,H p=some o->(∀ ys,o≠.tup ys)/\∀ ob u,o≠.frz ob u:=fun o e=>by
 obtain ⟨dx,h⟩:=R.ob
 rw [h] at e
 cases e
 exact ⟨fun _ z=>(by cases z),fun _ _ z=>(by cases z)⟩
theorem dU.ins(R:dU C H p l ws n):∃ C dx fs,H p=some (.ins C dx fs):=let ⟨dx,z⟩:=R.ob;⟨_,_,_,z⟩
theorem dU.ex(R:dU C H p l ws n):∃ o,H p=some o:=let ⟨dx,z⟩:=R.ob;⟨_,z⟩
end
theorem JR(h:∀ w∈ws,jE w.2=true)(n:Nat):jE (cM ws n).2=true:=by
 unfold cM
 cases e:ws[n]? with
 | none=>rfl
 | some w=>exact h w (List.mem_of_getElem? e)
theorem PX{α β:Type}{R:α->β->Prop}{a:List α}{b:List β}(h:Paired R a b):∀ {i:Nat} {x:α},a[i]?=some x->∃ y,b[i]?=some y/\R x y:=by
 induction h with
 | nil=>intro i x e;simp at e
 | cons r _ ih =>
  intro i x e
  cases i with
  | zero=>simp at e;subst e;exact ⟨_,rfl,r⟩
  | succ i =>
   obtain ⟨y,h1,h2⟩:=ih (i:=i) (by simpa using e)
   exact ⟨y,by simpa using h1,h2⟩
structure vh(K:PySem.W.Frag)(mg:Str->Option Value)(C:Addr):Prop where
 cl:jQ K C
 nWo:dw K C "words"
 nPa:dw K C "passed"
 nWi:dw K C "within"
 mgC:mg "Reader"=some (.ref C)
 len:mg "len"=none
 list:mg "list"=none
 kept:GS mg "KEPT" "kept"
 sign:GS mg "SIGN" "sign"
 name:GS mg "NAME" "name"
 number:GS mg "NUMBER_words" "number"
 text:GS mg "TEXT_words" "text"
 fin:GS mg "END" "end"
structure zZ(P:Program)(w:World)(K:PySem.W.Frag)(mg:Str->Option Value)(base:Heap)(CX:zJ)(C:Addr)(k:Nat)(m:Str)(ps:List Str)(sp:Sp):Prop where
 ex:∃ (f:Addr) (fd:FuncData),wV K C m f/\bf P w K mg base CX k f fd ps sp/\dR K fd ps []
noncomputable def Ai(C:Addr)(p l:Addr)(ws:List Wd)(n':Nat)(H:Hp)(Q:Hp->Prop):Prop:=∀ H',cg [p] H H'->dU C H' p l ws n'->Q H'
noncomputable def vR(C:Addr):Sp:=fun vs H Q _=>∃ (p l:Addr) (ws:List Wd) (n:Nat),vs=[.ref p]/\dU C H p l ws n/\∀ (t:Addr) (H':Hp),aR H H'->H' t=some (.tup [.str (cM ws n).1,(cM ws n).2])->Q (.ref t) H'
noncomputable def JH(K:PySem.W.Frag)(C:Addr):Sp:=fun vs H Q _=>∃ (p l c:Addr) (ws:List Wd) (n:Nat) (cs:List V),vs=[.ref p,.ref c]/\dU C H p l ws n/\(c7 K H c cs\/cZ K H c cs)/\cs.all jE=true/\∀ H',aR H H'->Q (.bl (eX ws n cs)) H'
noncomputable def Cu(C:Addr):Sp:=fun vs H Q _=>∃ (p l:Addr) (ws:List Wd) (n:Nat),vs=[.ref p]/\dU C H p l ws n/\Ai C p l ws (n+1) H (Q (cM ws n).2)
noncomputable def lH(C:Addr):Sp:=fun vs H Q _=>∃ (p l:Addr) (ws:List Wd) (n:Nat) (z:Str),vs=[.ref p,.str z]/\dU C H p l ws n /\
 (eX ws n [.str z]=true->Ai C p l ws (n+1) H (Q (.bl true)))/\(eX ws n [.str z]=false->∀ H',aR H H'->Q (.bl false) H')
noncomputable def sO(ws:List Wd):Nat->List Str->Bool
 | _,[]=>true
 | n,z::r=>eX ws n [.str z] && sO ws (n+1) r
noncomputable def sG(K:PySem.W.Frag)(C:Addr):Sp:=fun vs H Q _=>∃ (p l c:Addr) (ws:List Wd) (n:Nat) (zs:List Str),vs=[.ref p,.ref c]/\dU C H p l ws n/\cZ K H c (zs.map V.str)/\sO ws n zs=true/\Ai C p l ws (n+zs.length) H (Q .non)
noncomputable def xV(C:Addr):Sp:=fun vs H Q _=>∃ (p l:Addr) (ws:List Wd) (n:Nat) (z:Str),vs=[.ref p,.str z]/\dU C H p l ws n/\(cM ws n).1=z/\Ai C p l ws (n+1) H (Q (cM ws n).2)
noncomputable def um(C:Addr):Sp:=fun vs H Q _=>∃ (p l:Addr) (ws:List Wd) (n:Nat),vs=[.ref p]/\dU C H p l ws n/\(cM ws n).1="name"/\∀ t,Ai C p l ws (n+1) H fun H'=>H' t=some (.tup [(cM ws n).2,.int ((n+1:Nat):Int)])->Q (.ref t) H'
noncomputable def Kw(C:Addr):Sp:=fun vs H Q _=>∃ (p l:Addr) (ws:List Wd) (n:Nat),vs=[.ref p,.int 0]/\dU C H p l ws n/\∀ H',aR H H'->Q .non H'
section
variable{K:PySem.W.Frag}{C p l:Addr}{ws:List Wd}{n:Nat}{H:Hp}{σ:St}{Kc:VK}
theorem JZ(h0:σ[0]?=some (some (.ref p)))(R:dU C H p l ws n)(q:∀ (t:Addr) (H':Hp),aR H H'->H' t=some (.tup [.str (cM ws n).1,(cM ws n).2])->Kc (.ref t) H'):qR C "look" (vR C) [] E0 (cP 0) cW σ H Kc:=by
 obtain ⟨dx,g⟩:=R.ob
 exact ⟨_,h0,p,dx,_,rfl,g,rfl,p,l,ws,n,rfl,R,q⟩
theorem Q4(h0:σ[0]?=some (some (.ref p)))(R:dU C H p l ws n)(q:Ai C p l ws (n+1) H (Kc (cM ws n).2)):qR C "take" (Cu C) [] E0 (cP 0) cW σ H Kc:=by
 obtain ⟨dx,g⟩:=R.ob
 exact ⟨_,h0,p,dx,_,rfl,g,rfl,p,l,ws,n,rfl,R,q⟩
theorem Yg(h0:σ[0]?=some (some (.ref p)))(R:dU C H p l ws n)(q1:eX ws n [.str z]=true->Ai C p l ws (n+1) H (Kc (.bl true)))(q2:eX ws n [.str z]=false->∀ H',aR H H'->Kc (.bl false) H'):qR C "take_if" (lH C) [] E0 (cP 0) (aW (tC (.str z)) cW) σ H Kc:=by
 obtain ⟨dx,g⟩:=R.ob
 exact ⟨_,h0,p,dx,_,rfl,g,rfl,p,l,ws,n,z,rfl,R,q1,q2⟩
theorem Ul(h0:σ[0]?=some (some (.ref p)))(R:dU C H p l ws n)(hs:eX ws n [.str z]=false)(q:∀ H',aR H H'->Kc (.bl false) H'):qR C "take_if" (lH C) [] E0 (cP 0) (aW (tC (.str z)) cW) σ H Kc :=
 Yg h0 R (fun h=>by rw [hs] at h;cases h) fun _=>q
theorem wy(h0:σ[0]?=some (some (.ref p)))(R:dU C H p l ws n)(h:sO ws n [a]=true)(q:Ai C p l ws (n+1) H (Kc .non)):qR C "take_all" (sG K C) [] E0 (cP 0) (aW (vA (aW (tC (.str a)) cW)) cW) σ H Kc:=by
 obtain ⟨dx,g⟩:=R.ob
 refine ⟨_,h0,p,dx,_,rfl,g,rfl,xZ,fun t ht=>?_⟩
 have s2:=au (o:=.tup [V.str a]) ht
 exact ⟨p,l,t,ws,n,[a],rfl,R.same s2,cZ.of aj,h,fun H' s3 R3=>q H' (cg.trans (aR.step s2) s3) R3⟩
theorem Xa(h0:σ[0]?=some (some (.ref p)))(R:dU C H p l ws n)(h:sO ws n [a,b]=true)(q:Ai C p l ws (n+2) H (Kc .non)):qR C "take_all" (sG K C) [] E0 (cP 0) (aW (vA (aW (tC (.str a)) (aW (tC (.str b)) cW))) cW) σ H Kc:=by
 obtain ⟨dx,g⟩:=R.ob
 refine ⟨_,h0,p,dx,_,rfl,g,rfl,zF,fun t ht=>?_⟩
 have s2:=au (o:=.tup [V.str a,V.str b]) ht
 exact ⟨p,l,t,ws,n,[a,b],rfl,R.same s2,cZ.of aj,h,fun H' s3 R3=>q H' (cg.trans (aR.step s2) s3) R3⟩
theorem By(h0:σ[0]?=some (some (.ref p)))(R:dU C H p l ws n)(h:(cM ws n).1="name")(q:∀ t,Ai C p l ws (n+1) H fun H'=>H' t=some (.tup [(cM ws n).2,.int ((n+1:Nat):Int)])->Kc (.ref t) H'):qR C "take_name" (um C) [] E0 (cP 0) cW σ H Kc:=by
 obtain ⟨dx,g⟩:=R.ob
 exact ⟨_,h0,p,dx,_,rfl,g,rfl,p,l,ws,n,rfl,R,h,q⟩
end
theorem aR.sq(s:aR H H')(h:c7 K H c cs\/cZ K H c cs):c7 K H' c cs\/cZ K H' c cs:=by
 rcases h with h | h
 .exact .inl (s.seq h)
 .refine .inr ?_
  rcases h with h | h
  .rcases h with h | ⟨o,h⟩
   .exact .inl (.inl (s _ _ h))
   .exact .inl (.inr ⟨o,s _ _ h⟩)
  .exact .inr h
theorem cg.sqt(s:cg A H H')(hA:∀ a∈A,∀ o,H a=some o->(∀ ys,o≠.tup ys)/\∀ ob u,o≠.frz ob u)(h:cZ K H c xs):cZ K H' c xs:=by
 rcases h with h | h
 .rcases h with h | ⟨o,h⟩
  .exact .inl (.inl (s _ _ h fun m=>(hA _ m _ h).1 _ rfl))
  .exact .inl (.inr ⟨o,s _ _ h fun m=>(hA _ m _ h).2 _ _ rfl⟩)
 .exact .inr h
theorem Aw{x y:Str}{A B:Prop}(h1:x≠y->A)(h2:x=y->B):if (!decide (V.str x=V.str y))=true then A else B:=by
 by_cases e:x=y
 .exact Ka (by rw [e]) (h2 e)
 .have:¬ V.str x=V.str y:=fun z=>e (V.str.inj z)
  rw [decide_eq_false this]
  exact eG (B:=True) (h1 e)
theorem WW{x y:Str}{A B:Prop}(h1:x=y->A)(h2:x≠y->B):if decide (V.str x=V.str y)=true then A else B:=by
 by_cases e:x=y
 .rw [decide_eq_true (by rw [e])]
  exact eG (B:=True) (h1 e)
 .have:¬ V.str x=V.str y:=fun z=>e (V.str.inj z)
  rw [decide_eq_false this]
  exact cJ (A:=True) (h2 e)
section
variable{P:Program}{w:World}{K:PySem.W.Frag}{mg:Str->Option Value}{base:Heap}{f C:Addr}{fd:FuncData}
theorem Tv:aG ["self"] ["self"] (az mY):=d9
theorem Th(F:dq K "look" "Reader.look" mY f fd)(T:vh K mg C):bf P w K mg base cX 1 f fd ["self"] (vR C):=by
 obtain ⟨tE,mE⟩:=T.fin
 refine F.oq Tv ?_
 rintro _ _ _ _ H _ Q _ hr ⟨p,l,ws,n,rfl,R,q⟩
 refine ⟨_,ak (bu (aZ wg (aY (pv 0) rfl) (bw bx (by rfl) T.len PySem.boot_len (aa (aY (pv 0) rfl) ao)) (bh _))
   (aq (aQ (cA jz (aY (pv 0) rfl) (aY (pv 0) rfl) (fun _ _=>rfl)))) aU)
  (aq (aQ (b8 (aa (aN (by rfl) mE (v:=.str "end") ⟨_,rfl⟩) (aa aX ao))))),?_⟩
 try dsimp only [bU]
 obtain ⟨dx,h1⟩:=R.ob
 obtain ⟨rs,h2,h3⟩:=R.li
 have hlen:rs.length=ws.length:=(Paired.length h3).symm
 refine ⟨_,rfl,p,C,dx,_,_,rfl,h1,T.cl,T.nPa,rfl,_,rfl,p,C,dx,_,_,rfl,h1,T.cl,T.nWo,rfl,l,rs,rfl,.inl (c7.of h2),_,_,rfl,rfl,_,rfl,oO (fun h=>?_) (fun h=>?_)⟩
 .have hlt:n<ws.length:=by have:=of_decide_eq_true h;omega
  obtain ⟨v,hv,t,ht,q3⟩:=PX h3 (List.getElem?_eq_getElem hlt)
  have e:cM ws n=ws[n]:=by unfold cM;rw [List.getElem?_eq_getElem hlt];rfl
  refine ⟨_,rfl,p,C,dx,_,_,rfl,h1,T.cl,T.nWo,rfl,_,rfl,p,C,dx,_,_,rfl,h1,T.cl,T.nPa,rfl,l,rs,n,v,rfl,rfl,c7.of h2,DP hv,?_⟩
  rw [ht]
  exact q t H (aR.refl H) (by rw [e];exact q3)
 .have hge:ws.length<=n:=by have:=of_decide_eq_false h;omega
  have e:cM ws n=(("end":Str),V.str ""):=by unfold cM;rw [List.getElem?_eq_none_iff.mpr hge];rfl
  exact ⟨zF,fun t ht=>q t _ (au ht) (by rw [aj,e])⟩
theorem J2:aG ["self","choices","word"] ["self","choices"] (az nj):=d9
theorem Te(F:dq K "sees" "Reader.sees" nj f fd)(T:vh K mg C)(G:zZ P w K mg base cX C 1 "look" ["self"] (vR C)):bf P w K mg base cX 2 f fd ["self","choices"] (JH K C):=by
 obtain ⟨fL,fdL,mL,GL,bL⟩:=G.ex
 obtain ⟨tK,mK⟩:=T.kept
 obtain ⟨tS,mS⟩:=T.sign
 refine F.oq J2 ?_
 rintro _ _ _ _ H _ Q _ hr ⟨p,l,c,ws,n,cs,rfl,R,hc,fc,q⟩
 refine ⟨_,ak (bc (i:=2) J2.nd rfl (Or.inl rfl) (dC (pv 0) T.cl mL GL hr bL .nil aM))
  (aq (aQ (pH (eQ gW (cA cj (pv 2) aF (fun _ _=>rfl)) (b8 (aa (aN (by rfl) mK (v:=.str "kept") ⟨_,rfl⟩) (aa (aN (by rfl) mS (v:=.str "sign") ⟨_,rfl⟩) ao))) (by rfl))
   (jH (eQ gW (cA cj (pv 2) aF (fun _ _=>rfl)) (pv 1) (by rfl)))))),?_⟩
 try dsimp only [bU]
 have fw:=JR R.fl n
 refine JZ rfl R fun t H1 s1 ht=>?_
 refine ⟨_,rfl,t,_,0,_,rfl,rfl,cZ.of ht,rfl,zF,fun t2 ht2=>?_⟩
 have s2:aR H1 (bQ H1 t2 (.tup [V.str "kept",V.str "sign"])):=au ht2
 refine ⟨t2,_,rfl,.inr (cZ.of aj),rfl,rfl,_,rfl,?_⟩
 have q':Q (.bl (eX ws n cs)) (bQ H1 t2 (.tup [V.str "kept",V.str "sign"])):=q _ (s1.trans s2)
 unfold eX at q'
 show if (zy (.str (cM ws n).1) [.str "kept",.str "sign"])=true then _ else _
 refine oO (fun h=>?_) (fun h=>?_)
 .rw [h] at q'
  exact ⟨_,rfl,t,_,1,_,rfl,rfl,cZ.of (s2 _ _ ht),rfl,_,rfl,c,cs,rfl,aR.sq (s1.trans s2) hc,fw,fc,q'⟩
 .rw [h] at q'
  exact q'
theorem K6:aG ["self","word"] ["self"] (az oA):=d9
theorem SM(F:dq K "take" "Reader.take" oA f fd)(T:vh K mg C)(G:zZ P w K mg base cX C 1 "look" ["self"] (vR C)):bf P w K mg base cX 2 f fd ["self"] (Cu C):=by
 obtain ⟨fL,fdL,mL,GL,bL⟩:=G.ex
 refine F.oq K6 ?_
 rintro _ _ _ _ H _ Q _ hr ⟨p,l,ws,n,rfl,R,q⟩
 refine ⟨_,ak (bc (i:=1) K6.nd rfl (Or.inl rfl) (dC (pv 0) T.cl mL GL hr bL .nil aM))
  (ak (oG (pv 0) aF JF)
  (aq (aQ (cA cj (pv 1) aF (fun _ _=>rfl))))),?_⟩
 try dsimp only [bU]
 refine JZ rfl R fun t H1 s1 ht=>?_
 have R1:=R.same s1
 obtain ⟨dx,g1⟩:=R1.ob
 refine ⟨_,rfl,p,C,dx,_,_,rfl,g1,T.cl,T.nPa,rfl,_,_,rfl,rfl,dx,_,g1,by show 3<1000;decide,?_⟩
 have e:eU "passed" (.int ((n:Int)+1)) (oN l n)=oN l (n+1):=Gy l n (n+1)
 rw [e]
 refine ⟨_,rfl,t,_,0+1,_,rfl,rfl,cZ.of (by rw [aA (gA ht g1 (by intro z;cases z))];exact ht),rfl,?_⟩
 exact q _ (cg.put (aR.step s1) (.head _)) (R1.put (n+1))
theorem Jd:aG ["self","written"] ["self","written"] (az jr):=d9
theorem Js(F:dq K "take_if" "Reader.take_if" jr f fd)(T:vh K mg C)(G:zZ P w K mg base cX C 2 "sees" ["self","choices"] (JH K C)):bf P w K mg base cX 3 f fd ["self","written"] (lH C):=by
 obtain ⟨fL,fdL,mL,GL,bL⟩:=G.ex
 refine F.oq Jd ?_
 rintro _ A _ _ H _ Q _ hr ⟨p,l,ws,n,z,rfl,R,q1,q2⟩
 refine ⟨_,ak (bu (fU (cu (cG (pv 0) T.cl mL GL hr bL .nil aM (aa (b8 (aa (pv 1) ao)) ao)))) (aq (aQ lO)) aU)
  (ak (oG (pv 0) aF JF)
  (aq (aQ lO))),?_⟩
 try dsimp only [bU]
 obtain ⟨dx,h1⟩:=R.ob
 refine ⟨_,rfl,p,dx,_,rfl,h1,rfl,_,rfl,xZ,fun t ht=>?_⟩
 have s1:aR H (bQ H t (.tup [.str z])):=au ht
 have R1:=R.same s1
 refine ⟨p,l,t,ws,n,[.str z],rfl,R1,.inr (cZ.of aj),rfl,fun H2 s2=>⟨_,rfl,?_⟩⟩
 cases hs:eX ws n [.str z] with
 | false=>exact eG (B:=True) (q2 hs H2 (s1.trans s2))
 | true =>
  refine cJ (A:=True) ?_
  have g1:=s2 _ _ (s1 _ _ h1)
  refine ⟨_,rfl,p,C,dx,_,_,rfl,g1,T.cl,T.nPa,rfl,_,_,rfl,rfl,dx,_,g1,by show 3<1000;decide,?_⟩
  have e:eU "passed" (.int ((n:Int)+1)) (oN l n)=oN l (n+1):=Gy l n (n+1)
  rw [e]
  exact q1 hs _ (cg.put (aR.step (s1.trans s2)) (.head _)) ((R1.same s2).put (n+1))
theorem Qo:aG ["self","many"] ["self","many"] (az lE):=d9
theorem QS(F:dq K "leave" "Reader.leave" lE f fd)(T:vh K mg C):bf P w K mg base cX 1 f fd ["self","many"] (Kw C):=by
 refine F.oq Qo ?_
 rintro _ _ _ _ H _ Q _ hr ⟨p,l,ws,n,rfl,R,q⟩
 refine ⟨_,aq (oG (pv 0) (pv 1) Qz),?_⟩
 try dsimp only [bU]
 obtain ⟨dx,h1⟩:=R.ob
 exact ⟨_,rfl,p,C,dx,_,_,rfl,h1,T.cl,T.nWi,rfl,_,rfl,_,_,rfl,rfl,dx,_,h1,by show 3<1000;decide,q _ (Hx h1)⟩
theorem vZ:aG ["self","expected","written"] ["self","expected"] (az iQ):=d9
theorem Fo(F:dq K "take_all" "Reader.take_all" iQ f fd)(T:vh K mg C)(GI:zZ P w K mg base cX C 3 "take_if" ["self","written"] (lH C)):bf P w K mg base cX 4 f fd ["self","expected"] (sG K C):=by
 obtain ⟨fI,fdI,mI,GI,bI⟩:=GI.ex
 refine F.oq vZ ?_
 rintro _ A _ _ H _ Q _ hr ⟨p,l,c,ws,n,zs,rfl,R,hc,ha,q⟩
 refine ⟨_,aq (jn PassesOwn.never rfl (yq (pv 1)) (cz (i:=2) vZ.nd rfl (Or.inl rfl))
  (aq (bu (fU (cu (cG (pv 0) T.cl mI GI hr bI .nil aM (aa (pv 2) ao)))) aV aU))),?_⟩
 try dsimp only [bU]
 refine ⟨_,rfl,c,rfl,⟨_,hc⟩,?_⟩
 refine RX (xs:=zs.map V.str) (fun i σ Hc=>∃ o,cg [p] H Hc/\dU C Hc p l ws (n+i)/\sO ws (n+i) (zs.drop i)=true/\σ=[some (.ref p),some (.ref c),o]) ⟨none,cg.refl H,R,ha,rfl⟩ ?_ ?_ ?_
 .rintro i σ Hc hi ⟨o,s1,_⟩
  exact s1.sqt (fun a m=>by rcases List.mem_singleton.mp m with rfl;exact R.notT) hc
 .rintro i x σ Hc hx ⟨o,s1,R1,e,rfl⟩
  rw [List.getElem?_map] at hx
  obtain ⟨z,hz,rfl⟩:=Option.map_eq_some_iff.mp hx
  have hlt:i<zs.length:=(List.getElem?_eq_some_iff.mp hz).1
  rw [List.drop_eq_getElem_cons hlt,(List.getElem?_eq_some_iff.mp hz).2] at e
  obtain ⟨e1,e2⟩:=Bool.and_eq_true_iff.mp (show (eX ws (n+i) [.str z] && sO ws (n+i+1) (zs.drop (i+1)))=true from e)
  obtain ⟨dx,g1⟩:=R1.ob
  exact ⟨_,rfl,p,dx,_,rfl,g1,rfl,_,rfl,p,l,ws,n+i,z,rfl,R1,fun _ H2 s2 R2=>⟨_,rfl,cJ (A:=True) ⟨some (.str z),s1.trans s2,R2,e2,rfl⟩⟩,fun hs=>by rw [hs] at e1;cases e1⟩
 .rintro σ Hc ⟨o,s1,R1,_⟩
  rw [List.length_map] at R1
  exact q Hc s1 R1
theorem Dl:aG ["self","kind"] ["self","kind"] (az iG):=d9
theorem Dc(F:dq K "take_kind" "Reader.take_kind" iG f fd)(T:vh K mg C)(GL:zZ P w K mg base cX C 1 "look" ["self"] (vR C))(GT:zZ P w K mg base cX C 2 "take" ["self"] (Cu C)):bf P w K mg base cX 4 f fd ["self","kind"] (xV C):=by
 obtain ⟨fL,fdL,mL,GL,bL⟩:=GL.ex
 obtain ⟨fT,fdT,mT,GT,bT⟩:=GT.ex
 refine F.oq Dl ?_
 rintro _ _ _ _ H _ Q _ hr ⟨p,l,ws,n,z,rfl,R,e,q⟩
 refine ⟨_,ak (bu (aZ qi (cA cj (dC (pv 0) T.cl mL GL (hr.mono (by decide)) bL .nil aM) aF (fun _ _=>rfl)) (pv 1) (bh _)) aV aU)
  (aq (aQ (dC (pv 0) T.cl mT GT (hr.mono (by decide)) bT .nil aM))),?_⟩
 try dsimp only [bU]
 refine JZ rfl R fun t H1 s1 ht=>?_
 exact ⟨t,_,0,_,rfl,rfl,cZ.of ht,rfl,_,rfl,rfl,_,rfl,Aw (fun ne=>absurd e ne) fun _=>Q4 rfl (R.same s1) fun H2 s2 R2=>q H2 (cg.trans (aR.step s1) s2) R2⟩
theorem uH:aG ["self","name"] ["self"] (az iy):=d9
theorem Eh(F:dq K "take_name" "Reader.take_name" iy f fd)(T:vh K mg C)(GK:zZ P w K mg base cX C 4 "take_kind" ["self","kind"] (xV C)):bf P w K mg base cX 5 f fd ["self"] (um C):=by
 obtain ⟨fK,fdK,mK,GK,bK⟩:=GK.ex
 obtain ⟨tN,mN⟩:=T.name
 refine F.oq uH ?_
 rintro _ _ _ _ H _ Q _ hr ⟨p,l,ws,n,rfl,R,e,q⟩
 refine ⟨_,ak (bc (i:=1) uH.nd rfl (Or.inl rfl) (cG (pv 0) T.cl mK GK hr bK .nil aM (aa (aN (by rfl) mN (v:=.str "name") ⟨_,rfl⟩) ao)))
  (aq (aQ (b8 (aa (pv 1) (aa (aY (pv 0) rfl) ao))))),?_⟩
 try dsimp only [bU]
 obtain ⟨dx,g1⟩:=R.ob
 refine ⟨_,rfl,p,dx,_,rfl,g1,rfl,p,l,ws,n,"name",rfl,R,e,fun H1 s1 R1=>?_⟩
 obtain ⟨dy,g2⟩:=R1.ob
 refine ⟨_,rfl,_,rfl,p,C,dy,_,_,rfl,g2,T.cl,T.nPa,rfl,zF,fun t ht=>?_⟩
 have s2:aR H1 (bQ H1 t (.tup [(cM ws n).2,.int ((n+1:Nat):Int)])):=au ht
 exact q t _ (cg.trans s1 (aR.step s2)) (R1.same s2) aj
end
structure DG(P:Program)(w:World)(K:PySem.W.Frag)(mg:Str->Option Value)(base:Heap)(C:Addr):Prop where
 look:zZ P w K mg base cX C 1 "look" ["self"] (vR C)
 sees:zZ P w K mg base cX C 2 "sees" ["self","choices"] (JH K C)
 take:zZ P w K mg base cX C 2 "take" ["self"] (Cu C)
 takeIf:zZ P w K mg base cX C 3 "take_if" ["self","written"] (lH C)
 takeAll:zZ P w K mg base cX C 4 "take_all" ["self","expected"] (sG K C)
 takeName:zZ P w K mg base cX C 5 "take_name" ["self"] (um C)
 leave:zZ P w K mg base cX C 1 "leave" ["self","many"] (Kw C)
noncomputable abbrev Ao:=Str × V × Int
noncomputable def Uw:List V:=[.str "=",.str "<>",.str "<",.str "<=",.str ">",.str ">="]
noncomputable def XX:List V:=[.str "not",.str "-",.str "("]
noncomputable def opV:List V:=[.str "or",.str "and",.str "is",.str "+",.str "-",.str "*",.str "=",.str "<>",.str "<",.str "<=",.str ">",.str ">="]
noncomputable def pW(ws:List Wd)(n:Nat):Option Ao:=if (eX ws n XX || eX ws (n+1) opV)=true then none else if (cM ws n).1="name" then some ("column",(cM ws n).2,((n+1:Nat):Int)) else if (cM ws n).1="number" then some ("value",(cM ws n).2,0) else if sO ws n ["null"]=true then some ("value",.non,0) else none
theorem gG(h:eX ws n ds=false)(hs:∀ c∈cs,c∈ds):eX ws n cs=false:=by
 cases e:eX ws n cs with
 | false=>rfl
 | true =>
  unfold eX at e h
  obtain ⟨a,b⟩:=Bool.and_eq_true_iff.mp e
  have c:zy (cM ws n).2 ds=true:=by
   unfold zy at b ⊢
   obtain ⟨x,hx,e2⟩:=List.any_eq_true.mp b
   exact List.any_eq_true.mpr ⟨x,hs x hx,e2⟩
  rw [a,c] at h
  cases h
theorem wA(h:pW ws n=some s):eX ws n XX=false/\eX ws (n+1) opV=false:=by
 unfold pW at h
 split at h
 .cases h
 .rename_i z
  rw [Bool.not_eq_true,Bool.or_eq_false_iff] at z
  exact z
noncomputable def Zt(H:Hp)(s:Ao)(r:V):Prop:=∃ t,r=.ref t/\H t=some (.tup [.str s.1,s.2.1,.int s.2.2])
noncomputable abbrev Xg(H:Hp)(ss:List Ao)(rs:List V):Prop:=Paired (Zt H) ss rs
structure X6(K:PySem.W.Frag)(mg:Str->Option Value):Prop where
 one:GS mg "ONE" "one"
 value:GS mg "VALUE" "value"
 column:GS mg "COLUMN" "column"
 cmp:GT K mg "COMPARING_SIGNS" Uw
structure HQ(C p l st:Addr)(ws:List Wd)(n:Nat)(s:Ao)(H H':Hp):Prop where
 step:cg [p,st] H H'
 rd:dU C H' p l ws (n+1)
 at_:∃ t,H' st=some (.lst [.ref t])/\H' t=some (.tup [.str s.1,s.2.1,.int s.2.2])
theorem HQ.same(M:HQ C p l st ws n s H H')(k:aR H' H2):HQ C p l st ws n s H H2 :=
 let ⟨t,a,b⟩:=M.at_
 ⟨M.step.trans (aR.step k),M.rd.same k,t,k _ _ a,k _ _ b⟩
theorem HQ.put(s:Ao)(s1:cg [p] H H1)(R:dU C H1 p l ws (n+1))(h:H1 st=some (.lst []))(hne:st≠l)(ht:H1 t=none):HQ C p l st ws n s H (bQ (bQ H1 t (.tup [.str s.1,s.2.1,.int s.2.2])) st (.lst [.ref t])):=by
 have s2:=au (o:=.tup [.str s.1,s.2.1,.int s.2.2]) ht
 have h2:=s2 _ _ h
 have R2:=R.same s2
 obtain ⟨dx,g⟩:=R2.ob
 have np:p≠st:=gA g h2 (fun z=>by cases z)
 refine ⟨cg.put (cg.trans (s1.mono fun a m=>by rcases List.mem_singleton.mp m with rfl;exact .head _) (aR.step s2)) (.tail _ (.head _)),R2.move (A:=[st]) cg.at1 (fun c m=>by rcases List.mem_singleton.mp m with rfl;exact ⟨hne,fun us z=>by rw [h2] at z;cases z⟩) ⟨dx,by rw [aA np];exact g⟩,t,aj,?_⟩
 rw [aA (fun z=>by rw [z,h] at ht;cases ht),aj]
noncomputable def Dp(C:Addr):Sp:=fun vs H Q _=>∃ (p l st:Addr) (ws:List Wd) (n:Nat) (s:Ao),vs=[.ref p,.ref st]/\dU C H p l ws n/\H st=some (.lst [])/\st≠l/\pW ws n=some s/\∀ H',HQ C p l st ws n s H H'->Q .non H'
noncomputable def Q9(C:Addr):Sp:=fun vs H Q _=>∃ (p l:Addr) (ws:List Wd) (n:Nat) (z:Str),vs=[.ref p,.str z]/\dU C H p l ws n/\eX ws n [.str z]=false/\∀ H',aR H H'->Q (.int 0) H'
noncomputable def Wk(C:Addr):Sp:=fun vs H Q _=>∃ (p l st:Addr) (ws:List Wd) (n:Nat) (xs:List V) (z:Str),vs=[.ref p,.ref st,.int 0,.str z]/\dU C H p l ws n/\H st=some (.lst xs)/\xs.length<=1000/\∀ H',aR H H'->Q .non H'
section
variable{P:Program}{w:World}{K:PySem.W.Frag}{mg:Str->Option Value}{base:Heap}{f C:Addr}{fd:FuncData}{L:Nat}
theorem uC:aG ["reader","written","many"] ["reader","written"] (az my):=d9
theorem Er(F:dq K "enter_all" "enter_all" my f fd)(T:vh K mg C)(S:DG P w K mg base C):bf P w K mg base cX 5 f fd ["reader","written"] (Q9 C):=by
 obtain ⟨fS,fdS,mS,GS,bS⟩:=S.sees.ex
 refine F.oq uC ?_
 rintro _ A _ _ H _ Q _ hr ⟨p,l,ws,n,z,rfl,R,hs,q⟩
 refine ⟨_,ak (bc (i:=2) uC.nd rfl (Or.inl rfl) aF)
  (ak (gP PassesOwn.never (cu (cG (pv 0) T.cl mS GS (hr.mono (by decide)) bS .nil aM (aa (b8 (aa (pv 1) ao)) ao))) aV)
  (aq (aQ (pv 2)))),?_⟩
 try dsimp only [bU]
 refine ⟨fun _ σ Hc=>σ=[some (.ref p),some (.str z),some (.int 0)]/\Hc=H,⟨0,rfl,rfl⟩,?_⟩
 rintro m σ Hc ⟨rfl,rfl⟩
 obtain ⟨dx,g⟩:=R.ob
 refine ⟨_,rfl,p,dx,_,rfl,g,rfl,_,rfl,xZ,fun t ht=>?_⟩
 have s2:=au (o:=.tup [V.str z]) ht
 refine ⟨p,l,t,ws,n,[.str z],rfl,R.same s2,.inr (cZ.of aj),rfl,fun H2 s3=>⟨_,rfl,?_⟩⟩
 rw [hs]
 exact cJ (A:=True) ⟨_,rfl,q H2 (s2.trans s3)⟩
theorem Ei:aG ["reader","steps","many","operator"] ["reader","steps","many","operator"] (az lX):=d9
theorem En(F:dq K "leave_all" "leave_all" lX f fd)(T:vh K mg C)(X:X6 K mg)(S:DG P w K mg base C):bf P w K mg base cX 2 f fd ["reader","steps","many","operator"] (Wk C):=by
 obtain ⟨fL,fdL,mL,GL,bL⟩:=S.leave.ex
 obtain ⟨t1,m1⟩:=X.one
 refine F.oq Ei ?_
 rintro _ _ _ _ H _ Q _ hr ⟨p,l,st,ws,n,xs,z,rfl,R,hst,hxs,q⟩
 refine ⟨_,ak (bz (cG (pv 0) T.cl mL GL hr bL .nil aM (aa (pv 2) ao)))
  (aq (bz (lB PySem.F.plainAttrs_list PySem.F.slot_list_extend PySem.F.type_list_extend vU (pv 1)
   (aa (cD Jq (eO (aa (b8 (aa (aN (by rfl) m1 (v:=.str "one") ⟨_,rfl⟩) (aa (pv 3) (aa aF ao)))) ao)) (pv 2)) ao)))),?_⟩
 try dsimp only [bU]
 obtain ⟨dx,g1⟩:=R.ob
 refine ⟨_,rfl,p,dx,_,rfl,g1,rfl,_,rfl,p,l,ws,n,rfl,R,fun H1 s1=>?_⟩
 have h1:=s1 _ _ hst
 refine ⟨_,rfl,.inl ⟨rfl,_,c7.of h1⟩,_,rfl,z8,fun t ht=>⟨xZ,fun b hb=>?_⟩⟩
 refine ⟨_,rfl,b,0,_,rfl,rfl,aj,by omega,by omega,Wx,fun c hc=>?_⟩
 have s5:=(au ht).trans ((au hb).trans (au (o:=.lst []) hc))
 refine ⟨st,c,xs,[],rfl,rfl,s5 _ _ h1,aj,by rw [sizeLine_eq];show xs.length+0<=_;omega,?_⟩
 rw [List.append_nil]
 exact q _ (s1.trans (s5.trans (Hx (s5 _ _ h1))))
theorem cE(h0:σ[0]?=some (some (.ref p)))(h1:σ[1]?=some (some (.ref st)))(R:dU C H p l ws n)(hst:H st=some (.lst []))(hne:st≠l)(hw:pW ws n=some s)(q:∀ H',HQ C p l st ws n s H H'->Kc .non H'):gD (Dp C) [] E0 (aW (cP 0) (aW (cP 1) cW)) σ H Kc :=
 ⟨_,h0,_,h1,p,l,st,ws,n,s,rfl,R,hst,hne,hw,q⟩
theorem p8:aG ["reader","steps","kind","named"] ["reader","steps"] (az lR):=d9
theorem Dq(F:dq K "read_last" "read_last" lR f fd)(T:vh K mg C)(X:X6 K mg)(S:DG P w K mg base C):bf P w K mg base cX 6 f fd ["reader","steps"] (Dp C):=by
 obtain ⟨fL,fdL,mL,GL,bL⟩:=S.look.ex
 obtain ⟨fS,fdS,mS,GS,bS⟩:=S.sees.ex
 obtain ⟨fT,fdT,mT,GT,bT⟩:=S.take.ex
 obtain ⟨fA,fdA,mA,GA,bA⟩:=S.takeAll.ex
 obtain ⟨fN,fdN,mN,GN,bN⟩:=S.takeName.ex
 obtain ⟨tn,n1⟩:=T.name
 obtain ⟨tu,n2⟩:=T.number
 obtain ⟨tt,n3⟩:=T.text
 obtain ⟨tv,n4⟩:=X.value
 obtain ⟨tc,n5⟩:=X.column
 refine F.oq p8 ?_
 rintro _ A _ s H _ Q _ hr ⟨p,l,st,ws,n,a,rfl,R,hst,hne,hw,q⟩
 have r2:cO 2 _:=hr.mono (by decide)
 have r4:cO 4 _:=hr.mono (by decide)
 refine ⟨_,ak (bc (i:=2) p8.nd rfl (Or.inl rfl) (cA cj (dC (pv 0) T.cl mL GL (hr.mono (by decide)) bL .nil aM) aF (fun _ _=>rfl)))
  (aq (bu (aZ dG (pv 2) (aN (by rfl) n1 (v:=.str "name") ⟨_,rfl⟩) (bh _))
   (ak (bc (i:=3) p8.nd rfl (Or.inl rfl) (dC (pv 0) T.cl mN GN hr bN .nil aM))
    (aq (bz (lB PySem.F.plainAttrs_list PySem.F.slot_list_append PySem.F.type_list_append gj (pv 1) (aa (b8 (aa (aN (by rfl) n5 (v:=.str "column") ⟨_,rfl⟩) (aa (cA cj (pv 3) aF (fun _ _=>rfl)) (aa (cA cj (pv 3) aF (fun _ _=>rfl)) ao)))) ao)))))
   (aq (bu (aZ gW (pv 2) (b8 (aa (aN (by rfl) n2 (v:=.str "number") ⟨_,rfl⟩) (aa (aN (by rfl) n3 (v:=.str "text") ⟨_,rfl⟩) ao))) (by rfl))
    (aq (bz (lB PySem.F.plainAttrs_list PySem.F.slot_list_append PySem.F.type_list_append gj (pv 1) (aa (b8 (aa (aN (by rfl) n4 (v:=.str "value") ⟨_,rfl⟩) (aa (dC (pv 0) T.cl mT GT r2 bT .nil aM) (aa aF ao)))) ao))))
    (aq (bu (cu (cG (pv 0) T.cl mS GS r2 bS .nil aM (aa (b8 (aa aX ao)) ao))) aV
     (ak (bz (cG (pv 0) T.cl mA GA r4 bA .nil aM (aa (b8 (aa aX ao)) ao)))
      (aq (bz (lB PySem.F.plainAttrs_list PySem.F.slot_list_append PySem.F.type_list_append gj (pv 1) (aa (b8 (aa (aN (by rfl) n4 (v:=.str "value") ⟨_,rfl⟩) (aa je (aa aF ao)))) ao))))))))))),?_⟩
 try dsimp only [bU]
 obtain ⟨np,_⟩:=wA hw
 unfold pW at hw
 rw [if_neg (by intro z;rw [if_pos z] at hw;cases hw)] at hw
 have keep:∀ {H1:Hp},cg [p] H H1->H1 st=some (.lst []):=fun {H1} s=>s _ _ hst fun m=>by
  obtain ⟨dx,g⟩:=R.ob
  rw [List.mem_singleton.mp m,g] at hst
  cases hst
 refine JZ rfl R fun t H1 s1 ht=>?_
 have R1:=R.same s1
 refine ⟨t,_,0,_,rfl,rfl,cZ.of ht,rfl,_,rfl,rfl,_,rfl,WW (fun e=>?_) (fun ne=>?_)⟩
 .rw [if_pos e] at hw
  cases hw
  refine By rfl R1 e fun t2 H2 s2 R2 ht2=>?_
  have s12:=cg.trans (aR.step s1) s2
  have k2:=keep s12
  refine ⟨_,rfl,.inl ⟨rfl,_,c7.of k2⟩,_,rfl,t2,_,0,_,rfl,rfl,cZ.of ht2,rfl,_,rfl,t2,_,1,_,rfl,rfl,cZ.of ht2,rfl,z8,fun t3 ht3=>?_⟩
  exact ⟨st,[],_,rfl,rfl,au ht3 _ _ k2,by decide,q _ (HQ.put ("column",(cM ws n).2,((n+1:Nat):Int)) s12 R2 k2 hne ht3)⟩
 .rw [if_neg ne] at hw
  refine ⟨_,rfl,zF,fun t2 ht2=>⟨t2,_,rfl,.inr (cZ.of aj),rfl,rfl,_,rfl,?_⟩⟩
  have s2:=s1.trans (au (o:=.tup [V.str "number",V.str "text"]) ht2)
  have R2:=R.same s2
  show if (zy (.str (cM ws n).1) [.str "number",.str "text"])=true then _ else _
  by_cases hi:(cM ws n).1="number"
  .rw [if_pos hi] at hw
   cases hw
   rw [hi]
   refine eG (B:=True) ⟨_,rfl,.inl ⟨rfl,_,c7.of (s2 _ _ hst)⟩,Q4 rfl R2 fun H3 s3 R3=>⟨z8,fun t4 ht4=>?_⟩⟩
   have s13:=cg.trans (aR.step s2) s3
   exact ⟨st,[],_,rfl,rfl,au ht4 _ _ (keep s13),by decide,q _ (HQ.put ("value",(cM ws n).2,0) s13 R3 (keep s13) hne ht4)⟩
  .rw [if_neg hi] at hw
   have hn:sO ws n ["null"]=true:=by split at hw;assumption;cases hw
   rw [if_pos hn] at hw
   cases hw
   have hk:zy (.str (cM ws n).1) [.str "number",.str "text"]=false:=by
    have z:=(Bool.and_eq_true_iff.mp (Bool.and_eq_true_iff.mp (show (eX ws n [.str "null"] && true)=true from hn)).1).1
    obtain ⟨x,hx,e⟩:=List.any_eq_true.mp z
    have e1:∀ y:Str,Rp (.str y) (.str (cM ws n).1)=true->(cM ws n).1=y:=fun y h=>(eq_of_beq (show (y == (cM ws n).1)=true from h)).symm
    rcases List.mem_cons.mp hx with rfl | hx
    .rw [e1 _ e];decide +kernel
    .rcases List.mem_singleton.mp hx with rfl
     rw [e1 _ e];decide +kernel
   rw [hk]
   refine cJ (A:=True) ?_
   obtain ⟨dx,g⟩:=R2.ob
   refine ⟨_,rfl,p,dx,_,rfl,g,rfl,xZ,fun t3 ht3=>?_⟩
   have s3:=s2.trans (au (o:=.tup [V.str "("]) ht3)
   refine ⟨p,l,t3,ws,n,[.str "("],rfl,R.same s3,.inr (cZ.of aj),rfl,fun H4 s4=>⟨_,rfl,?_⟩⟩
   rw [gG np dk]
   have s5:=s3.trans s4
   refine cJ (A:=True) (wy rfl (R.same s5) hn fun H6 s6 R6=>?_)
   have s16:=cg.trans (aR.step s5) s6
   exact ⟨_,rfl,.inl ⟨rfl,_,c7.of (keep s16)⟩,z8,fun t7 ht7=>⟨st,[],_,rfl,rfl,au ht7 _ _ (keep s16),by decide,q _ (HQ.put ("value",.non,0) s16 R6 (keep s16) hne ht7)⟩⟩
theorem tO:aG ["reader","steps","many"] ["reader","steps"] (az jT):=d9
theorem zV(F:dq K "read_minus" "read_minus" jT f fd)(GE:eZ P w K mg base 5 "enter_all" ["reader","written"] (Q9 C))(GV:eZ P w K mg base 2 "leave_all" ["reader","steps","many","operator"] (Wk C))(hL:5<=L)(G:eZ P w K mg base L "read_last" ["reader","steps"] (Dp C)):bf P w K mg base cX (L+1) f fd ["reader","steps"] (Dp C):=by
 obtain ⟨fE,fdE,mE,kE,GE,bE⟩:=GE.ex
 obtain ⟨fV,fdV,mV,kV,GV,bV⟩:=GV.ex
 obtain ⟨fO,fdO,mO,kO,GO,bO⟩:=G.ex
 refine F.oq tO ?_
 rintro _ _ _ _ H _ Q _ hr ⟨p,l,st,ws,n,a,rfl,R,hst,hne,hw,q⟩
 obtain ⟨np,no⟩:=wA hw
 refine ⟨_,ak (bc (i:=2) tO.nd rfl (Or.inl rfl) (aJ GE (hr.mono (by omega)) (by rfl) mE kE bE .nil aM (aa (pv 0) (aa aX ao))))
  (ak (bz (aJ GO hr (by rfl) mO kO bO .nil aM (aa (pv 0) (aa (pv 1) ao))))
  (aq (bz (aJ GV (hr.mono (by omega)) (by rfl) mV kV bV .nil aM (aa (pv 0) (aa (pv 1) (aa (pv 2) (aa aX ao)))))))),?_⟩
 try dsimp only [bU]
 refine ⟨_,rfl,p,l,ws,n,"-",rfl,R,gG np dk,fun H1 s1=>cE rfl rfl (R.same s1) (s1 _ _ hst) hne hw fun H2 M=>?_⟩
 obtain ⟨t,h1,h2⟩:=M.at_
 exact ⟨_,rfl,_,rfl,_,rfl,p,l,st,ws,n+1,_,_,rfl,M.rd,h1,by show 1<=1000;decide,fun H3 s3=>q H3 (HQ.same ⟨cg.trans (aR.step s1) M.step,M.rd,t,h1,h2⟩ s3)⟩
theorem wD:aG ["reader","steps"] ["reader","steps"] (az iM):=d9
theorem wG(F:dq K "read_product" "read_product" iM f fd)(T:vh K mg C)(S:DG P w K mg base C)(hL:5<=L)(G:eZ P w K mg base L "read_minus" ["reader","steps"] (Dp C)):bf P w K mg base cX (L+1) f fd ["reader","steps"] (Dp C):=by
 obtain ⟨fI,fdI,mI,GI,bI⟩:=S.takeIf.ex
 obtain ⟨fO,fdO,mO,kO,GO,bO⟩:=G.ex
 refine F.oq wD ?_
 rintro _ A _ _ H _ Q _ hr ⟨p,l,st,ws,n,a,rfl,R,hst,hne,hw,q⟩
 obtain ⟨np,no⟩:=wA hw
 refine ⟨_,ak (bz (aJ GO hr (by rfl) mO kO bO .nil aM (aa (pv 0) (aa (pv 1) ao))))
  (aq (gP PassesOwn.never (cu (cG (pv 0) T.cl mI GI (hr.mono (by omega)) bI .nil aM (aa aX ao))) aV)),?_⟩
 try dsimp only [bU]
 refine cE rfl rfl R hst hne hw fun H1 M1=>⟨fun _ σ Hc=>σ=[some (.ref p),some (.ref st)]/\HQ C p l st ws n a H Hc,⟨0,rfl,M1⟩,?_⟩
 rintro m σ Hc ⟨rfl,M⟩
 exact Ul rfl M.rd (gG no dk) fun H2 s2=>⟨_,rfl,cJ (A:=True) (q H2 (M.same s2))⟩
theorem Ff:aG ["reader","steps","sign"] ["reader","steps"] (az pJ):=d9
theorem FZ(F:dq K "read_sum" "read_sum" pJ f fd)(T:vh K mg C)(S:DG P w K mg base C)(hL:5<=L)(G:eZ P w K mg base L "read_product" ["reader","steps"] (Dp C)):bf P w K mg base cX (L+1) f fd ["reader","steps"] (Dp C):=by
 obtain ⟨fS,fdS,mS,GS,bS⟩:=S.sees.ex
 obtain ⟨fO,fdO,mO,kO,GO,bO⟩:=G.ex
 refine F.oq Ff ?_
 rintro _ A _ _ H _ Q _ hr ⟨p,l,st,ws,n,a,rfl,R,hst,hne,hw,q⟩
 obtain ⟨np,no⟩:=wA hw
 refine ⟨_,ak (bz (aJ GO hr (by rfl) mO kO bO .nil aM (aa (pv 0) (aa (pv 1) ao))))
  (aq (gP PassesOwn.never (cu (cG (pv 0) T.cl mS GS (hr.mono (by omega)) bS .nil aM (aa (b8 (aa aX (aa aX ao))) ao))) aV)),?_⟩
 try dsimp only [bU]
 refine cE rfl rfl R hst hne hw fun H1 M1=>⟨fun _ σ Hc=>σ=[some (.ref p),some (.ref st),none]/\HQ C p l st ws n a H Hc,⟨0,rfl,M1⟩,?_⟩
 rintro m σ Hc ⟨rfl,M⟩
 obtain ⟨dx,g⟩:=M.rd.ob
 refine ⟨_,rfl,p,dx,_,rfl,g,rfl,zF,fun t ht=>?_⟩
 have s2:=au (o:=.tup [V.str "+",V.str "-"]) ht
 refine ⟨p,l,t,ws,n+1,[.str "+",.str "-"],rfl,M.rd.same s2,.inr (cZ.of aj),rfl,fun H2 s3=>⟨_,rfl,?_⟩⟩
 rw [gG no dk]
 exact cJ (A:=True) (q H2 (M.same (s2.trans s3)))
theorem tY:aG ["reader","steps","sign","operator"] ["reader","steps"] (az gK):=d9
theorem uq(F:dq K "read_comparison" "read_comparison" gK f fd)(T:vh K mg C)(X:X6 K mg)(S:DG P w K mg base C)(hL:5<=L)(G:eZ P w K mg base L "read_sum" ["reader","steps"] (Dp C)):bf P w K mg base cX (L+1) f fd ["reader","steps"] (Dp C):=by
 obtain ⟨fS,fdS,mS,GS,bS⟩:=S.sees.ex
 obtain ⟨fI,fdI,mI,GI,bI⟩:=S.takeIf.ex
 obtain ⟨aC,mC,sC⟩:=X.cmp
 obtain ⟨fO,fdO,mO,kO,GO,bO⟩:=G.ex
 refine F.oq tY ?_
 rintro _ A _ _ H _ Q _ hr ⟨p,l,st,ws,n,a,rfl,R,hst,hne,hw,q⟩
 obtain ⟨np,no⟩:=wA hw
 refine ⟨_,ak (bz (aJ GO hr (by rfl) mO kO bO .nil aM (aa (pv 0) (aa (pv 1) ao))))
  (aq (bu (cu (cG (pv 0) T.cl mS GS (hr.mono (by omega)) bS .nil aM (aa (aN (by rfl) mC (v:=.ref aC) rfl) ao))) aV
   (aq (bu (cu (cG (pv 0) T.cl mI GI (hr.mono (by omega)) bI .nil aM (aa aX ao))) aV aU)))),?_⟩
 try dsimp only [bU]
 refine cE rfl rfl R hst hne hw fun H1 M=>?_
 obtain ⟨dx,g⟩:=M.rd.ob
 refine ⟨_,rfl,p,dx,_,rfl,g,rfl,p,l,aC,ws,n+1,Uw,rfl,M.rd,.inr (sC _),rfl,fun H2 s2=>⟨_,rfl,?_⟩⟩
 rw [gG no dk]
 exact cJ (A:=True) (Ul rfl (M.same s2).rd (gG no dk) fun H3 s3=>⟨_,rfl,cJ (A:=True) (q H3 (M.same (s2.trans s3)))⟩)
theorem v7:aG ["reader","steps","many"] ["reader","steps"] (az pP):=d9
theorem Hu(F:dq K "read_not" "read_not" pP f fd)(GE:eZ P w K mg base 5 "enter_all" ["reader","written"] (Q9 C))(GV:eZ P w K mg base 2 "leave_all" ["reader","steps","many","operator"] (Wk C))(hL:5<=L)(G:eZ P w K mg base L "read_comparison" ["reader","steps"] (Dp C)):bf P w K mg base cX (L+1) f fd ["reader","steps"] (Dp C):=by
 obtain ⟨fE,fdE,mE,kE,GE,bE⟩:=GE.ex
 obtain ⟨fV,fdV,mV,kV,GV,bV⟩:=GV.ex
 obtain ⟨fO,fdO,mO,kO,GO,bO⟩:=G.ex
 refine F.oq v7 ?_
 rintro _ _ _ _ H _ Q _ hr ⟨p,l,st,ws,n,a,rfl,R,hst,hne,hw,q⟩
 obtain ⟨np,no⟩:=wA hw
 refine ⟨_,ak (bc (i:=2) v7.nd rfl (Or.inl rfl) (aJ GE (hr.mono (by omega)) (by rfl) mE kE bE .nil aM (aa (pv 0) (aa aX ao))))
  (ak (bz (aJ GO hr (by rfl) mO kO bO .nil aM (aa (pv 0) (aa (pv 1) ao))))
  (aq (bz (aJ GV (hr.mono (by omega)) (by rfl) mV kV bV .nil aM (aa (pv 0) (aa (pv 1) (aa (pv 2) (aa aX ao)))))))),?_⟩
 try dsimp only [bU]
 refine ⟨_,rfl,p,l,ws,n,"not",rfl,R,gG np dk,fun H1 s1=>cE rfl rfl (R.same s1) (s1 _ _ hst) hne hw fun H2 M=>?_⟩
 obtain ⟨t,h1,h2⟩:=M.at_
 exact ⟨_,rfl,_,rfl,_,rfl,p,l,st,ws,n+1,_,_,rfl,M.rd,h1,by show 1<=1000;decide,fun H3 s3=>q H3 (HQ.same ⟨cg.trans (aR.step s1) M.step,M.rd,t,h1,h2⟩ s3)⟩
theorem HF:aG ["reader","steps"] ["reader","steps"] (az ph):=d9
theorem Fg(F:dq K "read_and" "read_and" ph f fd)(T:vh K mg C)(S:DG P w K mg base C)(hL:5<=L)(G:eZ P w K mg base L "read_not" ["reader","steps"] (Dp C)):bf P w K mg base cX (L+1) f fd ["reader","steps"] (Dp C):=by
 obtain ⟨fI,fdI,mI,GI,bI⟩:=S.takeIf.ex
 obtain ⟨fO,fdO,mO,kO,GO,bO⟩:=G.ex
 refine F.oq HF ?_
 rintro _ A _ _ H _ Q _ hr ⟨p,l,st,ws,n,a,rfl,R,hst,hne,hw,q⟩
 obtain ⟨np,no⟩:=wA hw
 refine ⟨_,ak (bz (aJ GO hr (by rfl) mO kO bO .nil aM (aa (pv 0) (aa (pv 1) ao))))
  (aq (gP PassesOwn.never (cu (cG (pv 0) T.cl mI GI (hr.mono (by omega)) bI .nil aM (aa aX ao))) aV)),?_⟩
 try dsimp only [bU]
 refine cE rfl rfl R hst hne hw fun H1 M1=>⟨fun _ σ Hc=>σ=[some (.ref p),some (.ref st)]/\HQ C p l st ws n a H Hc,⟨0,rfl,M1⟩,?_⟩
 rintro m σ Hc ⟨rfl,M⟩
 exact Ul rfl M.rd (gG no dk) fun H2 s2=>⟨_,rfl,cJ (A:=True) (q H2 (M.same s2))⟩
theorem Jw:aG ["reader","steps"] ["reader","steps"] (az rU):=d9
theorem IW(F:dq K "read_or" "read_or" rU f fd)(T:vh K mg C)(S:DG P w K mg base C)(hL:5<=L)(G:eZ P w K mg base L "read_and" ["reader","steps"] (Dp C)):bf P w K mg base cX (L+1) f fd ["reader","steps"] (Dp C):=by
 obtain ⟨fI,fdI,mI,GI,bI⟩:=S.takeIf.ex
 obtain ⟨fO,fdO,mO,kO,GO,bO⟩:=G.ex
 refine F.oq Jw ?_
 rintro _ A _ _ H _ Q _ hr ⟨p,l,st,ws,n,a,rfl,R,hst,hne,hw,q⟩
 obtain ⟨np,no⟩:=wA hw
 refine ⟨_,ak (bz (aJ GO hr (by rfl) mO kO bO .nil aM (aa (pv 0) (aa (pv 1) ao))))
  (aq (gP PassesOwn.never (cu (cG (pv 0) T.cl mI GI (hr.mono (by omega)) bI .nil aM (aa aX ao))) aV)),?_⟩
 try dsimp only [bU]
 refine cE rfl rfl R hst hne hw fun H1 M1=>⟨fun _ σ Hc=>σ=[some (.ref p),some (.ref st)]/\HQ C p l st ws n a H Hc,⟨0,rfl,M1⟩,?_⟩
 rintro m σ Hc ⟨rfl,M⟩
 exact Ul rfl M.rd (gG no dk) fun H2 s2=>⟨_,rfl,cJ (A:=True) (q H2 (M.same s2))⟩
structure M6(K:PySem.W.Frag)(mg:Str->Option Value)(x:Str)(st:Stmt)(ps:List Str):Prop where
 ex:∃ (f:Addr) (fd:FuncData),mg x=some (.ref f)/\dq K x x st f fd/\dR K fd ps []
theorem M6.v(F:M6 K mg x st ps)(h:∀ f fd,dq K x x st f fd->bf P w K mg base cX k f fd ps sp):eZ P w K mg base k x ps sp:=by
 obtain ⟨f,fd,m,F,b⟩:=F.ex
 exact ⟨f,fd,m,F.kp,h f fd F,b⟩
structure Z8(K:PySem.W.Frag)(mg:Str->Option Value):Prop where
 last:M6 K mg "read_last" lR ["reader","steps"]
 minus:M6 K mg "read_minus" jT ["reader","steps"]
 product:M6 K mg "read_product" iM ["reader","steps"]
 sum:M6 K mg "read_sum" pJ ["reader","steps"]
 comparison:M6 K mg "read_comparison" gK ["reader","steps"]
 not:M6 K mg "read_not" pP ["reader","steps"]
 and:M6 K mg "read_and" ph ["reader","steps"]
 or:M6 K mg "read_or" rU ["reader","steps"]
 enterAll:M6 K mg "enter_all" my ["reader","written"]
 leaveAll:M6 K mg "leave_all" lX ["reader","steps","many","operator"]
 expression:M6 K mg "read_expression" gO ["reader"]
theorem Tf(T:vh K mg C)(X:X6 K mg)(S:DG P w K mg base C)(Z:Z8 K mg):eZ P w K mg base 13 "read_or" ["reader","steps"] (Dp C) :=
 have GE:=Z.enterAll.v fun f fd F=>Er F T S
 have GV:=Z.leaveAll.v fun f fd F=>En F T X S
 have G1:=Z.last.v fun f fd F=>Dq F T X S
 have G2:=Z.minus.v fun f fd F=>zV F GE GV (by omega) G1
 have G3:=Z.product.v fun f fd F=>wG F T S (by omega) G2
 have G4:=Z.sum.v fun f fd F=>FZ F T S (by omega) G3
 have G5:=Z.comparison.v fun f fd F=>uq F T X S (by omega) G4
 have G6:=Z.not.v fun f fd F=>Hu F GE GV (by omega) G5
 have G7:=Z.and.v fun f fd F=>Fg F T S (by omega) G6
 Z.or.v fun f fd F=>IW F T S (by omega) G7
noncomputable abbrev RR(α:Type):=Except Nat α
noncomputable def tM{α:Type}(C:Addr)(g:List Wd->Nat->RR (α × Nat))(At:Hp->Hp->α->V->Prop):Sp:=fun vs H Q _=>∃ (p l:Addr) (ws:List Wd) (n n':Nat) (a:α),vs=[.ref p]/\dU C H p l ws n/\g ws n=.ok (a,n')/\∀ (H':Hp) (v:V),cg [p] H H'->dU C H' p l ws n'->At H H' a v->Q v H'
noncomputable def Ma(ws:List Wd)(n:Nat):RR (List Ao × Nat):=match pW ws n with
 | some s=>.ok ([s],n+1)
 | none=>.error 0
noncomputable def qt(H0 H:Hp)(ss:List Ao)(v:V):Prop:=∃ st ys,v=.ref st/\H0 st=none/\H st=some (.lst ys)/\Xg H ss ys
theorem km:aG ["reader","steps"] ["reader"] (az gO):=d9
theorem ul(F:dq K "read_expression" "read_expression" gO f fd)(G:eZ P w K mg base 13 "read_or" ["reader","steps"] (Dp C)):bf P w K mg base cX 14 f fd ["reader"] (tM C Ma qt):=by
 obtain ⟨fO,fdO,mO,kO,GO,bO⟩:=G.ex
 refine F.oq km ?_
 rintro _ _ _ s H _ Q _ hr ⟨p,l,ws,n,n',a,rfl,R,e,q⟩
 refine ⟨_,ak (bc (i:=1) km.nd rfl (Or.inl rfl) (eO ao))
  (ak (bz (aJ GO hr (by rfl) mO kO bO .nil aM (aa (pv 0) (aa (pv 1) ao))))
  (aq (aQ (pv 1)))),?_⟩
 try dsimp only [bU]
 unfold Ma at e
 split at e
 .rename_i s hw
  cases e
  refine ⟨Wx,fun st hst=>?_⟩
  have s1:=au (o:=.lst []) hst
  obtain ⟨rs,hl,_⟩:=R.li
  refine cE rfl rfl (R.same s1) aj (Ne.symm (aO hl hst)) hw fun H' M=>?_
  obtain ⟨t,h1,h2⟩:=M.at_
  refine ⟨_,rfl,q H' (.ref st) (fun b o e m=>M.step b o (s1 _ _ e) fun z=>?_) M.rd ⟨st,_,rfl,hst,h1,.cons ⟨t,rfl,h2⟩ .nil⟩⟩
  rcases List.mem_cons.mp z with z | z
  .exact m (by rw [z];exact .head _)
  .rcases List.mem_singleton.mp z with rfl
   rw [hst] at e
   cases e
 .cases e
end
structure dD(H0 H H':Hp):Prop where
 l:∀ b xs,H b=some (.lst xs)->H0 b=none->H' b=some (.lst xs)
 t:∀ b xs,H b=some (.tup xs)->H' b=some (.tup xs)
theorem dD.same(s:aR H H'):dD H0 H H':=⟨fun b xs e _=>s _ _ e,fun b xs e=>s _ _ e⟩
theorem dD.obj(s:cg A H H')(h:∀ a∈A,∃ C dx fs,H a=some (.ins C dx fs)):dD H0 H H' :=
 ⟨fun b xs e _=>s _ _ e (fun m=>by obtain ⟨_,_,_,z⟩:=h b m;rw [e] at z;cases z),fun b xs e=>s _ _ e (fun m=>by obtain ⟨_,_,_,z⟩:=h b m;rw [e] at z;cases z)⟩
structure CZ{α:Type}(At:Hp->Hp->α->V->Prop):Prop where
 keep:∀ {H0 H H':Hp} {a:α} {v:V},At H0 H a v->dD H0 H H'->At H0 H' a v
 old:∀ {H0 H1 H:Hp} {a:α} {v:V},At H0 H a v->(∀ b,H0 b=none->H1 b=none)->At H1 H a v
 add:∀ {H0 H:Hp} {a:α} {v:V} {x:Addr} {o:HO},At H0 H a v->H x=none->At (bQ H0 x o) H a v
noncomputable def nA{α:Type}(At:Hp->Hp->α->V->Prop)(H0 H:Hp)(as:List α)(v:V):Prop:=∃ pl rs,v=.ref pl/\H0 pl=none/\H pl=some (.lst rs)/\Paired (At H0 H) as rs
theorem cU(S:CZ At):CZ (nA At) where
 keep:=fun ⟨st,ys,e,h0,h1,h2⟩ k=>⟨st,ys,e,h0,k.l _ _ h1 h0,L2.Paired.imp' (fun _ _ z=>S.keep z k) h2⟩
 old:=fun ⟨st,ys,e,h0,h1,h2⟩ k=>⟨st,ys,e,k _ h0,h1,L2.Paired.imp' (fun _ _ z=>S.old z k) h2⟩
 add:=fun ⟨st,ys,e,h0,h1,h2⟩ k=>⟨st,ys,e,by rw [aA (aO h1 k)];exact h0,h1,L2.Paired.imp' (fun _ _ z=>S.add z k) h2⟩
theorem dM:CZ qt where
 keep:=fun ⟨st,ys,e,h0,h1,h2⟩ k=>⟨st,ys,e,h0,k.l _ _ h1 h0,L2.Paired.imp' (fun _ _ ⟨t,e,q⟩=>⟨t,e,k.t _ _ q⟩) h2⟩
 old:=fun ⟨st,ys,e,h0,h1,h2⟩ k=>⟨st,ys,e,k _ h0,h1,h2⟩
 add:=fun ⟨st,ys,e,h0,h1,h2⟩ k=>⟨st,ys,e,by rw [aA (aO h1 k)];exact h0,h1,h2⟩
theorem Wg{α β:Type}{x:RR α}{f:α->RR β}{r:β}(h:x.bind f=.ok r):∃ a,x=.ok a/\f a=.ok r:=by
 cases x with
 | error e=>cases h
 | ok a=>exact ⟨a,rfl,h⟩
theorem gd{α:Type}{c:Prop}[Decidable c]{x:RR α}{r:α}(h:(if c then x else .error 0)=.ok r):c/\x=.ok r:=by
 split at h
 .rename_i z;exact ⟨z,h⟩
 .cases h
noncomputable def Ld{α:Type}(g:List Wd->Nat->RR (α × Nat))(ws:List Wd):Nat->List α->Nat->RR (List α × Nat)
 | 0,_,_=>.error 0
 | m+1,acc,n=>if eX ws n [.str ","]=true then (g ws (n+1)).bind fun a=>Ld g ws m (acc++[a.1]) a.2 else .ok (acc,n)
noncomputable def Gz{α:Type}(g:List Wd->Nat->RR (α × Nat))(ws:List Wd)(n:Nat):RR (List α × Nat):=(g ws n).bind fun a=>Ld g ws (ws.length+1) [a.1] a.2
theorem Am(s:cg [p] H0 H)(hp:∃ o,H p=some o):∀ b,H b=none->H0 b=none:=fun b h=>by
 cases e:H0 b with
 | none=>rfl
 | some o =>
  by_cases z:b=p
  .obtain ⟨o',q⟩:=hp
   rw [z,q] at h
   cases h
  .rw [s b o e (by simpa using z)] at h
   cases h
theorem cg.grow(s:cg [p] H H1)(h:H pl=none):cg [p] H (bQ H1 pl o):=fun b u e m=>by
 rw [aA (aO e h)]
 exact s b u e m
theorem dD.grow(h:H pl=some (.lst rs))(h0:H0 pl≠none):dD H0 H (bQ H pl o) :=
 ⟨fun c ys z hc=>by rw [aA (fun e=>h0 (by rw [<- e];exact hc))];exact z,fun c ys z=>by rw [aA (gA z h (fun z=>by cases z))];exact z⟩
noncomputable def zr{α:Type}(C fO:Addr)(g:List Wd->Nat->RR (α × Nat))(At:Hp->Hp->α->V->Prop):Sp:=fun vs H Q E=>∃ v,vs=[v,.ref fO]/\tM C (Gz g) (nA At) [v] H Q E
section
variable{P:Program}{w:World}{K:PySem.W.Frag}{mg:Str->Option Value}{base:Heap}{f C:Addr}{fd:FuncData}
theorem uG:aG ["reader","read_one","parts"] ["reader","read_one"] (az rF):=d9
theorem uz{α:Type}{g:List Wd->Nat->RR (α × Nat)}{At:Hp->Hp->α->V->Prop}{fO:Addr}{fdO:FuncData}{L:Nat}(F:dq K "read_list" "read_list" rF f fd)(T:vh K mg C)(S:DG P w K mg base C)(hL:3<=L)
  (kO:PySem.W.keepIn K (.ref fO)=true) (GO:bf P w K mg base cX L fO fdO ["reader"] (tM C g At)) (bO:dR K fdO ["reader"] []) (sb:CZ At):bf P w K mg base cX (L+1) f fd ["reader","read_one"] (zr C fO g At):=by
 obtain ⟨fI,fdI,mI,GI,bI⟩:=S.takeIf.ex
 refine F.ok uG (fun vs H Q E h=>?_) (fun cdv A outer s H vs Q E hr h=>?_)
 .obtain ⟨v,rfl,p,l,ws,n,n',a,e,_⟩:=h
  cases e
  rfl
 .obtain ⟨v,rfl,p,l,ws,n,nf,af,e,R,eg,q⟩:=h
  cases e
  refine ⟨_,ak (bc (i:=2) uG.nd rfl (Or.inl rfl) (eO (aa (Hh (pv 1) GO hr kO bO .nil aM (aa (pv 0) ao)) ao)))
   (ak (gP PassesOwn.never (cu (cG (pv 0) T.cl mI GI (hr.mono (by omega)) bI .nil aM (aa aX ao)))
    (aq (bz (lB PySem.F.plainAttrs_list PySem.F.slot_list_append PySem.F.type_list_append gj (pv 2) (aa (Hh (pv 1) GO hr kO bO .nil aM (aa (pv 0) ao)) ao)))))
   (aq (aQ (pv 2)))),?_⟩
  try dsimp only [bU]
  have wl:=R.len
  obtain ⟨⟨a,n1⟩,e1,el⟩:=Wg eg
  refine ⟨_,rfl,rfl,_,rfl,p,l,ws,n,n1,a,rfl,R,e1,fun H1 v1 s1 R1 at1=>⟨xZ,fun pl hpl=>?_⟩⟩
  have s2:=au (o:=.lst [v1]) hpl
  have hpl0:H pl=none:=Am s1 R1.ex pl hpl
  generalize hG:bQ H pl (.lst [])=G
  have Gp:G pl≠none:=by rw [<- hG,aj];exact fun z=>by cases z
  have Gn:∀ b,G b=none->H b=none:=fun b z=>by
   rw [<- hG] at z
   by_cases hb:b=pl
   .rw [hb,aj] at z;cases z
   .rw [aA hb] at z;exact z
  refine ⟨fun m σ Hc=>∃ (n2:Nat) (as:List α) (rs:List V),cg [p] H Hc/\dU C Hc p l ws n2/\as.length+m=ws.length+2/\Hc pl=some (.lst rs)/\Paired (At G Hc) as rs/\Ld g ws m as n2=.ok (af,nf)/\σ=[some (V.ref p),some (V.ref fO),some (V.ref pl)],
   ⟨ws.length+1,n1,[a],[v1],s1.trans (aR.step s2),R1.same s2,by show 1+_=_;omega,aj,.cons ?_ .nil,el,rfl⟩,?_⟩
  .rw [<- hG]
   exact sb.keep (sb.add at1 hpl) (dD.same s2)
  rintro m σ Hc ⟨n2,as,rs,sc,Rc,hm,hl,pr,el,rfl⟩
  have hpp:pl≠p:=fun z=>by
   obtain ⟨dy,z0⟩:=R.ob
   rw [z,z0] at hpl0
   cases hpl0
  have prl:rs.length=as.length:=(Paired.length pr).symm
  cases m with
  | zero=>cases el
  | succ m =>
   rw [Ld] at el
   refine Yg rfl Rc (fun hs H2 s3 R2=>⟨_,rfl,eG (B:=True) ?_⟩) fun hs H2 s3=>⟨_,rfl,cJ (A:=True) ?_⟩
   .rw [if_pos hs] at el
    obtain ⟨⟨b,n3⟩,eb,el⟩:=Wg el
    have hl2:H2 pl=some (.lst rs):=s3 _ _ hl (by simpa using hpp)
    refine ⟨fun σ' H'=>∃ rs',cg [p] H H'/\dU C H' p l ws n3/\H' pl=some (.lst rs')/\Paired (At G H') (as++[b]) rs'/\σ'=[some (V.ref p),some (V.ref fO),some (V.ref pl)],?_,_,rfl,.inl ⟨rfl,_,c7.of hl2⟩,_,rfl,rfl,_,rfl,p,l,ws,n2+1,n3,b,rfl,R2,eb,?_⟩
    .rintro σ' H' ⟨rs',sa,Ra,ha,pa,rfl⟩
     exact ⟨m,Nat.lt_succ_self _,n3,as++[b],rs',sa,Ra,by rw [List.length_append];show as.length+1+m=_;omega,ha,pa,el,rfl⟩
    .intro H3 v3 s4 R3 at3
     have hl3:H3 pl=some (.lst rs):=s4 _ _ hl2 (by simpa using hpp)
     have ns:dD G H3 (bQ H3 pl (.lst (rs++[v3]))):=dD.grow hl3 Gp
     refine ⟨pl,rs,_,rfl,rfl,hl3,by rw [prl,sizeLine_eq];omega,rs++[v3],(sc.trans (s3.trans s4)).grow hpl0,?_,aj,xF (L2.Paired.imp' (fun x r z=>?_) pr) ?_,rfl⟩
     .obtain ⟨dz,g3⟩:=R3.ob
      obtain ⟨lr,ll,_⟩:=R.li
      exact R3.move (A:=[pl]) cg.at1 (fun c m=>by rcases List.mem_singleton.mp m with rfl;exact ⟨Ne.symm (aO ll hpl0),fun xs z=>by rw [hl3] at z;cases z⟩) ⟨dz,by rw [aA (Ne.symm hpp)];exact g3⟩
     .exact sb.keep (sb.keep z (dD.obj (s3.trans s4) fun a m=>by rcases List.mem_singleton.mp m with rfl;exact Rc.ins)) ns
     .refine sb.old (sb.keep at3 (dD.grow hl3 (by rw [hl2];exact fun z=>by cases z))) fun c zc=>?_
      have ncl:c≠pl:=fun zz=>by rw [zz,hl2] at zc;cases zc
      rw [<- hG,aA ncl]
      exact Am (sc.trans s3) R2.ex c zc
   .rw [if_neg (by rw [hs];decide)] at el
    cases el
    exact ⟨_,rfl,q H2 (.ref pl) (sc.trans (aR.step s3)) (Rc.same s3) ⟨pl,rs,rfl,hpl0,s3 _ _ hl,L2.Paired.imp' (fun _ _ z=>sb.old (sb.keep z (dD.same s3)) Gn) pr⟩⟩
noncomputable def Bo{α:Type}(At:Hp->Hp->α->V->Prop)(H0 H:Hp)(o:Option α)(v:V):Prop:=match o with
 | none=>v=.non
 | some a=>At H0 H a v
theorem gq(S:CZ At):CZ (Bo At) where
 keep:=fun {H0 H H' a v} h k=>by
  cases a with
  | none=>exact h
  | some a=>exact S.keep (a:=a) h k
 old:=fun {H0 H1 H a v} h k=>by
  cases a with
  | none=>exact h
  | some a=>exact S.old (a:=a) h k
 add:=fun {H0 H a v x o} h k=>by
  cases a with
  | none=>exact h
  | some a=>exact S.add (a:=a) h k
noncomputable def Wz(C:Addr):Sp:=fun vs H Q _=>∃ (p l:Addr) (ws:List Wd) (n:Nat),vs=[.ref p]/\dU C H p l ws n/\eX ws n [.str "where"]=false/\∀ H',aR H H'->Q .non H'
theorem Ag:aG ["reader"] ["reader"] (az pI):=d9
theorem zT(F:dq K "read_where" "read_where" pI f fd)(T:vh K mg C)(S:DG P w K mg base C):bf P w K mg base cX 4 f fd ["reader"] (Wz C):=by
 obtain ⟨fI,fdI,mI,GI,bI⟩:=S.takeIf.ex
 refine F.oq Ag ?_
 rintro _ A _ _ H _ Q _ hr ⟨p,l,ws,n,rfl,R,hs,q⟩
 refine ⟨_,aq (aQ (ig (cu (cG (pv 0) T.cl mI GI hr bI .nil aM (aa aX ao))) oM je)),?_⟩
 try dsimp only [bU]
 exact Ul rfl R hs fun H2 s2=>⟨_,rfl,cJ (A:=True) (q H2 s2)⟩
noncomputable abbrev Uh:=V × Nat × V × Bool × Bool
noncomputable def Vo(ws:List Wd)(n:Nat):RR (Uh × Nat):=if (cM ws n).1="name"/\eX ws (n+1) [.str "int",.str "text"]=true then
  (if eX ws (n+2) [.str "not"]=true then (if sO ws (n+3) ["null"]=true/\eX ws (n+4) [.str "unique"]=false then .ok (((cM ws n).2,n+1,(cM ws (n+1)).2,true,false),n+4) else .error 0)
  else (if eX ws (n+2) [.str "unique"]=false then .ok (((cM ws n).2,n+1,(cM ws (n+1)).2,false,false),n+2) else .error 0)) else .error 0
noncomputable def wk(_ H:Hp)(c:Uh)(v:V):Prop:=∃ t,v=.ref t/\H t=some (.tup [c.1,.int (c.2.1:Int),c.2.2.1,.bl c.2.2.2.1,.bl c.2.2.2.2])
theorem jA:CZ wk where
 keep:=fun ⟨t,e,h⟩ k=>⟨t,e,k.t _ _ h⟩
 old:=fun h _=>h
 add:=fun h _=>h
theorem gQ:aG ["reader","named","kind","not_null","unique"] ["reader"] (az nJ):=d9
theorem yC(F:dq K "read_column" "read_column" nJ f fd)(T:vh K mg C)(S:DG P w K mg base C)(gi:GS mg "INT_COLUMN" "int")(gt:GS mg "TEXT_COLUMN" "text"):bf P w K mg base cX 6 f fd ["reader"] (tM C Vo wk):=by
 obtain ⟨fN,fdN,mN,GN,bN⟩:=S.takeName.ex
 obtain ⟨fA,fdA,mA,GA,bA⟩:=S.takeAll.ex
 obtain ⟨fI,fdI,mI,GI,bI⟩:=S.takeIf.ex
 obtain ⟨fS,fdS,mS,GS,bS⟩:=S.sees.ex
 obtain ⟨fT,fdT,mT,GT,bT⟩:=S.take.ex
 obtain ⟨ti,mi⟩:=gi
 obtain ⟨tt,mt⟩:=gt
 refine F.oq gQ ?_
 rintro _ A _ _ H _ Q _ hr ⟨p,l,ws,n,n',a,rfl,R,e,q⟩
 have r2:cO 2 _:=hr.mono (by omega)
 have r3:cO 3 _:=hr.mono (by omega)
 refine ⟨_,ak (bc (i:=1) gQ.nd rfl (Or.inl rfl) (dC (pv 0) T.cl mN GN hr bN .nil aM))
  (ak (bu (fU (cu (cG (pv 0) T.cl mS GS r2 bS .nil aM (aa (b8 (aa (aN (by rfl) mi (v:=.str "int") ⟨_,rfl⟩) (aa (aN (by rfl) mt (v:=.str "text") ⟨_,rfl⟩) ao))) ao)))) aV aU)
  (ak (bc (i:=2) gQ.nd rfl (Or.inl rfl) (dC (pv 0) T.cl mT GT r2 bT .nil aM))
  (ak (bc (i:=3) gQ.nd rfl (Or.inl rfl) (cG (pv 0) T.cl mI GI r3 bI .nil aM (aa aX ao)))
  (ak (bu (cu (pv 3)) (aq (bz (cG (pv 0) T.cl mA GA (hr.mono (by omega)) bA .nil aM (aa (b8 (aa aX ao)) ao)))) aU)
  (ak (bc (i:=4) gQ.nd rfl (Or.inl rfl) (cG (pv 0) T.cl mI GI r3 bI .nil aM (aa aX ao)))
  (aq (aQ (b8 (aa (cA cj (pv 1) aF (fun _ _=>rfl)) (aa (cA cj (pv 1) aF (fun _ _=>rfl)) (aa (pv 2) (aa (pv 3) (aa (pv 4) ao))))))))))))),?_⟩
 try dsimp only [bU]
 obtain ⟨⟨en,es⟩,e⟩:=gd e
 have fin:∀ (t:Addr) (Hc:Hp) (m:Nat) (nn:Bool),cg [p] H Hc->dU C Hc p l ws m->Hc t=some (.tup [(cM ws n).2,.int ((n+1:Nat):Int)])->eX ws m [.str "unique"]=false->(((cM ws n).2,n+1,(cM ws (n+1)).2,nn,false),m)=(a,n') ->
   jV (oF (qR C "take_if" (lH C) [] E0 (cP 0) (aW (tC (.str "unique")) cW)) (dJ 4)) (RK (vA (aW (jj (Iz K) (cP 1) (tC (.int 0))) (aW (jj (Iz K) (cP 1) (tC (.int 1))) (aW (cP 2) (aW (cP 3) (aW (cP 4) cW)))))))
    { nx:=fun _ H'=>Q .non H',rt:=Q } [some (.ref p),some (.ref t),some (cM ws (n+1)).2,some (.bl nn),none] Hc:=fun t Hc m nn sc Rc ht hs ea=>by
  cases ea
  refine Ul rfl Rc hs fun H2 s2=>?_
  have ht2:H2 t=_:=s2 _ _ ht
  refine ⟨_,rfl,t,_,0,_,rfl,rfl,cZ.of ht2,rfl,_,rfl,t,_,1,_,rfl,rfl,cZ.of ht2,rfl,_,rfl,_,rfl,_,rfl,zl5,fun t3 ht3=>?_⟩
  have s3:=s2.trans (au (o:=.tup [(cM ws n).2,.int ((n+1:Nat):Int),(cM ws (n+1)).2,.bl nn,.bl false]) ht3)
  exact q _ (.ref t3) (sc.trans (aR.step s3)) (Rc.same s3) ⟨t3,rfl,aj⟩
 refine By rfl R en fun t H1 s1 R1 ht=>?_
 obtain ⟨dy,g2⟩:=R1.ob
 refine ⟨_,rfl,p,dy,_,rfl,g2,rfl,zF,fun t2 ht2=>?_⟩
 have s2:=au (o:=.tup [V.str "int",V.str "text"]) ht2
 refine ⟨p,l,t2,ws,n+1,[.str "int",.str "text"],rfl,R1.same s2,.inr (cZ.of aj),rfl,fun H3 s3=>⟨_,rfl,?_⟩⟩
 rw [es]
 have s23:=s2.trans s3
 have R3:=R1.same s23
 refine cJ (A:=True) (Q4 rfl R3 fun H4 s4 R4=>?_)
 have np:∀ {H5:Hp},H5 t=some (.tup [(cM ws n).2,.int ((n+1:Nat):Int)])->∀ {m},dU C H5 p l ws m->t∉[p]:=fun {H5} h {m} R5 z=>by
  obtain ⟨dz,g⟩:=R5.ob
  rw [List.mem_singleton.mp z,g] at h
  cases h
 have ht3:=s23 _ _ ht
 have ht4:=s4 _ _ ht3 (np ht3 R3)
 have s14:=s1.trans (cg.trans (aR.step s23) s4)
 refine Yg rfl R4 (fun ho H5 s5 R5=>?_) fun ho H5 s5=>?_
 .rw [if_pos ho] at e
  obtain ⟨⟨ea,eu⟩,e⟩:=gd e
  have ht5:=s5 _ _ ht4 (np ht4 R4)
  exact ⟨_,rfl,_,rfl,eG (B:=True) (wy rfl R5 ea fun H7 s7 R7=>fin t H7 (n+4) true (s14.trans (s5.trans s7)) R7 (s7 _ _ ht5 (np ht5 R5)) eu (Except.ok.inj e))⟩
 .rw [if_neg (by rw [ho];decide)] at e
  obtain ⟨eu,e⟩:=gd e
  exact ⟨_,rfl,_,rfl,cJ (A:=True) (fin t H5 (n+2) false (s14.trans (aR.step s5)) (R4.same s5) (s5 _ _ ht4) eu (Except.ok.inj e))⟩
end
noncomputable def VE:List Value:=[.type "ValueError",.type "Exception",.type "BaseException",.type "object"]
structure Xl(P:Program)(w:World)(K:PySem.W.Frag)(mg:Str->Option Value)(base:Heap)(CX:zJ)(k:Nat)(x:Str)(ps:List Str)(sp:Sp):Prop where
 ex:∃ (f:Addr) (fd:FuncData),mg x=some (.ref f)/\PySem.W.keepIn K (.ref f)=true/\bf P w K mg base CX k f fd ps sp/\dR K fd ps []
noncomputable abbrev Chg:=V × Nat × List Ao
noncomputable def Um(H0 H:Hp)(c:Chg)(v:V):Prop:=∃ t ev,v=.ref t/\H t=some (.tup [c.1,.int (c.2.1:Int),ev])/\qt H0 H c.2.2 ev
theorem oX:CZ Um where
 keep:=fun ⟨t,ev,e,h,z⟩ k=>⟨t,ev,e,k.t _ _ h,dM.keep z k⟩
 old:=fun ⟨t,ev,e,h,z⟩ k=>⟨t,ev,e,h,dM.old z k⟩
 add:=fun ⟨t,ev,e,h,z⟩ k=>⟨t,ev,e,h,dM.add z k⟩
noncomputable def Gr(ki ta co ex ch wh od de li:V):List (Str × V):=[("kind",ki),("target",ta),("columns",co),("expressions",ex),("changes",ch),("where",wh),("order",od),("desc",de),("limit",li)]
structure yc(K:PySem.W.Frag)(mg:Str->Option Value)(CS fS:Addr):Prop where
 cl:jQ K CS
 nKi:dw K CS "kind"
 nTa:dw K CS "target"
 nCo:dw K CS "columns"
 nEx:dw K CS "expressions"
 nCh:dw K CS "changes"
 nWh:dw K CS "where"
 nOd:dw K CS "order"
 nDe:dw K CS "desc"
 nLi:dw K CS "limit"
 mgS:mg "Statement"=some (.ref CS)
 mkS:Mk K CS fS
structure ZX(CS:Addr)(H0 H:Hp)(y:Addr)(ki ta co ex ch wh od de li:V):Prop where
 new:H0 y=none
 at_:∃ dx,H y=some (.ins CS dx (Gr ki ta co ex ch wh od de li))
structure ut where
 kind:Str
 target:Option (V × Nat)
 cols:List Uh:=[]
 exprs:Option (List (List Ao)):=some []
 chs:List Chg:=[]
 wher:Option (List Ao):=none
 order:Option (V × Nat):=none
 desc:Bool:=false
 limit:Option V:=none
noncomputable def Zw(H:Hp)(nm:V × Nat)(v:V):Prop:=∃ t,v=.ref t/\H t=some (.tup [nm.1,.int (nm.2:Int)])
noncomputable def Mi(H:Hp)(o:Option (V × Nat))(v:V):Prop:=match o with
 | none=>v=.non
 | some nm=>Zw H nm v
theorem Mi.stay(k:dD H0 H H')(h:Mi H o v):Mi H' o v:=by
 cases o with
 | none=>exact h
 | some nm =>
  obtain ⟨t,e,z⟩:=h
  exact ⟨t,e,k.t _ _ z⟩
noncomputable def fj(CS:Addr)(H0 H:Hp)(s:ut)(v:V):Prop:=∃ y ta co ex ch wh od,v=.ref y/\ZX CS H0 H y (.str s.kind) ta co ex ch wh od (.bl s.desc) (s.limit.getD .non)/\Mi H s.target ta/\nA wk H0 H s.cols co/\Bo (nA qt) H0 H s.exprs ex /\
 nA Um H0 H s.chs ch/\Bo qt H0 H s.wher wh/\Mi H s.order od
theorem fj.keepN(h:fj CS H0 H sm v)(k:dD H0 H H')(ko:∀ y dx fs,H0 y=none->H y=some (.ins CS dx fs)->H' y=some (.ins CS dx fs)):fj CS H0 H' sm v:=by
 obtain ⟨y,ta,co,ex,ch,wh,od,e,⟨n0,dx,hy⟩,h1,h2,h3,h4,h5,h6⟩:=h
 exact ⟨y,ta,co,ex,ch,wh,od,e,⟨n0,dx,ko _ _ _ n0 hy⟩,h1.stay k,(cU jA).keep h2 k,(gq (cU dM)).keep h3 k,(cU oX).keep h4 k,(gq dM).keep h5 k,h6.stay k⟩
theorem fj.same(h:fj CS H0 H sm v)(s:aR H H'):fj CS H0 H' sm v:=h.keepN (dD.same s) fun _ _ _ _ e=>s _ _ e
theorem fj.old(h:fj CS H0 H sm v)(k:∀ b,H0 b=none->H1 b=none):fj CS H1 H sm v:=by
 obtain ⟨y,ta,co,ex,ch,wh,od,e,⟨n0,dx,hy⟩,h1,h2,h3,h4,h5,h6⟩:=h
 exact ⟨y,ta,co,ex,ch,wh,od,e,⟨k _ n0,dx,hy⟩,h1,(cU jA).old h2 k,(gq (cU dM)).old h3 k,(cU oX).old h4 k,(gq dM).old h5 k,h6⟩
structure Ru(CS C p l:Addr)(ws:List Wd)(n:Nat)(H0 H:Hp)(sm:ut)(y:Addr):Prop where
 p0:∃ o,H0 p=some o
 s:cg [p] H0 H
 r:dU C H p l ws n
 m:fj CS H0 H sm (.ref y)
noncomputable def Vg(K:PySem.W.Frag)(f:Str)(y:Addr)(v:V)(H:Hp)(D:Hp->Prop):Prop:=∃ a C' dx fs,V.ref y=.ref a/\H a=some (.ins C' dx fs)/\jQ K C'/\dw K C' f/\fs.length<1000/\D (bQ H a (.ins C' dx (eU f v fs)))
noncomputable def QR(CS:Addr):Sp:=fun vs H Q _=>∃ (y dx:Addr) (ki ta:V),vs=[.ref y,ki,ta]/\H y=some (.ins CS dx []) /\
 ∀ (H':Hp) (c1 c2 c3:Addr),cg [y] H H'->H' y=some (.ins CS dx (Gr ki ta (.ref c1) (.ref c2) (.ref c3) .non .non (.bl false) .non))->H c1=none->H c2=none->H c3=none->H' c1=some (.lst [])->H' c2=some (.lst [])->H' c3=some (.lst [])->Q .non H'
section
variable{K:PySem.W.Frag}{mg:Str->Option Value}{C CS fS p l y:Addr}{ws:List Wd}{n n':Nat}{H0 H H':Hp}{sm:ut}{v:V}{D:Hp->Prop}{σ:St}{Kc:VK}
theorem Ru.go(U:Ru CS C p l ws n H0 H sm y)(s:cg [p] H H')(R:dU C H' p l ws n'):Ru CS C p l ws n' H0 H' sm y :=
 ⟨U.p0,U.s.trans s,R,U.m.keepN (dD.obj s fun a m=>by rcases List.mem_singleton.mp m with rfl;exact U.r.ins) fun y dx fs n0 e=>s _ _ e fun z=>by
  obtain ⟨o,z0⟩:=U.p0
  rw [List.mem_singleton.mp z,z0] at n0
  cases n0⟩
theorem Dt(U:Ru CS C p l ws n H0 H sm y)(n0:H0 y=none)(hy:H y=some (.ins CS dx fs)):cg [p] H0 (bQ H y o)/\dU C (bQ H y o) p l ws n/\dD H0 H (bQ H y o):=by
 have ny:p≠y:=fun z=>by obtain ⟨o,z0⟩:=U.p0;rw [z,n0] at z0;cases z0
 obtain ⟨lr,ll,_⟩:=U.r.li
 obtain ⟨dz,g⟩:=U.r.ob
 exact ⟨U.s.grow n0,U.r.move (A:=[y]) cg.at1 (fun c m=>by rcases List.mem_singleton.mp m with rfl;exact ⟨gA hy ll (by intro z;cases z),fun xs z=>by rw [hy] at z;cases z⟩) ⟨dz,by rw [aA ny];exact g⟩,
  dD.obj (A:=[y]) cg.at1 fun a m=>by rcases List.mem_singleton.mp m with rfl;exact ⟨_,_,_,hy⟩⟩
theorem VP(T:yc K mg CS fS)(U:Ru CS C p l ws n H0 H sm y)(hv:nA wk H0 H cs v)(q:∀ H',Ru CS C p l ws n H0 H' { sm with cols:=cs } y->D H'):Vg K "columns" y v H D:=by
 obtain ⟨y',ta,co,ex,ch,wh,od,e,⟨n0,dx,hy⟩,h1,h2,h3,h4,h5,h6⟩:=U.m
 cases e
 obtain ⟨s',R',k⟩:=Dt (o:=.ins CS dx (Gr (.str sm.kind) ta v ex ch wh od (.bl sm.desc) (sm.limit.getD .non))) U n0 hy
 exact ⟨y,CS,dx,_,rfl,hy,T.cl,T.nCo,by show 9<1000;decide,q _ ⟨U.p0,s',R',y,ta,v,ex,ch,wh,od,rfl,⟨n0,dx,aj⟩,h1.stay k,(cU jA).keep hv k,(gq (cU dM)).keep h3 k,(cU oX).keep h4 k,(gq dM).keep h5 k,h6.stay k⟩⟩
theorem O7(T:yc K mg CS fS)(U:Ru CS C p l ws n H0 H sm y)(hv:Bo (nA qt) H0 H es v)(q:∀ H',Ru CS C p l ws n H0 H' { sm with exprs:=es } y->D H'):Vg K "expressions" y v H D:=by
 obtain ⟨y',ta,co,ex,ch,wh,od,e,⟨n0,dx,hy⟩,h1,h2,h3,h4,h5,h6⟩:=U.m
 cases e
 obtain ⟨s',R',k⟩:=Dt (o:=.ins CS dx (Gr (.str sm.kind) ta co v ch wh od (.bl sm.desc) (sm.limit.getD .non))) U n0 hy
 exact ⟨y,CS,dx,_,rfl,hy,T.cl,T.nEx,by show 9<1000;decide,q _ ⟨U.p0,s',R',y,ta,co,v,ch,wh,od,rfl,⟨n0,dx,aj⟩,h1.stay k,(cU jA).keep h2 k,(gq (cU dM)).keep hv k,(cU oX).keep h4 k,(gq dM).keep h5 k,h6.stay k⟩⟩
theorem V4(T:yc K mg CS fS)(U:Ru CS C p l ws n H0 H sm y)(q:∀ H',Ru CS C p l ws n H0 H' { sm with wher:=none } y->D H'):Vg K "where" y .non H D:=by
 obtain ⟨y',ta,co,ex,ch,wh,od,e,⟨n0,dx,hy⟩,h1,h2,h3,h4,h5,h6⟩:=U.m
 cases e
 obtain ⟨s',R',k⟩:=Dt (o:=.ins CS dx (Gr (.str sm.kind) ta co ex ch .non od (.bl sm.desc) (sm.limit.getD .non))) U n0 hy
 exact ⟨y,CS,dx,_,rfl,hy,T.cl,T.nWh,by show 9<1000;decide,q _ ⟨U.p0,s',R',y,ta,co,ex,ch,.non,od,rfl,⟨n0,dx,aj⟩,h1.stay k,(cU jA).keep h2 k,(gq (cU dM)).keep h3 k,(cU oX).keep h4 k,rfl,h6.stay k⟩⟩
theorem Fq(hx:H x=none)(hdx:H dx=none)(hne:dx≠x)(p0:∃ o,H0 p=some o)(s:cg [p] H0 H)(R:dU C H p l ws n)(ht:Mi H tg tv)(q:∀ H2,aR H H2->Ru CS C p l ws n H0 H2 { kind:=ki,target:=tg } x->D H2) :
  QR CS [.ref x,.str ki,tv] (bQ (bQ H dx (.own x)) x (.ins CS dx [])) (fun v H2=>v=.non/\D H2) E':=by
 have s1:aR H (bQ (bQ H dx (.own x)) x (.ins CS dx [])):=(au hdx).trans (au (by rw [aA (Ne.symm hne)];exact hx))
 have bk:=Am s R.ex
 refine ⟨x,dx,.str ki,tv,rfl,aj,fun H' c1 c2 c3 s2 hy z1 z2 z3 k1 k2 k3=>⟨rfl,?_⟩⟩
 have keep:aR H H':=fun b o e=>s2 _ _ (s1 _ _ e) (by
  have:b≠x:=aO e hx
  simpa using this)
 have nn:∀ c,bQ (bQ H dx (.own x)) x (.ins CS dx []) c=none->H0 c=none:=fun c z=>bk c (by
  cases e:H c with
  | none=>rfl
  | some o=>rw [s1 _ _ e] at z;cases z)
 exact q H' keep ⟨p0,s.trans (aR.step keep),R.same keep,x,tv,.ref c1,.ref c2,.ref c3,.non,.non,rfl,⟨bk x hx,dx,hy⟩,ht.stay (dD.same (H0:=H0) keep),⟨c1,[],rfl,nn c1 z1,k1,.nil⟩,⟨c2,[],rfl,nn c2 z2,k2,.nil⟩,⟨c3,[],rfl,nn c3 z3,k3,.nil⟩,rfl,rfl⟩
theorem QX(sb:CZ At)(h0:σ[0]?=some (some (.ref p)))(s:cg [p] H0 H)(R:dU C H p l ws n)(e:Gz g ws n=.ok (a,n'))(q:∀ H' v,cg [p] H H'->dU C H' p l ws n'->nA At H0 H' a v->Kc v H') :
  gD (zr C fO g At) [] E0 (aW (cP 0) (aW (tC (.ref fO)) cW)) σ H Kc :=
 ⟨_,h0,_,rfl,p,l,ws,n,n',a,rfl,R,e,fun H' v s2 R2 h2=>q H' v s2 R2 ((cU sb).old h2 (Am s R.ex))⟩
noncomputable def Ua(ws:List Wd)(n:Nat):V × Nat:=((cM ws n).2,n+1)
noncomputable def Ow(ws:List Wd)(n:Nat):RR (Option (List (List Ao)) × Nat):=if eX ws n [.str "*"]=true then .ok (none,n+1) else (Gz Ma ws n).bind fun a=>.ok (some a.1,a.2)
theorem Zv(h0:σ[0]?=some (some (.ref p)))(R:dU C H p l ws n)(e:Ow ws n=.ok (rs,n'))(q:∀ H' v,cg [p] H H'->dU C H' p l ws n'->Bo (nA qt) H H' rs v->Kc v H') :
  Wv (tB (qR C "take_if" (lH C) [] E0 (cP 0) (aW (tC (.str "*")) cW))) (tC .non) (gD (zr C fE Ma qt) [] E0 (aW (cP 0) (aW (tC (.ref fE)) cW))) σ H Kc:=by
 unfold Ow at e
 refine Yg h0 R (fun hs H1 s1 R1=>⟨_,rfl,eG (B:=True) ?_⟩) fun hs H1 s1=>⟨_,rfl,cJ (A:=True) ?_⟩
 .rw [if_pos hs] at e
  cases e
  exact q H1 .non s1 R1 rfl
 .rw [if_neg (by rw [hs];decide)] at e
  obtain ⟨⟨a,m⟩,ea,e⟩:=Wg e
  cases e
  exact QX dM h0 (aR.step s1) (R.same s1) ea fun H2 v s2 R2 hv=>q H2 v (cg.trans (aR.step s1) s2) R2 hv
end
noncomputable def Ko(ws:List Wd)(n:Nat):RR (ut × Nat):=if sO ws n ["into"]=true/\(cM ws (n+1)).1="name"/\sO ws (n+2) ["values","("]=true then
 (Gz Ma ws (n+4)).bind fun a=>if sO ws a.2 [")"]=true then .ok ({ kind := "insert",target:=some (Ua ws (n+1)),exprs:=some a.1 },a.2+1) else .error 0 else .error 0
noncomputable def KC(ws:List Wd)(n:Nat):RR (ut × Nat):=if sO ws n ["table"]=true/\(cM ws (n+1)).1="name"/\sO ws (n+2) ["("]=true then
 (Gz Vo ws (n+3)).bind fun a=>if sO ws a.2 [")"]=true then .ok ({ kind := "create table",target:=some (Ua ws (n+1)),cols:=a.1 },a.2+1) else .error 0 else .error 0
noncomputable def Kh(ws:List Wd)(n:Nat):RR (ut × Nat):=(Ow ws n).bind fun a=>if sO ws a.2 ["from"]=true/\(cM ws (a.2+1)).1="name"/\eX ws (a.2+2) [.str "where",.str "order",.str "limit"]=false then
 .ok ({ kind := "select",target:=some (Ua ws (a.2+1)),exprs:=a.1 },a.2+2) else .error 0
noncomputable def yx(ws:List Wd)(n:Nat):RR (ut × Nat):=if (cM ws n).1="name" then .ok ({ kind := "savepoint",target:=some (Ua ws n) },n+1) else .error 0
noncomputable def O3(ws:List Wd)(n:Nat):RR (ut × Nat):=.ok ({ kind := "begin",target:=none },n)
section
variable{P:Program}{w:World}{K:PySem.W.Frag}{mg:Str->Option Value}{base:Heap}{f C CS fS:Addr}{fd:FuncData}
theorem ux:aG ["self","kind","target"] ["self","kind","target"] (az jq):=d9
theorem uK(F:dq K "__init__" "Statement.__init__" jq f fd)(T:yc K mg CS fS):bf P w K mg base cX 1 f fd ["self","kind","target"] (QR CS):=by
 refine F.oq ux ?_
 rintro _ _ _ _ H _ Q _ hr ⟨y,dx,ki,ta,rfl,hy,q⟩
 refine ⟨_,ak (b7 (pv 0) (pv 1) rfl) (ak (b7 (pv 0) (pv 2) rfl) (ak (b7 (pv 0) (eO ao) rfl) (ak (b7 (pv 0) (eO ao) rfl) (ak (b7 (pv 0) (eO ao) rfl)
  (ak (b7 (pv 0) je rfl) (ak (b7 (pv 0) je rfl) (ak (b7 (pv 0) lO rfl) (aq (b7 (pv 0) je rfl))))))))),?_⟩
 try dsimp only [bU]
 refine ⟨_,rfl,_,rfl,y,CS,dx,_,rfl,hy,T.cl,T.nKi,by show 0<1000;decide,?_⟩
 refine ⟨_,rfl,_,rfl,y,CS,dx,_,rfl,aj,T.cl,T.nTa,by show 1<1000;decide,?_⟩
 rw [bY]
 refine ⟨Wx,fun c1 h1=>?_⟩
 have n1:y≠c1:=aO aj h1
 refine ⟨_,rfl,y,CS,dx,_,rfl,by rw [aA n1,aj],T.cl,T.nCo,by show 2<1000;decide,?_⟩
 refine ⟨Wx,fun c2 h2=>?_⟩
 have n2:y≠c2:=aO aj h2
 have e12:c1≠c2:=aO (o:=.lst []) (by rw [aA (Ne.symm n1),aj]) h2
 refine ⟨_,rfl,y,CS,dx,_,rfl,by rw [aA n2,aj],T.cl,T.nEx,by show 3<1000;decide,?_⟩
 refine ⟨Wx,fun c3 h3=>?_⟩
 have n3:y≠c3:=aO aj h3
 have e23:c2≠c3:=aO (o:=.lst []) (by rw [aA (Ne.symm n2),aj]) h3
 have e13:c1≠c3:=aO (o:=.lst []) (by rw [aA (Ne.symm n1),aA e12,aA (Ne.symm n1),aj]) h3
 refine ⟨_,rfl,y,CS,dx,_,rfl,by rw [aA n3,aj],T.cl,T.nCh,by show 4<1000;decide,?_⟩
 refine ⟨_,rfl,y,CS,dx,_,rfl,aj,T.cl,T.nWh,by show 5<1000;decide,?_⟩
 rw [bY]
 refine ⟨_,rfl,y,CS,dx,_,rfl,aj,T.cl,T.nOd,by show 6<1000;decide,?_⟩
 rw [bY]
 refine ⟨_,rfl,y,CS,dx,_,rfl,aj,T.cl,T.nDe,by show 7<1000;decide,?_⟩
 rw [bY]
 refine ⟨_,rfl,y,CS,dx,_,rfl,aj,T.cl,T.nLi,by show 8<1000;decide,?_⟩
 rw [bY]
 have z1:H c1=none:=by rw [aA (Ne.symm n1)] at h1;exact h1
 have z2:H c2=none:=by rw [aA (Ne.symm n2),aA (Ne.symm e12),aA (Ne.symm n2)] at h2;exact h2
 have z3:H c3=none:=by rw [aA (Ne.symm n3),aA (Ne.symm e23),aA (Ne.symm n3),aA (Ne.symm e13),aA (Ne.symm n3)] at h3;exact h3
 refine q _ c1 c2 c3 (fun b o e m=>?_) (by rw [aj];rfl) z1 z2 z3 ?_ ?_ ?_
 .have nb:b≠y:=by simpa using m
  rw [aA nb,aA (aO e z3),aA nb,aA (aO e z2),aA nb,aA (aO e z1),aA nb]
  exact e
 .rw [aA (Ne.symm n1),aA e13,aA (Ne.symm n1),aA e12,aA (Ne.symm n1),aj]
 .rw [aA (Ne.symm n2),aA e23,aA (Ne.symm n2),aj]
 .rw [aA (Ne.symm n3),aj]
structure Ww(P:Program)(w:World)(K:PySem.W.Frag)(mg:Str->Option Value)(base:Heap)(C CS fS fE fC:Addr):Prop where
 init:∃ fd,bf P w K mg base cX 1 fS fd ["self","kind","target"] (QR CS)/\dR K fd ["self","kind","target"] []
 mgE:mg "read_expression"=some (.ref fE)
 mgC:mg "read_column_reading"=some (.ref fC)
 lsE:eZ P w K mg base 15 "read_list" ["reader","read_one"] (zr C fE Ma qt)
 lsC:eZ P w K mg base 7 "read_list" ["reader","read_one"] (zr C fC Vo wk)
 whr:eZ P w K mg base 4 "read_where" ["reader"] (Wz C)
variable{fE fC:Addr}
theorem rR:aG ["reader","statement"] ["reader"] (az nQ):=d9
theorem xq(F:dq K "read_insert" "read_insert" nQ f fd)(T:vh K mg C)(TS:yc K mg CS fS)(S:DG P w K mg base C)(U:Ww P w K mg base C CS fS fE fC)(gk:GS mg "INSERT" "insert"):bf P w K mg base cX 210 f fd ["reader"] (tM C Ko (fj CS)):=by
 obtain ⟨fA,fdA,mA,GA,bA⟩:=S.takeAll.ex
 obtain ⟨fN,fdN,mN,GN,bN⟩:=S.takeName.ex
 obtain ⟨fdS,GI,bI⟩:=U.init
 obtain ⟨fL,fdL,mL,kL,GL,bL⟩:=U.lsE.ex
 obtain ⟨tk,mk⟩:=gk
 refine F.oq rR ?_
 rintro _ _ _ _ H _ Q _ hr ⟨p,l,ws,n,n',a,rfl,R,e,q⟩
 have r4:cO 4 _:=hr.mono (by omega)
 refine ⟨_,ak (bz (cG (pv 0) T.cl mA GA r4 bA .nil aM (aa (b8 (aa aX ao)) ao)))
  (ak (bc (i:=1) rR.nd rfl (Or.inl rfl) (eY TS.mkS GI (hr.mono (by omega)) (by rfl) TS.mgS bI .nil aM (aa (aN (by rfl) mk (v:=.str "insert") ⟨_,rfl⟩) (aa (dC (pv 0) T.cl mN GN (hr.mono (by omega)) bN .nil aM) ao))))
  (ak (bz (cG (pv 0) T.cl mA GA r4 bA .nil aM (aa (b8 (aa aX (aa aX ao))) ao)))
  (ak (b7 (pv 1) (aJ GL (hr.mono (by omega)) (by rfl) mL kL bL .nil aM (aa (pv 0) (aa (aN (by rfl) U.mgE (v:=.ref fE) rfl) ao))) rfl)
  (ak (bz (cG (pv 0) T.cl mA GA r4 bA .nil aM (aa (b8 (aa aX ao)) ao)))
  (aq (aQ (pv 1))))))),?_⟩
 try dsimp only [bU]
 obtain ⟨⟨e1,e2,e3⟩,e⟩:=gd e
 obtain ⟨⟨es,m⟩,e4,e⟩:=Wg e
 obtain ⟨e5,e⟩:=gd e
 cases e
 refine wy rfl R e1 fun H1 s1 R1=>By rfl R1 e2 fun t H2 s2 R2 ht=>?_
 intro y dx hx hdx hne
 refine Fq (ki := "insert") (tg:=some (Ua ws (n+1))) hx hdx hne R.ex (s1.trans s2) R2 ⟨t,rfl,ht⟩ fun H3 _ U3=>?_
 refine Xa rfl U3.r e3 fun H4 s4 R4=>QX dM rfl (U3.go s4 R4).s R4 e4 fun H5 v5 s5 R5 hv5=>?_
 refine ⟨_,rfl,O7 (es:=some es) TS ((U3.go s4 R4).go s5 R5) hv5 fun H6 U6=>wy rfl U6.r e5 fun H7 s7 R7=>?_⟩
 exact ⟨_,rfl,q H7 _ (U6.go s7 R7).s R7 (U6.go s7 R7).m⟩
theorem rP:aG ["reader","statement"] ["reader"] (az nq):=d9
theorem zp(F:dq K "read_create" "read_create" nq f fd)(T:vh K mg C)(TS:yc K mg CS fS)(S:DG P w K mg base C)(U:Ww P w K mg base C CS fS fE fC)(gk:GS mg "CREATE" "create table"):bf P w K mg base cX 210 f fd ["reader"] (tM C KC (fj CS)):=by
 obtain ⟨fA,fdA,mA,GA,bA⟩:=S.takeAll.ex
 obtain ⟨fN,fdN,mN,GN,bN⟩:=S.takeName.ex
 obtain ⟨fdS,GI,bI⟩:=U.init
 obtain ⟨fL,fdL,mL,kL,GL,bL⟩:=U.lsC.ex
 obtain ⟨tk,mk⟩:=gk
 refine F.oq rP ?_
 rintro _ _ _ _ H _ Q _ hr ⟨p,l,ws,n,n',a,rfl,R,e,q⟩
 have r4:cO 4 _:=hr.mono (by omega)
 refine ⟨_,ak (bz (cG (pv 0) T.cl mA GA r4 bA .nil aM (aa (b8 (aa aX ao)) ao)))
  (ak (bc (i:=1) rP.nd rfl (Or.inl rfl) (eY TS.mkS GI (hr.mono (by omega)) (by rfl) TS.mgS bI .nil aM (aa (aN (by rfl) mk (v:=.str "create table") ⟨_,rfl⟩) (aa (dC (pv 0) T.cl mN GN (hr.mono (by omega)) bN .nil aM) ao))))
  (ak (bz (cG (pv 0) T.cl mA GA r4 bA .nil aM (aa (b8 (aa aX ao)) ao)))
  (ak (b7 (pv 1) (aJ GL (hr.mono (by omega)) (by rfl) mL kL bL .nil aM (aa (pv 0) (aa (aN (by rfl) U.mgC (v:=.ref fC) rfl) ao))) rfl)
  (ak (bz (cG (pv 0) T.cl mA GA r4 bA .nil aM (aa (b8 (aa aX ao)) ao)))
  (aq (aQ (pv 1))))))),?_⟩
 try dsimp only [bU]
 obtain ⟨⟨e1,e2,e3⟩,e⟩:=gd e
 obtain ⟨⟨cs,m⟩,e4,e⟩:=Wg e
 obtain ⟨e5,e⟩:=gd e
 cases e
 refine wy rfl R e1 fun H1 s1 R1=>By rfl R1 e2 fun t H2 s2 R2 ht=>?_
 intro y dx hx hdx hne
 refine Fq (ki := "create table") (tg:=some (Ua ws (n+1))) hx hdx hne R.ex (s1.trans s2) R2 ⟨t,rfl,ht⟩ fun H3 _ U3=>?_
 refine wy rfl U3.r e3 fun H4 s4 R4=>QX jA rfl (U3.go s4 R4).s R4 e4 fun H5 v5 s5 R5 hv5=>?_
 refine ⟨_,rfl,VP TS ((U3.go s4 R4).go s5 R5) hv5 fun H6 U6=>wy rfl U6.r e5 fun H7 s7 R7=>?_⟩
 exact ⟨_,rfl,q H7 _ (U6.go s7 R7).s R7 (U6.go s7 R7).m⟩
theorem lq:aG ["reader","results","statement"] ["reader"] (az ou):=d9
theorem yO(F:dq K "read_select" "read_select" ou f fd)(T:vh K mg C)(TS:yc K mg CS fS)(S:DG P w K mg base C)(U:Ww P w K mg base C CS fS fE fC)(gk:GS mg "SELECT" "select"):bf P w K mg base cX 210 f fd ["reader"] (tM C Kh (fj CS)):=by
 obtain ⟨fI,fdI,mI,GJ,bJ⟩:=S.takeIf.ex
 obtain ⟨fA,fdA,mA,GA,bA⟩:=S.takeAll.ex
 obtain ⟨fN,fdN,mN,GN,bN⟩:=S.takeName.ex
 obtain ⟨fdS,GI,bI⟩:=U.init
 obtain ⟨fW,fdW,mW,kW,GW,bW⟩:=U.whr.ex
 obtain ⟨fL,fdL,mL,kL,GL,bL⟩:=U.lsE.ex
 obtain ⟨tk,mk⟩:=gk
 refine F.oq lq ?_
 rintro _ A _ _ H _ Q _ hr ⟨p,l,ws,n,n',a,rfl,R,e,q⟩
 have r3:cO 3 _:=hr.mono (by omega)
 have r4:cO 4 _:=hr.mono (by omega)
 refine ⟨_,ak (bc (i:=1) lq.nd rfl (Or.inl rfl) (ig (cu (cG (pv 0) T.cl mI GJ r3 bJ .nil aM (aa aX ao))) je (aJ GL (hr.mono (by omega)) (by rfl) mL kL bL .nil aM (aa (pv 0) (aa (aN (by rfl) U.mgE (v:=.ref fE) rfl) ao)))))
  (ak (bz (cG (pv 0) T.cl mA GA r4 bA .nil aM (aa (b8 (aa aX ao)) ao)))
  (ak (bc (i:=2) lq.nd rfl (Or.inl rfl) (eY TS.mkS GI (hr.mono (by omega)) (by rfl) TS.mgS bI .nil aM (aa (aN (by rfl) mk (v:=.str "select") ⟨_,rfl⟩) (aa (dC (pv 0) T.cl mN GN (hr.mono (by omega)) bN .nil aM) ao))))
  (ak (b7 (pv 2) (pv 1) rfl)
  (ak (b7 (pv 2) (aJ GW r4 (by rfl) mW kW bW .nil aM (aa (pv 0) ao)) rfl)
  (ak (bu (cu (cG (pv 0) T.cl mI GJ r3 bJ .nil aM (aa aX ao))) aV aU)
  (ak (bu (cu (cG (pv 0) T.cl mI GJ r3 bJ .nil aM (aa aX ao))) aV aU)
  (aq (aQ (pv 2))))))))),?_⟩
 try dsimp only [bU]
 obtain ⟨⟨rs,m⟩,ea,e⟩:=Wg e
 obtain ⟨⟨e1,e2,e3⟩,e⟩:=gd e
 cases e
 refine Zv rfl R ea fun H1 v1 s1 R1 hv1=>wy rfl R1 e1 fun H2 s2 R2=>By rfl R2 e2 fun t H3 s3 R3 ht=>?_
 intro y dx hx hdx hne
 refine Fq (ki := "select") (tg:=some (Ua ws (m+1))) hx hdx hne R.ex (s1.trans (s2.trans s3)) R3 ⟨t,rfl,ht⟩ fun H4 k4 U4=>?_
 have sb:=gq (cU dM)
 have hv4:=sb.keep (sb.keep hv1 (dD.obj (s2.trans s3) fun a m=>by rcases List.mem_singleton.mp m with rfl;exact R1.ins)) (dD.same k4)
 refine ⟨_,rfl,_,rfl,O7 TS U4 hv4 fun H5 U5=>?_⟩
 refine ⟨_,rfl,p,l,ws,m+2,rfl,U5.r,gG e3 dk,fun H6 s6=>⟨_,rfl,V4 TS (U5.go (aR.step s6) (U5.r.same s6)) fun H7 U7=>?_⟩⟩
 refine Ul rfl U7.r (gG e3 dk) fun H8 s8=>⟨_,rfl,cJ (A:=True) ?_⟩
 have U8:=U7.go (aR.step s8) (U7.r.same s8)
 refine Ul rfl U8.r (gG e3 dk) fun H9 s9=>⟨_,rfl,cJ (A:=True) ?_⟩
 have U9:=U8.go (aR.step s9) (U8.r.same s9)
 exact ⟨_,rfl,q H9 _ U9.s U9.r U9.m⟩
theorem vg:aG ["reader"] ["reader"] (az jk):=d9
theorem uR(F:dq K "read_savepoint" "read_savepoint" jk f fd)(T:vh K mg C)(TS:yc K mg CS fS)(S:DG P w K mg base C)(U:Ww P w K mg base C CS fS fE fC)(gk:GS mg "SAVEPOINT" "savepoint"):bf P w K mg base cX 210 f fd ["reader"] (tM C yx (fj CS)):=by
 obtain ⟨fN,fdN,mN,GN,bN⟩:=S.takeName.ex
 obtain ⟨fdS,GI,bI⟩:=U.init
 obtain ⟨tk,mk⟩:=gk
 refine F.oq vg ?_
 rintro _ _ _ _ H _ Q _ hr ⟨p,l,ws,n,n',a,rfl,R,e,q⟩
 refine ⟨_,aq (aQ (eY TS.mkS GI (hr.mono (by omega)) (by rfl) TS.mgS bI .nil aM (aa (aN (by rfl) mk (v:=.str "savepoint") ⟨_,rfl⟩) (aa (dC (pv 0) T.cl mN GN (hr.mono (by omega)) bN .nil aM) ao)))),?_⟩
 try dsimp only [bU]
 obtain ⟨e1,e⟩:=gd e
 cases e
 refine By rfl R e1 fun t H2 s2 R2 ht=>?_
 intro y dx hx hdx hne
 exact Fq (ki := "savepoint") (tg:=some (Ua ws n)) hx hdx hne R.ex s2 R2 ⟨t,rfl,ht⟩ fun H3 _ U3=>q H3 _ U3.s U3.r U3.m
theorem Ac:aG ["reader"] ["reader"] (az pL):=d9
theorem z6(F:dq K "read_begin" "read_begin" pL f fd)(T:vh K mg C)(TS:yc K mg CS fS)(S:DG P w K mg base C)(U:Ww P w K mg base C CS fS fE fC)(gk:GS mg "BEGIN" "begin"):bf P w K mg base cX 210 f fd ["reader"] (tM C O3 (fj CS)):=by
 obtain ⟨fdS,GI,bI⟩:=U.init
 obtain ⟨tk,mk⟩:=gk
 refine F.oq Ac ?_
 rintro _ _ _ _ H _ Q _ hr ⟨p,l,ws,n,n',a,rfl,R,e,q⟩
 refine ⟨_,aq (aQ (eY TS.mkS GI (hr.mono (by omega)) (by rfl) TS.mgS bI .nil aM (aa (aN (by rfl) mk (v:=.str "begin") ⟨_,rfl⟩) (aa je ao)))),?_⟩
 try dsimp only [bU]
 cases e
 intro y dx hx hdx hne
 exact Fq (ki := "begin") (tg:=none) hx hdx hne R.ex (cg.refl H) R rfl fun H3 _ U3=>q H3 _ U3.s U3.r U3.m
end
noncomputable def Io:List V:=[.str "create",.str "drop",.str "insert",.str "update",.str "delete",.str "select",.str "begin",.str "commit",.str "rollback",.str "savepoint"]
noncomputable def Q0:List (Str × Fin 10 × (List Wd->Nat->RR (ut × Nat))):=[("create",0,KC),("insert",2,Ko),("select",5,Kh),("begin",6,O3),("savepoint",9,yx)]
noncomputable def TQ(ws:List Wd):RR ut:=if eX ws 0 Io=true then (match Q0.find? fun x=>decide (V.str x.1=(cM ws 0).2) with
  | none=>.error 0
  | some x=>(x.2.2 ws 1).bind fun a=>if (cM ws a.2).1="end" then .ok a.1 else .error 0)
 else .error 0
theorem w6:∀ (k:Nat) (cs:List Nat),(gh k cs).length<=k
 | 0,_=>Nat.le_refl _
 | k+1,cs=>by
  unfold gh
  split
  .exact Nat.zero_le _
  .have:=w6 k
   simp only [List.length_cons]
   exact Nat.succ_le_succ (this _)
theorem LK(z:Str):jE (jN z).2=true:=by
 unfold jN JN
 split
 .rfl
 .repeat (first | rfl | split)
theorem Ih(z:Str):∀ w∈iU z,jE w.2=true:=fun w hw=>by
 unfold iU at hw
 obtain ⟨l,_,rfl⟩:=List.mem_map.mp hw
 exact LK _
theorem Mf(z:Str):(iU z).length<=z.length:=by
 unfold iU
 rw [List.length_map]
 exact w6 _ _
section
variable{P:Program}{w:World}{K:PySem.W.Frag}{mg:Str->Option Value}{base:Heap}{f C:Addr}{fd:FuncData}
noncomputable def T3(C:Addr):Sp:=fun vs H Q _=>∃ (y dx l:Addr),vs=[.ref y,.ref l]/\H y=some (.ins C dx [])/\Q .non (bQ H y (.ins C dx (oN l 0)))
theorem yJ:aG ["self","words"] ["self","words"] (az nu):=d9
theorem za(F:dq K "__init__" "Reader.__init__" nu f fd)(T:vh K mg C):bf P w K mg base cX 1 f fd ["self","words"] (T3 C):=by
 refine F.oq yJ ?_
 rintro _ _ _ _ H _ Q _ hr ⟨y,dx,l,rfl,hy,q⟩
 refine ⟨_,ak (b7 (pv 0) (pv 1) rfl) (ak (b7 (pv 0) aF rfl) (aq (b7 (pv 0) aF rfl))),?_⟩
 try dsimp only [bU]
 refine ⟨_,rfl,_,rfl,y,C,dx,_,rfl,hy,T.cl,T.nWo,by show 0<1000;decide,?_⟩
 refine ⟨_,rfl,y,C,dx,_,rfl,aj,T.cl,T.nPa,by show 1<1000;decide,?_⟩
 rw [bY]
 refine ⟨_,rfl,y,C,dx,_,rfl,aj,T.cl,T.nWi,by show 2<1000;decide,?_⟩
 rw [bY]
 exact q
noncomputable abbrev Xd(f:Fin 10->Addr):List (gf × V):=[(.inr "create",.ref (f 0)),(.inr "drop",.ref (f 1)),(.inr "insert",.ref (f 2)),(.inr "update",.ref (f 3)),(.inr "delete",.ref (f 4)),(.inr "select",.ref (f 5)),(.inr "begin",.ref (f 6)),(.inr "commit",.ref (f 7)),(.inr "rollback",.ref (f 8)),(.inr "savepoint",.ref (f 9))]
structure Rd5(P:Program)(w:World)(K:PySem.W.Frag)(mg:Str->Option Value)(base:Heap)(C CS:Addr)(f:Fin 10->Addr):Prop where
 sd:∃ a,mg "STATEMENT_READERS"=some (.ref a)/\SD P w K a (Xd f)
 ok:∀ x∈Q0,∃ fd,bf P w K mg base cX 210 (f x.2.1) fd ["reader"] (tM C x.2.2 (fj CS))/\PySem.W.keepIn K (.ref (f x.2.1))=true/\dR K fd ["reader"] []
theorem S5(f:Fin 10->Addr):∀ x∈Q0,fQ (Xd f) (.inr x.1)=some (.ref (f x.2.1)):=fun x hx=>by
 unfold Q0 at hx
 simp only [List.mem_cons,List.not_mem_nil,or_false] at hx
 rcases hx with rfl | rfl | rfl | rfl | rfl <;> rfl
noncomputable def xM(C CS:Addr):Sp:=fun vs H Q _=>∃ (z:Str) (sm:ut),vs=[.str z]/\z.length<=1000000/\39∉z.cps.toList/\(∀ l∈gh z.length z.cps.toList,JL (mkS l))/\TQ (iU z)=.ok sm/\∀ (H':Hp) (v:V),aR H H'->fj CS H H' sm v->Q v H'
theorem iZ:aG ["text","reader","statement"] ["text"] (az jl):=d9
theorem uY(F:dq K "read_statement" "read_statement" jl f fd)(T:vh K mg C)(S:DG P w K mg base C)(M:Mk K C fI)(GI:bf P w K mg base cX 1 fI fdI ["self","words"] (T3 C))(bI:dR K fdI ["self","words"] [])
  (GW:eZ P w K mg base 5 "split_words" ["text"] JV) (N:Rd5 P w K mg base C CS fs):bf P w K mg base cX 211 f fd ["text"] (xM C CS):=by
 obtain ⟨fL,fdL,mL,GL,bL⟩:=S.look.ex
 obtain ⟨fS,fdS,mS,GS,bS⟩:=S.sees.ex
 obtain ⟨fT,fdT,mT,GT,bT⟩:=S.take.ex
 obtain ⟨fW,fdW,mW,kW,GW,bW⟩:=GW.ex
 obtain ⟨aD,mD,D⟩:=N.sd
 obtain ⟨tE,mE⟩:=T.fin
 refine F.oq iZ ?_
 rintro _ A _ _ H _ Q _ hr ⟨z,sm,rfl,hz,hq,hp,e,q⟩
 have r2:cO 2 _:=hr.mono (by omega)
 refine ⟨_,ak (bc (i:=1) iZ.nd rfl (Or.inl rfl) (eY M GI r2 (by rfl) T.mgC bI .nil aM (aa (aJ GW (hr.mono (by omega)) (by rfl) mW kW bW .nil aM (aa (pv 0) ao)) ao)))
  (ak (bu (fU (cu (cG (pv 1) T.cl mS GS r2 bS .nil aM (aa (dN (Fi rfl D) (by rfl) T.list PyProof.Rows.boot_list (aa (aN (by rfl) mD (v:=.ref aD) rfl) ao)) ao)))) aV aU)
  (ak (bc (i:=2) iZ.nd rfl (Or.inl rfl) (Mw (k:=210) (ps:=["reader"]) (Ou D (aN (by rfl) mD (v:=.ref aD) rfl) (dC (pv 1) T.cl mT GT r2 bT .nil aM) (fun _ _=>rfl)) hr aM (aa (pv 1) ao)))
  (ak (bu (aZ qi (cA cj (dC (pv 1) T.cl mL GL (hr.mono (by omega)) bL .nil aM) aF (fun _ _=>rfl)) (aN (by rfl) mE (v:=.str "end") ⟨_,rfl⟩) (bh _)) aV aU)
  (aq (aQ (pv 2)))))),?_⟩
 try dsimp only [bU]
 refine ⟨_,rfl,z,rfl,hz,hq,hp,fun l rs H1 hl s1 h1 w1=>?_⟩
 intro x dx hx hdx hne
 refine ⟨x,dx,l,rfl,aj,rfl,?_⟩
 rw [bY]
 generalize hws:iU z=ws at e w1
 have fl:∀ u∈ws,jE u.2=true:=by rw [<- hws];exact Ih z
 have wl:ws.length<=1000000:=by rw [<- hws];exact Nat.le_trans (Mf z) hz
 have s2:aR H1 (bQ (bQ H1 dx (.own x)) x (.ins C dx (oN l 0))):=(au hdx).trans (au (by rw [aA (Ne.symm hne)];exact hx))
 generalize hH2:bQ (bQ H1 dx (.own x)) x (.ins C dx (oN l 0))=H2 at s2
 have g2:H2 x=some (.ins C dx (oN l 0)):=by rw [<- hH2,aj]
 have R2:dU C H2 x l ws 0:=⟨⟨dx,g2⟩,⟨rs,s2 _ _ h1,L2.Paired.imp' (fun _ _ u=>u.same s2) w1⟩,fl,wl⟩
 have sH:aR H H2:=s1.trans s2
 have hx0:H x=none:=by
  cases e:H x with
  | none=>rfl
  | some o=>rw [s1 _ _ e] at hx;cases hx
 have lift:∀ {H':Hp},cg [x] H2 H'->aR H H':=fun st b o e=>st _ _ (sH _ _ e) (by simpa using aO e hx0)
 refine ⟨_,rfl,x,dx,_,rfl,g2,rfl,rfl,fun l2 hl2=>?_⟩
 have s3:aR H2 (bQ H2 l2 (.lst Io)):=au hl2
 refine ⟨x,l,l2,ws,0,Io,rfl,R2.same s3,.inl (c7.of aj),rfl,fun H4 s4=>⟨_,rfl,?_⟩⟩
 have R4:=(R2.same s3).same s4
 have s24:cg [x] H2 H4:=aR.step (s3.trans s4)
 obtain ⟨d4,g4⟩:=R4.ob
 obtain ⟨es,e⟩:=gd e
 rw [es]
 split at e
 .cases e
 .rename_i y hy
  obtain ⟨⟨sm,n⟩,e1,e⟩:=Wg e
  obtain ⟨e2,e⟩:=gd e
  cases e
  have hm:=List.mem_of_find?_eq_some hy
  have ev:=List.find?_some hy
  replace ev:V.str y.1=(cM ws 0).2:=of_decide_eq_true ev
  obtain ⟨fdG,GG,kG,bG⟩:=N.ok y hm
  refine cJ (A:=True) ⟨_,rfl,x,d4,_,rfl,g4,rfl,x,l,ws,0,rfl,R4,fun H5 s5 R5=>⟨.inr y.1,.ref (fs y.2.1),rfl,ev.symm,S5 fs y hm,fs y.2.1,fdG,_,rfl,GG,kG,bG,_,rfl,x,l,ws,1,n,sm,rfl,R5,e1,fun H6 v s6 R6 m6=>?_⟩⟩
  obtain ⟨d6,g6⟩:=R6.ob
  have s25:=s24.trans s5
  refine ⟨_,rfl,x,d6,_,rfl,g6,rfl,x,l,ws,n,rfl,R6,fun t H7 s7 ht=>?_⟩
  refine ⟨t,_,0,_,rfl,rfl,cZ.of ht,rfl,rfl,_,rfl,Aw (fun ne=>absurd e2 ne) fun _=>⟨_,rfl,q H7 v (lift ((s25.trans s6).trans (aR.step s7))) ((m6.same s7).old fun b zb=>?_)⟩⟩
  have zb2:=Am s25 R5.ex b zb
  cases eb:H b with
  | none=>rfl
  | some o=>rw [sH _ _ eb] at zb2;cases zb2
end
noncomputable def P0(ns:List Int)(k:Int):Int:=if ns=[] then 0 else ns.getD (k % (ns.length:Int)).toNat 0
noncomputable def Y8(ns:List Int)(k:Int):Int:=(P0 ns k+104729 * (k+1)) % 4294967291
noncomputable def Xu(ns:List Int)(k:Int):Int:=Y8 ns k * 48271 % 4294967279
noncomputable def S9(ns:List Int)(k:Int):Int:=(Xu ns k / 64 * 69621+Xu ns k) % 4294967231
structure Ry(mg:Str->Option Value):Prop where
 isi:mg "isinstance"=none
 int:mg "int"=none
 len:mg "len"=none
 bool:mg "bool"=none
 str:mg "str"=none
 list:mg "list"=none
 tuple:mg "tuple"=none
 range:mg "range"=none
noncomputable def NZ(K:PySem.W.Frag):Sp:=fun vs H Q _=>∃ (a:Addr) (ns:List Int) (k:Int),vs=[.ref a,.int k]/\c7 K H a (ns.map V.int)/\ns.length<=63/\Q (.int (P0 ns k)) H
noncomputable def wu(K:PySem.W.Frag):Sp:=fun vs H Q _=>∃ (a:Addr) (ns:List Int) (k:Int),vs=[.ref a,.int k]/\c7 K H a (ns.map V.int)/\ns.length<=63/\Q (.int (S9 ns k)) H
section
variable{P:Program}{w:World}{K:PySem.W.Frag}{mg:Str->Option Value}{base:Heap}
theorem Ga:aG ["_law_script","_law_k"] ["_law_script","_law_k"] (az uf):=d9
theorem FP(F:dq K "_law_cell" "_law_cell" uf f fd)(T:Ry mg):bf P w K mg base cX 1 f fd ["_law_script","_law_k"] (NZ K):=by
 refine F.oq Ga ?_
 rintro _ A _ _ H _ Q _ hr ⟨a,ns,k,rfl,hS,hl,q⟩
 refine ⟨_,ak (bu (HH (pv 0) (fun _=>rfl)) (aq (aQ (cA jz (pv 0) (cD nO (pv 1) (bw bx (by rfl) T.len PySem.boot_len (aa (pv 0) ao))) (fun _ _=>rfl)))) aU)
  (aq (aQ aF)),?_⟩
 try dsimp only [bU]
 refine ⟨_,rfl,_,.inl ⟨_,hS,rfl⟩,?_⟩
 cases ns with
 | nil=>exact cJ (A:=True) q
 | cons n ns =>
  have h0:(0:Int)<((((n::ns).map V.int).length:Nat):Int):=by rw [List.length_map,List.length_cons];omega
  refine eG (B:=True) ⟨_,rfl,_,rfl,_,rfl,a,_,rfl,.inl hS,_,_,rfl,rfl,h0,a,_,_,_,rfl,rfl,hS,?_,q⟩
  have e:(((n::ns).map V.int).length:Int)=((n::ns).length:Int):=by rw [List.length_map]
  have r0:=Int.emod_nonneg k (show ((n::ns).length:Int)≠0 by rw [List.length_cons];omega)
  have r1:=Int.emod_lt_of_pos k (show (0:Int)<((n::ns).length:Int) by rw [List.length_cons];omega)
  rw [e]
  have e2:k % ((n::ns).length:Int)=((k % ((n::ns).length:Int)).toNat:Int):=by omega
  have hlt:(k % ((n::ns).length:Int)).toNat<(n::ns).length:=by omega
  rw [e2]
  refine DP ?_
  rw [List.getElem?_map,List.getElem?_eq_getElem hlt]
  unfold P0
  rw [if_neg (by simp),List.getD_eq_getElem?_getD,List.getElem?_eq_getElem hlt]
  rfl
theorem ug:aG ["_law_script","_law_k","_law_number"] ["_law_script","_law_k"] (az vL):=d9
theorem Jh(F:dq K "_law_mix" "_law_mix" vL f fd)(GC:eZ P w K mg base 1 "_law_cell" ["_law_script","_law_k"] (NZ K)) :
  bf P w K mg base cX 2 f fd ["_law_script","_law_k"] (wu K):=by
 obtain ⟨fC,fdC,mC,kC,GC,bC⟩:=GC.ex
 refine F.oq ug ?_
 rintro _ _ _ _ H _ Q _ hr ⟨a,ns,k,rfl,hS,hl,q⟩
 refine ⟨_,ak (bc (i:=2) ug.nd rfl (Or.inl rfl) (cD nO (cD gU (aJ GC hr (by rfl) mC kC bC .nil aM (aa (pv 0) (aa (pv 1) ao))) (cD EY aF (cD gU (pv 1) aF))) aF))
  (ak (bc (i:=2) ug.nd rfl (Or.inl rfl) (cD nO (cD EY (pv 2) aF) aF))
  (aq (aQ (cD nO (cD gU (cD EY (cD La (pv 2) aF) aF) (pv 2)) aF)))),?_⟩
 try dsimp only [bU]
 refine ⟨_,rfl,_,rfl,a,ns,k,rfl,hS,hl,_,rfl,_,_,rfl,rfl,_,_,rfl,rfl,.inl ⟨by decide,by decide⟩,_,_,rfl,rfl,_,_,rfl,rfl,(by show (0:Int)<4294967291;decide),?_⟩
 refine ⟨_,rfl,_,_,rfl,rfl,.inr ⟨by decide,by decide⟩,_,_,rfl,rfl,(by show (0:Int)<4294967279;decide),?_⟩
 refine ⟨_,rfl,_,_,rfl,rfl,⟨by decide,by decide⟩,_,_,rfl,rfl,.inr ⟨by decide,by decide⟩,_,rfl,_,_,rfl,rfl,_,_,rfl,rfl,(by show (0:Int)<4294967231;decide),?_⟩
 exact q
noncomputable def uy:Sp:=fun vs H Q _=>∃ i:Int,vs=[.int i]/\Q (.bl true) H
theorem Ez:aG ["_law_found"] ["_law_found"] (az rJ):=d9
theorem Em(F:dq K "_law_whole" "_law_whole" rJ f fd)(T:Ry mg):bf P w K mg base cX 1 f fd ["_law_found"] uy:=by
 refine F.oq Ez ?_
 rintro _ _ _ _ H _ Q _ hr ⟨i,rfl,q⟩
 refine ⟨_,aq (aQ (pH (bw gF (by rfl) T.isi PyProof.Rows.boot_isinstance (aa (pv 0) (aa (ir (v:=.ty "int") (by rfl) T.int PyProof.Rows.boot_int rfl) ao)))
  (jH (JK (bw gF (by rfl) T.isi PyProof.Rows.boot_isinstance (aa (pv 0) (aa (ir (v:=.ty "bool") (by rfl) T.bool PyProof.Rows.boot_bool rfl) ao))))))),?_⟩
 try dsimp only [bU]
 refine ⟨_,rfl,_,_,_,true,rfl,.inr ⟨_,rfl⟩,.int i,rfl,_,rfl,eG (B:=True) ?_⟩
 exact ⟨_,rfl,_,_,_,false,rfl,.inr ⟨_,rfl⟩,.int i,rfl,_,rfl,q⟩
noncomputable def Ox:Sp:=fun vs H Q _=>∃ i:Int,vs=[.int i,.int i]/\Q (.bl true) H
theorem nG:aG ["_law_found","_law_due","_law_k"] ["_law_found","_law_due"] (az jW):=d9
theorem yG(F:dq K "_law_answer" "_law_answer" jW f fd)(T:Ry mg)(GW:eZ P w K mg base 1 "_law_whole" ["_law_found"] uy):bf P w K mg base cX 2 f fd ["_law_found","_law_due"] Ox:=by
 obtain ⟨fW,fdW,mW,kW,GW,bW⟩:=GW.ex
 refine F.oq nG ?_
 rintro _ _ _ _ H _ Q _ hr ⟨i,rfl,q⟩
 refine ⟨_,ak (bu (fU (cu (bw gF (by rfl) T.isi PyProof.Rows.boot_isinstance (aa (pv 1) (aa (ir (v:=.ty "list") (by rfl) T.list PyProof.Rows.boot_list rfl) ao)))))
  (aq (aQ (pH (aJ GW hr (by rfl) mW kW bW .nil aM (aa (pv 0) ao)) (jH (eQ dG (pv 0) (pv 1) (bh _)))))) aU) aV,?_⟩
 try dsimp only [bU]
 refine ⟨_,rfl,_,_,_,false,rfl,.inr ⟨_,rfl⟩,.int i,rfl,_,rfl,eG (B:=True) ?_⟩
 refine ⟨_,rfl,i,rfl,_,rfl,eG (B:=True) ?_⟩
 refine ⟨_,rfl,_,rfl,rfl,?_⟩
 rw [decide_eq_true rfl]
 exact q
noncomputable def PL:Sp:=fun vs H Q _=>∃ (a b:Addr) (c:Str) (p i:Int),vs=[.ref a,.ref b]/\H a=some (.tup [.str c,.int p,.int i])/\H b=some (.tup [.str c,.int p,.int i])/\Q (.bl true) H
theorem uE:aG ["_law_found","_law_due"] ["_law_found","_law_due"] (az lV):=d9
theorem Al(F:dq K "_law_reply" "_law_reply" lV f fd)(T:Ry mg)(GW:eZ P w K mg base 1 "_law_whole" ["_law_found"] uy)(GA:eZ P w K mg base 2 "_law_answer" ["_law_found","_law_due"] Ox):bf P w K mg base cX 3 f fd ["_law_found","_law_due"] PL:=by
 obtain ⟨fW,fdW,mW,kW,GW,bW⟩:=GW.ex
 obtain ⟨fA,fdA,mA,kA,GA,bA⟩:=GA.ex
 refine F.oq uE ?_
 rintro _ A _ _ H _ Q _ hr ⟨a,b,c,p,i,rfl,ha,hb,q⟩
 have r1:cO 1 _:=hr.mono (by omega)
 refine ⟨_,ak (bu (PW.pt (lZ (fU (cu (bw gF (by rfl) T.isi PyProof.Rows.boot_isinstance (aa (pv 0) (aa (ir (v:=.ty "tuple") (by rfl) T.tuple PyProof.Rows.boot_tuple rfl) ao)))))
  (lZ (aZ qi (bw bx (by rfl) T.len PySem.boot_len (aa (pv 0) ao)) aF (bh _))
  (lZ (fU (cu (bw gF (by rfl) T.isi PyProof.Rows.boot_isinstance (aa (cA cj (pv 0) aF (fun _ _=>rfl)) (aa (ir (v:=.ty "str") (by rfl) T.str PyProof.Rows.boot_str rfl) ao)))))
  (pB (fU (cu (aJ GW r1 (by rfl) mW kW bW .nil aM (aa (cA cj (pv 0) aF (fun _ _=>rfl)) ao)))))))))
  (aq (aQ lO)) aU)
  (aq (aQ (pH (eQ dG (cA cj (pv 0) aF (fun _ _=>rfl)) (cA cj (pv 1) aF (fun _ _=>rfl)) (bh _))
   (pH (BL (eQ QJ (cA cj (pv 1) aF (fun _ _=>rfl)) je (bh _)) (jH (eQ dG (cA cj (pv 0) aF (fun _ _=>rfl)) (cA cj (pv 1) aF (fun _ _=>rfl)) (bh _))))
   (jH (aJ GA (hr.mono (by omega)) (by rfl) mA kA bA .nil aM (aa (cA cj (pv 0) aF (fun _ _=>rfl)) (aa (cA cj (pv 1) aF (fun _ _=>rfl)) ao)))))))),?_⟩
 try dsimp only [bU]
 refine ⟨_,rfl,_,_,_,true,rfl,.inr ⟨_,rfl⟩,.tup ha,rfl,_,rfl,cJ (A:=True) ?_⟩
 refine ⟨_,rfl,a,_,rfl,.inr (cZ.of ha),rfl,_,rfl,cJ (A:=True) ?_⟩
 refine ⟨_,rfl,a,_,_,_,rfl,rfl,cZ.of ha,rfl,_,_,_,true,rfl,.inr ⟨_,rfl⟩,.str c,rfl,_,rfl,cJ (A:=True) ?_⟩
 refine ⟨_,rfl,a,_,_,_,rfl,rfl,cZ.of ha,rfl,p,rfl,_,rfl,cJ (A:=True) ?_⟩
 refine ⟨_,rfl,a,_,_,_,rfl,rfl,cZ.of ha,rfl,_,rfl,b,_,_,_,rfl,rfl,cZ.of hb,rfl,rfl,_,rfl,?_⟩
 rw [decide_eq_true rfl]
 refine eG (B:=True) ⟨_,rfl,b,_,_,_,rfl,rfl,cZ.of hb,rfl,rfl,_,rfl,cJ (A:=True) ?_⟩
 refine ⟨_,rfl,a,_,_,_,rfl,rfl,cZ.of ha,rfl,_,rfl,b,_,_,_,rfl,rfl,cZ.of hb,rfl,rfl,_,rfl,?_⟩
 rw [decide_eq_true rfl]
 refine eG (B:=True) ⟨_,rfl,a,_,_,_,rfl,rfl,cZ.of ha,rfl,_,rfl,b,_,_,_,rfl,rfl,cZ.of hb,rfl,i,rfl,?_⟩
 exact q
end
end KL
namespace Mx
noncomputable def look(w:List (Int × List Int))(k:Int):Option (List Int):=(w.find? fun q=>decide (q.1=k)).map (·.2)
noncomputable def Gs(w:List (Int × List Int))(k:Int)(x:List Int):List (Int × List Int) :=
 if (w.any fun q=>decide (q.1=k))=true then w.map (fun q=>if q.1=k then (q.1,x) else q) else w++[(k,x)]
noncomputable def Qf(s:List (Option (List Int)))(w:List (Int × List Int)):List (Option (List Int)):=w.foldl (fun s q=>s.set q.1.toNat (some q.2)) s
theorem xg(k:Int):look [] k=none:=rfl
theorem MT(q:Int × List Int)(w:List (Int × List Int))(k:Int):look (q::w) k=if q.1=k then some q.2 else look w k:=by
 unfold look
 rw [List.find?_cons]
 by_cases h:q.1=k <;> simp [h]
theorem Fp(s:List (Option (List Int)))(w:List (Int × List Int)):(Qf s w).length=s.length:=by
 induction w generalizing s with
 | nil=>rfl
 | cons q w ih=>show (Qf (s.set q.1.toNat (some q.2)) w).length=s.length;rw [ih];simp
theorem Rn(w:List (Int × List Int))(k:Int)(x:List Int):(w.map fun q=>if q.1=k then (q.1,x) else q).map (·.1)=w.map (·.1):=by
 rw [List.map_map]
 apply List.map_congr_left
 intro q _
 show (if q.1=k then (q.1,x) else q).1=q.1
 split <;> rfl
theorem Pn{w:List (Int × List Int)}{k:Int}(h:¬ (w.any fun q=>decide (q.1=k))=true):¬ k∈w.map (·.1):=by
 intro hm
 obtain ⟨q,hq,e⟩:=List.mem_map.mp hm
 exact h (List.any_eq_true.mpr ⟨q,hq,by simp [e]⟩)
theorem BX{w:List (Int × List Int)}{k:Int}{x:List Int}(hn:(w.map (·.1)).Nodup):((Gs w k x).map (·.1)).Nodup:=by
 unfold Gs
 by_cases h:(w.any fun q=>decide (q.1=k))=true
 .rw [if_pos h,Rn];exact hn
 .rw [if_neg h,List.map_append]
  rw [List.nodup_append]
  refine ⟨hn,by simp,?_⟩
  intro a ha b hb e
  have:b=k:=by simpa using hb
  exact Pn h (by rw [<- this,<- e];exact ha)
theorem JW(h:q∈Gs w k x):q.1=k\/∃ q'∈w,q'.1=q.1:=by
 unfold Gs at h
 by_cases ha:(w.any fun q=>decide (q.1=k))=true
 .rw [if_pos ha] at h
  obtain ⟨q',hq',e⟩:=List.mem_map.mp h
  refine .inr ⟨q',hq',?_⟩
  rw [<- e];split <;> rfl
 .rw [if_neg ha] at h
  rcases List.mem_append.mp h with h | h
  .exact .inr ⟨q,h,rfl⟩
  .exact .inl (by rw [List.mem_singleton.mp h])
theorem Hn:∀ {l:List Int},l.Nodup->l.length<=(l.filter fun x=>decide (x≠a)).length+1
 | [],_=>by simp
 | x::l,h=>by
  have hx:=List.nodup_cons.mp h
  by_cases e:x=a
  .have hl:(l.filter fun y=>decide (y≠a))=l:=List.filter_eq_self.mpr fun y hy=>by
    simp only [decide_eq_true_eq]
    intro z
    exact hx.1 (by rw [e,<- z];exact hy)
   rw [List.filter_cons_of_neg (by simp [e]),hl]
   simp
  .rw [List.filter_cons_of_pos (by simp [e])]
   have:=Hn (a:=a) hx.2
   simp only [List.length_cons]
   omega
theorem Qc:∀ (n:Nat) (l:List Int),l.Nodup->(∀ x∈l,0<=x/\x<n)->l.length<=n
 | 0,[],_,_=>by simp
 | 0,x::l,_,h=>by have:=h x (by simp);omega
 | n+1,l,hn,h=>by
  have h1:=Qc n (l.filter fun x=>decide (x≠(n:Int))) (hn.filter _) (fun x hx=>by
   have hm:=List.mem_filter.mp hx
   have h2:=h x hm.1
   have h3:x≠(n:Int):=of_decide_eq_true hm.2
   omega)
  have h2:=Hn (a:=(n:Int)) hn
  omega
end Mx
namespace KD
open PySem L2 Mx
structure DS where
 fuel:Option Int
 dead:Bool
 done:Int
 sure:List (Option (List Int))
 wait:List (Int × List Int)
noncomputable def XJ:Option Int->V
 | none=>.non
 | some f=>.int f
noncomputable def dZ(fu:Option Int)(de:Bool)(dn:Int)(sl wd:Addr):List (Str × V):=[("fuel",XJ fu),("dead",.bl de),("done",.int dn),("sure",.ref sl),("waiting",.ref wd)]
theorem Z5:¬ (("fuel":Str)="dead"):=dk
theorem Z2:¬ (("fuel":Str)="done"):=dk
theorem n03:¬ (("fuel":Str)="sure"):=dk
theorem Z9:¬ (("fuel":Str)="waiting"):=dk
theorem Z1:¬ (("dead":Str)="done"):=dk
theorem n13:¬ (("dead":Str)="sure"):=dk
theorem n14:¬ (("dead":Str)="waiting"):=dk
theorem n23:¬ (("done":Str)="sure"):=dk
theorem n24:¬ (("done":Str)="waiting"):=dk
theorem Z4:¬ (("sure":Str)="waiting"):=dk
section
variable(fu:Option Int)(de:Bool)(dn:Int)(sl wd:Addr)
theorem yH:(dZ fu de dn sl wd).lookup ("fuel":Str)=some (XJ fu):=by rfl
theorem IK:(dZ fu de dn sl wd).lookup ("dead":Str)=some (.bl de):=by rfl
theorem Rt:(dZ fu de dn sl wd).lookup ("done":Str)=some (.int dn):=by rfl
theorem Ia:(dZ fu de dn sl wd).lookup ("sure":Str)=some (.ref sl):=by rfl
theorem Do:(dZ fu de dn sl wd).lookup ("waiting":Str)=some (.ref wd):=by rfl
theorem Qq{m:Str}(h0:¬ m="fuel")(h1:¬ m="dead")(h2:¬ m="done")(h3:¬ m="sure")(h4:¬ m="waiting"):(dZ fu de dn sl wd).lookup m=none:=by
 unfold dZ
 simp [List.lookup_cons,beq_eq_false_iff_ne.mpr h0,beq_eq_false_iff_ne.mpr h1,beq_eq_false_iff_ne.mpr h2,beq_eq_false_iff_ne.mpr h3,beq_eq_false_iff_ne.mpr h4]
theorem UG(f:Option Int):eU "fuel" (XJ f) (dZ fu de dn sl wd)=dZ f de dn sl wd:=by
 unfold dZ;simp only [eU,if_pos]
theorem Wo(b:Bool):eU "dead" (.bl b) (dZ fu de dn sl wd)=dZ fu b dn sl wd:=by
 unfold dZ;simp only [eU,if_neg Z5,if_pos]
theorem QB(n:Int):eU "done" (.int n) (dZ fu de dn sl wd)=dZ fu de n sl wd:=by
 unfold dZ;simp only [eU,if_neg Z2,if_neg Z1,if_pos]
theorem V5(w:Addr):eU "waiting" (.ref w) (dZ fu de dn sl wd)=dZ fu de dn sl w:=by
 unfold dZ;simp only [eU,if_neg Z9,if_neg n14,if_neg n24,if_neg Z4,if_pos]
theorem UW:eU "waiting" (.ref wd) (eU "sure" (.ref sl) (eU "done" (.int dn) (eU "dead" (.bl de) (eU "fuel" (XJ fu) []))))=dZ fu de dn sl wd:=by
 unfold dZ;simp only [eU,if_neg Z5,if_neg Z2,if_neg n03,if_neg Z9,if_neg Z1,if_neg n13,if_neg n14,if_neg n23,if_neg n24,if_neg Z4]
end
noncomputable def pR(H:Hp):Option (List Int)->V->Prop
 | none,v=>v=.non
 | some xs,v=>∃ t,v=.ref t/\H t=some (.tup (xs.map V.int))
noncomputable def pX(H:Hp)(q:Int × List Int)(kv:gf × V):Prop:=kv.1=Sum.inl q.1/\pR H (some q.2) kv.2
structure dj(C:Addr)(H:Hp)(p sl wd:Addr)(d:DS):Prop where
 ob:∃ dx,H p=some (.ins C dx (dZ d.fuel d.dead d.done sl wd))
 su:∃ vs,H sl=some (.lst vs)/\Paired (pR H) d.sure vs
 wa:∃ kvs,H wd=some (.dK kvs)/\Paired (pX H) d.wait kvs
 n:d.sure.length<=4000
 w:d.wait.length<=4000
 ks:∀ q∈d.wait,0<=q.1/\q.1<d.sure.length
 nd:(d.wait.map (·.1)).Nodup
noncomputable def cg(A:List Addr)(H H':Hp):Prop:=∀ b o,H b=some o->b∉A->H' b=some o
theorem aR.step(s:aR H H'):cg A H H':=fun b o e _=>s b o e
noncomputable def Cm(H H':Hp):Prop:=∀ b xs,H b=some (.tup xs)->H' b=some (.tup xs)
theorem pR.mono(t:Cm H H'):∀ {pg:Option (List Int)} {v:V},pR H pg v->pR H' pg v
 | none,_,h=>h
 | some _,_,⟨a,e,z⟩=>⟨a,e,t _ _ z⟩
theorem pX.mono(t:Cm H H')(h:pX H q kv):pX H' q kv:=⟨h.1,h.2.mono t⟩
theorem dj.same(D:dj C H p sl wd d)(s:aR H H'):dj C H' p sl wd d:=by
 obtain ⟨dx,h1⟩:=D.ob
 obtain ⟨vs,h2,h3⟩:=D.su
 obtain ⟨kvs,h4,h5⟩:=D.wa
 have t:Cm H H':=fun b xs e=>s b _ e
 exact ⟨⟨dx,s _ _ h1⟩,⟨vs,s _ _ h2,L2.Paired.imp' (fun _ _ z=>pR.mono t z) h3⟩,⟨kvs,s _ _ h4,L2.Paired.imp' (fun _ _ z=>pX.mono t z) h5⟩,D.n,D.w,D.ks,D.nd⟩
theorem dj.apart(D:dj C H p sl wd d):p≠sl/\p≠wd/\sl≠wd:=by
 obtain ⟨dx,h1⟩:=D.ob
 obtain ⟨vs,h2,_⟩:=D.su
 obtain ⟨kvs,h4,_⟩:=D.wa
 exact ⟨gA h1 h2 (by intro z;cases z),gA h1 h4 (by intro z;cases z),gA h2 h4 (by intro z;cases z)⟩
noncomputable abbrev VE:List Value:=[.type "ValueError",.type "Exception",.type "BaseException",.type "object"]
structure Txt(K:PySem.W.Frag)(mg:Str->Option Value)(C CN CD:Addr):Prop where
 cl:jQ K C
 nFu:dw K C "fuel"
 nDe:dw K C "dead"
 nDo:dw K C "done"
 nSu:dw K C "sure"
 nWa:dw K C "waiting"
 mgC:mg "Disk"=some (.ref C)
 mgN:mg "NoPage"=some (.ref CN)
 mgD:mg "Dead"=some (.ref CD)
 exN:PySem.W.excIn K CN VE "ValueError.__new__"=true
 exD:PySem.W.excIn K CD VE "ValueError.__new__"=true
 len:mg "len"=none
 all:mg "all"=none
 range:mg "range"=none
 list:mg "list"=none
 tuple:mg "tuple"=none
 most:∃ t,mg "MOST_NUMBERS"=some (.int 40 t)
 larg:∃ t,mg "LARGEST_NUMBER"=some (.int 255 t)
noncomputable def qG(xs:List Int):Bool:=decide (xs.length<=40) && xs.all fun n=>decide (0<=n) && decide (n<=255)
noncomputable def uT(K:PySem.W.Frag):Sp:=fun vs H Q _=>∃ (r:Addr) (xs:List Int),vs=[.ref r]/\c7 K H r (xs.map V.int)/\xs.length<=1000/\∀ H',aR H H'->Q (.bl (qG xs)) H'
noncomputable def HW(C:Addr):Sp:=fun vs H Q _=>∃ (p sl wd:Addr) (d:DS),vs=[.ref p]/\dj C H p sl wd d/\Q (.int d.sure.length) H
noncomputable def DK(C CN:Addr):Sp:=fun vs H Q E=>∃ (p sl wd:Addr) (d:DS) (k:Int),vs=[.ref p,.int k]/\dj C H p sl wd d/\k.natAbs.log2<1000/\(0<=k/\k<d.sure.length->Q .non H)/\(¬ (0<=k/\k<d.sure.length)->E (.ref CN) none H)
theorem Mm{k:Int}(h:k.natAbs.log2<1000):(Str.ofString "there is no page ").length+(Str.ofString (toString k)).length<=sizeLine:=by
 have e:=int_text_length_le (k:=1000) (by decide) h
 have e2:(Str.ofString "there is no page ").length=17:=dk
 rw [e2,ofString_length,sizeLine_eq]
 omega
theorem Ue{c A B:Prop}[Decidable c](hc:¬ c)(h:A):if (!decide c)=true then A else B:=by
 rw [decide_eq_false hc]
 exact h
theorem dj.setp(D:dj C H p sl wd d)(fu:Option Int)(de:Bool)(dn:Int):dj C (bQ H p (.ins C dx (dZ fu de dn sl wd))) p sl wd { d with fuel:=fu,dead:=de,done:=dn }:=by
 obtain ⟨n1,n2,n3⟩:=D.apart
 obtain ⟨vs,h2,h3⟩:=D.su
 obtain ⟨kvs,h4,h5⟩:=D.wa
 obtain ⟨_,h1⟩:=D.ob
 have t:Cm H (bQ H p (.ins C dx (dZ fu de dn sl wd))):=fun b xs e=>by
  rw [aA (gA e h1 (by intro z;cases z))]
  exact e
 exact ⟨⟨dx,aj⟩,⟨vs,by rw [aA n1.symm];exact h2,L2.Paired.imp' (fun _ _ z=>pR.mono t z) h3⟩,⟨kvs,by rw [aA n2.symm];exact h4,L2.Paired.imp' (fun _ _ z=>pX.mono t z) h5⟩,D.n,D.w,D.ks,D.nd⟩
theorem uM(h:p∈A):cg A H (bQ H p o):=fun b u e hb=>by
 rw [aA (fun z=>hb (by rw [z];exact h))]
 exact e
theorem cg.trans(a:cg A H H1)(b:cg A H1 H2):cg A H H2:=fun c o e n=>b c o (a c o e n) n
theorem cg.mono(a:cg A H H')(h:∀ x∈A,x∈B):cg B H H':=fun c o e n=>a c o e fun z=>n (h c z)
noncomputable def DS.gone(d:DS):Bool:=d.dead || match d.fuel with | some f=>decide (f<1) | none=>false
noncomputable def DS.spent(d:DS):DS:={ d with fuel:=d.fuel.map (· - 1),done:=d.done+1 }
noncomputable def DR(C CD:Addr):Sp:=fun vs H Q E=>∃ (p sl wd:Addr) (d:DS),vs=[.ref p]/\dj C H p sl wd d/\(d.gone=false->∀ H',cg [p] H H'->dj C H' p sl wd d.spent->Q .non H') /\
 (d.gone=true->∀ H',cg [p] H H'->dj C H' p sl wd { d with dead:=true }->E (.ref CD) none H')
section
variable{P:Program}{w:World}{K:PySem.W.Frag}{mg:Str->Option Value}{base:Heap}
theorem scT:aG ["row"] ["row"] (az KL.jY):=d9
theorem Oi(F:dq K "page_takes" "page_takes" KL.jY f fd)(T:Txt K mg C CN CD):bf P w K mg base cX 1 f fd ["row"] (uT K):=by
 refine F.oq scT ?_
 rintro _ _ _ s H _ Q _ hr ⟨r,xs,rfl,hS,hl,k⟩
 obtain ⟨t40,m40⟩:=T.most
 obtain ⟨t255,m255⟩:=T.larg
 refine ⟨_,ak (bu (aZ yl (bw bx (by rfl) T.len PySem.boot_len (aa (pv 0) ao)) (aN (v:=.int 40) (by rfl) m40 ⟨t40,rfl⟩) (bh _)) (aq (aQ lO)) aU)
  (aq (aQ (bw (vD rfl) (by rfl) T.all PyProof.Rows.Boot.«all» (aa (jg (x := "number") (fv:=[]) (js:=[]) (cl:=[]) rfl
   ⟨by with_unfolding_all rfl,rfl,dk,dk,rfl,dk,trivial,by exact ⟨fun z=>(by rcases z with z | z <;> cases z),fun z=>(by rcases z with z | z <;> cases z),fun z=>(by rcases z with z | z <;> cases z),trivial⟩,trivial,fun _=>rfl⟩
   (gB (pv 0)) (fun pins fp s H=>yL Qx Qx aF (pv 0) (aN (v:=.int 255) (by rfl) m255 ⟨t255,rfl⟩))) ao)))),?_⟩
 try dsimp only [bU]
 refine ⟨_,rfl,r,_,rfl,.inl hS,_,_,rfl,rfl,_,rfl,?_⟩
 have hlen:(xs.map V.int).length=xs.length:=List.length_map ..
 refine vq (fun h=>?_) (fun h=>?_)
 .have e:qG xs=false:=by
   have h1:=of_decide_eq_true h
   rw [hlen] at h1
   unfold qG
   rw [decide_eq_false (by omega)]
   rfl
  have q:=k H (aR.refl H)
  rw [e] at q
  exact q
 .have h1:xs.length<=40:=by
   have h1:=of_decide_eq_false (Bool.eq_false_iff.mpr h)
   rw [hlen] at h1
   omega
  refine ⟨_,rfl,r,rfl,⟨_,hS⟩,fun D hD=>?_⟩
  refine ye (xs:=xs.map V.int) (fun v=>match v with | .int n=>.bl (decide (0<=n) && decide (n<=255)) | _=>.non) (by rw [hlen];exact Nat.le_trans hl (by decide)) hS hD (fun i x Hc kk hi _ q=>?_) ?_
  .obtain ⟨n,rfl⟩:∃ n,x=V.int n:=by
    rw [List.getElem?_map] at hi
    obtain ⟨n,_,e⟩:=Option.map_eq_some_iff.mp hi
    exact ⟨n,e.symm⟩
   refine ⟨_,rfl,_,_,rfl,rfl,_,rfl,?_⟩
   refine vq (fun h0=>⟨_,_,rfl,rfl,?_⟩) (fun h0=>?_)
   .have e:(decide (0<=n) && decide (n<=255))=decide (n<=255):=by rw [h0];rfl
    simp only [e] at q
    exact q
   .have e:(decide (0<=n) && decide (n<=255))=false:=by rw [Bool.eq_false_iff.mpr h0];rfl
    simp only [e] at q
    exact q
  .refine ⟨D,xs.map fun n=>decide (0<=n) && decide (n<=255),rfl,.inl (.inl ?_),?_⟩
   .rw [aj,List.map_map,List.map_map]
    rfl
   .have q:=k _ (au (o:=.lst ((xs.map V.int).map fun v=>match v with | .int n=>.bl (decide (0<=n) && decide (n<=255)) | _=>.non)) hD)
    have e:qG xs=(xs.map fun n=>decide (0<=n) && decide (n<=255)).all id:=by
     unfold qG
     rw [decide_eq_true h1,List.all_map]
     rfl
    rw [<- e]
    exact q
theorem scS:aG ["self"] ["self"] (az KL.mU):=d9
theorem Kd(F:dq K "size" "Disk.size" KL.mU f fd)(T:Txt K mg C CN CD):bf P w K mg base cX 1 f fd ["self"] (HW C):=by
 refine F.oq scS ?_
 rintro _ _ _ _ H _ Q _ hr ⟨p,sl,wd,d,rfl,D,q⟩
 obtain ⟨dx,h1⟩:=D.ob
 obtain ⟨vs,h2,h3⟩:=D.su
 refine ⟨_,aq (aQ (bw bx (by rfl) T.len PySem.boot_len (aa (aY (pv 0) rfl) ao))),?_⟩
 try dsimp only [bU]
 refine ⟨_,rfl,p,C,dx,_,_,rfl,h1,T.cl,T.nSu,Ia ..,sl,vs,rfl,.inl (c7.of h2),?_⟩
 rw [<- h3.length]
 exact q
theorem Zh:aG ["self","k"] ["self","k"] (az KL.jf):=d9
theorem Rm{f C CN CD fS:Addr}{fd fdS:FuncData}(F:dq K "check_page" "Disk.check_page" KL.jf f fd)(T:Txt K mg C CN CD)(mS:wV K C "size" fS)(FS:dq K "size" "Disk.size" KL.mU fS fdS)(bS:dR K fdS ["self"] []) :
  bf P w K mg base (vY P w) 2 f fd ["self","k"] (DK C CN):=by
 have GS:bf P w K mg base cX 1 fS fdS ["self"] (HW C):=Kd FS T
 refine F.oqX Zh ?_
 rintro _ _ _ _ H _ Q E hr ⟨p,sl,wd,d,k,rfl,D,hk,q1,q2⟩
 obtain ⟨dx,h1⟩:=D.ob
 refine ⟨_,aq (bu (fU (Oz Qx wg aF (pv 1) (dC (pv 0) T.cl mS GS hr bS .nil aM)))
  (aq (qO xj rfl (by rfl) T.mgN T.exN PySem.F.excBase_ValueError (aa (Od (pv 1) (by decide)) ao))) aU),?_⟩
 try dsimp only [bU]
 refine ⟨_,rfl,_,_,rfl,rfl,_,rfl,?_⟩
 have bad:¬ (0<=k/\k<d.sure.length)->Rr (fun _=>E) CN (aW (fun σ H Q=>cP 1 σ H fun y H1=>∃ i,y=.int i/\i.natAbs.log2<1920/\(Str.ofString "there is no page ").length+(toString i:Str).length<=sizeLine/\Q (.str (Str.empty++Str.ofString "there is no page "++toString i)) H1) cW) { nx:=fun _ H'=>Q .non H',rt:=Q } [some (.ref p),some (.int k)] H:=fun z=>by
  exact ⟨_,rfl,k,rfl,by omega,Mm hk,xZ,q2 z⟩
 refine vq (fun h0=>?_) (fun h0=>?_)
 .refine ⟨_,rfl,p,dx,_,rfl,h1,Qq _ _ _ _ _ dk dk dk dk dk,p,sl,wd,d,rfl,D,_,_,rfl,rfl,_,rfl,?_⟩
  by_cases h1:k<d.sure.length
  .rw [decide_eq_true h1]
   exact q1 ⟨of_decide_eq_true h0,h1⟩
  .rw [decide_eq_false h1]
   exact bad fun z=>h1 z.2
 .exact ⟨_,rfl,bad fun z=>h0 (decide_eq_true z.1)⟩
theorem YL:aG ["self"] ["self"] (az KL.pG):=d9
theorem QC{f C CN CD:Addr}{fd:FuncData}(F:dq K "spend" "Disk.spend" KL.pG f fd)(T:Txt K mg C CN CD):bf P w K mg base (vY P w) 1 f fd ["self"] (DR C CD):=by
 refine F.oqX YL ?_
 rintro _ A _ _ H _ Q _ hr ⟨p,sl,wd,⟨fu,de,dn,su,wt⟩,rfl,D,q1,q2⟩
 obtain ⟨dx,h1⟩:=D.ob
 dsimp only at h1
 refine ⟨_,ak (bu (PW.pt (yo (eV (jw (aY (pv 0) rfl))) (uL (aZ wg (aY (pv 0) rfl) aF (bh _))))) (aq (b7 (pv 0) lO rfl)) aU)
  (ak (bu (HH (aY (pv 0) rfl) (fun _=>rfl)) (aq (qO xj rfl (by rfl) T.mgD T.exD PySem.F.excBase_ValueError (aa aX ao))) aU)
  (ak (bu (eV (jw (aY (pv 0) rfl))) (aq (oG (pv 0) aF Qz)) aU)
  (aq (oG (pv 0) aF JF)))),?_⟩
 try dsimp only [bU]
 refine ⟨_,rfl,p,C,dx,_,_,rfl,h1,T.cl,T.nFu,yH ..,_,rfl,?_⟩
 have few:∀ (fu:Option Int) (de:Bool) (dn:Int),(dZ fu de dn sl wd).length<1000:=fun _ _ _=>by show 5<1000;decide
 cases fu with
 | none =>
  refine Ka rfl (cJ (A:=True) ?_)
  refine ⟨_,rfl,p,C,dx,_,_,rfl,h1,T.cl,T.nDe,IK ..,de,rfl,?_⟩
  cases de with
  | true =>
   refine eG (B:=True) ⟨xZ,q2 rfl H (aR.step (aR.refl H)) D⟩
  | false =>
   refine cJ (A:=True) ?_
   refine ⟨_,rfl,p,C,dx,_,_,rfl,h1,T.cl,T.nFu,yH ..,_,rfl,Ka rfl ?_⟩
   refine ⟨_,rfl,p,C,dx,_,_,rfl,h1,T.cl,T.nDo,Rt ..,_,_,rfl,rfl,dx,_,h1,few _ _ _,?_⟩
   rw [QB]
   exact q1 rfl _ (uM (.head _)) (D.setp none false (dn+1))
 | some fv =>
  refine Ue (by intro z;cases z) ?_
  refine ⟨_,rfl,p,C,dx,_,_,rfl,h1,T.cl,T.nFu,yH ..,fv,_,rfl,rfl,_,rfl,?_⟩
  refine vq (fun hf=>?_) (fun hf=>?_)
  .refine ⟨_,rfl,p,C,dx,_,rfl,h1,T.cl,T.nDe,few _ _ _,?_⟩
   rw [Wo]
   refine ⟨_,rfl,p,C,dx,_,_,rfl,aj,T.cl,T.nDe,IK ..,true,rfl,eG (B:=True) ⟨xZ,?_⟩⟩
   refine q2 ?_ _ (uM (.head _)) (D.setp (some fv) true dn)
   show (de || decide (fv<1))=true
   rw [hf]
   exact Bool.or_true _
  .refine ⟨_,rfl,p,C,dx,_,_,rfl,h1,T.cl,T.nDe,IK ..,de,rfl,?_⟩
   cases de with
   | true =>
    refine eG (B:=True) ⟨xZ,q2 rfl H (aR.step (aR.refl H)) D⟩
   | false =>
    refine cJ (A:=True) ?_
    refine ⟨_,rfl,p,C,dx,_,_,rfl,h1,T.cl,T.nFu,yH ..,_,rfl,Ue (by intro z;cases z) ?_⟩
    refine ⟨_,rfl,p,C,dx,_,_,rfl,h1,T.cl,T.nFu,yH ..,fv,_,rfl,rfl,dx,_,h1,few _ _ _,?_⟩
    have e:=UG (some fv) false dn sl wd (some (fv - 1))
    rw [show V.int (fv - 1)=XJ (some (fv - 1)) from rfl,e]
    refine ⟨_,rfl,p,C,dx,_,_,rfl,aj,T.cl,T.nDo,Rt ..,_,_,rfl,rfl,dx,_,aj,few _ _ _,?_⟩
    rw [QB,bY]
    refine q1 ?_ _ (uM (.head _)) (D.setp (some (fv - 1)) false (dn+1))
    show (false || decide (fv<1))=false
    rw [Bool.eq_false_iff.mpr hf]
    rfl
end
noncomputable def DS.cur(d:DS)(k:Int):Option (List Int):=match look d.wait k with | some xs=>some xs | none=>(d.sure[k.toNat]?).join
noncomputable def xM(C CN:Addr):Sp:=fun vs H Q E=>∃ (p sl wd:Addr) (d:DS) (k:Int),vs=[.ref p,.int k]/\dj C H p sl wd d/\k.natAbs.log2<1000 /\
 (0<=k/\k<d.sure.length->match d.cur k with | none=>Q .non H | some xs=>∀ l,H l=none->Q (.ref l) (bQ H l (.lst (xs.map V.int))))/\(¬ (0<=k/\k<d.sure.length)->E (.ref CN) none H)
theorem Vi(p:Paired (pX H) wt kvs):match look wt k with | some xs=>∃ v,fQ kvs (Sum.inl k)=some v/\pR H (some xs) v | none=>fQ kvs (Sum.inl k)=none:=by
 induction p with
 | nil=>rfl
 | @cons q kv _ _ h _ ih =>
  rw [MT]
  by_cases e:q.1=k
  .rw [if_pos e]
   exact ⟨kv.2,gn (by rw [h.1,e]),h.2⟩
  .rw [if_neg e,gm (by rw [h.1];exact fun z=>e (Sum.inl.inj z))]
   exact ih
theorem Pq:∀ {su:List (Option (List Int))} {vs:List V} {j:Nat},Paired (pR H) su vs->j<su.length->∃ v,vs[j]?=some v/\pR H (su[j]?).join v
 | [],_,_,_,h=>absurd h (Nat.not_lt_zero _)
 | s::su,v::vs,0,.cons h _,_=>⟨v,rfl,h⟩
 | s::su,v::vs,j+1,.cons _ r,h=>by
  obtain ⟨v',e,z⟩:=Pq (j:=j) r (by simpa using h)
  exact ⟨v',by simpa using e,by simpa using z⟩
section
variable{P:Program}{w:World}{K:PySem.W.Frag}{mg:Str->Option Value}{base:Heap}
theorem scR:aG ["self","k","page"] ["self","k"] (az KL.qC):=d9
theorem TJ(F:dq K "read" "Disk.read" KL.qC f fd)(T:Txt K mg C CN CD)(mK:wV K C "check_page" fK)(GK:bf P w K mg base (vY P w) 2 fK fdK ["self","k"] (DK C CN))(bK:dR K fdK ["self","k"] []) :
  bf P w K mg base (vY P w) 3 f fd ["self","k"] (xM C CN):=by
 refine F.oqX scR ?_
 rintro _ A _ _ H _ Q _ hr ⟨p,sl,wd,d,k,rfl,D,hk,q1,q2⟩
 have hu:=ql hr
 obtain ⟨dx,h1⟩:=D.ob
 obtain ⟨vs,h2,h3⟩:=D.su
 obtain ⟨kvs,h4,h5⟩:=D.wa
 refine ⟨_,ak (bz (cG (pv 0) T.cl mK GK hr bK .nil yR (aa (pv 1) ao)))
  (ak (bc (i:=2) scR.nd rfl (Or.inl rfl) (Qs hu (aY (pv 0) rfl) (pv 1) (cA jz (aY (pv 0) rfl) (pv 1) (fun _ _=>rfl)) ⟨rfl,rfl,rfl,rfl⟩))
  (aq (aQ (ig (eV (lK (pv 2))) je (dN jP (by rfl) T.list PyProof.Rows.boot_list (aa (pv 2) ao)))))),?_⟩
 try dsimp only [bU]
 refine ⟨_,rfl,p,dx,_,rfl,h1,Qq _ _ _ _ _ dk dk dk dk dk,_,rfl,p,sl,wd,d,k,rfl,D,hk,fun hr=>?_,fun hr=>q2 hr⟩
 obtain ⟨v,hv,pv⟩:=Pq (j:=k.toNat) h3 (by omega)
 have q:=q1 hr
 have hat:T7 vs k=some v:=by
  have e:k=(k.toNat:Int):=by omega
  rw [e]
  exact DP hv
 refine ⟨_,rfl,p,C,dx,_,_,rfl,h1,T.cl,T.nWa,Do ..,wd,rfl,.inl ⟨kvs,.inl h4⟩,_,rfl,_,rfl,p,C,dx,_,_,rfl,h1,T.cl,T.nSu,Ia ..,_,rfl,sl,vs,k,v,rfl,rfl,c7.of h2,hat,_,oE.k (k:=Sum.inl k) h4,?_⟩
 have hw:=Vi (k:=k) h5
 have fin:∀ (v:V) (pg:Option (List Int)),pR H pg v->(match pg with | none=>Q .non H | some xs=>∀ l,H l=none->Q (.ref l) (bQ H l (.lst (xs.map V.int)))) ->
   ∃ x,(([some (V.ref p),some (V.int k),none]:St).set 2 (some v))[2]?=some (some x)/\∃ c,V.bl (decide (x=V.non))=V.bl c/\if c=true then Q .non H else ∃ y,(([some (V.ref p),some (V.int k),none]:St).set 2 (some v))[2]?=some (some y)/\∃ t ys,[y]=[V.ref t]/\(c7 K H t ys\/cZ K H t ys)/\∀ l,H l=none->Q (.ref l) (bQ H l (.lst ys)):=fun v pg hp q=>by
  refine ⟨_,rfl,_,rfl,?_⟩
  cases pg with
  | none =>
   cases hp
   exact eG (B:=True) q
  | some xs =>
   obtain ⟨t,rfl,ht⟩:=hp
   exact cJ (A:=True) ⟨_,rfl,t,_,rfl,.inr (cZ.of ht),q⟩
 unfold DS.cur at q
 cases hl:look d.wait k with
 | some xs =>
  rw [hl] at hw q
  obtain ⟨v',e,pv'⟩:=hw
  rw [e]
  exact fin v' (some xs) pv' q
 | none =>
  rw [hl] at hw q
  rw [hw]
  exact fin v _ pv q
end
noncomputable def KH(K:PySem.W.Frag)(C CN CD:Addr):Sp:=fun vs H Q E=>∃ (p sl wd r:Addr) (d:DS) (k:Int) (xs:List Int),vs=[.ref p,.int k,.ref r]/\dj C H p sl wd d/\c7 K H r (xs.map V.int)/\xs.length<=1000/\r≠p/\k.natAbs.log2<1000 /\
 (¬ (0<=k/\k<d.sure.length)\/qG xs=false->∀ H',aR H H'->E (.ref CN) none H') /\
 (0<=k/\k<d.sure.length->qG xs=true->d.gone=true->∀ H',cg [p] H H'->dj C H' p sl wd { d with dead:=true }->E (.ref CD) none H') /\
 (0<=k/\k<d.sure.length->qG xs=true->d.gone=false->∀ H',cg [p,wd] H H'->dj C H' p sl wd { d.spent with wait:=Gs d.wait k xs }->Q .non H')
theorem pC:∀ {a c:List α} {b d:List β},Paired R a b->Paired R c d->Paired R (a++c) (b++d)
 | [],_,[],_,.nil,h=>h
 | _::_,_,_::_,_,.cons x r,h=>.cons x (pC r h)
theorem Wm(t:Cm H H')(hv:pR H' (some xs) v)(p:Paired (pX H) wt kvs) :
  Paired (pX H') (wt.map fun q=>if q.1=k then (q.1,xs) else q) (kvs.map fun kv=>if kv.1=Sum.inl k then (kv.1,v) else kv):=by
 induction p with
 | nil=>exact .nil
 | @cons q _ _ _ h _ ih =>
  refine .cons ?_ ih
  dsimp only
  by_cases e:q.1=k
  .rw [if_pos e,if_pos (by rw [h.1,e])]
   exact ⟨h.1,hv⟩
  .rw [if_neg e,if_neg (by rw [h.1];exact fun z=>e (Sum.inl.inj z))]
   exact pX.mono t h
theorem Wn(p:Paired (pX H) wt kvs):(wt.any fun q=>decide (q.1=k))=kvs.any fun kv=>decide (kv.1=(Sum.inl k:gf)):=by
 induction p with
 | nil=>rfl
 | @cons q _ _ _ h _ ih =>
  rw [List.any_cons,List.any_cons,ih,h.1]
  congr 1
  by_cases e:q.1=k
  .simp [e]
  .rw [decide_eq_false e,decide_eq_false fun z=>e (Sum.inl.inj z)]
theorem Vc(t:Cm H H')(hv:pR H' (some xs) v)(h:Paired (pX H) wt kvs):Paired (pX H') (Gs wt k xs) (lD kvs (Sum.inl k) v):=by
 unfold Gs lD
 rw [Wn h]
 by_cases e:(kvs.any fun kv=>decide (kv.1=(Sum.inl k:gf)))=true
 .rw [if_pos e,if_pos e]
  exact Wm t hv h
 .rw [if_neg e,if_neg e]
  exact pC (L2.Paired.imp' (fun _ _ z=>pX.mono t z) h) (.cons ⟨rfl,hv⟩ .nil)
section
variable{P:Program}{w:World}{K:PySem.W.Frag}{mg:Str->Option Value}{base:Heap}
theorem scW:aG ["self","k","row"] ["self","k","row"] (az KL.pQ):=d9
theorem QQ(F:dq K "write" "Disk.write" KL.pQ f fd)(T:Txt K mg C CN CD)
  (mK:wV K C "check_page" fK) (GK:bf P w K mg base (vY P w) 2 fK fdK ["self","k"] (DK C CN)) (bK:dR K fdK ["self","k"] [])
  (mT:mg "page_takes"=some (.ref fT)) (FT:dq K "page_takes" "page_takes" KL.jY fT fdT) (bT:dR K fdT ["row"] [])
  (mS:wV K C "spend" fS) (GS:bf P w K mg base (vY P w) 1 fS fdS ["self"] (DR C CD)) (bS:dR K fdS ["self"] []) :
  bf P w K mg base (vY P w) 3 f fd ["self","k","row"] (KH K C CN CD):=by
 have GT:bf P w K mg base cX 1 fT fdT ["row"] (uT K):=Oi FT T
 refine F.oqX scW ?_
 rintro _ A _ _ H _ Q _ hr ⟨p,sl,wd,r,d,k,xs,rfl,D,hS,hx,hrp,hk,q1,q2,q3⟩
 have hu:=ql hr
 have hr1:cO 1 _:=hr.mono (by decide)
 obtain ⟨dx,h1⟩:=D.ob
 have no:∀ m:Str,¬ m="fuel"->¬ m="dead"->¬ m="done"->¬ m="sure"->¬ m="waiting"->∀ (fu:Option Int) (de:Bool) (dn:Int),(dZ fu de dn sl wd).lookup m=none:=fun m a b c e g fu de dn=>Qq fu de dn sl wd a b c e g
 refine ⟨_,ak (bz (cG (pv 0) T.cl mK GK hr bK .nil yR (aa (pv 1) ao)))
  (ak (bu (fU (cu (aJ GT hr1 (by rfl) mT FT.kp bT .nil aM (aa (pv 2) ao)))) (aq (qO xj rfl (by rfl) T.mgN T.exN PySem.F.excBase_ValueError (aa aX ao))) aU)
  (ak (bz (dC (pv 0) T.cl mS GS hr1 bS .nil yR))
  (aq (Dj hu (aY (pv 0) rfl) (pv 1) (dN ie (by rfl) T.tuple PyProof.Rows.boot_tuple (aa (pv 2) ao)) rfl)))),?_⟩
 try dsimp only [bU]
 refine ⟨_,rfl,p,dx,_,rfl,h1,no _ dk dk dk dk dk ..,_,rfl,p,sl,wd,d,k,rfl,D,hk,fun hr=>?_,fun hr=>q1 (.inl hr) H (aR.refl H)⟩
 refine ⟨_,rfl,r,xs,rfl,hS,hx,fun H1 s1=>⟨_,rfl,?_⟩⟩
 cases ht:qG xs with
 | false=>exact eG (B:=True) ⟨xZ,q1 (.inr ht) H1 s1⟩
 | true =>
  refine cJ (A:=True) ?_
  have D1:=D.same s1
  refine ⟨_,rfl,p,dx,_,rfl,s1 _ _ h1,no _ dk dk dk dk dk ..,p,sl,wd,d,rfl,D1,fun hg H2 s2 D2=>?_,fun hg H2 s2 D2=>q2 hr ht hg H2 (fun b o e n=>s2 b o (s1 b o e) n) D2⟩
  obtain ⟨dy,g1⟩:=D2.ob
  obtain ⟨kvs,g4,g5⟩:=D2.wa
  obtain ⟨n1,n2,n3⟩:=D2.apart
  have hS2:c7 K H2 r (xs.map V.int):=by
   rcases s1.seq hS with z | z
   .rcases z with z | ⟨o,z⟩
    .exact .inl (.inl (s2 _ _ z (by simpa using hrp)))
    .exact .inl (.inr ⟨o,s2 _ _ z (by simpa using hrp)⟩)
   .exact .inr z
  refine ⟨_,rfl,r,_,rfl,.inl ⟨hS2,fun t ht'=>?_⟩⟩
  have up:∀ b o,H2 b=some o->bQ H2 t (.tup (xs.map V.int)) b=some o:=fun b o e=>by
   rw [aA (aO e ht')]
   exact e
  refine ⟨_,rfl,p,C,dy,_,_,rfl,up _ _ g1,T.cl,T.nWa,Do ..,_,rfl,wd,_,rfl,Ib.k (k:=Sum.inl k) (up _ _ g4) ?_,?_⟩
  .have:=D2.w
   have e:=g5.length
   exact Nat.lt_of_le_of_lt (by rw [<- e];exact this) (by decide)
  .have tt:Cm H2 (bQ (bQ H2 t (.tup (xs.map V.int))) wd (.dK (lD kvs (Sum.inl k) (.ref t)))):=fun b ys e=>by
    rw [aA (gA e g4 (by intro z;cases z)),aA (aO e ht')]
    exact e
   have twd:t≠wd:=(aO g4 ht').symm
   refine q3 hr ht hg _ (fun b o e n=>?_) ⟨⟨dy,?_⟩,?_,⟨_,aj,Vc tt ⟨t,rfl,?_⟩ g5⟩,D.n,?_,fun q hq=>?_,BX D.nd⟩
   .have nb:b≠p:=fun z=>n (by rw [z];exact .head _)
    have e2:=s2 b o (s1 b o e) (by simpa using nb)
    rw [aA (fun z=>n (by rw [z];exact .tail _ (.head _))),aA (aO e2 ht')]
    exact e2
   .rw [aA n2,aA (aO g1 ht')]
    exact g1
   .obtain ⟨vs,g2,g3⟩:=D2.su
    exact ⟨vs,by rw [aA n3,aA (aO g2 ht')];exact g2,L2.Paired.imp' (fun _ _ z=>pR.mono tt z) g3⟩
   .rw [aA twd,aj]
   .have z:=Qc d.sure.length ((Gs d.wait k xs).map (·.1)) (BX D.nd) (fun x hx=>by
     obtain ⟨q,hq,rfl⟩:=List.mem_map.mp hx
     rcases JW hq with z | ⟨q',hq',e⟩
     .rw [z];exact hr
     .rw [<- e];exact D.ks q' hq')
    rw [List.length_map] at z
    exact Nat.le_trans z D.n
   .rcases JW hq with z | ⟨q',hq',e⟩
    .rw [z];exact hr
    .rw [<- e];exact D.ks q' hq'
end
end KD
namespace L2
open PySem
theorem PS.nox(h:PS X.nox st t):PS X st t:=fun pins s σ H D I hw =>
 wpAny_mono (h pins s σ H D (I.wish _) hw) (fun _ _ q=>q.unwish) fun _ _ z=>False.elim z
end L2
namespace KD
open PySem L2 Mx
noncomputable def Qw(C CD:Addr):Sp:=fun vs H Q E=>∃ (p sl wd:Addr) (d:DS),vs=[.ref p]/\dj C H p sl wd d /\
 (d.gone=false->∀ wd' H',H wd'=none->cg [p,sl] H H'->dj C H' p sl wd' { d.spent with sure:=Qf d.sure d.wait,wait:=[] }->Q .non H') /\
 (d.gone=true->∀ H',cg [p] H H'->dj C H' p sl wd { d with dead:=true }->E (.ref CD) none H')
noncomputable def zP(vs:List V)(kvs:List (gf × V)):List V:=kvs.foldl (fun s kv=>match kv.1 with | .inl k=>s.set k.toNat kv.2 | .inr _=>s) vs
theorem Ms(vs:List V)(kvs:List (gf × V))(k:Int)(v:V):zP vs (kvs++[(Sum.inl k,v)])=(zP vs kvs).set k.toNat v:=by
 unfold zP
 rw [List.foldl_append]
 rfl
theorem Bv{α β:Type}{R:α->β->Prop}{a:α}{b:β}(h:R a b):∀ {xs:List α} {ys:List β} (i:Nat),Paired R xs ys->Paired R (xs.set i a) (ys.set i b)
 | [],[],_,.nil=>.nil
 | _::_,_::_,0,.cons _ r=>.cons h r
 | _::_,_::_,i+1,.cons x r=>.cons x (Bv h i r)
theorem Nj{H:Hp}{wt:List (Int × List Int)}{kvs:List (gf × V)}{su:List (Option (List Int))}{vs:List V}(h:Paired (pR H) su vs)(p:Paired (pX H) wt kvs):Paired (pR H) (Qf su wt) (zP vs kvs):=by
 induction p generalizing su vs with
 | nil=>exact h
 | @cons q kv _ _ x _ ih =>
  obtain ⟨key,v⟩:=kv
  obtain ⟨e,z⟩:=x
  dsimp only at e
  subst e
  exact ih (Bv z q.1.toNat h)
theorem rH:∀ (kvs:List (gf × V)) (vs:List V),(zP vs kvs).length=vs.length
 | [],_=>rfl
 | (.inl k,v)::kvs,vs=>by show (zP (vs.set k.toNat v) kvs).length=vs.length;rw [rH];simp
 | (.inr x,v)::kvs,vs=>by show (zP vs kvs).length=vs.length;rw [rH]
theorem Xf(p:Paired (pX H) wt kvs):∀ {i:Nat} {kv:gf × V},kvs[i]?=some kv->∃ q,wt[i]?=some q/\pX H q kv:=by
 induction p with
 | nil=>intro i kv e;simp at e
 | cons h _ ih =>
  intro i kv e
  cases i with
  | zero =>
   simp at e
   subst e
   exact ⟨_,rfl,h⟩
  | succ i =>
   obtain ⟨q,e1,z⟩:=ih (i:=i) (by simpa using e)
   exact ⟨q,by simpa using e1,z⟩
theorem Rz(p:Paired (pX H) wt kvs):kvs.map (·.1)=(wt.map (·.1)).map Sum.inl:=by
 induction p with
 | nil=>rfl
 | cons h _ ih=>rw [List.map_cons,List.map_cons,List.map_cons,ih,h.1]
theorem Bp:∀ {l:List Int},l.Nodup->(l.map (Sum.inl:Int->gf)).Nodup
 | [],_=>List.nodup_nil
 | x::l,h=>by
  have hx:=List.nodup_cons.mp h
  rw [List.map_cons]
  refine List.nodup_cons.mpr ⟨fun z=>?_,Bp hx.2⟩
  obtain ⟨y,hy,e⟩:=List.mem_map.mp z
  exact hx.1 (by rw [<- Sum.inl.inj e];exact hy)
theorem Ln:∀ {kvs:List (gf × V)} {i:Nat} {kv:gf × V},(kvs.map (·.1)).Nodup->kvs[i]?=some kv->fQ kvs kv.1=some kv.2
 | [],_,_,_,e=>by simp at e
 | x::kvs,0,kv,_,e=>by
  have:x=kv:=by simpa using e
  subst this
  exact gn rfl
 | x::kvs,i+1,kv,h,e=>by
  have hx:=List.nodup_cons.mp (show (x.1::kvs.map (·.1)).Nodup from h)
  have e':kvs[i]?=some kv:=by simpa using e
  rw [gm (fun z=>hx.1 (by rw [z];exact List.mem_map.mpr ⟨kv,List.mem_of_getElem? e',rfl⟩))]
  exact Ln hx.2 e'
theorem VB{n:Nat}{k:Int}(h0:0<=k)(h1:k<n):RD n k=some k.toNat:=by
 unfold RD
 rw [if_pos h0,if_pos h1]
section
variable{P:Program}{w:World}{K:PySem.W.Frag}{mg:Str->Option Value}{base:Heap}
theorem W3:aG ["self","k"] ["self"] (az KL.rB):=d9
theorem Tg(F:dq K "sync" "Disk.sync" KL.rB f fd)(T:Txt K mg C CN CD)
  (mS:wV K C "spend" fS) (GS:bf P w K mg base (vY P w) 1 fS fdS ["self"] (DR C CD)) (bS:dR K fdS ["self"] []):bf P w K mg base (vY P w) 2 f fd ["self"] (Qw C CD):=by
 refine F.oqX W3 ?_
 rintro _ _ _ _ H _ Q _ hr ⟨p,sl,wd,d,rfl,D,q1,q2⟩
 have hu:=ql hr
 obtain ⟨dx,h1⟩:=D.ob
 have no:∀ m:Str,¬ m="fuel"->¬ m="dead"->¬ m="done"->¬ m="sure"->¬ m="waiting"->∀ (fu:Option Int) (de:Bool) (dn:Int),(dZ fu de dn sl wd).lookup m=none:=fun m a b c e g fu de dn=>Qq fu de dn sl wd a b c e g
 refine ⟨_,ak (bz (dC (pv 0) T.cl mS GS hr bS .nil yR))
  (ak (PS.nox (TY (jn PassesOwn.never rfl (RP (aY (pv 0) rfl)) (cz (i:=1) W3.nd rfl (Or.inl rfl)) (aq (Vz (rY hu (aY (pv 0) rfl) (pv 1) (fun _ _=>rfl)) (UV (aY (pv 0) rfl) (pv 1) NP))))))
  (aq (b7 (pv 0) rC rfl))),?_⟩
 try dsimp only [bU]
 refine ⟨_,rfl,p,dx,_,rfl,h1,no _ dk dk dk dk dk ..,p,sl,wd,d,rfl,D,fun hg H2 s2 D2=>?_,q2⟩
 obtain ⟨dy,g1⟩:=D2.ob
 obtain ⟨vs,g2,g3⟩:=D2.su
 obtain ⟨kvs,g4,g5⟩:=D2.wa
 obtain ⟨n1,n2,n3⟩:=D2.apart
 have hkeys:(kvs.map (·.1)).Nodup:=by rw [Rz g5];exact Bp D2.nd
 refine ⟨_,rfl,p,C,dy,_,_,rfl,g1,T.cl,T.nWa,Do ..,wd,kvs,rfl,g4,fun L o=>?_⟩
 refine Qa (fun i σ H3=>∃ v:Option V,σ=[some (.ref p),v]/\H3 wd=some (.frz o (.dK kvs))/\H3 sl=some (.lst (zP vs (kvs.take i)))/\cg [sl,wd] H2 H3)
  ⟨none,rfl,aj,by rw [aA n3];exact g2,uM (.tail _ (.head _))⟩ (fun i σ H3 _ ⟨_,_,z,_⟩=>z) ?_ ?_
 .rintro i kv σ H3 hi ⟨v,rfl,a1,a2,a3⟩
  obtain ⟨q,hq,hk,pg⟩:=Xf g5 hi
  obtain ⟨key,kval⟩:=kv
  dsimp only at hk
  subst hk
  have hq2:=D2.ks q (List.mem_of_getElem? hq)
  have b1:H3 p=some _:=a3 _ _ g1 (by simp [n1,n2])
  refine ⟨_,rfl,p,C,dy,_,_,rfl,b1,T.cl,T.nWa,Do ..,_,rfl,wd,kval,rfl,.inl ⟨kvs,Sum.inl q.1,.inr ⟨o,a1⟩,rfl,(Ln hkeys hi).symm⟩,?_⟩
  refine ⟨_,rfl,p,C,dy,_,_,rfl,b1,T.cl,T.nSu,Ia ..,_,rfl,sl,_,q.1,_,rfl,rfl,a2,VB hq2.1 ?_,?_⟩
  .rw [rH,<- g3.length];exact hq2.2
  .refine ⟨_,rfl,by rw [aA n3.symm];exact a1,?_,fun b u e n=>?_⟩
   .rw [aj,List.take_succ,hi]
    show _=some (HO.lst (zP vs (kvs.take i++[(Sum.inl q.1,kval)])))
    rw [Ms]
   .rw [aA (fun z=>n (by rw [z];exact .head _))]
    exact a3 b u e n
 .rintro σ H3 ⟨v,rfl,a1,a2,a3⟩
  refine ⟨wd,o,kvs,L,a1,?_⟩
  intro wd' hw'
  rw [List.take_length] at a2
  have b0:bQ H3 wd (.dK kvs) p=some (.ins C dy (dZ d.spent.fuel d.spent.dead d.spent.done sl wd)):=by
   rw [aA n2]
   exact a3 _ _ g1 (by simp [n1,n2])
  refine ⟨_,rfl,p,C,dy,_,rfl,by rw [aA (aO b0 hw')];exact b0,T.cl,T.nWa,by show 5<1000;decide,?_⟩
  rw [V5]
  -- what is left: the disk anew
  have st:cg [p,sl] H2 (bQ (bQ (bQ H3 wd (.dK kvs)) wd' (.dK [])) p (.ins C dy (dZ d.spent.fuel d.spent.dead d.spent.done sl wd'))):=fun b u e n=>by
   have c1:bQ H3 wd (.dK kvs) b=some u:=by
    by_cases z:b=wd
    .subst z
     rw [g4] at e
     cases e
     exact aj
    .rw [aA z]
     exact a3 b u e (by
      intro m
      rcases List.mem_cons.mp m with m | m
      .exact n (by rw [m];exact .tail _ (.head _))
      .exact z (List.mem_singleton.mp m))
   rw [aA (fun z=>n (by rw [z];exact .head _)),aA (aO c1 hw')]
   exact c1
  have c2:bQ H3 wd (.dK kvs) sl=some (.lst (zP vs kvs)):=by rw [aA n3];exact a2
  have tt:Cm H2 (bQ (bQ (bQ H3 wd (.dK kvs)) wd' (.dK [])) p (.ins C dy (dZ d.spent.fuel d.spent.dead d.spent.done sl wd'))):=fun b xs e =>
   st b _ e (by
    intro m
    rcases List.mem_cons.mp m with m | m
    .rw [m,g1] at e;cases e
    .rw [List.mem_singleton.mp m,g2] at e;cases e)
  have hw0:H wd'=none:=by
   cases e:H wd' with
   | none=>rfl
   | some u =>
    exfalso
    by_cases z:wd'=p
    .rw [z,b0] at hw';cases hw'
    .have e2:=s2 wd' u e (by simpa using z)
     by_cases z2:wd'=sl
     .rw [z2,c2] at hw';cases hw'
     .by_cases z3:wd'=wd
      .rw [z3,aj] at hw';cases hw'
      .rw [aA z3,a3 wd' u e2 (by simp [z2,z3])] at hw'
       cases hw'
  have np:wd'≠p:=fun z=>by rw [z,b0] at hw';cases hw'
  have ns:sl≠wd':=aO c2 hw'
  refine q1 hg wd' _ hw0 (fun b u e n=>st b u (s2 b u e (fun m=>n (by rw [List.mem_singleton.mp m];exact .head _))) n) ⟨⟨dy,aj⟩,⟨_,by rw [aA n1.symm,aA ns];exact c2,?_⟩,⟨[],by rw [aA np,aj],.nil⟩,?_,Nat.zero_le _,fun q hq=>(nomatch hq),List.nodup_nil⟩
  .exact L2.Paired.imp' (fun _ _ z=>pR.mono tt z) (Nj g3 g5)
  .show (Qf d.sure d.wait).length<=4000
   rw [Fp]
   exact D.n
end
noncomputable def Dk(n:Nat):DS:=⟨none,false,0,List.replicate n (some []),[]⟩
noncomputable def Qy(C:Addr):Sp:=fun vs H Q _=>∃ (p dx:Addr) (n:Nat),vs=[.ref p,.int n]/\H p=some (.ins C dx [])/\n<=4000/\∀ sl wd H',H sl=none->H wd=none->cg [p] H H'->dj C H' p sl wd (Dk n)->Q .non H'
theorem Ba:∀ {ys:List V},(∀ y∈ys,∃ t,y=.ref t/\H t=some (.tup []))->Paired (pR H) (List.replicate ys.length (some [])) ys
 | [],_=>.nil
 | y::ys,h=>.cons (h y (.head _)) (Ba fun z hz=>h z (.tail _ hz))
section
variable{P:Program}{w:World}{K:PySem.W.Frag}{mg:Str->Option Value}{base:Heap}
theorem scI:aG ["self","pages"] ["self","pages"] (az KL.rQ):=d9
theorem TF(F:dq K "__init__" "Disk.__init__" KL.rQ f fd)(T:Txt K mg C CN CD):bf P w K mg base cX 1 f fd ["self","pages"] (Qy C):=by
 refine F.oq scI ?_
 rintro _ _ _ s H _ Q _ hr ⟨p,dx,n,rfl,hp,hn,q⟩
 refine ⟨_,ak (b7 (pv 0) je rfl) (ak (b7 (pv 0) lO rfl) (ak (b7 (pv 0) aF rfl)
  (ak (b7 (pv 0) (jg (x := "k") (fv:=[]) (js:=[]) (cl:=[]) rfl
   ⟨by with_unfolding_all rfl,rfl,dk,dk,rfl,dk,trivial,by exact ⟨fun z=>(by rcases z with z | z <;> cases z),fun z=>(by rcases z with z | z <;> cases z),trivial⟩,trivial,fun _=>rfl⟩
   (jo (by rfl) T.range (aa (pv 1) ao)) (fun pins fp s H=>b8 ao)) rfl) (aq (b7 (pv 0) rC rfl))))),?_⟩
 try dsimp only [bU]
 refine ⟨_,rfl,p,C,dx,_,rfl,hp,T.cl,T.nFu,by show 0<1000;decide,?_⟩
 refine ⟨_,rfl,p,C,dx,_,rfl,aj,T.cl,T.nDe,by show 1<1000;decide,?_⟩
 refine ⟨_,rfl,p,C,dx,_,rfl,aj,T.cl,T.nDo,by
  have:=iI "dead" (V.bl false) (eU "fuel" V.non [])
  exact Nat.lt_of_le_of_lt this (by show 2<1000;decide),?_⟩
 rw [bY,bY]
 generalize hi:eU "done" (V.int 0) (eU "dead" (V.bl false) (eU "fuel" V.non []))=ins
 have hil:ins.length<=3:=by
  rw [<- hi]
  have a:=iI "done" (V.int 0) (eU "dead" (V.bl false) (eU "fuel" V.non []))
  have b:=iI "dead" (V.bl false) (eU "fuel" V.non [])
  have c:(eU ("fuel":Str) V.non []).length=1:=rfl
  omega
 refine ⟨_,rfl,n,rfl,Int.le_trans (by decide) (Int.natCast_nonneg n),Int.lt_of_le_of_lt (Int.ofNat_le.mpr hn) (by decide),fun D hD=>?_⟩
 have nD:p≠D:=fun z=>by rw [<- z,aj] at hD;cases hD
 have hD0:H D=none:=by rw [aA nD.symm] at hD;exact hD
 refine yp (fun i ys Hc=>ys.length=i/\(∀ y∈ys,∃ t,y=.ref t/\Hc t=some (.tup []))/\Hc D=some (.lst ys)/\aR (bQ H p (.ins C dx ins)) Hc) ?_ ⟨rfl,fun y hy=>(nomatch hy),aj,au hD⟩ (fun i ys Hc _ ⟨a,_,b,_⟩=>⟨b,a⟩) ?_ ?_
 .rw [Int.toNat_natCast];exact Nat.le_trans hn (by decide)
 .rintro i ys Hc k hi ⟨a1,a2,a3,a4⟩ kk
  refine ⟨Nat.zero_le _,fun t ht=>kk _ _ ?_ ⟨?_,?_,aj,?_⟩⟩
  .rw [aA (aO a3 ht)];exact a3
  .simp [a1]
  .have nt:t≠D:=(aO a3 ht).symm
   intro y hy
   rcases List.mem_append.mp hy with hy | hy
   .obtain ⟨t',e,z⟩:=a2 y hy
    refine ⟨t',e,?_⟩
    rw [aA (fun x=>by rw [x,a3] at z;cases z),aA (aO z ht)]
    exact z
   .rw [List.mem_singleton.mp hy]
    exact ⟨t,rfl,by rw [aA nt,aj]⟩
  .intro b o e
   have e1:=a4 b o e
   have nb:b≠D:=aO e hD
   rw [aA nb,aA (aO e1 ht)]
   exact e1
 .rintro ys Hc ⟨a1,a2,a3,a4⟩
  have hpc:Hc p=some (.ins C dx ins):=a4 _ _ aj
  refine ⟨_,rfl,p,C,dx,_,rfl,hpc,T.cl,T.nSu,by omega,?_⟩
  intro wd hw
  have nwp:wd≠p:=fun z=>by rw [z,aj] at hw;cases hw
  refine ⟨_,rfl,p,C,dx,_,rfl,by rw [aA nwp.symm,aj],T.cl,T.nWa,by
   have:=iI "sure" (V.ref D) ins
   omega,?_⟩
  have e:eU "waiting" (V.ref wd) (eU "sure" (V.ref D) ins)=dZ none false 0 D wd:=by
   rw [<- hi]
   exact UW none false 0 D wd
  rw [e]
  have hwc:Hc wd=none:=by rw [aA nwp] at hw;exact hw
  have hw0:H wd=none:=by
   cases e:H wd with
   | none=>rfl
   | some o =>
    have:=a4 wd o (by rw [aA nwp];exact e)
    rw [hwc] at this
    cases this
  have up:∀ b o,b≠p->Hc b=some o->bQ (bQ (bQ Hc p (.ins C dx (eU "sure" (V.ref D) ins))) wd (.dK [])) p (.ins C dx (dZ none false 0 D wd)) b=some o:=fun b o n e=>by
   rw [aA n,aA (aO e hwc),aA n]
   exact e
  refine q D wd _ hD0 hw0 (fun b o e n=>?_) ⟨⟨dx,aj⟩,⟨ys,up _ _ nD.symm a3,?_⟩,⟨[],by rw [aA nwp,aj],.nil⟩,by show (List.replicate n _).length<=4000;rw [List.length_replicate];exact hn,Nat.zero_le _,fun q hq=>(nomatch hq),List.nodup_nil⟩
  .have nb:b≠p:=fun z=>n (by rw [z];exact .head _)
   exact up b o nb (a4 b o (by rw [aA nb];exact e))
  .have z:=Ba (H:=bQ (bQ (bQ Hc p (.ins C dx (eU "sure" (V.ref D) ins))) wd (.dK [])) p (.ins C dx (dZ none false 0 D wd))) (ys:=ys) fun y hy=>by
    obtain ⟨t,e,z⟩:=a2 y hy
    exact ⟨t,e,up t _ (fun x=>by rw [x,hpc] at z;cases z) z⟩
   rw [a1,Int.toNat_natCast] at z
   exact z
end
end KD
namespace KL
open PySem L2
noncomputable def xr:Nat->Int->Int
 | 0,n=>n
 | i+1,n=>xr i n / 256
noncomputable def jD(w:Nat)(n:Int):List Int:=(List.range w).map fun i=>xr i n % 256
noncomputable def u6:List Int->Int
 | []=>0
 | x::xs=>u6 xs * 256+x
theorem Nh(w:Nat)(n:Int):jD (w+1) n=jD w n++[xr w n % 256]:=by
 unfold jD
 rw [List.range_succ,List.map_append]
 rfl
theorem dY(w:Nat)(n:Int):(jD w n).length=w:=by unfold jD;rw [List.length_map,List.length_range]
theorem BV:∀ (i:Nat) (n:Int),xr (i+1) n=xr i (n / 256)
 | 0,_=>rfl
 | i+1,n=>by show xr (i+1) n / 256=xr i (n / 256) / 256;rw [BV i n]
theorem MK(w:Nat)(n:Int):jD (w+1) n=n % 256::jD w (n / 256):=by
 unfold jD
 rw [List.range_succ_eq_map,List.map_cons,List.map_map]
 congr 1
 exact List.map_congr_left fun i _=>by show xr (i+1) n % 256=_;rw [BV]
theorem Bx(w:Nat)(n:Int):∀ x∈jD w n,0<=x/\x<=255:=by
 intro x hx
 unfold jD at hx
 obtain ⟨i,_,rfl⟩:=List.mem_map.mp hx
 have h0:=Int.emod_nonneg (xr i n) (show (256:Int)≠0 by decide)
 have h1:=Int.emod_lt_of_pos (xr i n) (show (0:Int)<256 by decide)
 omega
theorem ue:∀ (w:Nat) (n:Int),0<=n->n<256 ^ w->u6 (jD w n)=n
 | 0,n,h0,h1=>by
  have:n=0:=by simp at h1;omega
  subst this
  rfl
 | w+1,n,h0,h1=>by
  rw [MK]
  show u6 (jD w (n / 256)) * 256+n % 256=n
  rw [ue w (n / 256) (by omega) (by rw [Int.pow_succ] at h1;omega)]
  omega
noncomputable def Ph:Sp:=fun vs H Q _=>∃ (n:Int) (w:Nat),vs=[.int n,.int w]/\w<=1000/\∀ l,H l=none->Q (.ref l) (bQ H l (.lst ((jD w n).map V.int)))
noncomputable def Ro(K:PySem.W.Frag):Sp:=fun vs H Q _=>∃ (r:Addr) (xs:List Int),vs=[.ref r]/\c7 K H r (xs.map V.int)/\Q (.int (u6 xs)) H
structure Zo(mg:Str->Option Value):Prop where
 range:mg "range"=none
 rev:mg "reversed"=none
 base:GI mg "BASE" 256
section
variable{P:Program}{w:World}{K:PySem.W.Frag}{mg:Str->Option Value}{base:Heap}
theorem il:aG ["number","width","digits","k"] ["number","width"] (az kj):=d9
theorem wQ(F:dq K "write_digits" "write_digits" kj f fd)(T:Zo mg):bf P w K mg base cX 1 f fd ["number","width"] Ph:=by
 obtain ⟨tb,mB⟩:=T.base
 refine F.oq il ?_
 rintro _ _ _ _ H _ Q _ hr ⟨n,w,rfl,hw,q⟩
 refine ⟨_,ak (bc (i:=2) il.nd rfl (Or.inl rfl) (eO ao))
  (ak (jn PassesOwn.never rfl (jo (by rfl) T.range (aa (pv 1) ao)) (cz (i:=3) il.nd rfl (Or.inl rfl))
   (ak (bz (lB PySem.F.plainAttrs_list PySem.F.slot_list_append PySem.F.type_list_append gj (pv 2) (aa (cD nO (pv 0) (aN (by rfl) mB (v:=.int 256) ⟨_,rfl⟩)) ao)))
   (aq (bc (i:=0) il.nd rfl (Or.inl rfl) (cD La (pv 0) (aN (by rfl) mB (v:=.int 256) ⟨_,rfl⟩))))))
  (aq (aQ (pv 2)))),?_⟩
 try dsimp only [bU]
 refine ⟨Nat.zero_le _,fun l hl=>?_⟩
 refine ⟨_,rfl,(w:Int),rfl,Int.le_trans (by decide) (Int.natCast_nonneg w),Int.lt_of_le_of_lt (Int.ofNat_le.mpr hw) (by decide),?_⟩
 rw [Int.toNat_natCast]
 refine oU (fun i σ H5=>∃ x,σ=[some (.int (xr i n)),some (.int w),some (.ref l),x]/\H5=bQ H l (.lst ((jD i n).map V.int))) ⟨none,rfl,rfl⟩ ?_ ?_
 .rintro i σ H5 hi ⟨x,rfl,rfl⟩
  refine ⟨_,rfl,.inl ⟨rfl,_,c7.of aj⟩,_,rfl,_,_,rfl,rfl,(by show (0:Int)<256;decide),l,_,_,rfl,rfl,aj,?_,?_⟩
  .rw [List.length_map,dY]
   exact Nat.lt_of_lt_of_le (show i<1001 by omega) (by decide)
  .refine ⟨_,rfl,_,_,rfl,rfl,⟨by decide,by decide⟩,_,rfl,?_⟩
   rw [bY,Nh,List.map_append]
   rfl
 .rintro σ H5 ⟨x,rfl,rfl⟩
  exact ⟨_,rfl,q l hl⟩
theorem iT:aG ["digits","number","digit"] ["digits"] (az ni):=d9
theorem yD(F:dq K "read_digits" "read_digits" ni f fd)(T:Zo mg):bf P w K mg base cX 1 f fd ["digits"] (Ro K):=by
 obtain ⟨tb,mB⟩:=T.base
 refine F.oq iT ?_
 rintro _ _ _ _ H _ Q _ hr ⟨r,xs,rfl,hS,q⟩
 refine ⟨_,ak (bc (i:=1) iT.nd rfl (Or.inl rfl) aF)
  (ak (jn PassesOwn.never rfl (Uz (by rfl) T.rev (aa (pv 0) ao)) (cz (i:=2) iT.nd rfl (Or.inl rfl))
   (aq (bc (i:=1) iT.nd rfl (Or.inl rfl) (cD gU (cD EY (pv 1) (aN (by rfl) mB (v:=.int 256) ⟨_,rfl⟩)) (pv 2)))))
  (aq (aQ (pv 1)))),?_⟩
 try dsimp only [bU]
 refine ⟨_,rfl,r,_,rfl,hS,?_⟩
 refine Sg (fun i σ H5=>∃ x,σ=[some (.ref r),some (.int (u6 (xs.drop (xs.length - i)))),x]/\H5=H) ⟨none,by rw [Nat.sub_zero,List.drop_length];rfl,rfl⟩ (fun i σ H5 _ ⟨_,_,z⟩=>by rw [z];exact hS) ?_ ?_
 .rintro i y σ H5 hi hy ⟨x,rfl,rfl⟩
  rw [List.length_map] at hi hy
  rw [List.getElem?_map] at hy
  have hlt:xs.length - 1 - i<xs.length:=by omega
  rw [List.getElem?_eq_getElem hlt] at hy
  cases hy
  refine ⟨_,rfl,_,_,rfl,rfl,.inr ⟨by decide,by decide⟩,_,rfl,_,_,rfl,rfl,some (.int xs[xs.length - 1 - i]),?_,rfl⟩
  have e1:xs.drop (xs.length - (i+1))=xs[xs.length - 1 - i]::xs.drop (xs.length - i):=by
   have e2:xs.length - (i+1)=xs.length - 1 - i:=by omega
   rw [e2,List.drop_eq_getElem_cons hlt]
   congr 2
   omega
  rw [e1]
  rfl
 .rintro σ H5 ⟨x,rfl,rfl⟩
  rw [List.length_map,Nat.sub_self] at *
  exact ⟨_,rfl,q⟩
end
noncomputable def f9(K:PySem.W.Frag)(C:Addr):List Str->Prop
 | []=>True
 | f::r=>dw K C f/\f9 K C r
structure sU(P:Program)(w:World)(K:PySem.W.Frag)(mg:Str->Option Value)(base:Heap)(x:Str)(C:Addr)(fs:List Str)(k:Nat)(ps:List Str)(sp:Sp):Prop where
 cl:jQ K C
 no:f9 K C fs
 gl:mg x=some (.ref C)
 ex:∃ (fI:Addr) (fdI:FuncData),Mk K C fI/\bf P w K mg base cX k fI fdI ps sp/\dR K fdI ps []
noncomputable def dI(xs:List Int):PyData:=.list (xs.map PyData.int)
theorem JT:∀ xs:List Int,Ds K H (xs.map V.int) (xs.map PyData.int)
 | []=>.nil
 | x::xs=>.cons (.int x) (JT xs)
theorem WY(h:c7 K H a (xs.map V.int)):NB K H (.ref a) (dI xs):=.lst h (JT xs)
theorem shI(xs:List Int):SeqAt.shaped (dI xs)=true:=PySem.W.ke_shaped_ints xs
theorem nmI(xs ys:List Int):SeqAt.noMix (dI xs) (dI ys)=true:=SeqAt.noMix_of_shape (.list .int) rfl _ _ (PyProof.Rows.list_map_has fun _=>rfl) (PyProof.Rows.list_map_has fun _=>rfl)
theorem Gd:∀ xs ys:List Int,PySem.Spec.sameAll (xs.map PyData.int) (ys.map PyData.int)=decide (xs=ys)
 | [],[]=>rfl
 | [],y::ys=>rfl
 | x::xs,[]=>rfl
 | x::xs,y::ys=>by
  have ih:=Gd xs ys
  show (PySem.Spec.same (.int x) (.int y) && PySem.Spec.sameAll (xs.map PyData.int) (ys.map PyData.int))=_
  rw [ih]
  show ((x == y) && decide (xs=ys))=_
  by_cases h1:x=y
  .by_cases h2:xs=ys
   .simp [h1,h2]
   .simp [h1,h2]
  .simp [h1]
theorem W5(xs ys:List Int):PySem.Spec.same (dI xs) (dI ys)=decide (xs=ys):=by
 show PySem.Spec.sameAll _ _=_
 exact Gd xs ys
theorem Vq(xs:List Int)(k:Nat):vz (xs.map V.int) none (some (k:Int))=(xs.take k).map V.int:=by
 unfold vz
 rw [HT.Fe,HT.wZ,List.drop_zero,Nat.sub_zero,List.length_map,<- List.map_take,List.take_eq_take_iff.mpr]
 omega
theorem Oj(xs:List Int)(k:Nat):vz (xs.map V.int) (some (k:Int)) none=(xs.drop k).map V.int:=by
 unfold vz
 rw [HT.Fe,HT.wZ,List.length_map,<- List.map_drop,<- List.map_take]
 congr 1
 by_cases h:k<=xs.length
 .rw [Nat.min_eq_left h,List.take_of_length_le (by rw [List.length_drop];omega)]
 .rw [Nat.min_eq_right (by omega),List.drop_length,List.drop_eq_nil_of_le (by omega),List.take_nil]
theorem O1(xs:List Int)(i k:Nat)(h:k<=xs.length)(hik:i<=k):vz (xs.map V.int) (some (i:Int)) (some (k:Int))=((xs.drop i).take (k - i)).map V.int:=by
 unfold vz
 rw [HT.wZ,HT.wZ,List.length_map,Nat.min_eq_left h,Nat.min_eq_left (by omega),<- List.map_drop,<- List.map_take]
section
variable{P:Program}{w:World}{K:PySem.W.Frag}{mg:Str->Option Value}{base:Heap}
noncomputable def xY(v0:V):List (Str × V):=[("numbers",v0),("passed",.int 0)]
noncomputable def J9(C:Addr):Sp:=fun vs H Q _=>∃ (y dx:Addr) (v0:V),vs=[.ref y,v0]/\H y=some (.ins C dx [])/\Q .non (bQ H y (.ins C dx (xY v0)))
theorem Cj:aG ["self","numbers"] ["self","numbers"] (az rO):=d9
theorem Fb(F:dq K "__init__" "Tape.__init__" rO f fd)(cl:jQ K C)(no:f9 K C ["numbers","passed"]):bf P w K mg base cX 1 f fd ["self","numbers"] (J9 C):=by
 refine F.oq Cj ?_
 rintro _ _ _ _ H _ Q _ hr ⟨y,dx,v0,rfl,hy,q⟩
 refine ⟨_,(ak (b7 (pv 0) (pv 1) rfl) (aq (b7 (pv 0) aF rfl))),?_⟩
 try dsimp only [bU]
 refine ⟨_,rfl,_,rfl,y,C,dx,_,rfl,hy,cl,no.1,by show 0<1000;decide,?_⟩
 refine ⟨_,rfl,y,C,dx,_,rfl,aj,cl,no.2.1,by show 1<1000;decide,?_⟩
 rw [bY]
 exact q
noncomputable def Ip(v0 v1 v2:V):List (Str × V):=[("place",v0),("turn",v1),("first",v2)]
noncomputable def Ex(C:Addr):Sp:=fun vs H Q _=>∃ (y dx:Addr) (v0 v1 v2:V),vs=[.ref y,v0,v1,v2]/\H y=some (.ins C dx [])/\Q .non (bQ H y (.ins C dx (Ip v0 v1 v2)))
theorem Eo:aG ["self","place","turn","first"] ["self","place","turn","first"] (az rN):=d9
theorem Eb(F:dq K "__init__" "Head.__init__" rN f fd)(cl:jQ K C)(no:f9 K C ["place","turn","first"]):bf P w K mg base cX 1 f fd ["self","place","turn","first"] (Ex C):=by
 refine F.oq Eo ?_
 rintro _ _ _ _ H _ Q _ hr ⟨y,dx,v0,v1,v2,rfl,hy,q⟩
 refine ⟨_,(ak (b7 (pv 0) (pv 1) rfl) (ak (b7 (pv 0) (pv 2) rfl) (aq (b7 (pv 0) (pv 3) rfl)))),?_⟩
 try dsimp only [bU]
 refine ⟨_,rfl,_,rfl,y,C,dx,_,rfl,hy,cl,no.1,by show 0<1000;decide,?_⟩
 refine ⟨_,rfl,_,rfl,y,C,dx,_,rfl,aj,cl,no.2.1,by show 1<1000;decide,?_⟩
 rw [bY]
 refine ⟨_,rfl,_,rfl,y,C,dx,_,rfl,aj,cl,no.2.2.1,by show 2<1000;decide,?_⟩
 rw [bY]
 exact q
noncomputable def sr(v0 v1 v2 v3:V):List (Str × V):=[("code",v0),("place",v1),("answer",v2),("state",v3)]
noncomputable def pF(C:Addr):Sp:=fun vs H Q _=>∃ (y dx:Addr) (v0 v1 v2 v3:V),vs=[.ref y,v0,v1,v2,v3]/\H y=some (.ins C dx [])/\Q .non (bQ H y (.ins C dx (sr v0 v1 v2 v3)))
theorem qj:aG ["self","code","place","answer","state"] ["self","code","place","answer","state"] (az iW):=d9
theorem wR(F:dq K "__init__" "Verdict.__init__" iW f fd)(cl:jQ K C)(no:f9 K C ["code","place","answer","state"]):bf P w K mg base cX 1 f fd ["self","code","place","answer","state"] (pF C):=by
 refine F.oq qj ?_
 rintro _ _ _ _ H _ Q _ hr ⟨y,dx,v0,v1,v2,v3,rfl,hy,q⟩
 refine ⟨_,(ak (b7 (pv 0) (pv 1) rfl) (ak (b7 (pv 0) (pv 2) rfl) (ak (b7 (pv 0) (pv 3) rfl) (aq (b7 (pv 0) (pv 4) rfl))))),?_⟩
 try dsimp only [bU]
 refine ⟨_,rfl,_,rfl,y,C,dx,_,rfl,hy,cl,no.1,by show 0<1000;decide,?_⟩
 refine ⟨_,rfl,_,rfl,y,C,dx,_,rfl,aj,cl,no.2.1,by show 1<1000;decide,?_⟩
 rw [bY]
 refine ⟨_,rfl,_,rfl,y,C,dx,_,rfl,aj,cl,no.2.2.1,by show 2<1000;decide,?_⟩
 rw [bY]
 refine ⟨_,rfl,_,rfl,y,C,dx,_,rfl,aj,cl,no.2.2.2.1,by show 3<1000;decide,?_⟩
 rw [bY]
 exact q
noncomputable def rA(v0 v1 v2 v3:V):List (Str × V):=[("name",v0),("kind",v1),("not_null",v2),("unique",v3)]
noncomputable def BR(C:Addr):Sp:=fun vs H Q _=>∃ (y dx:Addr) (v0 v1 v2 v3:V),vs=[.ref y,v0,v1,v2,v3]/\H y=some (.ins C dx [])/\Q .non (bQ H y (.ins C dx (rA v0 v1 v2 v3)))
theorem yP:aG ["self","name","kind","not_null","unique"] ["self","name","kind","not_null","unique"] (az nU):=d9
theorem yu(F:dq K "__init__" "Column.__init__" nU f fd)(cl:jQ K C)(no:f9 K C ["name","kind","not_null","unique"]):bf P w K mg base cX 1 f fd ["self","name","kind","not_null","unique"] (BR C):=by
 refine F.oq yP ?_
 rintro _ _ _ _ H _ Q _ hr ⟨y,dx,v0,v1,v2,v3,rfl,hy,q⟩
 refine ⟨_,(ak (b7 (pv 0) (pv 1) rfl) (ak (b7 (pv 0) (pv 2) rfl) (ak (b7 (pv 0) (pv 3) rfl) (aq (b7 (pv 0) (pv 4) rfl))))),?_⟩
 try dsimp only [bU]
 refine ⟨_,rfl,_,rfl,y,C,dx,_,rfl,hy,cl,no.1,by show 0<1000;decide,?_⟩
 refine ⟨_,rfl,_,rfl,y,C,dx,_,rfl,aj,cl,no.2.1,by show 1<1000;decide,?_⟩
 rw [bY]
 refine ⟨_,rfl,_,rfl,y,C,dx,_,rfl,aj,cl,no.2.2.1,by show 2<1000;decide,?_⟩
 rw [bY]
 refine ⟨_,rfl,_,rfl,y,C,dx,_,rfl,aj,cl,no.2.2.2.1,by show 3<1000;decide,?_⟩
 rw [bY]
 exact q
end
noncomputable def gM:List Int:=[76,101,100,103,101,114]
noncomputable def dO:Option (List Int)->Option (Int × Int)
 | none=>none
 | some xs=>if xs.take 6=gM/\xs.length=17 then some (u6 ((xs.drop 6).take 8),u6 (xs.drop 14)) else none
noncomputable def jm(C:Addr)(H:Hp)(p:Addr)(k t f:Int):Prop:=∃ dx,H p=some (.ins C dx (Ip (.int k) (.int t) (.int f)))
theorem jm.same(h:jm C H p k t f)(s:aR H H'):jm C H' p k t f:=let ⟨dx,e⟩:=h;⟨dx,s _ _ e⟩
structure Hm(K:PySem.W.Frag)(mg:Str->Option Value):Prop where
 len:mg "len"=none
 list:mg "list"=none
 max:mg "max"=none
 heads:GT K mg "HEADS" [.int 0,.int 1]
 begin:GT K mg "HEAD_BEGIN" (gM.map V.int)
 tw:GI mg "TURN_WIDTH" 8
 pw:GI mg "PAGE_WIDTH" 3
 np:GI mg "NO_PAGE" 0
 few:GI mg "FEWEST_PAGES" 8
structure Yh(P:Program)(w:World)(K:PySem.W.Frag)(mg:Str->Option Value)(base:Heap)(CD CN CE:Addr):Prop where
 cl:jQ K CD
 nDe:dw K CD "dead"
 size:zZ P w K mg base cX CD 1 "size" ["self"] (KD.HW CD)
 read:zZ P w K mg base cX CD 3 "read" ["self","k"] (fun vs H Q _=>KD.xM CD CN vs H Q fun _ _ _=>False)
 write:zZ P w K mg base cX CD 3 "write" ["self","k","row"] (fun vs H Q _=>KD.KH K CD CN CE vs H Q fun _ _ _=>False)
 sync:zZ P w K mg base cX CD 2 "sync" ["self"] (fun vs H Q _=>KD.Qw CD CE vs H Q fun _ _ _=>False)
theorem Yl{fu:Option Int}{de:Bool}{dn:Int}{sl wd:Addr}{m:Str}(h0:¬ m="fuel")(h1:¬ m="dead")(h2:¬ m="done")(h3:¬ m="sure")(h4:¬ m="waiting"):(KD.dZ fu de dn sl wd).lookup m=none:=KD.Qq fu de dn sl wd h0 h1 h2 h3 h4
theorem Hy{k:Int}(h0:0<=k)(h1:k<5000):k.natAbs.log2<1000:=by
 by_cases h:k.natAbs=0
 .rw [h];decide
 .rw [Nat.log2_lt h]
  exact Nat.lt_of_lt_of_le (show k.natAbs<2 ^ 13 by omega) (Nat.pow_le_pow_right (by decide) (by decide))
noncomputable def Oh(CD CH:Addr):Sp:=fun vs H Q _=>∃ (p sl wd:Addr) (d:KD.DS) (k:Int),vs=[.ref p,.int k]/\KD.dj CD H p sl wd d/\0<=k/\k<d.sure.length /\
 match dO (d.cur k) with
 | none=>∀ H',aR H H'->Q .non H'
 | some tf=>∀ a H',H a=none->aR H H'->jm CH H' a k tf.1 tf.2->Q (.ref a) H'
theorem S6(r:cO k A):A.units+64<cLine:=by have:=r.un;omega
theorem wz(xs:List Int):dO (some xs)=if xs.take 6=gM/\xs.length=17 then some (u6 ((xs.drop 6).take 8),u6 (xs.drop 14)) else none:=rfl
section
variable{P:Program}{w:World}{K:PySem.W.Frag}{mg:Str->Option Value}{base:Heap}
theorem jR:aG ["disk","place","row","begin","behind_turn"] ["disk","place"] (az qP):=d9
theorem Dv{f CD CN CE CH:Addr}{fd:FuncData}(F:dq K "read_head" "read_head" qP f fd)(T:Hm K mg)(M:Yh P w K mg base CD CN CE)
  (GD:eZ P w K mg base 1 "read_digits" ["digits"] (Ro K)) (HK:sU P w K mg base "Head" CH ["place","turn","first"] 1 ["self","place","turn","first"] (Ex CH)):bf P w K mg base cX 4 f fd ["disk","place"] (Oh CD CH):=by
 obtain ⟨fR,fdR,mR,GR,bR⟩:=M.read.ex
 obtain ⟨fG,fdG,mG,kG,GG,bG⟩:=GD.ex
 obtain ⟨fI,fdI,MI,GI,bI⟩:=HK.ex
 obtain ⟨aB,mB,hB⟩:=T.begin
 obtain ⟨t8,m8⟩:=T.tw
 obtain ⟨t3,m3⟩:=T.pw
 refine F.oq jR ?_
 rintro _ A _ _ H _ Q _ hr ⟨p,sl,wd,d,k,rfl,D,h0,h1,q⟩
 have hu:=S6 hr
 have r1:cO 1 _:=hr.mono (by omega)
 have r2:cO 2 _:=hr.mono (by omega)
 refine ⟨_,ak (bc (i:=2) jR.nd rfl (Or.inl rfl) (cG (pv 0) M.cl mR GR hr bR .nil aM (aa (pv 1) ao)))
  (ak (bc (i:=3) jR.nd rfl (Or.inl rfl) (dN jP (by rfl) T.list PyProof.Rows.boot_list (aa (aN (by rfl) mB (v:=.ref aB) rfl) ao)))
  (ak (bc (i:=4) jR.nd rfl (Or.inl rfl) (cD gU (bw bx (by rfl) T.len PySem.boot_len (aa (pv 3) ao)) (aN (by rfl) m8 (v:=.int 8) ⟨_,rfl⟩)))
  (ak (bu (lZ (eV (lK (pv 2))) (lZ (aZ (Jr hu) (qH Et (pv 2) JX (mQ (bw bx (by rfl) T.len PySem.boot_len (aa (pv 3) ao)))) (pv 3) (bh _))
    (pB (aZ qi (bw bx (by rfl) T.len PySem.boot_len (aa (pv 2) ao)) (cD gU (pv 4) (aN (by rfl) m3 (v:=.int 3) ⟨_,rfl⟩)) (bh _))))).pt (aq (aQ je)) aU)
  (aq (aQ (eY MI GI r2 (by rfl) HK.gl bI .nil aM (aa (pv 1) (aa (aJ GG r1 (by rfl) mG kG bG .nil aM (aa (qH Et (pv 2) (mQ (bw bx (by rfl) T.len PySem.boot_len (aa (pv 3) ao))) (mQ (pv 4))) ao))
   (aa (aJ GG r1 (by rfl) mG kG bG .nil aM (aa (qH Et (pv 2) (mQ (pv 4)) JX) ao)) ao))))))))),?_⟩
 try dsimp only [bU]
 obtain ⟨dx,g1⟩:=D.ob
 have n4:=D.n
 refine ⟨_,rfl,p,dx,_,rfl,g1,Yl dk dk dk dk dk,_,rfl,p,sl,wd,d,k,rfl,D,Hy h0 (by omega),fun _=>?_,fun z=>absurd ⟨h0,h1⟩ z⟩
 cases hc:d.cur k with
 | none =>
  rw [hc] at q
  refine ⟨aB,_,rfl,.inr (hB _),fun l hl=>?_⟩
  refine ⟨_,rfl,l,_,rfl,.inl (c7.of aj),_,_,rfl,rfl,?_⟩
  exact ⟨_,rfl,_,rfl,eG (B:=True) (eG (B:=True) (q _ (au hl)))⟩
 | some xs =>
  rw [hc] at q
  intro r hr0
  refine ⟨aB,_,rfl,.inr (hB _),fun l hl=>?_⟩
  have s1:aR H (bQ H r (.lst (xs.map V.int))):=au hr0
  have s2:=s1.trans (au (o:=.lst (gM.map V.int)) hl)
  have nrl:r≠l:=fun z=>by rw [<- z,aj] at hl;cases hl
  have g2:(bQ (bQ H r (.lst (xs.map V.int))) l (.lst (gM.map V.int))) r=some (.lst (xs.map V.int)):=by rw [aA nrl,aj]
  generalize hH2:bQ (bQ H r (.lst (xs.map V.int))) l (.lst (gM.map V.int))=H2 at s2 g2 ⊢
  have g3:H2 l=some (.lst (gM.map V.int)):=by rw [<- hH2,aj]
  refine ⟨_,rfl,l,_,rfl,.inl (c7.of g3),_,_,rfl,rfl,?_⟩
  refine ⟨_,rfl,_,rfl,cJ (A:=True) ?_⟩
  refine ⟨_,rfl,_,rfl,l,_,rfl,.inl (c7.of g3),_,rfl,r,_,rfl,c7.of g2,fun c hc0=>?_⟩
  have e6:vz (xs.map V.int) none (some ((((gM.map V.int).length:Nat)):Int))=(xs.take 6).map V.int:=Vq xs 6
  rw [e6]
  have s3:=au (o:=.lst ((xs.take 6).map V.int)) hc0
  refine ⟨_,rfl,dI (xs.take 6),dI gM,WY (c7.of aj),WY (c7.of (s3 _ _ g3)),shI _,shI _,nmI _ _,_,rfl,?_⟩
  rw [W5]
  rw [wz] at q
  by_cases hb:xs.take 6=gM
  .rw [decide_eq_true hb]
   refine cJ (A:=True) ?_
   refine ⟨_,rfl,r,_,rfl,.inl (c7.of (s3 _ _ g2)),_,rfl,_,_,rfl,rfl,rfl,_,rfl,?_⟩
   by_cases hl17:xs.length=17
   .rw [if_pos ⟨hb,hl17⟩] at q
    refine di (by rw [List.length_map,hl17];rfl) ?_
    generalize hH3:bQ H2 c (.lst ((xs.take 6).map V.int))=H3 at s3 ⊢
    refine ⟨_,rfl,_,rfl,_,rfl,l,_,rfl,.inl (c7.of (s3 _ _ g3)),_,rfl,_,rfl,_,rfl,r,_,rfl,c7.of (s3 _ _ g2),fun c1 hc1=>?_⟩
    have e8:vz (xs.map V.int) (some (((gM.map V.int).length:Nat):Int)) (some ((((gM.map V.int).length:Nat):Int)+8))=((xs.drop 6).take 8).map V.int:=O1 xs 6 14 (by omega) (by decide)
    rw [e8]
    have s4:=au (o:=.lst (((xs.drop 6).take 8).map V.int)) hc1
    refine ⟨c1,_,rfl,c7.of aj,?_⟩
    refine ⟨_,rfl,_,rfl,_,rfl,r,_,rfl,c7.of (s4 _ _ (s3 _ _ g2)),fun c2 hc2=>?_⟩
    have e14:vz (xs.map V.int) (some ((((gM.map V.int).length:Nat):Int)+8)) none=(xs.drop 14).map V.int:=Oj xs 14
    rw [e14]
    have s5:=au (o:=.lst ((xs.drop 14).map V.int)) hc2
    refine ⟨c2,_,rfl,c7.of aj,?_⟩
    intro x dx hx hdx hne
    refine ⟨x,dx,_,_,_,rfl,aj,rfl,?_⟩
    rw [bY]
    have s25:=s2.trans (s3.trans (s4.trans s5))
    have hx0:H x=none:=by
     cases e:H x with
     | none=>rfl
     | some o=>rw [s25 _ _ e] at hx;cases hx
    exact q x _ hx0 (s25.trans ((au hdx).trans (au (by rw [aA (Ne.symm hne)];exact hx)))) ⟨dx,aj⟩
   .rw [if_neg (fun z=>hl17 z.2)] at q
    refine jt ?_ (q _ (s2.trans s3))
    show (!decide (V.int ((xs.map V.int).length:Nat)=V.int (((gM.map V.int).length:Nat)+8+3)))=true
    rw [List.length_map,decide_eq_false (fun z=>hl17 (by injection z with z;have:(xs.length:Int)=17:=z;omega))]
    rfl
  .rw [decide_eq_false hb]
   rw [if_neg (fun z=>hb z.1)] at q
   exact eG (B:=True) (eG (B:=True) (q _ (s2.trans s3)))
end
noncomputable def V3(CH:Addr)(H:Hp)(d:KD.DS)(v:V):Prop:=(dO (d.cur 0)=none/\dO (d.cur 1)=none/\v=.non) \/
 ∃ (a:Addr) (k t f:Int),v=.ref a/\jm CH H a k t f/\(k=0\/k=1)/\dO (d.cur k)=some (t,f)/\∀ k',k'=0\/k'=1->∀ t' f',dO (d.cur k')=some (t',f')->t'<=t
noncomputable def uZ:Str := "find_head"++".<locals>."++"<lambda>"
noncomputable def Jv(CD CH Pt:Addr):Sp:=fun vs H Q _=>∃ (p sl wd:Addr) (d:KD.DS),vs=[.ref p]/\KD.dj CD H p sl wd d/\2<=d.sure.length/\jb H Pt vy uZ /\
 ∀ v H',fY H H'->jb H' Pt vy uZ->V3 CH H' d v->Q v H'
noncomputable def sX(CH:Addr)(H:Hp)(d:KD.DS)(k:Int)(v:V):Prop:=match dO (d.cur k) with
 | none=>v=.non
 | some tf=>∃ a,v=.ref a/\jm CH H a k tf.1 tf.2
theorem sX.same(s:aR H H')(h:sX CH H d k v):sX CH H' d k v:=by
 unfold sX at h ⊢
 cases e:dO (d.cur k) with
 | none=>rw [e] at h;exact h
 | some tf =>
  rw [e] at h
  obtain ⟨a,e1,h1⟩:=h
  exact ⟨a,e1,h1.same s⟩
theorem sX.put(h:sX CH H d k v)(e:H D=some (.lst ys)):sX CH (bQ H D (.lst zs)) d k v:=by
 unfold sX at h ⊢
 cases e1:dO (d.cur k) with
 | none=>rw [e1] at h;exact h
 | some tf =>
  rw [e1] at h
  obtain ⟨a,e2,dx,h1⟩:=h
  exact ⟨a,e2,dx,by rw [aA (gA h1 e (by intro z;cases z))];exact h1⟩
noncomputable def Ep(H:Hp)(p:Addr):Int:=match H p with
 | some (.ins _ _ fs)=>(match fs.lookup ("turn":Str) with | some (.int t)=>t | _=>0)
 | _=>0
theorem Ec(h:jm CH H p k t f):Ep H p=t:=by
 obtain ⟨dx,e⟩:=h
 unfold Ep
 rw [e]
 rfl
theorem Nk(cH:jQ K CH)(nT:dw K CH "turn")(h:jm CH H p k t f):∃ C dx fs,H p=some (.ins C dx fs)/\jQ K C/\dw K C "turn"/\fs.lookup ("turn":Str)=some (.int (Ep H p)):=by
 have e1:=Ec h
 obtain ⟨dx,e⟩:=h
 exact ⟨CH,dx,_,e,cH,nT,by rw [e1];rfl⟩
section
variable{P:Program}{w:World}{K:PySem.W.Frag}{mg:Str->Option Value}{base:Heap}
theorem uP:aG ["disk","heads"] ["disk"] (az qZ):=d9
theorem Cp(F:dq K "find_head" "find_head" qZ f fd)(hc:fd.code=.ref c)(hC:PySem.W.codeHdIn K c Pt=true)(hb:zm mg base)(T:Hm K mg)(cH:jQ K CH)(nT:dw K CH "turn")
  (GR:eZ P w K mg base 4 "read_head" ["disk","place"] (Oh CD CH)):bf P w K mg base cX 5 f fd ["disk"] (Jv CD CH Pt):=by
 obtain ⟨fR,fdR,mR,kR,GR,bR⟩:=GR.ex
 obtain ⟨aH,mH,hH⟩:=T.heads
 refine F.okC hc uP (fun vs H Q E h=>?_) (fun A outer s H vs Q E hr h=>?_)
 .obtain ⟨p,sl,wd,d,rfl,_⟩:=h
  rfl
 .obtain ⟨p,sl,wd,d,rfl,D,h2,hT,q⟩:=h
  have no:∀ {k:NameKind},(k=.local\/k=.globalImplicit)->(k=.cell\/k=.free)->False:=fun h z=>by rcases h with rfl | rfl <;> rcases z with z | z <;> cases z
  refine ⟨_,ak (RM (x := "place") (fv:=["disk"]) (js:=[0]) (cl:=[("disk",s.heap.objs.size+1)]) (i:=1) rfl
    ⟨by with_unfolding_all rfl,rfl,dk,dk,rfl,dk,⟨rfl,trivial⟩,by exact ⟨fun z=>(no (.inl rfl) z).elim,fun z=>(no (.inl rfl) z).elim,fun z=>(no (.inr rfl) z).elim,fun _=>⟨_,rfl⟩,trivial⟩,by exact ⟨⟨rfl,.inl rfl,⟨_,rfl,rfl⟩,.inl rfl⟩,trivial⟩,fun _=>rfl⟩
    uP.nd rfl rfl (by rfl) (yq (aN (by rfl) mH (v:=.ref aH) rfl)) (fun pins fp s H=>aJ GR hr (by rfl) mR kR bR .nil aM (aa (pv 1) (aa (pv 0) ao))))
   (aq (aQ (Nx (c:=c) (P:=Pt) (q:=uZ) (attr := "turn") rfl (cO.in1 (k:=3) hr).depth (by rfl) T.max
    (aa (qY (xs:=["head"]) (fv:=[]) (js:=[]) (cl:=[]) rfl ⟨by with_unfolding_all rfl,rfl,dk,dk,trivial,by exact ⟨fun z=>(no (.inl rfl) z).elim,fun z=>(no (.inl rfl) z).elim,trivial⟩,trivial,fun _=>rfl⟩
     (gB (pv 1)) (fun pins fp s H=>cz (i:=0) (by show (["head"]:List Str).Nodup;decide +kernel) rfl (Or.inl rfl)) (fun pins fp s H=>qK (eV (jw (pv 0)))) (fun pins fp s H=>pv 0)) ao)
    rfl (by with_unfolding_all rfl) rfl hC hb (by with_unfolding_all rfl) rfl rfl rfl dk rfl dk (fun _ _ _ _=>rfl)))),?_⟩
  try dsimp only [bU]
  refine ⟨aH,rfl,⟨_,hH _⟩,fun D1 hD1=>?_⟩
  refine Qn (xs:=[.int 0,.int 1]) (fun i ys Hc=>Hc D1=some (.lst ys)/\aR H Hc/\Paired (fun (k:Int) v=>sX CH Hc d k v) (([0,1]:List Int).take i) ys) zF ⟨aj,au hD1,.nil⟩ ?_ ?_ ?_
  .rintro i ys Hc hi ⟨a1,a2,a3⟩
   refine ⟨a1,?_,hH _⟩
   rw [<- a3.length,List.length_take]
   exact Nat.min_eq_left hi
  .rintro i x ys Hc kk hx ⟨a1,a2,a3⟩ done
   have fin:∀ (k:Int) (v:V) (H3:Hp),([0,1]:List Int)[i]?=some k->aR Hc H3->sX CH H3 d k v->kk v H3:=fun k v H3 hk s3 hv=>by
    refine done v H3 (s3 _ _ a1) ⟨aj,fun b o e=>?_,?_⟩
    .rw [aA (aO e hD1)]
     exact s3 _ _ (a2 _ _ e)
    .rw [List.take_succ,hk]
     exact KD.pC (L2.Paired.imp' (fun _ _ z=>(sX.same s3 z).put (s3 _ _ a1)) a3) (.cons (hv.put (s3 _ _ a1)) .nil)
   obtain ⟨k,hk,ex,k0,k2⟩:∃ k:Int,([0,1]:List Int)[i]?=some k/\x=.int k/\0<=k/\k<2:=by
    match i,hx with
    | 0,hx=>cases hx;exact ⟨0,rfl,rfl,by decide,by decide⟩
    | 1,hx=>cases hx;exact ⟨1,rfl,rfl,by decide,by decide⟩
   subst ex
   refine ⟨_,rfl,_,rfl,p,sl,wd,d,k,rfl,D.same a2,k0,by omega,?_⟩
   cases e:dO (d.cur k) with
   | none=>exact fun H3 s3=>fin k .non H3 hk s3 (by unfold sX;rw [e])
   | some tf=>exact fun a H3 ha s3 hA=>fin k (.ref a) H3 hk s3 (by unfold sX;rw [e];exact ⟨a,rfl,hA⟩)
  .rintro ys Hc ⟨a1,a2,a3⟩
   obtain ⟨v0,v1,rfl,b0,b1⟩:∃ v0 v1,ys=[v0,v1]/\sX CH Hc d 0 v0/\sX CH Hc d 1 v1:=by
    cases a3 with
    | cons h0 r =>
     cases r with
     | cons h1 r=>cases r;exact ⟨_,_,rfl,h0,h1⟩
   refine ⟨_,rfl,D1,rfl,⟨_,c7.of a1⟩,fun D2 hD2=>?_⟩
   refine JQ (xs:=[v0,v1]) (fun i ys H5=>H5=bQ Hc D2 (.lst ys)/\ys=([v0,v1].take i).filter fun v=>!decide (v=.non)) zF ⟨rfl,rfl⟩ ?_ ?_ ?_
   .rintro i ys H5 hi ⟨rfl,rfl⟩
    refine ⟨aj,Nat.le_trans (List.length_filter_le ..) (by rw [List.length_take];exact Nat.min_le_left ..),c7.of ?_⟩
    rw [aA (aO a1 hD2)]
    exact a1
   .rintro i x ys H5 k1 k2 hx ⟨rfl,rfl⟩ d1 d2
    refine ⟨Va,_,rfl,_,rfl,?_⟩
    have e1:([v0,v1].take (i+1))=[v0,v1].take i++[x]:=by rw [List.take_succ,hx];rfl
    cases hb:(!decide (x=V.non)) with
    | true =>
     refine eG (B:=True) ⟨_,rfl,d1 _ _ aj ⟨by rw [bY],?_⟩⟩
     rw [e1,List.filter_append]
     congr 1
     show [x]=[x].filter _
     rw [List.filter_cons,hb];rfl
    | false =>
     refine cJ (A:=True) (d2 _ ⟨?_,?_⟩)
     .rfl
     .rw [e1,List.filter_append]
      rw [show ([x].filter fun v=>!decide (v=V.non))=[] by rw [List.filter_cons,hb];rfl,List.append_nil]
   .rintro ys H5 ⟨rfl,rfl⟩
    obtain ⟨hs,ehs,hin,hall⟩:∃ hs:List Addr,([v0,v1].filter fun v=>!decide (v=V.non))=hs.map V.ref/\(∀ p∈hs,∃ k t f,(k=0\/k=1)/\dO (d.cur k)=some (t,f)/\jm CH Hc p k t f) /\
      (∀ k:Int,(k=0\/k=1)->∀ t f,dO (d.cur k)=some (t,f)->∃ p∈hs,jm CH Hc p k t f):=by
     unfold sX at b0 b1
     cases e0:dO (d.cur 0) with
     | none =>
      rw [e0] at b0
      cases e1:dO (d.cur 1) with
      | none =>
       rw [e1] at b1
       subst b0 b1
       refine ⟨[],rfl,fun p hp=>(nomatch hp),fun k hk t f e=>?_⟩
       rcases hk with rfl | rfl
       .rw [e0] at e;cases e
       .rw [e1] at e;cases e
      | some tf =>
       rw [e1] at b1
       obtain ⟨p1,rfl,hA1⟩:=b1
       subst b0
       refine ⟨[p1],rfl,fun p hp=>?_,fun k hk t f e=>?_⟩
       .rw [List.mem_singleton.mp hp];exact ⟨1,tf.1,tf.2,.inr rfl,e1,hA1⟩
       .rcases hk with rfl | rfl
        .rw [e0] at e;cases e
        .rw [e1] at e;cases e;exact ⟨p1,.head _,hA1⟩
     | some tf0 =>
      rw [e0] at b0
      obtain ⟨p0,rfl,hA0⟩:=b0
      cases e1:dO (d.cur 1) with
      | none =>
       rw [e1] at b1
       subst b1
       refine ⟨[p0],rfl,fun p hp=>?_,fun k hk t f e=>?_⟩
       .rw [List.mem_singleton.mp hp];exact ⟨0,tf0.1,tf0.2,.inl rfl,e0,hA0⟩
       .rcases hk with rfl | rfl
        .rw [e0] at e;cases e;exact ⟨p0,.head _,hA0⟩
        .rw [e1] at e;cases e
      | some tf =>
       rw [e1] at b1
       obtain ⟨p1,rfl,hA1⟩:=b1
       refine ⟨[p0,p1],rfl,fun p hp=>?_,fun k hk t f e=>?_⟩
       .rcases List.mem_cons.mp hp with rfl | hp
        .exact ⟨0,tf0.1,tf0.2,.inl rfl,e0,hA0⟩
        .rw [List.mem_singleton.mp hp];exact ⟨1,tf.1,tf.2,.inr rfl,e1,hA1⟩
       .rcases hk with rfl | rfl
        .rw [e0] at e;cases e;exact ⟨p0,.head _,hA0⟩
        .rw [e1] at e;cases e;exact ⟨p1,.tail _ (.head _),hA1⟩
    have s5:aR Hc (bQ Hc D2 (.lst (([v0,v1].take [v0,v1].length).filter fun v=>!decide (v=V.non)))):=au hD2
    generalize hH5:bQ Hc D2 (.lst (([v0,v1].take [v0,v1].length).filter fun v=>!decide (v=V.non)))=H5 at s5 ⊢
    have g5:H5 D2=some (.lst (hs.map V.ref)):=by rw [<- hH5,aj,<- ehs];rfl
    refine ⟨D2,hs,Ep H5,rfl,c7.of g5,fun p hp=>?_,(a2.trans s5).tab hT,fun H6 v sT hT6 hM=>q v H6 ((a2.trans s5).t.trans sT) hT6 ?_⟩
    .obtain ⟨k,t,f,_,_,hA⟩:=hin p hp
     exact Nk cH nT (hA.same s5)
    .rcases hM with ⟨rfl,rfl⟩ | ⟨p,hp,rfl,hmax⟩
     .refine .inl ⟨?_,?_,rfl⟩
      .cases e:dO (d.cur 0) with
       | none=>rfl
       | some tf=>obtain ⟨p,hp,_⟩:=hall 0 (.inl rfl) tf.1 tf.2 e;cases hp
      .cases e:dO (d.cur 1) with
       | none=>rfl
       | some tf=>obtain ⟨p,hp,_⟩:=hall 1 (.inr rfl) tf.1 tf.2 e;cases hp
     .obtain ⟨k,t,f,hk,ek,hA⟩:=hin p hp
      obtain ⟨dx,g⟩:=hA.same s5
      refine .inr ⟨p,k,t,f,rfl,⟨dx,sT.ins g⟩,hk,ek,fun k' hk' t' f' e'=>?_⟩
      obtain ⟨p',hp',hA'⟩:=hall k' hk' t' f' e'
      have:=hmax p' hp'
      rw [Ec (hA'.same s5),Ec (hA.same s5)] at this
      exact this
end
noncomputable def S8(d:KD.DS):Prop:=d.fuel=none/\d.dead=false
theorem S8.gone(h:S8 d):d.gone=false:=by unfold KD.DS.gone;rw [h.1,h.2];rfl
noncomputable def Dg(CD:Addr):Sp:=fun vs H Q _=>∃ (p sl wd:Addr) (d:KD.DS),vs=[.ref p]/\KD.dj CD H p sl wd d/\8<=d.sure.length/\Q .non H
noncomputable def Pb:Option (Int × Int)->Int × Int
 | none=>(0,1)
 | some (k,t)=>(1 - k,t+1)
noncomputable def Pg(CH:Addr):Sp:=fun vs H Q _=>∃ (v:V) (o:Option (Int × Int)) (f:Int),vs=[v,.int f]/\(match o with | none=>v=.non | some (k,t)=>(k=0\/k=1)/\∃ a f0,v=.ref a/\jm CH H a k t f0) /\
 ∀ a H',H a=none->aR H H'->jm CH H' a (Pb o).1 (Pb o).2 f->Q (.ref a) H'
noncomputable def dm(t f:Int):List Int:=gM++jD 8 t++jD 3 f
theorem Ah(t f:Int):KD.qG (dm t f)=true:=by
 unfold KD.qG dm
 have h1:(gM++jD 8 t++jD 3 f).length=17:=by rw [List.length_append,List.length_append,dY,dY];rfl
 rw [h1]
 simp only [Bool.and_eq_true,List.all_eq_true,decide_eq_true_eq]
 refine ⟨by decide,fun x hx=>?_⟩
 rcases List.mem_append.mp hx with hx | hx
 .rcases List.mem_append.mp hx with hx | hx
  .have all:∀ y∈gM,0<=y/\y<=255:=by decide
   exact all x hx
  .exact Bx _ _ _ hx
 .exact Bx _ _ _ hx
theorem qL(t f:Int):(dm t f).length=17:=by
 unfold dm
 rw [List.length_append,List.length_append,dY,dY];rfl
theorem HX(t f:Int)(ht:0<=t)(ht2:t<256 ^ 8)(hf:0<=f)(hf2:f<256 ^ 3):dO (some (dm t f))=some (t,f):=by
 have e0:(dm t f).take 6=gM:=by
  unfold dm
  rw [List.append_assoc,List.take_append_of_le_length (by decide)]
  rfl
 have e1:((dm t f).drop 6).take 8=jD 8 t:=by
  unfold dm
  have:(6:Nat)=gM.length:=rfl
  rw [List.append_assoc,this,List.drop_left,List.take_append_of_le_length (by rw [dY];exact Nat.le_refl _),List.take_of_length_le (by rw [dY];exact Nat.le_refl _)]
 have e2:(dm t f).drop 14=jD 3 f:=by
  unfold dm
  have:(14:Nat)=(gM++jD 8 t).length:=by rw [List.length_append,dY];rfl
  rw [this,List.drop_left]
 rw [wz,if_pos ⟨e0,qL t f⟩,e1,e2,ue 8 t ht ht2,ue 3 f hf hf2]
noncomputable def Ho(d:KD.DS)(k:Int)(xs:List Int):KD.DS:={ d with sure:=d.sure.set k.toNat (some xs),wait:=[],done:=d.done+1+1 }
noncomputable def Ri(CD CH:Addr):Sp:=fun vs H Q _=>∃ (p sl wd h:Addr) (d:KD.DS) (k t f:Int),vs=[.ref p,.ref h]/\KD.dj CD H p sl wd d/\S8 d/\d.wait=[]/\jm CH H h k t f/\0<=k/\k<d.sure.length /\
 ∀ wd' H',H wd'=none->KD.cg [p,sl,wd] H H'->KD.dj CD H' p sl wd' (Ho d k (dm t f))->Q .non H'
section
variable{P:Program}{w:World}{K:PySem.W.Frag}{mg:Str->Option Value}{base:Heap}
theorem Aj:aG ["disk"] ["disk"] (az pY):=d9
theorem zH{f CD CN CE:Addr}{fd:FuncData}(F:dq K "check_size" "check_size" pY f fd)(T:Hm K mg)(M:Yh P w K mg base CD CN CE):bf P w K mg base cX 2 f fd ["disk"] (Dg CD):=by
 obtain ⟨fZ,fdZ,mZ,GZ,bZ⟩:=M.size.ex
 obtain ⟨t8,m8⟩:=T.few
 refine F.oq Aj ?_
 rintro _ _ _ _ H _ Q _ hr ⟨p,sl,wd,d,rfl,D,h8,q⟩
 obtain ⟨dx,g1⟩:=D.ob
 refine ⟨_,aq (bu (aZ wg (dC (pv 0) M.cl mZ GZ hr bZ .nil aM) (aN (by rfl) m8 (v:=.int 8) ⟨_,rfl⟩) (bh _)) aV aU),?_⟩
 try dsimp only [bU]
 refine ⟨_,rfl,p,dx,_,rfl,g1,Yl dk dk dk dk dk,p,sl,wd,d,rfl,D,_,_,rfl,rfl,_,rfl,di (decide_eq_false (by omega)) q⟩
theorem DY:aG ["head","first"] ["head","first"] (az rT):=d9
theorem Df(F:dq K "next_head" "next_head" rT f fd)(T:Hm K mg)(HK:sU P w K mg base "Head" CH ["place","turn","first"] 1 ["self","place","turn","first"] (Ex CH)) :
  bf P w K mg base cX 3 f fd ["head","first"] (Pg CH):=by
 obtain ⟨fI,fdI,MI,GI,bI⟩:=HK.ex
 obtain ⟨aH,mH,hH⟩:=T.heads
 refine F.oq DY ?_
 rintro _ A _ _ H _ Q _ hr ⟨v,o,f,rfl,hv,q⟩
 refine ⟨_,ak (bu (eV (lK (pv 0))) (aq (aQ (eY MI GI hr (by rfl) HK.gl bI .nil aM (aa (cA cj (aN (by rfl) mH (v:=.ref aH) rfl) aF (fun _ _=>rfl)) (aa aF (aa (pv 1) ao)))))) aU)
  (aq (aQ (eY MI GI hr (by rfl) HK.gl bI .nil aM (aa (cA cj (aN (by rfl) mH (v:=.ref aH) rfl) (cD V9 aF (aY (pv 0) rfl)) (fun _ _=>rfl)) (aa (cD gU (aY (pv 0) rfl) aF) (aa (pv 1) ao)))))),?_⟩
 try dsimp only [bU]
 have fin:∀ {x dx:Addr} (k t:Int),H x=none->H dx=none->dx≠x->(Pb o)=(k,t)->Q (.ref x) (bQ (bQ H dx (.own x)) x (.ins CH dx (Ip (.int k) (.int t) (.int f)))):=fun {x dx} k t hx hdx hne e=>by
  refine q x _ hx ((au hdx).trans (au (by rw [aA (Ne.symm hne)];exact hx))) ⟨dx,?_⟩
  rw [e]
  exact aj
 cases o with
 | none =>
  cases hv
  refine ⟨_,rfl,_,rfl,eG (B:=True) ?_⟩
  refine ⟨aH,_,_,_,rfl,rfl,hH _,rfl,_,rfl,?_⟩
  intro x dx hx hdx hne
  refine ⟨x,dx,_,_,_,rfl,aj,rfl,?_⟩
  rw [bY]
  exact fin 0 1 hx hdx hne rfl
 | some kt =>
  obtain ⟨k,t⟩:=kt
  obtain ⟨hk,a,f0,rfl,da,ha⟩:=hv
  refine ⟨_,rfl,_,rfl,cJ (A:=True) ?_⟩
  have hat:T7 [V.int 0,V.int 1] (1 - k)=some (.int (1 - k)):=by rcases hk with rfl | rfl <;> rfl
  refine ⟨_,rfl,a,CH,da,_,_,rfl,ha,HK.cl,HK.no.1,rfl,_,_,rfl,rfl,aH,_,_,_,rfl,rfl,hH _,hat,?_⟩
  refine ⟨_,rfl,a,CH,da,_,_,rfl,ha,HK.cl,HK.no.2.1,rfl,_,_,rfl,rfl,_,rfl,?_⟩
  intro x dx hx hdx hne
  refine ⟨x,dx,_,_,_,rfl,aj,rfl,?_⟩
  rw [bY]
  exact fin (1 - k) (t+1) hx hdx hne rfl
end
structure yX(A:List Addr)(H H':Hp):Prop where
 o:∀ b o,(∀ ps,o≠.tbl ps)->H b=some o->b∉A->H' b=some o
 t:∀ b ps,H b=some (.tbl ps)->∃ ps',H' b=some (.tbl ps')
theorem Jz(s:fY H H'):yX A H H':=⟨fun b o n e _=>s.o b o n e,s.t⟩
theorem yX.trans(a:yX A H H1)(b:yX A H1 H2):yX A H H2:=⟨fun c o n e m=>b.o c o n (a.o c o n e m) m,fun c ps e=>let ⟨ps',e'⟩:=a.t c ps e;b.t c ps' e'⟩
theorem Ot(s:KD.cg A H H')(hA:∀ b∈A,∀ ps,H b≠some (.tbl ps)):yX A H H':=⟨fun b o _ e m=>s b o e m,fun b ps e=>⟨ps,s b _ e fun m=>hA b m ps e⟩⟩
noncomputable def wY(CD Pt:Addr):Sp:=fun vs H Q _=>∃ (p sl wd:Addr) (d:KD.DS),vs=[.ref p]/\KD.dj CD H p sl wd d/\S8 d/\d.wait=[]/\8<=d.sure.length/\dO (d.cur 0)=none/\dO (d.cur 1)=none/\jb H Pt vy uZ /\
 ∀ wd' H',H wd'=none->yX [p,sl,wd] H H'->jb H' Pt vy uZ->KD.dj CD H' p sl wd' (Ho d 0 (dm 1 0))->Q .non H'
theorem HS(D:KD.dj CD H p sl wd d)(s:fY H H'):KD.dj CD H' p sl wd d:=by
 obtain ⟨dx,h1⟩:=D.ob
 obtain ⟨vs,h2,h3⟩:=D.su
 obtain ⟨kvs,h4,h5⟩:=D.wa
 have t:KD.Cm H H':=fun b xs e=>s.tup e
 exact ⟨⟨dx,s.ins h1⟩,⟨vs,s.lst h2,L2.Paired.imp' (fun _ _ z=>KD.pR.mono t z) h3⟩,⟨kvs,s.dK h4,L2.Paired.imp' (fun _ _ z=>KD.pX.mono t z) h5⟩,D.n,D.w,D.ks,D.nd⟩
theorem OJ(s:KD.cg A H H')(hA:∀ b∈A,∀ ps,H b≠some (.tbl ps))(hA2:∀ b∈A,∀ φ,H b≠some (.ext φ))(t:jb H Pt vy uZ):jb H' Pt vy uZ:=by
 rcases t with t | ⟨c,t1,t2⟩
 .exact .inl (s _ _ t fun m=>hA _ m _ t)
 .exact .inr ⟨c,s _ _ t1 fun m=>hA _ m _ t1,s _ _ t2 fun m=>hA2 _ m _ t2⟩
section
variable{P:Program}{w:World}{K:PySem.W.Frag}{mg:Str->Option Value}{base:Heap}
theorem ww:aG ["disk","head","row"] ["disk","head"] (az tW):=d9
theorem Hs{f CD CN CE CH:Addr}{fd:FuncData}(F:dq K "put_head" "put_head" tW f fd)(T:Hm K mg)(M:Yh P w K mg base CD CN CE)(cH:jQ K CH)(nH:f9 K CH ["place","turn","first"])
  (GW:eZ P w K mg base 1 "write_digits" ["number","width"] Ph):bf P w K mg base cX 4 f fd ["disk","head"] (Ri CD CH):=by
 obtain ⟨fW,fdW,mW,kW,GW,bW⟩:=GW.ex
 obtain ⟨fR,fdR,mR,GR,bR⟩:=M.write.ex
 obtain ⟨fS,fdS,mS,GS,bS⟩:=M.sync.ex
 obtain ⟨aB,mB,hB⟩:=T.begin
 obtain ⟨t8,m8⟩:=T.tw
 obtain ⟨t3,m3⟩:=T.pw
 refine F.oq ww ?_
 rintro _ _ _ _ H _ Q _ hr ⟨p,sl,wd,h,d,k,t,f,rfl,D,hv,hw0,⟨dh,hh⟩,k0,k1,q⟩
 have r1:cO 1 _:=hr.mono (by omega)
 have r2:cO 2 _:=hr.mono (by omega)
 refine ⟨_,ak (bc (i:=2) ww.nd rfl (Or.inl rfl) (cD vJ (cD vJ (dN jP (by rfl) T.list PyProof.Rows.boot_list (aa (aN (by rfl) mB (v:=.ref aB) rfl) ao))
   (aJ GW r1 (by rfl) mW kW bW .nil aM (aa (aY (pv 1) rfl) (aa (aN (by rfl) m8 (v:=.int 8) ⟨_,rfl⟩) ao))))
   (aJ GW r1 (by rfl) mW kW bW .nil aM (aa (aY (pv 1) rfl) (aa (aN (by rfl) m3 (v:=.int 3) ⟨_,rfl⟩) ao)))))
  (ak (bz (cG (pv 0) M.cl mR GR hr bR .nil aM (aa (aY (pv 1) rfl) (aa (pv 2) ao))))
  (aq (bz (dC (pv 0) M.cl mS GS r2 bS .nil aM)))),?_⟩
 try dsimp only [bU]
 refine ⟨aB,_,rfl,.inr (hB _),fun l0 hl0=>?_⟩
 have s0:=au (o:=.lst (gM.map V.int)) hl0
 refine ⟨_,rfl,h,CH,dh,_,_,rfl,s0 _ _ hh,cH,nH.2.1,rfl,t,8,rfl,by decide,fun l1 hl1=>?_⟩
 have s1:=au (o:=.lst ((jD 8 t).map V.int)) hl1
 refine ⟨l0,l1,_,_,rfl,rfl,s1 _ _ aj,aj,?_,fun l2 hl2=>?_⟩
 .rw [List.length_map,List.length_map,dY]
  show 6+8<=sizeLine
  decide
 have s2:=au (o:=.lst (gM.map V.int++(jD 8 t).map V.int)) hl2
 have s02:=s0.trans (s1.trans s2)
 refine ⟨_,rfl,h,CH,dh,_,_,rfl,s02 _ _ hh,cH,nH.2.2.1,rfl,f,3,rfl,by decide,fun l3 hl3=>?_⟩
 have s3:=au (o:=.lst ((jD 3 f).map V.int)) hl3
 refine ⟨l2,l3,_,_,rfl,rfl,s3 _ _ aj,aj,?_,fun l4 hl4=>?_⟩
 .rw [List.length_append,List.length_map,List.length_map,List.length_map,dY,dY]
  show 6+8+3<=sizeLine
  decide
 have er:gM.map V.int++(jD 8 t).map V.int++(jD 3 f).map V.int=(dm t f).map V.int:=by unfold dm;rw [List.map_append,List.map_append]
 rw [er]
 have s4:=au (o:=.lst ((dm t f).map V.int)) hl4
 have s04:=s02.trans (s3.trans s4)
 generalize hH4:bQ _ l4 (.lst ((dm t f).map V.int))=H4 at s4 s04 ⊢
 have g4:H4 l4=some (.lst ((dm t f).map V.int)):=by rw [<- hH4];exact aj
 have D4:=D.same s04
 obtain ⟨dx,g1⟩:=D4.ob
 have n4:=D.n
 refine ⟨_,rfl,p,dx,_,rfl,g1,Yl dk dk dk dk dk,_,rfl,h,CH,dh,_,_,rfl,s04 _ _ hh,cH,nH.1,rfl,_,rfl,p,sl,wd,l4,d,k,dm t f,rfl,D4,c7.of g4,by rw [qL];decide,(gA g1 g4 (by intro z;cases z)).symm,Hy k0 (by omega),?_,?_,?_⟩
 .rintro (z | z)
  .exact absurd ⟨k0,k1⟩ z
  .rw [Ah] at z;cases z
 .intro _ _ z
  rw [hv.gone] at z;cases z
 .intro _ _ _ H5 s5 D5
  obtain ⟨fu,de,dn,su,wt⟩:=d
  obtain ⟨rfl,rfl⟩:fu=none/\de=false:=hv
  obtain rfl:wt=[]:=hw0
  obtain ⟨dy,g5⟩:=D5.ob
  refine ⟨_,rfl,p,dy,_,rfl,g5,Yl dk dk dk dk dk,p,sl,wd,_,rfl,D5,fun _ wd' H6 hw6 s6 D6=>?_,fun z=>(by cases z)⟩
  have nw:H wd'=none:=by
   cases e:H wd' with
   | none=>rfl
   | some o =>
    exfalso
    by_cases z:wd'∈[p,wd]
    .rcases List.mem_cons.mp z with z | z
     .rw [z,g5] at hw6;cases hw6
     .obtain ⟨kvs,gw,_⟩:=D5.wa
      rw [List.mem_singleton.mp z,gw] at hw6;cases hw6
    .rw [s5 _ _ (s04 _ _ e) z] at hw6;cases hw6
  refine q wd' H6 nw (fun b o e n=>s6 _ _ (s5 _ _ (s04 _ _ e) (fun m=>n ?_)) fun m=>n ?_) D6
  .rcases List.mem_cons.mp m with m | m
   .rw [m];exact .head _
   .rw [List.mem_singleton.mp m];exact .tail _ (.tail _ (.head _))
  .rcases List.mem_cons.mp m with m | m
   .rw [m];exact .head _
   .rw [List.mem_singleton.mp m];exact .tail _ (.head _)
theorem zN:aG ["disk"] ["disk"] (az pD):=d9
theorem zL(F:dq K "make_ready" "make_ready" pD f fd)(T:Hm K mg)(GC:eZ P w K mg base 2 "check_size" ["disk"] (Dg CD))(GF:eZ P w K mg base 5 "find_head" ["disk"] (Jv CD CH Pt))
  (GN:eZ P w K mg base 3 "next_head" ["head","first"] (Pg CH)) (GP:eZ P w K mg base 4 "put_head" ["disk","head"] (Ri CD CH)):bf P w K mg base cX 6 f fd ["disk"] (wY CD Pt):=by
 obtain ⟨fC,fdC,mC,kC,GC,bC⟩:=GC.ex
 obtain ⟨fF,fdF,mF,kF,GF,bF⟩:=GF.ex
 obtain ⟨fN,fdN,mN,kN,GN,bN⟩:=GN.ex
 obtain ⟨fP,fdP,mP,kP,GP,bP⟩:=GP.ex
 obtain ⟨t0,m0⟩:=T.np
 refine F.oq zN ?_
 rintro _ _ _ _ H _ Q _ hr ⟨p,sl,wd,d,rfl,D,hv,hw,h8,e0,e1,hT,q⟩
 have r2:cO 2 _:=hr.mono (by omega)
 have r3:cO 3 _:=hr.mono (by omega)
 have r4:cO 4 _:=hr.mono (by omega)
 refine ⟨_,ak (bz (aJ GC r2 (by rfl) mC kC bC .nil aM (aa (pv 0) ao)))
  (aq (bz (aJ GP r4 (by rfl) mP kP bP .nil aM (aa (pv 0) (aa (aJ GN r3 (by rfl) mN kN bN .nil aM (aa (aJ GF hr (by rfl) mF kF bF .nil aM (aa (pv 0) ao)) (aa (aN (by rfl) m0 (v:=.int 0) ⟨_,rfl⟩) ao))) ao))))),?_⟩
 try dsimp only [bU]
 refine ⟨_,rfl,p,sl,wd,d,rfl,D,h8,?_⟩
 refine ⟨_,rfl,_,rfl,p,sl,wd,d,rfl,D,by omega,hT,fun v H1 s1 hT1 hB=>?_⟩
 have ev:v=.non:=by
  rcases hB with ⟨_,_,e⟩ | ⟨a,k,t,f,_,_,hk,ek,_⟩
  .exact e
  .rcases hk with rfl | rfl
   .rw [e0] at ek;cases ek
   .rw [e1] at ek;cases ek
 subst ev
 refine ⟨.non,none,0,rfl,rfl,fun a H2 ha s2 hA=>?_⟩
 have D2:=(HS D s1).same s2
 refine ⟨p,sl,wd,a,d,0,1,0,rfl,D2,hv,hw,hA,Int.le_refl _,by omega,fun wd' H3 hw3 s3 D3=>?_⟩
 obtain ⟨dx,g1⟩:=D2.ob
 obtain ⟨vs2,g2,_⟩:=D2.su
 obtain ⟨kvs,g3,_⟩:=D2.wa
 have nw:H wd'=none:=s1.none (s2.t.none hw3)
 have hA3:∀ b∈[p,sl,wd],(∃ C dx fs,H2 b=some (.ins C dx fs))\/(∃ xs,H2 b=some (.lst xs))\/∃ kvs,H2 b=some (.dK kvs):=fun b m=>by
  rcases List.mem_cons.mp m with rfl | m
  .exact .inl ⟨_,_,_,g1⟩
  .rcases List.mem_cons.mp m with rfl | m
   .exact .inr (.inl ⟨_,g2⟩)
   .rw [List.mem_singleton.mp m];exact .inr (.inr ⟨_,g3⟩)
 have noT:∀ b∈[p,sl,wd],∀ ps,H2 b≠some (.tbl ps):=fun b m ps z=>by
  rcases hA3 b m with ⟨_,_,_,e⟩ | ⟨_,e⟩ | ⟨_,e⟩ <;> rw [e] at z <;> cases z
 have noX:∀ b∈[p,sl,wd],∀ φ,H2 b≠some (.ext φ):=fun b m φ z=>by
  rcases hA3 b m with ⟨_,_,_,e⟩ | ⟨_,e⟩ | ⟨_,e⟩ <;> rw [e] at z <;> cases z
 exact q wd' H3 nw ((Jz (s1.trans s2.t)).trans (Ot s3 noT)) (OJ s3 noT noX (s2.tab hT1)) D3
end
noncomputable def Li(CT:Addr):Sp:=fun vs H Q _=>∃ (p dx r:Addr),vs=[.ref p]/\H p=some (.ins CT dx (xY (.ref r)))/\H r=some (.lst [])/\Q (.bl false) H
noncomputable def Bh:Sp:=fun vs H Q _=>∃ (r:Addr),vs=[.ref r]/\H r=some (.lst [])/\∀ d H',aR H H'->H' d=some (.dK [])->H d=none->Q (.ref d) H'
noncomputable def El(a b c d e:V):List (Str × V):=[("disk",a),("head",b),("pages",c),("numbers",d),("kept",e)]
noncomputable def Ar(C:Addr):Sp:=fun vs H Q _=>∃ (y dx r:Addr) (a b c:V),vs=[.ref y,a,b,c,.ref r]/\H y=some (.ins C dx [])/\H r=some (.lst []) /\
 ∀ d H',KD.cg [y] H H'->H' y=some (.ins C dx (El a b c (.ref r) (.ref d)))->H' d=some (.dK [])->H d=none->Q .non H'
noncomputable def gH(a b c d:V):List (Str × V):=[("store",a),("state",b),("marks",c),("dead",d)]
noncomputable def K1(C CSt:Addr):Sp:=fun vs H Q _=>∃ (y dx st ds:Addr) (a b c d e:V),vs=[.ref y,.ref st]/\H y=some (.ins C dx [])/\H st=some (.ins CSt ds (El a b c d e))/\st≠y/\Q .non (bQ H y (.ins C dx (gH (.ref st) e .non (.bl false))))
noncomputable def Wb(CSt:Addr)(H:Hp)(v:V):Prop:=∃ (st ds d:Addr) (a b c e:V),v=.ref st/\H st=some (.ins CSt ds (El a b c e (.ref d)))/\H d=some (.dK [])
noncomputable def Us(CB:Addr)(H:Hp)(v:V):Prop:=∃ (y dx d:Addr) (st:V),v=.ref y/\H y=some (.ins CB dx (gH st (.ref d) .non (.bl false)))/\H d=some (.dK [])
noncomputable def BJ(CD CSt Pt:Addr):Sp:=fun vs H Q _=>∃ (p sl wd:Addr) (d:KD.DS) (t:Int),vs=[.ref p]/\KD.dj CD H p sl wd d/\8<=d.sure.length/\dO (d.cur 0)=some (t,0)/\dO (d.cur 1)=none/\jb H Pt vy uZ /\
 ∀ v H',fY H H'->jb H' Pt vy uZ->Wb CSt H' v->Q v H'
noncomputable def wW(CD CB Pt:Addr):Sp:=fun vs H Q _=>∃ (p sl wd:Addr) (d:KD.DS) (t:Int),vs=[.ref p]/\KD.dj CD H p sl wd d/\8<=d.sure.length/\dO (d.cur 0)=some (t,0)/\dO (d.cur 1)=none/\jb H Pt vy uZ /\
 ∀ v H',fY H H'->jb H' Pt vy uZ->Us CB H' v->Q v H'
section
variable{P:Program}{w:World}{K:PySem.W.Frag}{mg:Str->Option Value}{base:Heap}
theorem Hf:aG ["self"] ["self"] (az jJ):=d9
theorem CJ(F:dq K "has_more" "Tape.has_more" jJ f fd)(cl:jQ K CT)(no:f9 K CT ["numbers","passed"])(hlen:mg "len"=none):bf P w K mg base cX 1 f fd ["self"] (Li CT):=by
 refine F.oq Hf ?_
 rintro _ _ _ _ H _ Q _ hr ⟨p,dx,r,rfl,hp,hr0,q⟩
 refine ⟨_,aq (aQ (eQ wg (aY (pv 0) rfl) (bw bx (by rfl) hlen PySem.boot_len (aa (aY (pv 0) rfl) ao)) (bh _))),?_⟩
 try dsimp only [bU]
 exact ⟨_,rfl,p,CT,dx,_,_,rfl,hp,cl,no.2.1,rfl,_,rfl,p,CT,dx,_,_,rfl,hp,cl,no.1,rfl,r,_,rfl,.inl (c7.of hr0),_,_,rfl,rfl,q⟩
theorem m9:aG ["numbers","tape","state","name"] ["numbers"] (az qd):=d9
theorem yE(F:dq K "read_state" "read_state" qd f fd)(TK:sU P w K mg base "Tape" CT ["numbers","passed"] 1 ["self","numbers"] (J9 CT))(HM:zZ P w K mg base cX CT 1 "has_more" ["self"] (Li CT)) :
  bf P w K mg base cX 3 f fd ["numbers"] Bh:=by
 obtain ⟨fI,fdI,MI,GI,bI⟩:=TK.ex
 obtain ⟨fM,fdM,mM,GM,bM⟩:=HM.ex
 refine F.oq m9 ?_
 rintro _ A _ _ H _ Q _ hr ⟨r,rfl,hr0,q⟩
 have r1:cO 1 _:=hr.mono (by omega)
 refine ⟨_,ak (bc (i:=1) m9.nd rfl (Or.inl rfl) (eY MI GI hr (by rfl) TK.gl bI .nil aM (aa (pv 0) ao)))
  (ak (bc (i:=2) m9.nd rfl (Or.inl rfl) rC)
  (ak (gP PassesOwn.never (cu (dC (pv 1) TK.cl mM GM r1 bM .nil aM)) aV)
  (aq (aQ (pv 2))))),?_⟩
 try dsimp only [bU]
 refine ⟨_,rfl,?_⟩
 intro x dx hx hdx hne
 refine ⟨x,dx,_,rfl,aj,rfl,?_⟩
 rw [bY]
 have s1:aR H (bQ (bQ H dx (.own x)) x (.ins CT dx (xY (.ref r)))):=(au hdx).trans (au (by rw [aA (Ne.symm hne)];exact hx))
 generalize hH1:bQ (bQ H dx (.own x)) x (.ins CT dx (xY (.ref r)))=H1 at s1
 have g1:H1 x=some (.ins CT dx (xY (.ref r))):=by rw [<- hH1,aj]
 intro d hd
 have s2:aR H1 (bQ H1 d (.dK [])):=au hd
 refine ⟨fun m σ H'=>σ=[some (.ref r),some (.ref x),some (.ref d),none]/\H'=bQ H1 d (.dK []),⟨0,rfl,rfl⟩,?_⟩
 rintro m σ H' ⟨rfl,rfl⟩
 refine ⟨_,rfl,x,dx,_,rfl,s2 _ _ g1,rfl,x,dx,r,rfl,s2 _ _ g1,s2 _ _ (s1 _ _ hr0),_,rfl,cJ (A:=True) ⟨_,rfl,?_⟩⟩
 refine q d _ (s1.trans s2) aj ?_
 cases e:H d with
 | none=>rfl
 | some o=>rw [s1 _ _ e] at hd;cases hd
theorem Ab:aG ["self","disk","head","pages","numbers"] ["self","disk","head","pages","numbers"] (az pM):=d9
theorem zB(F:dq K "__init__" "Store.__init__" pM f fd)(cl:jQ K C)(no:f9 K C ["disk","head","pages","numbers","kept"])(GR:eZ P w K mg base 3 "read_state" ["numbers"] Bh) :
  bf P w K mg base cX 4 f fd ["self","disk","head","pages","numbers"] (Ar C):=by
 obtain ⟨fR,fdR,mR,kR,GR,bR⟩:=GR.ex
 refine F.oq Ab ?_
 rintro _ _ _ _ H _ Q _ hr ⟨y,dx,r,a,b,c,rfl,hy,hr0,q⟩
 refine ⟨_,ak (b7 (pv 0) (pv 1) rfl) (ak (b7 (pv 0) (pv 2) rfl) (ak (b7 (pv 0) (pv 3) rfl) (ak (b7 (pv 0) (pv 4) rfl)
  (aq (b7 (pv 0) (aJ GR hr (by rfl) mR kR bR .nil aM (aa (pv 4) ao)) rfl))))),?_⟩
 try dsimp only [bU]
 refine ⟨_,rfl,_,rfl,y,C,dx,_,rfl,hy,cl,no.1,by show 0<1000;decide,?_⟩
 refine ⟨_,rfl,_,rfl,y,C,dx,_,rfl,aj,cl,no.2.1,by show 1<1000;decide,?_⟩
 rw [bY]
 refine ⟨_,rfl,_,rfl,y,C,dx,_,rfl,aj,cl,no.2.2.1,by show 2<1000;decide,?_⟩
 rw [bY]
 refine ⟨_,rfl,_,rfl,y,C,dx,_,rfl,aj,cl,no.2.2.2.1,by show 3<1000;decide,?_⟩
 rw [bY]
 have nr:r≠y:=gA hr0 hy (by intro z;cases z)
 refine ⟨_,rfl,r,rfl,by rw [aA nr];exact hr0,fun d H1 s1 hd hd0=>?_⟩
 have g1:=s1 _ _ (aj (H:=H) (a:=y))
 refine ⟨_,rfl,y,C,dx,_,rfl,g1,cl,no.2.2.2.2.1,by show 4<1000;decide,?_⟩
 have ny:d≠y:=fun z=>by rw [z,aj] at hd0;cases hd0
 refine q d _ (fun b' o e n=>?_) aj (by rw [aA ny];exact hd) (by rw [aA ny] at hd0;exact hd0)
 have nb:b'≠y:=by simpa using n
 rw [aA nb]
 exact s1 _ _ (by rw [aA nb];exact e)
theorem g8:aG ["disk","head","pages","numbers","k","row"] ["disk"] (az pq):=d9
theorem xD(F:dq K "find_store" "find_store" pq f fd)(T:Hm K mg)(cH:jQ K CH)(nH:f9 K CH ["place","turn","first"])(GC:eZ P w K mg base 2 "check_size" ["disk"] (Dg CD))(GF:eZ P w K mg base 5 "find_head" ["disk"] (Jv CD CH Pt))
  (SK:sU P w K mg base "Store" CSt ["disk","head","pages","numbers","kept"] 4 ["self","disk","head","pages","numbers"] (Ar CSt)):bf P w K mg base cX 6 f fd ["disk"] (BJ CD CSt Pt):=by
 obtain ⟨fC,fdC,mC,kC,GC,bC⟩:=GC.ex
 obtain ⟨fF,fdF,mF,kF,GF,bF⟩:=GF.ex
 obtain ⟨fI,fdI,MI,GI,bI⟩:=SK.ex
 obtain ⟨t0,m0⟩:=T.np
 refine F.oq g8 ?_
 rintro _ A _ _ H _ Q _ hr ⟨p,sl,wd,d,t,rfl,D,h8,e0,e1,hT,q⟩
 have r2:cO 2 _:=hr.mono (by omega)
 refine ⟨_,ak (bz (aJ GC r2 (by rfl) mC kC bC .nil aM (aa (pv 0) ao)))
  (ak (bc (i:=1) g8.nd rfl (Or.inl rfl) (aJ GF hr (by rfl) mF kF bF .nil aM (aa (pv 0) ao)))
  (ak (bu (eV (lK (pv 1))) aV aU)
  (ak (bc (i:=2) g8.nd rfl (Or.inl rfl) (eO ao))
  (ak (bc (i:=3) g8.nd rfl (Or.inl rfl) (eO ao))
  (ak (bc (i:=4) g8.nd rfl (Or.inl rfl) (aY (pv 1) rfl))
  (ak (gP PassesOwn.never (aZ qi (pv 4) (aN (by rfl) m0 (v:=.int 0) ⟨_,rfl⟩) (bh _)) aV)
  (aq (aQ (eY MI GI hr (by rfl) SK.gl bI .nil aM (aa (pv 0) (aa (pv 1) (aa (pv 2) (aa (pv 3) ao))))))))))))),?_⟩
 try dsimp only [bU]
 refine ⟨_,rfl,p,sl,wd,d,rfl,D,h8,?_⟩
 refine ⟨_,rfl,p,sl,wd,d,rfl,D,by omega,hT,fun v H1 s1 hT1 hB=>?_⟩
 rcases hB with ⟨z,_⟩ | ⟨a,k,t',f',rfl,hA,hk,ek,_⟩
 .rw [e0] at z;cases z
 have ef:f'=0:=by
  rcases hk with rfl | rfl
  .rw [e0] at ek;cases ek;rfl
  .rw [e1] at ek;cases ek
 subst ef
 obtain ⟨da,ga⟩:=hA
 refine ⟨_,rfl,_,rfl,cJ (A:=True) ?_⟩
 refine ⟨Nat.zero_le _,fun l1 hl1=>?_⟩
 have s2:=au (o:=.lst []) hl1
 refine ⟨Nat.zero_le _,fun l2 hl2=>?_⟩
 have s3:=au (o:=.lst []) hl2
 have s13:=s2.trans s3
 generalize hH3:bQ (bQ H1 l1 (.lst [])) l2 (.lst [])=H3 at s3 s13 ⊢
 have g3:H3 l2=some (.lst []):=by rw [<- hH3,aj]
 refine ⟨_,rfl,a,CH,da,_,_,rfl,s13 _ _ ga,cH,nH.2.2.1,rfl,?_⟩
 refine ⟨fun m σ H'=>σ=[some (.ref p),some (.ref a),some (.ref l1),some (.ref l2),some (.int 0),none]/\H'=H3,⟨0,rfl,rfl⟩,?_⟩
 rintro m σ H' ⟨rfl,rfl⟩
 refine ⟨_,rfl,rfl,_,rfl,cJ (A:=True) ?_⟩
 refine ⟨_,rfl,_,rfl,_,rfl,_,rfl,?_⟩
 intro x dx hx hdx hne
 have s4:aR H' (bQ (bQ H' dx (.own x)) x (.ins CSt dx [])):=(au hdx).trans (au (by rw [aA (Ne.symm hne)];exact hx))
 refine ⟨x,dx,l2,_,_,_,rfl,aj,s4 _ _ g3,fun dd H5 s5 hx5 hd5 hd0=>⟨rfl,?_⟩⟩
 have s45:aR H' H5:=fun b o e=>s5 _ _ (s4 _ _ e) (by simpa using aO e hx)
 exact q _ H5 (s1.trans (s13.trans s45).t) ((s13.trans s45).tab hT1) ⟨x,dx,dd,_,_,_,_,rfl,hx5,hd5⟩
theorem Eu:aG ["self","store"] ["self","store"] (az rm):=d9
theorem Es(F:dq K "__init__" "Base.__init__" rm f fd)(cl:jQ K C)(no:f9 K C ["store","state","marks","dead"])(cS:jQ K CSt)(nS:dw K CSt "kept"):bf P w K mg base cX 1 f fd ["self","store"] (K1 C CSt):=by
 refine F.oq Eu ?_
 rintro _ _ _ _ H _ Q _ hr ⟨y,dx,st,ds,a,b,c,d,e,rfl,hy,hs,ns,q⟩
 refine ⟨_,ak (b7 (pv 0) (pv 1) rfl) (ak (b7 (pv 0) (aY (pv 1) rfl) rfl) (ak (b7 (pv 0) je rfl) (aq (b7 (pv 0) lO rfl)))),?_⟩
 try dsimp only [bU]
 refine ⟨_,rfl,_,rfl,y,C,dx,_,rfl,hy,cl,no.1,by show 0<1000;decide,?_⟩
 refine ⟨_,rfl,st,CSt,ds,_,_,rfl,by rw [aA ns];exact hs,cS,nS,rfl,_,rfl,y,C,dx,_,rfl,aj,cl,no.2.1,by show 1<1000;decide,?_⟩
 rw [bY]
 refine ⟨_,rfl,y,C,dx,_,rfl,aj,cl,no.2.2.1,by show 2<1000;decide,?_⟩
 rw [bY]
 refine ⟨_,rfl,y,C,dx,_,rfl,aj,cl,no.2.2.2.1,by show 3<1000;decide,?_⟩
 rw [bY]
 exact q
theorem Cr:aG ["disk"] ["disk"] (az q8):=d9
theorem z9(F:dq K "open_base" "open_base" q8 f fd)(GF:eZ P w K mg base 6 "find_store" ["disk"] (BJ CD CSt Pt))(BK:sU P w K mg base "Base" CB ["store","state","marks","dead"] 1 ["self","store"] (K1 CB CSt)) :
  bf P w K mg base cX 7 f fd ["disk"] (wW CD CB Pt):=by
 obtain ⟨fF,fdF,mF,kF,GF,bF⟩:=GF.ex
 obtain ⟨fI,fdI,MI,GI,bI⟩:=BK.ex
 refine F.oq Cr ?_
 rintro _ _ _ _ H _ Q _ hr ⟨p,sl,wd,d,t,rfl,D,h8,e0,e1,hT,q⟩
 have r2:cO 2 _:=hr.mono (by omega)
 refine ⟨_,aq (aQ (eY MI GI r2 (by rfl) BK.gl bI .nil aM (aa (aJ GF hr (by rfl) mF kF bF .nil aM (aa (pv 0) ao)) ao))),?_⟩
 try dsimp only [bU]
 refine ⟨_,rfl,p,sl,wd,d,t,rfl,D,h8,e0,e1,hT,fun v H1 s1 hT1 hS=>?_⟩
 obtain ⟨st,ds,dd,a,b,c,e,rfl,hs,hd⟩:=hS
 intro x dx hx hdx hne
 have s2:aR H1 (bQ (bQ H1 dx (.own x)) x (.ins CB dx [])):=(au hdx).trans (au (by rw [aA (Ne.symm hne)];exact hx))
 refine ⟨x,dx,st,ds,a,b,c,e,.ref dd,rfl,aj,s2 _ _ hs,aO hs hx,rfl,?_⟩
 rw [bY]
 have s3:aR H1 (bQ (bQ H1 dx (.own x)) x (.ins CB dx (gH (.ref st) (.ref dd) .non (.bl false)))):=(au hdx).trans (au (by rw [aA (Ne.symm hne)];exact hx))
 exact q _ _ (s1.trans s3.t) (s3.tab hT1) ⟨x,dx,dd,_,rfl,aj,s3 _ _ hd⟩
end
theorem fj.keep(s:aR H H')(h:fj CS H0 H sm v):fj CS H0 H' sm v:=by
 obtain ⟨y,ta,co,ex,ch,wh,od,e,⟨n0,dx,hy⟩,h1,h2,h3,h4,h5,h6⟩:=h
 have k:dD H0 H H':=dD.same s
 exact ⟨y,ta,co,ex,ch,wh,od,e,⟨n0,dx,s _ _ hy⟩,h1.stay k,(cU jA).keep h2 k,(gq (cU dM)).keep h3 k,(cU oX).keep h4 k,(gq dM).keep h5 k,h6.stay k⟩
structure Ui(K:PySem.W.Frag)(mg:Str->Option Value):Prop where
 len:mg "len"=none
 min:mg "min"=none
 create:GS mg "CREATE" "create table"
 insert:GS mg "INSERT" "insert"
 begin:GS mg "BEGIN" "begin"
 commit:GS mg "COMMIT" "commit"
 rollback:GS mg "ROLLBACK" "rollback"
 rollbackTo:GS mg "ROLLBACK_TO" "rollback to"
 savepoint:GS mg "SAVEPOINT" "savepoint"
section
variable{P:Program}{w:World}{K:PySem.W.Frag}{mg:Str->Option Value}{base:Heap}
theorem qp:aG ["named","known"] ["named","known"] (az jd):=d9
theorem sW:aG ["kind","within"] ["kind","within"] (az iB):=d9
theorem eF:aG ["statement","state","marks","kind","missing_table","columns","changed"] ["statement","state","marks"] (az iu):=d9
theorem jF:aG ["statement","state","marks","wrong_names","least"] ["statement","state","marks"] (az lG):=d9
theorem yh:aG ["statement","state","marks","refusal","behind"] ["statement","state","marks"] (az DQ):=d9
end
section
variable{P:Program}{w:World}{K:PySem.W.Frag}{mg:Str->Option Value}{base:Heap}
structure ExC(K:PySem.W.Frag)(mg:Str->Option Value)(x:Str)(CW:Addr):Prop where
 gl:mg x=some (.ref CW)
 ty:PySem.W.typeIn K (.ref CW)=some (.type "type")
 be:PySem.W.subIn K (.ref CW) (.type "BaseException")=some true
 cl:(PySem.W.clsIn K CW).isSome=true
 self:PySem.W.subIn K (.ref CW) (.ref CW)=some true
theorem JC:aG ["base","text","statement","wrong","verdict"] ["base","text"] (az Qg):=d9
end
noncomputable def CP(a b:V):List (Str × V):=[("columns",a),("rows",b)]
noncomputable def O2(CC:Addr)(H:Hp)(c:V):Prop:=∃ a dx,c=.ref a/\H a=some (.ins CC dx (rA (.str "x") (.str "int") (.bl true) (.bl false)))
noncomputable def wK(H:Hp)(n:Int)(v:V):Prop:=∃ t,v=.ref t/\H t=some (.tup [.int n])
noncomputable def qW(CT CC:Addr)(H:Hp)(rs:List Int)(v:V):Prop:=∃ t dx cs c rw xs,v=.ref t/\H t=some (.ins CT dx (CP (.ref cs) (.ref rw)))/\H cs=some (.tup [c])/\O2 CC H c/\H rw=some (.tup xs)/\Paired (wK H) rs xs
theorem O2.same(s:aR H H')(h:O2 CC H c):O2 CC H' c:=let ⟨a,dx,e,g⟩:=h;⟨a,dx,e,s _ _ g⟩
theorem wK.same(s:aR H H')(h:wK H n v):wK H' n v:=let ⟨t,e,g⟩:=h;⟨t,e,s _ _ g⟩
theorem rW(s:aR H H')(h:Paired (wK H) rs xs):Paired (wK H') rs xs:=L2.Paired.imp' (fun _ _ z=>z.same s) h
theorem qW.same(s:aR H H')(h:qW CT CC H rs v):qW CT CC H' rs v :=
 let ⟨t,dx,cs,c,rw,xs,e,h1,h2,h3,h4,h5⟩:=h;⟨t,dx,cs,c,rw,xs,e,s _ _ h1,s _ _ h2,h3.same s,s _ _ h4,rW s h5⟩
structure HN(K:PySem.W.Frag)(mg:Str->Option Value)(CT CC:Addr):Prop where
 tuple:mg "tuple"=none
 list:mg "list"=none
 dict:mg "dict"=none
 zip:mg "zip"=none
 len:mg "len"=none
 isi:mg "isinstance"=none
 int:mg "int"=none
 enum:mg "enumerate"=none
 va:GS mg "VALUE" "value"
 co:GS mg "COLUMN" "column"
 ic:GS mg "INT_COLUMN" "int"
 cT:jQ K CT
 nT:f9 K CT ["columns","rows"]
 cC:jQ K CC
 nC:f9 K CC ["name","kind","not_null","unique"]
section
variable{P:Program}{w:World}{K:PySem.W.Frag}{mg:Str->Option Value}{base:Heap}
noncomputable def JD(C:Addr):Sp:=fun vs H Q _=>∃ (y dx a b:Addr) (xs ys:List V),vs=[.ref y,.ref a,.ref b]/\H y=some (.ins C dx [])/\(H a=some (.lst xs)\/H a=some (.tup xs))/\H b=some (.lst ys) /\
 ∀ cs rw H',cg [y] H H'->H' cs=some (.tup xs)->H' rw=some (.tup ys)->H' y=some (.ins C dx (CP (.ref cs) (.ref rw)))->Q .non H'
theorem z7:aG ["self","columns","rows"] ["self","columns","rows"] (az o9):=d9
theorem zM(F:dq K "__init__" "Table.__init__" o9 f fd)(T:HN K mg CT CC):bf P w K mg base cX 1 f fd ["self","columns","rows"] (JD CT):=by
 refine F.oq z7 ?_
 rintro _ _ _ _ H _ Q _ hr ⟨y,dx,a,b,xs,ys,rfl,hy,ha,hb,q⟩
 refine ⟨_,ak (b7 (pv 0) (dN ie (by rfl) T.tuple PyProof.Rows.boot_tuple (aa (pv 1) ao)) rfl) (aq (b7 (pv 0) (dN ie (by rfl) T.tuple PyProof.Rows.boot_tuple (aa (pv 2) ao)) rfl)),?_⟩
 try dsimp only [bU]
 have fin:∀ (cs:Addr) (H1:Hp),aR H H1->H1 cs=some (.tup xs)->∀ k,k≠cs->k≠y->bQ H1 y (.ins CT dx [("columns",.ref cs)]) k=none ->
   Q .non (bQ (bQ (bQ H1 y (.ins CT dx [("columns",.ref cs)])) k (.tup ys)) y (.ins CT dx (CP (.ref cs) (.ref k)))):=fun cs H1 s1 hcs k nk ny hk=>by
  have ncy:cs≠y:=fun z=>by rw [z,s1 _ _ hy] at hcs;cases hcs
  refine q cs k _ (fun c o e nc=>?_) ?_ ?_ aj
  .have ncy:c≠y:=by simpa using nc
   have nck:c≠k:=fun z=>by rw [<- z,aA ncy,s1 _ _ e] at hk;cases hk
   rw [aA ncy,aA nck,aA ncy];exact s1 _ _ e
  .rw [aA ncy,aA (Ne.symm nk),aA ncy];exact hcs
  .rw [aA ny,aj]
 have nby:b≠y:=fun z=>by rw [z,hy] at hb;cases hb
 refine ⟨_,rfl,a,xs,rfl,?_⟩
 rcases ha with ha | ha
 .refine .inl ⟨c7.of ha,fun l hl=>⟨_,rfl,y,CT,dx,_,rfl,au hl _ _ hy,T.cT,T.nT.1,by show 0<1000;decide,?_⟩⟩
  have nly:l≠y:=fun z=>by rw [z,hy] at hl;cases hl
  refine ⟨_,rfl,b,ys,rfl,.inl ⟨c7.of (by rw [aA nby];exact au hl _ _ hb),fun k hk=>⟨_,rfl,y,CT,dx,[("columns",.ref l)],rfl,?_,T.cT,T.nT.2.1,by show 1<1000;decide,?_⟩⟩⟩
  .have nky:k≠y:=fun z=>by rw [z,aj] at hk;cases hk
   rw [aA (Ne.symm nky),aj];rfl
  .have nky:k≠y:=fun z=>by rw [z,aj] at hk;cases hk
   exact fin l _ (au hl) aj k (fun z=>by rw [z,aA nly,aj] at hk;cases hk) nky hk
 .refine .inr ⟨cZ.of ha,_,rfl,y,CT,dx,_,rfl,hy,T.cT,T.nT.1,by show 0<1000;decide,?_⟩
  have nay:a≠y:=fun z=>by rw [z,hy] at ha;cases ha
  refine ⟨_,rfl,b,ys,rfl,.inl ⟨c7.of (by rw [aA nby];exact hb),fun k hk=>⟨_,rfl,y,CT,dx,[("columns",.ref a)],rfl,?_,T.cT,T.nT.2.1,by show 1<1000;decide,?_⟩⟩⟩
  .have nky:k≠y:=fun z=>by rw [z,aj] at hk;cases hk
   rw [aA (Ne.symm nky),aj];rfl
  .have nky:k≠y:=fun z=>by rw [z,aj] at hk;cases hk
   exact fin a _ (fun _ _ e=>e) ha k (fun z=>by rw [z,aA nay,ha] at hk;cases hk) nky hk
noncomputable def Ey:Sp:=fun vs H Q _=>∃ (e t d:Addr) (z:Str) (u v:V) (n:Int),vs=[.ref e,.ref d]/\H e=some (.lst [.ref t])/\H t=some (.tup [.str z,u,.int n])/\((z="value"/\v=u)\/(z="column"/\∃ kvs x,H d=some (.dK kvs)/\u=.str x/\fQ kvs (.inr x)=some v))/\∀ H',aR H H'->Q v H'
theorem oH:aG ["expression","row","pending","kind","value","place","right"] ["expression","row"] (az yg):=d9
theorem W0(h:H l=some (.lst xs)):Zc K "list" (.ref l) H:=.inl ⟨rfl,_,c7.of h⟩
theorem Jj(F:dq K "reckon" "reckon" yg f fd)(T:HN K mg CT CC):bf P w K mg base cX 1 f fd ["expression","row"] Ey:=by
 obtain ⟨tV,mV⟩:=T.va
 obtain ⟨tC',mC⟩:=T.co
 refine F.oq oH ?_
 rintro _ _ _ _ H _ Q _ hr ⟨e,t,d,z,u,v,n,rfl,he,ht,hz,q⟩
 have hu:=ql hr
 refine ⟨_,(ak (bc (i:=2) oH.nd rfl (Or.inl rfl) (eO ao))
  (ak (jn PassesOwn.never rfl (gB (pv 0)) (nY rfl (cR (cz (i:=3) oH.nd rfl (Or.inl rfl)) (cR (cz (i:=4) oH.nd rfl (Or.inl rfl)) (cR (cz (i:=5) oH.nd rfl (Or.inl rfl)) jy))))
  (aq (bu (aZ dG (pv 3) (aN (by rfl) mV (v:=.str "value") ⟨_,rfl⟩) (bh _))
  (aq (bz (lB PySem.F.plainAttrs_list PySem.F.slot_list_append PySem.F.type_list_append gj (pv 2) (aa (pv 4) ao))))
  (aq (bu (aZ dG (pv 3) (aN (by rfl) mC (v:=.str "column") ⟨_,rfl⟩) (bh _))
  (aq (bz (lB PySem.F.plainAttrs_list PySem.F.slot_list_append PySem.F.type_list_append gj (pv 2) (aa (rY hu (pv 1) (pv 4) (fun _ _=>rfl)) ao))))
  aV)))))
  (aq (aQ (cA jz (pv 2) aF (fun _ _=>rfl)))))),?_⟩
 try dsimp only [bU]
 refine ⟨Nat.zero_le _,fun pl hpl=>?_⟩
 have s0:=au (o:=.lst []) hpl
 have sv:aR H (bQ (bQ H pl (.lst [])) pl (.lst [v])):=by rw [bY];exact au hpl
 refine ⟨_,rfl,e,rfl,⟨[.ref t],c7.of (s0 _ _ he)⟩,?_⟩
 refine xK (xs:=[.ref t]) (fun i σ H5=>∃ (x3 x4 x5:Option V),σ=[some (.ref e),some (.ref d),some (.ref pl),x3,x4,x5,none]/\H5=bQ H pl (.lst (if i=0 then [] else [v])))
  ⟨none,none,none,rfl,rfl⟩ ?_ ?_ ?_
 .rintro i σ H5 hi ⟨x3,x4,x5,rfl,rfl⟩
  exact c7.of (au hpl _ _ he)
 .rintro i x σ H5 hx ⟨x3,x4,x5,rfl,rfl⟩
  match i,hx with
  | 0,hx =>
  cases hx
  refine ⟨t,_,rfl,cZ.of (s0 _ _ ht),rfl,_,_,rfl,_,_,rfl,_,_,rfl,rfl,?_⟩
  have ap:∀ x:V,x=v->∃ (x3 x4 x5:Option V),[some (V.ref e),some (.ref d),some (.ref pl),some (.str z),some u,some (.int n),none]=[some (V.ref e),some (.ref d),some (.ref pl),x3,x4,x5,none]/\bQ (bQ H pl (.lst [])) pl (.lst ([]++[x]))=bQ H pl (.lst (if 0+1=0 then [] else [v])):=fun x hx=>by
   subst hx
   exact ⟨_,_,_,rfl,by rw [bY];rfl⟩
  rcases hz with ⟨rfl,rfl⟩ | ⟨rfl,kvs,x,hd,rfl,hg⟩
  .refine ⟨_,rfl,rfl,_,rfl,jt dk ?_⟩
   exact ⟨_,rfl,W0 aj,_,rfl,pl,_,_,rfl,rfl,aj,by show 0<sizeLine;decide,ap _ rfl⟩
  .refine ⟨_,rfl,rfl,_,rfl,di dk ?_⟩
   refine ⟨_,rfl,rfl,_,rfl,jt dk ?_⟩
   refine ⟨_,rfl,W0 aj,_,rfl,_,rfl,d,v,rfl,?_,pl,_,_,rfl,rfl,aj,by show 0<sizeLine;decide,ap _ rfl⟩
   have:=oE.k (k:=.inr x) (s0 _ _ hd)
   rw [hg] at this
   exact this
 .rintro σ H5 ⟨x3,x4,x5,rfl,rfl⟩
  exact ⟨_,rfl,pl,_,0,_,rfl,rfl,c7.of aj,rfl,q _ (au hpl)⟩
noncomputable def uT(CC:Addr):Sp:=fun vs H Q _=>∃ (c v:V),vs=[c,v]/\O2 CC H c/\((v=.non/\Q (.bl false) H)\/∃ n,v=.int n/\Q (.bl true) H)
theorem wI:aG ["column","value"] ["column","value"] (az lA):=d9
theorem wL(F:dq K "column_takes" "column_takes" lA f fd)(T:HN K mg CT CC):bf P w K mg base cX 1 f fd ["column","value"] (uT CC):=by
 obtain ⟨ti,mi⟩:=T.ic
 refine F.oq wI ?_
 rintro _ A _ _ H _ Q _ hr ⟨c,v,rfl,⟨a,dx,rfl,hc⟩,hq⟩
 refine ⟨_,ak (bu (eV (lK (pv 1))) (aq (aQ (JK (aY (pv 0) rfl)))) aU)
  (ak (bu (aZ dG (aY (pv 0) rfl) (aN (by rfl) mi (v:=.str "int") ⟨_,rfl⟩) (bh _)) (aq (aQ (bw gF (by rfl) T.isi PyProof.Rows.boot_isinstance (aa (pv 1) (aa (ir (v:=.ty "int") (by rfl) T.int PyProof.Rows.boot_int rfl) ao))))) aU) aV),?_⟩
 try dsimp only [bU]
 rcases hq with ⟨rfl,q⟩ | ⟨n,rfl,q⟩
 .exact ⟨_,rfl,_,rfl,eG (B:=True) ⟨_,rfl,a,CC,dx,_,_,rfl,hc,T.cC,T.nC.2.2.1,rfl,true,rfl,q⟩⟩
 .refine ⟨_,rfl,_,rfl,cJ (A:=True) ⟨_,rfl,a,CC,dx,_,_,rfl,hc,T.cC,T.nC.2.1,rfl,rfl,_,rfl,jt dk ?_⟩⟩
  exact ⟨_,rfl,_,_,_,true,rfl,.inr ⟨_,rfl⟩,.int n,rfl,q⟩
end
section
variable{P:Program}{w:World}{K:PySem.W.Frag}{mg:Str->Option Value}{base:Heap}
structure ZZ(K:PySem.W.Frag)(mg:Str->Option Value)(CN:Addr):Prop where
 gl:mg "Constraint"=some (.ref CN)
 ex:PySem.W.excIn K CN VE "ValueError.__new__"=true
noncomputable def xT(CT CC CN:Addr):Sp:=fun vs H Q E=>∃ (tv:V) (r:Addr) (xs:List V) (rs:List Int),vs=[tv,.ref r]/\qW CT CC H rs tv/\H r=some (.tup xs) /\
 ((∃ n,xs=[.int n]/\∀ H',aR H H'->Q .non H')\/((xs.length≠1\/xs=[.non])/\∀ H',aR H H'->E (.ref CN) none H'))
theorem jX:aG ["table","row","column","value","name"] ["table","row"] (az rE):=d9
theorem Ej(F:dq K "check_row" "check_row" rE f fd)(T:HN K mg CT CC)(N:ZZ K mg CN)(GT:eZ P w K mg base 1 "column_takes" ["column","value"] (uT CC)) :
  bf P w K mg base (vY P w) 2 f fd ["table","row"] (xT CT CC CN):=by
 obtain ⟨fT,fdT,mT,kT,GT,bT⟩:=GT.ex
 refine F.oqX jX ?_
 rintro _ A _ _ H _ Q _ hr ⟨tv,r,xs,rs,rfl,⟨t,dx,cs,c,rw,rr,rfl,h1,h2,h3,h4,h5⟩,hr',hq⟩
 obtain ⟨ca,cdx,rfl,hc⟩:=h3
 refine ⟨_,ak (bu (aZ qi (bw bx (by rfl) T.len PySem.boot_len (aa (pv 1) ao)) (bw bx (by rfl) T.len PySem.boot_len (aa (aY (pv 0) rfl) ao)) (bh _))
   (aq (qO xj rfl (by rfl) N.gl N.ex PySem.F.excBase_ValueError (aa aX ao))) aU)
  (aq (jn PassesOwn.leaving rfl (Iu (b1:=true) (b2:=true) (by rfl) T.zip (aa (aY (pv 0) rfl) (aa (pv 1) ao))) (nY rfl (cR (cz (i:=2) jX.nd rfl (Or.inl rfl)) (cR (cz (i:=3) jX.nd rfl (Or.inl rfl)) jy)))
   (aq (bu (fU (cu (aJ GT hr (by rfl) mT kT bT .nil aM (aa (pv 2) (aa (pv 3) ao)))))
    (ak (bc (i:=4) jX.nd rfl (Or.inl rfl) (aY (pv 2) rfl)) (aq (qO xj rfl (by rfl) N.gl N.ex PySem.F.excBase_ValueError (aa (MJ (pv 4) (by decide)) ao)))) aU)))),?_⟩
 try dsimp only [bU]
 refine ⟨_,rfl,r,xs,rfl,.inr (cZ.of hr'),_,rfl,t,CT,dx,_,_,rfl,h1,T.cT,T.nT.1,rfl,cs,_,rfl,.inr (cZ.of h2),rfl,_,rfl,vq (fun hl=>?_) (fun hl=>?_)⟩
 .have ne:xs.length≠1:=fun z=>by simp [z] at hl
  rcases hq with ⟨n,rfl,_⟩ | ⟨_,q⟩
  .exact absurd rfl ne
  .exact ⟨xZ,q _ (fun _ _ e=>e)⟩
 .have l1:xs.length=1:=by
   by_cases z:xs.length=1
   .exact z
   .refine absurd ?_ hl
    rw [decide_eq_false (fun q:V.int (xs.length:Nat)=V.int ((([V.ref ca]:List V).length:Nat):Int)=>z (by injection q with q;exact_mod_cast q))]
    rfl
  obtain ⟨x,rfl⟩:∃ x,xs=[x]:=List.length_eq_one_iff.mp l1
  refine ⟨_,rfl,t,CT,dx,_,_,rfl,h1,T.cT,T.nT.1,rfl,_,rfl,cs,r,[.ref ca],[x],rfl,cZ.of h2,cZ.of hr',?_⟩
  refine Sq (xs:=[.ref ca]) (ys:=[x]) (fun i σ H5=>∃ (x2 x3:Option V),σ=[some (.ref t),some (.ref r),x2,x3,none]/\aR H H5/\(i=1->∃ n,x=.int n)) rfl ⟨none,none,rfl,fun _ _ e=>e,fun z=>nomatch z⟩ ?_ ?_ ?_
  .rintro i σ H5 hi ⟨x2,x3,rfl,a1,_⟩
   exact ⟨cZ.of (a1 _ _ h2),cZ.of (a1 _ _ hr')⟩
  .rintro i y z T1 σ H5 hy hz hT ⟨x2,x3,rfl,a1,_⟩
   match i,hy,hz with
   | 0,hy,hz =>
   cases hy
   cases hz
   have s6:=a1.trans (au (o:=.tup [V.ref ca,x]) hT)
   refine ⟨T1,_,rfl,cZ.of aj,rfl,_,_,rfl,_,_,rfl,rfl,?_⟩
   refine ⟨_,rfl,_,rfl,.ref ca,x,rfl,⟨ca,cdx,rfl,s6 _ _ hc⟩,?_⟩
   rcases hq with ⟨n,e,q⟩ | ⟨e,q⟩
   .cases e
    exact .inr ⟨n,rfl,true,rfl,cJ (A:=True) ⟨_,_,rfl,s6,fun _=>⟨n,rfl⟩⟩⟩
   .rcases e with e | e
    .exact absurd rfl e
    .cases e
     refine .inl ⟨rfl,false,rfl,eG (B:=True) ⟨_,rfl,ca,CC,cdx,_,_,rfl,s6 _ _ hc,T.cC,T.nC.1,rfl,_,rfl,"x",rfl,by decide,xZ,q _ s6⟩⟩
  .rintro σ H5 ⟨x2,x3,rfl,a1,a2⟩
   obtain ⟨n,rfl⟩:=a2 rfl
   rcases hq with ⟨_,_,q⟩ | ⟨e,_⟩
   .exact q _ a1
   .rcases e with e | e
    .exact absurd rfl e
    .cases e
theorem uU(hx:H x=none)(hdx:H dx=none)(hne:dx≠x):aR H (bQ (bQ H dx (.own x)) x (.ins C dx fs)):=(au hdx).trans (au (by rw [aA (Ne.symm hne)];exact hx))
noncomputable def xf(CT CC:Addr):Sp:=fun vs H Q _=>∃ (tv:V) (l:Addr) (xs:List V) (rs rs':List Int),vs=[tv,.ref l]/\qW CT CC H rs tv/\H l=some (.lst xs)/\Paired (wK H) rs' xs/\∀ t' H',aR H H'->qW CT CC H' rs' t'->Q t' H'
theorem pO:aG ["table","rows","place","column"] ["table","rows"] (az qJ):=d9
theorem CG(F:dq K "with_rows" "with_rows" qJ f fd)(T:HN K mg CT CC)(TK:sU P w K mg base "Table" CT ["columns","rows"] 1 ["self","columns","rows"] (JD CT)) :
  bf P w K mg base cX 3 f fd ["table","rows"] (xf CT CC):=by
 obtain ⟨fI,fdI,MI,GI,bI⟩:=TK.ex
 refine F.oq pO ?_
 rintro _ A _ _ H _ Q _ hr ⟨tv,l,xs,rs,rs',rfl,⟨t,dx,cs,c,rw,rr,rfl,h1,h2,h3,h4,h5⟩,hl,hp,q⟩
 obtain ⟨ca,cdx,rfl,hc⟩:=id h3
 refine ⟨_,ak (jn PassesOwn.never rfl (Pa (by rfl) T.enum (aa (aY (pv 0) rfl) ao)) (nY rfl (cR (cz (i:=2) pO.nd rfl (Or.inr rfl)) (cR (cz (i:=3) pO.nd rfl (Or.inl rfl)) jy)))
   (aq (bu (cu (aY (pv 3) rfl)) aV aU)))
  (aq (aQ (eY MI GI hr (by rfl) TK.gl bI .nil aM (aa (aY (pv 0) rfl) (aa (pv 1) ao))))),?_⟩
 try dsimp only [bU]
 refine ⟨_,rfl,t,CT,dx,_,_,rfl,h1,T.cT,T.nT.1,rfl,cs,_,rfl,cZ.of h2,?_⟩
 refine M7 (xs:=[.ref ca]) (fun i σ H5=>∃ (x2 x3:Option V),σ=[some (.ref t),some (.ref l),x2,x3]/\aR H H5) ⟨none,none,rfl,fun _ _ e=>e⟩ ?_ ?_ ?_
 .rintro i σ H5 hi ⟨x2,x3,rfl,a1⟩
  exact cZ.of (a1 _ _ h2)
 .rintro i x σ H5 T1 hx hT ⟨x2,x3,rfl,a1⟩
  match i,hx with
  | 0,hx =>
  cases hx
  have s6:=a1.trans (au (o:=.tup [.int (0:Nat),V.ref ca]) hT)
  refine ⟨T1,_,rfl,cZ.of aj,rfl,_,_,rfl,_,_,rfl,rfl,?_⟩
  exact ⟨_,rfl,ca,CC,cdx,_,_,rfl,s6 _ _ hc,T.cC,T.nC.2.2.2.1,rfl,false,rfl,cJ (A:=True) ⟨_,_,rfl,s6⟩⟩
 .rintro σ H5 ⟨x2,x3,rfl,a1⟩
  refine ⟨_,rfl,t,CT,dx,_,_,rfl,a1 _ _ h1,T.cT,T.nT.1,rfl,_,rfl,?_⟩
  intro x dy hx hdy hne
  have s7:aR H _:=a1.trans (uU (C:=CT) (fs:=[]) hx hdy hne)
  refine ⟨x,dy,cs,l,[.ref ca],xs,rfl,aj,.inr (s7 _ _ h2),s7 _ _ hl,fun cs2 rw2 H' st e1 e2 e3=>⟨rfl,?_⟩⟩
  have s8:aR H H':=fun b o e=>st b o (s7 b o e) (by
   intro m
   rcases List.mem_singleton.mp m with rfl
   rw [a1 _ _ e] at hx;cases hx)
  exact q (.ref x) H' s8 ⟨x,dy,cs2,.ref ca,rw2,xs,rfl,e3,e1,⟨ca,cdx,rfl,s8 _ _ hc⟩,e2,rW s8 hp⟩
end
theorem pZ:∀ {xs:List α} {ys:List V},Paired (fun _ y=>y=c) xs ys->ys=xs.map fun _=>c
 | _,_,.nil=>rfl
 | _,_,.cons h t=>by rw [pZ t,h];rfl
section
variable{P:Program}{w:World}{K:PySem.W.Frag}{mg:Str->Option Value}{base:Heap}
theorem jx{k:NameKind}(h:k=.local\/k=.globalImplicit)(z:k=.cell\/k=.free):False:=by rcases h with rfl | rfl <;> rcases z with z | z <;> cases z
noncomputable def Af(H:Hp)(n:Int)(v:V):Prop:=∃ d,v=.ref d/\H d=some (.dK [(.inr "x",.int n)])
noncomputable def K3(CT CC:Addr):Sp:=fun vs H Q _=>∃ (tv rv:V) (rs:List Int) (n:Int),vs=[tv,rv]/\qW CT CC H rs tv/\wK H n rv/\∀ d H',aR H H'->Af H' n d->Q d H'
theorem yQ:aG ["table","row"] ["table","row"] (az nW):=d9
theorem yt{f CT CC:Addr}{fd:FuncData}(F:dq K "name_values" "name_values" nW f fd)(T:HN K mg CT CC):bf P w K mg base cX 1 f fd ["table","row"] (K3 CT CC):=by
 refine F.oq yQ ?_
 rintro _ _ _ s H _ Q _ hr ⟨tv,rv,rs,n,rfl,⟨t,dx,cs,c,rw,rr,rfl,h1,h2,⟨ca,cdx,rfl,hc⟩,h4,h5⟩,⟨r,rfl,hr'⟩,q⟩
 refine ⟨_,aq (aQ (Ha (b1:=false) (b2:=true) rfl (by rfl) T.dict (by rfl) T.zip (aa (jg (te:=QL K (cP 0) "name") (x := "column") (fv:=[]) (js:=[]) (cl:=[]) rfl
   ⟨by with_unfolding_all rfl,rfl,dk,dk,rfl,dk,trivial,by exact ⟨fun z=>(jx (.inl rfl) z).elim,fun z=>(jx (.inl rfl) z).elim,trivial⟩,trivial,fun _=>rfl⟩
   (yq (aY (pv 0) rfl)) (fun pins fp s H=>by exact aY (pv 0) rfl)) (aa (pv 1) ao)))),?_⟩
 try dsimp only [bU]
 refine ⟨_,rfl,t,CT,dx,_,_,rfl,h1,T.cT,T.nT.1,rfl,cs,rfl,⟨_,cZ.of h2⟩,fun D hD=>?_⟩
 refine yj [V.ref ca] _ (fun _ _ y=>y=.str "x") xZ hD (fun _ _ _ _ _ z=>z) (ZS h2) (PB h2) (V2 h2) ?_ ?_
 .rintro a v Hc H' k ha s1 ⟨rfl,rfl⟩ kk
  cases List.mem_singleton.mp ha
  exact ⟨_,rfl,ca,CC,cdx,_,_,rfl,s1 _ _ hc,T.cC,T.nC.1,rfl,kk _ _ (fun _ _ e=>e) rfl⟩
 .intro ys Hc s1 hl pp
  cases pp with
  | cons e r2 =>
   cases r2
   subst e
   exact ⟨_,rfl,D,r,"x",.int n,rfl,c7.of hl,cZ.of (s1 _ _ hr'),fun p hp=>q (.ref p) _ (s1.trans (au hp)) ⟨p,rfl,aj⟩⟩
noncomputable def v4(CS CT CC:Addr):Sp:=fun vs H Q _=>∃ (tv:V) (y:Addr) (H0:Hp) (sm:ut) (rs:List Int),vs=[tv,.ref y]/\qW CT CC H rs tv/\fj CS H0 H sm (.ref y)/\sm.wher=none/\rs.length<=1000 /\
 ∀ l H',aR H H'->H' l=some (.lst (rs.map fun _=>.bl true))->Q (.ref l) H'
theorem Aq:aG ["table","statement"] ["table","statement"] (az pU):=d9
theorem zQ{f CT CC CS fS:Addr}{fd:FuncData}(F:dq K "judge_rows" "judge_rows" pU f fd)(T:HN K mg CT CC)(TS:yc K mg CS fS):bf P w K mg base cX 1 f fd ["table","statement"] (v4 CS CT CC):=by
 refine F.oq Aq ?_
 rintro _ _ _ s H _ Q _ hr ⟨tv,y,H0,sm,rs,rfl,⟨t,dx,cs,c,rw,rr,rfl,h1,h2,h3,h4,h5⟩,hS,hw,hl,q⟩
 obtain ⟨y',ta,co,ex,ch,wh,od,e,⟨_,dy,hy⟩,_,_,_,_,hwh,_⟩:=hS
 cases e
 rw [hw] at hwh
 cases (show wh=.non from hwh)
 refine ⟨_,ak (bu (eV (lK (aY (pv 1) rfl))) (aq (aQ (jg (x := "row") (fv:=[]) (js:=[]) (cl:=[]) rfl
   ⟨by with_unfolding_all rfl,rfl,dk,dk,rfl,dk,trivial,by exact ⟨fun z=>(jx (.inl rfl) z).elim,fun z=>(jx (.inl rfl) z).elim,trivial⟩,trivial,fun _=>rfl⟩
   (yq (aY (pv 0) rfl)) (fun pins fp s H=>lO)))) aU) aV,?_⟩
 try dsimp only [bU]
 refine ⟨_,rfl,y,CS,dy,_,_,rfl,hy,TS.cl,TS.nWh,rfl,_,rfl,eG (B:=True) ?_⟩
 refine ⟨_,rfl,t,CT,dx,_,_,rfl,h1,T.cT,T.nT.2.1,rfl,rw,rfl,⟨_,cZ.of h4⟩,fun D hD=>?_⟩
 have lr:rs.length=rr.length:=h5.length
 refine yj rr _ (fun _ _ y=>y=.bl true) (Nat.le_trans (show rr.length<=1000 by omega) (by decide)) hD (fun _ _ _ _ _ z=>z) (ZS h4) (PB h4) (V2 h4) ?_ ?_
 .rintro a v Hc H' k ha s1 ⟨rfl,rfl⟩ kk
  exact kk _ _ (fun _ _ e=>e) rfl
 .intro ys Hc s1 hl2 pp
  have e:ys=rs.map fun _=>.bl true:=by
   rw [pZ pp,List.map_const',List.map_const',lr]
  rw [e] at hl2
  exact q D Hc s1 hl2
theorem iC:∀ {as:List α} {bs:List β} {b:β},Paired R as bs->b∈bs->∃ a∈as,R a b
 | _,_,_,.nil,h=>nomatch h
 | _,_,b,.cons h t,m=>by
  rcases List.mem_cons.mp m with rfl | m
  .exact ⟨_,.head _,h⟩
  .obtain ⟨a,ha,r⟩:=iC t m
   exact ⟨a,.tail _ ha,r⟩
noncomputable def Hr(p:Int):List Ao:=[("column",.str "x",p)]
noncomputable def JG:Option (List Int)->Nat
 | none=>1
 | some ps=>ps.length
noncomputable def yV:Sp:=fun vs H Q _=>∃ (rv ev:V) (H0:Hp) (n:Int) (o:Option (List Int)),vs=[rv,ev]/\Af H n rv/\Bo (nA qt) H0 H (o.map fun ps=>ps.map Hr) ev/\JG o<=1000 /\
 ∀ t H',aR H H'->H' t=some (.tup (List.replicate (JG o) (.int n)))->Q (.ref t) H'
theorem yw:aG ["row","expressions"] ["row","expressions"] (az nR):=d9
theorem yf{f CT CC:Addr}{fd:FuncData}(F:dq K "make_result" "make_result" nR f fd)(T:HN K mg CT CC)(GR:eZ P w K mg base 1 "reckon" ["expression","row"] Ey):bf P w K mg base cX 2 f fd ["row","expressions"] yV:=by
 obtain ⟨fR,fdR,mR,kR,GR,bR⟩:=GR.ex
 refine F.oq yw ?_
 rintro _ A _ s H _ Q _ hr ⟨rv,ev,H0,n,o,rfl,⟨d,rfl,hd⟩,he,hl,q⟩
 refine ⟨_,ak (bu (eV (lK (pv 1))) (aq (aQ (Jo rfl (by rfl) T.tuple (pv 0)))) aU)
  (aq (aQ (dN ie (by rfl) T.tuple PyProof.Rows.boot_tuple (aa (jg (x := "expression") (fv:=["row"]) (js:=[0]) (cl:=[("row",s.heap.objs.size+1)]) rfl
   ⟨by with_unfolding_all rfl,rfl,dk,dk,rfl,dk,⟨rfl,trivial⟩,by exact ⟨fun z=>(jx (.inl rfl) z).elim,fun z=>(jx (.inl rfl) z).elim,fun z=>(jx (.inr rfl) z).elim,fun _=>⟨_,rfl⟩,trivial⟩,by exact ⟨⟨rfl,.inl rfl,⟨_,rfl,rfl⟩,.inl rfl⟩,trivial⟩,fun _=>rfl⟩
   (gB (pv 1)) (fun pins fp s H=>aJ GR hr (by rfl) mR kR bR .nil aM (aa (pv 0) (aa (pv 1) ao)))) ao)))),?_⟩
 try dsimp only [bU]
 cases o with
 | none =>
  cases (show ev=.non from he)
  exact ⟨_,rfl,_,rfl,eG (B:=True) ⟨_,rfl,d,_,rfl,hd,fun p hp=>q p _ (au hp) aj⟩⟩
 | some ps =>
  obtain ⟨pl,rs,rfl,_,hpl,hp⟩:=he
  refine ⟨_,rfl,_,rfl,cJ (A:=True) ?_⟩
  refine ⟨_,rfl,pl,rfl,⟨_,c7.of hpl⟩,fun D hD=>?_⟩
  have lr:ps.length=rs.length:=by rw [<- hp.length,List.length_map]
  refine yj rs _ (fun _ _ y=>y=.int n) (Nat.le_trans (show rs.length<=1000 by rw [<- lr];exact hl) (by decide)) hD (fun _ _ _ _ _ z=>z) (Rv hpl) (tQ hpl) (zK hpl) ?_ ?_
  .rintro a v Hc H' k ha s1 ⟨rfl,rfl⟩ kk
   obtain ⟨ss,hm,st,ys,rfl,_,hst,hss⟩:=iC hp ha
   obtain ⟨p,_,rfl⟩:=List.mem_map.mp hm
   cases hss with
   | cons h1 h2 =>
    cases h2
    obtain ⟨t,rfl,ht⟩:=h1
    refine ⟨_,rfl,_,rfl,st,t,d,"column",_,.int n,p,rfl,s1 _ _ hst,s1 _ _ ht,.inr ⟨rfl,_,"x",s1 _ _ hd,rfl,rfl⟩,fun H3 s3=>kk _ _ s3 rfl⟩
  .intro ys Hc s1 hl2 pp
   have e:ys=List.replicate (JG (some ps)) (.int n):=by rw [pZ pp,List.map_const',<- lr];rfl
   rw [e] at hl2
   exact ⟨D,_,rfl,.inl ⟨c7.of hl2,fun l hl3=>q l _ (s1.trans (au hl3)) aj⟩⟩
end
section
variable{P:Program}{w:World}{K:PySem.W.Frag}{mg:Str->Option Value}{base:Heap}
noncomputable def oV:Option Int->V
 | none=>.non
 | some n=>.int n
noncomputable def zX(o:Option Int):List Ao:=[("value",oV o,0)]
theorem KN:∀ (vals:List (Option Int)) (es ys:List V),Paired At (vals.map zX) es->Paired (fun v y=>∀ o,At (zX o) v->y=oV o) es ys->ys=vals.map oV
 | [],_,_,.nil,.nil=>rfl
 | v::vals,_,_,.cons h t,.cons h2 t2=>by
  rw [KN vals _ _ t t2,h2 v h];rfl
noncomputable def Fv(CS CT CC CN:Addr):Sp:=fun vs H Q E=>∃ (tv:V) (y:Addr) (H0:Hp) (sm:ut) (rs:List Int) (vals:List (Option Int)),vs=[tv,.ref y]/\qW CT CC H rs tv/\fj CS H0 H sm (.ref y)/\sm.exprs=some (vals.map zX)/\vals.length<=1000/\rs.length<=1000 /\
 ((∃ n,vals=[some n]/\∀ r t H',aR H H'->H' r=some (.tup [t,.int 1])->qW CT CC H' (rs++[n]) t->Q (.ref r) H')\/((∀ n,vals≠[some n])/\∀ H',aR H H'->E (.ref CN) none H'))
theorem sZ:aG ["table","statement","row"] ["table","statement"] (az pN):=d9
theorem An(F:dq K "insert_row" "insert_row" pN f fd)(T:HN K mg CT CC)(TS:yc K mg CS fS)(GR:eZ P w K mg base 1 "reckon" ["expression","row"] Ey)
  (GC:Xl P w K mg base (vY P w) 2 "check_row" ["table","row"] (xT CT CC CN)) (GW:eZ P w K mg base 3 "with_rows" ["table","rows"] (xf CT CC)):bf P w K mg base (vY P w) 4 f fd ["table","statement"] (Fv CS CT CC CN):=by
 obtain ⟨fR,fdR,mR,kR,GR,bR⟩:=GR.ex
 obtain ⟨fC,fdC,mC,kC,GC,bC⟩:=GC.ex
 obtain ⟨fW,fdW,mW,kW,GW,bW⟩:=GW.ex
 refine F.oqX sZ ?_
 rintro _ _ _ s H _ Q _ hr ⟨tv,y,H0,sm,rs,vals,rfl,hT,hS,hex,hv,hrl,hq⟩
 obtain ⟨y',ta,co,ex,ch,wh,od,e,⟨_,dy,hy⟩,_,_,he,_⟩:=hS
 cases e
 rw [hex] at he
 obtain ⟨pl,es,rfl,_,hpl,hp⟩:=he
 have r1:cO 1 _:=hr.mono (by omega)
 have r2:cO 2 _:=hr.mono (by omega)
 refine ⟨_,ak (bc (i:=2) sZ.nd rfl (Or.inl rfl) (dN ie (by rfl) T.tuple PyProof.Rows.boot_tuple (aa (jg (x := "expression") (fv:=[]) (js:=[]) (cl:=[]) rfl
   ⟨by with_unfolding_all rfl,rfl,dk,dk,rfl,dk,trivial,by exact ⟨fun z=>(jx (.inl rfl) z).elim,fun z=>(jx (.inl rfl) z).elim,fun z=>(jx (.inr rfl) z).elim,trivial⟩,trivial,fun _=>rfl⟩
   (gB (aY (pv 1) rfl)) (fun pins fp s H=>aJ GR r1 (by rfl) mR kR bR .nil aM (aa (pv 0) (aa rC ao)))) ao)))
  (ak (bz (aJ GC r2 (by rfl) mC kC bC .nil yR (aa (pv 0) (aa (pv 2) ao))))
  (aq (aQ (b8 (aa (aJ GW hr (by rfl) mW kW bW .nil aM (aa (pv 0) (aa (cD vJ (dN jP (by rfl) T.list PyProof.Rows.boot_list (aa (aY (pv 0) rfl) ao)) (eO (aa (pv 2) ao))) ao))) (aa aF ao)))))),?_⟩
 try dsimp only [bU]
 refine ⟨_,rfl,y,CS,dy,_,_,rfl,hy,TS.cl,TS.nEx,rfl,pl,rfl,⟨_,c7.of hpl⟩,fun D hD=>?_⟩
 have lr:vals.length=es.length:=by rw [<- hp.length,List.length_map]
 refine yj es _ (fun _ v y=>∀ o,qt H0 H (zX o) v->y=oV o) (Nat.le_trans (show es.length<=1000 by omega) (by decide)) hD (fun _ _ _ _ _ z=>z) (Rv hpl) (tQ hpl) (zK hpl) ?_ ?_
 .rintro a v Hc H' k ha s1 ⟨rfl,rfl⟩ kk
  obtain ⟨ss,hm,st,ys,rfl,n0,hst,hss⟩:=iC hp ha
  obtain ⟨o,_,rfl⟩:=List.mem_map.mp hm
  cases id hss with
  | cons h1 h2 =>
   cases h2
   obtain ⟨t,rfl,ht⟩:=h1
   refine ⟨_,rfl,fun dd hdd=>?_⟩
   have s2:=au (o:=.dK []) hdd
   refine ⟨st,t,dd,"value",oV o,oV o,0,rfl,s2 _ _ (s1 _ _ hst),s2 _ _ (s1 _ _ ht),.inl ⟨rfl,rfl⟩,fun H3 s3=>kk _ _ (s2.trans s3) fun o' ho'=>?_⟩
   obtain ⟨st2,ys2,e2,_,hst2,hss2⟩:=ho'
   cases e2
   rw [hst] at hst2
   cases hst2
   cases hss2 with
   | cons h1 h2 =>
    obtain ⟨t2,e3,ht2⟩:=h1
    cases e3
    rw [ht] at ht2
    injection ht2 with ht2
    injection ht2 with ht2
    injection ht2 with _ ht2
    injection ht2
 .intro ys Hc s1 hl2 pp
  have e:=KN vals es ys hp pp
  rw [e] at hl2
  refine ⟨D,_,rfl,.inl ⟨c7.of hl2,fun r hr'=>?_⟩⟩
  have s2:=s1.trans (au (o:=.tup (vals.map oV)) hr')
  have hT2:=hT.same s2
  refine ⟨_,rfl,_,rfl,tv,r,vals.map oV,rs,rfl,hT2,aj,?_⟩
  rcases hq with ⟨n,rfl,q⟩ | ⟨hne,q⟩
  .refine .inl ⟨n,rfl,fun H3 s3=>?_⟩
   obtain ⟨t,dx,cs,c,rw,rr,rfl,h1,h2,h3,h4,h5⟩:=hT2.same s3
   refine ⟨_,rfl,_,rfl,t,CT,dx,_,_,rfl,h1,T.cT,T.nT.2.1,rfl,rw,rr,rfl,.inr (cZ.of h4),fun l hl=>?_⟩
   have s4:=au (o:=.lst rr) hl
   refine ⟨_,rfl,xZ,fun l2 hl2'=>?_⟩
   have s5:=au (o:=.lst [V.ref r]) hl2'
   have lrr:=h5.length
   refine ⟨l,l2,rr,_,rfl,rfl,s5 _ _ aj,aj,Nat.le_trans (show rr.length+1<=1001 by omega) (by decide),fun l3 hl3=>?_⟩
   have s6:=au (o:=.lst (rr++[V.ref r])) hl3
   have s36:=s4.trans (s5.trans s6)
   refine ⟨.ref t,l3,rr++[.ref r],rs,rs++[n],rfl,⟨t,dx,cs,c,rw,rr,rfl,s36 _ _ h1,s36 _ _ h2,h3.same s36,s36 _ _ h4,rW s36 h5⟩,aj,lY (rW s36 h5) ⟨r,rfl,s36 _ _ (s3 _ _ aj)⟩,fun t' H7 s7 hT7=>?_⟩
   refine ⟨zF,fun p hp7=>?_⟩
   have s8:=au (o:=.tup [t',.int 1]) hp7
   exact q p t' _ (s2.trans (s3.trans (s36.trans (s7.trans s8)))) aj (hT7.same s8)
  .refine .inr ⟨?_,fun H3 s3=>q _ (s2.trans s3)⟩
   match vals,hne with
   | [],_=>exact .inl (by simp)
   | [none],_=>exact .inr rfl
   | [some n],h=>exact absurd rfl (h n)
   | _::_::_,_=>exact .inl (by simp)
end
noncomputable def Ce(o:Option (List Int))(H:Hp)(n:Int)(v:V):Prop:=∃ t,v=.ref t/\H t=some (.tup (List.replicate (JG o) (.int n)))
theorem QG(ha:H1 a=some (.tup xs))(hb:H1 b=some (.lst zs))(el:xs.length=zs.length)(Hc:Hp)(s:aR H1 Hc):(RT K true false a b).stop (xs.zip zs).length Hc :=
 ⟨xs,zs,cZ.of (s _ _ ha),c7.of (s _ _ hb),.inl (by rw [List.length_zip,<- el,Nat.min_self];exact Nat.le_refl _)⟩
theorem Wf(ha:H1 a=some (.tup xs))(hb:H1 b=some (.lst zs))(i:Nat)(Hc:Hp)(hi:i<(xs.zip zs).length)(s:aR H1 Hc):(RT K true false a b).go i Hc:=by
 rw [List.length_zip] at hi
 exact ⟨xs,zs,xs[i]'(by omega),zs[i]'(by omega),cZ.of (s _ _ ha),c7.of (s _ _ hb),by simp,by simp⟩
theorem R8(ha:H1 a=some (.tup xs))(hb:H1 b=some (.lst zs))(i:Nat)(Hc:Hp)(v:V)(H':Hp)(s:aR H1 Hc)(y:(RT K true false a b).yld i Hc v H') :
  ∃ p:V × V,(xs.zip zs)[i]?=some p/\∃ T,Hc T=none/\v=.ref T/\H'=bQ Hc T (.tup [p.1,p.2]):=by
 obtain ⟨T,x1,z1,hT,rfl,rfl,hxy⟩:=y
 obtain ⟨a1,a2⟩:=hxy xs zs (cZ.of (s _ _ ha)) (c7.of (s _ _ hb))
 exact ⟨(x1,z1),by rw [List.getElem?_zip_eq_some];exact ⟨a1,a2⟩,T,hT,rfl,rfl⟩
theorem K4:∀ {rs:List Int} {rr ys:List V},Paired (wK H1) rs rr->Paired (fun p v=>∀ n,wK H1 n p.1->Af Hc n v) ((rr.zip (rs.map fun _=>V.bl true)).filter fun _=>true) ys->Paired (Af Hc) rs ys
 | _,_,_,.nil,.nil=>.nil
 | r::rs,x::rr,ys,.cons h t,p=>by
  cases (show Paired (fun p v=>∀ n,wK H1 n p.1->Af Hc n v) ((x,V.bl true)::(rr.zip (rs.map fun _=>V.bl true)).filter fun _=>true) ys from p) with
  | cons h2 t2=>exact .cons (h2 _ h) (K4 t t2)
theorem Ol:∀ {rs:List Int} {ys zs:List V},Paired (Af Hc) rs ys->Paired (fun v y=>∀ n,Af Hc n v->Ce o H n y) ys zs->Paired (Ce o H) rs zs
 | _,_,_,.nil,.nil=>.nil
 | _,_,_,.cons h t,.cons h2 t2=>.cons (h2 _ h) (Ol t t2)
section
variable{P:Program}{w:World}{K:PySem.W.Frag}{mg:Str->Option Value}{base:Heap}
noncomputable def FN(CS CT CC:Addr):Sp:=fun vs H Q _=>∃ (tv:V) (y:Addr) (H0:Hp) (sm:ut) (rs:List Int) (o:Option (List Int)),vs=[tv,.ref y]/\qW CT CC H rs tv/\fj CS H0 H sm (.ref y)/\sm.wher=none/\sm.order=none/\sm.limit=none/\sm.exprs=(o.map fun ps=>ps.map Hr)/\JG o<=1000/\rs.length<=1000 /\
 ∀ l xs H',aR H H'->H' l=some (.lst xs)->Paired (Ce o H') rs xs->Q (.ref l) H'
theorem lw:aG ["table","statement","taken","rows"] ["table","statement"] (az nM):=d9
theorem zg(F:dq K "select_rows" "select_rows" nM f fd)(T:HN K mg CT CC)(TS:yc K mg CS fS)(GJ:eZ P w K mg base 1 "judge_rows" ["table","statement"] (v4 CS CT CC))
  (GN:eZ P w K mg base 1 "name_values" ["table","row"] (K3 CT CC)) (GM:eZ P w K mg base 2 "make_result" ["row","expressions"] yV):bf P w K mg base cX 3 f fd ["table","statement"] (FN CS CT CC):=by
 obtain ⟨fJ,fdJ,mJ,kJ,GJ,bJ⟩:=GJ.ex
 obtain ⟨fN,fdN,mN,kN,GN,bN⟩:=GN.ex
 obtain ⟨fM,fdM,mM,kM,GM,bM⟩:=GM.ex
 refine F.oq lw ?_
 rintro _ A _ s H _ Q _ hr ⟨tv,y,H0,sm,rs,o,rfl,hT,hS,hwh,hod,hli,hex,ho,hrl,q⟩
 have r1:cO 1 _:=hr.mono (by omega)
 refine ⟨_,ak (bc (i:=2) lw.nd rfl (Or.inl rfl) (aJ GJ r1 (by rfl) mJ kJ bJ .nil aM (aa (pv 0) (aa (pv 1) ao))))
  (ak (uD (i:=3) (g:=Il K 2 (jC (dJ 0) (jC (dJ 1) Jp))) (xs:=["row","take"]) (fv:=["table"]) (js:=[0]) (cl:=[("table",s.heap.objs.size+1)]) rfl
   ⟨by with_unfolding_all rfl,rfl,dk,dk,⟨rfl,trivial⟩,by exact ⟨fun z=>(jx (.inl rfl) z).elim,fun z=>(jx (.inl rfl) z).elim,fun z=>(jx (.inl rfl) z).elim,fun z=>(jx (.inr rfl) z).elim,fun _=>⟨_,rfl⟩,trivial⟩,by exact ⟨⟨rfl,.inl rfl,⟨_,rfl,rfl⟩,.inl rfl⟩,trivial⟩,fun _=>rfl⟩
   lw.nd rfl rfl (by rfl) (Iu (b1:=true) (b2:=false) (by rfl) T.zip (aa (aY (pv 0) rfl) (aa (pv 2) ao))) (fun pins fp s H=>by exact nY rfl (cR (cz (i:=0) (by show (["row","take","table"]:List Str).Nodup;decide +kernel) rfl (Or.inl rfl)) (cR (cz (i:=1) (by show (["row","take","table"]:List Str).Nodup;decide +kernel) rfl (Or.inl rfl)) jy)))
   (fun pins fp s H=>qK (cu (pv 1))) (fun pins fp s H=>aJ GN r1 (by rfl) mN kN bN .nil aM (aa (pv 2) (aa (pv 0) ao))))
  (ak (bu (eV (jw (aY (pv 1) rfl))) aV aU)
  (ak (bu (eV (jw (aY (pv 1) rfl))) aV aU)
  (aq (aQ (jg (te:=gD yV [] E0 (aW (cP 0) (aW (QL K (cP 1) "expressions") cW))) (x := "row") (fv:=["statement"]) (js:=[1]) (cl:=[("statement",s.heap.objs.size+2)]) rfl
   ⟨by with_unfolding_all rfl,rfl,dk,dk,rfl,dk,⟨rfl,trivial⟩,by exact ⟨fun z=>(jx (.inl rfl) z).elim,fun z=>(jx (.inl rfl) z).elim,fun z=>(jx (.inr rfl) z).elim,fun _=>⟨_,rfl⟩,trivial⟩,by exact ⟨⟨rfl,.inl rfl,⟨_,rfl,rfl⟩,.inl rfl⟩,trivial⟩,fun _=>rfl⟩
   (gB (pv 3)) (fun pins fp s H=>by exact aJ GM hr (by rfl) mM kM bM .nil aM (aa (pv 0) (aa (aY (pv 1) rfl) ao))))))))),?_⟩
 try dsimp only [bU]
 refine ⟨_,rfl,_,rfl,tv,y,H0,sm,rs,rfl,hT,hS,hwh,hrl,fun l1 H1 s1 hl1=>?_⟩
 have hT1:=hT.same s1
 obtain ⟨t,dx,cs,c,rw,rr,rfl,h1,h2,h3,h4,h5⟩:=id hT1
 have lr:=h5.length
 have el:rr.length=(rs.map fun _=>V.bl true).length:=by rw [List.length_map,lr]
 refine ⟨_,rfl,t,CT,dx,_,_,rfl,h1,T.cT,T.nT.2.1,rfl,_,rfl,rw,l1,rr,_,rfl,cZ.of h4,c7.of hl1,fun D hD=>?_⟩
 refine tX (rr.zip (rs.map fun _=>V.bl true)) _ (fun _=>true) (fun H p v=>∀ n,wK H1 n p.1->Af H n v) ?_ hD (fun _ _ _ _ k z n hn=>?_) (Wf h4 hl1) (QG h4 hl1 el) (R8 h4 hl1) ?_ ?_
 .rw [List.length_zip]
  exact Nat.le_trans (Nat.min_le_left ..) (Nat.le_trans (show rr.length<=1000 by omega) (by decide))
 .obtain ⟨d,e,g⟩:=z n hn
  exact ⟨d,e,k _ _ g (fun ys z=>nomatch z)⟩
 .rintro ⟨rv,bv⟩ v Hc H' k1 k2 hm s2 ⟨T1,hT1',rfl,rfl⟩ kk1 kk2
  obtain ⟨m1,m2⟩:=List.of_mem_zip hm
  obtain ⟨_,_,rfl⟩:=List.mem_map.mp m2
  obtain ⟨n,_,hn⟩:=iC h5 m1
  have s3:=au (o:=.tup [rv,V.bl true]) hT1'
  refine ⟨T1,_,rfl,cZ.of aj,rfl,_,_,rfl,_,_,rfl,rfl,⟨rfl,fun k v e=>?_⟩,?_⟩
  .match k,e with
   | 2,e=>exact e
  .refine ⟨_,rfl,true,rfl,eG (B:=True) ?_⟩
   refine ⟨_,rfl,_,rfl,.ref t,rv,rs,n,rfl,hT1.same (s2.trans s3),hn.same (s2.trans s3),fun d H4 s4 hd=>kk1 rfl d H4 (s3.trans s4) fun n2 hn2=>?_⟩
   obtain ⟨t1,e1,g1⟩:=hn
   obtain ⟨t2,e2,g2⟩:=hn2
   cases e1
   cases e2
   rw [g1] at g2
   cases g2
   exact hd
 .intro ys Hc s2 hl2 pp
  have s12:=s1.trans s2
  obtain ⟨y',ta,co,ex,ch,wh,od,e,⟨_,dy,hy⟩,_,_,he,_,_,hO⟩:=hS.keep s12
  cases e
  rw [hod] at hO
  cases (show od=.non from hO)
  rw [hli] at hy
  rw [hex] at he
  refine ⟨_,rfl,y,CS,dy,_,_,rfl,hy,TS.cl,TS.nOd,rfl,_,rfl,cJ (A:=True) ?_⟩
  refine ⟨_,rfl,y,CS,dy,_,_,rfl,hy,TS.cl,TS.nLi,rfl,_,rfl,cJ (A:=True) ?_⟩
  have hrd:Paired (Af Hc) rs ys:=K4 h5 pp
  have ly:=hrd.length
  refine ⟨_,rfl,D,rfl,⟨_,c7.of hl2⟩,fun D2 hD2=>?_⟩
  refine yj ys _ (fun H v y=>∀ n,Af Hc n v->Ce o H n y) (Nat.le_trans (show ys.length<=1000 by omega) (by decide)) hD2 (fun _ _ _ _ k z n hn=>?_) (Rv hl2) (tQ hl2) (zK hl2) ?_ ?_
  .obtain ⟨d,e,g⟩:=z n hn
   exact ⟨d,e,k _ _ g (fun ys z=>nomatch z)⟩
  .rintro a v H4 H5 k ha s4 ⟨rfl,rfl⟩ kk
   obtain ⟨n,_,hn⟩:=iC hrd ha
   obtain ⟨d,rfl,hd⟩:=hn
   refine ⟨_,rfl,_,rfl,y,CS,dy,_,_,rfl,s4 _ _ hy,TS.cl,TS.nEx,rfl,.ref d,ex,H0,n,o,rfl,⟨d,rfl,s4 _ _ hd⟩,(gq (cU dM)).keep he (dD.same s4),ho,fun t1 H6 s6 ht1=>kk _ _ s6 fun n2 hn2=>?_⟩
   obtain ⟨d2,e2,g2⟩:=hn2
   cases e2
   rw [hd] at g2
   cases g2
   exact ⟨t1,rfl,ht1⟩
  .intro zs H6 s6 hl6 pp6
   exact q D2 zs H6 (s12.trans s6) hl6 (Ol hrd pp6)
end
noncomputable def VN(p:Nat):Uh:=(.str "x",p,.str "int",true,false)
section
variable{P:Program}{w:World}{K:PySem.W.Frag}{mg:Str->Option Value}{base:Heap}
noncomputable def Bd(CS CT CC:Addr):Sp:=fun vs H Q _=>∃ (y:Addr) (H0:Hp) (sm:ut),vs=[.ref y]/\fj CS H0 H sm (.ref y)/\sm.cols.length<=1000/\∀ t H',aR H H'->((∃ p,sm.cols=[VN p])->qW CT CC H' [] t)->Q t H'
theorem tD:aG ["statement","columns"] ["statement"] (az pA):=d9
theorem zR(F:dq K "make_table" "make_table" pA f fd)(T:HN K mg CT CC)(TS:yc K mg CS fS)(CK:sU P w K mg base "Column" CC ["name","kind","not_null","unique"] 1 ["self","name","kind","not_null","unique"] (BR CC))
  (TK:sU P w K mg base "Table" CT ["columns","rows"] 1 ["self","columns","rows"] (JD CT)):bf P w K mg base cX 3 f fd ["statement"] (Bd CS CT CC):=by
 obtain ⟨fI,fdI,MI,GI,bI⟩:=TK.ex
 obtain ⟨fC,fdC,MC,GC,bC⟩:=CK.ex
 refine F.oq tD ?_
 rintro _ _ _ s H _ Q _ hr ⟨y,H0,sm,rfl,hS,hl,q⟩
 obtain ⟨y',ta,co,ex,ch,wh,od,e,⟨_,dy,hy⟩,_,hco,_⟩:=hS
 cases e
 obtain ⟨pl,cs,rfl,_,hpl,hp⟩:=hco
 have nd5:(["name","place","kind","not_null","unique"]:List Str).Nodup:=dk
 refine ⟨_,ak (uD (i:=1) (g:=Il K 5 (jC (dJ 0) (jC (dJ 1) (jC (dJ 2) (jC (dJ 3) (jC (dJ 4) Jp)))))) (xs:=["name","place","kind","not_null","unique"]) (fv:=[]) (js:=[]) (cl:=[]) rfl
   ⟨by with_unfolding_all rfl,rfl,dk,dk,trivial,by exact ⟨fun z=>(jx (.inl rfl) z).elim,fun z=>(jx (.inl rfl) z).elim,fun z=>(jx (.inl rfl) z).elim,fun z=>(jx (.inl rfl) z).elim,fun z=>(jx (.inl rfl) z).elim,fun z=>(jx (.inl rfl) z).elim,fun z=>(jx (.inr rfl) z).elim,trivial⟩,trivial,fun _=>rfl⟩
   tD.nd rfl rfl (by rfl) (gB (aY (pv 0) rfl)) (fun pins fp s H=>by exact nY rfl (cR (cz (i:=0) nd5 rfl (Or.inl rfl)) (cR (cz (i:=1) nd5 rfl (Or.inl rfl)) (cR (cz (i:=2) nd5 rfl (Or.inl rfl)) (cR (cz (i:=3) nd5 rfl (Or.inl rfl)) (cR (cz (i:=4) nd5 rfl (Or.inl rfl)) jy))))))
   (fun pins fp s H=>u9) (fun pins fp s H=>by exact eY MC GC hr (by rfl) CK.gl bC .nil aM (aa (pv 0) (aa (pv 2) (aa (pv 3) (aa (pv 4) ao))))))
  (aq (aQ (eY MI GI hr (by rfl) TK.gl bI .nil aM (aa (pv 1) (aa (eO ao) ao))))),?_⟩
 try dsimp only [bU]
 have lr:=hp.length
 refine ⟨_,rfl,y,CS,dy,_,_,rfl,hy,TS.cl,TS.nCo,rfl,pl,rfl,⟨_,c7.of hpl⟩,fun D hD=>?_⟩
 refine tX cs _ (fun _=>true) (fun H' v u=>∀ c,wk H0 H c v->∃ a dx,u=.ref a/\H' a=some (.ins CC dx (rA c.1 c.2.2.1 (.bl c.2.2.2.1) (.bl c.2.2.2.2)))) (Nat.le_trans (show cs.length<=1000 by omega) (by decide)) hD (fun _ _ _ _ k z c hc=>?_) (Rv hpl) (tQ hpl) (zK hpl) ?_ ?_
 .obtain ⟨a,dx,e,g⟩:=z c hc
  exact ⟨a,dx,e,k _ _ g (fun ys z=>nomatch z)⟩
 .rintro a v Hc H' k1 k2 ha s1 ⟨rfl,rfl⟩ kk1 kk2
  obtain ⟨c,_,t,rfl,ht⟩:=iC hp ha
  refine ⟨t,_,rfl,cZ.of (s1 _ _ ht),rfl,_,_,rfl,_,_,rfl,_,_,rfl,_,_,rfl,_,_,rfl,rfl,⟨rfl,fun k v e=>?_⟩,?_⟩
  .match k,e with
   | 5,e=>cases e
  .refine eG (B:=True) ⟨_,rfl,_,rfl,_,rfl,_,rfl,?_⟩
   intro x dx hx hdx hne
   have s2:=uU (C:=CC) (fs:=rA c.1 c.2.2.1 (.bl c.2.2.2.1) (.bl c.2.2.2.2)) hx hdx hne
   refine ⟨x,dx,_,_,_,_,rfl,aj,rfl,?_⟩
   rw [bY]
   refine kk1 rfl _ _ s2 fun c2 hc2=>?_
   obtain ⟨t2,e2,g2⟩:=hc2
   cases e2
   rw [ht] at g2
   injection g2 with g2
   injection g2 with g2
   simp only [List.cons.injEq,V.bl.injEq,and_true] at g2
   refine ⟨x,dx,rfl,?_⟩
   rw [<- g2.1,<- g2.2.2.1,<- g2.2.2.2.1,<- g2.2.2.2.2]
   exact aj
 .intro ys Hc s1 hl2 pp
  refine ⟨_,rfl,Nat.zero_le _,fun l3 hl3=>?_⟩
  have s2:=au (o:=.lst []) hl3
  intro x dx hx hdx hne
  have s3:=uU (C:=CT) (fs:=[]) hx hdx hne
  refine ⟨x,dx,D,l3,ys,[],rfl,aj,.inl (s3 _ _ (s2 _ _ hl2)),s3 _ _ aj,fun cs2 rw2 H' st e1 e2 e3=>⟨rfl,?_⟩⟩
  have s4:aR Hc H':=fun b o e=>st b o (s3 b o (s2 b o e)) (by
   intro m
   rcases List.mem_singleton.mp m with rfl
   rw [s2 _ _ e] at hx;cases hx)
  refine q (.ref x) H' (s1.trans s4) ?_
  rintro ⟨p,hcol⟩
  rw [hcol] at hp
  cases hp with
  | cons h1 h2 =>
   cases h2
   cases (show Paired (fun v u=>∀ c,wk H0 H c v->∃ a dx,u=.ref a/\Hc a=some (.ins CC dx (rA c.1 c.2.2.1 (.bl c.2.2.2.1) (.bl c.2.2.2.2)))) [_] ys from pp) with
   | cons g1 g2 =>
    cases g2
    obtain ⟨a,da,rfl,ga⟩:=g1 _ h1
    exact ⟨x,dx,cs2,.ref a,rw2,[],rfl,e3,e1,⟨a,da,rfl,s4 _ _ ga⟩,e2,.nil⟩
end
theorem K5:∀ zs:List Str,(zs.map V.str).all jE=true
 | []=>rfl
 | z::zs=>K5 zs
theorem We:∀ {zs:List Str},z∈zs->zy (.str z) (zs.map V.str)=true:=fun {zs} h=>by
 unfold zy
 refine List.any_eq_true.mpr ⟨.str z,List.mem_map.mpr ⟨z,h,rfl⟩,?_⟩
 show (z == z)=true
 exact beq_self_eq_true z
theorem vC:∀ {as:List α} {bs:List β} {i:Nat} {b:β},Paired R as bs->bs[i]?=some b->∃ a,as[i]?=some a/\R a b
 | _,_,_,_,.nil,h=>by simp at h
 | _,_,0,_,.cons h t,e=>by cases e;exact ⟨_,rfl,h⟩
 | _,_,i+1,_,.cons h t,e=>vC (i:=i) t e
theorem G8{kvs:List (gf × V)}{k:gf}(h:k∉kvs.map (·.1)):fQ kvs k=none:=by
 unfold fQ
 rw [List.find?_eq_none.mpr (fun x hx=>by simpa using fun e:x.1=k=>h (List.mem_map.mpr ⟨x,hx,e⟩))]
 rfl
theorem Qi{zs:List Str}{i:Nat}{z:Str}(hnd:zs.Nodup)(hz:zs[i]?=some z):fQ ((zs.take i).map fun z=>((Sum.inr z:gf),V.bl true)) (.inr z)=none:=by
 refine G8 fun hm=>?_
 rw [List.map_map] at hm
 obtain ⟨y,hy,e⟩:=List.mem_map.mp hm
 have e':y=z:=by injection e
 subst e'
 obtain ⟨j,hj,ej⟩:=List.mem_take_iff_getElem.mp hy
 have hi:=(List.getElem?_eq_some_iff.mp hz)
 obtain ⟨hi,ei⟩:=hi
 exact (List.pairwise_iff_getElem.mp hnd) j i (by omega) hi (by omega) (by rw [ej,ei])
theorem Av{kvs:List (gf × V)}{k:gf}{v:V}(h:fQ kvs k=none):lD kvs k v=kvs++[(k,v)]:=by
 have e:(kvs.find? fun kv=>decide (kv.1=k))=none:=by
  unfold fQ at h
  cases q:(kvs.find? fun kv=>decide (kv.1=k)) with
  | none=>rfl
  | some x=>rw [q] at h;cases h
 unfold lD
 rw [if_neg]
 intro z
 obtain ⟨x,hx,p⟩:=List.any_eq_true.mp z
 exact List.find?_eq_none.mp e x hx p
section
variable{P:Program}{w:World}{K:PySem.W.Frag}{mg:Str->Option Value}{base:Heap}
noncomputable def OD:Sp:=fun vs H Q _=>∃ (z:Str) (b:Bool),vs=[.str z,.bl b]/\((z="begin"/\b=false)\/(z≠"begin"/\b=true))/\Q (.bl true) H
theorem R9(F:dq K "fits_transaction" "fits_transaction" iB f fd)(T:Ui K mg):bf P w K mg base cX 1 f fd ["kind","within"] OD:=by
 obtain ⟨t1,mb⟩:=T.begin
 obtain ⟨t2,mc⟩:=T.commit
 obtain ⟨t3,mr⟩:=T.rollback
 obtain ⟨t4,mt⟩:=T.rollbackTo
 obtain ⟨t5,ms⟩:=T.savepoint
 refine F.oq sW ?_
 rintro _ _ _ _ H _ Q _ hr ⟨z,b,rfl,hz,q⟩
 refine ⟨_,ak (bu (aZ dG (pv 0) (aN (by rfl) mb (v:=.str "begin") ⟨_,rfl⟩) (bh _)) (aq (aQ (JK (pv 1)))) aU)
  (aq (aQ (BL (pv 1) (jH (eQ vd (pv 0) (b8 (aa (aN (by rfl) mc (v:=.str "commit") ⟨_,rfl⟩) (aa (aN (by rfl) mr (v:=.str "rollback") ⟨_,rfl⟩) (aa (aN (by rfl) mt (v:=.str "rollback to") ⟨_,rfl⟩) (aa (aN (by rfl) ms (v:=.str "savepoint") ⟨_,rfl⟩) ao))))) (by rfl)))))),?_⟩
 try dsimp only [bU]
 rcases hz with ⟨rfl,rfl⟩ | ⟨hz,rfl⟩
 .exact ⟨_,rfl,rfl,_,rfl,jt dk ⟨_,rfl,false,rfl,q⟩⟩
 .refine ⟨_,rfl,rfl,_,rfl,di ?_ ⟨_,rfl,true,rfl,eG (B:=True) q⟩⟩
  exact decide_eq_false fun e=>hz (by cases e;rfl)
noncomputable def K9:Sp:=fun vs H Q _=>∃ (l t d:Addr) (z:Str) (n:Int) (kvs:List (gf × V)),vs=[.ref l,.ref d]/\H l=some (.lst [.ref t])/\H t=some (.tup [.str z,.int n])/\H d=some (.dK kvs) /\
 ∀ r ys H',aR H H'->H' r=some (.lst ys)->((fQ kvs (.inr z)≠none/\ys=[])\/(fQ kvs (.inr z)=none/\∃ u,ys=[.ref u]/\H' u=some (.tup [.int n,.str "name"])))->Q (.ref r) H'
theorem QD(F:dq K "tell_missing" "tell_missing" jd f fd):bf P w K mg base cX 1 f fd ["named","known"] K9:=by
 refine F.oq qp ?_
 rintro _ A _ s H _ Q _ hr ⟨l,t,d,z,n,kvs,rfl,hl,ht,hd,q⟩
 have hu:=ql hr
 have nd3:(["name","place","known"]:List Str).Nodup:=dk
 refine ⟨_,aq (aQ (qY (g:=Il K 2 (jC (dJ 0) (jC (dJ 1) Jp))) (xs:=["name","place"]) (fv:=["known"]) (js:=[1]) (cl:=[("known",s.heap.objs.size+1)]) rfl
  ⟨by with_unfolding_all rfl,rfl,dk,dk,⟨rfl,trivial⟩,by exact ⟨fun z=>(jx (.inl rfl) z).elim,fun z=>(jx (.inl rfl) z).elim,fun z=>(jx (.inl rfl) z).elim,fun _=>⟨_,rfl⟩,trivial⟩,by exact ⟨⟨rfl,.inl rfl,⟨_,rfl,rfl⟩,.inl rfl⟩,trivial⟩,fun _=>rfl⟩
  (gB (pv 0)) (fun pins fp s H=>by exact nY rfl (cR (cz (i:=0) nd3 rfl (Or.inl rfl)) (cR (cz (i:=1) nd3 rfl (Or.inl rfl)) jy)))
  (fun pins fp s H=>qK (eV (Mh hu (pv 0) (pv 2)))) (fun pins fp s H=>b8 (aa (pv 1) (aa aX ao))))),?_⟩
 try dsimp only [bU]
 refine ⟨_,rfl,l,rfl,⟨_,c7.of hl⟩,fun D hD=>?_⟩
 refine tX [V.ref t] _ (fun _=>(fQ kvs (.inr z)).isNone) (fun H _ y=>∃ u,y=.ref u/\H u=some (.tup [.int n,.str "name"])) xZ hD (fun _ _ _ _ k z=>?_) (Rv hl) (tQ hl) (zK hl) ?_ ?_
 .obtain ⟨u,e,g⟩:=z
  exact ⟨u,e,k _ _ g (fun ys z=>nomatch z)⟩
 .rintro a v Hc H' k1 k2 ha s1 ⟨rfl,rfl⟩ kk1 kk2
  cases List.mem_singleton.mp ha
  refine ⟨t,_,rfl,cZ.of (s1 _ _ ht),rfl,_,_,rfl,_,_,rfl,rfl,⟨rfl,fun k v e=>?_⟩,?_⟩
  .match k,e with
   | 2,e=>exact e
  .refine ⟨_,rfl,_,rfl,d,_,rfl,oE.k (k:=Sum.inr z) (s1 _ _ hd),_,rfl,?_⟩
   cases hv:fQ kvs (.inr z) with
   | none =>
    refine eG (B:=True) ⟨_,rfl,zF,fun u hu0=>kk1 (by rw [hv];rfl) _ _ (au hu0) ⟨u,rfl,aj⟩⟩
   | some x=>exact cJ (A:=True) (kk2 (by rw [hv];rfl) _ (fun _ _ e=>e))
 .intro ys Hc s1 hl2 pp
  refine q D ys Hc s1 hl2 ?_
  cases hv:fQ kvs (.inr z) with
  | none =>
   rw [hv] at pp
   cases (show Paired _ [V.ref t] ys from pp) with
   | cons h1 h2 =>
    cases h2
    obtain ⟨u,rfl,g⟩:=h1
    exact .inr ⟨rfl,u,rfl,g⟩
  | some x =>
   rw [hv] at pp
   cases (show Paired _ ([]:List V) ys from pp)
   exact .inl ⟨(fun z=>nomatch z),rfl⟩
noncomputable def Ke:Sp:=fun vs H Q _=>∃ (l k:Addr) (xs:List V) (zs:List Str),vs=[.ref l,.ref k]/\H l=some (.lst xs)/\(∀ x∈xs,∃ t z n,x=.ref t/\H t=some (.tup [.str z,.int n])/\z∈zs)/\H k=some (.lst (zs.map V.str))/\xs.length<=1000 /\
 ∀ r H',aR H H'->H' r=some (.lst [])->Q (.ref r) H'
theorem Ov(F:dq K "tell_missing" "tell_missing" jd f fd):bf P w K mg base cX 1 f fd ["named","known"] Ke:=by
 refine F.oq qp ?_
 rintro _ A _ s H _ Q _ hr ⟨l,k,xs,zs,rfl,hl,hx,hk,hn,q⟩
 have nd3:(["name","place","known"]:List Str).Nodup:=dk
 refine ⟨_,aq (aQ (qY (g:=Il K 2 (jC (dJ 0) (jC (dJ 1) Jp))) (tt:=fun σ H Q=>tB (jj (Zf K true) (cP 0) (cP 2)) σ H Q) (xs:=["name","place"]) (fv:=["known"]) (js:=[1]) (cl:=[("known",s.heap.objs.size+1)]) rfl
  ⟨by with_unfolding_all rfl,rfl,dk,dk,⟨rfl,trivial⟩,by exact ⟨fun z=>(jx (.inl rfl) z).elim,fun z=>(jx (.inl rfl) z).elim,fun z=>(jx (.inl rfl) z).elim,fun _=>⟨_,rfl⟩,trivial⟩,by exact ⟨⟨rfl,.inl rfl,⟨_,rfl,rfl⟩,.inl rfl⟩,trivial⟩,fun _=>rfl⟩
  (gB (pv 0)) (fun pins fp s H=>by exact nY rfl (cR (cz (i:=0) nd3 rfl (Or.inl rfl)) (cR (cz (i:=1) nd3 rfl (Or.inl rfl)) jy)))
  (fun pins fp s H=>by exact qK (aZ vd (pv 0) (pv 2) (by rfl))) (fun pins fp s H=>oM))),?_⟩
 try dsimp only [bU]
 refine ⟨_,rfl,l,rfl,⟨_,c7.of hl⟩,fun D hD=>?_⟩
 refine tX xs _ (fun _=>false) (fun _ _ _=>True) (Nat.le_trans hn (by decide)) hD (fun _ _ _ _ _ z=>z) (Rv hl) (tQ hl) (zK hl) ?_ ?_
 .rintro a v Hc H' k1 k2 ha s1 ⟨rfl,rfl⟩ kk1 kk2
  obtain ⟨t,z,n,rfl,ht,hz⟩:=hx _ ha
  refine ⟨t,_,rfl,cZ.of (s1 _ _ ht),rfl,_,_,rfl,_,_,rfl,rfl,⟨rfl,fun k v e=>?_⟩,?_⟩
  .match k,e with
   | 2,e=>exact e
  .refine ⟨_,rfl,_,rfl,k,_,rfl,.inl (c7.of (s1 _ _ hk)),rfl,K5 zs,_,rfl,?_⟩
   rw [We hz]
   exact cJ (A:=True) (kk2 rfl _ (fun _ _ e=>e))
 .intro ys Hc s1 hl2 pp
  have e:xs.filter (fun _=>false)=[]:=List.filter_eq_nil_iff.mpr (fun _ _=>by simp)
  rw [e] at pp
  cases pp
  exact q D Hc s1 hl2
noncomputable def Z3(H:Hp)(z:Str)(x:V):Prop:=∃ t n,x=.ref t/\H t=some (.tup [.str z,.int n])
noncomputable def yI:Sp:=fun vs H Q _=>∃ (l:Addr) (xs:List V) (zs:List Str),vs=[.ref l]/\H l=some (.lst xs)/\Paired (Z3 H) zs xs/\zs.Nodup/\zs.length<=1000/\∀ r H',aR H H'->H' r=some (.lst [])->Q (.ref r) H'
theorem gr:aG ["named","seen","repeated","name","place"] ["named"] (az jM):=d9
theorem M8{f:Addr}{fd:FuncData}(F:dq K "tell_repeated" "tell_repeated" jM f fd):bf P w K mg base cX 1 f fd ["named"] yI:=by
 refine F.oq gr ?_
 rintro _ A _ _ H _ Q _ hr ⟨l,xs,zs,rfl,hl,hp,hnd,hn,q⟩
 have hu:=ql hr
 refine ⟨_,ak (bc (i:=1) gr.nd rfl (Or.inl rfl) rC) (ak (bc (i:=2) gr.nd rfl (Or.inl rfl) (eO ao))
  (ak (jn PassesOwn.never rfl (gB (pv 0)) (nY rfl (cR (cz (i:=3) gr.nd rfl (Or.inl rfl)) (cR (cz (i:=4) gr.nd rfl (Or.inl rfl)) jy)))
   (ak (bu (eV (Q7 hu (pv 3) (pv 1))) aV aU) (aq (Dj hu (pv 1) (pv 3) lO (by rfl)))))
  (aq (aQ (pv 2))))),?_⟩
 try dsimp only [bU]
 refine fun d hd=>⟨Nat.zero_le _,fun r hr'=>?_⟩
 have hdr:d≠r:=fun z=>by rw [<- z,aj] at hr';cases hr'
 have nr:H r=none:=by rw [aA (Ne.symm hdr)] at hr';exact hr'
 have ll:=hp.length
 refine ⟨_,rfl,l,rfl,⟨_,c7.of (au hr' _ _ (au hd _ _ hl))⟩,?_⟩
 refine xK (xs:=xs) (fun i σ H5=>∃ (x3 x4:Option V),σ=[some (.ref l),some (.ref d),some (.ref r),x3,x4]/\aR H H5/\H5 r=some (.lst [])/\H5 d=some (.dK ((zs.take i).map fun z=>(Sum.inr z,V.bl true))))
  ⟨none,none,rfl,(au hd).trans (au hr'),aj,by rw [aA hdr,aj];rfl⟩ ?_ ?_ ?_
 .rintro i σ H5 hi ⟨x3,x4,rfl,a1,_⟩
  exact c7.of (a1 _ _ hl)
 .rintro i x σ H5 hx ⟨x3,x4,rfl,a1,a2,a3⟩
  have hi:i<zs.length:=by rw [ll];exact (List.getElem?_eq_some_iff.mp hx).1
  obtain ⟨z,hz,t,n,rfl,ht⟩:=vC hp hx
  refine ⟨t,_,rfl,cZ.of (a1 _ _ ht),rfl,_,_,rfl,_,_,rfl,rfl,?_⟩
  have hv:fQ ((zs.take i).map fun z=>((Sum.inr z:gf),V.bl true)) (.inr z)=none:=Qi hnd hz
  refine ⟨_,rfl,_,rfl,d,_,rfl,oE.k (k:=Sum.inr z) a3,_,rfl,?_⟩
  rw [hv]
  refine cJ (A:=True) ⟨_,rfl,_,rfl,d,_,rfl,Ib.k (k:=Sum.inr z) a3 ?_,?_⟩
  .rw [List.length_map,List.length_take]
   exact Nat.lt_of_le_of_lt (Nat.min_le_left ..) (Nat.lt_of_lt_of_le (show i<1000 by omega) (by decide))
  .refine ⟨_,_,rfl,fun b o e=>?_,?_,?_⟩
   .rw [aA (aO e hd)];exact a1 _ _ e
   .rw [aA (Ne.symm hdr)];exact a2
   .rw [aj,Av hv,List.take_succ,hz,List.map_append];rfl
 .rintro σ H5 ⟨x3,x4,rfl,a1,a2,_⟩
  exact ⟨_,rfl,q r H5 a1 a2⟩
end
inductive Dd where
 | beg
 | sav (z:Str) (n:Nat)
 | crt (z:Str) (n:Nat) (zs:List Str)
 | ins (n:Nat) (vals:List (Option Int))
 | sel (n:Nat) (o:Option (List Int))
 | mis (z:Str) (n:Nat)
 deriving DecidableEq
structure Ay(sm:ut):Prop where
 ch:sm.chs=[]
 wh:sm.wher=none
 od:sm.order=none
 li:sm.limit=none
noncomputable def Dd.says(sm:ut):Dd->Prop
 | .beg=>sm.kind="begin"/\sm.target=none/\sm.exprs=some []
 | .sav z n=>sm.kind="savepoint"/\sm.target=some (.str z,n)
 | .crt z n zs=>sm.kind="create table"/\sm.target=some (.str z,n)/\sm.cols.map (·.1)=zs.map V.str/\zs.Nodup/\zs.length<=1000/\(z="a"->∃ p,sm.cols=[VN p])
 | .ins n vals=>sm.kind="insert"/\sm.target=some (.str "a",n)/\sm.exprs=some (vals.map zX)/\vals.length<=1000
 | .sel n o=>sm.kind="select"/\sm.target=some (.str "a",n)/\sm.exprs=(o.map fun ps=>ps.map Hr)/\JG o<=1000
 | .mis z n=>sm.kind="select"/\sm.target=some (.str z,n)
noncomputable def wJ(CT CC:Addr)(H:Hp)(ns:List Str)(rs:List Int)(d:Addr):Prop:=∃ kvs:List (gf × V),H d=some (.dK kvs)/\kvs.map (·.1)=ns.map Sum.inr/\∀ v,fQ kvs (.inr "a")=some v->qW CT CC H rs v
theorem wJ.same(s:aR H H')(h:wJ CT CC H ns rs d):wJ CT CC H' ns rs d:=let ⟨kvs,h1,h2,h3⟩:=h;⟨kvs,s _ _ h1,h2,fun v e=>(h3 v e).same s⟩
theorem Qe{kvs:List (gf × V)}{k:gf}(h:k∈kvs.map (·.1)):∃ v,fQ kvs k=some v:=by
 obtain ⟨x,hx,e⟩:=List.mem_map.mp h
 unfold fQ
 cases q:(kvs.find? fun kv=>decide (kv.1=k)) with
 | some y=>exact ⟨_,rfl⟩
 | none=>exact absurd (decide_eq_true e) (List.find?_eq_none.mp q x hx)
theorem wJ.none{CT CC:Addr}{H:Hp}{ns:List Str}{rs:List Int}{d:Addr}{kvs:List (gf × V)}{z:Str}(h:kvs.map (·.1)=ns.map Sum.inr)(hz:z∉ns):fQ kvs (.inr z)=none :=
 G8 fun m=>by
  rw [h] at m
  obtain ⟨y,hy,e⟩:=List.mem_map.mp m
  injection e with e
  exact hz (e ▸ hy)
theorem wJ.some{kvs:List (gf × V)}{ns:List Str}{z:Str}(h:kvs.map (·.1)=ns.map Sum.inr)(hz:z∈ns):∃ v,fQ kvs (.inr z)=some v:=Qe (by rw [h];exact List.mem_map.mpr ⟨z,hz,rfl⟩)
noncomputable def Dd.at_(ns:List Str):Dd->Prop
 | .beg=>True
 | .sav _ _=>True
 | .crt z _ _=>z∉ns
 | .ins _ _=>("a":Str)∈ns
 | .sel _ _=>("a":Str)∈ns
 | .mis z _=>z∉ns
theorem Gm:∀ (cols:List Uh) (zs:List Str) {cs ys:List V},Paired At cols cs->Paired (fun v u=>∀ c,At c v->∃ t2,u=.ref t2/\H t2=some (.tup [c.1,.int (c.2.1:Int)])) cs ys->cols.map (·.1)=zs.map V.str->Paired (Z3 H) zs ys
 | [],[],_,_,.nil,.nil,_=>.nil
 | c::cols,z::zs,_,_,.cons h t,.cons h2 t2,e=>by
  rw [List.map_cons,List.map_cons] at e
  injection e with e1 e2
  obtain ⟨t3,e3,g3⟩:=h2 c h
  rw [e1] at g3
  exact .cons ⟨t3,_,e3,g3⟩ (Gm cols zs t t2 e2)
 | [],_::_,_,_,_,_,e=>nomatch e
 | _::_,[],_,_,_,_,e=>nomatch e
section
variable{P:Program}{w:World}{K:PySem.W.Frag}{mg:Str->Option Value}{base:Heap}
noncomputable def J7(CS CT CC:Addr):Sp:=fun vs H Q _=>∃ (y d:Addr) (H0:Hp) (sm:ut) (ns:List Str) (rs:List Int) (z:Str) (n:Nat) (zs:List Str),vs=[.ref y,.ref d]/\fj CS H0 H sm (.ref y)/\(Dd.crt z n zs).says sm/\wJ CT CC H ns rs d/\z∉ns /\
 ∀ r H',aR H H'->H' r=some (.lst [])->Q (.ref r) H'
theorem iw:aG ["statement","state","name","there"] ["statement","state"] (az jc):=d9
theorem NT{f CT CC CS fS:Addr}{fd:FuncData}(F:dq K "find_made_twice" "find_made_twice" jc f fd)(TS:yc K mg CS fS)(GR:eZ P w K mg base 1 "tell_repeated" ["named"] yI):bf P w K mg base cX 2 f fd ["statement","state"] (J7 CS CT CC):=by
 obtain ⟨fR,fdR,mR,kR,GR,bR⟩:=GR.ex
 refine F.oq iw ?_
 rintro _ A _ s H _ Q _ hr ⟨y,d,H0,sm,ns,rs,z,n,zs,rfl,hS,⟨_,htg,hcs,hnd,hzl,_⟩,⟨kvs,hd,hk,_⟩,hz,q⟩
 obtain ⟨y',ta,co,ex,ch,wh,od,e,⟨_,dy,hy⟩,hT,hco,_⟩:=hS
 cases e
 rw [htg] at hT
 obtain ⟨t,rfl,ht⟩:=hT
 obtain ⟨pl,cs,rfl,_,hpl,hp⟩:=hco
 have hu:=ql hr
 refine ⟨_,ak (bc (i:=2) iw.nd rfl (Or.inl rfl) (cA cj (aY (pv 0) rfl) aF (fun _ _=>rfl)))
  (ak (bc (i:=3) iw.nd rfl (Or.inl rfl) (ig (eV (Q7 hu (pv 2) (pv 1))) oM (eO ao)))
  (aq (aQ (cD vJ (pv 3) (aJ GR hr (by rfl) mR kR bR .nil aM (aa (jg (te:=vA (aW (jj (Iz K) (cP 0) (tC (.int 0))) (aW (jj (Iz K) (cP 0) (tC (.int 1))) cW))) (x := "column") (fv:=[]) (js:=[]) (cl:=[]) rfl
   ⟨by with_unfolding_all rfl,rfl,dk,dk,rfl,dk,trivial,by exact ⟨fun z=>(jx (.inl rfl) z).elim,fun z=>(jx (.inl rfl) z).elim,trivial⟩,trivial,fun _=>rfl⟩
   (gB (aY (pv 0) rfl)) (fun pins fp s H=>by exact b8 (aa (cA cj (pv 0) aF (fun _ _=>rfl)) (aa (cA cj (pv 0) aF (fun _ _=>rfl)) ao)))) ao)))))),?_⟩
 try dsimp only [bU]
 refine ⟨_,rfl,y,CS,dy,_,_,rfl,hy,TS.cl,TS.nTa,rfl,t,_,0,_,rfl,rfl,cZ.of ht,rfl,?_⟩
 refine ⟨_,rfl,_,rfl,d,_,rfl,oE.k (k:=Sum.inr z) hd,_,rfl,?_⟩
 rw [wJ.none (H:=H) (d:=d) (CT:=CT) (CC:=CC) (rs:=rs) hk hz]
 refine cJ (A:=True) ⟨Nat.zero_le _,fun l0 hl0=>?_⟩
 have s1:=au (o:=.lst []) hl0
 refine ⟨_,rfl,_,rfl,y,CS,dy,_,_,rfl,s1 _ _ hy,TS.cl,TS.nCo,rfl,pl,rfl,⟨_,c7.of (s1 _ _ hpl)⟩,fun D hD=>?_⟩
 have lc:sm.cols.length=zs.length:=by have:=congrArg List.length hcs;rwa [List.length_map,List.length_map] at this
 have lr:=hp.length
 refine yj cs _ (fun H' v u=>∀ c,wk H0 H c v->∃ t2,u=.ref t2/\H' t2=some (.tup [c.1,.int (c.2.1:Int)])) (Nat.le_trans (show cs.length<=1000 by omega) (by decide)) hD (fun _ _ _ _ k z c hc=>?_) (Rv (s1 _ _ hpl)) (tQ (s1 _ _ hpl)) (zK (s1 _ _ hpl)) ?_ ?_
 .obtain ⟨a,e,g⟩:=z c hc
  exact ⟨a,e,k _ _ g (fun ys z=>nomatch z)⟩
 .rintro a v Hc H' k ha s2 ⟨rfl,rfl⟩ kk
  obtain ⟨c,_,t2,rfl,ht2⟩:=iC hp ha
  have g2:=s2 _ _ (s1 _ _ ht2)
  refine ⟨_,rfl,t2,_,0,_,rfl,rfl,cZ.of g2,rfl,_,rfl,t2,_,1,_,rfl,rfl,cZ.of g2,rfl,zF,fun t3 ht3=>kk _ _ (au ht3) fun c2 hc2=>?_⟩
  obtain ⟨t4,e4,g4⟩:=hc2
  cases e4
  rw [ht2] at g4
  injection g4 with g4
  injection g4 with g4
  simp only [List.cons.injEq,V.int.injEq,and_true] at g4
  refine ⟨t3,rfl,?_⟩
  rw [aj,<- g4.1,<- g4.2.1]
 .intro ys Hc s2 hl2 pp
  refine ⟨D,ys,zs,rfl,hl2,?_,hnd,hzl,fun r H3 s3 hr3=>?_⟩
  .exact Gm sm.cols zs hp pp hcs
  .refine ⟨l0,r,[],[],rfl,rfl,s3 _ _ (s2 _ _ aj),hr3,Nat.zero_le _,fun p hp3=>?_⟩
   exact q p _ (s1.trans (s2.trans (s3.trans (au hp3)))) aj
noncomputable def Le(CS:Addr):Sp:=fun vs H Q _=>∃ (y:Addr) (H0:Hp) (sm:ut),vs=[.ref y]/\fj CS H0 H sm (.ref y)/\Ay sm/\(sm.exprs.getD []).length<=1000 /\
 ∀ l xs H',H l=none->aR H H'->H' l=some (.lst xs)->Paired (qt H0 H) (sm.exprs.getD []) xs->Q (.ref l) H'
theorem jO:aG ["statement","expressions"] ["statement"] (az iD):=d9
theorem O9(F:dq K "list_expressions" "list_expressions" iD f fd)(TS:yc K mg CS fS):bf P w K mg base cX 1 f fd ["statement"] (Le CS):=by
 refine F.oq jO ?_
 rintro _ A _ s H _ Q _ hr ⟨y,H0,sm,rfl,hS,hP,hn,q⟩
 obtain ⟨y',ta,co,ex,ch,wh,od,e,⟨_,dy,hy⟩,_,_,he,hch,hwh,_⟩:=hS
 cases e
 rw [hP.ch] at hch
 obtain ⟨pc,cs,rfl,_,hpc,hpp⟩:=hch
 cases hpp
 rw [hP.wh] at hwh
 cases (show wh=.non from hwh)
 refine ⟨_,ak (uD (i:=1) (g:=fun _ _ _ _=>False) (xs:=["name","place","expression"]) (fv:=[]) (js:=[]) (cl:=[]) rfl
   ⟨by with_unfolding_all rfl,rfl,dk,dk,trivial,by exact ⟨fun z=>(jx (.inl rfl) z).elim,fun z=>(jx (.inl rfl) z).elim,fun z=>(jx (.inl rfl) z).elim,fun z=>(jx (.inl rfl) z).elim,trivial⟩,trivial,fun _=>rfl⟩
   jO.nd rfl rfl (by rfl) (gB (aY (pv 0) rfl)) (fun pins fp s H=>by unfold PG;intros;contradiction) (fun pins fp s H=>u9) (fun pins fp s H=>oM))
  (ak (bu (eV (jw (aY (pv 0) rfl))) (aq (bz (lB PySem.F.plainAttrs_list PySem.F.slot_list_extend PySem.F.type_list_extend vU (pv 1) (aa (aY (pv 0) rfl) ao)))) aU)
  (ak (bu (eV (jw (aY (pv 0) rfl))) aV aU)
  (aq (aQ (pv 1))))),?_⟩
 try dsimp only [bU]
 refine ⟨_,rfl,y,CS,dy,_,_,rfl,hy,TS.cl,TS.nCh,rfl,pc,rfl,⟨_,c7.of hpc⟩,fun D hD=>?_⟩
 refine tX ([]:List V) _ (fun _=>true) (fun _ _ _=>True) (Nat.zero_le _) hD (fun _ _ _ _ _ z=>z) (Rv hpc) (tQ hpc) (zK hpc) (fun a _ _ _ _ _ ha=>nomatch ha) ?_
 intro ys Hc s1 hl2 pp
 cases pp
 have hy1:=s1 _ _ hy
 refine ⟨_,rfl,y,CS,dy,_,_,rfl,hy1,TS.cl,TS.nEx,rfl,_,rfl,?_⟩
 cases hx:sm.exprs with
 | none =>
  rw [hx] at he
  cases (show ex=.non from he)
  refine cJ (A:=True) ⟨_,rfl,y,CS,dy,_,_,rfl,hy1,TS.cl,TS.nWh,rfl,_,rfl,cJ (A:=True) ⟨_,rfl,q D [] Hc hD s1 hl2 ?_⟩⟩
  rw [hx];exact .nil
 | some es =>
  rw [hx] at he hn
  obtain ⟨pl,xs,rfl,_,hpl,hp⟩:=he
  have lp:=hp.length
  refine eG (B:=True) ⟨_,rfl,W0 hl2,_,rfl,y,CS,dy,_,_,rfl,hy1,TS.cl,TS.nEx,rfl,D,pl,[],xs,rfl,rfl,hl2,s1 _ _ hpl,?_,?_⟩
  .exact Nat.le_trans (show 0+xs.length<=1000 by rw [Nat.zero_add,<- lp];exact hn) (by decide)
  .have s2:aR H (bQ Hc D (.lst ([]++xs))):=fun b o e=>by
    rw [aA (aO e hD)];exact s1 _ _ e
   refine ⟨_,rfl,y,CS,dy,_,_,rfl,s2 _ _ hy,TS.cl,TS.nWh,rfl,_,rfl,cJ (A:=True) ⟨_,rfl,q D xs _ hD s2 aj ?_⟩⟩
   rw [hx];exact hp
end
noncomputable def Wu(H:Hp)(v:V):Prop:=∃ t n,v=.ref t/\H t=some (.tup [.str "x",.int n])
theorem Wu.keep(k:Cz H H')(h:Wu H v):Wu H' v:=let ⟨t,n,e,g⟩:=h;⟨t,n,e,k _ _ g (fun ys z=>nomatch z)⟩
noncomputable def Vv(b:Bool)(es:List (List Ao)):Prop:=if b=true then ∃ ps:List Int,es=ps.map Hr else ∃ vals:List (Option Int),es=vals.map zX
section
variable{P:Program}{w:World}{K:PySem.W.Frag}{mg:Str->Option Value}{base:Heap}
noncomputable def Lr(CS:Addr):Sp:=fun vs H Q _=>∃ (y:Addr) (H0:Hp) (sm:ut) (b:Bool),vs=[.ref y]/\fj CS H0 H sm (.ref y)/\Ay sm/\(sm.exprs.getD []).length<=1000/\Vv b (sm.exprs.getD []) /\
 ∀ l xs H',aR H H'->H' l=some (.lst xs)->xs.length<=(sm.exprs.getD []).length->(∀ x∈xs,Wu H' x)->(b=false->xs=[])->Q (.ref l) H'
theorem jK:aG ["statement","named","expression"] ["statement"] (az lC):=d9
theorem Rh(F:dq K "list_columns" "list_columns" lC f fd)(TS:yc K mg CS fS)(T:HN K mg CT CC)(GE:eZ P w K mg base 1 "list_expressions" ["statement"] (Le CS)):bf P w K mg base cX 2 f fd ["statement"] (Lr CS):=by
 obtain ⟨fE,fdE,mE,kE,GE,bE⟩:=GE.ex
 obtain ⟨tC',mC⟩:=T.co
 refine F.oq jK ?_
 rintro _ _ _ s H _ Q _ hr ⟨y,H0,sm,b,rfl,hS,hP,hn,hO,q⟩
 obtain ⟨y',ta,co,ex,ch,wh,od,e,⟨z0,dy,hy⟩,z1,z2,z3,z4,z5,hod⟩:=id hS
 cases e
 rw [hP.od] at hod
 cases (show od=.non from hod)
 have nd3:(["kind","value","place"]:List Str).Nodup:=dk
 refine ⟨_,ak (bc (i:=1) jK.nd rfl (Or.inl rfl) (ig (eV (lK (aY (pv 0) rfl))) (eO ao) oM))
  (ak (jn PassesOwn.never rfl (gB (aJ GE hr (by rfl) mE kE bE .nil aM (aa (pv 0) ao))) (cz (i:=2) jK.nd rfl (Or.inl rfl))
   (aq (bz (lB PySem.F.plainAttrs_list PySem.F.slot_list_extend PySem.F.type_list_extend vU (pv 1) (aa (qY (g:=Il K 3 (jC (dJ 0) (jC (dJ 1) (jC (dJ 2) Jp)))) (xs:=["kind","value","place"]) (fv:=[]) (js:=[]) (cl:=[]) rfl
    ⟨by with_unfolding_all rfl,rfl,dk,dk,trivial,by exact ⟨fun z=>(jx (.inl rfl) z).elim,fun z=>(jx (.inl rfl) z).elim,fun z=>(jx (.inl rfl) z).elim,fun z=>(jx (.inl rfl) z).elim,fun z=>(jx (.inr rfl) z).elim,trivial⟩,trivial,fun _=>rfl⟩
    (gB (pv 2)) (fun pins fp s H=>by exact nY rfl (cR (cz (i:=0) nd3 rfl (Or.inl rfl)) (cR (cz (i:=1) nd3 rfl (Or.inl rfl)) (cR (cz (i:=2) nd3 rfl (Or.inl rfl)) jy))))
    (fun pins fp s H=>qK (aZ dG (pv 0) (aN (by rfl) mC (v:=.str "column") ⟨_,rfl⟩) (bh _))) (fun pins fp s H=>b8 (aa (pv 1) (aa (pv 2) ao)))) ao)))))
  (aq (aQ (pv 1)))),?_⟩
 try dsimp only [bU]
 refine ⟨_,rfl,y,CS,dy,_,_,rfl,hy,TS.cl,TS.nOd,rfl,_,rfl,eG (B:=True) ⟨Nat.zero_le _,fun pn hpn=>?_⟩⟩
 have s0:=au (o:=.lst []) hpn
 refine ⟨_,rfl,y,H0,sm,rfl,hS.keep s0,hP,hn,fun l1 es H1 nl1 s1 hl1 hp1=>⟨l1,rfl,⟨_,c7.of hl1⟩,?_⟩⟩
 have ll:=hp1.length
 have hpn1:H1 pn=some (.lst []):=s1 _ _ aj
 have hne:pn≠l1:=fun z=>by rw [<- z,aj] at nl1;cases nl1
 refine xK (xs:=es) (fun i σ H5=>∃ (x2:Option V) (ns:List V),σ=[some (.ref y),some (.ref pn),x2]/\cg [pn] H1 H5/\H5 pn=some (.lst ns)/\ns.length<=i/\(∀ x∈ns,Wu H5 x)/\(b=false->ns=[]))
  ⟨none,[],rfl,cg.refl H1,hpn1,Nat.le_refl _,(fun _ z=>nomatch z),fun _=>rfl⟩ ?_ ?_ ?_
 .rintro i σ H5 hi ⟨x2,ns,rfl,a1,_⟩
  exact c7.of (a1 _ _ hl1 (by simpa using Ne.symm hne))
 .rintro i x σ H5 hx ⟨x2,ns,rfl,a1,a2,a3,a4,a5⟩
  have hi:i<es.length:=(List.getElem?_eq_some_iff.mp hx).1
  obtain ⟨ss,hss,st,ys,rfl,_,hst,hsts⟩:=vC hp1 hx
  have hmem:ss∈sm.exprs.getD []:=List.mem_of_getElem? hss
  obtain ⟨z,u,p,rfl,hzu⟩:∃ z u p,ss=[(z,u,p)]/\((b=false/\z="value")\/(z="column"/\u=.str "x"/\b=true)):=by
   unfold Vv at hO
   cases b with
   | true =>
    rw [if_pos rfl] at hO
    obtain ⟨ps,e⟩:=hO
    rw [e] at hmem
    obtain ⟨p,_,rfl⟩:=List.mem_map.mp hmem
    exact ⟨_,_,_,rfl,.inr ⟨rfl,rfl,rfl⟩⟩
   | false =>
    rw [if_neg (by decide)] at hO
    obtain ⟨vals,e⟩:=hO
    rw [e] at hmem
    obtain ⟨p,_,rfl⟩:=List.mem_map.mp hmem
    exact ⟨_,_,_,rfl,.inl ⟨rfl,rfl⟩⟩
  cases hsts with
  | cons h1 h2 =>
  cases h2
  obtain ⟨t,rfl,ht⟩:=h1
  have nst:st≠pn:=fun z=>by rw [z,aj] at hst;cases hst
  have ntp:t≠pn:=fun z=>by rw [z,aj] at ht;cases ht
  have hst5:H5 st=some (.lst [.ref t]):=a1 _ _ (s1 _ _ hst) (by simpa using nst)
  have ht5:H5 t=some (.tup [.str z,u,.int p]):=a1 _ _ (s1 _ _ ht) (by simpa using ntp)
  refine ⟨_,rfl,W0 a2,_,rfl,st,rfl,⟨_,c7.of hst5⟩,fun D hD=>?_⟩
  refine tX [V.ref t] _ (fun _=>decide (V.str z=.str "column")) (fun H _ y=>∃ t2,y=.ref t2/\H t2=some (.tup [u,.int p])) xZ hD (fun _ _ _ _ k z=>?_) (Rv hst5) (tQ hst5) (zK hst5) ?_ ?_
  .obtain ⟨u,e,g⟩:=z
   exact ⟨u,e,k _ _ g (fun ys z=>nomatch z)⟩
  .rintro a v Hc H' k1 k2 ha s6 ⟨rfl,rfl⟩ kk1 kk2
   cases List.mem_singleton.mp ha
   refine ⟨t,_,rfl,cZ.of (s6 _ _ ht5),rfl,_,_,rfl,_,_,rfl,_,_,rfl,rfl,⟨rfl,fun k v e=>?_⟩,?_⟩
   .match k,e with
    | 3,e=>cases e
   .refine ⟨_,rfl,rfl,_,rfl,vq (fun hc=>?_) (fun hc=>kk2 (Bool.eq_false_iff.mpr hc) _ (fun _ _ e=>e))⟩
    exact ⟨_,rfl,_,rfl,zF,fun t2 ht2=>kk1 hc _ _ (au ht2) ⟨t2,rfl,aj⟩⟩
  .intro ys Hc s6 hl6 pp
   have hpn6:=s6 _ _ a2
   have nDp:pn≠D:=fun z=>by rw [z,hD] at a2;cases a2
   have key:ys.length<=1/\(∀ x∈ys,Wu Hc x)/\(b=false->ys=[]):=by
    rcases hzu with ⟨rfl,rfl⟩ | ⟨rfl,rfl,rfl⟩
    .cases (show Paired _ ([]:List V) ys from pp)
     exact ⟨Nat.zero_le _,(fun _ z=>nomatch z),fun _=>rfl⟩
    .cases (show Paired _ [V.ref t] ys from pp) with
     | cons g1 g2 =>
      cases g2
      obtain ⟨t2,rfl,g⟩:=g1
      exact ⟨Nat.le_refl _,(fun x hx=>by cases List.mem_singleton.mp hx;exact ⟨t2,p,rfl,g⟩),fun z=>nomatch z⟩
   obtain ⟨k1,k2,k3⟩:=key
   refine ⟨pn,D,ns,ys,rfl,rfl,hpn6,hl6,Nat.le_trans (show ns.length+ys.length<=1002 by omega) (by decide),?_⟩
   have kp:=qQ (zs:=ns++ys) hpn6
   refine ⟨_,ns++ys,rfl,fun b o e nb=>?_,aj,by rw [List.length_append];omega,fun x hx=>?_,fun hb=>by rw [a5 hb,k3 hb];rfl⟩
   .rw [aA (by simpa using nb)]
    exact s6 _ _ (a1 _ _ e nb)
   .rcases List.mem_append.mp hx with hx | hx
    .exact (a4 x hx).keep (s6.keep.trans kp)
    .exact (k2 x hx).keep kp
 .rintro σ H5 ⟨x2,ns,rfl,a1,a2,a3,a4,a5⟩
  refine ⟨_,rfl,q pn ns H5 (fun b o e=>a1 _ _ (s1 _ _ (s0 _ _ e)) ?_) a2 (by omega) a4 a5⟩
  intro m
  rw [List.mem_singleton.mp m,hpn] at e
  cases e
end
noncomputable def rK(H':Hp)(ys:List V):Dd->Prop
 | .mis _ n=>∃ u,ys=[.ref u]/\H' u=some (.tup [.int n,.str "name"])
 | _=>ys=[]
theorem Ss(R:VK)(h2:∀ v H',R v H'->Q v H')(h1:(∀ v H',R v H'->Q v H')->Wv c ta tb σ H Q):Wv c ta tb σ H Q:=h1 h2
section
variable{P:Program}{w:World}{K:PySem.W.Frag}{mg:Str->Option Value}{base:Heap}
noncomputable def Lf(CS CT CC:Addr):Sp:=fun vs H Q _=>∃ (y d:Addr) (mv:V) (H0:Hp) (sm:ut) (ns:List Str) (rs:List Int) (dd:Dd),vs=[.ref y,.ref d,mv]/\fj CS H0 H sm (.ref y)/\Ay sm/\dd.says sm/\wJ CT CC H ns rs d/\dd.at_ ns /\
 ∀ r ys H',aR H H'->H' r=some (.lst ys)->rK H' ys dd->Q (.ref r) H'
theorem Pu(F:dq K "find_wrong_names" "find_wrong_names" iu f fd)(J:Ui K mg)(TS:yc K mg CS fS)(T:HN K mg CT CC)(G2:eZ P w K mg base 2 "find_made_twice" ["statement","state"] (J7 CS CT CC))
  (GD:eZ P w K mg base 1 "tell_missing" ["named","known"] K9) (GL:eZ P w K mg base 1 "tell_missing" ["named","known"] Ke) (GC:eZ P w K mg base 2 "list_columns" ["statement"] (Lr CS)) (GR:eZ P w K mg base 1 "tell_repeated" ["named"] yI) :
  bf P w K mg base cX 3 f fd ["statement","state","marks"] (Lf CS CT CC):=by
 obtain ⟨f2,fd2,m2,k2,G2,b2⟩:=G2.ex
 obtain ⟨fD,fdD,mD,kD,GD,bD⟩:=GD.ex
 obtain ⟨fL,fdL,mL,kL,GL,bL⟩:=GL.ex
 obtain ⟨fC,fdC,mC,kC,GC,bC⟩:=GC.ex
 obtain ⟨fR,fdR,mR,kR,GR,bR⟩:=GR.ex
 obtain ⟨t1,mc⟩:=J.create
 obtain ⟨t2,mt⟩:=J.rollbackTo
 obtain ⟨t3,ms⟩:=J.savepoint
 obtain ⟨t4,mi⟩:=J.insert
 refine F.oq eF ?_
 rintro _ A _ s H _ Q _ hr ⟨y,d,mv,H0,sm,ns,rs,dd,rfl,hS,hP,hw,hA,hat,q⟩
 obtain ⟨y',ta,co,ex,ch,wh,od,e,⟨_,dy,hy⟩,hT,_,_,hch,_⟩:=id hS
 cases e
 rw [hP.ch] at hch
 obtain ⟨pc,cs,rfl,_,hpc,hpp⟩:=hch
 cases hpp
 have hu:=ql hr
 have r1:cO 1 _:=hr.mono (by omega)
 refine ⟨_,ak (bc (i:=3) eF.nd rfl (Or.inl rfl) (aY (pv 0) rfl))
  (ak (bu (aZ dG (pv 3) (aN (by rfl) mc (v:=.str "create table") ⟨_,rfl⟩) (bh _)) (aq (aQ (aJ G2 hr (by rfl) m2 k2 b2 .nil aM (aa (pv 0) (aa (pv 1) ao))))) aU)
  (ak (bu (aZ dG (pv 3) (aN (by rfl) mt (v:=.str "rollback to") ⟨_,rfl⟩) (bh _)) aV aU)
  (ak (bu (lZ (aZ dG (pv 3) (aN (by rfl) ms (v:=.str "savepoint") ⟨_,rfl⟩) (bh _)) (pB (eV (lK (aY (pv 0) rfl))))).pt (aq (aQ (eO ao))) aU)
  (ak (bc (i:=4) eF.nd rfl (Or.inl rfl) (aJ GD r1 (by rfl) mD kD bD .nil aM (aa (eO (aa (aY (pv 0) rfl) ao)) (aa (pv 1) ao))))
  (ak (bu (aZ yl (bw bx (by rfl) J.len PySem.boot_len (aa (pv 4) ao)) aF (bh _)) (aq (aQ (pv 4))) aU)
  (ak (bc (i:=5) eF.nd rfl (Or.inl rfl) (ig (aZ dG (pv 3) (aN (by rfl) mi (v:=.str "insert") ⟨_,rfl⟩) (bh _)) (eO ao) (jg (te:=QL K (cP 0) "name") (x := "column") (fv:=[]) (js:=[]) (cl:=[]) rfl
   ⟨by with_unfolding_all rfl,rfl,dk,dk,rfl,dk,trivial,by exact ⟨fun z=>(jx (.inl rfl) z).elim,fun z=>(jx (.inl rfl) z).elim,trivial⟩,trivial,fun _=>rfl⟩
   (yq (aY (rY hu (pv 1) (cA cj (aY (pv 0) rfl) aF (fun _ _=>rfl)) (fun _ _=>rfl)) rfl)) (fun pins fp s H=>by exact aY (pv 0) rfl))))
  (ak (uD (i:=6) (g:=fun _ _ _ _=>False) (xs:=["name","place","expression"]) (fv:=[]) (js:=[]) (cl:=[]) rfl
   ⟨by with_unfolding_all rfl,rfl,dk,dk,trivial,by exact ⟨fun z=>(jx (.inl rfl) z).elim,fun z=>(jx (.inl rfl) z).elim,fun z=>(jx (.inl rfl) z).elim,fun z=>(jx (.inl rfl) z).elim,trivial⟩,trivial,fun _=>rfl⟩
   eF.nd rfl rfl (by rfl) (gB (aY (pv 0) rfl)) (fun pins fp s H=>by unfold PG;intros;contradiction) (fun pins fp s H=>u9) (fun pins fp s H=>oM))
  (aq (aQ (cD vJ (aJ GL r1 (by rfl) mL kL bL .nil aM (aa (cD vJ (pv 6) (aJ GC hr (by rfl) mC kC bC .nil aM (aa (pv 0) ao))) (aa (pv 5) ao))) (aJ GR r1 (by rfl) mR kR bR .nil aM (aa (pv 6) ao)))))))))))),?_⟩
 try dsimp only [bU]
 have cls:(sm.kind="begin"/\sm.target=none/\∀ H' ys,ys=[]->rK H' ys dd)\/(sm.kind="savepoint"/\∀ H' ys,ys=[]->rK H' ys dd)\/(sm.kind="create table"/\(∃ z n zs,(Dd.crt z n zs).says sm/\z∉ns)/\∀ H' ys,ys=[]->rK H' ys dd) \/
   ∃ (z:Str) (n:Nat),(sm.kind="insert"\/sm.kind="select")/\sm.target=some (.str z,n)/\((z∉ns/\dd=.mis z n)\/(z∈ns/\z="a"/\(∀ H' ys,ys=[]->rK H' ys dd)/\(sm.exprs.getD []).length<=1000/\Vv (decide (sm.kind="select")) (sm.exprs.getD []))):=by
  cases dd with
  | beg=>exact .inl ⟨hw.1,hw.2.1,fun _ _ e=>e⟩
  | sav z n=>exact .inr (.inl ⟨hw.1,fun _ _ e=>e⟩)
  | crt z n zs=>exact .inr (.inr (.inl ⟨hw.1,⟨z,n,zs,hw,hat⟩,fun _ _ e=>e⟩))
  | ins n vals =>
   refine .inr (.inr (.inr ⟨"a",n,.inl hw.1,hw.2.1,.inr ⟨hat,rfl,fun _ _ e=>e,?_,?_⟩⟩))
   .rw [hw.2.2.1];show (vals.map zX).length<=1000;rw [List.length_map];exact hw.2.2.2
   .rw [hw.2.2.1,hw.1];exact ⟨vals,rfl⟩
  | sel n o =>
   refine .inr (.inr (.inr ⟨"a",n,.inr hw.1,hw.2.1,.inr ⟨hat,rfl,fun _ _ e=>e,?_,?_⟩⟩))
   .rw [hw.2.2.1]
    cases o with
    | none=>exact Nat.zero_le _
    | some ps=>show (ps.map Hr).length<=1000;rw [List.length_map];exact hw.2.2.2
   .rw [hw.2.2.1,hw.1]
    cases o with
    | none=>exact ⟨[],rfl⟩
    | some ps=>exact ⟨ps,rfl⟩
  | mis z n=>exact .inr (.inr (.inr ⟨z,n,.inr hw.1,hw.2,.inl ⟨hat,rfl⟩⟩))
 rcases cls with ⟨hk,htg,hout⟩ | ⟨hk,hout⟩ | ⟨hk,⟨z,n,zs,hcr,hz⟩,hout⟩ | ⟨z,n,hk,htg,hcase⟩
 .rw [hk] at hy
  rw [htg] at hT
  cases (show ta=.non from hT)
  refine ⟨_,rfl,y,CS,dy,_,_,rfl,hy,TS.cl,TS.nKi,rfl,?_⟩
  refine ⟨_,rfl,rfl,_,rfl,di dk ?_⟩
  refine ⟨_,rfl,rfl,_,rfl,di dk ?_⟩
  refine ⟨_,rfl,rfl,_,rfl,di dk ⟨_,rfl,y,CS,dy,_,_,rfl,hy,TS.cl,TS.nTa,rfl,_,rfl,eG (B:=True) ?_⟩⟩
  exact ⟨Nat.zero_le _,fun l hl=>q l [] _ (au hl) aj (hout _ _ rfl)⟩
 .rw [hk] at hy
  refine ⟨_,rfl,y,CS,dy,_,_,rfl,hy,TS.cl,TS.nKi,rfl,?_⟩
  refine ⟨_,rfl,rfl,_,rfl,di dk ?_⟩
  refine ⟨_,rfl,rfl,_,rfl,di dk ?_⟩
  refine ⟨_,rfl,rfl,_,rfl,jt dk (eG (B:=True) ?_)⟩
  exact ⟨Nat.zero_le _,fun l hl=>q l [] _ (au hl) aj (hout _ _ rfl)⟩
 .rw [hk] at hy
  refine ⟨_,rfl,y,CS,dy,_,_,rfl,hy,TS.cl,TS.nKi,rfl,?_⟩
  refine ⟨_,rfl,rfl,_,rfl,jt dk ?_⟩
  exact ⟨_,rfl,_,rfl,y,d,H0,sm,ns,rs,z,n,zs,rfl,hS,hcr,hA,hz,fun r H' s1 hr1=>q r [] H' s1 hr1 (hout _ _ rfl)⟩
 .rw [htg] at hT
  obtain ⟨t,rfl,ht⟩:=hT
  obtain ⟨kvs,hd,hkk,hrow⟩:=hA
  have n1:decide (V.str sm.kind=.str "create table")=false:=by rcases hk with e | e <;> (rw [e];decide +kernel)
  have n2:decide (V.str sm.kind=.str "rollback to")=false:=by rcases hk with e | e <;> (rw [e];decide +kernel)
  have n3:decide (V.str sm.kind=.str "savepoint")=false:=by rcases hk with e | e <;> (rw [e];decide +kernel)
  refine ⟨_,rfl,y,CS,dy,_,_,rfl,hy,TS.cl,TS.nKi,rfl,?_⟩
  refine ⟨_,rfl,rfl,_,rfl,di n1 ?_⟩
  refine ⟨_,rfl,rfl,_,rfl,di n2 ?_⟩
  refine ⟨_,rfl,rfl,_,rfl,di n3 ⟨_,rfl,y,CS,dy,_,_,rfl,hy,TS.cl,TS.nTa,rfl,_,rfl,cJ (A:=True) ?_⟩⟩
  refine ⟨_,rfl,y,CS,dy,_,_,rfl,hy,TS.cl,TS.nTa,rfl,xZ,fun l hl=>?_⟩
  have s1:=au (o:=.lst [.ref t]) hl
  refine ⟨_,rfl,l,t,d,z,(n:Int),kvs,rfl,aj,s1 _ _ ht,s1 _ _ hd,fun r ys H2 s2 hr2 hys=>?_⟩
  have s12:=s1.trans s2
  refine ⟨_,rfl,r,_,rfl,.inl (c7.of hr2),_,_,rfl,rfl,_,rfl,?_⟩
  rcases hcase with ⟨hz,rfl⟩ | ⟨hz,rfl,hout,hle,hon⟩
  .have hv:=wJ.none (H:=H) (d:=d) (CT:=CT) (CC:=CC) (rs:=rs) hkk hz
   rcases hys with ⟨h,_⟩ | ⟨_,u,rfl,hu⟩
   .exact absurd hv h
   .exact eG (B:=True) ⟨_,rfl,q r _ H2 s12 hr2 ⟨u,rfl,hu⟩⟩
  .obtain ⟨tv,hv⟩:=wJ.some hkk hz
   have hys':ys=[]:=by
    rcases hys with ⟨_,e⟩ | ⟨h,_⟩
    .exact e
    .rw [h] at hv;cases hv
   subst hys'
   have hTab:=(hrow tv hv).same s12
   have hy2:=s12 _ _ hy
   have ht2:=s12 _ _ ht
   have hd2:=s12 _ _ hd
   have hpc2:=s12 _ _ hpc
   refine cJ (A:=True) ?_
   dsimp only [tG,jV,oF]
   refine Ss (fun v H3=>∃ (l5:Addr) (zs:List Str),v=.ref l5/\aR H2 H3/\H3 l5=some (.lst (zs.map V.str))/\(decide (sm.kind="select")=true->zs=[Str.ofString "x"])) ?_ ?_
   .rintro v H3 ⟨l5,zs,rfl,s3,hl5,hzs⟩
    refine ⟨_,rfl,y,CS,dy,_,_,rfl,s3 _ _ hy2,TS.cl,TS.nCh,rfl,pc,rfl,⟨_,c7.of (s3 _ _ hpc2)⟩,fun D hD=>?_⟩
    refine tX ([]:List V) _ (fun _=>true) (fun _ _ _=>True) (Nat.zero_le _) hD (fun _ _ _ _ _ z=>z) (Rv (s3 _ _ hpc2)) (tQ (s3 _ _ hpc2)) (zK (s3 _ _ hpc2)) (fun a _ _ _ _ _ ha=>nomatch ha) ?_
    intro ys H4 s4 hl4 pp
    cases pp
    have s14:=s12.trans (s3.trans s4)
    refine ⟨_,rfl,_,rfl,y,H0,sm,_,rfl,hS.keep s14,hP,hle,hon,fun l6 xs H5 s5 hl6 hxl hxs hxe=>?_⟩
    refine ⟨D,l6,[],xs,rfl,rfl,s5 _ _ hl4,hl6,Nat.le_trans (show 0+xs.length<=1000 by omega) (by decide),fun l7 hl7=>?_⟩
    have s6:=au (o:=.lst ([]++xs)) hl7
    refine ⟨_,rfl,l7,l5,[]++xs,zs,rfl,aj,fun x hx=>?_,s6 _ _ (s5 _ _ (s4 _ _ hl5)),by show xs.length<=1000;omega,fun r8 H8 s8 hr8=>?_⟩
    .cases hb:decide (sm.kind="select") with
     | false=>rw [hxe hb] at hx;cases hx
     | true =>
      obtain ⟨t6,n6,rfl,g6⟩:=hxs x hx
      exact ⟨t6,_,n6,rfl,s6 _ _ g6,by rw [hzs hb];exact .head _⟩
    .refine ⟨_,rfl,D,[],[],rfl,s8 _ _ (s6 _ _ (s5 _ _ hl4)),.nil,List.nodup_nil,Nat.zero_le _,fun r9 H9 s9 hr9=>?_⟩
     refine ⟨r8,r9,[],[],rfl,rfl,s9 _ _ hr8,hr9,Nat.zero_le _,fun p hp=>?_⟩
     exact q p [] _ (s14.trans (s5.trans (s6.trans (s8.trans (s9.trans (au hp)))))) aj (hout _ _ rfl)
   .intro key
    refine ⟨_,rfl,rfl,_,rfl,vq (fun hc=>⟨Nat.zero_le _,fun l5 hl5=>key _ _ ⟨l5,[],rfl,au hl5,aj,fun hb=>?_⟩⟩) (fun hc=>?_)⟩
    .have e1:=of_decide_eq_true hb
     rw [e1] at hc
     exact absurd hc dk
    .obtain ⟨tt,tdx,tcs,tc,trw,trr,rfl,h1,h2,⟨ca,cdx,rfl,hcc⟩,h4,h5⟩:=hTab
     have:=oE.k (k:=Sum.inr "a") hd2
     rw [hv] at this
     refine ⟨_,rfl,_,rfl,y,CS,dy,_,_,rfl,hy2,TS.cl,TS.nTa,rfl,t,_,0,_,rfl,rfl,cZ.of ht2,rfl,d,_,rfl,this,tt,CT,tdx,_,_,rfl,h1,T.cT,T.nT.1,rfl,tcs,rfl,⟨_,cZ.of h2⟩,fun D hD=>?_⟩
     refine yj [V.ref ca] _ (fun _ _ y=>y=.str "x") xZ hD (fun _ _ _ _ _ z=>z) (ZS h2) (PB h2) (V2 h2) ?_ ?_
     .rintro a v Hc H' k ha s3 ⟨rfl,rfl⟩ kk
      cases List.mem_singleton.mp ha
      exact ⟨_,rfl,ca,CC,cdx,_,_,rfl,s3 _ _ hcc,T.cC,T.nC.1,rfl,kk _ _ (fun _ _ e=>e) rfl⟩
     .intro ys Hc s3 hl pp
      cases pp with
      | cons e r2 =>
       cases r2
       subst e
       exact key _ _ ⟨D,["x"],rfl,s3,hl,fun _=>rfl⟩
end
noncomputable def XQ(H:Hp)(mv:V):Option Nat->Prop
 | none=>mv=.non
 | some k=>∃ m ms,mv=.ref m/\H m=some (.lst ms)/\ms.length=k
theorem XQ.same(s:aR H H')(h:XQ H mv mk):XQ H' mv mk:=by
 cases mk with
 | none=>exact h
 | some k=>obtain ⟨m,ms,e,g,l⟩:=h;exact ⟨m,ms,e,s _ _ g,l⟩
noncomputable def xQ(ns:List Str)(rs:List Int)(mk:Option Nat):Dd->Bool
 | .beg=>false
 | .sav _ _=>decide (4<=mk.getD 0)
 | .crt _ _ zs=>decide (4<=ns.length) || decide (6<zs.length)
 | .ins _ vals=>decide (40<=rs.length) || decide (8<vals.length)
 | .sel _ o=>decide (8<match o with | none=>0 | some ps=>ps.length)
 | .mis _ _=>false
noncomputable def Dd.isMis:Dd->Bool
 | .mis _ _=>true
 | _=>false
noncomputable def Dd.in_(mk:Option Nat):Dd->Prop
 | .beg=>mk=none
 | _=>∃ k,mk=some k
structure TxM(mg:Str->Option Value):Prop where
 ta:∃ t,mg "MOST_TABLES"=some (.int 4 t)
 co:∃ t,mg "MOST_COLUMNS"=some (.int 6 t)
 ex:∃ t,mg "MOST_EXPRESSIONS"=some (.int 8 t)
 ro:∃ t,mg "MOST_ROWS"=some (.int 40 t)
 ma:∃ t,mg "MOST_MARKS"=some (.int 4 t)
theorem Hj(R:Bool->Hp->Prop)(h2:∀ b H',R b H'->Q b H')(h1:(∀ b H',R b H'->Q b H')->Wi t u σ H Q):Wi t u σ H Q:=h1 h2
section
variable{P:Program}{w:World}{K:PySem.W.Frag}{mg:Str->Option Value}{base:Heap}
structure T9(CS CT CC:Addr)(H:Hp)(y d:Addr)(mv:V)(H0:Hp)(sm:ut)(ns:List Str)(rs:List Int)(mk:Option Nat)(dd:Dd):Prop where
 st:fj CS H0 H sm (.ref y)
 pl:Ay sm
 sy:dd.says sm
 sa:wJ CT CC H ns rs d
 at_:dd.at_ ns
 ma:XQ H mv mk
 in_:dd.in_ mk
 rl:rs.length<=100
theorem T9.same{CS CT CC:Addr}{H H':Hp}{y d:Addr}{mv:V}{H0:Hp}{sm:ut}{ns:List Str}{rs:List Int}{mk:Option Nat}{dd:Dd}(s:aR H H')(h:T9 CS CT CC H y d mv H0 sm ns rs mk dd):T9 CS CT CC H' y d mv H0 sm ns rs mk dd :=
 ⟨h.st.keep s,h.pl,h.sy,h.sa.same s,h.at_,h.ma.same s,h.in_,h.rl⟩
noncomputable def Kl(CS CT CC:Addr):Sp:=fun vs H Q _=>∃ (y d:Addr) (mv:V) (H0:Hp) (sm:ut) (ns:List Str) (rs:List Int) (mk:Option Nat) (dd:Dd),vs=[.ref y,.ref d,mv]/\T9 CS CT CC H y d mv H0 sm ns rs mk dd/\dd.isMis=false/\Q (.bl (xQ ns rs mk dd)) H
theorem tR:aG ["statement","state","marks","kind"] ["statement","state","marks"] (az qb):=d9
theorem PP(F:dq K "lacks_room" "lacks_room" qb f fd)(J:Ui K mg)(M:TxM mg)(TS:yc K mg CS fS)(T:HN K mg CT CC):bf P w K mg base cX 1 f fd ["statement","state","marks"] (Kl CS CT CC):=by
 obtain ⟨t1,mc⟩:=J.create
 obtain ⟨t3,ms⟩:=J.savepoint
 obtain ⟨t4,mi⟩:=J.insert
 obtain ⟨u1,m1⟩:=M.ta
 obtain ⟨u2,m2⟩:=M.co
 obtain ⟨u3,m3⟩:=M.ex
 obtain ⟨u4,m4⟩:=M.ro
 obtain ⟨u5,m5⟩:=M.ma
 refine F.oq tR ?_
 rintro _ A _ _ H _ Q _ hr ⟨y,d,mv,H0,sm,ns,rs,mk,dd,rfl,hA,hm,q⟩
 obtain ⟨y',ta,co,ex,ch,wh,od,e,⟨_,dy,hy⟩,hT,hco,he,hch,_⟩:=id hA.st
 cases e
 rw [hA.pl.ch] at hch
 obtain ⟨pc,cs,rfl,_,hpc,hpp⟩:=hch
 cases hpp
 obtain ⟨pl,cl,rfl,_,hpl,hcp⟩:=hco
 obtain ⟨kvs,hd,hkk,hrow⟩:=hA.sa
 have hu:=ql hr
 refine ⟨_,ak (bc (i:=3) tR.nd rfl (Or.inl rfl) (aY (pv 0) rfl))
  (ak (bu (aZ dG (pv 3) (aN (by rfl) mc (v:=.str "create table") ⟨_,rfl⟩) (bh _)) (aq (aQ (BL (eQ Rj (bw M5 (by rfl) J.len PySem.boot_len (aa (pv 1) ao)) (aN (by rfl) m1 (v:=.int 4) ⟨_,rfl⟩) (bh _))
    (jH (eQ yl (bw bx (by rfl) J.len PySem.boot_len (aa (aY (pv 0) rfl) ao)) (aN (by rfl) m2 (v:=.int 6) ⟨_,rfl⟩) (bh _)))))) aU)
  (ak (bu (aZ dG (pv 3) (aN (by rfl) ms (v:=.str "savepoint") ⟨_,rfl⟩) (bh _)) (aq (aQ (eQ Rj (bw bx (by rfl) J.len PySem.boot_len (aa (pv 2) ao)) (aN (by rfl) m5 (v:=.int 4) ⟨_,rfl⟩) (bh _)))) aU)
  (ak (bu (yo (aZ dG (pv 3) (aN (by rfl) mi (v:=.str "insert") ⟨_,rfl⟩) (bh _)) (uL (aZ Rj (bw bx (by rfl) J.len PySem.boot_len (aa (aY (rY hu (pv 1) (cA cj (aY (pv 0) rfl) aF (fun _ _=>rfl)) (fun _ _=>rfl)) rfl) ao)) (aN (by rfl) m4 (v:=.int 40) ⟨_,rfl⟩) (bh _)))).pt (aq (aQ lO)) aU)
  (ak (bu (yo (eV (jw (aY (pv 0) rfl))) (uL (aZ yl (bw bx (by rfl) J.len PySem.boot_len (aa (aY (pv 0) rfl) ao)) (aN (by rfl) m3 (v:=.int 8) ⟨_,rfl⟩) (bh _)))).pt (aq (aQ lO)) aU)
  (aq (aQ (eQ yl (bw bx (by rfl) J.len PySem.boot_len (aa (aY (pv 0) rfl) ao)) (aN (by rfl) m3 (v:=.int 8) ⟨_,rfl⟩) (bh _)))))))),?_⟩
 try dsimp only [bU]
 have hsy:=hA.sy
 have qe:∀ b,xQ ns rs mk dd=b->Q (.bl b) H:=fun b e=>e ▸ q
 have cls:(sm.kind="savepoint"/\xQ ns rs mk dd=decide (4<=mk.getD 0)/\∃ k,mk=some k)\/(sm.kind="create table"/\xQ ns rs mk dd=(decide (4<=ns.length) || decide (6<sm.cols.length))) \/
   ((sm.kind="begin"\/sm.kind="insert"\/sm.kind="select")/\(sm.kind="insert"->("a":Str)∈ns/\∃ n,sm.target=some (.str "a",n))/\xQ ns rs mk dd=((decide (sm.kind="insert") && decide (40<=rs.length)) || decide (8<(sm.exprs.getD []).length))):=by
  cases dd with
  | mis z n=>cases hm
  | beg=>exact .inr (.inr ⟨.inl hsy.1,(fun e=>absurd (hsy.1.symm.trans e) dk),by rw [hsy.1,hsy.2.2,decide_eq_false dk];rfl⟩)
  | sav z n=>exact .inl ⟨hsy.1,rfl,hA.in_⟩
  | crt z n zs =>
   have lc:sm.cols.length=zs.length:=by have:=congrArg List.length hsy.2.2.1;rwa [List.length_map,List.length_map] at this
   exact .inr (.inl ⟨hsy.1,by rw [lc];rfl⟩)
  | ins n vals =>
   refine .inr (.inr ⟨.inr (.inl hsy.1),fun _=>⟨hA.at_,n,hsy.2.1⟩,?_⟩)
   rw [hsy.1,hsy.2.2.1,decide_eq_true rfl]
   show _=(_ || decide (8<(vals.map zX).length))
   rw [List.length_map];rfl
  | sel n o =>
   refine .inr (.inr ⟨.inr (.inr hsy.1),(fun e=>absurd (hsy.1.symm.trans e) dk),?_⟩)
   rw [hsy.1,hsy.2.2.1,decide_eq_false dk]
   cases o with
   | none=>rfl
   | some ps =>
    show decide (8<ps.length)=decide (8<(ps.map Hr).length)
    rw [List.length_map]
 have lcp:=hcp.length
 have lk:kvs.length=ns.length:=by have:=congrArg List.length hkk;rwa [List.length_map,List.length_map] at this
 rcases cls with ⟨hk,hl,k,rfl⟩ | ⟨hk,hl⟩ | ⟨hk,hins,hl⟩
 .rw [hk] at hy
  obtain ⟨m,mms,rfl,hmm,hml⟩:=hA.ma
  refine ⟨_,rfl,y,CS,dy,_,_,rfl,hy,TS.cl,TS.nKi,rfl,?_⟩
  refine ⟨_,rfl,rfl,_,rfl,di dk ?_⟩
  refine ⟨_,rfl,rfl,_,rfl,jt dk ?_⟩
  refine ⟨_,rfl,m,_,rfl,.inl (c7.of hmm),_,_,rfl,rfl,?_⟩
  exact qe (decide ((4:Int)<=(mms.length:Nat))) (hl.trans (decide_eq_decide.mpr (by show 4<=k ↔ _;omega)))
 .rw [hk] at hy
  refine ⟨_,rfl,y,CS,dy,_,_,rfl,hy,TS.cl,TS.nKi,rfl,?_⟩
  refine ⟨_,rfl,rfl,_,rfl,jt dk ?_⟩
  refine ⟨_,rfl,d,_,rfl,hd,_,_,rfl,rfl,_,rfl,vq (fun h4=>qe true ?_) (fun h4=>?_)⟩
  .have h4':(4:Int)<=(kvs.length:Nat):=of_decide_eq_true h4
   rw [hl,decide_eq_true (by omega)];rfl
  .have h4':¬ (4:Int)<=(kvs.length:Nat):=fun z=>h4 (decide_eq_true z)
   refine ⟨_,rfl,y,CS,dy,_,_,rfl,hy,TS.cl,TS.nCo,rfl,pl,_,rfl,.inl (c7.of hpl),_,_,rfl,rfl,?_⟩
   refine qe (decide ((6:Int)<(cl.length:Nat))) ?_
   rw [hl,decide_eq_false (by omega)]
   exact decide_eq_decide.mpr (by omega)
 .have c1:decide (V.str sm.kind=.str "create table")=false:=by rcases hk with e | e | e <;> (rw [e];decide +kernel)
  have c2:decide (V.str sm.kind=.str "savepoint")=false:=by rcases hk with e | e | e <;> (rw [e];decide +kernel)
  refine ⟨_,rfl,y,CS,dy,_,_,rfl,hy,TS.cl,TS.nKi,rfl,?_⟩
  refine ⟨_,rfl,rfl,_,rfl,di c1 ?_⟩
  refine ⟨_,rfl,rfl,_,rfl,di c2 ?_⟩
  dsimp only [tG,jV,uA]
  refine Hj (fun b H'=>H'=H/\b=(decide (sm.kind="insert") && decide (40<=rs.length))) ?_ ?_
  .rintro b H' ⟨rfl,rfl⟩
   refine vq (fun hb=>qe true ?_) (fun hb=>?_)
   .rw [hl,hb];rfl
   .rw [Bool.eq_false_iff.mpr hb,Bool.false_or] at hl
    dsimp only [tG,jV,uA]
    refine Hj (fun b H''=>H''=H'/\b=decide (8<(sm.exprs.getD []).length)) ?_ ?_
    .rintro b _ ⟨rfl,rfl⟩
     refine vq (fun hb=>qe true (hl.trans hb)) (fun hb=>?_)
     refine ⟨_,rfl,y,CS,dy,_,_,rfl,hy,TS.cl,TS.nCh,rfl,pc,_,rfl,.inl (c7.of hpc),_,_,rfl,rfl,?_⟩
     exact qe false (hl.trans (Bool.eq_false_iff.mpr hb))
    .intro key
     refine ⟨_,rfl,y,CS,dy,_,_,rfl,hy,TS.cl,TS.nEx,rfl,_,rfl,?_⟩
     cases hx:sm.exprs with
     | none =>
      rw [hx] at he
      cases (show ex=.non from he)
      refine cJ (A:=True) (key _ _ ⟨rfl,?_⟩)
      rw [hx];rfl
     | some es =>
      rw [hx] at he
      obtain ⟨pe,xs,rfl,_,hpe,hep⟩:=he
      have le:=hep.length
      refine eG (B:=True) ⟨_,rfl,y,CS,dy,_,_,rfl,hy,TS.cl,TS.nEx,rfl,pe,_,rfl,.inl (c7.of hpe),_,_,rfl,rfl,_,rfl,key _ _ ⟨rfl,?_⟩⟩
      rw [hx]
      exact decide_eq_decide.mpr (by show (8:Int)<(xs.length:Nat) ↔ 8<es.length;omega)
  .intro key
   refine ⟨_,rfl,rfl,_,rfl,vq (fun hi=>?_) (fun hi=>key _ _ ⟨rfl,?_⟩)⟩
   .have hi':sm.kind="insert":=by injection (of_decide_eq_true hi)
    obtain ⟨hin,n,htg⟩:=hins hi'
    rw [htg] at hT
    obtain ⟨t,rfl,ht⟩:=hT
    obtain ⟨tv,hv⟩:=wJ.some hkk hin
    obtain ⟨tt,tdx,tcs,tc,trw,trr,rfl,h1,h2,h3,h4,h5⟩:=hrow tv hv
    have lr:=h5.length
    have:=oE.k (k:=Sum.inr "a") hd
    rw [hv] at this
    refine ⟨_,rfl,_,rfl,y,CS,dy,_,_,rfl,hy,TS.cl,TS.nTa,rfl,t,_,0,_,rfl,rfl,cZ.of ht,rfl,d,_,rfl,this,tt,CT,tdx,_,_,rfl,h1,T.cT,T.nT.2.1,rfl,trw,_,rfl,.inr (cZ.of h4),_,_,rfl,rfl,_,rfl,key _ _ ⟨rfl,?_⟩⟩
    rw [decide_eq_true hi',Bool.true_and]
    exact decide_eq_decide.mpr (by show (40:Int)<=(trr.length:Nat) ↔ 40<=rs.length;omega)
   .rw [decide_eq_false (fun z=>hi (decide_eq_true (by rw [z]))),Bool.false_and]
end
noncomputable def Mq(ns:List Str)(rs:List Int)(mk:Option Nat)(dd:Dd):Option (Str × Int):=match dd with
 | .mis _ n=>some ("name",(n:Int))
 | dd=>if xQ ns rs mk dd=true then some ("room",0) else none
theorem Gb(h:dd.isMis=false):Mq ns rs mk dd=if xQ ns rs mk dd=true then some ((Str.ofString "room"),(0:Int)) else none:=by
 cases dd <;> first | rfl | cases h
noncomputable def Uc(ns:List Str):Dd->List Str
 | .crt z _ _=>ns++[z]
 | _=>ns
noncomputable def Rw(rs:List Int):Dd->List Int
 | .crt z _ _=>if z="a" then [] else rs
 | .ins _ [some k]=>rs++[k]
 | _=>rs
noncomputable def My:Dd->Bool
 | .ins _ [some _]=>false
 | .ins _ _=>true
 | _=>false
noncomputable def wH(H:Hp)(rs:List Int)(ans:V):Dd->Prop
 | .ins _ _=>ans=.int 1
 | .sel _ o=>∃ l xs,ans=.ref l/\H l=some (.lst xs)/\Paired (Ce o H) rs xs
 | _=>ans=.int 0
theorem wH.same(s:aR H H')(h:wH H rs ans dd):wH H' rs ans dd:=by
 cases dd with
 | sel n o=>obtain ⟨l,xs,e,g,p⟩:=h;exact ⟨l,xs,e,s _ _ g,L2.Paired.imp' (fun _ _ ⟨t,e,z⟩=>⟨t,e,s _ _ z⟩) p⟩
 | _=>exact h
section
variable{P:Program}{w:World}{K:PySem.W.Frag}{mg:Str->Option Value}{base:Heap}
noncomputable def BP(CS CT CC:Addr):Sp:=fun vs H Q _=>∃ (y d:Addr) (mv:V) (H0:Hp) (sm:ut) (ns:List Str) (rs:List Int) (mk:Option Nat) (dd:Dd),vs=[.ref y,.ref d,mv]/\T9 CS CT CC H y d mv H0 sm ns rs mk dd /\
 (∀ c p,Mq ns rs mk dd=some (c,p)->∀ u H',aR H H'->H' u=some (.tup [.str c,.int p])->Q (.ref u) H')/\(Mq ns rs mk dd=none->∀ H',aR H H'->Q .non H')
theorem Jm(F:dq K "find_refusal" "find_refusal" lG f fd)(J:Ui K mg)(TS:yc K mg CS fS)(GF:eZ P w K mg base 1 "fits_transaction" ["kind","within"] OD)
  (GW:eZ P w K mg base 3 "find_wrong_names" ["statement","state","marks"] (Lf CS CT CC)) (GL:eZ P w K mg base 1 "lacks_room" ["statement","state","marks"] (Kl CS CT CC)):bf P w K mg base cX 4 f fd ["statement","state","marks"] (BP CS CT CC):=by
 obtain ⟨fF,fdF,mF,kF,GF,bF⟩:=GF.ex
 obtain ⟨fW,fdW,mW,kW,GW,bW⟩:=GW.ex
 obtain ⟨fL,fdL,mL,kL,GL,bL⟩:=GL.ex
 refine F.oq jF ?_
 rintro _ A _ _ H _ Q _ hr ⟨y,d,mv,H0,sm,ns,rs,mk,dd,rfl,hA,q1,q2⟩
 obtain ⟨y',ta,co,ex,ch,wh,od,e,⟨_,dy,hy⟩,_⟩:=id hA.st
 cases e
 have r1:cO 1 _:=hr.mono (by omega)
 refine ⟨_,ak (bu (fU (cu (aJ GF r1 (by rfl) mF kF bF .nil aM (aa (aY (pv 0) rfl) (aa (V8 (jw (pv 2))) ao))))) aV aU)
  (ak (bc (i:=3) jF.nd rfl (Or.inl rfl) (aJ GW hr (by rfl) mW kW bW .nil aM (aa (pv 0) (aa (pv 1) (aa (pv 2) ao)))))
  (ak (bu (aZ yl (bw bx (by rfl) J.len PySem.boot_len (aa (pv 3) ao)) aF (bh _))
   (ak (bc (i:=4) jF.nd rfl (Or.inl rfl) (bw (Fx rfl) (by rfl) J.min PyProof.Rows.boot_min (aa (pv 3) ao)))
   (aq (aQ (b8 (aa (cA cj (pv 4) aF (fun _ _=>rfl)) (aa (cA cj (pv 4) aF (fun _ _=>rfl)) ao)))))) aU)
  (aq (aQ (ig (cu (aJ GL r1 (by rfl) mL kL bL .nil aM (aa (pv 0) (aa (pv 1) (aa (pv 2) ao))))) (b8 (aa aX (aa aF ao))) je))))),?_⟩
 try dsimp only [bU]
 have hfit:(sm.kind="begin"/\(!decide (mv=.non))=false)\/(sm.kind≠"begin"/\(!decide (mv=.non))=true):=by
  have hsy:=hA.sy
  have hin:=hA.in_
  have hma:=hA.ma
  have ne:∀ {kz:Str},sm.kind=kz->kz≠"begin"->(∃ k,mk=some k)->(sm.kind="begin"/\(!decide (mv=.non))=false)\/(sm.kind≠"begin"/\(!decide (mv=.non))=true):=fun hk hne ⟨k,hk2⟩=>by
   rw [hk2] at hma
   obtain ⟨m,ms,rfl,_⟩:=hma
   exact .inr ⟨by rw [hk];exact hne,rfl⟩
  cases dd with
  | beg =>
   rw [show mk=none from hin] at hma
   cases (show mv=.non from hma)
   exact .inl ⟨hsy.1,rfl⟩
  | sav z n=>exact ne hsy.1 dk hin
  | crt z n zs=>exact ne hsy.1 dk hin
  | ins n vals=>exact ne hsy.1 dk hin
  | sel n o=>exact ne hsy.1 dk hin
  | mis z n=>exact ne hsy.1 dk hin
 refine ⟨_,rfl,y,CS,dy,_,_,rfl,hy,TS.cl,TS.nKi,rfl,_,rfl,sm.kind,_,rfl,hfit,true,rfl,cJ (A:=True) ?_⟩
 refine ⟨_,rfl,_,rfl,_,rfl,y,d,mv,H0,sm,ns,rs,dd,rfl,hA.st,hA.pl,hA.sy,hA.sa,hA.at_,fun r ys H2 s2 hr2 hw=>?_⟩
 refine ⟨_,rfl,r,_,rfl,.inl (c7.of hr2),_,_,rfl,rfl,_,rfl,?_⟩
 cases hm:dd.isMis with
 | true =>
  cases dd with
  | mis z n =>
   obtain ⟨u,rfl,hu⟩:=hw
   refine eG (B:=True) ⟨_,rfl,r,_,rfl,c7.of hr2,?_⟩
   refine ⟨_,rfl,u,_,_,_,rfl,rfl,cZ.of hu,rfl,_,rfl,u,_,_,_,rfl,rfl,cZ.of hu,rfl,zF,fun v hv=>?_⟩
   exact q1 _ _ rfl v _ (s2.trans (au hv)) aj
  | _=>cases hm
 | false =>
  have hys:ys=[]:=by
   cases dd <;> first | exact hw | cases hm
  subst hys
  have hrf:=Gb (ns:=ns) (rs:=rs) (mk:=mk) hm
  refine cJ (A:=True) ⟨_,rfl,_,rfl,_,rfl,y,d,mv,H0,sm,ns,rs,mk,dd,rfl,hA.same s2,hm,_,rfl,vq (fun hl=>?_) (fun hl=>?_)⟩
  .rw [if_pos hl] at hrf
   exact ⟨zF,fun v hv=>q1 _ _ hrf v _ (s2.trans (au hv)) aj⟩
  .rw [if_neg hl] at hrf
   exact q2 hrf _ s2
noncomputable def Jt:Sp:=fun vs H Q _=>∃ (d:Addr) (z:Str) (kvs:List (gf × V)) (tv:V),vs=[.ref d,.str z,tv]/\H d=some (.dK kvs)/\kvs.length<=1000/\∀ p H',aR H H'->H' p=some (.dK (lD kvs (.inr z) tv))->Q (.ref p) H'
theorem sY:aG ["state","name","table","behind"] ["state","name","table"] (az pK):=d9
theorem Sw(F:dq K "with_table" "with_table" pK f fd)(T:HN K mg CT CC):bf P w K mg base cX 1 f fd ["state","name","table"] Jt:=by
 refine F.oq sY ?_
 rintro _ _ _ _ H _ Q _ hr ⟨d,z,kvs,tv,rfl,hd,hl,q⟩
 have hu:=ql hr
 refine ⟨_,ak (bc (i:=3) sY.nd rfl (Or.inl rfl) (dN Jy (by rfl) T.dict PyProof.Rows.boot_dict (aa (pv 0) ao))) (ak (Dj hu (pv 3) (pv 1) (pv 2) (by rfl)) (aq (aQ (pv 3)))),?_⟩
 try dsimp only [bU]
 refine ⟨_,rfl,d,kvs,rfl,hd,fun p hp=>?_⟩
 refine ⟨_,rfl,_,rfl,_,rfl,p,_,rfl,Ib.k (k:=Sum.inr z) aj (Nat.lt_of_le_of_lt hl (by decide)),?_⟩
 rw [bY]
 exact ⟨_,rfl,q p _ (au hp) aj⟩
end
theorem Og{kvs:List (gf × V)}{k:gf}{v:V}(h:k∈kvs.map (·.1)):(lD kvs k v).map (·.1)=kvs.map (·.1):=by
 obtain ⟨x,hx,e⟩:=List.mem_map.mp h
 unfold lD
 rw [if_pos (List.any_eq_true.mpr ⟨x,hx,decide_eq_true e⟩),List.map_map]
 refine List.map_congr_left fun y _=>?_
 show (if y.1=k then (y.1,v) else y).1=y.1
 split <;> rfl
theorem Kf{kvs:List (gf × V)}{k:gf}{v:V}:fQ (lD kvs k v) k=some v:=by
 rw [Gx,if_pos rfl]
theorem Iv{kvs:List (gf × V)}{k j:gf}{v:V}(h:j≠k):fQ (lD kvs k v) j=fQ kvs j:=by
 rw [Gx,if_neg h]
theorem Vk(h:a≠b):(Sum.inr a:gf)≠Sum.inr b:=fun z=>by injection z with z;exact h z
section
variable{P:Program}{w:World}{K:PySem.W.Frag}{mg:Str->Option Value}{base:Heap}
noncomputable def HJ(CS CT CC CN:Addr):Sp:=fun vs H Q E=>∃ (y d:Addr) (mv:V) (H0:Hp) (sm:ut) (ns:List Str) (rs:List Int) (mk:Option Nat) (n:Nat) (vals:List (Option Int)),vs=[.ref y,.ref d]/\T9 CS CT CC H y d mv H0 sm ns rs mk (.ins n vals)/\ns.length<=100 /\
 ((∃ k,vals=[some k]/\∀ u p H',aR H H'->H' u=some (.tup [.int 1,.ref p])->wJ CT CC H' ns (rs++[k]) p->Q (.ref u) H')\/((∀ k,vals≠[some k])/\∀ H',aR H H'->E (.ref CN) none H'))
theorem jG:aG ["statement","state","name","changed"] ["statement","state"] (az kY):=d9
theorem Np{f CS fS CT CC CN:Addr}{fd:FuncData}(F:dq K "change_table" "change_table" kY f fd)(J:Ui K mg)(TS:yc K mg CS fS)(GI:Xl P w K mg base (vY P w) 4 "insert_row" ["table","statement"] (Fv CS CT CC CN))(GW:eZ P w K mg base 1 "with_table" ["state","name","table"] Jt) :
  bf P w K mg base (vY P w) 5 f fd ["statement","state"] (HJ CS CT CC CN):=by
 obtain ⟨fI,fdI,mI,kI,GI,bI⟩:=GI.ex
 obtain ⟨fW,fdW,mW,kW,GW,bW⟩:=GW.ex
 obtain ⟨t4,mi⟩:=J.insert
 refine F.oqX jG ?_
 rintro _ _ _ _ H _ Q _ hr ⟨y,d,mv,H0,sm,ns,rs,mk,n,vals,rfl,hA,hnl,hq⟩
 obtain ⟨y',ta,co,ex,ch,wh,od,e,⟨_,dy,hy⟩,hT,_⟩:=id hA.st
 cases e
 obtain ⟨hk,htg,hex,hvl⟩:=hA.sy
 rw [htg] at hT
 obtain ⟨t,rfl,ht⟩:=hT
 rw [hk] at hy
 obtain ⟨kvs,hd,hkk,hrow⟩:=hA.sa
 obtain ⟨tv,hv⟩:=wJ.some hkk hA.at_
 have hu:=ql hr
 have r1:cO 1 _:=hr.mono (by omega)
 refine ⟨_,ak (bc (i:=2) jG.nd rfl (Or.inl rfl) (cA cj (aY (pv 0) rfl) aF (fun _ _=>rfl)))
  (ak (bu (aZ dG (aY (pv 0) rfl) (aN (by rfl) mi (v:=.str "insert") ⟨_,rfl⟩) (bh _)) (aq (bc (i:=3) jG.nd rfl (Or.inl rfl) (aJ GI hr (by rfl) mI kI bI .nil yR (aa (rY hu (pv 1) (pv 2) (fun _ _=>rfl)) (aa (pv 0) ao))))) aV)
  (aq (aQ (b8 (aa (cA cj (pv 3) aF (fun _ _=>rfl)) (aa (aJ GW r1 (by rfl) mW kW bW .nil aM (aa (pv 1) (aa (pv 2) (aa (cA cj (pv 3) aF (fun _ _=>rfl)) ao)))) ao)))))),?_⟩
 try dsimp only [bU]
 refine ⟨_,rfl,y,CS,dy,_,_,rfl,hy,TS.cl,TS.nTa,rfl,t,_,0,_,rfl,rfl,cZ.of ht,rfl,?_⟩
 refine ⟨_,rfl,y,CS,dy,_,_,rfl,hy,TS.cl,TS.nKi,rfl,rfl,_,rfl,jt dk ?_⟩
 have hg:=oE.k (k:=Sum.inr "a") hd
 rw [hv] at hg
 refine ⟨_,rfl,_,rfl,d,tv,rfl,hg,_,rfl,tv,y,H0,sm,rs,vals,rfl,hrow tv hv,hA.st,hex,hvl,Nat.le_trans hA.rl (by decide),?_⟩
 have lk:kvs.length=ns.length:=by have:=congrArg List.length hkk;rwa [List.length_map,List.length_map] at this
 rcases hq with ⟨k,rfl,q⟩ | ⟨hne,q⟩
 .refine .inl ⟨k,rfl,fun r t' H2 s2 hr2 hT2=>?_⟩
  refine ⟨_,rfl,r,_,1,_,rfl,rfl,cZ.of hr2,rfl,_,rfl,_,rfl,_,rfl,r,_,0,_,rfl,rfl,cZ.of hr2,rfl,d,"a",kvs,t',rfl,s2 _ _ hd,by omega,fun p H3 s3 hp=>?_⟩
  refine ⟨zF,fun u hu=>?_⟩
  have s4:=au (o:=.tup [.int 1,V.ref p]) hu
  refine q u p _ (s2.trans (s3.trans s4)) aj ⟨_,s4 _ _ hp,?_,fun v e=>?_⟩
  .rw [Og (by rw [hkk];exact List.mem_map.mpr ⟨_,hA.at_,rfl⟩)];exact hkk
  .rw [Kf] at e
   cases e
   exact hT2.same (s3.trans s4)
 .exact .inr ⟨hne,fun H3 s3=>q _ s3⟩
structure YJ(mg:Str->Option Value):Prop where
 up:GS mg "UPDATE" "update"
 de:GS mg "DELETE" "delete"
 se:GS mg "SELECT" "select"
 dr:GS mg "DROP" "drop table"
noncomputable def Kq(CS CT CC CN:Addr):Sp:=fun vs H Q E=>∃ (y d:Addr) (mv:V) (H0:Hp) (sm:ut) (ns:List Str) (rs:List Int) (mk:Option Nat) (dd:Dd),vs=[.ref y,.ref d]/\T9 CS CT CC H y d mv H0 sm ns rs mk dd/\ns.length<=100/\dd.isMis=false /\
 (My dd=true->∀ H',aR H H'->E (.ref CN) none H')/\(My dd=false->∀ u ans p H',aR H H'->H' u=some (.tup [ans,.ref p])->wJ CT CC H' (Uc ns dd) (Rw rs dd) p->wH H' rs ans dd->Q (.ref u) H')
theorem uX:aG ["statement","state","kind"] ["statement","state"] (az rn):=d9
theorem QH{f CS fS CT CC CN:Addr}{fd:FuncData}(F:dq K "carry_out" "carry_out" rn f fd)(J:Ui K mg)(C:YJ mg)(TS:yc K mg CS fS)(GC:Xl P w K mg base (vY P w) 5 "change_table" ["statement","state"] (HJ CS CT CC CN))(GS:eZ P w K mg base 3 "select_rows" ["table","statement"] (FN CS CT CC))
  (GW:eZ P w K mg base 1 "with_table" ["state","name","table"] Jt) (GM:eZ P w K mg base 3 "make_table" ["statement"] (Bd CS CT CC)):bf P w K mg base (vY P w) 6 f fd ["statement","state"] (Kq CS CT CC CN):=by
 obtain ⟨fC,fdC,mC,kC,GC,bC⟩:=GC.ex
 obtain ⟨fS',fdS,mS,kS,GS,bS⟩:=GS.ex
 obtain ⟨fW,fdW,mW,kW,GW,bW⟩:=GW.ex
 obtain ⟨fM,fdM,mM,kM,GM,bM⟩:=GM.ex
 obtain ⟨t1,mi⟩:=J.insert
 obtain ⟨t2,mc⟩:=J.create
 obtain ⟨t3,mu⟩:=C.up
 obtain ⟨t4,md⟩:=C.de
 obtain ⟨t5,ms⟩:=C.se
 obtain ⟨t6,mdr⟩:=C.dr
 refine F.oqX uX ?_
 rintro _ _ _ _ H _ Q _ hr ⟨y,d,mv,H0,sm,ns,rs,mk,dd,rfl,hA,hnl,hm,q1,q2⟩
 obtain ⟨y',ta,co,ex,ch,wh,od,e,⟨_,dy,hy⟩,hT,_⟩:=id hA.st
 cases e
 have hu:=ql hr
 have r1:cO 1 _:=hr.mono (by omega)
 have r3:cO 3 _:=hr.mono (by omega)
 obtain ⟨kvs,hd,hkk,hrow⟩:=id hA.sa
 have lk:kvs.length=ns.length:=by have:=congrArg List.length hkk;rwa [List.length_map,List.length_map] at this
 refine ⟨_,ak (bc (i:=2) uX.nd rfl (Or.inl rfl) (aY (pv 0) rfl))
  (ak (bu (aZ gW (pv 2) (b8 (aa (aN (by rfl) mi (v:=.str "insert") ⟨_,rfl⟩) (aa (aN (by rfl) mu (v:=.str "update") ⟨_,rfl⟩) (aa (aN (by rfl) md (v:=.str "delete") ⟨_,rfl⟩) ao)))) (by rfl)) (aq (aQ (aJ GC hr (by rfl) mC kC bC .nil yR (aa (pv 0) (aa (pv 1) ao))))) aU)
  (ak (bu (aZ dG (pv 2) (aN (by rfl) ms (v:=.str "select") ⟨_,rfl⟩) (bh _)) (aq (aQ (b8 (aa (aJ GS r3 (by rfl) mS kS bS .nil aM (aa (rY hu (pv 1) (cA cj (aY (pv 0) rfl) aF (fun _ _=>rfl)) (fun _ _=>rfl)) (aa (pv 0) ao))) (aa (pv 1) ao))))) aU)
  (ak (bu (aZ dG (pv 2) (aN (by rfl) mc (v:=.str "create table") ⟨_,rfl⟩) (bh _)) (aq (aQ (b8 (aa aF (aa (aJ GW r1 (by rfl) mW kW bW .nil aM (aa (pv 1) (aa (cA cj (aY (pv 0) rfl) aF (fun _ _=>rfl)) (aa (aJ GM r3 (by rfl) mM kM bM .nil aM (aa (pv 0) ao)) ao)))) ao))))) aU)
  (ak (bu (aZ dG (pv 2) (aN (by rfl) mdr (v:=.str "drop table") ⟨_,rfl⟩) (bh _)) aV aU)
  (aq (aQ (b8 (aa aF (aa (pv 1) ao))))))))),?_⟩
 try dsimp only [bU]
 have hsy:=hA.sy
 have cls:(sm.kind="insert"/\∃ n vals,dd=.ins n vals)\/(sm.kind="select"/\∃ n o,dd=.sel n o)\/(sm.kind="create table"/\∃ z n zs,dd=.crt z n zs)\/((sm.kind="begin"\/sm.kind="savepoint")/\My dd=false/\Uc ns dd=ns/\Rw rs dd=rs/\∀ H',wH H' rs (.int 0) dd):=by
  cases dd with
  | mis z n=>cases hm
  | beg=>exact .inr (.inr (.inr ⟨.inl hsy.1,rfl,rfl,rfl,fun _=>rfl⟩))
  | sav z n=>exact .inr (.inr (.inr ⟨.inr hsy.1,rfl,rfl,rfl,fun _=>rfl⟩))
  | crt z n zs=>exact .inr (.inr (.inl ⟨hsy.1,z,n,zs,rfl⟩))
  | ins n vals=>exact .inl ⟨hsy.1,n,vals,rfl⟩
  | sel n o=>exact .inr (.inl ⟨hsy.1,n,o,rfl⟩)
 rcases cls with ⟨hk,n,vals,rfl⟩ | ⟨hk,n,o,rfl⟩ | ⟨hk,z,n,zs,rfl⟩ | ⟨hk,hc,e1,e2,ha⟩
 .rw [hk] at hy
  refine ⟨_,rfl,y,CS,dy,_,_,rfl,hy,TS.cl,TS.nKi,rfl,?_⟩
  refine ⟨_,rfl,z8,fun t hht=>?_⟩
  have s1:=au (o:=.tup [V.str "insert",.str "update",.str "delete"]) hht
  refine ⟨t,_,rfl,.inr (cZ.of aj),rfl,rfl,_,rfl,jt dk ?_⟩
  refine ⟨_,rfl,_,rfl,y,d,mv,H0,sm,ns,rs,mk,n,vals,rfl,hA.same s1,hnl,?_⟩
  match vals,hA,q1,q2 with
  | [some k],hA,q1,q2=>exact .inl ⟨k,rfl,fun u p H' s2 hu2 hS2=>q2 rfl u (.int 1) p H' (s1.trans s2) hu2 hS2 rfl⟩
  | [],hA,q1,q2=>exact .inr ⟨fun k z=>(by cases z),fun H' s2=>q1 rfl _ (s1.trans s2)⟩
  | [none],hA,q1,q2=>exact .inr ⟨fun k z=>(by cases z),fun H' s2=>q1 rfl _ (s1.trans s2)⟩
  | a::b::r,hA,q1,q2=>exact .inr ⟨fun k z=>(by cases z),fun H' s2=>q1 (by cases a <;> rfl) _ (s1.trans s2)⟩
 .rw [hk] at hy
  obtain ⟨_,htg,hex,hrn⟩:=hsy
  rw [htg] at hT
  obtain ⟨t0,rfl,ht0⟩:=hT
  obtain ⟨tv,hv⟩:=wJ.some hkk hA.at_
  refine ⟨_,rfl,y,CS,dy,_,_,rfl,hy,TS.cl,TS.nKi,rfl,?_⟩
  refine ⟨_,rfl,z8,fun t hht=>?_⟩
  have s1:=au (o:=.tup [V.str "insert",.str "update",.str "delete"]) hht
  refine ⟨t,_,rfl,.inr (cZ.of aj),rfl,rfl,_,rfl,di dk ?_⟩
  refine ⟨_,rfl,rfl,_,rfl,jt dk ?_⟩
  have hg:=oE.k (k:=Sum.inr "a") (s1 _ _ hd)
  rw [hv] at hg
  refine ⟨_,rfl,_,rfl,y,CS,dy,_,_,rfl,s1 _ _ hy,TS.cl,TS.nTa,rfl,t0,_,0,_,rfl,rfl,cZ.of (s1 _ _ ht0),rfl,d,tv,rfl,hg,_,rfl,tv,y,H0,sm,rs,o,rfl,(hrow tv hv).same s1,hA.st.keep s1,hA.pl.wh,hA.pl.od,hA.pl.li,hex,hrn,Nat.le_trans hA.rl (by decide),fun l xs H2 s2 hl2 hp2=>?_⟩
  refine ⟨_,rfl,zF,fun u hu2=>?_⟩
  have s3:=au (o:=.tup [V.ref l,.ref d]) hu2
  exact q2 rfl u (.ref l) d _ (s1.trans (s2.trans s3)) aj (hA.sa.same (s1.trans (s2.trans s3))) ⟨l,xs,rfl,s3 _ _ hl2,L2.Paired.imp' (fun _ _ ⟨t,e,z⟩=>⟨t,e,s3 _ _ z⟩) hp2⟩
 .rw [hk] at hy
  obtain ⟨_,htg,hcs,_,hzl,hcol⟩:=hsy
  rw [htg] at hT
  obtain ⟨t0,rfl,ht0⟩:=hT
  have lc:sm.cols.length=zs.length:=by have:=congrArg List.length hcs;rwa [List.length_map,List.length_map] at this
  refine ⟨_,rfl,y,CS,dy,_,_,rfl,hy,TS.cl,TS.nKi,rfl,?_⟩
  refine ⟨_,rfl,z8,fun t hht=>?_⟩
  have s1:=au (o:=.tup [V.str "insert",.str "update",.str "delete"]) hht
  refine ⟨t,_,rfl,.inr (cZ.of aj),rfl,rfl,_,rfl,di dk ?_⟩
  refine ⟨_,rfl,rfl,_,rfl,di dk ?_⟩
  refine ⟨_,rfl,rfl,_,rfl,jt dk ?_⟩
  refine ⟨_,rfl,_,rfl,y,CS,dy,_,_,rfl,s1 _ _ hy,TS.cl,TS.nTa,rfl,t0,_,0,_,rfl,rfl,cZ.of (s1 _ _ ht0),rfl,_,rfl,y,H0,sm,rfl,hA.st.keep s1,by omega,fun tb H2 s2 htb=>?_⟩
  have s12:=s1.trans s2
  refine ⟨d,z,kvs,tb,rfl,s12 _ _ hd,by omega,fun p H3 s3 hp=>⟨zF,fun u hu3=>?_⟩⟩
  have s4:=au (o:=.tup [.int 0,V.ref p]) hu3
  have hzn:=wJ.none (H:=H) (d:=d) (CT:=CT) (CC:=CC) (rs:=rs) hkk hA.at_
  refine q2 rfl u (.int 0) p _ (s12.trans (s3.trans s4)) aj ⟨_,s4 _ _ hp,?_,fun v e=>?_⟩ rfl
  .rw [Av hzn,List.map_append,hkk]
   show _=(ns++[z]).map Sum.inr
   rw [List.map_append];rfl
  .show qW CT CC _ (if z="a" then [] else rs) v
   by_cases hz:z="a"
   .subst hz
    rw [Kf] at e
    cases e
    rw [if_pos rfl]
    exact (htb (hcol rfl)).same (s3.trans s4)
   .rw [Iv (Vk (Ne.symm hz))] at e
    rw [if_neg hz]
    exact (hrow v e).same (s12.trans (s3.trans s4))
 .have n1:zy (.str sm.kind) [.str "insert",.str "update",.str "delete"]=false:=by rcases hk with e | e <;> (rw [e];decide +kernel)
  have n2:decide (V.str sm.kind=.str "select")=false:=by rcases hk with e | e <;> (rw [e];decide +kernel)
  have n3:decide (V.str sm.kind=.str "create table")=false:=by rcases hk with e | e <;> (rw [e];decide +kernel)
  have n4:decide (V.str sm.kind=.str "drop table")=false:=by rcases hk with e | e <;> (rw [e];decide +kernel)
  refine ⟨_,rfl,y,CS,dy,_,_,rfl,hy,TS.cl,TS.nKi,rfl,?_⟩
  refine ⟨_,rfl,z8,fun t hht=>?_⟩
  have s1:=au (o:=.tup [V.str "insert",.str "update",.str "delete"]) hht
  refine ⟨t,_,rfl,.inr (cZ.of aj),rfl,rfl,_,rfl,di n1 ?_⟩
  refine ⟨_,rfl,rfl,_,rfl,di n2 ?_⟩
  refine ⟨_,rfl,rfl,_,rfl,di n3 ?_⟩
  refine ⟨_,rfl,rfl,_,rfl,di n4 ?_⟩
  refine ⟨_,rfl,zF,fun u hu3=>?_⟩
  have s4:=s1.trans (au (o:=.tup [.int 0,V.ref d]) hu3)
  exact q2 hc u (.int 0) d _ s4 aj (by rw [e1,e2];exact hA.sa.same s4) (ha _)
end
noncomputable def n8(ns:List Str)(rs:List Int)(mk:Option Nat)(dd:Dd):Str × Int:=match Mq ns rs mk dd with
 | some cp=>cp
 | none=>if My dd=true then ("constraint",0) else ("ok",0)
theorem V1(h:Mq ns rs mk dd=some (c,p)):c≠"ok":=by
 cases hm:dd.isMis with
 | true =>
  cases dd with
  | mis z n=>cases h;decide +kernel
  | _=>cases hm
 | false =>
  rw [Gb hm] at h
  split at h
  .cases h;decide +kernel
  .cases h
theorem Tr(h:Mq ns rs mk dd=none):dd.isMis=false:=by
 cases dd <;> first | rfl | cases h
section
variable{P:Program}{w:World}{K:PySem.W.Frag}{mg:Str->Option Value}{base:Heap}
theorem vo(F:dq K "__init__" "Verdict.__init__" iW f fd)(cl:jQ K C)(no:f9 K C ["code","place","answer","state"]):KZ P w K mg base 1 f fd ["self","code","place","answer","state"] (pF C):=by
 refine F.okH qj (fun vs H Q E h=>?_) (fun cdv A a outer s H vs Q h=>?_)
 .obtain ⟨y,dx,v0,v1,v2,v3,rfl,_⟩:=h
  rfl
 .obtain ⟨y,dx,v0,v1,v2,v3,rfl,hy,q⟩:=h
  refine ⟨_,ak (b7 (pv 0) (pv 1) rfl) (ak (b7 (pv 0) (pv 2) rfl) (ak (b7 (pv 0) (pv 3) rfl) (aq (b7 (pv 0) (pv 4) rfl)))),?_⟩
  try dsimp only [bU]
  refine ⟨_,rfl,_,rfl,y,C,dx,_,rfl,hy,cl,no.1,by show 0<1000;decide,?_⟩
  refine ⟨_,rfl,_,rfl,y,C,dx,_,rfl,aj,cl,no.2.1,by show 1<1000;decide,?_⟩
  rw [bY]
  refine ⟨_,rfl,_,rfl,y,C,dx,_,rfl,aj,cl,no.2.2.1,by show 2<1000;decide,?_⟩
  rw [bY]
  refine ⟨_,rfl,_,rfl,y,C,dx,_,rfl,aj,cl,no.2.2.2.1,by show 3<1000;decide,?_⟩
  rw [bY]
  exact q
noncomputable def Ku(CS CT CC CV:Addr):Sp:=fun vs H Q _=>∃ (y d:Addr) (mv:V) (H0:Hp) (sm:ut) (ns:List Str) (rs:List Int) (mk:Option Nat) (dd:Dd),vs=[.ref y,.ref d,mv]/\T9 CS CT CC H y d mv H0 sm ns rs mk dd/\ns.length<=100 /\
 ∀ u dx ans p H',aR H H'->H' u=some (.ins CV dx (sr (.str (n8 ns rs mk dd).1) (.int (n8 ns rs mk dd).2) ans (.ref p)))->((n8 ns rs mk dd).1="ok"->wJ CT CC H' (Uc ns dd) (Rw rs dd) p/\wH H' rs ans dd)->Q (.ref u) H'
theorem QT(F:dq K "judge" "judge" DQ f fd)(XN:ExC K mg "Constraint" CN)(VK:sU P w K mg base "Verdict" CV ["code","place","answer","state"] 1 ["self","code","place","answer","state"] (pF CV))
  (VH:∃ (fI:Addr) (fdI:FuncData),Mk K CV fI/\KZ P w K mg base 1 fI fdI ["self","code","place","answer","state"] (pF CV)/\dR K fdI ["self","code","place","answer","state"] [])
  (GR:eZ P w K mg base 4 "find_refusal" ["statement","state","marks"] (BP CS CT CC)) (GC:Xl P w K mg base (vY P w) 6 "carry_out" ["statement","state"] (Kq CS CT CC CN)):bf P w K mg base cX 7 f fd ["statement","state","marks"] (Ku CS CT CC CV):=by
 obtain ⟨fR,fdR,mR,kR,GR,bR⟩:=GR.ex
 obtain ⟨fC,fdC,mC,kC,GC,bC⟩:=GC.ex
 obtain ⟨fI,fdI,MI,GI,bI⟩:=VK.ex
 obtain ⟨fH,fdH,MH,GH,bH⟩:=VH
 refine F.oq yh ?_
 rintro _ A _ _ H _ Q E hr ⟨y,d,mv,H0,sm,ns,rs,mk,dd,rfl,hA,hnl,q⟩
 have r2:cO 2 _:=hr.mono (by omega)
 have r4:cO 4 _:=hr.mono (by omega)
 refine ⟨_,ak (bc (i:=3) yh.nd rfl (Or.inl rfl) (aJ GR r4 (by rfl) mR kR bR .nil aM (aa (pv 0) (aa (pv 1) (aa (pv 2) ao)))))
  (ak (bu (eV (jw (pv 3))) (aq (aQ (eY MI GI r2 (by rfl) VK.gl bI .nil aM (aa (cA cj (pv 3) aF (fun _ _=>rfl)) (aa (cA cj (pv 3) aF (fun _ _=>rfl)) (aa aF (aa (pv 1) ao))))))) aU)
  (ak (TX (C:=CN) (by rfl) XN.gl XN.ty XN.be XN.cl rfl rfl
   (fun D pn E' pass=>aq (bc (i:=4) yh.nd rfl (Or.inl rfl) (aJ GC hr (by rfl) mC kC bC .nil pass (aa (pv 0) (aa (pv 1) ao)))))
   (fun pn a=>by exact aq (aQ (O6 MH GH r2 (by rfl) VK.gl bH .nil (aa aX (aa aF (aa aF (aa (pv 1) ao))))))))
  (aq (aQ (eY MI GI r2 (by rfl) VK.gl bI .nil aM (aa aX (aa aF (aa (cA cj (pv 4) aF (fun _ _=>rfl)) (aa (cA cj (pv 4) aF (fun _ _=>rfl)) ao))))))))),?_⟩
 try dsimp only [bU]
 have mk4:∀ {H1:Hp} {x dx:Addr} {c:Str} {pl:Int} {ans:V} {p:Addr},H1 x=none->H1 dx=none->dx≠x->aR H H1->c=(n8 ns rs mk dd).1->pl=(n8 ns rs mk dd).2->(c="ok"->wJ CT CC H1 (Uc ns dd) (Rw rs dd) p/\wH H1 rs ans dd) ->
   Q (.ref x) (bQ (bQ H1 dx (.own x)) x (.ins CV dx (sr (.str c) (.int pl) ans (.ref p)))):=fun {H1 x dx c pl ans p} hx hdx hne s1 e1 e2 ho=>by
  have s2:=uU (C:=CV) (fs:=sr (.str c) (.int pl) ans (.ref p)) hx hdx hne
  refine q x dx ans p _ (s1.trans s2) (by rw [<- e1,<- e2];exact aj) fun ek=>?_
  obtain ⟨o1,o2⟩:=ho (e1.trans ek)
  exact ⟨o1.same s2,o2.same s2⟩
 refine ⟨_,rfl,_,rfl,_,rfl,y,d,mv,H0,sm,ns,rs,mk,dd,rfl,hA,fun c p hc u H1 s1 hu=>?_,fun hc H1 s1=>?_⟩
 .have e1:n8 ns rs mk dd=(c,p):=by unfold n8;rw [hc]
  refine ⟨_,rfl,_,rfl,eG (B:=True) ?_⟩
  refine ⟨_,rfl,u,_,_,_,rfl,rfl,cZ.of hu,rfl,_,rfl,u,_,_,_,rfl,rfl,cZ.of hu,rfl,_,rfl,?_⟩
  intro x dx hx hdx hne
  refine ⟨x,dx,_,_,_,_,rfl,aj,rfl,?_⟩
  rw [bY]
  exact mk4 hx hdx hne s1 (by rw [e1]) (by rw [e1]) fun e=>absurd e (V1 hc)
 .refine ⟨_,rfl,_,rfl,cJ (A:=True) ?_⟩
  have hmis:=Tr hc
  refine ⟨_,rfl,_,rfl,y,d,mv,H0,sm,ns,rs,mk,dd,rfl,hA.same s1,hnl,hmis,fun hcon H2 s2=>⟨XN.self,?_⟩,fun hcon u ans p H2 s2 hu hS2 hA2=>?_⟩
  .have e1:n8 ns rs mk dd=(Str.ofString "constraint",(0:Int)):=by unfold n8;rw [hc];show (if My dd=true then _ else _)=_;rw [if_pos hcon]
   refine ⟨_,rfl,?_⟩
   intro x dx hx hdx hne
   refine ⟨x,dx,_,_,_,_,rfl,aj,rfl,?_⟩
   rw [bY]
   exact mk4 hx hdx hne (s1.trans s2) (by rw [e1]) (by rw [e1]) fun e=>absurd e dk
  .have e1:n8 ns rs mk dd=(Str.ofString "ok",(0:Int)):=by unfold n8;rw [hc];show (if My dd=true then _ else _)=_;rw [if_neg (by rw [hcon];decide)]
   refine ⟨_,rfl,u,_,_,_,rfl,rfl,cZ.of hu,rfl,_,rfl,u,_,_,_,rfl,rfl,cZ.of hu,rfl,?_⟩
   intro x dx hx hdx hne
   refine ⟨x,dx,_,_,_,_,rfl,aj,rfl,?_⟩
   rw [bY]
   exact mk4 hx hdx hne (s1.trans s2) (by rw [e1]) (by rw [e1]) fun _=>⟨hS2,hA2⟩
end
section
variable{P:Program}{w:World}{K:PySem.W.Frag}{mg:Str->Option Value}{base:Heap}
noncomputable def T4(CB:Addr):Sp:=fun vs H Q _=>∃ (y dx d p:Addr) (st mv:V),vs=[.ref y,.ref p]/\H y=some (.ins CB dx (gH st (.ref d) mv (.bl false)))/\mv≠.non/\Q .non (bQ H y (.ins CB dx (gH st (.ref p) mv (.bl false))))
theorem MN:aG ["base","behind"] ["base","behind"] (az yr):=d9
theorem Vw(F:dq K "change" "change" yr f fd)(cB:jQ K CB)(nB:f9 K CB ["store","state","marks","dead"]):bf P w K mg base cX 1 f fd ["base","behind"] (T4 CB):=by
 refine F.oq MN ?_
 rintro _ A _ _ H _ Q _ hr ⟨y,dx,d,p,st,mv,rfl,hy,hm,q⟩
 refine ⟨_,ak (bu (eV (lK (aY (pv 0) rfl))) aV aU) (aq (b7 (pv 0) (pv 1) rfl)),?_⟩
 try dsimp only [bU]
 refine ⟨_,rfl,y,CB,dx,_,_,rfl,hy,cB,nB.2.2.1,rfl,_,rfl,?_⟩
 rw [decide_eq_false hm]
 exact cJ (A:=True) ⟨_,rfl,_,rfl,y,CB,dx,_,rfl,hy,cB,nB.2.1,by show 4<1000;decide,q⟩
noncomputable def VL(CB:Addr)(H:Hp)(y dx d p:Addr)(st mv:V)(Q:VK):Dd->Prop
 | .beg=>∀ m,H m=none->Q .non (bQ (bQ H m (.lst [])) y (.ins CB dx (gH st (.ref d) (.ref m) (.bl false))))
 | .sav z _=>∃ m ms,mv=.ref m/\H m=some (.lst ms)/\ms.length<1000/\∀ t,H t=none->Q .non (bQ (bQ H t (.tup [.str z,.ref d])) m (.lst (ms++[.ref t])))
 | .crt _ _ _=>mv≠.non/\Q .non (bQ H y (.ins CB dx (gH st (.ref p) mv (.bl false))))
 | .ins _ _=>mv≠.non/\Q .non (bQ H y (.ins CB dx (gH st (.ref p) mv (.bl false))))
 | _=>Q .non H
noncomputable def yd(CB CS:Addr):Sp:=fun vs H Q _=>∃ (y dx d ys p:Addr) (st mv:V) (H0:Hp) (sm:ut) (dd:Dd),vs=[.ref y,.ref ys,.ref p]/\H y=some (.ins CB dx (gH st (.ref d) mv (.bl false)))/\fj CS H0 H sm (.ref ys)/\dd.says sm/\VL CB H y dx d p st mv Q dd
theorem Be:aG ["base","statement","behind","kind"] ["base","statement","behind"] (az xm):=d9
theorem Nq(F:dq K "settle" "settle" xm f fd)(J:Ui K mg)(U:YJ mg)(TS:yc K mg CS fS)(cB:jQ K CB)(nB:f9 K CB ["store","state","marks","dead"])(GC:eZ P w K mg base 1 "change" ["base","behind"] (T4 CB)) :
  bf P w K mg base cX 2 f fd ["base","statement","behind"] (yd CB CS):=by
 obtain ⟨fC,fdC,mC,kC,GC,bC⟩:=GC.ex
 obtain ⟨t1,mb⟩:=J.begin
 obtain ⟨t2,mc⟩:=J.commit
 obtain ⟨t3,mr⟩:=J.rollback
 obtain ⟨t4,mt⟩:=J.rollbackTo
 obtain ⟨t5,ms⟩:=J.savepoint
 obtain ⟨t6,me⟩:=U.se
 refine F.oq Be ?_
 rintro _ _ _ _ H _ Q _ hr ⟨y,dx,d,ys,p,st,mv,H0,sm,dd,rfl,hy,hS,hsy,q⟩
 obtain ⟨y',ta,co,ex,ch,wh,od,e,⟨_,dy,hys⟩,hT,_⟩:=hS
 cases e
 refine ⟨_,ak (bc (i:=3) Be.nd rfl (Or.inl rfl) (aY (pv 1) rfl))
  (aq (bu (aZ dG (pv 3) (aN (by rfl) mb (v:=.str "begin") ⟨_,rfl⟩) (bh _)) (aq (b7 (pv 0) (eO ao) rfl))
  (aq (bu (aZ dG (pv 3) (aN (by rfl) mc (v:=.str "commit") ⟨_,rfl⟩) (bh _)) aV
  (aq (bu (aZ dG (pv 3) (aN (by rfl) mr (v:=.str "rollback") ⟨_,rfl⟩) (bh _)) aV
  (aq (bu (aZ dG (pv 3) (aN (by rfl) ms (v:=.str "savepoint") ⟨_,rfl⟩) (bh _)) (aq (bz (lB PySem.F.plainAttrs_list PySem.F.slot_list_append PySem.F.type_list_append gj (aY (pv 0) rfl) (aa (b8 (aa (cA cj (aY (pv 1) rfl) aF (fun _ _=>rfl)) (aa (aY (pv 0) rfl) ao))) ao))))
  (aq (bu (aZ dG (pv 3) (aN (by rfl) mt (v:=.str "rollback to") ⟨_,rfl⟩) (bh _)) aV
  (aq (bu (aZ qi (pv 3) (aN (by rfl) me (v:=.str "select") ⟨_,rfl⟩) (bh _)) (aq (bz (aJ GC hr (by rfl) mC kC bC .nil aM (aa (pv 0) (aa (pv 2) ao))))) aU)))))))))))),?_⟩
 try dsimp only [bU]
 cases dd with
 | beg =>
  rw [hsy.1] at hys
  refine ⟨_,rfl,ys,CS,dy,_,_,rfl,hys,TS.cl,TS.nKi,rfl,?_⟩
  refine ⟨_,rfl,rfl,_,rfl,jt dk ?_⟩
  exact ⟨Nat.zero_le _,fun m hm=>⟨_,rfl,y,CB,dx,_,rfl,au hm _ _ hy,cB,nB.2.2.1,by show 4<1000;decide,q m hm⟩⟩
 | sav z n =>
  rw [hsy.1] at hys
  rw [hsy.2] at hT
  obtain ⟨t,rfl,ht⟩:=hT
  obtain ⟨m,mms,rfl,hm,hl,q⟩:=q
  refine ⟨_,rfl,ys,CS,dy,_,_,rfl,hys,TS.cl,TS.nKi,rfl,?_⟩
  refine ⟨_,rfl,rfl,_,rfl,di dk ?_⟩
  refine ⟨_,rfl,rfl,_,rfl,di dk ?_⟩
  refine ⟨_,rfl,rfl,_,rfl,di dk ?_⟩
  refine ⟨_,rfl,rfl,_,rfl,jt dk ?_⟩
  refine ⟨_,rfl,y,CB,dx,_,_,rfl,hy,cB,nB.2.2.1,rfl,W0 hm,_,rfl,ys,CS,dy,_,_,rfl,hys,TS.cl,TS.nTa,rfl,t,_,0,_,rfl,rfl,cZ.of ht,rfl,_,rfl,y,CB,dx,_,_,rfl,hy,cB,nB.2.1,rfl,zF,fun u hu=>?_⟩
  exact ⟨m,mms,_,rfl,rfl,au hu _ _ hm,Nat.lt_of_lt_of_le hl (by decide),q u hu⟩
 | crt z n zs =>
  rw [hsy.1] at hys
  refine ⟨_,rfl,ys,CS,dy,_,_,rfl,hys,TS.cl,TS.nKi,rfl,?_⟩
  refine ⟨_,rfl,rfl,_,rfl,di dk ?_⟩
  refine ⟨_,rfl,rfl,_,rfl,di dk ?_⟩
  refine ⟨_,rfl,rfl,_,rfl,di dk ?_⟩
  refine ⟨_,rfl,rfl,_,rfl,di dk ?_⟩
  refine ⟨_,rfl,rfl,_,rfl,di dk ?_⟩
  refine ⟨_,rfl,rfl,_,rfl,jt dk ?_⟩
  exact ⟨_,rfl,_,rfl,y,dx,d,p,st,mv,rfl,hy,q.1,q.2⟩
 | ins n vals =>
  rw [hsy.1] at hys
  refine ⟨_,rfl,ys,CS,dy,_,_,rfl,hys,TS.cl,TS.nKi,rfl,?_⟩
  refine ⟨_,rfl,rfl,_,rfl,di dk ?_⟩
  refine ⟨_,rfl,rfl,_,rfl,di dk ?_⟩
  refine ⟨_,rfl,rfl,_,rfl,di dk ?_⟩
  refine ⟨_,rfl,rfl,_,rfl,di dk ?_⟩
  refine ⟨_,rfl,rfl,_,rfl,di dk ?_⟩
  refine ⟨_,rfl,rfl,_,rfl,jt dk ?_⟩
  exact ⟨_,rfl,_,rfl,y,dx,d,p,st,mv,rfl,hy,q.1,q.2⟩
 | sel n o =>
  rw [hsy.1] at hys
  refine ⟨_,rfl,ys,CS,dy,_,_,rfl,hys,TS.cl,TS.nKi,rfl,?_⟩
  refine ⟨_,rfl,rfl,_,rfl,di dk ?_⟩
  refine ⟨_,rfl,rfl,_,rfl,di dk ?_⟩
  refine ⟨_,rfl,rfl,_,rfl,di dk ?_⟩
  refine ⟨_,rfl,rfl,_,rfl,di dk ?_⟩
  refine ⟨_,rfl,rfl,_,rfl,di dk ?_⟩
  exact ⟨_,rfl,rfl,_,rfl,di dk q⟩
 | mis z n =>
  rw [hsy.1] at hys
  refine ⟨_,rfl,ys,CS,dy,_,_,rfl,hys,TS.cl,TS.nKi,rfl,?_⟩
  refine ⟨_,rfl,rfl,_,rfl,di dk ?_⟩
  refine ⟨_,rfl,rfl,_,rfl,di dk ?_⟩
  refine ⟨_,rfl,rfl,_,rfl,di dk ?_⟩
  refine ⟨_,rfl,rfl,_,rfl,di dk ?_⟩
  refine ⟨_,rfl,rfl,_,rfl,di dk ?_⟩
  exact ⟨_,rfl,rfl,_,rfl,di dk q⟩
end
theorem Jc(h:f≠g):(HO.ins C dx ((f,a)::fs))≠.ins D dy ((g,b)::gs):=fun z=>by
 injection z with _ _ z
 injection z with z _
 injection z with z _
 exact h z
noncomputable def JS(y:Addr)(H H':Hp):Prop:=∀ b o,H b=some o->b≠y->(∀ ys,o≠.lst ys)->H' b=some o
section
variable{CB CT CC y dx d:Addr}{st mv dv:V}{H H':Hp}{ns:List Str}{rs:List Int}
theorem qW.but(hy:H y=some (.ins CB dx (gH a b c e)))(k:JS y H H')(h:qW CT CC H rs v):qW CT CC H' rs v:=by
 obtain ⟨t,tdx,cs,c',rw,xs,e,h1,h2,⟨ca,cdx,ec,h3⟩,h4,h5⟩:=h
 have n1:t≠y:=gA h1 hy (Jc dk)
 have n3:ca≠y:=gA h3 hy (Jc dk)
 have n2:cs≠y:=gA h2 hy (fun z=>by cases z)
 have n4:rw≠y:=gA h4 hy (fun z=>by cases z)
 refine ⟨t,tdx,cs,c',rw,xs,e,k _ _ h1 n1 (fun _ z=>by cases z),k _ _ h2 n2 (fun _ z=>by cases z),⟨ca,cdx,ec,k _ _ h3 n3 (fun _ z=>by cases z)⟩,k _ _ h4 n4 (fun _ z=>by cases z),L2.Paired.imp' (fun _ _ ⟨u,e,g⟩=>⟨u,e,k _ _ g (gA g hy (fun z=>by cases z)) (fun _ z=>by cases z)⟩) h5⟩
theorem Ek(hy:H y=some (.ins CB dx (gH a b c e)))(k:JS y H H')(h:wJ CT CC H ns rs d):wJ CT CC H' ns rs d:=by
 obtain ⟨kvs,h1,h2,h3⟩:=h
 exact ⟨kvs,k _ _ h1 (gA h1 hy (fun z=>by cases z)) (fun _ z=>by cases z),h2,fun v e=>(h3 v e).but hy k⟩
end
section
variable{P:Program}{w:World}{K:PySem.W.Frag}{mg:Str->Option Value}{base:Heap}
noncomputable def Xj(CB CT CC:Addr)(H:Hp)(y dx d:Addr)(st mv:V)(ns:List Str)(rs:List Int)(Q:VK):Dd->Prop
 | .beg=>∀ t m H',H m=none->cg [y] H H'->H' t=some (.tup [.str "ok",.int 0,.int 0])->H' y=some (.ins CB dx (gH st (.ref d) (.ref m) (.bl false)))->H' m=some (.lst [])->Q (.ref t) H'
 | .sav _ _=>∀ t m ms u H',mv=.ref m->H m=some (.lst ms)->cg [m] H H'->H' t=some (.tup [.str "ok",.int 0,.int 0])->H' m=some (.lst (ms++[.ref u]))->Q (.ref t) H'
 | .crt z n zs=>∀ t p H',cg [y] H H'->H' t=some (.tup [.str "ok",.int 0,.int 0])->H' y=some (.ins CB dx (gH st (.ref p) mv (.bl false)))->wJ CT CC H' (Uc ns (.crt z n zs)) (Rw rs (.crt z n zs)) p->Q (.ref t) H'
 | .ins n vals=>∀ t p H',cg [y] H H'->H' t=some (.tup [.str "ok",.int 0,.int 1])->H' y=some (.ins CB dx (gH st (.ref p) mv (.bl false)))->wJ CT CC H' ns (Rw rs (.ins n vals)) p->Q (.ref t) H'
 | .sel n o=>∀ t ans H',aR H H'->H' t=some (.tup [.str "ok",.int 0,ans])->wH H' rs ans (.sel n o)->Q (.ref t) H'
 | .mis _ _=>True
noncomputable def Jg(CB CT CC:Addr):Sp:=fun vs H Q _=>∃ (y dx d:Addr) (st mv:V) (z:Str) (sm:ut) (ns:List Str) (rs:List Int) (mk:Option Nat) (dd:Dd),vs=[.ref y,.str z]/\H y=some (.ins CB dx (gH st (.ref d) mv (.bl false)))/\wJ CT CC H ns rs d/\XQ H mv mk /\
 z.length<=1000000/\39∉z.cps.toList/\(∀ l∈gh z.length z.cps.toList,JL (mkS l))/\TQ (iU z)=.ok sm/\Ay sm/\dd.says sm/\dd.at_ ns/\dd.in_ mk/\rs.length<=100/\ns.length<=100/\mk.getD 0<=100 /\
 ((n8 ns rs mk dd).1≠"ok"->∀ t H',aR H H'->H' t=some (.tup [.str (n8 ns rs mk dd).1,.int (n8 ns rs mk dd).2,.int 0])->Q (.ref t) H')/\((n8 ns rs mk dd).1="ok"->Xj CB CT CC H y dx d st mv ns rs Q dd)
theorem Wc(F:dq K "run" "run" Qg f fd)(cB:jQ K CB)(nB:f9 K CB ["store","state","marks","dead"])(cV:jQ K CV)(nV:f9 K CV ["code","place","answer","state"])
  (GS:eZ P w K mg base 211 "read_statement" ["text"] (xM C CS)) (GJ:eZ P w K mg base 7 "judge" ["statement","state","marks"] (Ku CS CT CC CV)) (GT:eZ P w K mg base 2 "settle" ["base","statement","behind"] (yd CB CS)):bf P w K mg base cX 212 f fd ["base","text"] (Jg CB CT CC):=by
 obtain ⟨fS,fdS,mS,kS,GS,bS⟩:=GS.ex
 obtain ⟨fJ,fdJ,mJ,kJ,GJ,bJ⟩:=GJ.ex
 obtain ⟨fT,fdT,mT,kT,GT,bT⟩:=GT.ex
 refine F.oq JC ?_
 rintro _ A _ _ H _ Q E hr ⟨y,dx,d,st,mv,z,sm,ns,rs,mk,dd,rfl,hy,hSt,hMk,hz,hq,hp,hps,hpl,hsy,hat,hin,hrl,hnl,hmk,qn,qo⟩
 have r7:cO 7 _:=hr.mono (by omega)
 have r2:cO 2 _:=hr.mono (by omega)
 refine ⟨_,ak (bu (cu (aY (pv 0) rfl)) aV aU)
  (ak (Kg (fun pn E'=>aq (bc (i:=2) JC.nd rfl (Or.inl rfl) (aJ GS hr (by rfl) mS kS bS .nil aM (aa (pv 1) ao)))))
  (ak (bc (i:=4) JC.nd rfl (Or.inl rfl) (aJ GJ r7 (by rfl) mJ kJ bJ .nil aM (aa (pv 2) (aa (aY (pv 0) rfl) (aa (aY (pv 0) rfl) ao)))))
  (ak (bu (aZ qi (aY (pv 4) rfl) aX (bh _)) (aq (aQ (b8 (aa (aY (pv 4) rfl) (aa (aY (pv 4) rfl) (aa aF ao)))))) aU)
  (ak (Kg (tb:=xB (gD (yd CB CS) [] E0 (aW (cP 0) (aW (cP 2) (aW (QL K (cP 4) "state") cW))))) (fun pn E'=>by exact aq (bz (aJ GT r2 (by rfl) mT kT bT .nil aM (aa (pv 0) (aa (pv 2) (aa (aY (pv 4) rfl) ao)))))))
  (aq (aQ (b8 (aa aX (aa aF (aa (aY (pv 4) rfl) ao)))))))))),?_⟩
 try dsimp only [bU]
 refine ⟨_,rfl,y,CB,dx,_,_,rfl,hy,cB,nB.2.2.2.1,rfl,_,rfl,cJ (A:=True) ?_⟩
 refine ⟨_,rfl,z,sm,rfl,hz,hq,hp,hps,fun H1 v s1 hS=>?_⟩
 obtain ⟨yv,ev⟩:∃ yv,v=.ref yv:=by obtain ⟨yv,_,_,_,_,_,_,ev,_⟩:=hS;exact ⟨yv,ev⟩
 subst ev
 refine ⟨_,rfl,_,rfl,y,CB,dx,_,_,rfl,s1 _ _ hy,cB,nB.2.1,rfl,_,rfl,y,CB,dx,_,_,rfl,s1 _ _ hy,cB,nB.2.2.1,rfl,yv,d,mv,H,sm,ns,rs,mk,dd,rfl,⟨hS,hpl,hsy,hSt.same s1,hat,hMk.same s1,hin,hrl⟩,hnl,fun u du ans p H2 s2 hu hok=>?_⟩
 have s12:=s1.trans s2
 have hy2:=s12 _ _ hy
 refine ⟨_,rfl,u,CV,du,_,_,rfl,hu,cV,nV.1,rfl,rfl,_,rfl,Aw (fun hne=>?_) (fun he=>?_)⟩
 .refine ⟨_,rfl,u,CV,du,_,_,rfl,hu,cV,nV.1,rfl,_,rfl,u,CV,du,_,_,rfl,hu,cV,nV.2.1,rfl,z8,fun t ht=>?_⟩
  exact qn hne t _ (s12.trans (au ht)) aj
 .obtain ⟨hS2,hA2⟩:=hok he
  have q:=qo he
  refine ⟨_,rfl,_,rfl,_,rfl,u,CV,du,_,_,rfl,hu,cV,nV.2.2.2.1,rfl,y,dx,d,yv,p,st,mv,H,sm,dd,rfl,hy2,hS.keep s2,hsy,?_⟩
  have nuy:u≠y:=gA hu hy2 (Jc dk)
  have Am:∀ {b:Addr},H2 b=none->H b=none:=fun {b} e=>by
   cases q:H b with
   | none=>rfl
   | some o=>rw [s12 _ _ q] at e;cases e
  cases dd with
  | mis n o=>exact absurd he (show (Str.ofString "name")≠Str.ofString "ok" from dk)
  | beg =>
   cases (show ans=.int 0 from hA2)
   intro m hm
   have nym:y≠m:=fun z=>by rw [z,hm] at hy2;cases hy2
   have s3:=au (o:=.lst []) hm
   refine ⟨_,rfl,u,CV,du,_,_,rfl,by rw [aA nuy];exact s3 _ _ hu,cV,nV.2.2.1,rfl,z8,fun t ht=>?_⟩
   have s4:=au (o:=.tup [.str "ok",.int 0,.int 0]) ht
   refine q t m _ (Am hm) (fun b o e nb=>s4 _ _ ?_) aj (s4 _ _ aj) (s4 _ _ ?_)
   .rw [aA (by simpa using nb)];exact s3 _ _ (s12 _ _ e)
   .rw [aA (Ne.symm nym),aj]
  | sav z' n =>
   cases (show ans=.int 0 from hA2)
   obtain ⟨k,rfl⟩:=hin
   obtain ⟨m,mms,rfl,hm,hml⟩:=hMk
   refine ⟨m,mms,rfl,s12 _ _ hm,by have:k<=100:=hmk;omega,fun t ht=>?_⟩
   have s3:=au (o:=.tup [.str z',.ref d]) ht
   have hum:u≠m:=gA hu (s12 _ _ hm) (fun z=>by cases z)
   refine ⟨_,rfl,u,CV,du,_,_,rfl,by rw [aA hum];exact s3 _ _ hu,cV,nV.2.2.1,rfl,z8,fun t2 ht2=>?_⟩
   have s4:=au (o:=.tup [.str "ok",.int 0,.int 0]) ht2
   refine q t2 m mms t _ rfl hm (fun b o e nb=>s4 _ _ ?_) aj (s4 _ _ aj)
   rw [aA (by simpa using nb)];exact s3 _ _ (s12 _ _ e)
  | crt z' n zs =>
   cases (show ans=.int 0 from hA2)
   obtain ⟨k,rfl⟩:=hin
   obtain ⟨m,mms,rfl,hm,hml⟩:=hMk
   refine ⟨(fun z=>by cases z),?_⟩
   have kb:JS y H2 (bQ H2 y (.ins CB dx (gH st (.ref p) (.ref m) (.bl false)))):=fun b o e nb _=>by rw [aA nb];exact e
   refine ⟨_,rfl,u,CV,du,_,_,rfl,by rw [aA nuy];exact hu,cV,nV.2.2.1,rfl,z8,fun t ht=>?_⟩
   have s4:=au (o:=.tup [.str "ok",.int 0,.int 0]) ht
   refine q t p _ (fun b o e nb=>s4 _ _ ?_) aj (s4 _ _ aj) ((Ek hy2 kb hS2).same s4)
   rw [aA (by simpa using nb)];exact s12 _ _ e
  | ins n vals =>
   cases (show ans=.int 1 from hA2)
   obtain ⟨k,rfl⟩:=hin
   obtain ⟨m,mms,rfl,hm,hml⟩:=hMk
   refine ⟨(fun z=>by cases z),?_⟩
   have kb:JS y H2 (bQ H2 y (.ins CB dx (gH st (.ref p) (.ref m) (.bl false)))):=fun b o e nb _=>by rw [aA nb];exact e
   refine ⟨_,rfl,u,CV,du,_,_,rfl,by rw [aA nuy];exact hu,cV,nV.2.2.1,rfl,z8,fun t ht=>?_⟩
   have s4:=au (o:=.tup [.str "ok",.int 0,.int 1]) ht
   refine q t p _ (fun b o e nb=>s4 _ _ ?_) aj (s4 _ _ aj) ((Ek hy2 kb hS2).same s4)
   rw [aA (by simpa using nb)];exact s12 _ _ e
  | sel n o =>
   refine ⟨_,rfl,u,CV,du,_,_,rfl,hu,cV,nV.2.2.1,rfl,z8,fun t ht=>?_⟩
   have s4:=au (o:=.tup [.str "ok",.int 0,ans]) ht
   exact q t ans _ (s12.trans s4) aj (hA2.same s4)
end
noncomputable def Ur:List Ao->Option (Option Int)
 | [(k,v,p)]=>if k="value"/\p=0 then (match v with | .int n=>some (some n) | .non=>some none | _=>none) else none
 | _=>none
noncomputable def Di:List (List Ao)->Option (List (Option Int))
 | []=>some []
 | e::r=>match Ur e,Di r with
  | some v,some vs=>some (v::vs)
  | _,_=>none
noncomputable def T8:List Ao->Option Int
 | [(k,v,p)]=>if k="column"/\v=.str "x" then some p else none
 | _=>none
noncomputable def Ci:List (List Ao)->Option (List Int)
 | []=>some []
 | e::r=>match T8 e,Ci r with
  | some v,some vs=>some (v::vs)
  | _,_=>none
noncomputable def KQ:List Uh->Option (List Str)
 | []=>some []
 | c::r=>match c.1,KQ r with
  | .str z,some zs=>some (z::zs)
  | _,_=>none
noncomputable def Ze:List Uh->Bool
 | [c]=>decide (c.1=.str "x") && decide (c.2.2.1=.str "int") && c.2.2.2.1 && !c.2.2.2.2
 | _=>false
noncomputable def YZ(sm:ut):Option Dd:=match sm.target with
 | none=>if sm.kind="begin" then (match sm.exprs with | some []=>some .beg | _=>none) else none
 | some (.str z,n)=>if sm.kind="savepoint" then some (.sav z n)
  else if sm.kind="create table" then (match KQ sm.cols with
   | some zs=>if zs.Nodup/\zs.length<=1000/\(z="a"->Ze sm.cols=true) then some (.crt z n zs) else none
   | none=>none)
  else if sm.kind="insert" then (if z="a" then (match sm.exprs with
   | some es=>(match Di es with
    | some vs=>if vs.length<=1000 then some (.ins n vs) else none
    | none=>none)
   | none=>none) else none)
  else if sm.kind="select" then (if z="a" then (match sm.exprs with
   | none=>some (.sel n none)
   | some es=>(match Ci es with
    | some ps=>if ps.length<=1000 then some (.sel n (some ps)) else none
    | none=>none)) else some (.mis z n))
  else none
 | _=>none
noncomputable def NQ(z:Str):Option Dd:=match TQ (iU z) with
 | .error _=>none
 | .ok sm=>if sm.chs.isEmpty/\sm.wher.isNone/\sm.order.isNone/\sm.limit.isNone then YZ sm else none
theorem xA:∀ {es:List (List Ao)} {vs:List (Option Int)},Di es=some vs->es=vs.map zX
 | [],_,h=>by cases h;rfl
 | e::r,vs,h=>by
  unfold Di at h
  split at h
  .rename_i v ws h1 h2
   cases h
   have:e=zX v:=by
    unfold Ur at h1
    split at h1
    .split at h1
     .rename_i k v' p hk
      obtain ⟨rfl,rfl⟩:=hk
      split at h1 <;> cases h1 <;> rfl
     .cases h1
    .cases h1
   rw [List.map_cons,this,xA h2]
  .cases h
theorem xR:∀ {es:List (List Ao)} {ps:List Int},Ci es=some ps->es=ps.map Hr
 | [],_,h=>by cases h;rfl
 | e::r,vs,h=>by
  unfold Ci at h
  split at h
  .rename_i v ws h1 h2
   cases h
   have:e=Hr v:=by
    unfold T8 at h1
    split at h1
    .split at h1
     .rename_i k v' p hk
      obtain ⟨rfl,rfl⟩:=hk
      cases h1;rfl
     .cases h1
    .cases h1
   rw [List.map_cons,this,xR h2]
  .cases h
theorem Br:∀ {cs:List Uh} {zs:List Str},KQ cs=some zs->cs.map (·.1)=zs.map V.str
 | [],_,h=>by cases h;rfl
 | c::r,zs,h=>by
  unfold KQ at h
  split at h
  .rename_i z ws h1 h2
   cases h
   rw [List.map_cons,List.map_cons,h1,Br h2]
  .cases h
theorem Mp(h:Ze cs=true):∃ p,cs=[VN p]:=by
 unfold Ze at h
 split at h
 .rename_i c
  obtain ⟨a,p,b,x,y⟩:=c
  simp only [Bool.and_eq_true,decide_eq_true_eq,Bool.not_eq_true'] at h
  obtain ⟨⟨⟨rfl,rfl⟩,rfl⟩,rfl⟩:=h
  exact ⟨p,rfl⟩
 .cases h
theorem M9(h:YZ sm=some dd):dd.says sm:=by
 unfold YZ at h
 split at h
 .rename_i ht
  split at h
  .rename_i hk
   split at h
   .rename_i he;cases h;exact ⟨hk,ht,he⟩
   .cases h
  .cases h
 .rename_i z n ht
  split at h
  .rename_i hk;cases h;exact ⟨hk,ht⟩
  .split at h
   .rename_i hk
    split at h
    .rename_i zs hz
     split at h
     .rename_i hc;cases h;exact ⟨hk,ht,Br hz,hc.1,hc.2.1,fun e=>Mp (hc.2.2 e)⟩
     .cases h
    .cases h
   .split at h
    .rename_i hk
     split at h
     .rename_i hz
      subst hz
      split at h
      .rename_i es he
       split at h
       .rename_i vs hv
        split at h
        .rename_i hl;cases h;exact ⟨hk,ht,by rw [he,xA hv],hl⟩
        .cases h
       .cases h
      .cases h
     .cases h
    .split at h
     .rename_i hk
      split at h
      .rename_i hz
       subst hz
       split at h
       .rename_i he;cases h;exact ⟨hk,ht,he,by decide⟩
       .rename_i es he
        split at h
        .rename_i ps hp
         split at h
         .rename_i hl;cases h;exact ⟨hk,ht,by rw [he,xR hp];rfl,hl⟩
         .cases h
        .cases h
      .cases h;exact ⟨hk,ht⟩
     .cases h
 .cases h
theorem xU(h:NQ z=some dd):∃ sm,TQ (iU z)=.ok sm/\Ay sm/\dd.says sm:=by
 unfold NQ at h
 split at h
 .cases h
 .rename_i sm hs
  split at h
  .rename_i hc
   exact ⟨sm,hs,⟨List.isEmpty_iff.mp hc.1,Option.isNone_iff_eq_none.mp hc.2.1,Option.isNone_iff_eq_none.mp hc.2.2.1,Option.isNone_iff_eq_none.mp hc.2.2.2⟩,M9 h⟩
  .cases h
noncomputable def PK(z:Str):Bool:=decide (z.length<=1000) && (z.cps.toList.all fun c=>decide (c≠39)) && (gh z.length z.cps.toList).all fun l=>decide ((jN (mkS l)).1≠"wrong")
theorem Bm(h:PK z=true):z.length<=1000000/\39∉z.cps.toList/\∀ l∈gh z.length z.cps.toList,JL (mkS l):=by
 unfold PK at h
 obtain ⟨h12,h3⟩:=Bool.and_eq_true_iff.mp h
 obtain ⟨h1,h2⟩:=Bool.and_eq_true_iff.mp h12
 have h1:=of_decide_eq_true h1
 exact ⟨by omega,fun m=>of_decide_eq_true (List.all_eq_true.mp h2 39 m) rfl,fun l hl=>(of_decide_eq_true (List.all_eq_true.mp h3 l hl):(jN (mkS l)).1≠"wrong")⟩
noncomputable def Bs(CB CT CC:Addr)(H:Hp)(y m:Addr)(ns:List Str)(rs:List Int)(k:Nat):Prop:=∃ (dx d:Addr) (st:V) (ms:List V),H y=some (.ins CB dx (gH st (.ref d) (.ref m) (.bl false)))/\wJ CT CC H ns rs d/\H m=some (.lst ms)/\ms.length=k
theorem Bs.same(s:aR H H')(h:Bs CB CT CC H y m ns rs k):Bs CB CT CC H' y m ns rs k:=let ⟨dx,d,st,ms,h1,h2,h3,h4⟩:=h;⟨dx,d,st,ms,s _ _ h1,h2.same s,s _ _ h3,h4⟩
noncomputable def kF(k:Nat):Dd->Nat
 | .sav _ _=>k+1
 | _=>k
section
variable{P:Program}{w:World}{K:PySem.W.Frag}{mg:Str->Option Value}{base:Heap}{CB CT CC:Addr}
noncomputable def DW(CB CT CC:Addr):Sp:=fun vs H Q _=>∃ y,vs=[.ref y,.str "begin"]/\Us CB H (.ref y)/\∀ t m H',H m=none->cg [y] H H'->Bs CB CT CC H' y m [] [] 0->Q (.ref t) H'
noncomputable def iY(CB CT CC:Addr):Sp:=fun vs H Q _=>∃ (y m:Addr) (z:Str) (ns:List Str) (rs:List Int) (k:Nat) (dd:Dd),vs=[.ref y,.str z]/\Bs CB CT CC H y m ns rs k/\PK z=true/\NQ z=some dd/\dd≠.beg/\dd.at_ ns/\rs.length<=100/\ns.length<=100/\k<=100 /\
 ((n8 ns rs (some k) dd).1≠"ok"->∀ t H',aR H H'->H' t=some (.tup [.str (n8 ns rs (some k) dd).1,.int (n8 ns rs (some k) dd).2,.int 0])->Q (.ref t) H') /\
 ((n8 ns rs (some k) dd).1="ok"->∀ t ans H',cg [y,m] H H'->H' t=some (.tup [.str "ok",.int 0,ans])->wH H' rs ans dd->((∃ n o,dd=.sel n o)->aR H H')->Bs CB CT CC H' y m (Uc ns dd) (Rw rs dd) (kF k dd)->Q (.ref t) H')
theorem Sh(G:bf P w K mg base cX 212 f fd ["base","text"] (Jg CB CT CC)):bf P w K mg base cX 212 f fd ["base","text"] (DW CB CT CC) :=
 G.imp fun vs H Q E ⟨y,e,⟨y',dx,d,st,ey,hy,hd⟩,q⟩=>by
  cases ey
  have hf:=Bm (z := "begin") dk
  obtain ⟨sm,hs,hp,hsy⟩:=xU (z := "begin") (dd:=.beg) dk
  refine ⟨y,dx,d,st,.non,"begin",sm,[],[],none,.beg,e,hy,⟨[],hd,rfl,fun v e=>nomatch e⟩,rfl,hf.1,hf.2.1,hf.2.2,hs,hp,hsy,trivial,rfl,Nat.zero_le _,Nat.zero_le _,Nat.zero_le _,fun h=>absurd dk h,fun _=>?_⟩
  intro t m H' hm st' ht hy' hm'
  exact q t m H' hm st' ⟨dx,d,st,[],hy',⟨[],st' _ _ hd (by simpa using gA hd hy (fun z=>by cases z)),rfl,fun v e=>nomatch e⟩,hm',rfl⟩
theorem Vy(G:bf P w K mg base cX 212 f fd ["base","text"] (Jg CB CT CC)):bf P w K mg base cX 212 f fd ["base","text"] (iY CB CT CC) :=
 G.imp fun vs H Q E h=>by
  obtain ⟨y,m,z,ns,rs,k,dd,e,⟨dx,d,st,ms,hy,hSt,hm,hml⟩,hfit,hdd,hnb,hat,hrl,hnl,hkl,qn,qo⟩:=h
  have hf:=Bm hfit
  obtain ⟨sm,hs,hp,hsy⟩:=xU hdd
  have nym:y≠m:=gA hy hm (fun z=>by cases z)
  have hin:dd.in_ (some k):=by
   cases dd with
   | beg=>exact absurd rfl hnb
   | _=>exact ⟨k,rfl⟩
  refine ⟨y,dx,d,st,.ref m,z,sm,ns,rs,some k,dd,e,hy,hSt,⟨m,ms,rfl,hm,hml⟩,hf.1,hf.2.1,hf.2.2,hs,hp,hsy,hat,hin,hrl,hnl,hkl,qn,fun he=>?_⟩
  have q:=qo he
  cases dd with
  | beg=>exact absurd rfl hnb
  | mis z n=>trivial
  | sav z n =>
   intro t m' ms' u H' em hm' st' ht hm2
   cases em
   rw [hm] at hm'
   cases hm'
   have hy':=st' _ _ hy (by simpa using nym)
   refine q t (.int 0) H' (fun b o e nb=>st' _ _ e (by simp only [List.mem_cons,List.not_mem_nil,or_false,not_or] at nb ⊢;exact nb.2)) ht rfl (fun ⟨_,_,z⟩=>nomatch z) ⟨dx,d,st,_,hy',?_,hm2,by rw [List.length_append,hml];rfl⟩
   exact Ek hy (fun b o e nb nl=>st' _ _ e (fun mm=>by rw [List.mem_singleton.mp mm,hm] at e;cases e;exact nl _ rfl)) hSt
  | crt z n zs =>
   intro t p H' st' ht hy' hS'
   exact q t (.int 0) H' (fun b o e nb=>st' _ _ e (by simp only [List.mem_cons,List.not_mem_nil,or_false,not_or] at nb ⊢;exact nb.1)) ht rfl (fun ⟨_,_,z⟩=>nomatch z) ⟨dx,p,st,ms,hy',hS',st' _ _ hm (by simpa using Ne.symm nym),hml⟩
  | ins n vals =>
   intro t p H' st' ht hy' hS'
   exact q t (.int 1) H' (fun b o e nb=>st' _ _ e (by simp only [List.mem_cons,List.not_mem_nil,or_false,not_or] at nb ⊢;exact nb.1)) ht rfl (fun ⟨_,_,z⟩=>nomatch z) ⟨dx,p,st,ms,hy',hS',st' _ _ hm (by simpa using Ne.symm nym),hml⟩
  | sel n o =>
   intro t ans H' s ht hA
   exact q t ans H' (fun b o e _=>s _ _ e) ht hA (fun _=>s) ⟨dx,d,st,ms,s _ _ hy,hSt.same s,s _ _ hm,hml⟩
end
section
variable{P:Program}{w:World}{K:PySem.W.Frag}{mg:Str->Option Value}{base:Heap}
noncomputable def J1:Sp:=fun vs H Q _=>∃ i:Int,vs=[.int i,.int i]/\Q (.bl true) H
theorem Hk:aG ["_law_found","_law_due"] ["_law_found","_law_due"] (az tZ):=d9
theorem Dm(F:dq K "_law_like" "_law_like" tZ f fd)(T:Ry mg)(GW:eZ P w K mg base 1 "_law_whole" ["_law_found"] uy):bf P w K mg base cX 2 f fd ["_law_found","_law_due"] J1:=by
 obtain ⟨fW,fdW,mW,kW,GW,bW⟩:=GW.ex
 refine F.oq Hk ?_
 rintro _ A _ _ H _ Q _ hr ⟨i,rfl,q⟩
 refine ⟨_,ak (bu (eV (lK (pv 1))) aV aU)
  (ak (bu (cu (bw gF (by rfl) T.isi PyProof.Rows.boot_isinstance (aa (pv 1) (aa (ir (v:=.ty "str") (by rfl) T.str PyProof.Rows.boot_str rfl) ao)))) aV aU)
  (aq (aQ (pH (aJ GW hr (by rfl) mW kW bW .nil aM (aa (pv 0) ao)) (jH (eQ dG (pv 0) (pv 1) (bh _))))))),?_⟩
 try dsimp only [bU]
 refine ⟨_,rfl,_,rfl,cJ (A:=True) ?_⟩
 refine ⟨_,rfl,_,_,_,false,rfl,.inr ⟨_,rfl⟩,.int i,rfl,_,rfl,cJ (A:=True) ?_⟩
 refine ⟨_,rfl,i,rfl,_,rfl,eG (B:=True) ⟨_,rfl,_,rfl,rfl,?_⟩⟩
 rw [decide_eq_true rfl]
 exact q
noncomputable def Q3:Sp:=fun vs H Q _=>∃ (l1 l2 t1 t2:Addr) (is:List Int),vs=[.ref l1,.ref l2]/\H l1=some (.lst [.ref t1])/\H l2=some (.lst [.ref t2])/\H t1=some (.tup (is.map V.int))/\H t2=some (.tup (is.map V.int))/\is.length<=1000/\∀ H',aR H H'->Q (.bl true) H'
theorem xO(F:dq K "_law_answer" "_law_answer" jW f fd)(T:Ry mg)(mz:mg "zip"=none)(ma:mg "all"=none)(GL:eZ P w K mg base 2 "_law_like" ["_law_found","_law_due"] J1):bf P w K mg base cX 3 f fd ["_law_found","_law_due"] Q3:=by
 obtain ⟨fL,fdL,mL,kL,GL,bL⟩:=GL.ex
 refine F.oq nG ?_
 rintro _ A _ s H _ Q _ hr ⟨l1,l2,t1,t2,is,rfl,h1,h2,g1,g2,hl,q⟩
 have nd2:(["_law_one","_law_two"]:List Str).Nodup:=dk
 refine ⟨_,ak (bu (fU (cu (bw gF (by rfl) T.isi PyProof.Rows.boot_isinstance (aa (pv 1) (aa (ir (v:=.ty "list") (by rfl) T.list PyProof.Rows.boot_list rfl) ao))))) aV aU)
  (ak (bu (PW.pt (lZ (fU (cu (bw gF (by rfl) T.isi PyProof.Rows.boot_isinstance (aa (pv 0) (aa (ir (v:=.ty "list") (by rfl) T.list PyProof.Rows.boot_list rfl) ao))))) (pB (aZ qi (bw bx (by rfl) T.len PySem.boot_len (aa (pv 0) ao)) (bw bx (by rfl) T.len PySem.boot_len (aa (pv 1) ao)) (bh _))))) aV aU)
  (ak (jn PassesOwn.never rfl (jo (by rfl) T.range (aa (bw bx (by rfl) T.len PySem.boot_len (aa (pv 1) ao)) ao)) (cz (i:=2) nG.nd rfl (Or.inl rfl))
   (ak (bu (PW.pt (lZ (fU (cu (bw gF (by rfl) T.isi PyProof.Rows.boot_isinstance (aa (cA jz (pv 0) (pv 2) (fun _ _=>rfl)) (aa (ir (v:=.ty "tuple") (by rfl) T.tuple PyProof.Rows.boot_tuple rfl) ao))))) (pB (aZ qi (bw bx (by rfl) T.len PySem.boot_len (aa (cA jz (pv 0) (pv 2) (fun _ _=>rfl)) ao)) (bw bx (by rfl) T.len PySem.boot_len (aa (cA jz (pv 1) (pv 2) (fun _ _=>rfl)) ao)) (bh _))))) aV aU)
   (aq (bu (fU (cu (bw (vD rfl) (by rfl) ma PyProof.Rows.Boot.«all» (aa (qY (g:=Il K 2 (jC (dJ 0) (jC (dJ 1) Jp))) (xs:=["_law_one","_law_two"]) (fv:=[]) (js:=[]) (cl:=[]) rfl
    ⟨by with_unfolding_all rfl,rfl,dk,dk,trivial,by exact ⟨fun z=>(jx (.inl rfl) z).elim,fun z=>(jx (.inl rfl) z).elim,fun z=>(jx (.inl rfl) z).elim,fun z=>(jx (.inr rfl) z).elim,trivial⟩,trivial,fun _=>rfl⟩
    (Iu (b1:=true) (b2:=true) (by rfl) mz (aa (cA jz (pv 0) (pv 2) (fun _ _=>rfl)) (aa (cA jz (pv 1) (pv 2) (fun _ _=>rfl)) ao))) (fun pins fp s H=>by exact nY rfl (cR (cz (i:=0) nd2 rfl (Or.inl rfl)) (cR (cz (i:=1) nd2 rfl (Or.inl rfl)) jy)))
    (fun pins fp s H=>u9) (fun pins fp s H=>aJ GL hr (by rfl) mL kL bL .nil aM (aa (pv 0) (aa (pv 1) ao)))) ao)))) aV aU))))
  (aq (aQ lO)))),?_⟩
 try dsimp only [bU]
 refine ⟨_,rfl,_,_,_,true,rfl,.inr ⟨_,rfl⟩,.lst h2,rfl,_,rfl,cJ (A:=True) ?_⟩
 refine ⟨_,rfl,_,_,_,true,rfl,.inr ⟨_,rfl⟩,.lst h1,rfl,_,rfl,cJ (A:=True) ?_⟩
 refine ⟨_,rfl,l1,_,rfl,.inl (c7.of h1),_,rfl,l2,_,rfl,.inl (c7.of h2),rfl,_,rfl,cJ (A:=True) ?_⟩
 refine ⟨_,rfl,l2,_,rfl,.inl (c7.of h2),1,rfl,by decide,by decide,?_⟩
 refine oU (fun i σ H5=>∃ x2:Option V,σ=[some (.ref l1),some (.ref l2),x2]/\aR H H5) ⟨none,rfl,fun _ _ e=>e⟩ ?_ ?_
 .rintro i σ H5 hi ⟨x2,rfl,a1⟩
  have i0:i=0:=by have:i<1:=hi;omega
  subst i0
  have k1:=a1 _ _ h1
  have k2:=a1 _ _ h2
  have u1:=a1 _ _ g1
  have u2:=a1 _ _ g2
  show jV _ _ _ _ _
  refine ⟨_,rfl,_,rfl,l1,_,_,_,rfl,rfl,c7.of k1,rfl,_,_,_,true,rfl,.inr ⟨_,rfl⟩,.tup u1,rfl,_,rfl,cJ (A:=True) ?_⟩
  refine ⟨_,rfl,_,rfl,l1,_,_,_,rfl,rfl,c7.of k1,rfl,t1,_,rfl,.inr (cZ.of u1),_,rfl,_,rfl,l2,_,_,_,rfl,rfl,c7.of k2,rfl,t2,_,rfl,.inr (cZ.of u2),rfl,_,rfl,Ka rfl ?_⟩
  refine ⟨_,rfl,_,rfl,l1,_,_,_,rfl,rfl,c7.of k1,rfl,_,rfl,_,rfl,l2,_,_,_,rfl,rfl,c7.of k2,rfl,t1,t2,_,_,rfl,cZ.of u1,cZ.of u2,fun D hD=>?_⟩
  have le:(is.map V.int).length<=1000:=by rw [List.length_map];exact hl
  refine Mz (xs:=is.map V.int) (zs:=is.map V.int) (fun i ys Hc=>aR H5 Hc/\Hc D=some (.lst ys)/\ys=(List.replicate i true).map V.bl) rfl (Nat.le_trans le (by decide)) ⟨au hD,aj,rfl⟩ ?_ ?_ ?_
  .rintro i ys Hc hi ⟨a3,a4,rfl⟩
   exact ⟨a4,by rw [List.length_map,List.length_replicate];exact Nat.le_refl _,cZ.of (a3 _ _ u1),cZ.of (a3 _ _ u2)⟩
  .rintro i x z T1 ys Hc c1 c2 hx hz hT ⟨a3,a4,rfl⟩ d1 d2
   rw [hx] at hz
   cases hz
   rw [List.getElem?_map] at hx
   obtain ⟨n,hn,rfl⟩:=Option.map_eq_some_iff.mp hx
   refine ⟨T1,_,rfl,cZ.of aj,rfl,_,_,rfl,_,_,rfl,rfl,⟨rfl,fun k v e=>?_⟩,?_⟩
   .match k,e with
    | 2,e=>cases e
   .have s6:=au (o:=.tup [V.int n,V.int n]) hT
    refine eG (B:=True) ⟨_,rfl,_,rfl,n,rfl,d1 _ _ (s6 _ _ a4) ⟨JP hD a3 s6,aj,?_⟩⟩
    rw [List.replicate_succ',List.map_append];rfl
  .rintro ys Hc ⟨a3,a4,rfl⟩
   refine ⟨D,_,rfl,c7.of a4,_,rfl,?_⟩
   rw [show (List.replicate (is.map V.int).length true).all id=true from List.all_eq_true.mpr fun x hx=>(List.mem_replicate.mp hx).2]
   exact cJ (A:=True) ⟨_,rfl,a1.trans a3⟩
 .rintro σ H5 ⟨x2,rfl,a1⟩
  exact q _ a1
noncomputable def Qh:Sp:=fun vs H Q _=>∃ (a b l1 l2 t1 t2:Addr) (c:Str) (p:Int) (is:List Int),vs=[.ref a,.ref b]/\H a=some (.tup [.str c,.int p,.ref l1])/\H b=some (.tup [.str c,.int p,.ref l2])/\H l1=some (.lst [.ref t1])/\H l2=some (.lst [.ref t2])/\H t1=some (.tup (is.map V.int))/\H t2=some (.tup (is.map V.int))/\is.length<=1000/\∀ H',aR H H'->Q (.bl true) H'
theorem zY(F:dq K "_law_reply" "_law_reply" lV f fd)(T:Ry mg)(GW:eZ P w K mg base 1 "_law_whole" ["_law_found"] uy)(GA:eZ P w K mg base 3 "_law_answer" ["_law_found","_law_due"] Q3):bf P w K mg base cX 4 f fd ["_law_found","_law_due"] Qh:=by
 obtain ⟨fW,fdW,mW,kW,GW,bW⟩:=GW.ex
 obtain ⟨fA,fdA,mA,kA,GA,bA⟩:=GA.ex
 refine F.oq uE ?_
 rintro _ A _ _ H _ Q _ hr ⟨a,b,l1,l2,t1,t2,c,p,is,rfl,ha,hb,h1,h2,g1,g2,hl,q⟩
 have r1:cO 1 _:=hr.mono (by omega)
 refine ⟨_,ak (bu (PW.pt (lZ (fU (cu (bw gF (by rfl) T.isi PyProof.Rows.boot_isinstance (aa (pv 0) (aa (ir (v:=.ty "tuple") (by rfl) T.tuple PyProof.Rows.boot_tuple rfl) ao)))))
  (lZ (aZ qi (bw bx (by rfl) T.len PySem.boot_len (aa (pv 0) ao)) aF (bh _))
  (lZ (fU (cu (bw gF (by rfl) T.isi PyProof.Rows.boot_isinstance (aa (cA cj (pv 0) aF (fun _ _=>rfl)) (aa (ir (v:=.ty "str") (by rfl) T.str PyProof.Rows.boot_str rfl) ao)))))
  (pB (fU (cu (aJ GW r1 (by rfl) mW kW bW .nil aM (aa (cA cj (pv 0) aF (fun _ _=>rfl)) ao)))))))))
  (aq (aQ lO)) aU)
  (aq (aQ (pH (eQ dG (cA cj (pv 0) aF (fun _ _=>rfl)) (cA cj (pv 1) aF (fun _ _=>rfl)) (bh _))
   (pH (BL (eQ QJ (cA cj (pv 1) aF (fun _ _=>rfl)) je (bh _)) (jH (eQ dG (cA cj (pv 0) aF (fun _ _=>rfl)) (cA cj (pv 1) aF (fun _ _=>rfl)) (bh _))))
   (jH (aJ GA hr (by rfl) mA kA bA .nil aM (aa (cA cj (pv 0) aF (fun _ _=>rfl)) (aa (cA cj (pv 1) aF (fun _ _=>rfl)) ao)))))))),?_⟩
 try dsimp only [bU]
 refine ⟨_,rfl,_,_,_,true,rfl,.inr ⟨_,rfl⟩,.tup ha,rfl,_,rfl,cJ (A:=True) ?_⟩
 refine ⟨_,rfl,a,_,rfl,.inr (cZ.of ha),rfl,_,rfl,cJ (A:=True) ?_⟩
 refine ⟨_,rfl,a,_,_,_,rfl,rfl,cZ.of ha,rfl,_,_,_,true,rfl,.inr ⟨_,rfl⟩,.str c,rfl,_,rfl,cJ (A:=True) ?_⟩
 refine ⟨_,rfl,a,_,_,_,rfl,rfl,cZ.of ha,rfl,p,rfl,_,rfl,cJ (A:=True) ?_⟩
 refine ⟨_,rfl,a,_,_,_,rfl,rfl,cZ.of ha,rfl,_,rfl,b,_,_,_,rfl,rfl,cZ.of hb,rfl,rfl,_,rfl,?_⟩
 rw [decide_eq_true rfl]
 refine eG (B:=True) ⟨_,rfl,b,_,_,_,rfl,rfl,cZ.of hb,rfl,rfl,_,rfl,cJ (A:=True) ?_⟩
 refine ⟨_,rfl,a,_,_,_,rfl,rfl,cZ.of ha,rfl,_,rfl,b,_,_,_,rfl,rfl,cZ.of hb,rfl,rfl,_,rfl,?_⟩
 rw [decide_eq_true rfl]
 refine eG (B:=True) ⟨_,rfl,a,_,_,_,rfl,rfl,cZ.of ha,rfl,_,rfl,b,_,_,_,rfl,rfl,cZ.of hb,rfl,l1,l2,t1,t2,is,rfl,h1,h2,g1,g2,hl,q⟩
end
noncomputable def qF(n:Nat):KD.DS:=Ho (KD.Dk n) 0 (dm 1 0)
theorem Lp(n:Nat)(k:Nat)(hk:k<n):(KD.Dk n).cur (k:Int)=some []:=by
 unfold KD.DS.cur KD.Dk
 show (match Mx.look [] (k:Int) with | some xs=>some xs | none=>((List.replicate n (some []))[(k:Int).toNat]?).join)=some []
 rw [Mx.xg,Int.toNat_natCast,List.getElem?_replicate,if_pos hk]
 rfl
theorem HR(n:Nat)(h:8<=n):dO ((qF n).cur 0)=some (1,0):=by
 have e:(qF n).cur 0=some (dm 1 0):=by
  unfold KD.DS.cur qF Ho KD.Dk
  show (match Mx.look [] (0:Int) with | some xs=>some xs | none=>(((List.replicate n (some [])).set 0 (some (dm 1 0)))[0]?).join)=some (dm 1 0)
  rw [Mx.xg]
  show (((List.replicate n (some [])).set 0 (some (dm 1 0)))[0]?).join=_
  rw [List.getElem?_set_self (by rw [List.length_replicate];omega)]
  rfl
 rw [e]
 exact HX 1 0 (by decide) (by decide) (by decide) (by decide)
theorem Jx(n:Nat)(h:8<=n):dO ((qF n).cur 1)=none:=by
 have e:(qF n).cur 1=some []:=by
  unfold KD.DS.cur qF Ho KD.Dk
  show (match Mx.look [] (1:Int) with | some xs=>some xs | none=>(((List.replicate n (some [])).set 0 (some (dm 1 0)))[1]?).join)=some []
  rw [Mx.xg]
  show (((List.replicate n (some [])).set 0 (some (dm 1 0)))[1]?).join=_
  rw [List.getElem?_set_ne (by decide),List.getElem?_replicate,if_pos (by omega)]
  rfl
 rw [e]
 rfl
theorem uJ(n:Nat)(h:8<=n):dO ((KD.Dk n).cur 0)=none/\dO ((KD.Dk n).cur 1)=none:=by
 rw [show (0:Int)=((0:Nat):Int) from rfl,show (1:Int)=((1:Nat):Int) from rfl,Lp n 0 (by omega),Lp n 1 (by omega)]
 exact ⟨rfl,rfl⟩
section
variable{P:Program}{w:World}{K:PySem.W.Frag}{mg:Str->Option Value}{base:Heap}
theorem zE:aG ["disk"] ["disk"] (az nZ):=d9
theorem xN(F:dq K "format_disk" "format_disk" nZ f fd)(GM:eZ P w K mg base 6 "make_ready" ["disk"] (wY CD Pt)):bf P w K mg base cX 7 f fd ["disk"] (wY CD Pt):=by
 obtain ⟨fM,fdM,mM,kM,GM,bM⟩:=GM.ex
 refine F.oq zE ?_
 rintro _ _ _ _ H _ Q _ hr ⟨p,sl,wd,d,rfl,h⟩
 exact ⟨_,aq (bz (aJ GM hr (by rfl) mM kM bM .nil aM (aa (pv 0) ao))),⟨_,rfl,p,sl,wd,d,rfl,h⟩⟩
theorem xG:aG ["_law_pages","_law_disk"] ["_law_pages"] (az vQ):=d9
noncomputable def Dn(CD Pt:Addr):Sp:=fun vs H Q _=>∃ n:Nat,vs=[.int n]/\8<=n/\n<=4000/\jb H Pt vy uZ/\∀ p sl wd H',H p=none->H sl=none->H wd=none->fY H H'->jb H' Pt vy uZ->KD.dj CD H' p sl wd (qF n)->Q (.ref p) H'
theorem Jf(F:dq K "_law_new" "_law_new" vQ f fd)(GF:eZ P w K mg base 7 "format_disk" ["disk"] (wY CD Pt))(mD:mg "Disk"=some (.ref CD))(MI:Mk K CD fI)(GI:bf P w K mg base cX 1 fI fdI ["self","pages"] (KD.Qy CD))(bI:dR K fdI ["self","pages"] []) :
  bf P w K mg base cX 8 f fd ["_law_pages"] (Dn CD Pt):=by
 obtain ⟨fF,fdF,mF,kF,GF,bF⟩:=GF.ex
 refine F.oq xG ?_
 rintro _ _ _ _ H _ Q _ hr ⟨n,rfl,h8,h4,hT,q⟩
 have r2:cO 2 _:=hr.mono (by omega)
 refine ⟨_,ak (bc (i:=1) xG.nd rfl (Or.inl rfl) (eY MI GI r2 (by rfl) mD bI .nil aM (aa (pv 0) ao)))
  (ak (bz (aJ GF hr (by rfl) mF kF bF .nil aM (aa (pv 1) ao))) (aq (aQ (pv 1)))),?_⟩
 try dsimp only [bU]
 refine ⟨_,rfl,?_⟩
 intro x dx hx hdx hne
 have s0:aR H (bQ (bQ H dx (.own x)) x (.ins CD dx [])):=(au hdx).trans (au (by rw [aA (Ne.symm hne)];exact hx))
 refine ⟨x,dx,n,rfl,aj,h4,fun sl wd H1 hsl hwd st D1=>⟨rfl,?_⟩⟩
 have s1:aR H H1:=fun b o e=>st b o (s0 b o e) (by simpa using aO e hx)
 have nsl:H sl=none:=by
  cases e:H sl with
  | none=>rfl
  | some o=>rw [s0 _ _ e] at hsl;cases hsl
 have nwd:H wd=none:=by
  cases e:H wd with
  | none=>rfl
  | some o=>rw [s0 _ _ e] at hwd;cases hwd
 refine ⟨_,rfl,x,sl,wd,KD.Dk n,rfl,D1,⟨rfl,rfl⟩,rfl,?_,(uJ n h8).1,(uJ n h8).2,s1.tab hT,fun wd' H2 hw2 s2 hT2 D2=>⟨_,rfl,?_⟩⟩
 .show 8<=(List.replicate n _).length
  rw [List.length_replicate];exact h8
 refine q x sl wd' H2 hx nsl (s1.t.none hw2) ⟨fun b o no e=>s2.o b o no (s1 b o e) fun m=>?_,fun b ps e=>s2.t b ps (s1 b _ e)⟩ hT2 D2
 rcases List.mem_cons.mp m with m | m
 .rw [m,hx] at e;cases e
 .rcases List.mem_cons.mp m with m | m
  .rw [m,nsl] at e;cases e
  .rw [List.mem_singleton.mp m,nwd] at e;cases e
end
noncomputable def HD(K:PySem.W.Frag)(H:Hp)(a m:Addr)(xs:List V):Prop:=(∃ (o:Obj) (its:Array Value) (n:Nat),K.lookup a=some o/\o.cls=.type "list"/\o.dict=none/\o.data=.seq its n/\its.size<=sizeLine/\cI xs its.toList)\/(Rd H a (.lst xs)/\a≠m)
theorem HD.of(h:c7 K H a xs)(hm:H m=none):HD K H a m xs:=by
 rcases h with h | h
 .refine .inr ⟨h,fun z=>?_⟩
  subst z
  rcases h with h | ⟨o,h⟩ <;> (rw [hm] at h;cases h)
 .exact .inl h
theorem HD.sq(h:HD K H a m xs):c7 K H a xs:=by
 rcases h with h | h
 .exact .inr h
 .exact .inl h.1
theorem HD.step(hy:H y=some (.ins CB dx fs))(st:cg [y,m] H H')(h:HD K H a m xs):HD K H' a m xs:=by
 rcases h with h | ⟨h,hm⟩
 .exact .inl h
 .have ny:a≠y:=fun z=>by subst z;rcases h with h | ⟨o,h⟩ <;> (rw [hy] at h;cases h)
  have nn:a∉[y,m]:=by simp only [List.mem_cons,List.not_mem_nil,or_false,not_or];exact ⟨ny,hm⟩
  refine .inr ⟨?_,hm⟩
  rcases h with h | ⟨o,h⟩
  .exact .inl (st _ _ h nn)
  .exact .inr ⟨o,st _ _ h nn⟩
theorem HD.same(s:aR H H')(h:HD K H a m xs):HD K H' a m xs:=by
 rcases h with h | ⟨h,hm⟩
 .exact .inl h
 .refine .inr ⟨?_,hm⟩
  rcases h with h | ⟨o,h⟩
  .exact .inl (s _ _ h)
  .exact .inr ⟨o,s _ _ h⟩
theorem qM(hy:H y=some (.ins CB dx fs))(hm:H m=some (.lst zs))(st:cg [y,m] H H')(h:H t=some (.tup xs)):H' t=some (.tup xs) :=
 st _ _ h (by simp only [List.mem_cons,List.not_mem_nil,or_false,not_or];exact ⟨gA h hy (fun z=>by cases z),gA h hm (fun z=>by cases z)⟩)
noncomputable def zx(rs:List Int):PyData:=.tuple [.str "ok",.int 0,.list (rs.map fun n=>.tuple [.int n])]
noncomputable def WK(rs:List Int):Bool:=SeqAt.shaped (zx rs) && SeqAt.noMix (zx rs) (zx rs) && PySem.Spec.same (zx rs) (zx rs)
noncomputable def Wy(ns:List Str):Dd->Bool
 | .beg=>false
 | .sav _ _=>true
 | .crt z _ _=>!ns.contains z
 | .ins _ _=>ns.contains "a"
 | .sel _ _=>ns.contains "a"
 | .mis z _=>!ns.contains z
theorem Uo(h:Wy ns dd=true):dd≠.beg/\dd.at_ ns:=by
 cases dd with
 | beg=>cases h
 | sav z n=>exact ⟨(fun z=>by cases z),trivial⟩
 | crt z n zs=>exact ⟨(fun z=>by cases z),fun m=>by rw [Wy,Bool.not_eq_true',List.contains_eq_mem,decide_eq_false_iff_not] at h;exact h m⟩
 | ins n v=>exact ⟨(fun z=>by cases z),by rw [Wy,List.contains_eq_mem,decide_eq_true_eq] at h;exact h⟩
 | sel n o=>exact ⟨(fun z=>by cases z),by rw [Wy,List.contains_eq_mem,decide_eq_true_eq] at h;exact h⟩
 | mis z n=>exact ⟨(fun z=>by cases z),fun m=>by rw [Wy,Bool.not_eq_true',List.contains_eq_mem,decide_eq_false_iff_not] at h;exact h m⟩
noncomputable def WT(z:Str)(ns:List Str)(rs:List Int)(k:Nat)(dd:Dd)(c:Str)(p:Int):Bool :=
 PK z && decide (NQ z=some dd) && Wy ns dd && decide (rs.length<=100) && decide (ns.length<=100) && decide (k<=100) && decide (n8 ns rs (some k) dd=(c,p))
structure Uj(z:Str)(ns:List Str)(rs:List Int)(k:Nat)(dd:Dd)(c:Str)(p:Int):Prop where
 ft:PK z=true
 de:NQ z=some dd
 nb:dd≠.beg
 at_:dd.at_ ns
 rl:rs.length<=100
 nl:ns.length<=100
 kl:k<=100
 rp:n8 ns rs (some k) dd=(c,p)
theorem gC(h:WT z ns rs k dd c p=true):Uj z ns rs k dd c p:=by
 unfold WT at h
 simp only [Bool.and_eq_true,decide_eq_true_eq] at h
 obtain ⟨⟨⟨⟨⟨⟨h1,h2⟩,h3⟩,h4⟩,h5⟩,h6⟩,h7⟩:=h
 exact ⟨h1,h2,(Uo h3).1,(Uo h3).2,h4,h5,h6,h7⟩
section
variable{P:Program}{w:World}{K:PySem.W.Frag}{mg:Str->Option Value}{base:Heap}{CB CT CC:Addr}
theorem uN(hB:Bs CB CT CC H y m ns rs k)(h:Uj z ns rs k dd "ok" 0)
  (q:∀ t ans H',cg [y,m] H H'->H' t=some (.tup [.str "ok",.int 0,ans])->wH H' rs ans dd->((∃ n o,dd=.sel n o)->aR H H')->Bs CB CT CC H' y m (Uc ns dd) (Rw rs dd) (kF k dd)->Q (.ref t) H'):iY CB CT CC [.ref y,.str z] H Q E :=
 ⟨y,m,z,ns,rs,k,dd,rfl,hB,h.ft,h.de,h.nb,h.at_,h.rl,h.nl,h.kl,fun hn=>absurd (by rw [h.rp]) hn,fun _=>q⟩
theorem Uu(hB:Bs CB CT CC H y m ns rs k)(h:Uj z ns rs k dd c p)(hc:c≠"ok")
  (q:∀ t H',aR H H'->H' t=some (.tup [.str c,.int p,.int 0])->Q (.ref t) H'):iY CB CT CC [.ref y,.str z] H Q E :=
 ⟨y,m,z,ns,rs,k,dd,rfl,hB,h.ft,h.de,h.nb,h.at_,h.rl,h.nl,h.kl,fun _ t H' s ht=>q t H' s (by rw [h.rp] at ht;exact ht),fun he=>absurd (by rw [h.rp] at he;exact he) hc⟩
end
theorem sE(n:Nat)(h:0<n):∃ j:Nat,j<n/\i % (n:Int)=(j:Int):=by
 have h0:=Int.emod_nonneg i (show (n:Int)≠0 by omega)
 have h1:=Int.emod_lt_of_pos i (show (0:Int)<n by omega)
 exact ⟨(i % (n:Int)).toNat,by omega,by omega⟩
theorem WF(F:bf P w K mg base CX k f fd ps sp)(G:bf P w K mg base CX k f fd ps sp') :
  bf P w K mg base CX k f fd ps (fun vs H Q E=>sp vs H Q E\/sp' vs H Q E) :=
 ⟨fun vs H Q E h=>h.elim (F.len vs H Q E) (G.len vs H Q E),fun A outer s H args us vs Q E hr e hb r h=>h.elim (F.run A outer s H args us vs Q E hr e hb r) (G.run A outer s H args us vs Q E hr e hb r)⟩
end KL
set_option maxHeartbeats 8000000
namespace KL
open PySem L2
noncomputable def lz:R2:=fun x y H Q=>∃ i j,x=.str i/\y=.str j/\i.length+j.length<=sizeLine/\Q (.str (i++j)) H
noncomputable def Td:List V->Hp->VK->Prop:=fun xs H Q=>∃ i,xs=[.int i]/\i.natAbs.log2<1920/\Q (.str (toString i)) H
noncomputable def YT(K:PySem.W.Frag):R2:=fun x y H Q=>∃ d,vI K H x d/\vI K H y d/\SeqAt.shaped d=true/\SeqAt.noMix d d=true/\PySem.Spec.same d d=true/\Q (.bl true) H
noncomputable def Gi:Sp:=fun vs H Q E=>PL vs H Q E\/Qh vs H Q E
noncomputable def Cy(K:PySem.W.Frag)(CB CT CC:Addr):TS:=(uA (oR (jj Nz (cP 2) (tC (.int 0))))
 (jV (Tt (G9 (aW (jj (Ik fun i j=>.int (i+j)) (tC (.int 2)) (cP 3)) cW)) (dJ 5)
 (xB (gD (iY CB CT CC) [] E0 (aW (cP 1) (aW (jj lz (jj lz (tC (.str "create table b")) (Ws Td (aW (cP 5) cW))) (tC (.str " ( x int )"))) cW)))))
 (oF (tC (.str "create table c ( x int )")) (dJ 6)))
 (uA (oR (jj Nz (cP 2) (tC (.int 1))))
 (oF (jj lz (jj lz (tC (.str "create table c ( ")) (Yk K "str" (Lb K) (tC (.str " , ")) (aW (O5 (G9 (aW (jj (Ik fun i j=>.int (i+j)) (tC (.int 6)) (cP 3)) cW)) [] (jj lz (jj lz (tC (.str "c")) (Ws Td (aW (cP 0) cW))) (tC (.str " int")))) cW))) (tC (.str " )"))) (dJ 6))
 (uA (oR (jj Nz (cP 2) (tC (.int 2))))
 (jV (xB (gD (iY CB CT CC) [] E0 (aW (cP 1) (aW (tC (.str "insert into a values ( 5 )")) cW))))
 (jV (oF (jj lz (jj lz (tC (.str "select ")) (Yk K "str" (Lb K) (tC (.str " , ")) (aW (jj Vu (Rf (aW (tC (.str "x")) cW)) (jj (Ik fun i j=>.int (i+j)) (tC (.int 8)) (cP 3))) cW))) (tC (.str " from a"))) (dJ 6))
 (uA (oR (jj Nz (cP 3) (tC (.int 0))))
 (oF (vA (aW (tC (.str "ok")) (aW (tC (.int 0)) (aW (Rf (aW (jj (Up K) (vA (aW (tC (.int 5)) cW)) (tC (.int 8))) cW)) cW)))) (dJ 4))
 tG)))
 (uA (oR (jj Nz (cP 2) (tC (.int 3))))
 (jV (oF (jj lz (jj lz (tC (.str "insert into a values ( ")) (Yk K "str" (Lb K) (tC (.str " , ")) (aW (jj Vu (Rf (aW (tC (.str "null")) cW)) (jj (Ik fun i j=>.int (i+j)) (tC (.int 8)) (cP 3))) cW))) (tC (.str " )"))) (dJ 6))
 (uA (oR (jj Nz (cP 3) (tC (.int 0))))
 (oF (vA (aW (tC (.str "constraint")) (aW (tC (.int 0)) (aW (tC (.int 0)) cW)))) (dJ 4))
 tG))
 (uA (oR (jj Nz (cP 2) (tC (.int 4))))
 (jV (Tt (G9 (aW (jj (Ik fun i j=>.int (i+j)) (tC (.int 39)) (cP 3)) cW)) (dJ 5)
 (uA (Vr (tB (gD Gi [] E0 (aW (gD (iY CB CT CC) [] E0 (aW (cP 1) (aW (jj lz (jj lz (tC (.str "insert into a values (")) (Ws Td (aW (cP 5) cW))) (tC (.str ")"))) cW))) (aW (vA (aW (tC (.str "ok")) (aW (tC (.int 0)) (aW (tC (.int 1)) cW)))) cW))))) Ij tG))
 (jV (oF (jj lz (jj lz (tC (.str "insert into a values ( ")) (jj (X8 K) (Rf (aW (tC (.str "null")) (aW (tC (.str "3")) cW))) (jj (rI (fun _ j=>0<j) fun i j=>.int (i % j)) (gD (wu K) [] E0 (aW (cP 0) (aW (tC (.int 2)) cW))) (tC (.int 2))))) (tC (.str " )"))) (dJ 6))
 (uA (oR (jj Nz (cP 3) (tC (.int 0))))
 (oF (Wv (oR (jj Nz (jj (rI (fun _ j=>0<j) fun i j=>.int (i % j)) (gD (wu K) [] E0 (aW (cP 0) (aW (tC (.int 2)) cW))) (tC (.int 2))) (tC (.int 1)))) (vA (aW (tC (.str "ok")) (aW (tC (.int 0)) (aW (tC (.int 1)) cW)))) (vA (aW (tC (.str "constraint")) (aW (tC (.int 0)) (aW (tC (.int 0)) cW))))) (dJ 4))
 tG)))
 (jV (Tt (G9 (aW (jj (Ik fun i j=>.int (i+j)) (tC (.int 3)) (cP 3)) cW)) (dJ 5)
 (xB (gD (iY CB CT CC) [] E0 (aW (cP 1) (aW (jj lz (tC (.str "savepoint s")) (Ws Td (aW (jj (rI (fun _ j=>0<j) fun i j=>.int (i % j)) (gD (wu K) [] E0 (aW (cP 0) (aW (jj (Ik fun i j=>.int (i+j)) (tC (.int 3)) (cP 5)) cW))) (tC (.int 3))) cW))) cW)))))
 (oF (tC (.str "savepoint t")) (dJ 6))))))))
noncomputable def Vh(K:PySem.W.Frag)(CB CT CC:Addr):TS:=(jV (oF (gD (iY CB CT CC) [] E0 (aW (cP 1) (aW (tC (.str "select * from a")) cW))) (dJ 7))
 (jV (uA (Vr (tB (gD Gi [] E0 (aW (gD (iY CB CT CC) [] E0 (aW (cP 1) (aW (cP 6) cW))) (aW (cP 4) cW))))) Ij tG)
 (jV (uA (oR (jj Z6 (jj (Iz K) (cP 4) (tC (.int 0))) (tC (.str "ok"))))
 (RK (Uq (jj (YT K) (gD (iY CB CT CC) [] E0 (aW (cP 1) (aW (tC (.str "select * from a")) cW))) (cP 7)) (jj Nz (jj (Iz K) (gD (iY CB CT CC) [] E0 (aW (cP 1) (aW (tC (.str "select * from c")) cW))) (tC (.int 0))) (tC (.str "name")))))
 tG)
 (RK (tC (.bl true))))))
noncomputable def Y6(K:PySem.W.Frag)(CB CT CC CD Pt:Addr):TS:=(jV (oF (gD (wW CD CB Pt) [] E0 (aW (gD (Dn CD Pt) [] E0 (aW (tC (.int 500)) cW)) cW)) (dJ 1))
 (jV (xB (gD (DW CB CT CC) [] E0 (aW (cP 1) (aW (tC (.str "begin")) cW))))
 (jV (xB (gD (iY CB CT CC) [] E0 (aW (cP 1) (aW (tC (.str "create table a ( x int not null )")) cW))))
 (jV (oF (jj (rI (fun _ j=>0<j) fun i j=>.int (i % j)) (gD (wu K) [] E0 (aW (cP 0) (aW (tC (.int 0)) cW))) (tC (.int 6))) (dJ 2))
 (jV (oF (jj (rI (fun _ j=>0<j) fun i j=>.int (i % j)) (gD (wu K) [] E0 (aW (cP 0) (aW (tC (.int 1)) cW))) (tC (.int 2))) (dJ 3))
 (jV (oF (Wv (oR (jj Nz (cP 3) (tC (.int 1)))) (vA (aW (tC (.str "room")) (aW (tC (.int 0)) (aW (tC (.int 0)) cW)))) (vA (aW (tC (.str "ok")) (aW (tC (.int 0)) (aW (tC (.int 0)) cW))))) (dJ 4))
 (jV (Cy K CB CT CC)
 (Vh K CB CT CC))))))))
section
variable{P:Program}{w:World}{K:PySem.W.Frag}{mg:Str->Option Value}{base:Heap}
theorem gJ:aG ["_law_script","_law_base","_law_way","_law_more","_law_due","_law_k","_law_told","_law_before"] ["_law_script"] (az tH):=d9
theorem PN{f CB CT CC CD Pt:Addr}(T:Ry mg)(GM:eZ P w K mg base 2 "_law_mix" ["_law_script","_law_k"] (wu K))(GR:eZ P w K mg base 4 "_law_reply" ["_law_found","_law_due"] Gi)
    (GN:eZ P w K mg base 8 "_law_new" ["_law_pages"] (Dn CD Pt)) (GO:eZ P w K mg base 7 "open_base" ["disk"] (wW CD CB Pt)) (GB:eZ P w K mg base 212 "run" ["base","text"] (DW CB CT CC)) (GX:eZ P w K mg base 212 "run" ["base","text"] (iY CB CT CC))
    {cdv:Value} {A:Around} {outer:List Env} {s:Shared} {H:Hp} {E:XK} (hr:cO 212 (A.deeper (PyProof.Rows.envOfC "law" (az tH) s.heap.objs.size f cdv))) :
    xW (bU cX P w K mg base ["_law_script","_law_base","_law_way","_law_more","_law_due","_law_k","_law_told","_law_before"] "law" (az tH) f cdv A outer s H E).nox (eN tH) (Y6 K CB CT CC CD Pt):=by
  obtain ⟨fM,fdM,mM,kM,GM,bM⟩:=GM.ex
  obtain ⟨fR,fdR,mR,kR,GR,bR⟩:=GR.ex
  obtain ⟨fN,fdN,mN,kN,GN,bN⟩:=GN.ex
  obtain ⟨fO,fdO,mO,kO,GO,bO⟩:=GO.ex
  obtain ⟨fB,fdB,mB,kB,GB,bB⟩:=GB.ex
  obtain ⟨fX,fdX,mX,kX,GX,bX⟩:=GX.ex
  have hu:=hr.units
  have r2:cO 2 _:=hr.mono (by omega)
  have r4:cO 4 _:=hr.mono (by omega)
  have r7:cO 7 _:=hr.mono (by omega)
  have r8:cO 8 _:=hr.mono (by omega)
  exact (ak (bc (i:=1) gJ.nd rfl (Or.inl rfl) (aJ GO r7 (by rfl) mO kO bO .nil aM (aa (aJ GN r8 (by rfl) mN kN bN .nil aM (aa aF ao)) ao)))
 (ak (bz (aJ GB hr (by rfl) mB kB bB .nil aM (aa (pv 1) (aa aX ao))))
 (ak (bz (aJ GX hr (by rfl) mX kX bX .nil aM (aa (pv 1) (aa aX ao))))
 (ak (bc (i:=2) gJ.nd rfl (Or.inl rfl) (cD nO (aJ GM r2 (by rfl) mM kM bM .nil aM (aa (pv 0) (aa aF ao))) aF))
 (ak (bc (i:=3) gJ.nd rfl (Or.inl rfl) (cD nO (aJ GM r2 (by rfl) mM kM bM .nil aM (aa (pv 0) (aa aF ao))) aF))
 (ak (bc (i:=4) gJ.nd rfl (Or.inl rfl) (ig (aZ dG (pv 3) aF (bh _)) (b8 (aa aX (aa aF (aa aF ao)))) (b8 (aa aX (aa aF (aa aF ao))))))
 (ak (bu (aZ dG (pv 2) aF (bh _))
 (ak (jn PassesOwn.never rfl (jo (by rfl) T.range (aa (cD gU aF (pv 3)) ao)) (cz (i:=5) gJ.nd rfl (Or.inl rfl))
 (aq (bz (aJ GX hr (by rfl) mX kX bX .nil aM (aa (pv 1) (aa (cD dH (cD dH aX (dN jU (by rfl) T.str PyProof.Rows.boot_str (aa (pv 5) ao))) aX) ao))))))
 (aq (bc (i:=6) gJ.nd rfl (Or.inl rfl) aX)))
 (aq (bu (aZ dG (pv 2) aF (bh _))
 (aq (bc (i:=6) gJ.nd rfl (Or.inl rfl) (cD dH (cD dH aX (lB PySem.F.plainAttrs_str PySem.F.slot_str_join PySem.F.type_str_join Dw aX (aa (jg (x := "_law_k") (fv:=[]) (js:=[]) (cl:=[]) rfl
 ⟨by with_unfolding_all rfl,rfl,dk,dk,rfl,dk,trivial,by exact ⟨fun z=>(jx (.inl rfl) z).elim,fun z=>(jx (.inl rfl) z).elim,fun z=>(jx (.inr rfl) z).elim,trivial⟩,trivial,fun _=>rfl⟩
 (jo (by rfl) T.range (aa (cD gU aF (pv 3)) ao)) (fun pins fp s H=>(cD dH (cD dH aX (dN jU (by rfl) T.str PyProof.Rows.boot_str (aa (pv 0) ao))) aX))) ao))) aX)))
 (aq (bu (aZ dG (pv 2) aF (bh _))
 (ak (bz (aJ GX hr (by rfl) mX kX bX .nil aM (aa (pv 1) (aa aX ao))))
 (ak (bc (i:=6) gJ.nd rfl (Or.inl rfl) (cD dH (cD dH aX (lB PySem.F.plainAttrs_str PySem.F.slot_str_join PySem.F.type_str_join Dw aX (aa (cD Jq (eO (aa aX ao)) (cD gU aF (pv 3))) ao))) aX))
 (aq (bu (aZ dG (pv 3) aF (bh _))
 (aq (bc (i:=4) gJ.nd rfl (Or.inl rfl) (b8 (aa aX (aa aF (aa (eO (aa (cD Sd (b8 (aa aF ao)) aF) ao)) ao))))))
 aU))))
 (aq (bu (aZ dG (pv 2) aF (bh _))
 (ak (bc (i:=6) gJ.nd rfl (Or.inl rfl) (cD dH (cD dH aX (lB PySem.F.plainAttrs_str PySem.F.slot_str_join PySem.F.type_str_join Dw aX (aa (cD Jq (eO (aa aX ao)) (cD gU aF (pv 3))) ao))) aX))
 (aq (bu (aZ dG (pv 3) aF (bh _))
 (aq (bc (i:=4) gJ.nd rfl (Or.inl rfl) (b8 (aa aX (aa aF (aa aF ao))))))
 aU)))
 (aq (bu (aZ dG (pv 2) aF (bh _))
 (ak (jn PassesOwn.never rfl (jo (by rfl) T.range (aa (cD gU aF (pv 3)) ao)) (cz (i:=5) gJ.nd rfl (Or.inl rfl))
 (aq (bu (fU (cu (aJ GR r4 (by rfl) mR kR bR .nil aM (aa (aJ GX hr (by rfl) mX kX bX .nil aM (aa (pv 1) (aa (cD dH (cD dH aX (dN jU (by rfl) T.str PyProof.Rows.boot_str (aa (pv 5) ao))) aX) ao))) (aa (b8 (aa aX (aa aF (aa aF ao)))) ao))))) aV aU)))
 (ak (bc (i:=6) gJ.nd rfl (Or.inl rfl) (cD dH (cD dH aX (cA jz (eO (aa aX (aa aX ao))) (cD nO (aJ GM r2 (by rfl) mM kM bM .nil aM (aa (pv 0) (aa aF ao))) aF) (fun _ _=>rfl))) aX))
 (aq (bu (aZ dG (pv 3) aF (bh _))
 (aq (bc (i:=4) gJ.nd rfl (Or.inl rfl) (ig (aZ dG (cD nO (aJ GM r2 (by rfl) mM kM bM .nil aM (aa (pv 0) (aa aF ao))) aF) aF (bh _)) (b8 (aa aX (aa aF (aa aF ao)))) (b8 (aa aX (aa aF (aa aF ao)))))))
 aU))))
 (ak (jn PassesOwn.never rfl (jo (by rfl) T.range (aa (cD gU aF (pv 3)) ao)) (cz (i:=5) gJ.nd rfl (Or.inl rfl))
 (aq (bz (aJ GX hr (by rfl) mX kX bX .nil aM (aa (pv 1) (aa (cD dH aX (dN jU (by rfl) T.str PyProof.Rows.boot_str (aa (cD nO (aJ GM r2 (by rfl) mM kM bM .nil aM (aa (pv 0) (aa (cD gU aF (pv 5)) ao))) aF) ao))) ao))))))
 (aq (bc (i:=6) gJ.nd rfl (Or.inl rfl) aX))))))))))))
 (ak (bc (i:=7) gJ.nd rfl (Or.inl rfl) (aJ GX hr (by rfl) mX kX bX .nil aM (aa (pv 1) (aa aX ao))))
 (ak (bu (fU (cu (aJ GR r4 (by rfl) mR kR bR .nil aM (aa (aJ GX hr (by rfl) mX kX bX .nil aM (aa (pv 1) (aa (pv 6) ao))) (aa (pv 4) ao))))) aV aU)
 (ak (bu (aZ qi (cA cj (pv 4) aF (fun _ _=>rfl)) aX (bh _))
 (aq (aQ (pH (eQ (Hv hu) (aJ GX hr (by rfl) mX kX bX .nil aM (aa (pv 1) (aa aX ao))) (pv 7) (bh _)) (jH (eQ dG (cA cj (aJ GX hr (by rfl) mX kX bX .nil aM (aa (pv 1) (aa aX ao))) aF (fun _ _=>rfl)) aX (bh _))))))
 aU)
 (aq (aQ lO))))))))))))
end
noncomputable def vW(CB CT CC:Addr)(a y m:Addr)(way more:Int)(σ:L2.St)(H:Hp):Prop:=∃ (du:Addr) (x5:Option V) (told:Str) (ns:List Str) (rs:List Int) (k:Nat) (dd:Dd) (c:Str) (p:Int),
  σ=[some (.ref a),some (.ref y),some (.int way),some (.int more),some (.ref du),x5,some (.str told),none]/\Bs CB CT CC H y m ns rs k/\Uj told ns rs k dd c p/\("a":Str)∈ns/\("c":Str)∉ns/\WK rs=true /\
  ((c≠"ok"/\H du=some (.tup [.str c,.int p,.int 0]))\/(c="ok"/\p=0/\∃ i:Int,(∀ H' ans,wH H' rs ans dd->ans=.int i)/\H du=some (.tup [.str "ok",.int 0,.int i])) \/
   (c="ok"/\p=0/\∃ n ps l t,dd=.sel n (some ps)/\ps.length=8/\rs=[5]/\H du=some (.tup [.str "ok",.int 0,.ref l])/\H l=some (.lst [.ref t])/\H t=some (.tup [.int 5,.int 5,.int 5,.int 5,.int 5,.int 5,.int 5,.int 5])))
theorem Gq:∀ {rs:List Int} {xs:List V},Paired (Ce none H) rs xs->q9 K H xs (rs.map fun n=>.tuple [.int n])
 | _,_,.nil=>.nil
 | _,_,.cons h t=>by
  obtain ⟨u,rfl,g⟩:=h
  exact .cons (.tup (cZ.of g) (.cons (.int _) .nil)) (Gq t)
theorem Cg(ht:H t=some (.tup [.str "ok",.int 0,ans]))(hA:wH H rs ans (.sel n none)):vI K H (.ref t) (zx rs):=by
 obtain ⟨l,xs,rfl,hl,hp⟩:=hA
 exact .tup (cZ.of ht) (.cons (.str _) (.cons (.int _) (.cons (.lst (c7.of hl) (Gq hp)) .nil)))
theorem Tw(h:Uj told ns rs k dd c p)(ha:("a":Str)∈ns):Uj "select * from a" ns rs k (.sel 4 none) "ok" 0 :=
 ⟨dk,dk,(fun z=>by cases z),ha,h.rl,h.nl,h.kl,rfl⟩
theorem RL(h:Uj told ns rs k dd c p)(ha:("c":Str)∉ns):Uj "select * from c" ns rs k (.mis "c" 4) "name" 4 :=
 ⟨dk,dk,(fun z=>by cases z),ha,h.rl,h.nl,h.kl,rfl⟩
theorem QK(q:∀ H',Q (.bl true) H')(h:vW CB CT CC a y m way more σ H):Vh K CB CT CC { nx:=fun _ H'=>Q .non H',rt:=Q } σ H:=by
 obtain ⟨du,x5,told,ns,rs,k,dd,c,p,rfl,hB,hO,hain,hcn,heq,hdue⟩:=h
 have hsel:=Tw hO hain
 unfold WK at heq
 obtain ⟨heq2,e3⟩:=Bool.and_eq_true_iff.mp heq
 obtain ⟨e1,e2⟩:=Bool.and_eq_true_iff.mp heq2
 refine ⟨_,rfl,?_⟩
 dsimp only [aW,tC,cW,cP,qg,jL,qm,List.cons_append,List.nil_append]
 refine uN hB hsel fun tb ans H1 st1 htb hA1 hs1 hB1=>?_
 have s1:aR H H1:=hs1 ⟨_,_,rfl⟩
 rcases hdue with ⟨hne,hdu⟩ | ⟨rfl,rfl,i,hi,hdu⟩ | ⟨rfl,rfl,n,ps,l,t,rfl,hps,rfl,hdu,hl,ht⟩
 .refine ⟨_,rfl,_,rfl,?_⟩
  dsimp only [aW,tC,cW,cP,qg,jL,qm,List.cons_append,List.nil_append]
  refine Uu hB1 hO hne fun t2 H2 s2 ht2=>?_
  have hdu2:=s2 _ _ (s1 _ _ hdu)
  refine ⟨_,rfl,.inl ⟨t2,du,c,p,0,rfl,ht2,hdu2,true,rfl,cJ (A:=True) ?_⟩⟩
  refine ⟨_,rfl,du,_,0,_,rfl,rfl,cZ.of hdu2,rfl,rfl,_,rfl,Aw (fun _=>?_) (fun e=>absurd e hne)⟩
  have hB2:Bs CB CT CC H2 y m ns rs k:=hB1.same s2
  refine ⟨_,rfl,?_⟩
  dsimp only [aW,tC,cW,cP,qg,jL,qm,List.cons_append,List.nil_append]
  refine uN hB2 hsel fun tb2 ans2 H3 st3 htb2 hA3 hs3 hB3=>?_
  have s3:aR H2 H3:=hs3 ⟨_,_,rfl⟩
  have s23:=s2.trans s3
  refine ⟨_,rfl,zx rs,Cg htb2 hA3,Cg (s23 _ _ htb) (hA1.same s23),e1,e2,e3,true,rfl,eG (B:=True) ?_⟩
  refine ⟨_,rfl,?_⟩
  dsimp only [aW,tC,cW,cP,qg,jL,qm,List.cons_append,List.nil_append]
  refine Uu hB3 (RL hO hcn) dk fun t4 H4 s4 ht4=>?_
  refine ⟨t4,_,0,_,rfl,rfl,cZ.of ht4,rfl,rfl,?_⟩
  rw [decide_eq_true rfl]
  exact q _
 .refine ⟨_,rfl,_,rfl,?_⟩
  dsimp only [aW,tC,cW,cP,qg,jL,qm,List.cons_append,List.nil_append]
  refine uN hB1 hO fun t2 ans2 H2 st2 ht2 hA2 _ hB2=>?_
  cases hi _ _ hA2
  obtain ⟨dx1,d1,sv1,ms1,hy1,_,hm1,_⟩:=hB1
  have hdu2:=qM hy1 hm1 st2 (s1 _ _ hdu)
  refine ⟨_,rfl,.inl ⟨t2,du,"ok",0,i,rfl,ht2,hdu2,true,rfl,cJ (A:=True) ?_⟩⟩
  refine ⟨_,rfl,du,_,0,_,rfl,rfl,cZ.of hdu2,rfl,rfl,_,rfl,Aw (fun e=>absurd rfl e) (fun _=>?_)⟩
  exact q _
 .refine ⟨_,rfl,_,rfl,?_⟩
  dsimp only [aW,tC,cW,cP,qg,jL,qm,List.cons_append,List.nil_append]
  refine uN hB1 hO fun t2 ans2 H2 st2 ht2 hA2 hs2 hB2=>?_
  have s2:aR H1 H2:=hs2 ⟨_,_,rfl⟩
  have s12:=s1.trans s2
  obtain ⟨l2,xs,rfl,hl2,hp2⟩:=hA2
  cases hp2 with
  | cons g1 g2 =>
  cases g2
  obtain ⟨t3,rfl,ht3⟩:=g1
  have e8:JG (some ps)=8:=hps
  rw [e8] at ht3
  refine ⟨_,rfl,.inr ⟨t2,du,l2,l,t3,t,"ok",0,[5,5,5,5,5,5,5,5],rfl,ht2,s12 _ _ hdu,hl2,s12 _ _ hl,ht3,s12 _ _ ht,by decide,fun H3 s3=>⟨true,rfl,cJ (A:=True) ?_⟩⟩⟩
  refine ⟨_,rfl,du,_,0,_,rfl,rfl,cZ.of (s3 _ _ (s12 _ _ hdu)),rfl,rfl,_,rfl,Aw (fun e=>absurd rfl e) (fun _=>?_)⟩
  exact q _
noncomputable def yN(mj:Nat):Str:=if mj=1 then "room" else "ok"
noncomputable def Vm:List Str:=["b0","b1","b2"]
noncomputable def NK:∀ (mj:Nat),mj<2->mj=0\/mj=1:=fun mj h=>by omega
theorem Yi{i:Nat}(h:i<1000):(0+(i:Int)).natAbs.log2<1920:=by
 have e:(0+(i:Int)).natAbs=i:=by omega
 rw [e]
 by_cases z:i=0
 .rw [z];decide
 .exact Nat.lt_of_lt_of_le ((Nat.log2_lt z).mpr (Nat.lt_of_lt_of_le h (by decide:1000<=2 ^ 10))) (by decide)
section
variable{K:PySem.W.Frag}{CB CT CC a y m du:Addr}{D:ji}{H:Hp}{ns:List Int}{mj:Nat}
theorem YK(key:∀ σ' H',vW CB CT CC a y m 0 (mj:Int) σ' H'->D.nx σ' H')(hm:mj<2)(hdu:H du=some (.tup [.str (yN mj),.int 0,.int 0]))(hB:Bs CB CT CC H y m ["a"] [] 0) :
  Cy K CB CT CC D [some (.ref a),some (.ref y),some (.int 0),some (.int mj),some (.ref du),none,none,none] H:=by
 refine ⟨_,rfl,rfl,_,rfl,jt dk ?_⟩
 refine ⟨_,rfl,_,_,rfl,rfl,2+(mj:Int),rfl,by omega,by omega,?_⟩
 have en:(2+(mj:Int)).toNat=2+mj:=by omega
 rw [en]
 refine oU (fun i σ H5=>∃ x5:Option V,σ=[some (.ref a),some (.ref y),some (.int 0),some (.int mj),some (.ref du),x5,none,none]/\Bs CB CT CC H5 y m (("a":Str)::Vm.take i) [] 0/\H5 du=some (.tup [.str (yN mj),.int 0,.int 0])) ⟨none,rfl,hB,hdu⟩ ?_ ?_
 .rintro i σ H5 hi ⟨x5,rfl,b1,d1⟩
  have hi3:i<3:=by omega
  have tx:∀ i:_root_.Fin 3,WT (("create table b":Str)++(Str.ofString (toString (0+(i.val:Int))))++(" ( x int )":Str)) (("a":Str)::Vm.take i.val) [] 0 (.crt (Vm.getD i.val "") 3 ["x"]) "ok" 0=true/\(Str.ofString (toString (0+(i.val:Int)))).length<=10/\Uc (("a":Str)::Vm.take i.val) (.crt (Vm.getD i.val "") 3 ["x"])=("a":Str)::Vm.take (i.val+1)/\Rw [] (.crt (Vm.getD i.val "") 3 ["x"])=[]:=dk
  obtain ⟨t1,t2,t3,t4⟩:=tx ⟨i,hi3⟩
  have z1:("create table b":Str).length=14:=dk
  have z2:(" ( x int )":Str).length=10:=dk
  dsimp only at t1 t2 t3 t4
  have lg:(0+(i:Int)).natAbs.log2<1920:=Yi (by omega)
  refine ⟨_,rfl,_,rfl,0+(i:Int),rfl,lg,_,_,rfl,rfl,?_,_,_,rfl,rfl,?_,?_⟩
  .rw [z1];exact Nat.le_trans (show _<=24 by omega) (by decide)
  .rw [strLen_append,z1,z2];exact Nat.le_trans (show _<=34 by omega) (by decide)
  .dsimp only [aW,tC,cW,cP,qg,jL,qm,List.cons_append,List.nil_append]
   obtain ⟨dx1,d1',sv1,ms1,hy1,_,hm1,_⟩:=id b1
   refine uN b1 (gC t1) fun t ans H6 st6 ht hA _ hB6=>⟨_,rfl,?_,qM hy1 hm1 st6 d1⟩
   rw [t3,t4] at hB6
   exact hB6
 .rintro σ H5 ⟨x5,rfl,b1,d1⟩
  rcases NK mj hm with rfl | rfl
  .exact key _ _ ⟨du,x5,"create table c ( x int )",_,[],0,.crt "c" 3 ["x"],"ok",0,rfl,b1,gC dk,.head _,dk,dk,.inr (.inl ⟨rfl,rfl,0,fun _ _ h=>h,d1⟩)⟩
  .exact key _ _ ⟨du,x5,"create table c ( x int )",_,[],0,.crt "c" 3 ["x"],"room",0,rfl,b1,gC dk,.head _,dk,dk,.inl ⟨dk,d1⟩⟩
theorem Zd(key:∀ σ' H',vW CB CT CC a y m 1 (mj:Int) σ' H'->D.nx σ' H')(hm:mj<2)(hdu:H du=some (.tup [.str (yN mj),.int 0,.int 0]))(hB:Bs CB CT CC H y m ["a"] [] 0) :
  Cy K CB CT CC D [some (.ref a),some (.ref y),some (.int 1),some (.int mj),some (.ref du),none,none,none] H:=by
 refine ⟨_,rfl,rfl,_,rfl,di dk ?_⟩
 refine ⟨_,rfl,rfl,_,rfl,jt dk ?_⟩
 refine ⟨rfl,_,rfl,_,_,rfl,rfl,6+(mj:Int),rfl,by omega,by omega,fun D1 hD1=>?_⟩
 have en:(6+(mj:Int)).toNat=6+mj:=by omega
 rw [en]
 have zz:∀ i:_root_.Fin 7,(Str.ofString (toString (0+(i.val:Int)))).length<=10:=dk
 have z1:("c":Str).length=1:=dk
 have z2:(" int":Str).length=4:=dk
 refine wC (fun i=>V.str (("c":Str)++(Str.ofString (toString (0+(i:Int))))++(" int":Str))) (Nat.le_trans (show 6+mj<=10 by omega) (by decide)) hD1 ?_ ?_
 .intro i Hc k hi s1 hk
  have t2:=zz ⟨i,by omega⟩
  dsimp only at t2
  refine ⟨_,rfl,0+(i:Int),rfl,Yi (by omega),_,_,rfl,rfl,?_,_,_,rfl,rfl,?_,hk⟩
  .rw [z1];exact Nat.le_trans (show _<=24 by omega) (by decide)
  .rw [strLen_append,z1,z2];exact Nat.le_trans (show _<=34 by omega) (by decide)
 .have s1:=au (o:=.lst ((List.range (6+mj)).map fun (i:Nat)=>V.str (("c":Str)++(Str.ofString (toString (0+(i:Int))))++(" int":Str)))) hD1
  have eL:((List.range (6+mj)).map fun (i:Nat)=>V.str (("c":Str)++(Str.ofString (toString (0+(i:Int))))++(" int":Str)))=((List.range (6+mj)).map fun (i:Nat)=>("c":Str)++(Str.ofString (toString (0+(i:Int))))++(" int":Str)).map V.str:=by rw [List.map_map];rfl
  refine ⟨_,D1,(List.range (6+mj)).map fun (i:Nat)=>("c":Str)++(Str.ofString (toString (0+(i:Int))))++(" int":Str),rfl,rfl,c7.of (by rw [<- eL];exact aj),?_,?_⟩
  .rcases NK mj hm with rfl | rfl <;> decide +kernel
  .refine ⟨_,_,rfl,rfl,?_,_,_,rfl,rfl,?_,?_⟩
   .rcases NK mj hm with rfl | rfl <;> decide +kernel
   .rcases NK mj hm with rfl | rfl <;> decide +kernel
   .rcases NK mj hm with rfl | rfl
    .exact key _ _ ⟨du,none,_,["a"],[],0,.crt "c" 3 ["c0","c1","c2","c3","c4","c5"],"ok",0,rfl,hB.same s1,gC dk,.head _,dk,dk,.inr (.inl ⟨rfl,rfl,0,fun _ _ h=>h,s1 _ _ hdu⟩)⟩
    .exact key _ _ ⟨du,none,_,["a"],[],0,.crt "c" 3 ["c0","c1","c2","c3","c4","c5","c6"],"room",0,rfl,hB.same s1,gC dk,.head _,dk,dk,.inl ⟨dk,s1 _ _ hdu⟩⟩
end
section
variable{K:PySem.W.Frag}{CB CT CC a y m du:Addr}{D:ji}{H:Hp}{ns:List Int}{mj:Nat}
theorem Zn(key:∀ σ' H',vW CB CT CC a y m 2 (mj:Int) σ' H'->D.nx σ' H')(hm:mj<2)(hdu:H du=some (.tup [.str (yN mj),.int 0,.int 0]))(hB:Bs CB CT CC H y m ["a"] [] 0) :
  Cy K CB CT CC D [some (.ref a),some (.ref y),some (.int 2),some (.int mj),some (.ref du),none,none,none] H:=by
 refine ⟨_,rfl,rfl,_,rfl,di dk ?_⟩
 refine ⟨_,rfl,rfl,_,rfl,di dk ?_⟩
 refine ⟨_,rfl,rfl,_,rfl,jt dk ?_⟩
 refine ⟨_,rfl,?_⟩
 dsimp only [aW,tC,cW,cP,qg,jL,qm,List.cons_append,List.nil_append]
 obtain ⟨dx1,d1',sv1,ms1,hy1,_,hm1,_⟩:=id hB
 refine uN (dd:=.ins 3 [some 5]) hB (gC dk) fun t ans H1 st1 ht hA _ hB1=>?_
 have hdu1:=qM hy1 hm1 st1 hdu
 replace hB1:Bs CB CT CC H1 y m ["a"] [5] 0:=hB1
 refine ⟨rfl,xZ,fun l hl=>?_⟩
 have s2:=au (o:=.lst [V.str "x"]) hl
 rcases NK mj hm with rfl | rfl
 .refine ⟨_,rfl,_,_,rfl,rfl,l,_,_,rfl,rfl,aj,by decide,by decide,by decide,fun p hp=>?_⟩
  have s3:=s2.trans (au (o:=.lst (List.replicate (8+((0:Nat):Int)).toNat [V.str "x"]).flatten) hp)
  refine ⟨_,p,List.replicate 8 "x",rfl,rfl,c7.of aj,dk,_,_,rfl,rfl,dk,_,_,rfl,rfl,dk,?_⟩
  refine ⟨_,rfl,rfl,_,rfl,jt dk ?_⟩
  refine ⟨xZ,fun p1 hp1=>⟨p1,_,rfl,rfl,cZ.of aj,fun p2 hp2=>⟨xZ,fun p3 hp3=>⟨z8,fun p4 hp4=>?_⟩⟩⟩⟩
  have s4:=s3.trans (au (o:=.tup [V.int 5]) hp1)
  have q2:=au (o:=.tup [V.int 5,.int 5,.int 5,.int 5,.int 5,.int 5,.int 5,.int 5]) hp2
  have q3:=au (o:=.lst [V.ref p2]) hp3
  have q4:=au (o:=.tup [V.str "ok",.int 0,.ref p3]) hp4
  exact key _ _ ⟨p4,none,_,["a"],[5],0,.sel 18 (some [2,4,6,8,10,12,14,16]),"ok",0,rfl,hB1.same (s4.trans (q2.trans (q3.trans q4))),gC dk,.head _,dk,dk,.inr (.inr ⟨rfl,rfl,_,_,p3,p2,rfl,rfl,rfl,aj,q4 _ _ aj,q4 _ _ (q3 _ _ aj)⟩)⟩
 .refine ⟨_,rfl,_,_,rfl,rfl,l,_,_,rfl,rfl,aj,by decide,by decide,by decide,fun p hp=>?_⟩
  have s3:=s2.trans (au (o:=.lst (List.replicate (8+((1:Nat):Int)).toNat [V.str "x"]).flatten) hp)
  refine ⟨_,p,List.replicate 9 "x",rfl,rfl,c7.of aj,dk,_,_,rfl,rfl,dk,_,_,rfl,rfl,dk,?_⟩
  refine ⟨_,rfl,rfl,_,rfl,di dk ?_⟩
  exact key _ _ ⟨du,none,_,["a"],[5],0,.sel 20 (some [2,4,6,8,10,12,14,16,18]),"room",0,rfl,hB1.same s3,gC dk,.head _,dk,dk,.inl ⟨dk,s3 _ _ hdu1⟩⟩
theorem Zy(key:∀ σ' H',vW CB CT CC a y m 3 (mj:Int) σ' H'->D.nx σ' H')(hm:mj<2)(hdu:H du=some (.tup [.str (yN mj),.int 0,.int 0]))(hB:Bs CB CT CC H y m ["a"] [] 0) :
  Cy K CB CT CC D [some (.ref a),some (.ref y),some (.int 3),some (.int mj),some (.ref du),none,none,none] H:=by
 refine ⟨_,rfl,rfl,_,rfl,di dk ?_⟩
 refine ⟨_,rfl,rfl,_,rfl,di dk ?_⟩
 refine ⟨_,rfl,rfl,_,rfl,di dk ?_⟩
 refine ⟨_,rfl,rfl,_,rfl,jt dk ?_⟩
 refine ⟨rfl,xZ,fun l hl=>?_⟩
 have s2:=au (o:=.lst [V.str "null"]) hl
 rcases NK mj hm with rfl | rfl
 .refine ⟨_,rfl,_,_,rfl,rfl,l,_,_,rfl,rfl,aj,by decide,by decide,by decide,fun p hp=>?_⟩
  have s3:=s2.trans (au (o:=.lst (List.replicate (8+((0:Nat):Int)).toNat [V.str "null"]).flatten) hp)
  refine ⟨_,p,List.replicate 8 "null",rfl,rfl,c7.of aj,dk,_,_,rfl,rfl,dk,_,_,rfl,rfl,dk,?_⟩
  refine ⟨_,rfl,rfl,_,rfl,jt dk ?_⟩
  refine ⟨z8,fun p4 hp4=>?_⟩
  have q4:=au (o:=.tup [V.str "constraint",.int 0,.int 0]) hp4
  exact key _ _ ⟨p4,none,_,["a"],[],0,.ins 3 (List.replicate 8 none),"constraint",0,rfl,hB.same (s3.trans q4),gC dk,.head _,dk,dk,.inl ⟨dk,aj⟩⟩
 .refine ⟨_,rfl,_,_,rfl,rfl,l,_,_,rfl,rfl,aj,by decide,by decide,by decide,fun p hp=>?_⟩
  have s3:=s2.trans (au (o:=.lst (List.replicate (8+((1:Nat):Int)).toNat [V.str "null"]).flatten) hp)
  refine ⟨_,p,List.replicate 9 "null",rfl,rfl,c7.of aj,dk,_,_,rfl,rfl,dk,_,_,rfl,rfl,dk,?_⟩
  refine ⟨_,rfl,rfl,_,rfl,di dk ?_⟩
  exact key _ _ ⟨du,none,_,["a"],[],0,.ins 3 (List.replicate 9 none),"room",0,rfl,hB.same s3,gC dk,.head _,dk,dk,.inl ⟨dk,s3 _ _ hdu⟩⟩
end
noncomputable def Uv(i:Nat):List Int:=(List.range i).map fun (j:Nat)=>(j:Int)
section
variable{K:PySem.W.Frag}{CB CT CC a y m du:Addr}{D:ji}{H:Hp}{ns:List Int}{mj:Nat}
theorem ZF(key:∀ σ' H',vW CB CT CC a y m 4 (mj:Int) σ' H'->D.nx σ' H')(hm:mj<2)(hdu:H du=some (.tup [.str (yN mj),.int 0,.int 0]))(hB:Bs CB CT CC H y m ["a"] [] 0)(hS:HD K H a m (ns.map V.int))(hl:ns.length<=63) :
  Cy K CB CT CC D [some (.ref a),some (.ref y),some (.int 4),some (.int mj),some (.ref du),none,none,none] H:=by
 refine ⟨_,rfl,rfl,_,rfl,di dk ?_⟩
 refine ⟨_,rfl,rfl,_,rfl,di dk ?_⟩
 refine ⟨_,rfl,rfl,_,rfl,di dk ?_⟩
 refine ⟨_,rfl,rfl,_,rfl,di dk ?_⟩
 refine ⟨_,rfl,rfl,_,rfl,jt dk ?_⟩
 refine ⟨_,rfl,_,_,rfl,rfl,39+(mj:Int),rfl,by omega,by omega,?_⟩
 have en:(39+(mj:Int)).toNat=39+mj:=by omega
 rw [en]
 refine oU (fun i σ H5=>∃ x5:Option V,σ=[some (.ref a),some (.ref y),some (.int 4),some (.int mj),some (.ref du),x5,none,none]/\Bs CB CT CC H5 y m ["a"] (Uv i) 0/\H5 du=some (.tup [.str (yN mj),.int 0,.int 0])/\HD K H5 a m (ns.map V.int)) ⟨none,rfl,hB,hdu,hS⟩ ?_ ?_
 .rintro i σ H5 hi ⟨x5,rfl,b1,d1,c1⟩
  have hi3:i<40:=by omega
  have tx:∀ i:_root_.Fin 40,WT (("insert into a values (":Str)++(Str.ofString (toString (0+(i.val:Int))))++(")":Str)) ["a"] (Uv i.val) 0 (.ins 3 [some (i.val:Int)]) "ok" 0=true/\(Str.ofString (toString (0+(i.val:Int)))).length<=10/\Rw (Uv i.val) (.ins 3 [some (i.val:Int)])=Uv (i.val+1):=dk
  obtain ⟨t1,t2,t3⟩:=tx ⟨i,hi3⟩
  have z1:("insert into a values (":Str).length=22:=dk
  have z2:(")":Str).length=1:=dk
  dsimp only at t1 t2 t3
  refine ⟨_,rfl,_,rfl,0+(i:Int),rfl,Yi (by omega),_,_,rfl,rfl,?_,_,_,rfl,rfl,?_,?_⟩
  .rw [z1];exact Nat.le_trans (show _<=34 by omega) (by decide)
  .rw [strLen_append,z1,z2];exact Nat.le_trans (show _<=44 by omega) (by decide)
  .dsimp only [aW,tC,cW,cP,qg,jL,qm,List.cons_append,List.nil_append]
   obtain ⟨dx1,d1',sv1,ms1,hy1,_,hm1,_⟩:=id b1
   refine uN b1 (gC t1) fun t ans H6 st6 ht hA _ hB6=>?_
   cases (show ans=.int 1 from hA)
   rw [t3] at hB6
   refine ⟨z8,fun p hp=>?_⟩
   have s7:=au (o:=.tup [V.str "ok",.int 0,.int 1]) hp
   refine .inl ⟨t,p,"ok",0,1,rfl,s7 _ _ ht,aj,true,rfl,cJ (A:=True) ?_⟩
   exact ⟨_,rfl,hB6.same s7,s7 _ _ (qM hy1 hm1 st6 d1),(c1.step hy1 st6).same s7⟩
 .rintro σ H5 ⟨x5,rfl,b1,d1,c1⟩
  obtain ⟨j,hj,ej⟩:=sE (i:=S9 ns 2) 2 (by decide)
  replace ej:S9 ns 2 % 2=(j:Int):=ej
  refine ⟨zF,fun l hl0=>?_⟩
  have s2:=au (o:=.lst [V.str "null",.str "3"]) hl0
  refine ⟨_,rfl,a,ns,2,rfl,(c1.same s2).sq,hl,_,_,rfl,rfl,by show (0:Int)<2;decide,?_⟩
  dsimp only
  rw [ej]
  have b2:=b1.same s2
  have d2:=s2 _ _ d1
  have c2:=c1.same s2
  rcases NK j hj with rfl | rfl
  .refine ⟨l,_,_,_,rfl,rfl,c7.of aj,rfl,_,_,rfl,rfl,dk,_,_,rfl,rfl,dk,?_⟩
   rcases NK mj hm with rfl | rfl
   .refine ⟨_,rfl,rfl,_,rfl,jt dk ?_⟩
    refine ⟨_,rfl,a,ns,2,rfl,c2.sq,hl,_,_,rfl,rfl,by show (0:Int)<2;decide,?_⟩
    dsimp only
    rw [ej]
    refine ⟨rfl,_,rfl,di dk ⟨z8,fun p4 hp4=>?_⟩⟩
    have q4:=au (o:=.tup [V.str "constraint",.int 0,.int 0]) hp4
    exact key _ _ ⟨p4,x5,_,["a"],Uv 39,0,.ins 3 [none],"constraint",0,rfl,b2.same q4,gC dk,.head _,dk,dk,.inl ⟨dk,aj⟩⟩
   .refine ⟨_,rfl,rfl,_,rfl,di dk ?_⟩
    exact key _ _ ⟨du,x5,_,["a"],Uv 40,0,.ins 3 [none],"room",0,rfl,b2,gC dk,.head _,dk,dk,.inl ⟨dk,d2⟩⟩
  .refine ⟨l,_,_,_,rfl,rfl,c7.of aj,rfl,_,_,rfl,rfl,dk,_,_,rfl,rfl,dk,?_⟩
   rcases NK mj hm with rfl | rfl
   .refine ⟨_,rfl,rfl,_,rfl,jt dk ?_⟩
    refine ⟨_,rfl,a,ns,2,rfl,c2.sq,hl,_,_,rfl,rfl,by show (0:Int)<2;decide,?_⟩
    dsimp only
    rw [ej]
    refine ⟨rfl,_,rfl,jt dk ⟨z8,fun p4 hp4=>?_⟩⟩
    have q4:=au (o:=.tup [V.str "ok",.int 0,.int 1]) hp4
    exact key _ _ ⟨p4,x5,_,["a"],Uv 39,0,.ins 3 [some 3],"ok",0,rfl,b2.same q4,gC dk,.head _,dk,dk,.inr (.inl ⟨rfl,rfl,1,fun _ _ h=>h,aj⟩)⟩
   .refine ⟨_,rfl,rfl,_,rfl,di dk ?_⟩
    exact key _ _ ⟨du,x5,_,["a"],Uv 40,0,.ins 3 [some 3],"room",0,rfl,b2,gC dk,.head _,dk,dk,.inl ⟨dk,d2⟩⟩
theorem Zx(key:∀ σ' H',vW CB CT CC a y m 5 (mj:Int) σ' H'->D.nx σ' H')(hm:mj<2)(hdu:H du=some (.tup [.str (yN mj),.int 0,.int 0]))(hB:Bs CB CT CC H y m ["a"] [] 0)(hS:HD K H a m (ns.map V.int))(hl:ns.length<=63) :
  Cy K CB CT CC D [some (.ref a),some (.ref y),some (.int 5),some (.int mj),some (.ref du),none,none,none] H:=by
 refine ⟨_,rfl,rfl,_,rfl,di dk ?_⟩
 refine ⟨_,rfl,rfl,_,rfl,di dk ?_⟩
 refine ⟨_,rfl,rfl,_,rfl,di dk ?_⟩
 refine ⟨_,rfl,rfl,_,rfl,di dk ?_⟩
 refine ⟨_,rfl,rfl,_,rfl,di dk ?_⟩
 refine ⟨_,rfl,_,_,rfl,rfl,3+(mj:Int),rfl,by omega,by omega,?_⟩
 have en:(3+(mj:Int)).toNat=3+mj:=by omega
 rw [en]
 refine oU (fun i σ H5=>∃ x5:Option V,σ=[some (.ref a),some (.ref y),some (.int 5),some (.int mj),some (.ref du),x5,none,none]/\Bs CB CT CC H5 y m ["a"] [] i/\H5 du=some (.tup [.str (yN mj),.int 0,.int 0])/\HD K H5 a m (ns.map V.int)) ⟨none,rfl,hB,hdu,hS⟩ ?_ ?_
 .rintro i σ H5 hi ⟨x5,rfl,b1,d1,c1⟩
  have hi3:i<4:=by omega
  have tx:∀ (i:_root_.Fin 4) (j:_root_.Fin 3),WT (("savepoint s":Str)++(Str.ofString (toString (j.val:Int)))) ["a"] [] i.val (.sav (("s":Str)++(Str.ofString (toString (j.val:Int)))) 2) "ok" 0=true/\(Str.ofString (toString (j.val:Int))).length<=10:=dk
  refine ⟨_,rfl,_,rfl,_,rfl,_,_,rfl,rfl,a,ns,_,rfl,c1.sq,hl,_,_,rfl,rfl,by show (0:Int)<3;decide,?_⟩
  dsimp only
  obtain ⟨j,hj,ej⟩:=sE (i:=S9 ns (3+(0+(i:Int)))) 3 (by decide)
  replace ej:S9 ns (3+(0+(i:Int))) % 3=(j:Int):=ej
  rw [ej]
  obtain ⟨t1,t2⟩:=tx ⟨i,hi3⟩ ⟨j,hj⟩
  have z1:("savepoint s":Str).length=11:=dk
  dsimp only at t1 t2
  have lg:((j:Int)).natAbs.log2<1920:=by have:=Yi (i:=j) (by omega);rwa [Int.zero_add] at this
  refine ⟨(j:Int),rfl,lg,_,_,rfl,rfl,?_,?_⟩
  .rw [z1];exact Nat.le_trans (show _<=34 by omega) (by decide)
  .dsimp only [aW,tC,cW,cP,qg,jL,qm,List.cons_append,List.nil_append]
   obtain ⟨dx1,d1',sv1,ms1,hy1,_,hm1,_⟩:=id b1
   refine uN b1 (gC t1) fun t ans H6 st6 ht hA _ hB6=>?_
   exact ⟨_,rfl,hB6,qM hy1 hm1 st6 d1,c1.step hy1 st6⟩
 .rintro σ H5 ⟨x5,rfl,b1,d1,c1⟩
  rcases NK mj hm with rfl | rfl
  .exact key _ _ ⟨du,x5,"savepoint t",["a"],[],3,.sav "t" 2,"ok",0,rfl,b1,gC dk,.head _,dk,dk,.inr (.inl ⟨rfl,rfl,0,fun _ _ h=>h,d1⟩)⟩
  .exact key _ _ ⟨du,x5,"savepoint t",["a"],[],4,.sav "t" 2,"room",0,rfl,b1,gC dk,.head _,dk,dk,.inl ⟨dk,d1⟩⟩
end
section
variable{P:Program}{w:World}{K:PySem.W.Frag}{mg:Str->Option Value}{base:Heap}
noncomputable def wX(K:PySem.W.Frag)(Pt:Addr):Sp:=fun vs H Q _=>∃ (a:Addr) (ns:List Int),vs=[.ref a]/\c7 K H a (ns.map V.int)/\ns.length<=63/\jb H Pt vy uZ/\∀ H',Q (.bl true) H'
theorem ZP{CB CT CC a y m du:Addr}{D:ji}{H:Hp}{ns:List Int}{mj wj:Nat}(hw:wj<6)(key:∀ σ' H',vW CB CT CC a y m (wj:Int) (mj:Int) σ' H'->D.nx σ' H')(hm:mj<2)(hdu:H du=some (.tup [.str (yN mj),.int 0,.int 0]))(hB:Bs CB CT CC H y m ["a"] [] 0)(hS:HD K H a m (ns.map V.int))(hl:ns.length<=63) :
  Cy K CB CT CC D [some (.ref a),some (.ref y),some (.int wj),some (.int mj),some (.ref du),none,none,none] H:=by
 match wj,hw with
 | 0,_=>exact YK key hm hdu hB
 | 1,_=>exact Zd key hm hdu hB
 | 2,_=>exact Zn key hm hdu hB
 | 3,_=>exact Zy key hm hdu hB
 | 4,_=>exact ZF key hm hdu hB hS hl
 | 5,_=>exact Zx key hm hdu hB hS hl
theorem Vs{f CB CT CC CD Pt:Addr}{fd:FuncData}(F:dq K "law" "law" tH f fd)(T:Ry mg)(GM:eZ P w K mg base 2 "_law_mix" ["_law_script","_law_k"] (wu K))(GR:eZ P w K mg base 4 "_law_reply" ["_law_found","_law_due"] Gi)
  (GN:eZ P w K mg base 8 "_law_new" ["_law_pages"] (Dn CD Pt)) (GO:eZ P w K mg base 7 "open_base" ["disk"] (wW CD CB Pt)) (GB:eZ P w K mg base 212 "run" ["base","text"] (DW CB CT CC)) (GX:eZ P w K mg base 212 "run" ["base","text"] (iY CB CT CC)) :
  bf P w K mg base cX 213 f fd ["_law_script"] (wX K Pt):=by
 refine F.oq gJ ?_
 rintro _ _ _ _ H _ Q _ hr ⟨a,ns,rfl,hS,hl,hT,q⟩
 refine ⟨_,PN T GM GR GN GO GB GX hr,?_⟩
 refine ⟨500,rfl,by decide,by decide,hT,fun p sl wd H1 _ _ _ s1 hT1 D1=>?_⟩
 refine ⟨p,sl,wd,qF 500,1,rfl,D1,?_,HR 500 (by decide),Jx 500 (by decide),hT1,fun v H2 s2 hT2 B2=>?_⟩
 .show 8<=((List.replicate 500 (some [])).set _ _).length
  rw [List.length_set,List.length_replicate];decide
 obtain ⟨y,dx,d,st,rfl,hy,hd⟩:=B2
 have hS2:=(s1.trans s2).seqL hS
 refine ⟨_,rfl,y,rfl,⟨y,dx,d,st,rfl,hy,hd⟩,fun t m H3 hm st3 hB3=>?_⟩
 have c3:HD K H3 a m (ns.map V.int):=(HD.of hS2 hm).step hy (fun b o e nb=>st3 _ _ e (by simp only [List.mem_cons,List.not_mem_nil,or_false,not_or] at nb ⊢;exact nb.1))
 refine ⟨_,rfl,?_⟩
 dsimp only [aW,tC,cW,cP,qg,jL,qm,List.cons_append,List.nil_append]
 obtain ⟨dx1,d1',sv1,ms1,hy1,_,hm1,_⟩:=id hB3
 refine uN (dd:=.crt "a" 3 ["x"]) hB3 (gC dk) fun t2 ans H4 st4 ht4 hA _ hB4=>?_
 replace hB4:Bs CB CT CC H4 y m ["a"] [] 0:=hB4
 have c4:=c3.step hy1 st4
 obtain ⟨wj,hwj,ew⟩:=sE (i:=S9 ns 0) 6 (by decide)
 replace ew:S9 ns 0 % 6=(wj:Int):=ew
 obtain ⟨mj,hmj,em⟩:=sE (i:=S9 ns 1) 2 (by decide)
 replace em:S9 ns 1 % 2=(mj:Int):=em
 refine ⟨_,rfl,a,ns,0,rfl,c4.sq,hl,_,_,rfl,rfl,by show (0:Int)<6;decide,?_⟩
 dsimp only
 rw [ew]
 refine ⟨_,rfl,a,ns,1,rfl,c4.sq,hl,_,_,rfl,rfl,by show (0:Int)<2;decide,?_⟩
 dsimp only
 rw [em]
 have fin:∀ (du:Addr) (H5:Hp),aR H4 H5->H5 du=some (.tup [.str (yN mj),.int 0,.int 0])->jV (Cy K CB CT CC) (Vh K CB CT CC) { nx:=fun _ H'=>Q .non H',rt:=Q } [some (.ref a),some (.ref y),some (.int wj),some (.int mj),some (.ref du),none,none,none] H5:=fun du H5 s5 hdu =>
  ZP hwj (fun σ' H' h=>QK q h) hmj hdu (hB4.same s5) (c4.same s5) hl
 refine ⟨_,rfl,rfl,_,rfl,vq (fun h1=>?_) (fun h1=>?_)⟩
 .refine ⟨z8,fun du hdu=>fin du _ (au hdu) ?_⟩
  have e1:mj=1:=by have:=of_decide_eq_true h1;injection this with this;omega
  rw [aj,e1];rfl
 .refine ⟨z8,fun du hdu=>fin du _ (au hdu) ?_⟩
  have e1:mj=0:=by
   rcases NK mj hmj with e | e
   .exact e
   .exact absurd (decide_eq_true (by rw [e];rfl)) h1
  rw [aj,e1];rfl
end
end KL
set_option maxHeartbeats 4000000
namespace KL
open PySem L2
theorem uW{K:PySem.W.Frag}{f:Addr}{oc:Value}{od:Option Addr}{fd:FuncData}{sl:Array (Option Value)}(h:K.lookup f=some ⟨oc,od,.func fd,sl⟩):PySem.W.keepIn K (.ref f)=true:=by
 unfold PySem.W.keepIn
 dsimp only
 rw [h]
theorem Kr{K:PySem.W.Frag}{f:Addr}{od:Option Addr}{fd:FuncData}{sl:Array (Option Value)}(h:K.lookup f=some ⟨.type "function",od,.func fd,sl⟩):PySem.W.isFn K (.ref f)=true:=by
 unfold PySem.W.isFn PySem.W.typeIn
 dsimp only
 rw [h]
 rfl
structure Rx(K:PySem.W.Frag)(g x q:Str)(st:Stmt)(f:Addr):Prop where
 ns:PySem.W.nsIn K mainGlobals g=some (some (.ref f))
 ex:∃ (oc:Value) (od:Option Addr) (kV doc pm:Value) (an:Option Addr) (cdv ct:Value) (sl:Array (Option Value)),K.lookup f=some ⟨oc,od,.func (PySem.W.fnOf x q (ik st) (eN st) (az st) .none kV doc pm an cdv ct),sl⟩/\PySem.W.codeIn K cdv q=true
structure QZ(K:PySem.W.Frag)(g x q:Str)(st:Stmt)(f c:Addr):Prop where
 ns:PySem.W.nsIn K mainGlobals g=some (some (.ref f))
 ex:∃ (oc:Value) (od:Option Addr) (kV doc pm:Value) (an:Option Addr) (ct:Value) (sl:Array (Option Value)),K.lookup f=some ⟨oc,od,.func (PySem.W.fnOf x q (ik st) (eN st) (az st) .none kV doc pm an (.ref c) ct),sl⟩/\PySem.W.codeIn K (.ref c) q=true
structure qu(K:PySem.W.Frag)(C:Addr)(m q:Str)(st:Stmt)(f:Addr):Prop where
 at_:PySem.W.findIn K (.ref C) m=some (some (.ref f))
 ex:∃ (od:Option Addr) (kV doc pm:Value) (an:Option Addr) (cdv ct:Value) (sl:Array (Option Value)),K.lookup f=some ⟨.type "function",od,.func (PySem.W.fnOf m q (ik st) (eN st) (az st) .none kV doc pm an cdv ct),sl⟩/\PySem.W.codeIn K cdv q=true
section
variable{K:PySem.W.Frag}{g x q m:Str}{st:Stmt}{f c C:Addr}{ps:List Str}
theorem Rx.get(h:Rx K g x q st f)(hb:∀ (kV doc pm:Value) (an:Option Addr) (cdv ct:Value) (us:List Value),us.length=ps.length->bindArgs (PySem.W.fnOf x q (ik st) (eN st) (az st) .none kV doc pm an cdv ct) ⟨us,[]⟩=pure (ps.zip us)) :
  ∃ fd,dq K x q st f fd/\dR K fd ps []:=by
 obtain ⟨oc,od,kV,doc,pm,an,cdv,ct,sl,l,c⟩:=h.ex
 have F:=Cq l c (uW l)
 exact ⟨_,F,F.binds hb⟩
theorem QZ.get(h:QZ K g x q st f c)(hb:∀ (kV doc pm:Value) (an:Option Addr) (cdv ct:Value) (us:List Value),us.length=ps.length->bindArgs (PySem.W.fnOf x q (ik st) (eN st) (az st) .none kV doc pm an cdv ct) ⟨us,[]⟩=pure (ps.zip us)) :
  ∃ fd,dq K x q st f fd/\dR K fd ps []/\fd.code=.ref c:=by
 obtain ⟨oc,od,kV,doc,pm,an,ct,sl,l,c⟩:=h.ex
 have F:=Cq l c (uW l)
 exact ⟨_,F,F.binds hb,rfl⟩
theorem qu.get(h:qu K C m q st f)(hb:∀ (kV doc pm:Value) (an:Option Addr) (cdv ct:Value) (us:List Value),us.length=ps.length->bindArgs (PySem.W.fnOf m q (ik st) (eN st) (az st) .none kV doc pm an cdv ct) ⟨us,[]⟩=pure (ps.zip us)) :
  ∃ fd,dq K m q st f fd/\dR K fd ps []:=by
 obtain ⟨od,kV,doc,pm,an,cdv,ct,sl,l,c⟩:=h.ex
 have F:=Cq l c (uW l)
 exact ⟨_,F,F.binds hb⟩
theorem qu.fn(h:qu K C m q st f):PySem.W.isFn K (.ref f)=true:=by
 obtain ⟨_,_,_,_,_,_,_,_,l,_⟩:=h.ex
 exact Kr l
theorem qu.meth(h:qu K C m q st f):wV K C m f:=by
 obtain ⟨_,_,_,_,_,_,_,_,l,_⟩:=h.ex
 exact ⟨h.at_,Kr l,uW l⟩
theorem qu.mk_{C:Addr}(h:qu K C "__init__" q st f)(mk:PySem.W.makesIn K C=true)(kc:PySem.W.keepIn K (.ref C)=true):Mk K C f:=⟨mk,h.at_,h.fn,kc⟩
end
noncomputable def wO(K:PySem.W.Frag)(x z:Str):Prop:=∃ t,PySem.W.nsIn K mainGlobals x=some (some (.str z t))
noncomputable def Ig(K:PySem.W.Frag)(x:Str)(i:Int):Prop:=∃ t,PySem.W.nsIn K mainGlobals x=some (some (.int i t))
noncomputable def Ft(K:PySem.W.Frag)(x:Str):Prop:=PySem.W.nsIn K mainGlobals x=some none
noncomputable def R0(K:PySem.W.Frag)(x:Str)(xs:List V):Prop:=∃ (a:Addr) (od:Option Addr) (its:Array Value) (n:Nat) (sl:Array (Option Value)),PySem.W.nsIn K mainGlobals x=some (some (.ref a))/\K.lookup a=some ⟨.type "tuple",od,.seq its n,sl⟩/\cI xs its.toList/\its.size<=sizeLine
section
variable{K:PySem.W.Frag}{h:Heap}{mg:Str->Option Value}{x z:Str}{i:Int}{xs:List V}
theorem wO.gs(s:wO K x z)(X:K.In h)(G:h.Ns mainGlobals mg):GS mg x z:=let ⟨t,e⟩:=s;⟨t,PySem.W.mg_of X G e⟩
theorem Ig.gi(s:Ig K x i)(X:K.In h)(G:h.Ns mainGlobals mg):GI mg x i:=let ⟨t,e⟩:=s;⟨t,PySem.W.mg_of X G e⟩
theorem Ft.none(s:Ft K x)(X:K.In h)(G:h.Ns mainGlobals mg):mg x=none:=PySem.W.mg_none_of X G s
theorem R0.gt(s:R0 K x xs)(X:K.In h)(G:h.Ns mainGlobals mg):GT K mg x xs:=let ⟨a,od,its,n,sl,e,l,v,z⟩:=s;⟨a,PySem.W.mg_of X G e,fun H=>.inr ⟨_,its,n,l,rfl,rfl,z,v⟩⟩
end
section
variable{P:Program}{w:World}{K:PySem.W.Frag}{mg:Str->Option Value}{base:Heap}{k:Nat}{f C:Addr}{fd:FuncData}{x m:Str}{ps:List Str}{sp:Sp}{CX:zJ}
theorem Dz(h:mg x=some (.ref f))(kp:PySem.W.keepIn K (.ref f)=true)(G:bf P w K mg base cX k f fd ps sp)(b:dR K fd ps []):eZ P w K mg base k x ps sp:=⟨f,fd,h,kp,G,b⟩
theorem Wl(h:wV K C m f)(G:bf P w K mg base CX k f fd ps sp)(b:dR K fd ps []):zZ P w K mg base CX C k m ps sp:=⟨f,fd,h,G,b⟩
end
theorem Ux:([.inr "create",.inr "drop",.inr "insert",.inr "update",.inr "delete",.inr "select",.inr "begin",.inr "commit",.inr "rollback",.inr "savepoint"]:List gf).Nodup:=dk
theorem Mu{p:List Value->Prop}(h:p []):∀ us:List Value,us.length=0->p us
 | [],_=>h
theorem Nm{p:List Value->Prop}{n:Nat}(h:∀ (a:Value) (us:List Value),us.length=n->p (a::us)):∀ us:List Value,us.length=n+1->p us
 | a::us,e=>h a us (Nat.succ.inj e)
structure Cx(P:Program)(w:World)(K:PySem.W.Frag)(mg:Str->Option Value)(base:Heap):Prop where
 e:∃ h:Heap,K.In h/\h.Ns mainGlobals mg
section
variable{P:Program}{w:World}{K:PySem.W.Frag}{mg:Str->Option Value}{base:Heap}{k:Nat}{f C c:Addr}{v:Value}{g x q m:Str}{st:Stmt}{ps:List Str}{sp:Sp}{CX:zJ}
theorem Cx.mm(X:Cx P w K mg base)(e:PySem.W.nsIn K mainGlobals x=some (some v)):mg x=some v:=by
 obtain ⟨h,X,G⟩:=X.e
 exact PySem.W.mg_of X G e
noncomputable abbrev HB(x q:Str)(st:Stmt)(ps:List Str):Prop:=∀ (kV doc pm:Value) (an:Option Addr) (cdv ct:Value) (us:List Value),us.length=ps.length->bindArgs (PySem.W.fnOf x q (ik st) (eN st) (az st) .none kV doc pm an cdv ct) ⟨us,[]⟩=pure (ps.zip us)
theorem Rx.V(h:Rx K g x q st f)(X:Cx P w K mg base)(ok:∀ {fd:FuncData},dq K x q st f fd->bf P w K mg base CX k f fd ps sp)(hb:HB x q st ps:=by intro _ _ _ _ _ _;repeat' (first | exact Mu rfl | refine Nm fun _=>?_)):Xl P w K mg base CX k g ps sp:=by
 obtain ⟨fd,F,b⟩:=h.get hb
 exact ⟨f,fd,X.mm h.ns,F.kp,ok F,b⟩
theorem Rx.S(h:Rx K g x q st f)(X:Cx P w K mg base)(ok:∀ {fd:FuncData},dq K x q st f fd->bf P w K mg base cX k f fd ps sp)(hb:HB x q st ps:=by intro _ _ _ _ _ _;repeat' (first | exact Mu rfl | refine Nm fun _=>?_)):eZ P w K mg base k g ps sp:=by
 obtain ⟨fd,F,b⟩:=h.get hb
 exact ⟨f,fd,X.mm h.ns,F.kp,ok F,b⟩
theorem qu.M(h:qu K C m q st f)(X:Cx P w K mg base)(ok:∀ {fd:FuncData},dq K m q st f fd->bf P w K mg base CX k f fd ps sp)(hb:HB m q st ps:=by intro _ _ _ _ _ _;repeat' (first | exact Mu rfl | refine Nm fun _=>?_)):zZ P w K mg base CX C k m ps sp:=by
 obtain ⟨fd,F,b⟩:=h.get hb
 exact ⟨f,fd,h.meth,ok F,b⟩
theorem Rx.gg(h:Rx K g x q st f)(ps:List Str)(hb:HB x q st ps:=by intro _ _ _ _ _ _;repeat' (first | exact Mu rfl | refine Nm fun _=>?_)):∃ fd,dq K x q st f fd/\dR K fd ps []:=h.get hb
theorem QZ.gg(h:QZ K g x q st f c)(ps:List Str)(hb:HB x q st ps:=by intro _ _ _ _ _ _;repeat' (first | exact Mu rfl | refine Nm fun _=>?_)):∃ fd,dq K x q st f fd/\dR K fd ps []/\fd.code=.ref c:=h.get hb
theorem qu.gg(h:qu K C m q st f)(ps:List Str)(hb:HB m q st ps:=by intro _ _ _ _ _ _;repeat' (first | exact Mu rfl | refine Nm fun _=>?_)):∃ fd,dq K m q st f fd/\dR K fd ps []:=h.get hb
end
noncomputable abbrev Gf(K:PySem.W.Frag)(g:Str)(st:Stmt)(f:Addr):Prop:=Rx K g g g st f
set_option genInjectivity false in
set_option genSizeOf false in
structure TopF(w:World)(K:PySem.W.Frag):Prop where
 i0:Ft K "len"
 i1:Ft K "all"
 i2:Ft K "int"
 i3:wO K "NAME" "name"
 i4:wO K "KEPT" "kept"
 i5:wO K "NUMBER_words" "number"
 i6:wO K "SIGN" "sign"
 i7:wO K "QUOTE" "'"
 i8:Ig K "MOST_FIGURES" 30
 i9:R0 K "KEPT_WORDS" (Km)
 i10:R0 K "LONG_SIGNS" (xH)
 i11:R0 K "SHORT_SIGNS" (Dr)
 i12:R0 K "BETWEEN_WORDS" ([.str " ",.str "\n"])
 i13:Gf K "is_letter" qX 185
 i14:Gf K "is_figure" qU 192
 i15:Gf K "is_name_sign" jZ 178
 i16:Gf K "skip_blanks" nF 131
 i17:Gf K "skip_name_signs" iR 145
 i18:Gf K "find_end" ur 138
 i19:Gf K "make_number" oh 164
 i20:Gf K "make_word" rD 159
 i21:Gf K "split_words" m7 124
 i22:PySem.W.nsIn K mainGlobals "Reader"=some (some (.ref 301))
 i23:jQ K 301
 i24:f9 K 301 ["words","passed","within"]
 i25:PySem.W.makesIn K 301=true
 i26:PySem.W.keepIn K (.ref 301)=true
 i27:Ft K "list"
 i28:wO K "TEXT_words" "text"
 i29:wO K "END" "end"
 i30:qu K 301 "look" "Reader.look" mY 242
 i31:qu K 301 "sees" "Reader.sees" nj 249
 i32:qu K 301 "take" "Reader.take" oA 256
 i33:qu K 301 "take_if" "Reader.take_if" jr 263
 i34:qu K 301 "leave" "Reader.leave" lE 298
 i35:qu K 301 "take_all" "Reader.take_all" iQ 270
 i36:qu K 301 "take_kind" "Reader.take_kind" iG 277
 i37:qu K 301 "take_name" "Reader.take_name" iy 284
 i38:wO K "ONE" "one"
 i39:wO K "VALUE" "value"
 i40:wO K "COLUMN" "column"
 i41:R0 K "COMPARING_SIGNS" (Uw)
 i42:Gf K "read_last" lR 488
 i43:Gf K "read_minus" jT 467
 i44:Gf K "read_product" iM 460
 i45:Gf K "read_sum" pJ 453
 i46:Gf K "read_comparison" gK 446
 i47:Gf K "read_not" pP 439
 i48:Gf K "read_and" ph 432
 i49:Gf K "read_or" rU 425
 i50:Gf K "enter_all" my 474
 i51:Gf K "leave_all" lX 481
 i52:Gf K "read_expression" gO 418
 i53:Gf K "read_list" rF 404
 i54:PySem.W.nsIn K mainGlobals "Statement"=some (some (.ref 210))
 i55:jQ K 210
 i56:f9 K 210 ["kind","target","columns","expressions","changes","where","order","desc","limit"]
 i57:PySem.W.makesIn K 210=true
 i58:PySem.W.keepIn K (.ref 210)=true
 i59:qu K 210 "__init__" "Statement.__init__" jq 207
 i60:Gf K "read_where" pI 411
 i61:Rx K "read_column_reading" "read_column" "read_column" nJ 326
 i62:wO K "INT_COLUMN" "int"
 i63:wO K "TEXT_COLUMN" "text"
 i64:Gf K "read_create" nq 319
 i65:wO K "CREATE" "create table"
 i66:Gf K "read_insert" nQ 340
 i67:wO K "INSERT" "insert"
 i68:Gf K "read_select" ou 368
 i69:wO K "SELECT" "select"
 i70:Gf K "read_begin" pL 375
 i71:wO K "BEGIN" "begin"
 i72:Gf K "read_savepoint" jk 396
 i73:wO K "SAVEPOINT" "savepoint"
 i74:∃ (es:Array DictEntry) (ep:Nat),PySem.W.nsIn K mainGlobals "STATEMENT_READERS"=some (some (.ref 397))/\K.lookup 397=some ⟨.type "dict",none,.dict es ep,#[]⟩/\Sy w.params es.toList [(.inr "create",.ref 319),(.inr "drop",.ref 333),(.inr "insert",.ref 340),(.inr "update",.ref 347),(.inr "delete",.ref 361),(.inr "select",.ref 368),(.inr "begin",.ref 375),(.inr "commit",.ref 382),(.inr "rollback",.ref 389),(.inr "savepoint",.ref 396)]
 i75:qu K 301 "__init__" "Reader.__init__" nu 228
 i76:Gf K "read_statement" jl 312
 i77:PySem.W.nsIn K mainGlobals "Disk"=some (some (.ref 1081))
 i78:jQ K 1081
 i79:f9 K 1081 ["fuel","dead","done","sure","waiting"]
 i80:PySem.W.makesIn K 1081=true
 i81:PySem.W.keepIn K (.ref 1081)=true
 i82:PySem.W.nsIn K mainGlobals "NoPage"=some (some (.ref 56))
 i83:PySem.W.excIn K 56 KD.VE "ValueError.__new__"=true
 i84:PySem.W.nsIn K mainGlobals "Dead"=some (some (.ref 44))
 i85:PySem.W.excIn K 44 KD.VE "ValueError.__new__"=true
 i86:Ft K "range"
 i87:Ft K "tuple"
 i88:Ig K "MOST_NUMBERS" 40
 i89:Ig K "LARGEST_NUMBER" 255
 i90:Gf K "page_takes" jY 1003
 i91:qu K 1081 "size" "Disk.size" mU 1029
 i92:qu K 1081 "check_page" "Disk.check_page" jf 1071
 i93:qu K 1081 "spend" "Disk.spend" pG 1078
 i94:qu K 1081 "read" "Disk.read" qC 1036
 i95:qu K 1081 "write" "Disk.write" pQ 1043
 i96:qu K 1081 "sync" "Disk.sync" rB 1050
 i97:qu K 1081 "__init__" "Disk.__init__" rQ 1015
 i98:Ft K "reversed"
 i99:Ig K "BASE" 256
 i100:Ft K "max"
 i101:R0 K "HEADS" ([.int 0,.int 1])
 i102:R0 K "HEAD_BEGIN" (gM.map V.int)
 i103:Ig K "TURN_WIDTH" 8
 i104:Ig K "PAGE_WIDTH" 3
 i105:Ig K "NO_PAGE" 0
 i106:Ig K "FEWEST_PAGES" 8
 i107:Gf K "write_digits" kj 908
 i108:Gf K "read_digits" ni 915
 i109:PySem.W.nsIn K mainGlobals "Head"=some (some (.ref 1104))
 i110:jQ K 1104
 i111:f9 K 1104 ["place","turn","first"]
 i112:PySem.W.makesIn K 1104=true
 i113:PySem.W.keepIn K (.ref 1104)=true
 i114:qu K 1104 "__init__" "Head.__init__" rN 1101
 i115:Gf K "read_head" qP 1176
 i116:QZ K "find_head" "find_head" "find_head" qZ 1169 1168
 i117:PySem.W.codeHdIn K 1168 1166=true
 i118:Gf K "next_head" rT 1183
 i119:Gf K "put_head" tW 1190
 i120:Gf K "check_size" pY 1164
 i121:Gf K "make_ready" pD 1136
 i122:PySem.W.nsIn K mainGlobals "Tape"=some (some (.ref 897))
 i123:jQ K 897
 i124:f9 K 897 ["numbers","passed"]
 i125:PySem.W.makesIn K 897=true
 i126:PySem.W.keepIn K (.ref 897)=true
 i127:qu K 897 "__init__" "Tape.__init__" rO 873
 i128:qu K 897 "has_more" "Tape.has_more" jJ 880
 i129:Gf K "read_state" qd 929
 i130:PySem.W.nsIn K mainGlobals "Store"=some (some (.ref 1125))
 i131:jQ K 1125
 i132:f9 K 1125 ["disk","head","pages","numbers","kept"]
 i133:PySem.W.makesIn K 1125=true
 i134:PySem.W.keepIn K (.ref 1125)=true
 i135:qu K 1125 "__init__" "Store.__init__" pM 1122
 i136:Gf K "find_store" pq 1143
 i137:PySem.W.nsIn K mainGlobals "Base"=some (some (.ref 1225))
 i138:jQ K 1225
 i139:f9 K 1225 ["store","state","marks","dead"]
 i140:PySem.W.makesIn K 1225=true
 i141:PySem.W.keepIn K (.ref 1225)=true
 i142:qu K 1225 "__init__" "Base.__init__" rm 1222
 i143:Gf K "open_base" q8 1243
 i144:Gf K "format_disk" nZ 1236
 i145:Ft K "min"
 i146:wO K "COMMIT" "commit"
 i147:wO K "ROLLBACK" "rollback"
 i148:wO K "ROLLBACK_TO" "rollback to"
 i149:PySem.W.nsIn K mainGlobals "Table"=some (some (.ref 661))
 i150:jQ K 661
 i151:f9 K 661 ["columns","rows"]
 i152:PySem.W.makesIn K 661=true
 i153:PySem.W.keepIn K (.ref 661)=true
 i154:PySem.W.nsIn K mainGlobals "Column"=some (some (.ref 640))
 i155:jQ K 640
 i156:f9 K 640 ["name","kind","not_null","unique"]
 i157:PySem.W.makesIn K 640=true
 i158:PySem.W.keepIn K (.ref 640)=true
 i159:Ft K "dict"
 i160:Ft K "zip"
 i161:Ft K "isinstance"
 i162:Ft K "enumerate"
 i163:PySem.W.nsIn K mainGlobals "Constraint"=some (some (.ref 99))
 i164:PySem.W.excIn K 99 KD.VE "ValueError.__new__"=true
 i165:PySem.W.typeIn K (.ref 99)=some (.type "type")
 i166:PySem.W.subIn K (.ref 99) (.type "BaseException")=some true
 i167:∃ kd,PySem.W.clsIn K 99=some kd
 i168:PySem.W.subIn K (.ref 99) (.ref 99)=some true
 i169:Gf K "reckon" yg 623
 i170:Gf K "column_takes" lA 738
 i171:Gf K "check_row" rE 731
 i172:qu K 661 "__init__" "Table.__init__" o9 658
 i173:qu K 640 "__init__" "Column.__init__" nU 637
 i174:Gf K "with_rows" qJ 724
 i175:Gf K "name_values" nW 695
 i176:Gf K "judge_rows" pU 700
 i177:Gf K "make_result" nR 712
 i178:Gf K "insert_row" pN 675
 i179:Gf K "select_rows" nM 690
 i180:Gf K "make_table" pA 670
 i181:Gf K "fits_transaction" iB 787
 i182:Gf K "tell_missing" jd 802
 i183:Gf K "tell_repeated" jM 809
 i184:Gf K "find_made_twice" jc 797
 i185:Gf K "list_expressions" iD 819
 i186:Gf K "list_columns" lC 814
 i187:Gf K "find_wrong_names" iu 792
 i188:Ig K "MOST_TABLES" 4
 i189:Ig K "MOST_COLUMNS" 6
 i190:Ig K "MOST_EXPRESSIONS" 8
 i191:Ig K "MOST_ROWS" 40
 i192:Ig K "MOST_MARKS" 4
 i193:Gf K "lacks_room" qb 826
 i194:Gf K "find_refusal" lG 780
 i195:Gf K "with_table" pK 852
 i196:wO K "UPDATE" "update"
 i197:wO K "DELETE" "delete"
 i198:wO K "DROP" "drop table"
 i199:Gf K "change_table" kY 845
 i200:Gf K "carry_out" rn 838
 i201:PySem.W.nsIn K mainGlobals "Verdict"=some (some (.ref 762))
 i202:jQ K 762
 i203:f9 K 762 ["code","place","answer","state"]
 i204:PySem.W.makesIn K 762=true
 i205:PySem.W.keepIn K (.ref 762)=true
 i206:qu K 762 "__init__" "Verdict.__init__" iW 759
 i207:Gf K "judge" DQ 773
 i208:Gf K "change" yr 1271
 i209:Gf K "settle" xm 1257
 i210:Gf K "run" Qg 1250
 i211:Ft K "bool"
 i212:Ft K "str"
 i213:Gf K "_law_cell" uf 1278
 i214:Gf K "_law_mix" vL 1285
 i215:Gf K "_law_whole" rJ 1292
 i216:Gf K "_law_like" tZ 1304
 i217:Gf K "_law_answer" jW 1309
 i218:Gf K "_law_reply" lV 1316
 i219:Gf K "_law_new" vQ 1323
 i220:Gf K "law" tH 1328
theorem all_mk{l:PySem.W.OpenLaw}{w:World}{K:PySem.W.Frag}{h:Heap}{mg:Str->Option Value}{fa:Addr}(X:K.In h)(G:h.Ns mainGlobals mg)(hfa:mg "law"=some (.ref fa))(T:TopF w K)
  : ∃ fd:FuncData,(∀ (s:Shared) (v:Value),BindsTo s fd ⟨[v],[]⟩ [("_law_script",v)])/\∀ base:Heap,K.In base->base.Ns mainGlobals mg->zm mg base->bf l.prog w K mg base cX 213 fa fd ["_law_script"] (wX K 1166):=by
 have e:=hfa.symm.trans (PySem.W.mg_of X G T.i220.ns)
 cases e
 obtain ⟨oc,od,kV,doc,pm,an,cdv,ct,sl,lL,cL⟩:=T.i220.ex
 have F_law:=Cq (st:=tH) lL cL (uW lL)
 refine ⟨PySem.W.fnOf "law" "law" (ik tH) (eN tH) (az tH) .none kV doc pm an cdv ct,fun s v=>.of_eq rfl,fun base _ _ bm=>?_⟩
 have C:Cx l.prog w K mg base:=⟨h,X,G⟩
 have j0:Vn K mg:=⟨(T.i0.none X G),(T.i1.none X G),(T.i2.none X G),(T.i3.gs X G),(T.i4.gs X G),(T.i5.gs X G),(T.i6.gs X G),(T.i7.gs X G),(T.i8.gi X G),(T.i9.gt X G),(T.i10.gt X G),(T.i11.gt X G),(T.i12.gt X G)⟩
 have j1:=T.i13.S C fun F=>Dh F
 have j2:=T.i14.S C fun F=>Cv F
 have j3:=T.i15.S C fun F=>wU F j1 j2
 have j4:=T.i16.S C fun F=>xn F j0
 have j5:=T.i17.S C fun F=>ud F j0 j3
 have j6:=T.i18.S C fun F=>Gw F j0 j1 j2 j5
 have j7:=T.i19.S C fun F=>yU F j0 j2
 have j8:=T.i20.S C fun F=>De F j0 j1 j2 j7
 have j9:=T.i21.S C fun F=>zq F j0 j4 j6 j8
 have j10:=C.mm T.i22
 have j11:vh K mg 301:=⟨T.i23,T.i24.1,T.i24.2.1,T.i24.2.2.1,j10,(T.i0.none X G),(T.i27.none X G),(T.i4.gs X G),(T.i6.gs X G),(T.i3.gs X G),(T.i5.gs X G),(T.i28.gs X G),(T.i29.gs X G)⟩
 have j12:=T.i30.M C fun F=>Th F j11
 have j13:=T.i31.M C fun F=>Te F j11 j12
 have j14:=T.i32.M C fun F=>SM F j11 j12
 have j15:=T.i33.M C fun F=>Js F j11 j13
 have j16:=T.i34.M C fun F=>QS F j11
 have j17:=T.i35.M C fun F=>Fo F j11 j15
 have j18:=T.i36.M C fun F=>Dc F j11 j12 j14
 have j19:=T.i37.M C fun F=>Eh F j11 j18
 have j20:DG l.prog w K mg base 301:=⟨j12,j13,j14,j15,j17,j19,j16⟩
 have j21:X6 K mg:=⟨(T.i38.gs X G),(T.i39.gs X G),(T.i40.gs X G),(T.i41.gt X G)⟩
 obtain ⟨j22,j23,j24⟩:=T.i42.gg ["reader","steps"]
 have j25:=j23.kp
 have j26:=C.mm T.i42.ns
 obtain ⟨j27,j28,j29⟩:=T.i43.gg ["reader","steps"]
 have j30:=j28.kp
 have j31:=C.mm T.i43.ns
 obtain ⟨j32,j33,j34⟩:=T.i44.gg ["reader","steps"]
 have j35:=j33.kp
 have j36:=C.mm T.i44.ns
 obtain ⟨j37,j38,j39⟩:=T.i45.gg ["reader","steps"]
 have j40:=j38.kp
 have j41:=C.mm T.i45.ns
 obtain ⟨j42,j43,j44⟩:=T.i46.gg ["reader","steps"]
 have j45:=j43.kp
 have j46:=C.mm T.i46.ns
 obtain ⟨j47,j48,j49⟩:=T.i47.gg ["reader","steps"]
 have j50:=j48.kp
 have j51:=C.mm T.i47.ns
 obtain ⟨j52,j53,j54⟩:=T.i48.gg ["reader","steps"]
 have j55:=j53.kp
 have j56:=C.mm T.i48.ns
 obtain ⟨j57,j58,j59⟩:=T.i49.gg ["reader","steps"]
 have j60:=j58.kp
 have j61:=C.mm T.i49.ns
 obtain ⟨j62,j63,j64⟩:=T.i50.gg ["reader","written"]
 have j65:=j63.kp
 have j66:=C.mm T.i50.ns
 obtain ⟨j67,j68,j69⟩:=T.i51.gg ["reader","steps","many","operator"]
 have j70:=j68.kp
 have j71:=C.mm T.i51.ns
 obtain ⟨j72,j73,j74⟩:=T.i52.gg ["reader"]
 have j75:=j73.kp
 have j76:=C.mm T.i52.ns
 have j77:Z8 K mg:=⟨⟨_,_,j26,j23,j24⟩,⟨_,_,j31,j28,j29⟩,⟨_,_,j36,j33,j34⟩,⟨_,_,j41,j38,j39⟩,⟨_,_,j46,j43,j44⟩,⟨_,_,j51,j48,j49⟩,⟨_,_,j56,j53,j54⟩,⟨_,_,j61,j58,j59⟩,⟨_,_,j66,j63,j64⟩,⟨_,_,j71,j68,j69⟩,⟨_,_,j76,j73,j74⟩⟩
 have j78:eZ l.prog w K mg base 13 "read_or" ["reader","steps"] (Dp 301):=Tf j11 j21 j20 j77
 have j79:=ul (P:=l.prog) (w:=w) (mg:=mg) (base:=base) j73 j78
 obtain ⟨j80,j81,j82⟩:=T.i53.gg ["reader","read_one"]
 have j83:=j81.kp
 have j84:=C.mm T.i53.ns
 have j85:=C.mm T.i54
 obtain ⟨j86,j87,j88⟩:=T.i59.gg ["self","kind","target"]
 have j89:=T.i59.meth
 have j90:yc K mg 210 207:=⟨T.i55,T.i56.1,T.i56.2.1,T.i56.2.2.1,T.i56.2.2.2.1,T.i56.2.2.2.2.1,T.i56.2.2.2.2.2.1,T.i56.2.2.2.2.2.2.1,T.i56.2.2.2.2.2.2.2.1,T.i56.2.2.2.2.2.2.2.2.1,j85,T.i59.mk_ T.i57 T.i58⟩
 have j91:=Dz j84 j83 (uz j81 j11 j20 (by decide) j75 j79 j74 dM) j82
 have j92:=T.i60.S C fun F=>zT F j11 j20
 obtain ⟨j93,j94,j95⟩:=T.i61.gg ["reader"]
 have j96:=j94.kp
 have j97:=C.mm T.i61.ns
 have j98:=yC (P:=l.prog) (w:=w) (mg:=mg) (base:=base) j94 j11 j20 (T.i62.gs X G) (T.i63.gs X G)
 have j99:=Dz j84 j83 (uz j81 j11 j20 (by decide) j96 j98 j95 jA) j82
 have j100:Ww l.prog w K mg base 301 210 207 418 326:=⟨⟨_,uK j87 j90,j88⟩,j76,j97,j91,j99,j92⟩
 obtain ⟨j101,j102,j103⟩:=T.i64.gg ["reader"]
 have j104:=j102.kp
 have j105:=C.mm T.i64.ns
 have j106:=zp (P:=l.prog) (w:=w) (mg:=mg) (base:=base) j102 j11 j90 j20 j100 (T.i65.gs X G)
 obtain ⟨j107,j108,j109⟩:=T.i66.gg ["reader"]
 have j110:=j108.kp
 have j111:=C.mm T.i66.ns
 have j112:=xq (P:=l.prog) (w:=w) (mg:=mg) (base:=base) j108 j11 j90 j20 j100 (T.i67.gs X G)
 obtain ⟨j113,j114,j115⟩:=T.i68.gg ["reader"]
 have j116:=j114.kp
 have j117:=C.mm T.i68.ns
 have j118:=yO (P:=l.prog) (w:=w) (mg:=mg) (base:=base) j114 j11 j90 j20 j100 (T.i69.gs X G)
 obtain ⟨j119,j120,j121⟩:=T.i70.gg ["reader"]
 have j122:=j120.kp
 have j123:=C.mm T.i70.ns
 have j124:=z6 (P:=l.prog) (w:=w) (mg:=mg) (base:=base) j120 j11 j90 j20 j100 (T.i71.gs X G)
 obtain ⟨j125,j126,j127⟩:=T.i72.gg ["reader"]
 have j128:=j126.kp
 have j129:=C.mm T.i72.ns
 have j130:=uR (P:=l.prog) (w:=w) (mg:=mg) (base:=base) j126 j11 j90 j20 j100 (T.i73.gs X G)
 have j131:Rd5 l.prog w K mg base 301 210 (fun i=>[319,333,340,347,361,368,375,382,389,396].getD i.val 0):=by
  obtain ⟨es,ep,n1,l1,s1⟩:=T.i74
  refine ⟨⟨397,C.mm n1,X3 l1 s1 Ux (by show 10<=sizeLine;decide) (by decide)⟩,fun x hx=>?_⟩
  unfold Q0 at hx
  simp only [List.mem_cons,List.not_mem_nil,or_false] at hx
  rcases hx with rfl | rfl | rfl | rfl | rfl
  .exact ⟨_,j106,j104,j103⟩
  .exact ⟨_,j112,j110,j109⟩
  .exact ⟨_,j118,j116,j115⟩
  .exact ⟨_,j124,j122,j121⟩
  .exact ⟨_,j130,j128,j127⟩
 obtain ⟨j132,j133,j134⟩:=T.i75.gg ["self","words"]
 have j135:=T.i75.meth
 have j136:=za (P:=l.prog) (w:=w) (mg:=mg) (base:=base) j133 j11
 have j137:=T.i76.S C fun F=>uY F j11 j20 (T.i75.mk_ T.i25 T.i26) j136 j134 j9 j131
 have j138:=C.mm T.i77
 have j139:KD.Txt K mg 1081 56 44:=⟨T.i78,T.i79.1,T.i79.2.1,T.i79.2.2.1,T.i79.2.2.2.1,T.i79.2.2.2.2.1,j138,C.mm T.i82,C.mm T.i84,T.i83,T.i85,(T.i0.none X G),(T.i1.none X G),(T.i86.none X G),(T.i27.none X G),(T.i87.none X G),(T.i88.gi X G),(T.i89.gi X G)⟩
 obtain ⟨j140,j141,j142⟩:=T.i90.gg ["row"]
 have j143:=j141.kp
 have j144:=C.mm T.i90.ns
 obtain ⟨j145,j146,j147⟩:=T.i91.gg ["self"]
 have j148:=T.i91.meth
 have j149:=KD.Kd (P:=l.prog) (w:=w) (mg:=mg) (base:=base) j146 j139
 have j150:=Wl j148 j149 j147
 obtain ⟨j151,j152,j153⟩:=T.i92.gg ["self","k"]
 have j154:=T.i92.meth
 have j155:=KD.Rm (P:=l.prog) (w:=w) (mg:=mg) (base:=base) j152 j139 j148 j146 j147
 have j156:=Wl j154 j155 j153
 obtain ⟨j157,j158,j159⟩:=T.i93.gg ["self"]
 have j160:=T.i93.meth
 have j161:=KD.QC (P:=l.prog) (w:=w) (mg:=mg) (base:=base) j158 j139
 have j162:=Wl j160 j161 j159
 have j163:=T.i94.M C fun F=>(KD.TJ F j139 j154 j155 j153).down1
 have j164:=T.i95.M C fun F=>(KD.QQ F j139 j154 j155 j153 j144 j141 j142 j160 j161 j159).down1
 have j165:=T.i96.M C fun F=>(KD.Tg F j139 j160 j161 j159).down1
 have j166:Yh l.prog w K mg base 1081 56 44:=⟨T.i78,T.i79.2.1,j150,j163,j164,j165⟩
 obtain ⟨j167,j168,j169⟩:=T.i97.gg ["self","pages"]
 have j170:=T.i97.meth
 have j171:=KD.TF (P:=l.prog) (w:=w) (mg:=mg) (base:=base) j168 j139
 have j172:Zo mg:=⟨(T.i86.none X G),(T.i98.none X G),(T.i99.gi X G)⟩
 have j173:Hm K mg:=⟨(T.i0.none X G),(T.i27.none X G),(T.i100.none X G),(T.i101.gt X G),(T.i102.gt X G),(T.i103.gi X G),(T.i104.gi X G),(T.i105.gi X G),(T.i106.gi X G)⟩
 have j174:=T.i107.S C fun F=>wQ F j172
 have j175:=T.i108.S C fun F=>yD F j172
 have j176:=C.mm T.i109
 obtain ⟨j177,j178,j179⟩:=T.i114.gg ["self","place","turn","first"]
 have j180:=T.i114.meth
 have j181:=Eb (P:=l.prog) (w:=w) (mg:=mg) (base:=base) j178 T.i110 T.i111
 have j182:sU l.prog w K mg base "Head" 1104 _ _ _ _:=⟨T.i110,T.i111,j176,_,j177,T.i114.mk_ T.i112 T.i113,j181,j179⟩
 have j183:=T.i115.S C fun F=>Dv F j173 j166 j175 j182
 obtain ⟨j184,j185,j186,j187⟩:=T.i116.gg ["disk"]
 have j188:=j185.kp
 have j189:=C.mm T.i116.ns
 have j190:=Dz j189 j188 (Cp (P:=l.prog) (w:=w) (mg:=mg) (base:=base) j185 j187 T.i117 bm j173 T.i110 T.i111.2.1 j183) j186
 have j191:=T.i118.S C fun F=>Df F j173 j182
 have j192:=T.i119.S C fun F=>Hs F j173 j166 T.i110 T.i111 j174
 have j193:=T.i120.S C fun F=>zH F j173 j166
 have j194:=T.i121.S C fun F=>zL F j173 j193 j190 j191 j192
 have j195:=C.mm T.i122
 obtain ⟨j196,j197,j198⟩:=T.i127.gg ["self","numbers"]
 have j199:=T.i127.meth
 have j200:=Fb (P:=l.prog) (w:=w) (mg:=mg) (base:=base) j197 T.i123 T.i124
 have j201:sU l.prog w K mg base "Tape" 897 _ _ _ _:=⟨T.i123,T.i124,j195,_,j196,T.i127.mk_ T.i125 T.i126,j200,j198⟩
 have j202:=T.i128.M C fun F=>CJ F T.i123 T.i124 (T.i0.none X G)
 have j203:=T.i129.S C fun F=>yE F j201 j202
 have j204:=C.mm T.i130
 obtain ⟨j205,j206,j207⟩:=T.i135.gg ["self","disk","head","pages","numbers"]
 have j208:=T.i135.meth
 have j209:=zB (P:=l.prog) (w:=w) (mg:=mg) (base:=base) j206 T.i131 T.i132 j203
 have j210:sU l.prog w K mg base "Store" 1125 _ _ _ _:=⟨T.i131,T.i132,j204,_,j205,T.i135.mk_ T.i133 T.i134,j209,j207⟩
 have j211:=T.i136.S C fun F=>xD F j173 T.i110 T.i111 j193 j190 j210
 have j212:=C.mm T.i137
 obtain ⟨j213,j214,j215⟩:=T.i142.gg ["self","store"]
 have j216:=T.i142.meth
 have j217:=Es (P:=l.prog) (w:=w) (mg:=mg) (base:=base) j214 T.i138 T.i139 T.i131 T.i132.2.2.2.2.1
 have j218:sU l.prog w K mg base "Base" 1225 _ _ _ _:=⟨T.i138,T.i139,j212,_,j213,T.i142.mk_ T.i140 T.i141,j217,j215⟩
 have j219:=T.i143.S C fun F=>z9 F j211 j218
 have j220:=T.i144.S C fun F=>xN F j194
 have j221:Ui K mg:=⟨(T.i0.none X G),(T.i145.none X G),(T.i65.gs X G),(T.i67.gs X G),(T.i71.gs X G),(T.i146.gs X G),(T.i147.gs X G),(T.i148.gs X G),(T.i73.gs X G)⟩
 have j222:=C.mm T.i149
 have j223:=C.mm T.i154
 have j224:HN K mg 661 640:=⟨(T.i87.none X G),(T.i27.none X G),(T.i159.none X G),(T.i160.none X G),(T.i0.none X G),(T.i161.none X G),(T.i2.none X G),(T.i162.none X G),(T.i39.gs X G),(T.i40.gs X G),(T.i62.gs X G),T.i150,T.i151,T.i155,T.i156⟩
 have j225:ExC K mg "Constraint" 99:=⟨C.mm T.i163,T.i165,T.i166,by obtain ⟨kd,e⟩:=T.i167;rw [e];rfl,T.i168⟩
 have j226:ZZ K mg 99:=⟨C.mm T.i163,T.i164⟩
 have j227:=T.i169.S C fun F=>Jj F j224
 have j228:=T.i170.S C fun F=>wL F j224
 have j229:=T.i171.V C fun F=>Ej F j224 j226 j228
 obtain ⟨j230,j231,j232⟩:=T.i172.gg ["self","columns","rows"]
 have j233:=T.i172.meth
 have j234:=zM (P:=l.prog) (w:=w) (mg:=mg) (base:=base) j231 j224
 have j235:sU l.prog w K mg base "Table" 661 _ _ _ _:=⟨T.i150,T.i151,j222,_,j230,T.i172.mk_ T.i152 T.i153,j234,j232⟩
 obtain ⟨j236,j237,j238⟩:=T.i173.gg ["self","name","kind","not_null","unique"]
 have j239:=T.i173.meth
 have j240:=yu (P:=l.prog) (w:=w) (mg:=mg) (base:=base) j237 T.i155 T.i156
 have j241:sU l.prog w K mg base "Column" 640 _ _ _ _:=⟨T.i155,T.i156,j223,_,j236,T.i173.mk_ T.i157 T.i158,j240,j238⟩
 have j242:=T.i174.S C fun F=>CG F j224 j235
 have j243:=T.i175.S C fun F=>yt F j224
 have j244:=T.i176.S C fun F=>zQ F j224 j90
 have j245:=T.i177.S C fun F=>yf F j224 j227
 have j246:=T.i178.V C fun F=>An F j224 j90 j227 j229 j242
 have j247:=T.i179.S C fun F=>zg F j224 j90 j244 j243 j245
 have j248:=T.i180.S C fun F=>zR F j224 j90 j241 j235
 have j249:=T.i181.S C fun F=>R9 F j221
 obtain ⟨j250,j251,j252⟩:=T.i182.gg ["named","known"]
 have j253:=j251.kp
 have j254:=C.mm T.i182.ns
 have j255:=Dz j254 j253 (QD (P:=l.prog) (w:=w) (mg:=mg) (base:=base) j251) j252
 have j256:=Dz j254 j253 (Ov (P:=l.prog) (w:=w) (mg:=mg) (base:=base) j251) j252
 have j257:=T.i183.S C fun F=>M8 F
 have j258:=T.i184.S C fun F=>NT (CT:=661) (CC:=640) F j90 j257
 have j259:=T.i185.S C fun F=>O9 F j90
 have j260:=T.i186.S C fun F=>Rh F j90 j224 j259
 have j261:=T.i187.S C fun F=>Pu F j221 j90 j224 j258 j255 j256 j260 j257
 have j262:TxM mg:=⟨(T.i188.gi X G),(T.i189.gi X G),(T.i190.gi X G),(T.i191.gi X G),(T.i192.gi X G)⟩
 have j263:=T.i193.S C fun F=>PP F j221 j262 j90 j224
 have j264:=T.i194.S C fun F=>Jm F j221 j90 j249 j261 j263
 have j265:=T.i195.S C fun F=>Sw F j224
 have j266:YJ mg:=⟨(T.i196.gs X G),(T.i197.gs X G),(T.i69.gs X G),(T.i198.gs X G)⟩
 have j267:=T.i199.V C fun F=>Np F j221 j90 j246 j265
 have j268:=T.i200.V C fun F=>QH F j221 j266 j90 j267 j247 j265 j248
 have j269:=C.mm T.i201
 obtain ⟨j270,j271,j272⟩:=T.i206.gg ["self","code","place","answer","state"]
 have j273:=T.i206.meth
 have j274:=wR (P:=l.prog) (w:=w) (mg:=mg) (base:=base) j271 T.i202 T.i203
 have j275:sU l.prog w K mg base "Verdict" 762 _ _ _ _:=⟨T.i202,T.i203,j269,_,j270,T.i206.mk_ T.i204 T.i205,j274,j272⟩
 have j276:=T.i207.S C fun F=>QT F j225 j275 ⟨_,j270,T.i206.mk_ T.i204 T.i205,vo j271 T.i202 T.i203,j272⟩ j264 j268
 have j277:=T.i208.S C fun F=>Vw F T.i138 T.i139
 have j278:=T.i209.S C fun F=>Nq F j221 j266 j90 T.i138 T.i139 j277
 obtain ⟨j279,j280,j281⟩:=T.i210.gg ["base","text"]
 have j282:=j280.kp
 have j283:=C.mm T.i210.ns
 have j284:=Wc (P:=l.prog) (w:=w) (mg:=mg) (base:=base) j280 T.i138 T.i139 T.i202 T.i203 j137 j276 j278
 have j285:=Dz j283 j282 (Sh j284) j281
 have j286:=Dz j283 j282 (Vy j284) j281
 have j287:Ry mg:=⟨(T.i161.none X G),(T.i2.none X G),(T.i0.none X G),(T.i211.none X G),(T.i212.none X G),(T.i27.none X G),(T.i87.none X G),(T.i86.none X G)⟩
 have j288:=T.i213.S C fun F=>FP F j287
 have j289:=T.i214.S C fun F=>Jh F j288
 have j290:=T.i215.S C fun F=>Em F j287
 have j291:=T.i216.S C fun F=>Dm F j287 j290
 obtain ⟨j292,j293,j294⟩:=T.i217.gg ["_law_found","_law_due"]
 have j295:=j293.kp
 have j296:=C.mm T.i217.ns
 have j297:=Dz j296 j295 (yG (P:=l.prog) (w:=w) (mg:=mg) (base:=base) j293 j287 j290) j294
 have j298:=Dz j296 j295 (xO (P:=l.prog) (w:=w) (mg:=mg) (base:=base) j293 j287 (T.i160.none X G) (T.i1.none X G) j291) j294
 have j299:eZ l.prog w K mg base 4 "_law_reply" ["_law_found","_law_due"] Gi:=T.i218.S C fun F=>WF ((Al F j287 j290 j297).mono (by decide)) (zY F j287 j290 j298)
 have j300:=T.i219.S C fun F=>Jf F j220 j138 (T.i97.mk_ T.i80 T.i81) j171 j169
 exact Vs F_law j287 j289 j299 j300 j219 j285 j286
theorem walk{l:PySem.W.OpenLaw}{q:Program}{loose:List Str}{XP:(Str->Option Value)->Heap->Prop}{YP:World->Heap->Prop}{d:DefRec}{K:Params->PySem.W.Frag}(hn:l.most=some 63)(hdf:d.params.defaults=[])
  (hY:∀ (w:World) (h:Heap),YP w h->(K w.params).In h) (hYP:∀ (w:World) (h:Heap),YP w h->h.get? 1166=some (PySem.W.tabObj #[])) (hPK:∀ w:World,(K w.params).lookup 1166=none) (hC:∀ w:World,PySem.W.codeHdIn (K w.params) 1168 1166=true)
  (F:∀ (w:World) (mg:Str->Option Value) (fa:Addr) (h:Heap),(K w.params).In h->h.Ns mainGlobals mg->mg d.name=some (.ref fa) ->
   ∃ fd:FuncData,(∀ (s:Shared) (u:Value),BindsTo s fd ⟨[u],[]⟩ [("_law_script",u)])/\∀ base:Heap,(K w.params).In base->base.Ns mainGlobals mg->zm mg base->bf l.prog w (K w.params) mg base cX 213 fa fd ["_law_script"] (wX (K w.params) 1166)) :
  PySem.W.WalkO q loose XP YP l.row.toRowW d [] (fun f vs=>PySem.call f vs) :=
 L2.Qu (n:=63) (k:=213) (x := "_law_script") (c:=1168) (Pt:=1166) (CX:=fun _=>cX) (sp:=fun w=>wX (K w.params) 1166) hn (by decide) hdf ⟨rfl,by decide,by decide⟩ hY hYP hPK hC F (fun _ _ a ns hl hO hS=>⟨a,ns,rfl,hS,hl,.inl hO.1,fun _=>rfl⟩) fun _ _ _ _ _ z=>z
end KL
open KL L2 PySem PySem.W PyProof.Rows PySem.Calls
theorem HH.tops (w:World) (h:Heap) (e:PySem.Challenge.rw_ledgerdb_k32_no_room.most=some 63) (KX:(HH.K w.params).In h):KL.TopF w (L2.KOf KX):=by
 revert e KX
 k_fill
 intro e KX
 dsimp only [L2.KOf]
 constructor
 all_goals first
  | k_is
  | k_exc
  | exact ⟨_,by k_is⟩
  | (show PySem.W.nsIn _ mainGlobals _=some none; k_is)
  | exact ⟨by k_is,_,_,_,_,_,_,_,_,_,by k_is,by k_is⟩
  | exact ⟨by k_is,_,_,_,_,_,_,_,_,by k_is,by k_is⟩
  | exact ⟨by k_is,by k_is,by k_is,by k_is⟩
  | exact ⟨_,_,_,_,_,by k_is,by k_is,by repeat (first | exact .nil | refine .cons ⟨_,rfl⟩ ?_),by decide⟩
  | exact ⟨_,_,by k_is,by k_is,by repeat (first | exact .nil | refine .cons rfl ?_)⟩
  | exact ⟨by k_is,⟨_,by k_is,by rfl,by rfl⟩,by k_is⟩
  | exact ⟨by k_is,by k_is,by k_is,rfl⟩
  | exact ⟨by k_is,by k_is,by k_is,by k_is,⟨_,by k_is,by rfl⟩⟩
  | ((repeat' first | exact trivial | refine ⟨?_,?_⟩ | (show PySem.W.findIn _ _ _=some none; k_is)); done)
  | kernel_rfl
theorem PySem.Challenge.cw_ledgerdb_k32_no_room_holds : PySem.Challenge.rw_ledgerdb_k32_no_room.Holds := by
  refine HH.law (KL.walk (l := PySem.Challenge.rw_ledgerdb_k32_no_room) (K := HH.K) rfl (by kernel_rfl) (fun w h Y => PySem.W.km_in_of Y) (fun w h Y => PySem.W.km_tabs_of Y 1166 (by simp)) (fun w => by kernel_rfl) (fun w => by kernel_rfl) fun w mg fa h KX G hmg => KL.all_mk KX G (HH.dn ▸ hmg) (HH.tops w h rfl KX))
