import PyProof.Rows.All
import Wide.All
import OpenK.AllK
import Wide.FinOn
import PyProof.EqAt
import PyProof.EqKinds
import PyProof.TupleCall
import KE.BitLaws
import Open.SpecLaws
import KE.OsHead
import KE.OsGo
import Open.Tops
import PyKp272
import PySem.Challenge.RW_choicetriangle_s01_answers
set_option Elab.async false
set_option linter.all false
set_option maxHeartbeats 4000000
theorem ip{c:Prop}{h:Decidable c}(hc:c){α:Sort u}{t e:α}:ite c t e=t:=if_pos hc
theorem ig{c:Prop}{h:Decidable c}(hc:¬c){α:Sort u}{t e:α}:ite c t e=e:=if_neg hc
theorem dqt{p:Prop}[i:Decidable p]:decide p=true→p:=of_decide_eq_true
theorem dqf{p:Prop}[i:Decidable p]:decide p=false→¬p:=of_decide_eq_false
theorem dqe{p:Prop}[i:Decidable p]:(decide p=true)=p:=decide_eq_true_eq
theorem det{p:Prop}[i:Decidable p]:p→decide p=true:=decide_eq_true
theorem def_{p:Prop}[i:Decidable p]:¬p→decide p=false:=decide_eq_false
namespace PySem.W.Fast
def tw6755128028243953779:=0
def tw11188340022127115815:=0
def tw14067956104923610961:=0
def tw788645269016334503:=0
def tw5172873824759052389:=0
def tw10966578150362678911:=0
def tw14152281313893707397:=0
def tw9891095733477041174:=0
def tw9829150052596866793:=0
def tw11691180796951072648:=0
def tw11519738554785867613:=0
def tw8995123519885258671:=0
def tw15434031146160222895:=0
def tw2269703533574537617:=0
def tw13325124806682116295:=0
def tw16170130769714159286:=0
def tw11779378607533905691:=0
def tw8094274143392545288:=0
def tw15964041948721312375:=0
def tw16948088088956647958:=0
def tw2787872500835133486:=0
def tw2095032494824471536:=0
def tw708633435576277905:=0
def tw399250007823589674:=0
def tw3537295947545787491:=0
def tw14239879603071466876:=0
def tw15150759425779355464:=0
def tw16806390322464307952:=0
def tw11186879670510584712:=0
def tw9513377343180184144:=0
def tw14569029988729114219:=0
def tw9142514625502011402:=0
def tw2819549192751068288:=0
def tw5139633004312951680:=0
def tw5922793307321745579:=0
def tw448990400732263069:=0
def tw2236457466782828971:=0
def tw12983956399234724022:=0
def tw9742419431328903798:=0
def tw687406632223153583:=0
def tw17925231626165231585:=0
def tw7302787244381815381:=0
def tw2953007921181985512:=0
def tw6182403271387828218:=0
def tw14828924579784273697:=0
def tw10252051785562111618:=0
def tw8401443395822054238:=0
def tw4361125656219466673:=0
def tw12433933510806298598:=0
def tw12090221102170674358:=0
def tw18347476191153354199:=0
def tw1979418410175495249:=0
def tw16698689882059351459:=0
def tw16101580473369310016:=0
def tw14087302887064553529:=0
def tw1862584986447469728:=0
def tw8110156208424419339:=0
def tw9790113313602042497:=0
def tw4120436156372486140:=0
def tw14527359622643034698:=0
def tw1915914975717677731:=0
def tw15979371585164667677:=0
def tw13133524973307406208:=0
def tw16965923121744090334:=0
def tw8963706661146387281:=0
def tw15172595968410356324:=0
def tw2045351969340660866:=0
def tw10301048330410394333:=0
def tw10922182629180306967:=0
def tw1628942388047441662:=0
def tw8720624780666636414:=0
def tw8201920753262730850:=0
def tw4009380575958938474:=0
def tw7037146364892385933:=0
def tw14181293976253644971:=0
def tw16442550531236264377:=0
def tw2076673252539560796:=0
def tw16233489458774924371:=0
def tw7717183587794810332:=0
def tw11848052334452819373:=0
def tw7685949232245152115:=0
def tw12250995142906986635:=0
def tw1023327600762878729:=0
def tw17656968883433741152:=0
def tw5382171893723366344:=0
def tw16546104904528094742:=0
def tw4883082098795654989:=0
def tw9663959645355861410:=0
def tw15780276445439596406:=0
def tw2563809564225966352:=0
def tw1571919408373382669:=0
def tw326284435598197673:=0
def tw5498931631173307666:=0
def tw13874451910773678604:=0
def tw406846640849241903:=0
def tw12841172806580316672:=0
def tw6168648272645303290:=0
def tw2437412424412815729:=0
def tw7733681615374910018:=0
def tw3697459633978537656:=0
def tw12981955486561307926:=0
def tw16417890638488893870:=0
def tw13088384287575866451:=0
def tw16651859328206306229:=0
def tw9154570271334258739:=0
def tw12244209466030377387:=0
def tw4786264732434104848:=0
def tw12911012606405382958:=0
def tw16246028732917127971:=0
def tw15902237803877568098:=0
def tw584141817893985664:=0
def tw11810136509266377749:=0
def tw15934789435634450509:=0
def tw15436511101348624380:=0
def tw11358156524562219764:=0
def tw7707005497490600191:=0
def tw1511788718002015027:=0
def tw11216164752880912310:=0
def tw6005774060096816464:=0
def tw12944040450646350177:=0
def tw8450578206047799008:=0
def tw10354263622649633236:=0
def tw9612399627751878911:=0
def tw8450359248202570292:=0
def tw10961807960703698580:=0
def tw48686695794242575:=0
def tw7780328878939157708:=0
def tw11688260298200695024:=0
def tw2962628025727858866:=0
def tw5587940960388871213:=0
def tw2724214404468995349:=0
def tw4670448526815963094:=0
def tw4674775060864841063:=0
def tw2751677275665357524:=0
def tw18273653904190315326:=0
def tw7991207017794194025:=0
def tw4490716955266159199:=0
def tw17909350978184777354:=0
def tw13185650025629854529:=0
def tw16864031718337921310:=0
def tw5768501692806272287:=0
def tw3772537642607835169:=0
def tw1257837208490536663:=0
def tw6400755573750834385:=0
def tw16448785977455733165:=0
def tw16994207478885323284:=0
def tw17476884725684326406:=0
def tw14648718757113805069:=0
def tw16102801825892333933:=0
def tw12327203037399016054:=0
def tw18277822584356789008:=0
def tw7523745528843435444:=0
def tw18369215970256586962:=0
def tw629250316388468363:=0
def tw7545453670624027617:=0
def tw17423453547390304986:=0
def tw12911447877560959206:=0
def tw5360091588959723825:=0
def tw16122108536607304551:=0
def tw11333203744603432854:=0
def tw1801267412234140250:=0
def tw8903671681460929185:=0
def tw7599680823732512326:=0
def tw15986040935336720929:=0
def tw4478501002940122948:=0
def tw10866688554045351714:=0
def tw4615751886673686786:=0
def tw10914371828126310825:=0
def tw1582173516228871956:=0
def tw1904958470706434309:=0
def tw8956306106370609112:=0
def tw2685709643822260524:=0
def tw11748490435989375877:=0
def tw6352262416112046846:=0
def tw12962017812678116039:=0
def tw4518334311591050400:=0
def tw5814807399752740960:=0
def tw15462369890803881173:=0
def tw10886130413950488897:=0
def tw10948467542879980505:=0
def tw15537014073437369996:=0
def tw7733160769546639675:=0
def tw12101534726851801115:=0
def tw2934404023404333527:=0
def tw1123506719270290027:=0
def tw1658208896807646881:=0
def tw11956247398899208993:=0
def tw17426299071355189442:=0
def tw3991528299704550178:=0
def tw15834742274182754627:=0
def tw9855350169036440549:=0
def tw7094558440128790694:=0
def tw5340243036899369638:=0
def tw7301204828290950376:=0
def tw18320416047690195945:=0
def tw16417814441885384074:=0
def tw9044661334895264202:=0
def tw321142259032254379:=0
def tw16799801293826401836:=0
def tw3702509509511263117:=0
def tw4302626031294551278:=0
def tw4097557937073389006:=0
def tw15182571825682822543:=0
def tw16016511604221667983:=0
def tw14165118355203269841:=0
def tw17519244817678534897:=0
def tw3434723628805004146:=0
def tw18416168335119392115:=0
def tw9501889445580456215:=0
def tw17225942283825105847:=0
def tw8950173630295149817:=0
def tw13143294343569737433:=0
def tw10673142004474986970:=0
def tw9404173053652140538:=0
def tw7912685170767983068:=0
def tw12172113761130605340:=0
def tw14649677522122479551:=0
def tw13509261272378660453:=0
end PySem.W.Fast
set_option maxRecDepth 100000
namespace Hd
open PySem PySem.W PyProof.Rows
theorem w1:PySem.Challenge.rw_choicetriangle_s01_answers.wellSaid=true:=by
 unfold OpenSpec.wellSaid looksOpen
 repeat' (with_reducible refine Bool.and_eq_true_iff.mpr ⟨?_,?_⟩)
 all_goals decide +kernel
theorem w3:PySem.Challenge.rw_choicetriangle_s01_answers.prog.bare:=⟨rfl,rfl,rfl,rfl,rfl,by decide +kernel⟩
end Hd
open_shared sh for PySem.Challenge.pw_choicetriangle_s01_answers leaving 0
namespace Hd
open PySem PySem.W PyProof.Rows
noncomputable abbrev pw:Program:=PySem.Challenge.pw_choicetriangle_s01_answers
noncomputable abbrev ps0:Pos:=⟨0,0,0,0⟩
noncomputable abbrev B0:List Frame:=[topFrame ps0]
noncomputable abbrev c0:Code:=.body (behindTheImports pw) sh.env_1
noncomputable abbrev S1 (w:World) (os:OsState):Shared:=(SharedT.mk (sh.tree_4 w.params) 15 {} (Array.mk []) {} 187 os).abs
noncomputable abbrev S2 (w:World) (os:OsState):Shared:=(SharedT.mk (sh.tree_1049 w.params) 1016 {} (Array.mk []) {} 1702 os).abs
theorem pre:∀w:World,(fun os=>topGo treeTable pw w 11 (some (.ref 6)) 12 ⟨boot_heap w.params,Array.mk [],boot_drawn,boot_toks,os⟩ (topStub pw))=fun os=>some (S1 w os,⟨denote treeTable c0,c0,ps0,B0⟩):=fun w=>by kernel_rfl
noncomputable abbrev H1 (P:Params):Heap:=absHeap (sh.tree_1049 P) 1016 {}
theorem blk:∀w:World,(fun os=>segRun treeTable pw w 11 (some (.ref 6)) 1 1 (S1 w os) (blockOf (behindTheImports pw) sh.env_1 c0 ps0 B0))=fun os=>some (Flow.next,S1 w os,c0,ps0):=fun w=>by kernel_rfl
theorem fin:∀w:World,(fun os=>topRun treeTable pw w 11 (some (.ref 6)) 2 (S2 w os) (restOf [] sh.env_1 c0 ⟨803,0,810,53⟩ B0))=fun os=>some (S2 w os):=fun w=>by kernel_rfl
theorem run(w:World)(os:OsState):topRun treeTable pw w 11 (some (.ref 6)) 5618 ⟨boot_heap w.params,Array.mk [],boot_drawn,boot_toks,os⟩ (topStub pw)=some ⟨H1 w.params,Array.mk [],{},1702,os⟩:=
 go_top (n:=12) (N:=5606) (congrFun (pre w) os) (piece_block (n:=1) (N:=5605) (congrFun (blk w) os) (sh.chain pw (behindTheImports pw) w os [] 3 _ (topRun_mono 1 _ _ _ _ (congrFun (fin w) os))))
noncomputable abbrev q:Program:={ pw with main:={ pw.main with body:=[pw.main.body.getD 212 (.Pass ps0)] } }
noncomputable abbrev lo:List Str:=(pw.main.scope.names.map (·.1)).filter fun x=>!(x == "answers")
theorem opn:∀w:World,(fencedOpening treeTable pw w 11300).map (fun s=>(s.heap,s.gens,s.drawn,s.toks))=some (boot_heap w.params,Array.mk [],boot_drawn,boot_toks):=boot_open (by kernel_rfl) (by kernel_rfl) fun s=>by kernel_rfl
theorem siz(w:World):((boot_heap w.params).isNs mainGlobals&&(Array.mk []:Array GenState).size==0,(boot_heap w.params).objs.size,(boot_heap w.params).nsMap mainGlobals "__annotations__")=(true,11,some (.ref 6)):=by kernel_rfl
theorem bG8(w:World):(fun os=>(staticsOk (importedModules pw.main.body) (boot_heap w.params) (H1 w.params)&&namesBound pw (H1 w.params)&&gensDone (S2 w os)&&laidKept (boot_heap w.params) (H1 w.params)))=fun _=>true:=by kernel_rfl
theorem bG9(w:World):(fun os=>seen ((recsOf q).map (·.name)) (ownsOf q) [] { S2 w os with gens:=#[] })=fun _=>expectedOf q:=by kernel_rfl
theorem bGa(w:World):(fun os=>(S2 w os).heap.bltView)=fun _=>bltViewBooted:=by kernel_rfl
theorem bGb(w:World):(fun os=>((S2 w os).heap.keysOk (looseW q lo) ((recsOf q).map (·.name)) ((litsOf q).map (·.1)) ((clssOf q (looseW q lo)).map (·.name))&&(S2 w os).heap.accountedOkI (importedModules pw.main.body)&&(S2 w os).heap.isNs mainGlobals&&(S2 w os).heap.isNs builtinsNs&&tablesOk q (S2 w os).heap&&recOk [] (S2 w os)&&(if true then(S2 w os).gens.size==0 else !leftWithCleanup (S2 w os).gens)))=fun _=>true:=by kernel_rfl
theorem bGc(w:World):(fun os=>tabsOk q (S2 w os))=fun _=>true:=by kernel_rfl
theorem bGd(w:World):(fun os=>pinSeenD q (drecsOf q) (S2 w os))=fun _=>pinGoodD (drecsOf q):=by kernel_rfl
theorem bGe(w:World):(fun os=>plainSeenE q (looseW q lo) (S2 w os))=fun _=>plainGoodE q (looseW q lo):=by kernel_rfl
theorem bGf(w:World):(fun os=>plainSeenD q lo (S2 w os))=fun _=>plainGoodD q lo:=by kernel_rfl
theorem bGg(w:World):(fun os=>wideSeen q (S2 w os))=fun _=>wideGood q:=by kernel_rfl
theorem bGh(w:World):(fun os=>clsSeenW q lo (S2 w os))=fun _=>clsGoodW q lo:=by kernel_rfl
abbrev Xt(s:Shared):Bool:=recOk [] s
abbrev YP(w:World)(h:Heap):Prop:=∀b o,(H1 w.params).get? b=some o→h.get? b=some o
theorem left:LeftO pw q lo Xt (fun s=>s.heap) (fun w=>H1 w.params) 11300:=
 LeftO.of_pieces (H₀:=boot_heap) (H₁:=H1) (M:=5618) opn siz run rfl fun w=>funext fun os=>
  looks_pair (congrFun (bG8 w) os) (looks_pair (looks_pair (congrFun (bG9 w) os) (looks_pair (congrFun (bGa w) os) (looks_pair (congrFun (bGb w) os) (looks_pair (congrFun (bGc w) os) (looks_pair (congrFun (bGd w) os) (looks_pair (congrFun (bGe w) os) (looks_pair (congrFun (bGf w) os) (looks_pair (congrFun (bGg w) os) (congrFun (bGh w) os))))))))) rfl)
theorem w2:(chainsOk q&&opensWell PySem.Challenge.rw_choicetriangle_s01_answers.prog)=true:=by decide +kernel
theorem w4:∃args,PySem.Challenge.rw_choicetriangle_s01_answers.pre args=true∧WData.layableAll args=true:=⟨[.list [.int 3]],by decide +kernel,by decide +kernel⟩
end Hd

open Option renaming bind_eq_some_iff→Aa,map_eq_some_iff→Ae,bind_some→Af,map_some→Bt,getD_none→Lm
open List renaming range→Ab,length_map→Ag,map_cons→Ai,map_map→Aj,mem_range→Ak,size_toArray→Am,length_cons→Ar,getElem?_eq_some_iff→As,getElem?_set_ne→Au,range_succ_eq_map→Av,map_congr_left→Ax,mem_cons→A1,mem_cons_of_mem→A4,length_append→A6,map_append→A7,replicate→A8,getElem?_map→Bb,all_eq_true→Bc,getElem?_eq_getElem→Bf,length_range→Bj,length_filter_le→Br,mem_cons_self→Bu,all_cons→Bz,getD_eq_getElem?_getD→B4,range_succ→B5,getElem?_set_self→Cb,mem_map→Cd,append_nil→Co,foldl_cons→Cp,nil_append→Cq,mem_append_right→Cw,getElem?_append_left→Cz,getElem?_cons_succ→C6,filterMap_cons→Dd,getElem?_eq_none→Dh,append_assoc→Dj,cons→Dk,map_singleton→Dq,sum_cons→Dr,mem_of_getElem?→Du,getElem?_append_right→Dx,drop_of_length_le→Dy,flatMap_cons→D0,lookup_cons→D5,filter_cons→D6,range_add→D9,filter_congr→Eb,mem_append→Ed,sum_append→Eg,filter_append→El,drop_eq_getElem_cons→Eo,mem_filter→Es,reverse_cons→Et,set_set→E1,lookup→E3,getElem?_range→E7,length_eq_zero_iff→E8,countP_append→Fg,countP_eq_length_filter→Fh,all_append→Fo,find?_cons→Fs,countP_congr→Fv,map_take→Fy,getElem?_set→F0,length_take→F4,any_eq_true→F6,getD_cons_succ→F7,reverse_append→F9,length_nil→Gj,sum_singleton→Gn,filter_map→Gp,take_of_length_le→Gu,map_nil→G4,dropLast_eq_take→G7,mem_append_left→He,any_cons→Hh,nodup_cons→Hn,countP_eq_zero→Hs,length_reverse→Hu,take_succ_cons→Hv,set_cons_zero→Ig,mem_replicate→Ih,foldl_append→Iu,length→Iw,countP→Iz,getElem?_cons_zero→Jb,length_drop→Jc,cons_append→Jd,map_reverse→Jf,filter_eq_nil_iff→Jh,of_mem_zip→Jm,length_set→Jn,all_map→Jp,countP_map→Jr,countP_eq_length→Js,getElem?_reverse→Jv,getElem?_toArray→Jx,set_append_right→J6,map→Ka,reverse_reverse→Kd,foldl_map→Kg,mem_filterMap→Km,set_cons_succ→Kq,map_drop→Kr,find?_eq_none→Kv,ext_getElem→Lo,countP_cons→Lp,drop_length→Lq,not_mem_nil→Ls,take_range→L0,forIn_nil→Mp,tail_cons→Mx,drop_drop→Mz,foldl→Nj,count→Nr
open Bool renaming and_eq_true→Ac,false_ne_true→A5,decide_or→Bo,noConfusion→Cn,eq_iff_iff→C8,false_eq_true→Do,and_self→Ej,and_eq_true_iff→Er,or_eq_true→Eu,true_and→Fw,not_eq_true'→Gz,and_eq_false_iff→Ju,and_true→Ko,true_or→Lg,false_and→Mb,and_false→Mn
open PySem.W renaming Frag→Ad,keepIn→Bl,emptyDict→Dg,findIn→Dm,instObj→Ec,mg_of→En,fnOf→Ez,nsIn→Fu,hasDictIn→Gv,codeIn→G2,plainGet→G9,length_le_weightAllW→Hi,methodObj→Io,plainOver→Ip,cellsFrom_some→Jg,takerIn→Jj,makesIn→Jk,lookIn→Ke,callWith_K0→Kh,callWith_K→Kn,mg_none_of→Kx,handedIn→Ll,WRecords→Ln,WalkOS→Mr,isFn→Of
open Kp267 renaming times→Ah,timesOf→Bi,parts→Bk,primes→Bn,prod→By,step→Ci,MOST→Cs,small→F8,least→Hy,say→Jz,rest→Kb,noughts→Ku,gaps→Np,tellAll→N5
open Kp272 renaming step→Al,Walk→Cj,say→Ck,Call→C7,avoidRow→C9,State→Dt,divided→Em,avoid→Ft,apartOf→Fz,MOST→Gi,at_→G6,together→Im,number→J7,turnsTo→Kp,turned→Lk,best→Nw,tellAll→Oc
open Nat renaming le_refl→An,mod_eq_of_lt→Aw,lt_of_lt_of_le→Bg,zero_add→Bw,mod_lt→Bx,gcd→B3,le_trans→B7,lt_of_le_of_lt→B9,pow_succ→Cm,add_sub_cancel→Cu,ne_of_lt→Cv,div_div_eq_div_mul→C0,add_sub_cancel_left→C4,lt_irrefl→Da,div_eq_of_lt→Dv,two_pow_pos→D3,mul_le_mul_right→D7,div_add_mod→Ee,testBit→Ef,mul_comm→Ek,zero_le→E4,mul_div_cancel_left→E5,lt_succ_self→Fb,mod_eq_zero_of_dvd→Fe,dvd_of_mod_eq_zero→Ff,mul_add→Fj,one_mul→Fk,add_zero→Fl,add_comm→Fq,le_add_right→F5,gcd_pos_of_pos_right→Gf,add_assoc→Gk,min_eq_left→Gm,le_of_succ_le→Gw,lt_succ_of_lt→Gx,mul_one→Gy,succ→G3,gcd_dvd_left→Ha,min_eq_right→Hb,div_le_div_right→Hf,div_lt_of_lt_mul→Hg,le_of_dvd→Hj,mul_le_mul_left→Hq,mul_add_mod→Hr,mod_mod→Ht,zero_mod→Ie,lt_of_mul_lt_mul_left→Ik,mul_assoc→Iy,pow_add→I0,le_of_lt→Ji,le_of_eq→Jl,div_lt_iff_lt_mul→Jq,zero_mul→Jt,mul_mod_mod→J0,gcd_comm→J2,pow_le_pow_right→Kc,le_succ→Ki,div_pos→Kj,gcd_dvd_right→K3,le_succ_of_le→K4,succ_min_succ→K7,lcm→K8,add_mod_right→La,add_div_right→Lb,ne_of_gt→Le,zero_div→Lh,pow_zero→Li,le_of_not_lt→Lr,land→Lu,mul_add_div→Ly,div_one→Lz,mod_mul_mod→L3
open Kp268 renaming times→Ao,spared→Bv,step→Cf,choose→Di,MOST→Ey,whole→Fm,none_→Fp,twos→Gc,row→G5,say→Hw,tellAll→Kt
open Kp269 renaming left→Ap,step→B1,row→Ca,smallRow→Dn,leftOf→D2,counts→E2,twos→Fx,MOST→F3,tellAll→Hk,say→Hz,ones→K6,turns→L5,nextRow→N2,odd→Oz
open Eq renaming trans→Aq
open Kp271 renaming things→Ay,number→A3,choose→Cy,step→Dl,greatestThing→Eh,exchanged→Ew,sumOf→Ga,say→Ia,choiceOf→Ij,numberOf→Il,choice→Jw,waysOf→J5,meet→Nv,sharing→Ob,Ans→O3
open Option.some renaming inj→A0
open Kp266 renaming digitsOf→A2,places→A9,okP→Ba,isPrime→Bh,MOST→B6,step→Ce,cross→Cr,carried→Dc,timesOf→Ds,digits→D4,times→Ep,say→Jy,tellAll→Ks,ways→Nk
open PySem.Challenge renaming rw_choicetriangle_s01_answers→Bm,pw_choicetriangle_s01_answers→Df
open PyProof.Rows renaming callWith_type1→Bp
open PySem renaming mem_of_lookup→Bq,Spec→Fd,Env→Gq,Within→Lc,getD_mem→Mo,boot_len→Mv,Builtin→N0
open Kp270 renaming step→B2,greatest→C3,dividing→Ea,shared→Gh,tellBig→Hl,starProduct→Iv,places→J3,evenThree→J4,inner→Kk,say→Kw,lcmAll→Lj,tellHuge→My,star→Nt,tellAll→N9
open Int renaming toNat_natCast→B8,eq_ofNat_of_zero_le→Cg,ofNat_sub→D1,natCast_add→Ei,fdiv_eq_ediv_of_nonneg→Ib,fmod_eq_emod_of_nonneg→Ic,natCast_emod→Je,add_emod→J1
open PyKp272 renaming shape→Cc,whole→D8,answers_asked→J8,answers→J9
open Kp272Neutral renaming step→Ct,callOf→De,naturals→G8,asked1→Kl
open Array renaming length_toList→C2,getElem?_toList→Jo,toList→Ld
open PySem.F renaming plainAttrs_list→C5,slot_list_append→Gd,type_list_append→Ge,slot_list_extend→Iq,type_list_extend→Ir,slot_list_count→Ja
open False renaming elim→Dz
open Function renaming comp→E6
open PyFlat renaming played→E9,told→Gb,call→G1,calls→Ii,rows→L6
open PyProof renaming noPylong_small→Gr
open Ne renaming symm→Hm
open ForInStep renaming yield→Ho
open Sum renaming inl→Kz,inr→K0
open Or renaming inl→Lx
open Prod renaming snd→Od
noncomputable section
namespace L2
set_option maxRecDepth 100000
open PySem PySem.Spec PyProof.Rows
abbrev Key:=Sum Int Str
noncomputable def aZ4:Key→Value→Bool
 |.inl k,v=>Value.isInt k v
 |.inr x,v=>Value.isStrOf x v
noncomputable def bG6 (w:World):Key→Int
 |.inl k=>hashInt k
 |.inr x=>hashStr w x
theorem eI:∀{k:Key}{v:Value},aZ4 k v=true→(∃i t,k=Kz i∧v=Value.int i t)∨(∃x t,k=K0 x∧v=Value.str x t)
 |.inl i,v,h=>by
  obtain⟨t,e⟩:=Value.isInt_shape (k:=i) (v:=v) h
  exact .inl ⟨i,t,rfl,e⟩
 |.inr x,v,h=>by
  obtain⟨t,e⟩:=Value.isStrOf_shape (x:=x) (v:=v) h
  exact .inr ⟨x,t,rfl,e⟩
theorem aZ5(a b:Int):decide ((Kz a:Key)=Kz b)=(a==b):=by
 by_cases e:a=b
 .subst e;simp
 .have h:¬(Kz a:Key)=Kz b:=fun q=>e (Sum.inl.inj q)
  rw[def_ h]
  exact(beq_eq_false_iff_ne.mpr e).symm
theorem aZ8(a b:Str):decide ((K0 a:Key)=K0 b)=decide (a=b):=by
 by_cases e:a=b
 .subst e;simp
 .have h:¬(K0 a:Key)=K0 b:=fun q=>e (Sum.inr.inj q)
  rw[def_ h,def_ e]
theorem aZ6(a:Int)(b:Str):decide ((Kz a:Key)=K0 b)=false:=def_ (fun q=>nomatch q)
theorem aZ7(a:Str)(b:Int):decide ((K0 a:Key)=Kz b)=false:=def_ (fun q=>nomatch q)
noncomputable def aEz (prog:Program) (w:World):PySem.KeyKind prog w Key where
 is:=aZ4
 hash:=bG6 w
 inj:=fun v a b ha hb=>by
  rcases eI ha with⟨i,t,rfl,rfl⟩|⟨x,t,rfl,rfl⟩
  .rcases eI hb with⟨j,u,rfl,e⟩|⟨y,u,rfl,e⟩
   .injection e with e1 _;rw[e1]
   .exact nomatch e
  .rcases eI hb with⟨j,u,rfl,e⟩|⟨y,u,rfl,e⟩
   .exact nomatch e
   .injection e with e1 _;rw[e1]
 byValue:=fun k v h=>by
  rcases eI h with⟨i,t,rfl,rfl⟩|⟨x,t,rfl,rfl⟩<;>rfl
 pyHash:=fun hv h=>by
  rcases eI hv with⟨i,t,rfl,rfl⟩|⟨x,t,rfl,rfl⟩
  .exact wpAny_pyHash_int h
  .exact wpAny_pyHash_str h
 eqBool:=fun hu hv h=>by
  rcases eI hu with⟨i,t,rfl,rfl⟩|⟨x,t,rfl,rfl⟩
  .rcases eI hv with⟨j,u,rfl,rfl⟩|⟨y,u,rfl,rfl⟩
   .rw[aZ5]at h;exact wpAny_eqBool_int h
   .rw[aZ6]at h;exact SeqAt.EqAt.int_str i t y u _ _ _ _ h
  .rcases eI hv with⟨j,u,rfl,rfl⟩|⟨y,u,rfl,rfl⟩
   .rw[aZ7]at h;exact SeqAt.EqAt.str_int x t j u _ _ _ _ h
   .rw[aZ8]at h;exact wpAny_eqBool_str h
 «strs»:=fun k x t v h=>by
  rcases eI h with⟨i,u,rfl,e⟩|⟨y,u,rfl,e⟩
  .exact nomatch e
  .injection e with e1 _
   subst e1
   cases v<;>rfl
inductive V where
 |non|bl (b:Bool)|int (i:Int)|str (x:Str)|byt (b:Array UInt8)|flt (b:UInt64)|ref (a:Addr)|ty (n:String)
 deriving DecidableEq
def gX:V→Value→Prop
 |.non,u=>u=Value.none
 |.bl b,u=>u=Value.bool b
 |.int i,u=>∃t,u=Value.int i t
 |.str x,u=>∃t,u=Value.str x t
 |.byt b,u=>∃t,u=Value.bytes b t
 |.flt b,u=>∃t,u=Value.float b t
 |.ref a,u=>u=Value.ref a
 |.ty n,u=>u=Value.type n
abbrev Vals:List V→List Value→Prop:=Paired gX
theorem Vals.length{xs:List V}{us:List Value}(r:Vals xs us):xs.length=us.length:=Paired.length r
theorem Vals.get:∀{xs:List V}{us:List Value}{i:Nat}{x:V},Vals xs us→xs[i]?=some x→∃u,us[i]?=some u∧gX x u
 |_,_,_,_,.nil,e=>by simp at e
 |_,_,0,_,.cons r _,e=>by simp at e;subst e;exact⟨_,rfl,r⟩
 |_,_,i+1,x,.cons _ t,e=>by
  obtain⟨u,h1,h2⟩:=Vals.get (i:=i) (x:=x) t (by simpa using e)
  exact⟨u,by simpa using h1,h2⟩
theorem Vals.set{x:V}{u:Value}(r:gX x u):∀{xs:List V}{us:List Value}(i:Nat),Vals xs us→Vals (xs.set i x) (us.set i u)
 |_,_,_,.nil=>.nil
 |_,_,0,.cons _ t=>.cons r t
 |_,_,i+1,.cons q t=>.cons q (Vals.set r i t)
theorem Vals.append:∀{xs ys:List V}{us ws:List Value},Vals xs us→Vals ys ws→Vals (xs++ys) (us++ws)
 |_,_,_,_,.nil,s=>s
 |_,_,_,_,.cons r t,s=>.cons r (Vals.append t s)
theorem Vals.take:∀{xs:List V}{us:List Value}(n:Nat),Vals xs us→Vals (xs.take n) (us.take n)
 |_,_,0,_=>.nil
 |_,_,_+1,.nil=>.nil
 |_,_,n+1,.cons r t=>.cons r (Vals.take n t)
theorem Vals.drop:∀{xs:List V}{us:List Value}(n:Nat),Vals xs us→Vals (xs.drop n) (us.drop n)
 |_,_,0,r=>r
 |_,_,_+1,.nil=>.nil
 |_,_,n+1,.cons _ t=>Vals.drop n t
def aTl:Option V→Option Value→Prop
 |some v,some u=>gX v u
 |none,none=>True
 |_,_=>False
def KV{κ:Type}:List (κ×V)→List (κ×Value)→Prop:=Paired fun(p:κ×V)(q:κ×Value)=>p.1=q.1∧gX p.2 q.2
noncomputable def kV:Key→V
 |.inl i=>.int i
 |.inr x=>.str x
inductive HO where
 /-- a list -/
 |lst (xs:List V)
 /-- a tuple (never changes) -/
 |tup (xs:List V)
 /-- a dict whose keys are intz and texts;one whose keys are tuples of intz and texts (the empty one is both) -/
 |dK (kvs:List (Key×V))|dT (kvs:List (List Key×V))
 /-- a set of intz: its members,its size -/
 |set (S:Int→Bool) (n:Nat)
 /-- an instance of the class at C,its dict at dx,its attributes -/
 |ins (C dx:Addr) (fs:List (Str×V))
 /-- the dict of the instance at x -/
 |own (x:Addr)
 /-- the dict of an exception -/
 |xd (fs:List (Str×V))
 /-- a bound method,f of x -/
 |met (f x:Addr)
 /-- a range object lo,lo+1,.. below hi -/
 |rng (lo hi:Int)
 /-- a thing that is known to the object (the script;a dict while a loop walks it): read,never written while it is so -/
 |frz (o:Obj) (u:HO)
 /-- a code object's table -/
 |tbl (ps:Array Value)
 /-- any other thing,by what is true of its one object (a def of one's own: SetO a S n:=HO.ext fun h=>..) -/
 |ext (φ:Heap→Prop)
abbrev Hp:=Addr→Option HO
noncomputable def upd (H:Hp) (a:Addr) (o:HO):Hp:=fun b=>if b=a then some o else H b
theorem bG{H:Hp}{a:Addr}{o:HO}:upd H a o a=some o:=by unfold upd;rw[ip rfl]
theorem aU{H:Hp}{a b:Addr}{o:HO}(h:b≠a):upd H a o b=H b:=by unfold upd;rw[ig h]
theorem cZ{H:Hp}{a b:Addr}{o:HO}(h:H a=some o)(h':H b=none):a≠b:=by
 intro e;subst e;rw[h]at h';cases h'
section
variable(P:Program)(w:World)
def mT(H:Hp)(h:Heap)(a:Addr):HO→Prop
 |.lst xs=>xs.length≤sizeLine∧∃(its:List Value)(n:Nat),Vals xs its∧h.get? a=some { cls:=.type "list",data:=.seq its.toArray n }
 |.tup xs=>xs.length≤sizeLine∧∃its:List Value,Vals xs its∧IsTup h a its.toArray
 |.dK kvs=>kvs.length≤sizeLine∧(a==sysModules)=false∧∃vs,KV kvs vs∧h.DictOf (aEz P w) a vs
 |.dT kvs=>kvs.length≤sizeLine∧(a==sysModules)=false∧∃xs:List (List Key×Addr×Value),
   Paired (fun(p:List Key×V)(q:List Key×Addr×Value)=>p.1=q.1∧H q.2.1=some (.tup (p.1.map kV))∧gX p.2 q.2.2) kvs xs ∧
   ∃o es ep,h.get? a=some o∧o.ExactDict∧o.data=.dict es ep∧es.toList=xs.map (entryOfKey (tupleKind (aEz P w)))∧(xs.map (·.1)).Nodup
 |.set S n=>h.SetOf (intKind P w) a S n
 |.ins C dx fs=>H dx=some (.own a)∧fs.length≤1000∧dx≠a∧h.get? a=some (Ec C dx) ∧
   ∃mA,h.Ns1 dx mA∧(∀f,aTl (fs.lookup f) (mA f))∧Lc mA (fs.map (·.1))
 |.own _=>∃o,h.get? a=some o
 |.xd fs=>∃mA,h.Ns1 a mA∧∀f,aTl (fs.lookup f) (mA f)
 |.rng lo hi=>∃t u v,h.get? a=some { cls:=.type "range",data:=.fields #[.int lo t,.int hi u,.int 1 v] }
 |.frz o u=>h.get? a=some o∧mT H h a u
 |.tbl ps=>h.get? a=some { cls:=.none,data:=.fields ps }
 |.met f x=>h.get? a=some (Io (.ref f) (.ref x))
 |.ext φ=>φ h∧(∃o,h.get? a=some o)∧∀h1 h2:Heap,φ h1→(∀o,h1.get? a=some o→h2.get? a=some o)→φ h2
def HOk(H:Hp)(h:Heap):Prop:=∀a o,H a=some o→mT P w H h a o
end
section
variable{P:Program}{w:World}{H H':Hp}{h h':Heap}{a:Addr}{o:HO}
theorem mT.lt(x:mT P w H h a o):a<h.objs.size:=by
 cases o with
 |lst xs=>obtain⟨_,_,_,_,e⟩:=x;exact Heap.lt_size e
 |tup xs=>obtain⟨_,_,_,p⟩:=x;exact p.lt
 |dK kvs=>obtain⟨_,_,_,_,o,_,_,e,_⟩:=x;exact Heap.lt_size e
 |dT kvs=>obtain⟨_,_,_,_,o,_,_,e,_⟩:=x;exact Heap.lt_size e
 |set S n=>obtain⟨o,_,_,_,e,_⟩:=x;exact Heap.lt_size e
 |ins C dx fs=>obtain⟨_,_,_,e,_⟩:=x;exact Heap.lt_size e
 |own y=>obtain⟨_,e⟩:=x;exact Heap.lt_size e
 |xd fs=>obtain⟨_,⟨_,_,_,e,_⟩,_⟩:=x;exact Heap.lt_size e
 |rng lo hi=>obtain⟨_,_,_,e⟩:=x;exact Heap.lt_size e
 |frz ob u=>obtain⟨e,_⟩:=x;exact Heap.lt_size e
 |tbl ps=>exact Heap.lt_size (show h.get? a=some _ from x)
 |met f y=>exact Heap.lt_size (show h.get? a=some _ from x)
 |ext φ=>obtain⟨_,⟨_,e⟩,_⟩:=x;exact Heap.lt_size e
theorem Paired.mapP{α β:Type}{F G:α→β→Prop}:∀{l₁:List α}{l₂:List β},Paired F l₁ l₂→(∀a b,F a b→G a b)→Paired G l₁ l₂
 |_,_,.nil,_=>.nil
 |_,_,.cons r t,f=>.cons (f _ _ r) (Paired.mapP t f)
theorem mT.stay(x:mT P w H h a o)(k:∀b u,(b=a∨H b=some (.own a))→h.get? b=some u→h'.get? b=some u)
  (ho:∀b,H b=some (.own a)→H' b=some (.own a)) (ht:∀b xs,H b=some (.tup xs)→H' b=some (.tup xs)):mT P w H' h' a o:=by
 induction o with
 |lst xs=>obtain⟨z,its,n,r,e⟩:=x;exact⟨z,its,n,r,k _ _ (.inl rfl) e⟩
 |tup xs=>obtain⟨z,its,r,ob,e,c⟩:=x;exact⟨z,its,r,ob,k _ _ (.inl rfl) e,c⟩
 |dK kvs=>obtain⟨z,y,vs,r,ob,es,ep,e,c⟩:=x;exact⟨z,y,vs,r,ob,es,ep,k _ _ (.inl rfl) e,c⟩
 |dT kvs=>
  obtain⟨z,y,xs,r,ob,es,ep,e,c⟩:=x
  exact⟨z,y,xs,Paired.mapP r fun p q z=>⟨z.1,ht _ _ z.2.1,z.2.2⟩,ob,es,ep,k _ _ (.inl rfl) e,c⟩
 |set S n=>obtain⟨ob,es,ep,t,e,c⟩:=x;exact⟨ob,es,ep,t,k _ _ (.inl rfl) e,c⟩
 |ins C dx fs=>
  obtain⟨d,z,ne,e,mA,⟨od,es,ep,e2,c⟩,r⟩:=x
  exact⟨ho _ d,z,ne,k _ _ (.inl rfl) e,mA,⟨od,es,ep,k _ _ (.inr d) e2,c⟩,r⟩
 |own y=>obtain⟨ob,e⟩:=x;exact⟨ob,k _ _ (.inl rfl) e⟩
 |xd fs=>obtain⟨mA,⟨od,es,ep,e,c⟩,r⟩:=x;exact⟨mA,⟨od,es,ep,k _ _ (.inl rfl) e,c⟩,r⟩
 |rng lo hi=>obtain⟨t,u,v,e⟩:=x;exact⟨t,u,v,k _ _ (.inl rfl) e⟩
 |frz ob u ih=>obtain⟨e,q⟩:=x;exact⟨k _ _ (.inl rfl) e,ih q⟩
 |tbl ps=>
  have e:h.get? a=some { cls:=.none,data:=.fields ps }:=x
  show h'.get? a=some { cls:=.none,data:=.fields ps }
  exact k a _ (.inl rfl) e
 |met f y=>
  have e:h.get? a=some (Io (.ref f) (.ref y)):=x
  show h'.get? a=some (Io (.ref f) (.ref y))
  exact k a _ (.inl rfl) e
 |ext φ=>obtain⟨p,⟨o,e⟩,st⟩:=x;exact⟨st _ _ p fun o q=>k _ _ (.inl rfl) q,⟨o,k _ _ (.inl rfl) e⟩,st⟩
theorem HOk.lt(x:HOk P w H h)(e:H a=some o):a<h.objs.size:=(x a o e).lt
theorem HOk.fresh(x:HOk P w H h)(e:h.objs.size≤a):H a=none:=by
 cases q:H a with
 |none=>rfl
 |some u=>exact absurd (Bg (x.lt q) e) (Da _)
theorem HOk.kept(x:HOk P w H h)(k:∀b u,h.get? b=some u→h'.get? b=some u):HOk P w H h':=fun a o e=>
 (x a o e).stay (fun b u _ q=>k b u q) (fun _ q=>q) fun _ _ q=>q
theorem HOk.laid(x:HOk P w H h)(k:∀b u,h.get? b=some u→h'.get? b=some u)(hp:h.objs.size≤a)(new:mT P w (upd H a o) h' a o):HOk P w (upd H a o) h':=fun b u e=>by
 have hn:=x.fresh hp
 by_cases hb:b=a
 .subst hb;rw[bG]at e;cases e;exact new
 .rw[aU hb]at e
  exact(x b u e).stay (fun c v _ q=>k c v q) (fun c q=>by rw[aU (cZ q hn)];exact q) fun c xs q=>by rw[aU (cZ q hn)];exact q
end
def Rd(H:Hp)(a:Addr)(u:HO):Prop:=H a=some u∨∃o,H a=some (.frz o u)
theorem Rd.ok{P:Program}{w:World}{H:Hp}{h:Heap}{a:Addr}{u:HO}(r:Rd H a u)(x:HOk P w H h):mT P w H h a u:=by
 rcases r with r|⟨o,r⟩
 .exact x a u r
 .obtain⟨_,q⟩:=x a _ r
  exact q
def Mut:Option HO→Prop
 |some (.lst _)=>True
 |some (.dK _)=>True
 |some (.dT _)=>True
 |some (.set _ _)=>True
 |some (.ins _ _ _)=>True
 |some (.ext _)=>True
 |_=>False
section
variable{P:Program}{w:World}{H:Hp}{h h':Heap}{x e:Addr}{o':HO}
theorem HOk.write(ok:HOk P w H h)(mu:Mut (H x))(he:e=x∨H e=some (.own x))(k:∀b u,b≠e→h.get? b=some u→h'.get? b=some u)(heo:∃u,h'.get? e=some u)
  (new:mT P w (upd H x o') h' x o'):HOk P w (upd H x o') h':=fun b u q=>by
 have nown:∀c y,H c=some (.own y)→c≠x:=fun c y r z=>by subst z;rw[r]at mu;exact mu
 have ntup:∀c xs,H c=some (.tup xs)→c≠x:=fun c xs r z=>by subst z;rw[r]at mu;exact mu
 by_cases hb:b=x
 .subst hb;rw[bG]at q;cases q;exact new
 .rw[aU hb]at q
  by_cases hbe:b=e
  .have q':H b=some (.own x):=by
    rcases he with z|z
    .exact absurd (hbe.trans z) hb
    .rw[hbe];exact z
   rw[q]at q';cases q'
   obtain⟨v,hv⟩:=heo
   exact⟨v,by rw[hbe];exact hv⟩
  .refine(ok b u q).stay (fun c v hc r=>k c v ?_ r) (fun c r=>by rw[aU (nown c b r)];exact r) fun c xs r=>by rw[aU (ntup c xs r)];exact r
   rcases hc with rfl|hc
   .exact hbe
   .rintro rfl
    rcases he with z|z
    .exact nown c b hc z
    .rw[hc]at z;cases z;exact hb rfl
end
structure Un(fs ex:List Addr)(H H':Hp)(h h':Heap):Prop where
 keep:∀b o,h.get? b=some o→H b=none→b∉fs→b∉ex→h'.get? b=some o
 slot:∀b o,h.get? b=some o→H b=none→b∈fs→b∉ex→∃sl,h'.get? b=some { o with slots:=sl }
 free:∀b o,h.get? b=some o→H b=none→b∉ex→H' b=none
 there:∀b o,h.get? b=some o→b∉ex→∃o',h'.get? b=some o'
 tups:∀b xs,H b=some (.tup xs)→H' b=some (.tup xs)
 frzs:∀b o u,H b=some (.frz o u)→H' b=some (.frz o u)
 tbls:∀b ps,H b=some (.tbl ps)→∃more,H' b=some (.tbl (ps++more))
section
variable{fs fs' ex ex':List Addr}{H H1 H2:Hp}{h h1 h2 h':Heap}{a x e:Addr}{o:HO}
theorem Un.any(u:Un fs ex H H1 h h1){b:Addr}{ob:Obj}(q:h.get? b=some ob)(n:H b=none)(hx:b∉ex):∃sl,h1.get? b=some { ob with slots:=sl }:=by
 by_cases hb:b∈fs
 .exact u.slot b ob q n hb hx
 .exact⟨ob.slots,u.keep b ob q n hb hx⟩
theorem Un.kept(k:∀b u,h.get? b=some u→h'.get? b=some u):Un fs ex H H h h':=
 ⟨fun b ob q _ _ _=>k b ob q,fun b ob q _ _ _=>⟨ob.slots,k b ob q⟩,fun _ _ _ n _=>n,fun b ob q _=>⟨ob,k b ob q⟩,fun _ _ q=>q,fun _ _ _ q=>q,fun _ ps q=>⟨#[],by rw[q];simp⟩⟩
theorem Un.refl:Un fs ex H H h h:=Un.kept fun _ _ q=>q
theorem Un.laid(k:∀b u,h.get? b=some u→h'.get? b=some u)(hp:h.objs.size≤a)(hn:H a=none):Un fs ex H (upd H a o) h h' where
 keep:=fun b u q _ _ _=>k b u q
 slot:=fun b u q _ _ _=>⟨u.slots,k b u q⟩
 free:=fun b u q n _=>by rw[aU (Cv (Bg (Heap.lt_size q) hp))];exact n
 there:=fun b u q _=>⟨u,k b u q⟩
 tups:=fun b xs q=>by rw[aU (cZ q hn)];exact q
 frzs:=fun b u xs q=>by rw[aU (cZ q hn)];exact q
 tbls:=fun b ps q=>⟨#[],by rw[aU (cZ q hn),q];simp⟩
theorem Un.write(mu:Mut (H x))(he:e=x∨H e=some (.own x))(k:∀b u,b≠e→h.get? b=some u→h'.get? b=some u)(heo:∃u,h'.get? e=some u):Un fs ex H (upd H x o) h h':=by
 have hx:∀b,H b=none→b≠x:=fun b n z=>by subst z;rw[n]at mu;exact mu
 have hb:∀b,H b=none→b≠e:=fun b n z=>by
  subst z
  rcases he with r|r
  .exact hx b n r
  .rw[n]at r;cases r
 have hm:∀b u,H b=some u→¬Mut (some u)→b≠x:=fun b u q nm z=>by subst z;rw[q]at mu;exact nm mu
 refine⟨fun b u q n _ _=>k b u (hb b n) q,fun b u q n _ _=>⟨u.slots,k b u (hb b n) q⟩,fun b u q n _=>by rw[aU (hx b n)];exact n,fun b u q _=>?_,
  fun b xs q=>by rw[aU (hm b _ q fun z=>z)];exact q,fun b u xs q=>by rw[aU (hm b _ q fun z=>z)];exact q,fun b ps q=>⟨#[],by rw[aU (hm b _ q fun z=>z),q];simp⟩⟩
 by_cases hbe:b=e
 .subst hbe;exact heo
 .exact⟨u,k b u hbe q⟩
end
noncomputable def trk (h:Heap) (H:Hp):List Addr:=(Ab h.objs.size).filter fun a=>(H a).isSome
def aQ8(h:Heap)(H:Hp):Heap:=PySem.W.hideAll h (trk h H)
theorem aM3(h:Heap)(H:Hp):(aQ8 h H).objs.size=h.objs.size:=PySem.W.hideAll_size _ _
theorem aQ9{h:Heap}{H:Hp}{b:Addr}{o:Obj}(e:h.get? b=some o)(n:H b=none):(aQ8 h H).get? b=some o:=
 PySem.W.hideAll_get _ e fun hm=>by
  have q:(H b).isSome=true:=(Es.mp hm).2
  rw[n]at q;simp at q
theorem aVv{h:Heap}{H:Hp}{b:Addr}{o:Obj}(e:(aQ8 h H).get? b=some o):h.get? b=some o∧H b=none:=by
 have e':h.get? b=some o:=PySem.W.of_hideAll (trk h H) e
 refine⟨e',?_⟩
 cases q:H b with
 |none=>rfl
 |some x=>
  have hm:b∈trk h H:=Es.mpr ⟨Ak.mpr (Heap.lt_size e'),by simp[q]⟩
  have z:(aQ8 h H).get? b=none:=PySem.W.hideAll_none (trk h H) hm
  rw[z]at e;cases e
structure Mod(K:Ad)(mg:Str→Option Value)(base:Heap):Prop where
 kin:K.In base
 glob:base.Ns mainGlobals mg
 blt:∃mb,base.Ns builtinsNs mb∧∀x:Str,x≠"__name__"→mb x=bootBuiltins x
 nolimit:base.NoLimit
structure Cx where
 prog:Program
 w:World
 K:Ad
 mg:Str→Option Value
 base:Heap
 A:Around
 N:List Str
 s_0:Shared
 H_0:Hp
 env:Env
 outer:List Env
 stack:List Env
 ex:List Addr
 fn:Str→Bool
 calm:Bool
 pn:List (Addr×Obj)
 xe:Value→Shared→Prop
noncomputable def frs (l:List Env):List Addr:=l.filterMap (·.frame)
abbrev Cx.fs(X:Cx):List Addr:=frs X.outer
def Vis(sc:Scope)(x:Str):Prop:=sc.names.lookup x=some .local∨sc.names.lookup x=some .cell∨sc.names.lookup x=some .free
def Loc(sc:Scope)(x:Str):Prop:=sc.names.lookup x=some .local∨sc.names.lookup x=some .cell
def Look(env:Env)(h:Heap)(m:Str→Option Value)(x:Str)(u:Value):Prop:=
 (env.kindOf x=some .local∧m x=some u)∨((env.kindOf x=some .cell∨env.kindOf x=some .free)∧∃c,env.cells.lookup x=some c∧h.IsCell c (some u))
structure Cx.Ok(X:Cx):Prop where
 mod:Mod X.K X.mg X.base
 kind:X.env.scope.kind=.function
 glob:X.env.globals=mainGlobals
 blt:X.env.builtins=builtinsNs
 above:X.s_0.heap.objs.size≤X.env.locals
 inj:∀x y c,X.env.cells.lookup x=some c→X.env.cells.lookup y=some c→x=y
 has:∀x,(X.env.kindOf x=some .cell∨X.env.kindOf x=some .free)→∃c,X.env.cells.lookup x=some c
 cab:∀x c,X.fn x=true→X.env.cells.lookup x=some c→X.s_0.heap.objs.size≤c
 hd:X.calm=true→X.A.handled=none
 frames:X.A.frames=some X.stack
 stk:X.stack=X.outer∨(X.stack=X.env::X.outer∧X.env.frame=some X.env.locals)
 exf:∀b∈X.ex,b≠X.env.locals∧∀x c,X.env.cells.lookup x=some c→c≠b
 bs:∀b o,X.base.get? b=some o→X.s_0.heap.get? b=some o∧X.H_0 b=none
 bsz:X.base.objs.size≤X.s_0.heap.objs.size
 noex:∀b o,X.base.get? b=some o→b∉X.ex
 exfs:∀b∈X.ex,b∉X.fs
 funs:X.s_0.heap.FunFrames X.base X.outer
 frf:∀b∈X.fs,X.H_0 b=none
structure Inv(X:Cx)(pins:List (Addr×Obj))(σ:List (Option V))(H:Hp)(s:Shared):Prop where
 ok:X.Ok
 os:s.os=X.s_0.os
 bare:AllBare s.gens
 base:Un X.fs X.ex X.H_0 H X.s_0.heap s.heap
 loc:∃m,s.heap.Ns X.env.locals m∧∀(i:Nat)(x:Str)(v:V),X.N[i]?=some x→σ[i]?=some (some v)→Vis X.env.scope x→∃u,gX v u∧Look X.env s.heap m x u
 cell:∀x c,X.env.cells.lookup x=some c→∃v,s.heap.IsCell c v
 free:H X.env.locals=none
 freeC:∀x c,X.env.cells.lookup x=some c→H c=none
 pin:∀p∈X.pn++pins,s.heap.get? p.1=some p.2∧H p.1=none∧p.1≠X.env.locals∧p.1∉X.fs∧∀v,p.2.data≠.cell v
 hok:HOk X.prog X.w H s.heap
 len:σ.length=X.N.length
section
variable{X:Cx}{pins:List (Addr×Obj)}{σ:List (Option V)}{H H':Hp}{s:Shared}{h':Heap}
theorem Cx.Ok.nofr(ok:X.Ok){b:Addr}{o:Obj}(e:X.base.get? b=some o):b∉X.fs:=fun hb=>by
 have:=(ok.funs.mem hb).1
 rw[e]at this;cases this
theorem Inv.bs(I:Inv X pins σ H s):∀b o,X.base.get? b=some o→s.heap.get? b=some o∧H b=none:=fun b o e=>
 ⟨I.base.keep b o (I.ok.bs b o e).1 (I.ok.bs b o e).2 (I.ok.nofr e) (I.ok.noex b o e),I.base.free b o (I.ok.bs b o e).1 (I.ok.bs b o e).2 (I.ok.noex b o e)⟩
theorem Inv.bk(I:Inv X pins σ H s):∀b o,X.base.get? b=some o→s.heap.get? b=some o:=fun b o e=>(I.bs b o e).1
theorem Inv.mod(I:Inv X pins σ H s):Mod X.K X.mg X.base:=I.ok.mod
theorem Inv.kIn(I:Inv X pins σ H s):X.K.In s.heap:=I.ok.mod.kin.keeps I.bk
theorem Inv.lt(I:Inv X pins σ H s):X.env.locals<s.heap.objs.size:=let ⟨_,hn,_⟩:=I.loc;hn.lt
theorem Inv.sz(I:Inv X pins σ H s):X.s_0.heap.objs.size≤s.heap.objs.size:=B7 I.ok.above (Ji I.lt)
theorem Inv.nofs(I:Inv X pins σ H s){a:Addr}(h:s.heap.objs.size≤a):a∉X.fs:=fun hb=>by
 obtain⟨_,o,ho,_⟩:=I.ok.funs.mem hb
 exact absurd (Bg (Heap.lt_size ho) (B7 I.sz h)) (Da _)
theorem Inv.cne(I:Inv X pins σ H s):∀x c,X.env.cells.lookup x=some c→c≠X.env.locals:=fun x c e z=>by
 obtain⟨v,o,ho,hd⟩:=I.cell x c e
 obtain⟨m,⟨o',es,ep,ho',hd',_⟩,_⟩:=I.loc
 rw[z,ho']at ho;cases ho;rw[hd']at hd;cases hd
theorem Inv.funs(I:Inv X pins σ H s):s.heap.FunFrames X.base X.outer:=by
 have all:∀(l:List Env),(∀b∈frs l,b∈X.fs)→X.s_0.heap.FunFrames X.base l→s.heap.FunFrames X.base l:=by
  intro l
  induction l with
  |nil=>intro _ _;trivial
  |cons env r ih=>
   intro hs hl
   obtain⟨hk,⟨L,o,hf,hn,ho,hd⟩,hr⟩:=hl
   have hL:L∈X.fs:=hs L (by unfold frs;rw[Dd,hf];exact Bu)
   obtain⟨sl,e⟩:=I.base.slot L o ho (I.ok.frf L hL) hL fun z=>I.ok.exfs L z hL
   exact⟨hk,⟨L,_,hf,hn,e,hd⟩,ih (fun b hb=>hs b (by unfold frs;rw[Dd,hf];exact A4 _ hb)) hr⟩
 exact all X.outer (fun _ hb=>hb) I.ok.funs
theorem Inv.stack(I:Inv X pins σ H s):s.heap.FunFrames X.base X.stack:=by
 rcases I.ok.stk with e|⟨e,hf⟩
 .rw[e];exact I.funs
 .rw[e]
  obtain⟨m,hn,_⟩:=I.loc
  refine .cons (by rw[I.ok.kind];decide) hf hn ?_ I.funs
  exact Heap.get?_none_of_le (B7 I.ok.bsz I.ok.above)
theorem Inv.stkSub(I:Inv X pins σ H s):∀b∈frs X.stack,b∈X.env.locals::X.fs:=fun b hb=>by
 rcases I.ok.stk with e|⟨e,hf⟩
 .rw[e]at hb;exact A4 _ hb
 .rw[e]at hb
  unfold frs at hb
  rw[Dd,hf]at hb
  exact hb
theorem Inv.stkFree(I:Inv X pins σ H s):∀b∈frs X.stack,H b=none:=fun b hb=>by
 rcases A1.mp (I.stkSub b hb)with e|hb
 .rw[e];exact I.free
 .obtain⟨_,o,ho,_⟩:=I.ok.funs.mem hb
  exact I.base.free b o ho (I.ok.frf b hb) fun z=>I.ok.exfs b z hb
theorem Inv.step{g':Array GenState}{t':Nat}{d':Drawn}{ch:List Addr}(I:Inv X pins σ H s)
  (hch:∀b∈ch,(b∈X.ex∨X.s_0.heap.objs.size≤b)∧b≠X.env.locals∧(∀x c,X.env.cells.lookup x=some c→c≠b)∧∀p∈X.pn++pins,p.1≠b)
  (keep:∀b o,b≠X.env.locals→b∉X.fs→b∉ch→s.heap.get? b=some o→H b=none→h'.get? b=some o)
  (slot:∀b o,b≠X.env.locals→b∈X.fs→b∉ch→s.heap.get? b=some o→H b=none→∃sl,h'.get? b=some { o with slots:=sl }) (free:∀b o,b∉ch→s.heap.get? b=some o→H b=none→H' b=none)
  (there:∀b o,b∉ch→s.heap.get? b=some o→∃o',h'.get? b=some o')
  (tups:∀b xs,H b=some (.tup xs)→H' b=some (.tup xs)) (frzs:∀b o u,H b=some (.frz o u)→H' b=some (.frz o u)) (tbls:∀b ps,H b=some (.tbl ps)→∃more,H' b=some (.tbl (ps++more)))
  (ns:∀m,s.heap.Ns X.env.locals m→h'.Ns X.env.locals m) (hok:HOk X.prog X.w H' h') (hg:AllBare g') :
  Inv X pins σ H' { s with heap:=h',gens:=g',drawn:=d',toks:=t' }:=by
 have neL:∀b o,X.s_0.heap.get? b=some o→b≠X.env.locals:=fun b o e=>Cv (Bg (Heap.lt_size e) I.ok.above)
 have neC:∀b o,X.s_0.heap.get? b=some o→b∉X.ex→b∉ch:=fun b o e hx hb=>by
  rcases(hch b hb).1 with z|z
  .exact hx z
  .exact absurd (Bg (Heap.lt_size e) z) (Da _)
 have cellK:∀x c,X.env.cells.lookup x=some c→∀v,s.heap.IsCell c v→h'.IsCell c v:=fun x c e v ⟨o,ho,hd⟩=>by
  have nch:c∉ch:=fun z=>(hch c z).2.2.1 x c e rfl
  by_cases hc:c∈X.fs
  .obtain⟨sl,q⟩:=slot c o (I.cne x c e) hc nch ho (I.freeC x c e)
   exact⟨_,q,hd⟩
  .exact⟨o,keep c o (I.cne x c e) hc nch ho (I.freeC x c e),hd⟩
 refine⟨I.ok,I.os,hg,⟨fun b o e n hb hx=>?_,fun b o e n hb hx=>?_,fun b o e n hx=>?_,fun b o e hx=>?_,fun b xs e=>tups b xs (I.base.tups b xs e),fun b o xs e=>frzs b o xs (I.base.frzs b o xs e),fun b ps e=>?_⟩,?_,fun x c e=>?_,?_,fun x c e=>?_,fun p hp=>?_,hok,I.len⟩
 .exact keep b o (neL b o e) hb (neC b o e hx) (I.base.keep b o e n hb hx) (I.base.free b o e n hx)
 .obtain⟨sl,e1⟩:=I.base.slot b o e n hb hx
  obtain⟨sl',e2⟩:=slot b _ (neL b o e) hb (neC b o e hx) e1 (I.base.free b o e n hx)
  exact⟨sl',e2⟩
 .obtain⟨o',e1⟩:=I.base.there b o e hx
  exact free b o' (neC b o e hx) e1 (I.base.free b o e n hx)
 .obtain⟨o',e1⟩:=I.base.there b o e hx
  exact there b o' (neC b o e hx) e1
 .obtain⟨m1,e1⟩:=I.base.tbls b ps e
  obtain⟨m2,e2⟩:=tbls b _ e1
  exact⟨m1++m2,by rw[e2,Array.append_assoc]⟩
 .obtain⟨m,hn,hl⟩:=I.loc
  refine⟨m,ns m hn,fun i x v e1 e2 e3=>?_⟩
  obtain⟨u,r,l⟩:=hl i x v e1 e2 e3
  refine⟨u,r,?_⟩
  rcases l with l|⟨k,c,e,z⟩
  .exact .inl l
  .exact .inr ⟨k,c,e,cellK x c e _ z⟩
 .obtain⟨v,z⟩:=I.cell x c e
  exact⟨v,cellK x c e v z⟩
 .obtain⟨m,⟨o,_,_,ho,_⟩,_⟩:=I.loc
  exact free _ o (fun z=>(hch _ z).2.1 rfl) ho I.free
 .obtain⟨v,o,ho,hd⟩:=I.cell x c e
  exact free c o (fun z=>(hch c z).2.2.1 x c e rfl) ho (I.freeC x c e)
 .obtain⟨e,n,ne,nf,d⟩:=I.pin p hp
  have nch:p.1∉ch:=fun z=>(hch p.1 z).2.2.2 p hp rfl
  exact⟨keep p.1 p.2 ne nf nch e n,free p.1 p.2 nch e n,ne,nf,d⟩
theorem Inv.un{t':Nat}(I:Inv X pins σ H s)(u:Un X.fs [] H H' s.heap h')(hok:HOk X.prog X.w H' h'):Inv X pins σ H' { s with heap:=h',toks:=t' }:=by
 obtain⟨m,⟨o,es,ep,ho,r⟩,_⟩:=id I.loc
 obtain⟨sl,hL⟩:=u.any ho I.free (by simp)
 exact I.step (g':=s.gens) (d':=s.drawn) (ch:=[]) (fun _ z=>nomatch z) (fun b o _ hb _ e n=>u.keep b o e n hb (by simp)) (fun b o _ hb _ e n=>u.slot b o e n hb (by simp)) (fun b o _ e n=>u.free b o e n (by simp)) (fun b o _ e=>u.there b o e (by simp)) u.tups u.frzs u.tbls (fun m' hm=>by
  obtain⟨o',es',ep',ho',r'⟩:=hm
  rw[ho]at ho';cases ho'
  exact⟨_,es',ep',hL,r'⟩) hok I.bare
theorem Inv.call{g':Array GenState}{t':Nat}{d':Drawn}{ch:List Addr}(I:Inv X pins σ H s)(u:Un (frs X.stack) ch H H' s.heap h')(hok:HOk X.prog X.w H' h')(hg:AllBare g')
  (hch:∀b∈ch,(b∈X.ex∨X.s_0.heap.objs.size≤b)∧b≠X.env.locals∧(∀x c,X.env.cells.lookup x=some c→c≠b)∧∀p∈X.pn++pins,p.1≠b) :
  Inv X pins σ H' { s with heap:=h',gens:=g',drawn:=d',toks:=t' }:=by
 obtain⟨m,⟨o,es,ep,ho,r⟩,_⟩:=id I.loc
 obtain⟨sl,hL⟩:=u.any ho I.free fun z=>(hch _ z).2.1 rfl
 exact I.step (ch:=ch) hch (fun b o hL hb hc e n=>u.keep b o e n (fun z=>(A1.mp (I.stkSub b z)).elim hL hb) hc) (fun b o _ _ hc e n=>u.any e n hc) (fun b o hc e n=>u.free b o e n hc) (fun b o hc e=>u.there b o e hc) u.tups u.frzs u.tbls (fun m' hm=>by
  obtain⟨o',es',ep',ho',r'⟩:=hm
  rw[ho]at ho';cases ho'
  exact⟨_,es',ep',hL,r'⟩) hok hg
theorem Inv.turned{t':Nat}{it:Addr}(I:Inv X pins σ H s)(k:∀b o,b≠it→s.heap.get? b=some o→h'.get? b=some o)(hn:H it=none)(hL:it≠X.env.locals)
  (h1:it∈X.ex∨X.s_0.heap.objs.size≤it) (h2:∀x c,X.env.cells.lookup x=some c→c≠it) (h3:∀p∈X.pn++pins,p.1≠it):Inv X pins σ H { s with heap:=h',toks:=t' }:=by
 have nit:∀b u,H b=some u→b≠it:=fun b u e z=>by rw[z,hn]at e;cases e
 refine I.step (g':=s.gens) (d':=s.drawn) (ch:=[it]) (fun b hb=>?_) (fun b o _ _ hc e _=>k b o (fun z=>hc (by simp[z])) e) (fun b o _ _ hc e _=>⟨o.slots,k b o (fun z=>hc (by simp[z])) e⟩) (fun _ _ _ _ n=>n)
  (fun b o hc e=>⟨o,k b o (fun z=>hc (by simp[z])) e⟩) (fun _ _ e=>e) (fun _ _ _ e=>e) (fun b ps e=>⟨#[],by rw[e];simp⟩) (fun m hm=>?_) (fun b u e=>?_) I.bare
 .have e:b=it:=by simpa using hb
  subst e
  exact⟨h1,hL,h2,h3⟩
 .obtain⟨o,es,ep,ho,r⟩:=hm
  exact⟨o,es,ep,k _ o (Hm hL) ho,r⟩
 .refine(I.hok b u e).stay (fun c v hc q=>k c v ?_ q) (fun _ q=>q) fun _ _ q=>q
  rcases hc with z|z
  .rw[z];exact nit b u e
  .exact nit c _ z
theorem Inv.tok(I:Inv X pins σ H s)(t:Nat):Inv X pins σ H { s with toks:=t }:=I.un (h':=s.heap) (t':=t) Un.refl I.hok
theorem Inv.kept{t':Nat}(I:Inv X pins σ H s)(k:∀b u,s.heap.get? b=some u→h'.get? b=some u):Inv X pins σ H { s with heap:=h',toks:=t' }:=I.un (Un.kept k) (I.hok.kept k)
theorem Inv.laid{a:Addr}{o:HO}{t':Nat}(I:Inv X pins σ H s)(k:∀b u,s.heap.get? b=some u→h'.get? b=some u)(hp:s.heap.objs.size≤a)(new:mT X.prog X.w (upd H a o) h' a o) :
  Inv X pins σ (upd H a o) { s with heap:=h',toks:=t' }:=I.un (Un.laid k hp (I.hok.fresh hp)) (I.hok.laid k hp new)
theorem Inv.write{x e:Addr}{o:HO}{t':Nat}(I:Inv X pins σ H s)(mu:Mut (H x))(he:e=x∨H e=some (.own x))(k:∀b u,b≠e→s.heap.get? b=some u→h'.get? b=some u)(heo:∃u,h'.get? e=some u)
  (new:mT X.prog X.w (upd H x o) h' x o):Inv X pins σ (upd H x o) { s with heap:=h',toks:=t' }:=I.un (Un.write mu he k heo) (I.hok.write mu he k heo new)
theorem Inv.weak{σ':List (Option V)}(I:Inv X pins σ H s)(hl:σ'.length=σ.length)(w:∀(i:Nat)v,σ'[i]?=some (some v)→σ[i]?=some (some v)):Inv X pins σ' H s:=
 ⟨I.ok,I.os,I.bare,I.base,let ⟨m,hn,hl'⟩:=I.loc;⟨m,hn,fun i x v e1 e2 e3=>hl' i x v e1 (w i v e2) e3⟩,I.cell,I.free,I.freeC,I.pin,I.hok,hl.trans I.len⟩
theorem Inv.pins_of{pins':List (Addr×Obj)}(I:Inv X pins σ H s)(h:∀p∈pins',s.heap.get? p.1=some p.2∧H p.1=none∧p.1≠X.env.locals∧p.1∉X.fs∧∀v,p.2.data≠.cell v):Inv X pins' σ H s:=
 ⟨I.ok,I.os,I.bare,I.base,I.loc,I.cell,I.free,I.freeC,fun p hp=>(Ed.mp hp).elim (fun z=>I.pin p (He _ z)) (h p),I.hok,I.len⟩
theorem aBd{N:List Str}(hN:N.Nodup){i j:Nat}{x:Str}(a:N[i]?=some x)(b:N[j]?=some x):i=j:=by
 obtain⟨h1,e1⟩:=As.mp a
 obtain⟨h2,e2⟩:=As.mp b
 exact(List.getElem_inj hN).mp (e1.trans e2.symm)
theorem aDg{M:Model}{A:Around}{E:Value→Shared→Prop}{i:Nat}{x:Str}{v:V}{u:Value}{Q:Unit→Shared→Prop}(I:Inv X pins σ H s)(hN:X.N.Nodup)(hi:X.N[i]?=some x)(hx:Loc X.env.scope x)(r:gX v u)
  (h:∀s',Inv X pins (σ.set i (some v)) H s'→(∃a,Heap.SameBut a s.heap s'.heap∧(a=X.env.locals∨X.env.cells.lookup x=some a))→Q () s') (hf:X.fn x=true∨X.env.scope.names.lookup x=some .local:=by first|exact .inl rfl|exact .inr rfl|assumption):wpAny M A (storeName X.env x u) Q E s:=by
 obtain⟨m,hn,hl⟩:=id I.loc
 have hcls:(X.env.scope.kind==.class||(X.env.scope.kind==.module&&X.env.locals != X.env.globals))=false:=by rw[I.ok.kind];rfl
 have hiσ:i<σ.length:=by rw[I.len];exact(As.mp hi).1
 have cne:=I.cne
 have tracked:∀{a:Addr}{h':Heap},(∃o,s.heap.get? a=some o∧H a=none)→Heap.SameBut a s.heap h'→HOk X.prog X.w H h':=fun{a h'}ha hs b ob e=>by
  obtain⟨_,_,hfree⟩:=ha
  refine(I.hok b ob e).stay (fun c w' hc q=>(hs.2 c ?_).trans q) (fun _ q=>q) fun _ _ q=>q
  rintro rfl
  rcases hc with rfl|hc
  .rw[hfree]at e;cases e
  .rw[hfree]at hc;cases hc
 rcases hx with hk|hk
 .refine wpAny_storeName_local hk hn (fun h' hn' hs=>?_) hcls
  obtain⟨oL,_,_,hoL,_⟩:=id hn
  refine h _ ⟨I.ok,I.os,I.bare,⟨fun b o e n hb hx=>?_,fun b o e n hb hx=>?_,I.base.free,fun b o e hx=>?_,I.base.tups,I.base.frzs,I.base.tbls⟩,⟨_,hn',fun j y v' e1 e2 e3=>?_⟩,fun y c e=>?_,I.free,I.freeC,fun p hp=>?_,tracked ⟨oL,hoL,I.free⟩ hs,by simpa using I.len⟩ ⟨_,hs,.inl rfl⟩
  .exact(hs.2 b (Cv (Bg (Heap.lt_size e) I.ok.above))).trans (I.base.keep b o e n hb hx)
  .obtain⟨sl,e1⟩:=I.base.slot b o e n hb hx
   exact⟨sl,(hs.2 b (Cv (Bg (Heap.lt_size e) I.ok.above))).trans e1⟩
  .obtain⟨o',e1⟩:=I.base.there b o e hx
   exact⟨o',(hs.2 b (Cv (Bg (Heap.lt_size e) I.ok.above))).trans e1⟩
  .by_cases hj:j=i
   .subst hj
    rw[hi]at e1;cases e1
    rw[Cb hiσ]at e2
    cases e2
    exact⟨u,r,.inl ⟨hk,by simp⟩⟩
   .rw[Au (Hm hj)]at e2
    obtain⟨u',r',q⟩:=hl j y v' e1 e2 e3
    refine⟨u',r',?_⟩
    rcases q with⟨k,e⟩|⟨k,c,e,z⟩
    .refine .inl ⟨k,?_⟩
     have:y≠x:=fun e=>hj (aBd hN e1 (e▸hi))
     simp[this,e]
    .exact .inr ⟨k,c,e,z.sameBut hs (cne y c e)⟩
  .obtain⟨w',z⟩:=I.cell y c e
   exact⟨w',z.sameBut hs (cne y c e)⟩
  .obtain⟨e,n,ne,nf,d⟩:=I.pin p hp
   exact⟨(hs.2 p.1 ne).trans e,n,ne,nf,d⟩
 .have hfn:X.fn x=true:=by
   rcases hf with z|z
   .exact z
   .rw[z]at hk;cases hk
  obtain⟨c,hc⟩:=I.ok.has x (.inl hk)
  obtain⟨w',z⟩:=I.cell x c hc
  refine wpAny_storeName_cell I.ok.kind hk hc z (fun h' hc' hs=>?_)
  obtain⟨oc,hoc,hocd⟩:=id z
  refine h { s with heap:=h' } ⟨I.ok,I.os,I.bare,⟨fun b o e n hb hx=>?_,fun b o e n hb hx=>?_,I.base.free,fun b o e hx=>?_,I.base.tups,I.base.frzs,I.base.tbls⟩,⟨m,hn.sameBut hs (Hm (cne x c hc)),fun j y v' e1 e2 e3=>?_⟩,fun y c' e=>?_,I.free,I.freeC,fun p hp=>?_,tracked ⟨oc,hoc,I.freeC x c hc⟩ hs,by simpa using I.len⟩ ⟨c,hs,.inr hc⟩
  .exact(hs.2 b (Cv (Bg (Heap.lt_size e) (I.ok.cab x c hfn hc)))).trans (I.base.keep b o e n hb hx)
  .obtain⟨sl,e1⟩:=I.base.slot b o e n hb hx
   exact⟨sl,(hs.2 b (Cv (Bg (Heap.lt_size e) (I.ok.cab x c hfn hc)))).trans e1⟩
  .obtain⟨o',e1⟩:=I.base.there b o e hx
   exact⟨o',(hs.2 b (Cv (Bg (Heap.lt_size e) (I.ok.cab x c hfn hc)))).trans e1⟩
  .by_cases hj:j=i
   .subst hj
    rw[hi]at e1;cases e1
    rw[Cb hiσ]at e2
    cases e2
    exact⟨u,r,.inr ⟨.inl hk,c,hc,hc'⟩⟩
   .rw[Au (Hm hj)]at e2
    obtain⟨u',r',q⟩:=hl j y v' e1 e2 e3
    refine⟨u',r',?_⟩
    rcases q with q|⟨k,c',e,z'⟩
    .exact .inl q
    .refine .inr ⟨k,c',e,z'.sameBut hs ?_⟩
     rintro rfl
     exact hj (aBd hN e1 (I.ok.inj _ _ _ e hc▸hi))
  .by_cases hcc:c'=c
   .subst hcc;exact⟨_,hc'⟩
   .obtain⟨w2,z2⟩:=I.cell y c' e
    exact⟨w2,z2.sameBut hs hcc⟩
  .obtain⟨e,n,ne,nf,d⟩:=I.pin p hp
   refine⟨(hs.2 p.1 ?_).trans e,n,ne,nf,d⟩
   intro q
   rw[q,hoc]at e
   have q':oc=p.2:=A0 e
   exact d w' (by rw[←q'];exact hocd)
theorem aBv{M:Model}{A:Around}{E:Value→Shared→Prop}{i:Nat}{x:Str}{v:V}{u:Value}{Q:Unit→Shared→Prop}(I:Inv X pins σ H s)(hN:X.N.Nodup)(hi:X.N[i]?=some x)(hx:Loc X.env.scope x)(r:gX v u)
  (h:∀s',Inv X pins (σ.set i (some v)) H s'→Q () s') (hf:X.fn x=true∨X.env.scope.names.lookup x=some .local:=by first|exact .inl rfl|exact .inr rfl|assumption):wpAny M A (storeName X.env x u) Q E s:=
 aDg I hN hi hx r (fun s' I' _=>h s' I') hf
theorem Inv.call'{s':Shared}{ch:List Addr}(I:Inv X pins σ H s)(ho:s'.os=s.os)(u:Un (frs X.stack) ch H H' s.heap s'.heap)(hok:HOk X.prog X.w H' s'.heap)(hg:AllBare s'.gens)
  (hch:∀b∈ch,(b∈X.ex∨X.s_0.heap.objs.size≤b)∧b≠X.env.locals∧(∀x c,X.env.cells.lookup x=some c→c≠b)∧∀p∈X.pn++pins,p.1≠b):Inv X pins σ H' s':=by
 obtain⟨h',g',d',t',o'⟩:=s'
 have e:o'=s.os:=ho
 subst e
 exact I.call (g':=g') (t':=t') (d':=d') u hok hg hch
end
abbrev XK:=Value→Option Addr→Hp→Prop
abbrev St:=List (Option V)
abbrev VK:=V→Hp→Prop
abbrev TE:=St→Hp→VK→Prop
abbrev TT:=St→Hp→(Bool→Hp→Prop)→Prop
abbrev TA:=St→Hp→(List V→Hp→Prop)→Prop
structure Ends where
 nx:St→Hp→Prop
 rt:VK
 bk:St→Hp→Prop:=fun _ _=>False
 ct:St→Hp→Prop:=fun _ _=>False
abbrev TS:=Ends→St→Hp→Prop
def EP(X:Cx)(pins:List (Addr×Obj))(σ:St)(Q:VK)(u:Value)(s':Shared):Prop:=∃v H',Inv X pins σ H' s'∧gX v u∧Q v H'
def TP(X:Cx)(pins:List (Addr×Obj))(σ:St)(Q:Bool→Hp→Prop)(b:Bool)(s':Shared):Prop:=∃H',Inv X pins σ H' s'∧Q b H'
def AP(X:Cx)(pins:List (Addr×Obj))(σ:St)(Q:List V→Hp→Prop)(us:List Value)(s':Shared):Prop:=∃vs H',Inv X pins σ H' s'∧Vals vs us∧Q vs H'
def SP(X:Cx)(pins:List (Addr×Obj))(D:Ends)(f:Flow)(s':Shared):Prop:=
 match f with
 |.next=>∃σ' H',Inv X pins σ' H' s'∧D.nx σ' H'
 |.brk=>∃σ' H',Inv X pins σ' H' s'∧D.bk σ' H'
 |.cont=>∃σ' H',Inv X pins σ' H' s'∧D.ct σ' H'
 |.ret u=>∃v σ' H',Inv X pins σ' H' s'∧gX v u∧D.rt v H'
def PE(X:Cx)(e:Expr)(t:TE):Prop:=
 ∀(pins:List (Addr×Obj))(s:Shared)(σ:St)(H:Hp)(Q:VK),Inv X pins σ H s→t σ H Q→wpAny (model X.prog X.w) X.A (eval e X.env) (EP X pins σ Q) X.xe s
def PT(X:Cx)(e:Expr)(t:TT):Prop:=
 ∀(pins:List (Addr×Obj))(s:Shared)(σ:St)(H:Hp)(Q:Bool→Hp→Prop),Inv X pins σ H s→t σ H Q→wpAny (model X.prog X.w) X.A (isTrue e X.env (eval e X.env)) (TP X pins σ Q) X.xe s
def PW(X:Cx)(e:Expr)(t:TT):Prop:=
 ∀(whole:Sem Value)(pins:List (Addr×Obj))(s:Shared)(σ:St)(H:Hp)(Q:Bool→Hp→Prop),Inv X pins σ H s→t σ H Q→wpAny (model X.prog X.w) X.A (isTrue e X.env whole) (TP X pins σ Q) X.xe s
theorem PW.pt{X:Cx}{e:Expr}{t:TT}(h:PW X e t):PT X e t:=h _
def PA(X:Cx)(es:List Expr)(t:TA):Prop:=
 ∀(pos:Pos)(pins:List (Addr×Obj))(s:Shared)(σ:St)(H:Hp)(Q:List V→Hp→Prop),Inv X pins σ H s→t σ H Q→wpAny (model X.prog X.w) X.A (spliced (backTo pos (starEach es X.env))) (AP X pins σ Q) X.xe s
def PS(X:Cx)(st:Stmt)(t:TS):Prop:=
 ∀(pins:List (Addr×Obj))(s:Shared)(σ:St)(H:Hp)(D:Ends),Inv X pins σ H s→t D σ H→wpAny (model X.prog X.w) X.A (exec st X.env) (SP X pins D) X.xe s
def PSs(X:Cx)(st:List Stmt)(t:TS):Prop:=
 ∀(pins:List (Addr×Obj))(s:Shared)(σ:St)(H:Hp)(D:Ends),Inv X pins σ H s→t D σ H→wpAny (model X.prog X.w) X.A (execs st X.env) (SP X pins D) X.xe s
theorem thn{α:Type}{t:Sem α}{Q Q':α→Shared→Prop}{M:Model}{A:Around}{E:Value→Shared→Prop}{s:Shared}(h:wpAny M A t Q E s)(hQ:∀a s,Q a s→Q' a s):wpAny M A t Q' E s:=wpAny_mono h hQ fun _ _ x=>x
section
variable{X:Cx}
def aJl(i:Nat):TE:=fun σ H Q=>∃v,σ[i]?=some (some v)∧Q v H
def tC(v:V):TE:=fun _ H Q=>Q v H
theorem aO5{i:Nat}{x:Str}{pos:Pos}(hN:X.N[i]?=some x)(hv:Vis X.env.scope x)(hd:(x==("__debug__":Str))=false:=by decide)(hcd:(x==("__classdict__":Str))=false:=by decide):PE X (.Name x pos) (aJl i):=by
 intro pins s σ H Q I h
 obtain⟨v,e,h⟩:=h
 obtain⟨m,hn,hl⟩:=I.loc
 obtain⟨u,r,l⟩:=hl i x v hN e hv
 have fin:EP X pins σ Q u s:=⟨v,H,I,r,h⟩
 rcases l with⟨hk,hm⟩|⟨hk,c,hc,hcell⟩
 .exact wpAny_Name (wpAny_loadName_local I.ok.kind hk hn hm fin) hd
 .rcases hk with hk|hk
  .exact wpAny_Name (wpAny_loadName_cell I.ok.kind hk hc hcell fin) hd
  .exact wpAny_Name (wpAny_loadName_free I.ok.kind hk hc hcell fin hcd) hd
theorem yZ{i j pos}:PE X (.Constant (.int i) j pos) (tC (.int i)):=fun _ _ _ H _ I h=>wpAny_Constant_int ⟨.int i,H,I.tok _,⟨_,rfl⟩,h⟩
theorem bDz{b j pos}:PE X (.Constant (.bool b) j pos) (tC (.bl b)):=fun _ _ _ H _ I h=>Constant_bool ⟨.bl b,H,I,rfl,h⟩
theorem bAv{j pos}:PE X (.Constant .none j pos) (tC .non):=fun _ _ _ H _ I h=>Constant_none ⟨.non,H,I,rfl,h⟩
def Gl(X:Cx)(x:Str):Prop:=X.env.kindOf x=some .globalImplicit
theorem aAh{E:Value→Shared→Prop}{pins:List (Addr×Obj)}{s:Shared}{σ:St}{H:Hp}{x:Str}{u:Value}{pos:Pos}{Q:Value→Shared→Prop}(I:Inv X pins σ H s)(hg:Gl X x)(hm:X.mg x=some u)(h:Q u s)
  (hd:(x==("__debug__":Str))=false:=by decide):wpAny (model X.prog X.w) X.A (eval (.Name x pos) X.env) Q E s:=
 Calls.Name_function_global I.ok.kind hg (Calls.loadGlobal_global (by rw[I.ok.glob];exact I.mod.glob.keeps I.bk) hm h) hd
theorem nM{E:Value→Shared→Prop}{pins:List (Addr×Obj)}{s:Shared}{σ:St}{H:Hp}{x:Str}{u:Value}{pos:Pos}{Q:Value→Shared→Prop}(I:Inv X pins σ H s)(hg:Gl X x)(hm:X.mg x=none)(hv:bootBuiltins x=some u)(h:Q u s)
  (hn:x≠"__name__":=by decide) (hd:(x==("__debug__":Str))=false:=by decide):wpAny (model X.prog X.w) X.A (eval (.Name x pos) X.env) Q E s:=by
 obtain⟨mb,h1,h2⟩:=I.mod.blt
 exact Calls.Name_function_global I.ok.kind hg (Calls.loadGlobal_builtin (by rw[I.ok.glob];exact I.mod.glob.keeps I.bk) hm (by rw[I.ok.blt];exact h1.keeps I.bk) ((h2 x hn).trans hv) h) hd
theorem xB{x:Str}{v:V}{u:Value}{pos:Pos}(hg:Gl X x)(hm:X.mg x=some u)(r:gX v u)(hd:(x==("__debug__":Str))=false:=by decide):PE X (.Name x pos) (tC v):=
 fun _ _ _ H _ I h=>aAh I hg hm ⟨v,H,I,r,h⟩ hd
variable{a b:Expr}{ta tb:TE}{pos:Pos}
variable{tA tB':TT}{rest:List Expr}
def bH4(t u:TT):TT:=fun σ H Q=>t σ H fun c H1=>if c=true then u σ H1 Q else Q false H1
def tOr(t u:TT):TT:=fun σ H Q=>t σ H fun c H1=>if c=true then Q true H1 else u σ H1 Q
def bH6(t:TT):TT:=fun σ H Q=>t σ H fun c H1=>Q (!c) H1
theorem aWz(ha:PT X a tA):PW X (.BoolOp .And [a] pos) tA:=by
 intro wh pins s σ H Q I h
 refine isTrue_and (thn (ha pins s σ H Q I h) fun c s1 e=>?_)
 cases c with
 |true=>exact isTrue_and_nil e
 |false=>exact e
theorem bBd(ha:PT X a tA):PW X (.BoolOp .Or [a] pos) tA:=by
 intro wh pins s σ H Q I h
 refine isTrue_or (thn (ha pins s σ H Q I h) fun c s1 e=>?_)
 cases c with
 |false=>exact isTrue_or_nil e
 |true=>exact e
theorem bBb(ha:PT X a tA)(hb:PW X (.BoolOp .And (b::rest) pos) tB'):PW X (.BoolOp .And (a::b::rest) pos) (bH4 tA tB'):=by
 intro wh pins s σ H Q I h
 refine isTrue_and (thn (ha pins s σ H _ I h) fun c s1 ⟨H1,I1,q1⟩=>?_)
 cases c with
 |true=>exact hb wh pins s1 σ H1 Q I1 q1
 |false=>exact⟨H1,I1,q1⟩
theorem bE4(ha:PT X a tA)(hb:PW X (.BoolOp .Or (b::rest) pos) tB'):PW X (.BoolOp .Or (a::b::rest) pos) (tOr tA tB'):=by
 intro wh pins s σ H Q I h
 refine isTrue_or (thn (ha pins s σ H _ I h) fun c s1 ⟨H1,I1,q1⟩=>?_)
 cases c with
 |true=>exact⟨H1,I1,q1⟩
 |false=>exact hb wh pins s1 σ H1 Q I1 q1
theorem bBa(ha:PT X a tA):PT X (.UnaryOp .Not a pos) (bH6 tA):=by
 intro pins s σ H Q I h
 exact isTrue_not (ha pins s σ H (fun c H1=>Q (!c) H1) I h)
def bE8(ta tb:TE):TE:=fun σ H Q=>ta σ H fun x H1=>∃c,x=.bl c∧if c=true then tb σ H1 Q else Q (.bl false) H1
def bH7(ta tb:TE):TE:=fun σ H Q=>ta σ H fun x H1=>∃c,x=.bl c∧if c=true then Q (.bl true) H1 else tb σ H1 Q
def bEc(ta:TE):TE:=fun σ H Q=>ta σ H fun x H1=>∃c,x=.bl c∧Q (.bl (!c)) H1
theorem aT3{op}{t:TE}(h:PE X a t):PE X (.BoolOp op [a] pos) t:=fun pins s σ H Q I hw=>BoolOp_one (h pins s σ H Q I hw)
theorem bAt(ha:PE X a ta)(hb:PE X (.BoolOp .And (b::rest) pos) tb):PE X (.BoolOp .And (a::b::rest) pos) (bE8 ta tb):=by
 intro pins s σ H Q I h
 refine BoolOp_and (thn (ha pins s σ H _ I h) fun v s1 ⟨x,H1,I1,r1,q1⟩=>?_)
 obtain⟨c,rfl,q1⟩:=q1
 cases r1
 refine wpAny_truthy_bool ?_
 cases c with
 |true=>exact hb pins s1 σ H1 Q I1 q1
 |false=>exact⟨.bl false,H1,I1,rfl,q1⟩
theorem bE1(ha:PE X a ta)(hb:PE X (.BoolOp .Or (b::rest) pos) tb):PE X (.BoolOp .Or (a::b::rest) pos) (bH7 ta tb):=by
 intro pins s σ H Q I h
 refine BoolOp_or (thn (ha pins s σ H _ I h) fun v s1 ⟨x,H1,I1,r1,q1⟩=>?_)
 obtain⟨c,rfl,q1⟩:=q1
 cases r1
 refine wpAny_truthy_bool ?_
 cases c with
 |false=>exact hb pins s1 σ H1 Q I1 q1
 |true=>exact⟨.bl true,H1,I1,rfl,q1⟩
theorem bAw(ha:PE X a ta):PE X (.UnaryOp .Not a pos) (bEc ta):=by
 intro pins s σ H Q I h
 refine UnaryOp_ (thn (ha pins s σ H _ I h) fun v s1 ⟨x,H1,I1,r1,q1⟩=>?_)
 obtain⟨c,rfl,q1⟩:=q1
 cases r1
 exact not_of (wpAny_truthy_bool ⟨.bl (!c),H1,I1,rfl,q1⟩)
def tIf(t:TT)(ta tb:TE):TE:=fun σ H Q=>t σ H fun c H1=>if c=true then ta σ H1 Q else tb σ H1 Q
theorem aRp{c:Expr}(hc:PT X c tA)(ha:PE X a ta)(hb:PE X b tb):PE X (.IfExp c a b pos) (tIf tA ta tb):=by
 intro pins s σ H Q I h
 refine wpAny_IfExp (thn (hc pins s σ H _ I h) fun d s1 ⟨H1,I1,q1⟩=>?_)
 cases d with
 |true=>exact ha pins s1 σ H1 Q I1 q1
 |false=>exact hb pins s1 σ H1 Q I1 q1
end
def SqL(K:Ad)(H:Hp)(a:Addr)(xs:List V):Prop:=
 Rd H a (.lst xs) ∨
  ∃(o:Obj)(its:Array Value)(n:Nat),K.lookup a=some o∧o.cls=.type "list"∧o.dict=none∧o.data=.seq its n∧its.size≤sizeLine∧Vals xs its.toList
def SqT(K:Ad)(H:Hp)(a:Addr)(xs:List V):Prop:=
 Rd H a (.tup xs) ∨
  ∃(o:Obj)(its:Array Value)(n:Nat),K.lookup a=some o∧o.cls=.type "tuple"∧o.data=.seq its n∧its.size≤sizeLine∧Vals xs its.toList
noncomputable def bFc:Value→Option V
 |.none=>some .non
 |.bool b=>some (.bl b)
 |.int i _=>some (.int i)
 |.str x _=>some (.str x)
 |.bytes b _=>some (.byt b)
 |.float b _=>some (.flt b)
 |.ref a=>some (.ref a)
 |.type n=>some (.ty n)
 |_=>none
theorem gX.abs{x:V}{u:Value}(r:gX x u):bFc u=some x:=by
 cases x with
 |non=>cases r;rfl
 |bl _=>cases r;rfl
 |int _=>obtain⟨t,rfl⟩:=r;rfl
 |str _=>obtain⟨t,rfl⟩:=r;rfl
 |byt _=>obtain⟨t,rfl⟩:=r;rfl
 |flt _=>obtain⟨t,rfl⟩:=r;rfl
 |ref _=>cases r;rfl
 |ty _=>cases r;rfl
theorem gX.inj{x y:V}{u:Value}(r:gX x u)(q:gX y u):x=y:=A0 (r.abs.symm.trans q.abs)
theorem Vals.inj:∀{xs ys:List V}{us:List Value},Vals xs us→Vals ys us→xs=ys
 |_,_,_,.nil,.nil=>rfl
 |_,_,_,.cons r t,.cons r' t'=>by rw[r.inj r',Vals.inj t t']
section
variable{X:Cx}{pins:List (Addr×Obj)}{σ:St}{H:Hp}{s:Shared}{a:Addr}{xs ys:List V}
theorem SqL.of{K:Ad}(h:H a=some (.lst xs)):SqL K H a xs:=.inl (.inl h)
theorem SqT.of{K:Ad}(h:H a=some (.tup xs)):SqT K H a xs:=.inl (.inl h)
theorem Inv.list(I:Inv X pins σ H s)(h:SqL X.K H a xs):∃its:List Value,Vals xs its∧PlainL s.heap a its.toArray∧xs.length≤sizeLine:=by
 rcases h with h|⟨o,its,n,hk,hc,hd,hs,hz,r⟩
 .obtain⟨z,its,n,r,e⟩:=h.ok I.hok
  exact⟨its,r,⟨_,n,e,rfl,rfl,rfl⟩,z⟩
 .refine⟨its.toList,r,⟨o,n,I.kIn a o hk,hc,hd,by simpa using hs⟩,?_⟩
  have e:=r.length
  simp only[C2]at e
  omega
theorem Inv.tuple(I:Inv X pins σ H s)(h:SqT X.K H a xs):∃its:List Value,Vals xs its∧IsTup s.heap a its.toArray∧xs.length≤sizeLine:=by
 rcases h with h|⟨o,its,n,hk,hc,hs,hz,r⟩
 .obtain⟨z,its,r,p⟩:=h.ok I.hok
  exact⟨its,r,p,z⟩
 .refine⟨its.toList,r,⟨o,I.kIn a o hk,hc,n,by simpa using hs⟩,?_⟩
  have e:=r.length
  simp only[C2]at e
  omega
theorem Inv.list_inj(I:Inv X pins σ H s)(h:SqL X.K H a xs)(h':SqL X.K H a ys):xs=ys:=by
 obtain⟨its,r,⟨o,n,e,_,_,d⟩,_⟩:=I.list h
 obtain⟨its',r',⟨o',n',e',_,_,d'⟩,_⟩:=I.list h'
 rw[e]at e';cases e'
 rw[d]at d'
 injection d' with d1 _
 have:its=its':=by simpa using congrArg Ld d1
 subst this
 exact r.inj r'
theorem Inv.tuple_inj(I:Inv X pins σ H s)(h:SqT X.K H a xs)(h':SqT X.K H a ys):xs=ys:=by
 obtain⟨its,r,⟨o,e,_,n,d⟩,_⟩:=I.tuple h
 obtain⟨its',r',⟨o',e',_,n',d'⟩,_⟩:=I.tuple h'
 rw[e]at e';cases e'
 rw[d]at d'
 injection d' with d1 _
 have:its=its':=by simpa using congrArg Ld d1
 subst this
 exact r.inj r'
end
noncomputable abbrev Cx.wish (X:Cx) (E:Value→Shared→Prop):Cx:={ X with xe:=E }
noncomputable abbrev Cx.nox (X:Cx):Cx:=X.wish fun _ _=>False
theorem Cx.Ok.wish{X:Cx}(ok:X.Ok)(E:Value→Shared→Prop):(X.wish E).Ok:=
 ⟨ok.mod,ok.kind,ok.glob,ok.blt,ok.above,ok.inj,ok.has,ok.cab,ok.hd,ok.frames,ok.stk,ok.exf,ok.bs,ok.bsz,ok.noex,ok.exfs,ok.funs,ok.frf⟩
theorem Cx.Ok.unwish{X:Cx}{E:Value→Shared→Prop}(ok:(X.wish E).Ok):X.Ok:=
 ⟨ok.mod,ok.kind,ok.glob,ok.blt,ok.above,ok.inj,ok.has,ok.cab,ok.hd,ok.frames,ok.stk,ok.exf,ok.bs,ok.bsz,ok.noex,ok.exfs,ok.funs,ok.frf⟩
section
variable{X:Cx}{pins:List (Addr×Obj)}{σ:St}{H:Hp}{s:Shared}{E:Value→Shared→Prop}
theorem Inv.wish(I:Inv X pins σ H s)(E:Value→Shared→Prop):Inv (X.wish E) pins σ H s:=⟨I.ok.wish E,I.os,I.bare,I.base,I.loc,I.cell,I.free,I.freeC,I.pin,I.hok,I.len⟩
theorem Inv.unwish(I:Inv (X.wish E) pins σ H s):Inv X pins σ H s:=⟨I.ok.unwish,I.os,I.bare,I.base,I.loc,I.cell,I.free,I.freeC,I.pin,I.hok,I.len⟩
theorem SP.unwish{D:Ends}{f:Flow}{s':Shared}(h:SP (X.wish E) pins D f s'):SP X pins D f s':=by
 cases f with
 |next=>obtain⟨σ',H',I,q⟩:=h;exact⟨σ',H',I.unwish,q⟩
 |brk=>obtain⟨σ',H',I,q⟩:=h;exact⟨σ',H',I.unwish,q⟩
 |cont=>obtain⟨σ',H',I,q⟩:=h;exact⟨σ',H',I.unwish,q⟩
 |ret u=>obtain⟨v,σ',H',I,r,q⟩:=h;exact⟨v,σ',H',I.unwish,r,q⟩
theorem PSs.nox{st:List Stmt}{t:TS}(h:PSs X.nox st t):PSs X st t:=fun pins s σ H D I hw=>
 wpAny_mono (h pins s σ H D (I.wish _) hw) (fun _ _ q=>q.unwish) fun _ _ z=>Dz z
end
section
variable{X:Cx}{st:Stmt}{rest:List Stmt}{t u:TS}{e:Expr}{te:TE}{pos:Pos}
def bEb:TS:=fun D σ H=>D.nx σ H
def bH8(t u:TS):TS:=fun D σ H=>t { D with nx:=u D } σ H
theorem aOe:PSs X [] bEb:=fun _ _ σ H _ I h=>wpAny_execs_nil ⟨σ,H,I,h⟩
theorem gT(h1:PS X st t)(h2:PSs X rest u):PSs X (st::rest) (bH8 t u):=by
 intro pins s σ H D I h
 refine wpAny_execs_cons (thn (h1 pins s σ H { D with nx:=u D } I h) fun f s1 q=>?_)
 cases f with
 |next=>
  obtain⟨σ',H',I',q⟩:=q
  exact h2 pins s1 σ' H' D I' q
 |ret v=>exact q
 |brk=>exact q
 |cont=>exact q
theorem aFr(h1:PS X st t):PSs X [st] t:=by
 intro pins s σ H D I h
 refine wpAny_execs_cons (thn (h1 pins s σ H D I h) fun f s1 q=>?_)
 cases f with
 |next=>exact wpAny_execs_nil q
 |ret v=>exact q
 |brk=>exact q
 |cont=>exact q
theorem Inv.quiet{pins:List (Addr×Obj)}{σ:St}{H:Hp}{s:Shared}(I:Inv X pins σ H s):interactive X.env=false:=by simp[interactive,I.ok.kind]
def aP3(te:TE):TS:=fun D σ H=>te σ H fun _ H1=>D.nx σ H1
theorem sP(he:PE X e te)(hs:swapsWith e none pos.line X.env=pure false:=by rfl):PS X (.Expr e pos) (aP3 te):=by
 intro pins s σ H D I h
 exact wpAny_Expr_any (thn (he pins s σ H _ I h) fun v s1 ⟨x,H1,I1,r1,q1⟩=>⟨σ,H1,I1,q1⟩) I.quiet hs
def aXm(te:TE):TS:=fun D σ H=>te σ H D.rt
theorem zB(he:PE X e te):PS X (.Return (some e) pos) (aXm te):=by
 intro pins s σ H D I h
 exact wpAny_Return_some (thn (he pins s σ H _ I h) fun v s1 ⟨x,H1,I1,r1,q1⟩=>⟨x,σ,H1,I1,r1,q1⟩)
def bE9(c:TT)(t u:TS):TS:=fun D σ H=>c σ H fun b H1=>if b=true then t D σ H1 else u D σ H1
theorem bB8{c:Expr}{a b:List Stmt}{tc:TT}(hc:PT X c tc)(ha:PSs X a t)(hb:PSs X b u):PS X (.If c a b pos) (bE9 tc t u):=by
 intro pins s σ H D I h
 refine wpAny_If (thn (hc pins s σ H _ I h) fun d s1 ⟨H1,I1,q1⟩=>?_)
 cases d with
 |true=>exact ha pins s1 σ H1 D I1 q1
 |false=>exact hb pins s1 σ H1 D I1 q1
end
abbrev TG:=V→St→Hp→(St→Hp→Prop)→Prop
abbrev TGs:=List V→St→Hp→(St→Hp→Prop)→Prop
def PG(X:Cx)(target:Expr)(t:TG):Prop:=
 ∀(pins:List (Addr×Obj))(s:Shared)(σ:St)(H:Hp)(v:V)(u:Value)(Q:St→Hp→Prop),Inv X pins σ H s→gX v u→t v σ H Q→
  wpAny (model X.prog X.w) X.A (assign target X.env u) (fun _ s'=>∃σ' H',Inv X pins σ' H' s'∧Q σ' H') X.xe s
def PGs(X:Cx)(ts:List Expr)(t:TGs):Prop:=
 ∀(pins:List (Addr×Obj))(s:Shared)(σ:St)(H:Hp)(vs:List V)(us:List Value)(Q:St→Hp→Prop),Inv X pins σ H s→Vals vs us→t vs σ H Q→
  wpAny (model X.prog X.w) X.A (assignInOrder ((assignEach ts X.env).map (·.2)) us) (fun _ s'=>∃σ' H',Inv X pins σ' H' s'∧Q σ' H') X.xe s
abbrev bCq:=V→V→V→Hp→(Hp→Prop)→Prop
def bEh(X:Cx)(t:bCq):Prop:=
 ∀(pins:List (Addr×Obj))(s:Shared)(σ:St)(H:Hp)(o i v:V)(ov iv u:Value)(Q:Hp→Prop),Inv X pins σ H s→gX o ov→gX i iv→gX v u→t o i v H Q→
  wpAny (model X.prog X.w) X.A (setItem ov iv u) (fun _ s'=>∃H',Inv X pins σ H' s'∧Q H') X.xe s
abbrev TIp:=V→V→Hp→VK→Prop
def PIp(X:Cx)(op:Operator)(t:TIp):Prop:=
 ∀(pins:List (Addr×Obj))(s:Shared)(σ:St)(H:Hp)(x y:V)(v u:Value)(Q:VK),Inv X pins σ H s→gX x v→gX y u→t x y H Q→
  wpAny (model X.prog X.w) X.A (inplaceOp op v u) (EP X pins σ Q) X.xe s
section
variable{X:Cx}{pos:Pos}
def vR(i:Nat):TG:=fun v σ H Q=>Q (σ.set i (some v)) H
theorem aO6{i:Nat}{x:Str}(hN:X.N.Nodup)(hi:X.N[i]?=some x)(hx:Loc X.env.scope x)(hf:X.fn x=true∨X.env.scope.names.lookup x=some .local:=by first|exact .inl rfl|exact .inr rfl|assumption):PG X (.Name x pos) (vR i):=by
 intro pins s σ H v u Q I r h
 exact wpAny_assign_Name (aBv I hN hi hx r (fun s' I'=>⟨_,H,I',h⟩) hf)
def bEs:TGs:=fun vs σ H Q=>vs=[]∧Q σ H
def aU9(t:TG)(u:TGs):TGs:=fun vs σ H Q=>∃v r,vs=v::r∧t v σ H fun σ' H'=>u r σ' H' Q
theorem aWr:PGs X [] bEs:=by
 intro pins s σ H vs us Q I r h
 obtain⟨e,h⟩:=h
 subst e
 cases r
 exact assignInOrder_nil ⟨σ,H,I,h⟩
theorem aHb{e:Expr}{es:List Expr}{t:TG}{u:TGs}(h1:PG X e t)(h2:PGs X es u)
  (hs:(assignEach (e::es) X.env).map (·.2)=assign e X.env::(assignEach es X.env).map (·.2):=by rfl):PGs X (e::es) (aU9 t u):=by
 intro pins s σ H vs us Q I r h
 obtain⟨v,vr,e1,h⟩:=h
 subst e1
 cases r with
 |cons r rr=>
  rw[hs]
  refine assignInOrder_cons (thn (h1 pins s σ H _ _ _ I r h) fun _ s1 ⟨σ1,H1,I1,q1⟩=>?_)
  exact h2 pins s1 σ1 H1 _ _ Q I1 rr q1
def bEu(K:Ad)(n:Nat)(t:TGs):TG:=fun v σ H Q=>∃a xs,v=.ref a∧SqT K H a xs∧xs.length=n∧t xs σ H Q
theorem bAz{es:List Expr}{k:Nat}{t:TGs}{n:Nat}(hc:X.calm=true)(h:PGs X es t)
  (hn:(assignEach es X.env).length=n:=by rfl) (hst:(assignEach es X.env).findIdx? (·.1)=none:=by rfl):PG X (.Tuple es k pos) (bEu X.K n t):=by
 intro pins s σ H v u Q I r hw
 obtain⟨a,xs,e1,hq,hl,hw⟩:=hw
 subst e1
 cases r
 obtain⟨its,rv,ht,hz⟩:=I.tuple hq
 refine assign_Tuple_tuple (I.ok.hd hc) ht (by simp[hn,←hl,rv.length]) hst fun h' hx=>?_
 have I1:Inv X pins σ H { s with heap:=h' }:=I.kept (t':=s.toks) fun b o e=>hx b o (Cv (Heap.lt_size e)) e
 exact h pins _ σ H xs _ Q I1 (by simpa using rv) hw
def bEt(to ti:TE)(t:bCq):TG:=fun v σ H Q=>to σ H fun o H1=>ti σ H1 fun i H2=>t o i v H2 fun H3=>Q σ H3
theorem bAy{o i:Expr}{to ti:TE}{t:bCq}(ho:PE X o to)(hi:PE X i ti)(hs:bEh X t)
  (ha:∀v,assign (.Subscript o i pos) X.env v=(do
   let ov ←holding [v] (eval o X.env)
   let iv ←holding [v,ov] (eval i X.env)
   standAt pos
   holding [v,ov,iv] (setItem ov iv v)
   release [v,ov,iv] []):=by intro _;rfl):PG X (.Subscript o i pos) (bEt to ti t):=by
 intro pins s σ H v u Q I r h
 rw[ha]
 refine wpAny_bind (wpAny_holding (thn (ho pins s σ H _ I h) fun ov s1 ⟨x,H1,I1,r1,q1⟩=>?_))
 refine wpAny_bind (wpAny_holding (thn (hi pins s1 σ H1 _ I1 q1) fun iv s2 ⟨y,H2,I2,r2,q2⟩=>?_))
 refine wpAny_bind (wpAny_standAt (wpAny_bind (wpAny_holding (thn (hs pins s2 σ H2 x y v ov iv u _ I2 r1 r2 r q2) fun _ s3 ⟨H3,I3,q3⟩=>?_))))
 exact wpAny_release ⟨σ,H3,I3,q3⟩
def aXl(te:TE)(g:TG):TS:=fun D σ H=>te σ H fun x H1=>g x σ H1 D.nx
theorem bB5{tg e:Expr}{te:TE}{g:TG}(he:PE X e te)(hg:PG X tg g)(hs:swapsWithSole [tg] e pos.line X.env=pure false:=by rfl)(hw:swappedStores [tg] e X.env=pure none:=by rfl)
  (h1:(assignEach [tg] X.env).map (·.2)=[assign tg X.env]:=by rfl):PS X (.Assign [tg] e pos) (aXl te g):=by
 intro pins s σ H D I h
 refine wpAny_Assign_stores (thn (he pins s σ H _ I h) fun v s1 ⟨x,H1,I1,r1,q1⟩=>?_) hs hw
 rw[h1]
 exact thn (hg pins s1 σ H1 x v _ I1 r1 q1) fun _ s2 q=>q
theorem qY{i:Nat}{x:Str}{e:Expr}{te:TE}{pos':Pos}(hN:X.N.Nodup)(hi:X.N[i]?=some x)(hx:Loc X.env.scope x)(he:PE X e te)(hs:swapsWith e (some (.Name x pos')) pos.line X.env=pure false:=by rfl)(hf:X.fn x=true∨X.env.scope.names.lookup x=some .local:=by first|exact .inl rfl|exact .inr rfl|assumption) :
  PS X (.Assign [.Name x pos'] e pos) (aXl te (vR i)):=by
 intro pins s σ H D I h
 refine wpAny_Assign_Name (thn (he pins s σ H _ I h) fun v s1 ⟨y,H1,I1,r1,q1⟩=>?_) hs
 exact aBv I1 hN hi hx r1 (fun s2 I2=>⟨_,H1,I2,q1⟩) hf
def bF7(i:Nat)(te:TE)(ti:TIp):TS:=fun D σ H=>∃x,σ[i]?=some (some x)∧te σ H fun y H1=>ti x y H1 fun z H2=>D.nx (σ.set i (some z)) H2
theorem bB6{i:Nat}{x:Str}{e:Expr}{te:TE}{op:Operator}{ti:TIp}{pos':Pos}(hN:X.N.Nodup)(hi:X.N[i]?=some x)(hx:Loc X.env.scope x)(he:PE X e te)(ho:PIp X op ti)(hf:X.fn x=true∨X.env.scope.names.lookup x=some .local:=by first|exact .inl rfl|exact .inr rfl|assumption) :
  PS X (.AugAssign (.Name x pos') op e pos) (bF7 i te ti):=by
 intro pins s σ H D I h
 obtain⟨v,e1,h⟩:=h
 obtain⟨m,hn,hl⟩:=I.loc
 have vis:Vis X.env.scope x:=by rcases hx with k|k;exact .inl k;exact .inr (.inl k)
 obtain⟨u,r,l⟩:=hl i x v hi e1 vis
 refine wpAny_AugAssign_Name ?_
 have go:wpAny (model X.prog X.w) X.A (eval e X.env) (fun w s₂=>wpAny (model X.prog X.w) X.A (inplaceOp op u w) (fun r s₃=>wpAny (model X.prog X.w) X.A (storeName X.env x r) (fun _=>SP X pins D .next) X.xe s₃) X.xe s₂) X.xe s:=by
  refine thn (he pins s σ H _ I h) fun w s1 ⟨y,H1,I1,r1,q1⟩=>?_
  refine thn (ho pins s1 σ H1 v y u w _ I1 r r1 q1) fun z s2 ⟨zv,H2,I2,r2,q2⟩=>?_
  exact aBv I2 hN hi hx r2 (fun s3 I3=>⟨_,H2,I3,q2⟩) hf
 rcases l with⟨hk,hm⟩|⟨hk,c,hc,hcell⟩
 .exact wpAny_loadName_local I.ok.kind hk hn hm go
 .rcases hk with hk|hk
  .exact wpAny_loadName_cell I.ok.kind hk hc hcell go
  .rcases hx with k|k
   .have:X.env.scope.names.lookup x=some .free:=hk
    rw[k]at this;cases this
   .have:X.env.scope.names.lookup x=some .free:=hk
    rw[k]at this;cases this
def aTc(c:TT)(tb:TS):TS:=fun D σ H=>∃W:Nat→St→Hp→Prop,(∃m,W m σ H)∧∀m σ H,W m σ H→
 c σ H fun b H1=>if b=true then ∃N:St→Hp→Prop,(∀σ' H',N σ' H'→∃m',m'<m∧W m' σ' H')∧tb { D with nx:=N,ct:=N,bk:=D.nx } σ H1 else D.nx σ H1
theorem aHe{c:Expr}{body:List Stmt}{tc:TT}{tb:TS}(hp:PassesOwn (model X.prog X.w) X.A X.env X.xe)(hc:PT X c tc)(hb:PSs X body tb):PS X (.While c body [] pos) (aTc tc tb):=by
 intro pins s σ H D I h
 obtain⟨W,⟨m0,w0⟩,turn⟩:=h
 refine wpAny_While (codeAny_whileLoop (fun n s'=>∃σ' H',Inv X pins σ' H' s'∧W n σ' H') ?_ m0 ⟨σ,H,I,w0⟩)
 rintro n s1 ⟨σ1,H1,I1,w1⟩
 refine wpAny_passesOwn hp (thn (hc pins s1 σ1 H1 _ I1 (turn n σ1 H1 w1)) fun b s2 ⟨H2,I2,q2⟩=>?_)
 cases b with
 |true=>
  obtain⟨N,hN,q2⟩:=q2
  rw[ip rfl]
  refine wpAny_passesOwn hp (thn (hb pins s2 σ1 H2 _ I2 q2) fun f s3 q3=>?_)
  cases f with
  |next=>
   obtain⟨σ3,H3,I3,n3⟩:=q3
   obtain⟨m',hm,w3⟩:=hN σ3 H3 n3
   exact⟨m',hm,σ3,H3,I3,w3⟩
  |cont=>
   obtain⟨σ3,H3,I3,n3⟩:=q3
   obtain⟨m',hm,w3⟩:=hN σ3 H3 n3
   exact⟨m',hm,σ3,H3,I3,w3⟩
  |brk=>exact q3
  |ret v=>exact q3
 |false=>
  rw[ig A5]
  exact wpAny_execs_nil ⟨σ1,H2,I2,q2⟩
end
structure It where
 go:Nat→Hp→Prop
 yld:Nat→Hp→V→Hp→Prop
 stop:Nat→Hp→Prop
def aJr(X:Cx)(pins:List (Addr×Obj))(H:Hp)(b:Addr):Prop:=
 H b=none∧b≠X.env.locals∧b∉X.fs∧(b∈X.ex∨X.s_0.heap.objs.size≤b)∧(∀x c,X.env.cells.lookup x=some c→c≠b)∧∀p∈X.pn++pins,p.1≠b
theorem Inv.fpOk{X:Cx}{pins:List (Addr×Obj)}{σ:St}{H H':Hp}{s:Shared}{b:Addr}(I:Inv X pins σ H s)(hb:s.heap.objs.size≤b)(hn:H' b=none):aJr X pins H' b:=by
 refine⟨hn,Le (Bg I.lt hb),I.nofs hb,.inr (B7 I.sz hb),fun x c e z=>?_,fun p hp z=>?_⟩
 .obtain⟨v,q⟩:=I.cell x c e
  exact absurd (Bg q.lt (by rw[z];exact hb)) (Da _)
 .exact absurd (Bg (Heap.lt_size (I.pin p hp).1) (by rw[z];exact hb)) (Da _)
structure Turn(P:Program)(w:World)(K:Ad)(tg:Expr)(J:It)(fp:List Addr)(it:Addr)(tn:Nat→Heap→Prop):Prop where
 mem:it∈fp
 obj:∀i h,tn i h→∀b∈fp,∃o,h.get? b=some o∧∀v,o.data≠.cell v
 keep:∀i h h',tn i h→(∀b∈fp,∀o,h.get? b=some o→h'.get? b=some o)→tn i h'
 item:∀(X:Cx),X.prog=P→X.w=w→X.K=K→X.calm=true→∀(i:Nat)(pins:List (Addr×Obj))(s:Shared)(σ:St)(H:Hp)(E:Value→Shared→Prop),Inv X pins σ H s→(∀b∈fp,aJr X pins H b)→tn i s.heap→J.go i H→
  wpAny (model P w) X.A (pyNext (.ref it)) (fun r s1=>∃u,r=some u ∧
   wpAny (model P w) X.A (letOwnedTupleGo tg (.ref it) u) (fun _ s2=>∃x H',Inv X pins σ H' s2∧gX x u∧J.yld i H x H'∧tn (i+1) s2.heap∧∀b∈fp,H' b=none) E s1) E s
 done:∀(X:Cx),X.prog=P→X.w=w→X.K=K→X.calm=true→∀(i:Nat)(pins:List (Addr×Obj))(s:Shared)(σ:St)(H:Hp)(E:Value→Shared→Prop),Inv X pins σ H s→(∀b∈fp,aJr X pins H b)→tn i s.heap→J.stop i H→
  wpAny (model P w) X.A (pyNext (.ref it)) (fun r s1=>r=none∧Inv X pins σ H s1) E s
 self:∀(A:Around)(i:Nat)(s:Shared)(Q:Value→Shared→Prop)(E:Value→Shared→Prop),tn i s.heap→Q (.ref it) s→wpAny (model P w) A (pyIter (.ref it)) Q E s
abbrev TI:=St→Hp→(It→Hp→Prop)→Prop
def PIE(X:Cx)(pins:List (Addr×Obj))(σ:St)(tg:Expr)(R:It→Hp→Prop)(itv:Value)(s2:Shared):Prop:=
 ∃(it:Addr)(fp:List Addr)(tn:Nat→Heap→Prop)(J:It)(H':Hp),itv=.ref it∧Inv X pins σ H' s2∧Turn X.prog X.w X.K tg J fp it tn∧tn 0 s2.heap∧(∀b∈fp,aJr X pins H' b)∧R J H'
def PI(X:Cx)(tg iter:Expr)(wi:TI):Prop:=
 ∀(pins:List (Addr×Obj))(s:Shared)(σ:St)(H:Hp)(R:It→Hp→Prop),Inv X pins σ H s→wi σ H R→
  wpAny (model X.prog X.w) X.A (eval iter X.env) (fun v s1=>wpAny (model X.prog X.w) X.A (pyIter v) (PIE X pins σ tg R) X.xe s1) X.xe s
theorem aLu{M:Model}{A:Around}{E:Value→Shared→Prop}{s:Shared}{tg:Expr}{it:Addr}{u:Value}{o:Obj}{n:String}{vs:Array Value}{Q:Unit→Shared→Prop}(ho:s.heap.get? it=some o)(hc:o.cls=.type n)(hd:o.data=.fields vs)
  (hn:["enumerate","zip","dict_itemiterator","dict_reverseitemiterator","odict_iterator","itertools.zip_longest","itertools.pairwise"].contains n=false) (hQ:Q () s):wpAny M A (letOwnedTupleGo tg (.ref it) u) Q E s:=by
 unfold letOwnedTupleGo
 cases tg<;>first
  |exact wpAny_pure hQ
  |(cases u<;>first
    |exact wpAny_pure hQ
    |(refine wpAny_bind (wpAny_load ho ?_)
      rw[hc,hd]
      show wpAny M A (if(["enumerate","zip","dict_itemiterator","dict_reverseitemiterator","odict_iterator","itertools.zip_longest","itertools.pairwise"].contains n&&vs[0]?==some (rawInt _))=true then _ else _) Q E s
      rw[ig (by intro h;rw[hn,Mb]at h;cases h)]
      exact wpAny_pure hQ))
def Itl(K:Ad)(a:Addr):It:=
 ⟨fun i H=>∃xs x,SqL K H a xs∧xs[i]?=some x,fun i H x H'=>H'=H∧∀xs,SqL K H a xs→xs[i]?=some x,fun i H=>∃xs,SqL K H a xs∧xs.length≤i⟩
def Itt(K:Ad)(a:Addr):It:=
 ⟨fun i H=>∃xs x,SqT K H a xs∧xs[i]?=some x,fun i H x H'=>H'=H∧∀xs,SqT K H a xs→xs[i]?=some x,fun i H=>∃xs,SqT K H a xs∧xs.length≤i⟩
def Itr(lo:Int)(n:Nat):It:=⟨fun i _=>i<n,fun i H x H'=>H'=H∧x=.int (lo+i),fun i _=>n≤i⟩
theorem aP9{P:Program}{w:World}{K:Ad}{tg:Expr}(a it:Addr):Turn P w K tg (Itl K a) [it] it (fun i h=>h.IsListIter it a i) where
 mem:=by simp
 obj:=fun i h st b hb=>by
  have e:b=it:=by simpa using hb
  subst e
  obtain⟨o,e,c,d⟩:=st
  exact⟨o,e,fun v z=>by rw[d]at z;cases z⟩
 keep:=fun i h h' st k=>st.at fun o e=>k it (by simp) o e
 item:=by
  intro X hP hw hK hc i pins s σ H E I hf st hg
  subst hP hw hK
  obtain⟨xs,x,hq,hx⟩:=hg
  obtain⟨its,rv,p,hz⟩:=I.list hq
  obtain⟨u,hu,ru⟩:=rv.get hx
  obtain⟨f0,f1,f2,f3,f4,f5⟩:=hf it (by simp)
  refine wpAny_pyNext_list_item st p.isList (x:=u) (by simpa using hu) fun h' st' sb=>?_
  have I1:Inv X pins σ H { s with heap:=h' }:=I.turned (t':=s.toks) (fun b o hb e=>(sb.2 b hb).trans e) f0 f1 f3 f4 f5
  obtain⟨o,e,c,d⟩:=id st'
  exact⟨u,rfl,aLu (s:={ s with heap:=h' }) e c d (by decide) ⟨x,H,I1,ru,⟨rfl,fun ys hy=>by rw[I.list_inj hy hq];exact hx⟩,st',fun b hb=>(hf b hb).1⟩⟩
 done:=by
  intro X hP hw hK hc i pins s σ H E I hf st hg
  subst hP hw hK
  obtain⟨xs,hq,hx⟩:=hg
  obtain⟨its,rv,p,hz⟩:=I.list hq
  obtain⟨f0,f1,f2,f3,f4,f5⟩:=hf it (by simp)
  have hl:=rv.length
  exact wpAny_pyNext_list_end (I.ok.hd hc) st p.isList (by simp;omega) fun h' eb=>⟨rfl,I.turned (t':=s.toks) (fun b o hb e=>eb b o hb e) f0 f1 f3 f4 f5⟩
 self:=fun _ _ _ _ _ st h=>wpAny_pyIter_listiter st h
theorem aJo{P:Program}{w:World}{K:Ad}{tg:Expr}(a it:Addr):Turn P w K tg (Itt K a) [it] it (fun i h=>h.IsTupleIter it a i) where
 mem:=by simp
 obj:=fun i h st b hb=>by
  have e:b=it:=by simpa using hb
  subst e
  obtain⟨o,e,c,d⟩:=st
  exact⟨o,e,fun v z=>by rw[d]at z;cases z⟩
 keep:=fun i h h' st k=>st.at fun o e=>k it (by simp) o e
 item:=by
  intro X hP hw hK hc i pins s σ H E I hf st hg
  subst hP hw hK
  obtain⟨xs,x,hq,hx⟩:=hg
  obtain⟨its,rv,p,hz⟩:=I.tuple hq
  obtain⟨u,hu,ru⟩:=rv.get hx
  obtain⟨f0,f1,f2,f3,f4,f5⟩:=hf it (by simp)
  refine wpAny_pyNext_tuple_item st (show s.heap.IsTuple a its.toArray from p) (x:=u) (by simpa using hu) fun h' st' sb=>?_
  have I1:Inv X pins σ H { s with heap:=h' }:=I.turned (t':=s.toks) (fun b o hb e=>(sb.2 b hb).trans e) f0 f1 f3 f4 f5
  obtain⟨o,e,c,d⟩:=id st'
  exact⟨u,rfl,aLu (s:={ s with heap:=h' }) e c d (by decide) ⟨x,H,I1,ru,⟨rfl,fun ys hy=>by rw[I.tuple_inj hy hq];exact hx⟩,st',fun b hb=>(hf b hb).1⟩⟩
 done:=by
  intro X hP hw hK hc i pins s σ H E I hf st hg
  subst hP hw hK
  obtain⟨xs,hq,hx⟩:=hg
  obtain⟨its,rv,p,hz⟩:=I.tuple hq
  obtain⟨f0,f1,f2,f3,f4,f5⟩:=hf it (by simp)
  have hl:=rv.length
  exact wpAny_pyNext_tuple_end (I.ok.hd hc) st (show s.heap.IsTuple a its.toArray from p) (by simp;omega) fun h' eb=>⟨rfl,I.turned (t':=s.toks) (fun b o hb e=>eb b o hb e) f0 f1 f3 f4 f5⟩
 self:=fun _ _ _ _ _ st h=>wpAny_pyIter_tupleiter st h
theorem aJn{P:Program}{w:World}{K:Ad}{tg:Expr}(it:Addr)(lo:Int)(n:Nat):Turn P w K tg (Itr lo n) [it] it (fun i h=>IsRangeIter h it (lo+(i:Nat)*1) ((n:Int)-(i:Nat)) 1) where
 mem:=by simp
 obj:=fun i h st b hb=>by
  have e:b=it:=by simpa using hb
  subst e
  exact⟨_,st,fun v z=>by
   have z':Data.fields _=Data.cell v:=z
   cases z'⟩
 keep:=fun i h h' st k=>k it (by simp) _ st
 item:=by
  intro X hP hw hK hc i pins s σ H E I hf st hg
  subst hP hw hK
  obtain⟨f0,f1,f2,f3,f4,f5⟩:=hf it (by simp)
  have W:=Walks.range (prog:=X.prog) (w:=X.w) (I.ok.hd hc) it lo 1 n
  refine W.item i s _ _ hg st fun v h' tk hv st' kk=>?_
  obtain⟨t,rfl⟩:=hv
  have I1:Inv X pins σ H { s with heap:=h',toks:=tk }:=I.turned (fun b o hb e=>kk b o (by simpa using hb) e) f0 f1 f3 f4 f5
  refine⟨_,rfl,aLu (s:={ s with heap:=h',toks:=tk }) (n:="range_iterator") st' rfl rfl (by decide) ⟨.int (lo+i),H,I1,⟨t,?_⟩,⟨rfl,rfl⟩,st',fun b hb=>(hf b hb).1⟩⟩
  rw[Int.mul_one]
 done:=by
  intro X hP hw hK hc i pins s σ H E I hf st hg
  subst hP hw hK
  obtain⟨f0,f1,f2,f3,f4,f5⟩:=hf it (by simp)
  exact wpAny_pyNext_range_end (I.ok.hd hc) st (by have:n≤i:=hg;omega) fun h' eb=>⟨rfl,I.turned (t':=s.toks) (fun b o hb e=>eb b o hb e) f0 f1 f3 f4 f5⟩
 self:=fun _ _ _ _ _ st h=>wpAny_pyIter_rangeiter st h
section
variable{X:Cx}{tg:Expr}
def bD9(K:Ad)(tl:TE):TI:=fun σ H R=>tl σ H fun x H1=>∃a,x=.ref a∧(∃xs,SqL K H1 a xs)∧R (Itl K a) H1
def aUc(K:Ad)(tl:TE):TI:=fun σ H R=>tl σ H fun x H1=>∃a,x=.ref a∧(∃xs,SqT K H1 a xs)∧R (Itt K a) H1
theorem aWt{l:Expr}{tl:TE}(hl:PE X l tl):PI X tg l (bD9 X.K tl):=by
 intro pins s σ H R I h
 refine thn (hl pins s σ H _ I h) fun v s1 ⟨x,H1,I1,r1,q1⟩=>?_
 obtain⟨a,e,⟨xs,hq⟩,q⟩:=q1
 subst e
 cases r1
 obtain⟨its,rv,p,hz⟩:=I1.list hq
 refine wpAny_pyIter_list p.isList ?_
 refine⟨s1.heap.objs.size,[s1.heap.objs.size],_,_,H1,rfl,I1.kept (t':=s1.toks) fun b o e=>Heap.get?_push_of_some _ e,aP9 a _,⟨_,Heap.get?_push_size _ rfl,rfl,rfl⟩,fun b hb=>?_,q⟩
 have e:b=s1.heap.objs.size:=by simpa using hb
 subst e
 exact I1.fpOk (An _) (I1.hok.fresh (An _))
theorem bB0{l:Expr}{tl:TE}(hl:PE X l tl):PI X tg l (aUc X.K tl):=by
 intro pins s σ H R I h
 refine thn (hl pins s σ H _ I h) fun v s1 ⟨x,H1,I1,r1,q1⟩=>?_
 obtain⟨a,e,⟨xs,hq⟩,q⟩:=q1
 subst e
 cases r1
 obtain⟨its,rv,p,hz⟩:=I1.tuple hq
 refine wpAny_pyIter_tuple (show s1.heap.IsTuple a its.toArray from p) ?_
 refine⟨s1.heap.objs.size,[s1.heap.objs.size],_,_,H1,rfl,I1.kept (t':=s1.toks) fun b o e=>Heap.get?_push_of_some _ e,aJo a _,⟨_,Heap.get?_push_size _ rfl,rfl,rfl⟩,fun b hb=>?_,q⟩
 have e:b=s1.heap.objs.size:=by simpa using hb
 subst e
 exact I1.fpOk (An _) (I1.hok.fresh (An _))
theorem aHg{pins:List (Addr×Obj)}{σ:St}{H:Hp}{s:Shared}{R:It→Hp→Prop}{E:Value→Shared→Prop}{lo hi:Int}{t u v:Tok}{tk:Nat}(I:Inv X pins σ H s)(h1:-(2^62)≤lo)(h2:lo<2^62)(h3:-(2^62)≤hi)(h4:hi<2^62)
  (q:R (Itr lo (hi-lo).toNat) H):wpAny (model X.prog X.w) X.A (pyIter (.ref s.heap.objs.size)) (PIE X pins σ tg R) E { s with heap:=s.heap.push { cls:=.type "range",data:=.fields #[.int lo t,.int hi u,.int 1 v] },toks:=tk }:=by
 refine wpAny_pyIter_range (IsRange.new ..) (small_one h1 h2 h3 h4) ?_
 have I1:Inv X pins σ H { s with heap:=s.heap.push { cls:=.type "range",data:=.fields #[.int lo t,.int hi u,.int 1 v] },toks:=tk }:=I.kept fun b o e=>Heap.get?_push_of_some _ e
 refine⟨(s.heap.push { cls:=.type "range",data:=.fields #[.int lo t,.int hi u,.int 1 v] }).objs.size,[(s.heap.push { cls:=.type "range",data:=.fields #[.int lo t,.int hi u,.int 1 v] }).objs.size],_,_,H,rfl,
  I1.kept (t':=tk) fun b o e=>Heap.get?_push_of_some _ e,aJn _ lo (hi-lo).toNat,?_,fun b hb=>?_,q⟩
 .have e1:lo+((0:Nat):Int)*1=lo:=by simp
  have e2:(((hi-lo).toNat:Nat):Int)-((0:Nat):Int)=Builtin.Range.rangeSize lo hi 1:=by rw[rangeSize_one];split<;>omega
  show IsRangeIter _ _ (lo+((0:Nat):Int)*1) ((((hi-lo).toNat:Nat):Int)-((0:Nat):Int)) 1
  rw[e1,e2]
  exact Heap.get?_push_size _ rfl
 .have e:b=(s.heap.push { cls:=.type "range",data:=.fields #[.int lo t,.int hi u,.int 1 v] }).objs.size:=by simpa using hb
  subst e
  exact I1.fpOk (An _) (I1.hok.fresh (An _))
def bDa(ta:TA):TI:=fun σ H R=>ta σ H fun vs H1=>∃j:Int,vs=[.int j]∧-(2^62)≤j∧j<2^62∧R (Itr 0 j.toNat) H1
def bDb(ta:TA):TI:=fun σ H R=>ta σ H fun vs H1=>∃i j:Int,vs=[.int i,.int j]∧(-(2^62)≤i∧i<2^62∧-(2^62)≤j∧j<2^62)∧R (Itr i (j-i).toNat) H1
theorem aO7{a:Expr}{ta:TA}{p pos:Pos}(hg:Gl X "range")(hm:X.mg "range"=none)(ha:PA X [a] ta)(hs:starEach [a] X.env=[(false,eval a X.env)]:=by rfl):PI X tg (.Call (.Name "range" p) [a] [] pos) (bDa ta):=by
 intro pins s σ H R I h
 refine Call_ (nM I hg hm boot_range (Bp (thn (ha pos pins s σ H _ I h) fun us s1 ⟨vs,H1,I1,r1,q1⟩=>?_) hs rfl))
 obtain⟨j,e,q1,q2,q⟩:=q1
 subst e
 cases r1 with
 |cons r rr=>
  cases rr
  obtain⟨t,rfl⟩:=r
  exact call_range_1 (aHg I1 (by omega) (by omega) q1 q2 (by simpa using q))
theorem aO8{a b:Expr}{ta:TA}{p pos:Pos}(hg:Gl X "range")(hm:X.mg "range"=none)(ha:PA X [a,b] ta)(hs:starEach [a,b] X.env=[(false,eval a X.env),(false,eval b X.env)]:=by rfl)(hs2:starEach [b] X.env=[(false,eval b X.env)]:=by rfl) :
  PI X tg (.Call (.Name "range" p) [a,b] [] pos) (bDb ta):=by
 intro pins s σ H R I h
 refine Call_ (nM I hg hm boot_range (Bp (thn (ha pos pins s σ H _ I h) fun us s1 ⟨vs,H1,I1,r1,q1⟩=>?_) (by rw[hs,hs2]) (by rw[hs2];rfl)))
 obtain⟨i,j,e,⟨q1,q2,q3,q4⟩,q⟩:=q1
 subst e
 cases r1 with
 |cons r rr=>
  cases rr with
  |cons r' rr=>
   cases rr
   obtain⟨t,rfl⟩:=r
   obtain⟨t',rfl⟩:=r'
   exact call_range_2 (aHg I1 q1 q2 q3 q4 q)
def bF9(wi:TI)(g:TG)(tb:TS):TS:=fun D σ H=>wi σ H fun J H1=>∃W:Nat→Nat→St→Hp→Prop,(∃m,W 0 m σ H1)∧∀i m σ H,W i m σ H→
 (J.stop i H∧D.nx σ H)∨(J.go i H∧∃N:St→Hp→Prop,(∀σ' H',N σ' H'→∃m',m'<m∧W (i+1) m' σ' H')∧∀x H',J.yld i H x H'→g x σ H' fun σ2 H2=>tb { D with nx:=N,ct:=N,bk:=D.nx } σ2 H2)
noncomputable def aDa (fp:List Addr) (h:Heap):List (Addr×Obj):=fp.filterMap fun b=>(h.get? b).map fun o=>(b,o)
theorem sD{fp:List Addr}{h:Heap}{b:Addr}{o:Obj}(hb:b∈fp)(e:h.get? b=some o):(b,o)∈aDa fp h:=Km.mpr ⟨b,hb,by rw[e];rfl⟩
theorem aNd{fp:List Addr}{h:Heap}{p:Addr×Obj}(hp:p∈aDa fp h):p.1∈fp∧h.get? p.1=some p.2:=by
 obtain⟨b,hb,e⟩:=Km.mp hp
 cases q:h.get? b with
 |none=>rw[q]at e;cases e
 |some o=>
  rw[q]at e
  have e':(b,o)=p:=A0 e
  subst e'
  exact⟨hb,q⟩
theorem Inv.pinned{pins:List (Addr×Obj)}{σ:St}{H:Hp}{s:Shared}{fp:List Addr}(I:Inv X pins σ H s)(hf:∀b∈fp,aJr X pins H b)(ho:∀b∈fp,∃o,s.heap.get? b=some o∧∀v,o.data≠.cell v):Inv X (pins++aDa fp s.heap) σ H s:=
 I.pins_of fun p hp=>(Ed.mp hp).elim (fun z=>I.pin p (Cw _ z)) fun z=>by
  obtain⟨hb,e⟩:=aNd z
  obtain⟨f0,f1,f2,_⟩:=hf p.1 hb
  obtain⟨o,e',d⟩:=ho p.1 hb
  rw[e]at e';cases e'
  exact⟨e,f0,f1,f2,d⟩
theorem Inv.unpinned{pins pl:List (Addr×Obj)}{σ:St}{H:Hp}{s:Shared}(I:Inv X (pins++pl) σ H s):Inv X pins σ H s:=I.pins_of fun p hp=>I.pin p (Cw _ (He _ hp))
theorem bB7{iter:Expr}{body:List Stmt}{wi:TI}{g:TG}{tb:TS}{pos:Pos}(hp:PassesOwn (model X.prog X.w) X.A X.env X.xe)(hc:X.calm=true)(hi:PI X tg iter wi)(hg:PG X tg g)(hb:PSs X body tb)
  (hs:∀x,foldedSetIterable iter X.env x=pure x:=by intro _;rfl):PS X (.For tg iter body [] pos) (bF9 wi g tb):=by
 intro pins s σ H D I h
 refine wpAny_For (thn (hi pins s σ H _ I h) fun v s1 h1=>thn h1 fun itv s2 h2=>?_) hs
 obtain⟨it,fp,tn,J,H2,e,I2,T,st2,f2,W,⟨m0,w0⟩,turn⟩:=h2
 subst e

 have stat:∀{H':Hp},(∀b∈fp,H' b=none)→∀b∈fp,aJr X pins H' b:=fun hn b hb=>⟨hn b hb,(f2 b hb).2⟩
 refine codeAny_forLoop_any (fun n s'=>∃i σ' H',Inv X pins σ' H' s'∧tn i s'.heap∧(∀b∈fp,H' b=none)∧W i n σ' H') ?_ m0 ⟨0,σ,H2,I2,st2,fun b hb=>(f2 b hb).1,w0⟩
 rintro n s3 ⟨i,σ3,H3,I3,st3,fr3,w3⟩
 rcases turn i n σ3 H3 w3 with⟨stop,qn⟩|⟨go,N,hN,step⟩
 .refine wpAny_passesOwn hp (thn (T.done X rfl rfl rfl hc i pins s3 σ3 H3 X.xe I3 (stat fr3) st3 stop) fun r s4 ⟨hr,I4⟩=>?_)
  subst hr
  exact wpAny_execs_nil ⟨σ3,H3,I4,qn⟩
 .refine wpAny_passesOwn hp (thn (T.item X rfl rfl rfl hc i pins s3 σ3 H3 X.xe I3 (stat fr3) st3 go) fun r s4 ⟨u,hr,h4⟩=>?_)
  subst hr
  refine wpAny_passesOwn hp (thn h4 fun _ s5 ⟨x,H5,I5,r5,y5,st5,fr5⟩=>?_)
  have I5':=I5.pinned (stat fr5) (T.obj _ _ st5)
  refine wpAny_passesOwn hp (thn (hg _ s5 σ3 H5 x u _ I5' r5 (step x H5 y5)) fun _ s6 ⟨σ6,H6,I6,q6⟩=>?_)
  refine wpAny_passesOwn hp (thn (hb _ s6 σ6 H6 _ I6 q6) fun f s7 q7=>?_)
  have again:∀{σ7:St}{H7:Hp},Inv X (pins++aDa fp s5.heap) σ7 H7 s7→N σ7 H7→∃m,m<n∧∃i σ' H',Inv X pins σ' H' s7∧tn i s7.heap∧(∀b∈fp,H' b=none)∧W i m σ' H':=fun{σ7 H7}I7 n7=>by
   obtain⟨m',hm,w7⟩:=hN σ7 H7 n7
   refine⟨m',hm,i+1,σ7,H7,I7.unpinned,T.keep _ _ _ st5 fun b hb o e=>(I7.pin (b,o) (Cw _ (Cw _ (sD hb e)))).1,fun b hb=>?_,w7⟩
   obtain⟨o,e,d⟩:=T.obj _ _ st5 b hb
   exact(I7.pin (b,o) (Cw _ (Cw _ (sD hb e)))).2.1
  cases f with
  |next=>obtain⟨σ7,H7,I7,n7⟩:=q7;exact again I7 n7
  |cont=>obtain⟨σ7,H7,I7,n7⟩:=q7;exact again I7 n7
  |brk=>obtain⟨σ7,H7,I7,q7⟩:=q7;exact⟨σ7,H7,I7.unpinned,q7⟩
  |ret v=>obtain⟨x7,σ7,H7,I7,r7,q7⟩:=q7;exact⟨x7,σ7,H7,I7.unpinned,r7,q7⟩
end
abbrev R2:=V→V→Hp→VK→Prop
def OpR(X:Cx)(f:Value→Value→Sem Value)(r:R2):Prop:=
 ∀(pins:List (Addr×Obj))(s:Shared)(σ:St)(H:Hp)(x y:V)(v u:Value)(Q:VK),Inv X pins σ H s→gX x v→gX y u→r x y H Q→
  wpAny (model X.prog X.w) X.A (f v u) (EP X pins σ Q) X.xe s
def UnR(X:Cx)(f:Value→Sem Value)(r:V→Hp→VK→Prop):Prop:=
 ∀(pins:List (Addr×Obj))(s:Shared)(σ:St)(H:Hp)(x:V)(v:Value)(Q:VK),Inv X pins σ H s→gX x v→r x H Q→
  wpAny (model X.prog X.w) X.A (f v) (EP X pins σ Q) X.xe s
def pS(X:Cx)(f:Value)(r:List V→Hp→VK→Prop):Prop:=
 ∀(pins:List (Addr×Obj))(s:Shared)(σ:St)(H:Hp)(xs:List V)(us:List Value)(Q:VK),Inv X pins σ H s→Vals xs us→r xs H Q→
  wpAny (model X.prog X.w) X.A (call f us) (EP X pins σ Q) X.xe s
def bFa(X:Cx)(r:V→Hp→(Bool→Hp→Prop)→Prop):Prop:=
 ∀(pins:List (Addr×Obj))(s:Shared)(σ:St)(H:Hp)(x:V)(v:Value)(Q:Bool→Hp→Prop),Inv X pins σ H s→gX x v→r x H Q→
  wpAny (model X.prog X.w) X.A (truthy v) (TP X pins σ Q) X.xe s
def tOp(r:R2)(ta tb:TE):TE:=fun σ H Q=>ta σ H fun x H1=>tb σ H1 fun y H2=>r x y H2 Q
def tUn(r:V→Hp→VK→Prop)(ta:TE):TE:=fun σ H Q=>ta σ H fun x H1=>r x H1 Q
def rI(C:Int→Int→Prop)(g:Int→Int→V):R2:=fun x y H Q=>∃i j,x=.int i∧y=.int j∧C i j∧Q (g i j) H
def rI0(g:Int→Int→V):R2:=fun x y H Q=>∃i j,x=.int i∧y=.int j∧Q (g i j) H
def rU(g:Int→V):V→Hp→VK→Prop:=fun x H Q=>∃i,x=.int i∧Q (g i) H
section
variable{X:Cx}{a b c:Expr}{ta tb tc:TE}{pos:Pos}
theorem bCy(ha:PE X a ta)(hb:PE X b tb){pins:List (Addr×Obj)}{s:Shared}{σ:St}{H:Hp}{R:V→V→Hp→Prop}(I:Inv X pins σ H s)
  (h:ta σ H fun x H1=>tb σ H1 fun y H2=>R x y H2) {Q:Value→Shared→Prop} {f:Value→Value→Sem Value}
  (hf:∀v u s2 x y H2,Inv X pins σ H2 s2→gX x v→gX y u→R x y H2→wpAny (model X.prog X.w) X.A (f v u) Q X.xe s2) :
  wpAny (model X.prog X.w) X.A (eval a X.env) (fun v s₁=>wpAny (model X.prog X.w) X.A (eval b X.env) (fun u s₂=>wpAny (model X.prog X.w) X.A (f v u) Q X.xe s₂) X.xe s₁) X.xe s:=by
 refine thn (ha pins s σ H _ I h) fun v s1 ⟨x,H1,I1,r1,q1⟩=>?_
 refine thn (hb pins s1 σ H1 _ I1 q1) fun u s2 ⟨y,H2,I2,r2,q2⟩=>?_
 exact hf v u s2 x y H2 I2 r1 r2 q2
theorem aRr{op:Operator}{r:R2}(ho:OpR X (binaryOp op) r)(ha:PE X a ta)(hb:PE X b tb):PE X (.BinOp a op b pos) (tOp r ta tb):=by
 intro pins s σ H Q I h
 exact wpAny_BinOp (bCy ha hb I h fun v u s2 x y H2 I2 rx ry q=>ho pins s2 σ H2 x y v u Q I2 rx ry q)
theorem bE2{op:UnaryOp}{r:V→Hp→VK→Prop}(ho:UnR X (unaryOp op) r)(ha:PE X a ta):PE X (.UnaryOp op a pos) (tUn r ta):=by
 intro pins s σ H Q I h
 exact UnaryOp_ (thn (ha pins s σ H _ I h) fun v s1 ⟨x,H1,I1,r1,q1⟩=>ho pins s1 σ H1 x v Q I1 r1 q1)
theorem opI{f:Value→Value→Sem Value}{C:Int→Int→Prop}{g:Int→Int→Int}
  (rule:∀(i j:Int)(t u:Tok)(s:Shared)(Q:Value→Shared→Prop)(E:Value→Shared→Prop),C i j→Q (.int (g i j) s.toks) { s with toks:=s.toks+1 }→wpAny (model X.prog X.w) X.A (f (.int i t) (.int j u)) Q E s) :
  OpR X f (rI C fun i j=>.int (g i j)):=by
 intro pins s σ H x y v u Q I rx ry h
 obtain⟨i,j,rfl,rfl,hc,q⟩:=h
 obtain⟨t,rfl⟩:=rx
 obtain⟨t',rfl⟩:=ry
 exact rule i j t t' s _ _ hc ⟨.int (g i j),H,I.tok _,⟨_,rfl⟩,q⟩
theorem bCi{f:Value→Value→Sem Value}{g:Int→Int→Int}
  (rule:∀(i j:Int)(t u:Tok)(s:Shared)(Q:Value→Shared→Prop)(E:Value→Shared→Prop),Q (.int (g i j) s.toks) { s with toks:=s.toks+1 }→wpAny (model X.prog X.w) X.A (f (.int i t) (.int j u)) Q E s) :
  OpR X f (rI0 fun i j=>.int (g i j)):=by
 intro pins s σ H x y v u Q I rx ry h
 obtain⟨i,j,rfl,rfl,q⟩:=h
 obtain⟨t,rfl⟩:=rx
 obtain⟨t',rfl⟩:=ry
 exact rule i j t t' s _ _ ⟨.int (g i j),H,I.tok _,⟨_,rfl⟩,q⟩
theorem bCh{f:Value→Value→Sem Value}{g:Int→Int→Bool}
  (rule:∀(i j:Int)(t u:Tok)(s:Shared)(Q:Value→Shared→Prop)(E:Value→Shared→Prop),Q (.bool (g i j)) s→wpAny (model X.prog X.w) X.A (f (.int i t) (.int j u)) Q E s) :
  OpR X f (rI0 fun i j=>.bl (g i j)):=by
 intro pins s σ H x y v u Q I rx ry h
 obtain⟨i,j,rfl,rfl,q⟩:=h
 obtain⟨t,rfl⟩:=rx
 obtain⟨t',rfl⟩:=ry
 exact rule i j t t' s _ _ ⟨.bl (g i j),H,I,rfl,q⟩
def bEf(i j:Int):Prop:=0<j∧j<1073741824
def aXe(i j:Int):Prop:=(-(2^64)<i∧i<2^64)∨(-(2^64)<j∧j<2^64)
theorem aXe.ok{i j:Int}(h:aXe i j):IntMulOk i j:=by
 rcases h with⟨h1,h2⟩|⟨h1,h2⟩
 .exact .of_left (intBits_le_64 h1 h2)
 .exact .of_right (intBits_le_64 h1 h2)
theorem aH7:OpR X (binaryOp .Add) (rI0 fun i j=>.int (i+j)):=bCi fun _ _ _ _ _ _ _ q=>add_int q
theorem bAs:OpR X (binaryOp .Sub) (rI0 fun i j=>.int (i-j)):=bCi fun _ _ _ _ _ _ _ q=>sub_int q
theorem bAr:OpR X (binaryOp .Mult) (rI aXe fun i j=>.int (i*j)):=opI fun _ _ _ _ _ _ _ hc q=>mul_int q hc.ok
theorem aWl:OpR X (binaryOp .FloorDiv) (rI bEf fun i j=>.int (i/j)):=opI fun i j _ _ _ _ _ hc q=>by
 have h1:(0:Int)<j:=hc.1
 have h2:j<1073741824:=hc.2
 exact floordiv_int (by omega) (by rw[Ib i (by omega)];exact q) (.inl (Gr (by omega)))
theorem bAq:OpR X (binaryOp .Mod) (rI (fun _ j=>0<j) fun i j=>.int (i%j)):=opI fun i j _ _ _ _ _ hc q=>by
 have h1:(0:Int)<j:=hc
 exact mod_int' (by omega) (by rw[Ic i (by omega)];exact q)
theorem aUg:OpR X (inplaceOp .Add) (rI0 fun i j=>.int (i+j)):=bCi fun _ _ _ _ _ _ _ q=>iadd_int q
theorem aUj:OpR X (inplaceOp .Sub) (rI0 fun i j=>.int (i-j)):=bCi fun _ _ _ _ _ _ _ q=>isub_int q
theorem aUi:OpR X (inplaceOp .Mult) (rI aXe fun i j=>.int (i*j)):=opI fun _ _ _ _ _ _ _ hc q=>imul_int q hc.ok
theorem aQd:OpR X (inplaceOp .FloorDiv) (rI bEf fun i j=>.int (i/j)):=opI fun i j _ _ _ _ _ hc q=>by
 have h1:(0:Int)<j:=hc.1
 have h2:j<1073741824:=hc.2
 exact ifloordiv_int (by omega) (by rw[Ib i (by omega)];exact q) (.inl (Gr (by omega)))
theorem aUh:OpR X (inplaceOp .Mod) (rI (fun _ j=>0<j) fun i j=>.int (i%j)):=opI fun i j _ _ _ _ _ hc q=>by
 have h1:(0:Int)<j:=hc
 exact imod_int (by omega) (by rw[Ic i (by omega)];exact q)
theorem unI{f:Value→Sem Value}{g:Int→Int}
  (rule:∀(i:Int)(t:Tok)(s:Shared)(Q:Value→Shared→Prop)(E:Value→Shared→Prop),Q (.int (g i) s.toks) { s with toks:=s.toks+1 }→wpAny (model X.prog X.w) X.A (f (.int i t)) Q E s) :
  UnR X f (rU fun i=>.int (g i)):=by
 intro pins s σ H x v Q I rx h
 obtain⟨i,rfl,q⟩:=h
 obtain⟨t,rfl⟩:=rx
 exact rule i t s _ _ ⟨.int (g i),H,I.tok _,⟨_,rfl⟩,q⟩
theorem bBy:UnR X (unaryOp .USub) (rU fun i=>.int (-i)):=unI fun _ _ _ _ _ q=>neg_int q
end
noncomputable def scal:V→V→Bool
 |.non,.non=>true|.non,.int _=>true|.int _,.non=>true|.non,.bl _=>true|.bl _,.non=>true|.non,.str _=>true|.str _,.non=>true
 |.int _,.int _=>true|.bl _,.bl _=>true|.str _,.str _=>true|.byt _,.byt _=>true
 |.int _,.str _=>true|.str _,.int _=>true|.bl _,.str _=>true|.str _,.bl _=>true
 |_,_=>false
def rEq:R2:=fun x y H Q=>scal x y=true∧Q (.bl (decide (x=y))) H
def rNe:R2:=fun x y H Q=>scal x y=true∧Q (.bl (!decide (x=y))) H
theorem aLf{i j:Int}:decide (V.int i=V.int j)=(i==j):=by
 rw[C8]
 simp
theorem aSm{i j:Bool}:decide (V.bl i=V.bl j)=(i==j):=by
 rw[C8]
 simp
theorem aLg{i j:Str}:decide (V.str i=V.str j)=(i==j):=by
 rw[C8]
 simp
theorem aLe{i j:Array UInt8}:decide (V.byt i=V.byt j)=(i.toList==j.toList):=by
 rw[C8]
 cases i
 cases j
 simp
section
variable{X:Cx}{a b c:Expr}{ta tb tc:TE}{pos:Pos}
theorem cT{pins:List (Addr×Obj)}{σ:St}{H:Hp}{s:Shared}{Q:VK}{k k':Bool}(I:Inv X pins σ H s)(q:Q (.bl k) H)(e:k=k'):EP X pins σ Q (.bool k') s:=by
 subst e
 exact⟨.bl k,H,I,rfl,q⟩
theorem bDu:OpR X (compareOp .Eq) rEq:=by
 intro pins s σ H x y v u Q I rx ry h
 obtain⟨hs,q⟩:=h
 cases x with
 |non=>
  cases rx
  cases y with
  |non=>cases ry;exact PySem.EqNone.eq_none_none (cT I q (by simp))
  |bl j=>cases ry;exact PySem.EqNone.eq_none_bool (cT I q (by simp))
  |int j=>obtain⟨t',rfl⟩:=ry;exact PySem.EqNone.eq_none_int (cT I q (by simp))
  |str j=>obtain⟨t',rfl⟩:=ry;exact PySem.EqNone.eq_none_str (cT I q (by simp))
  |_=>exact absurd (show false=true from hs) A5
 |bl i=>
  cases rx
  cases y with
  |non=>cases ry;exact PySem.EqNone.eq_bool_none (cT I q (by simp))
  |bl j=>cases ry;exact eq_bool (cT I q aSm)
  |str j=>obtain⟨t',rfl⟩:=ry;exact PySem.EqMixed.eq_bool_str (cT I q (by simp))
  |_=>exact absurd (show false=true from hs) A5
 |int i=>
  obtain⟨t,rfl⟩:=rx
  cases y with
  |non=>cases ry;exact PySem.EqNone.eq_int_none (cT I q (by simp))
  |int j=>obtain⟨t',rfl⟩:=ry;exact eq_int (cT I q aLf)
  |str j=>obtain⟨t',rfl⟩:=ry;exact PySem.EqMixed.eq_int_str (cT I q (by simp))
  |_=>exact absurd (show false=true from hs) A5
 |str i=>
  obtain⟨t,rfl⟩:=rx
  cases y with
  |non=>cases ry;exact PySem.EqNone.eq_str_none (cT I q (by simp))
  |bl j=>cases ry;exact PySem.EqMixed.eq_str_bool (cT I q (by simp))
  |int j=>obtain⟨t',rfl⟩:=ry;exact PySem.EqMixed.eq_str_int (cT I q (by simp))
  |str j=>obtain⟨t',rfl⟩:=ry;exact eq_str (cT I q aLg)
  |_=>exact absurd (show false=true from hs) A5
 |byt i=>
  obtain⟨t,rfl⟩:=rx
  cases y with
  |byt j=>obtain⟨t',rfl⟩:=ry;exact PySem.W.eq_bytes (cT I q aLe)
  |_=>exact absurd (show false=true from hs) A5
 |_=>cases y<;>exact absurd (show false=true from hs) A5
theorem bDy:OpR X (compareOp .NotEq) rNe:=by
 intro pins s σ H x y v u Q I rx ry h
 obtain⟨hs,q⟩:=h
 cases x with
 |non=>
  cases rx
  cases y with
  |non=>cases ry;exact PySem.EqNone.ne_none_none (cT I q (by simp))
  |bl j=>cases ry;exact PySem.EqNone.ne_none_bool (cT I q (by simp))
  |int j=>obtain⟨t',rfl⟩:=ry;exact PySem.EqNone.ne_none_int (cT I q (by simp))
  |str j=>obtain⟨t',rfl⟩:=ry;exact PySem.EqNone.ne_none_str (cT I q (by simp))
  |_=>exact absurd (show false=true from hs) A5
 |bl i=>
  cases rx
  cases y with
  |non=>cases ry;exact PySem.EqNone.ne_bool_none (cT I q (by simp))
  |bl j=>cases ry;exact ne_bool (cT I q (congrArg not aSm))
  |str j=>obtain⟨t',rfl⟩:=ry;exact PySem.EqMixed.ne_bool_str (cT I q (by simp))
  |_=>exact absurd (show false=true from hs) A5
 |int i=>
  obtain⟨t,rfl⟩:=rx
  cases y with
  |non=>cases ry;exact PySem.EqNone.ne_int_none (cT I q (by simp))
  |int j=>obtain⟨t',rfl⟩:=ry;exact ne_int (cT I q (congrArg not aLf))
  |str j=>obtain⟨t',rfl⟩:=ry;exact PySem.EqMixed.ne_int_str (cT I q (by simp))
  |_=>exact absurd (show false=true from hs) A5
 |str i=>
  obtain⟨t,rfl⟩:=rx
  cases y with
  |non=>cases ry;exact PySem.EqNone.ne_str_none (cT I q (by simp))
  |bl j=>cases ry;exact PySem.EqMixed.ne_str_bool (cT I q (by simp))
  |int j=>obtain⟨t',rfl⟩:=ry;exact PySem.EqMixed.ne_str_int (cT I q (by simp))
  |str j=>obtain⟨t',rfl⟩:=ry;exact ne_str (cT I q (congrArg not aLg))
  |_=>exact absurd (show false=true from hs) A5
 |byt i=>
  obtain⟨t,rfl⟩:=rx
  cases y with
  |byt j=>obtain⟨t',rfl⟩:=ry;exact PySem.W.ne_bytes (cT I q (congrArg not aLe))
  |_=>exact absurd (show false=true from hs) A5
 |_=>cases y<;>exact absurd (show false=true from hs) A5
theorem bAp:OpR X (compareOp .Lt) (rI0 fun i j=>.bl (decide (i<j))):=bCh fun _ _ _ _ _ _ _ q=>lt_int q
theorem bDx:OpR X (compareOp .LtE) (rI0 fun i j=>.bl (decide (i≤j))):=bCh fun _ _ _ _ _ _ _ q=>le_int q
theorem bDw:OpR X (compareOp .Gt) (rI0 fun i j=>.bl (decide (j<i))):=bCh fun _ _ _ _ _ _ _ q=>gt_int q
theorem bDv:OpR X (compareOp .GtE) (rI0 fun i j=>.bl (decide (j≤i))):=bCh fun _ _ _ _ _ _ _ q=>ge_int q
theorem bAo:OpR X (compareOp .Is) (fun x y H Q=>y=.non∧Q (.bl (decide (x=.non))) H):=by
 intro pins s σ H x y v u Q I rx ry h
 obtain⟨rfl,q⟩:=h
 cases ry
 refine is_none_gen (cT I q ?_)
 cases x<;>first
  |(cases rx;rfl)
  |(obtain⟨t,rfl⟩:=rx;rfl)
theorem OpR.or{f:Value→Value→Sem Value}{r r':R2}(h:OpR X f r)(h':OpR X f r'):OpR X f (fun x y H Q=>r x y H Q∨r' x y H Q):=by
 intro pins s σ H x y v u Q I rx ry q
 rcases q with q|q
 .exact h pins s σ H x y v u Q I rx ry q
 .exact h' pins s σ H x y v u Q I rx ry q
theorem nomark(b:Expr){op:CmpOp}(h:op≠.In:=by decide)(h2:op≠.NotIn:=by decide):behindInMarks op b=false:=by
 have e1:(op==CmpOp.In)=false:=by cases op<;>first|rfl|exact absurd rfl h
 have e2:(op==CmpOp.NotIn)=false:=by cases op<;>first|rfl|exact absurd rfl h2
 cases b<;>simp[behindInMarks,e1,e2]
theorem aWp{op:CmpOp}{r:R2}(ho:OpR X (compareOp op) r)(ha:PE X a ta)(hb:PE X b tb)(hm:behindInMarks op b=false):PE X (.Compare a [op] [b] pos) (tOp r ta tb):=by
 intro pins s σ H Q I h
 exact wpAny_Compare1 (bCy ha hb I h fun v u s2 x y H2 I2 rx ry q=>ho pins s2 σ H2 x y v u Q I2 rx ry q) hm
def bEe(t:TE):TT:=fun σ H Q=>t σ H fun x H'=>∃k,x=.bl k∧Q k H'
theorem aOf{op:CmpOp}{r:R2}(ho:OpR X (compareOp op) r)(ha:PE X a ta)(hb:PE X b tb)(hm:behindInMarks op b=false):PT X (.Compare a [op] [b] pos) (bEe (tOp r ta tb)):=by
 intro pins s σ H Q I h
 refine wpAny_isTrue_Compare1 (thn (ha pins s σ H _ I h) fun v s1 ⟨x,H1,I1,r1,q1⟩=>thn (hb pins s1 σ H1 _ I1 q1) fun u s2 ⟨y,H2,I2,r2,q2⟩=>
  thn (ho pins s2 σ H2 x y v u _ I2 r1 r2 q2) fun c s3 ⟨z,H3,I3,r3,k,e,q3⟩=>?_) hm
 subst e
 cases r3
 exact wpAny_truthy_bool ⟨H3,I3,q3⟩
def bEi(K:Ad)(x:V)(H:Hp)(k:Bool):Prop:=
 match x with
 |.non=>k=false
 |.bl b=>k=b
 |.int i=>k=(i != 0)
 |.str y=>y.length≤sizeLine∧k=((y.length:Int) != 0)
 |.byt y=>y.size≤sizeLine∧k=((y.size:Int) != 0)
 |.ref p=>(∃xs,SqL K H p xs∧k=!xs.isEmpty)∨(∃xs,SqT K H p xs∧k=!xs.isEmpty)∨∃kvs,H p=some (.dK kvs)∧k=!kvs.isEmpty
 |_=>False
theorem aI8{κ:Type}{kvs:List (κ×V)}{vs:List (κ×Value)}(r:KV kvs vs):(!vs.isEmpty)=!kvs.isEmpty:=by
 cases r<;>rfl
theorem yU{xs:List V}{its:List Value}(r:Vals xs its):(!its.toArray.isEmpty)=!xs.isEmpty:=by
 cases r<;>simp
theorem aCo:(sizeLine:Nat)<2^63:=by rw[sizeLine_eq];decide
theorem bBx:bFa X (fun x H Q=>∃k,bEi X.K x H k∧Q k H):=by
 intro pins s σ H x v Q I rx h
 obtain⟨k,e,q⟩:=h
 have hl:=aCo
 have hs:sizeLine=16777216:=sizeLine_eq
 cases x with
 |non=>
  cases rx
  have e':k=false:=e
  subst e'
  exact truthy_none ⟨H,I,q⟩
 |bl b=>
  cases rx
  have e':k=b:=e
  subst e'
  exact wpAny_truthy_bool ⟨H,I,q⟩
 |int i=>
  obtain⟨t,rfl⟩:=rx
  have e':k=(i != 0):=e
  subst e'
  exact PySem.P.truthy_int ⟨H,I,q⟩
 |str y=>
  obtain⟨t,rfl⟩:=rx
  obtain⟨hy,e'⟩:y.length≤sizeLine∧k=((y.length:Int) != 0):=e
  subst e'
  exact PySem.P.truthy_str (by omega) ⟨H,I.tok _,q⟩
 |byt y=>
  obtain⟨t,rfl⟩:=rx
  obtain⟨hy,e'⟩:y.size≤sizeLine∧k=((y.size:Int) != 0):=e
  subst e'
  exact PySem.W.truthy_bytes (by omega) ⟨H,I.tok _,q⟩
 |ref p=>
  cases rx
  have e':(∃xs,SqL X.K H p xs∧k=!xs.isEmpty)∨(∃xs,SqT X.K H p xs∧k=!xs.isEmpty)∨∃kvs,H p=some (.dK kvs)∧k=!kvs.isEmpty:=e
  rcases e' with⟨xs,hx,e'⟩|⟨xs,hx,e'⟩|⟨kvs,hx,e'⟩
  .subst e'
   obtain⟨its,r,pl,hz⟩:=I.list hx
   have hlen:=r.length
   exact wpAny_truthy_list pl.isList (by simp only[Am];omega) ⟨H,I.tok _,by rw[yU r];exact q⟩
  .subst e'
   obtain⟨its,r,pl,hz⟩:=I.tuple hx
   have hlen:=r.length
   exact truthy_tuple pl (by simp only[Am];omega) ⟨H,I.tok _,by rw[yU r];exact q⟩
  .subst e'
   obtain⟨hz,hS,vs,r,m⟩:kvs.length≤sizeLine∧(p==sysModules)=false∧∃vs,KV kvs vs∧s.heap.DictOf (aEz X.prog X.w) p vs:=I.hok p _ hx
   have hlen:kvs.length=vs.length:=Paired.length r
   exact wpAny_truthy_dict hS m (by omega) ⟨H,I.tok _,by rw[aI8 r];exact q⟩
 |_=>exact(show False from e).elim
theorem aRw(ha:PE X a ta)(he:∀whole,isTrue a X.env whole=(do let v ←whole;standAt a.pos;holding [v] (truthy v))) :
  PT X a (fun σ H Q=>ta σ H fun x H'=>∃k,bEi X.K x H' k∧Q k H'):=by
 intro pins s σ H Q I h
 exact isTrue_plain (thn (ha pins s σ H _ I h) fun v s1 ⟨x,H1,I1,r1,q1⟩=>bBx pins s1 σ H1 x v Q I1 r1 q1) (he _)
theorem bC1{x:V}{us:List Value}(r:Vals [x] us):∃u,us=[u]∧gX x u:=by
 cases r with
 |cons r1 r2=>cases r2;exact⟨_,rfl,r1⟩
theorem bC2{x y:V}{us:List Value}(r:Vals [x,y] us):∃u w',us=[u,w']∧gX x u∧gX y w':=by
 cases r with
 |cons r1 r2=>
  cases r2 with
  |cons r3 r4=>cases r4;exact⟨_,_,rfl,r1,r3⟩
theorem aPz:pS X (.builtin "abs") (fun xs H Q=>∃i,xs=[.int i]∧Q (.int (if i<0 then -i else i)) H):=by
 intro pins s σ H xs us Q I r h
 obtain⟨i,rfl,q⟩:=h
 obtain⟨u,rfl,t,rfl⟩:=bC1 r
 exact call_abs_int fun u tk=>⟨.int (if i<0 then -i else i),H,I.tok _,⟨_,rfl⟩,q⟩
theorem aL6(hc:X.calm=true):pS X (.builtin "max") (fun xs H Q=>∃i j,xs=[.int i,.int j]∧Q (.int (if j>i then j else i)) H):=by
 intro pins s σ H xs us Q I r h
 obtain⟨i,j,rfl,q⟩:=h
 obtain⟨u,w',rfl,⟨t,rfl⟩,⟨t',rfl⟩⟩:=bC2 r
 refine max_two_ints (I.ok.hd hc) fun h' tk k=>⟨_,H,I.kept k,?_,q⟩
 by_cases hj:j>i
 .rw[ip hj,ip hj];exact⟨_,rfl⟩
 .rw[ig hj,ig hj];exact⟨_,rfl⟩
theorem aL7(hc:X.calm=true):pS X (.builtin "min") (fun xs H Q=>∃i j,xs=[.int i,.int j]∧Q (.int (if j<i then j else i)) H):=by
 intro pins s σ H xs us Q I r h
 obtain⟨i,j,rfl,q⟩:=h
 obtain⟨u,w',rfl,⟨t,rfl⟩,⟨t',rfl⟩⟩:=bC2 r
 refine min_two_ints (I.ok.hd hc) fun h' tk k=>⟨_,H,I.kept k,?_,q⟩
 by_cases hj:j<i
 .rw[ip hj,ip hj];exact⟨_,rfl⟩
 .rw[ig hj,ig hj];exact⟨_,rfl⟩
end
structure ObjM(h:Heap)(x dx C:Addr)(mA:Str→Option Value):Prop where
 obj:h.get? x=some (Ec C dx)
 ns:h.Ns1 dx mA
 ne:dx≠x
theorem aMe{h:Heap}{dx:Addr}{mA:Str→Option Value}(n:h.Ns1 dx mA):∃od,h.get? dx=some od∧∀name,Ke name od=some (mA name):=by
 obtain⟨o,es,ep,ho,hd,hk,_,hm⟩:=n
 refine⟨o,ho,fun name=>?_⟩
 have e:=hm name
 unfold nsFind findBy at e
 rw[←Array.find?_toList]at e
 unfold Ke
 rw[hd]
 dsimp only
 split
 .rename_i y q
  rw[q]at e
  exact congrArg some e
 .rename_i q
  rw[q]at e
  have a:es.toList.any (·.refKey)=false:=by
   rw[List.any_eq_false]
   intro y hy
   obtain⟨z,t,hkey⟩:=hk y (Array.mem_toList_iff.mp hy)
   simp[DictEntry.refKey,hkey]
  have a':¬es.toList.any (·.refKey)=true:=by rw[a];exact A5
  rw[ig a']
  exact congrArg some e
theorem ObjM.look{h:Heap}{x dx C:Addr}{mA:Str→Option Value}(I:ObjM h x dx C mA):∃od,PySem.W.InstAt h x (Ec C dx) C (some od)∧∀name,Ke name od=some (mA name):=
 let ⟨od,ho,hl⟩:=aMe I.ns
 ⟨od,⟨I.obj,rfl,rfl,ho⟩,hl⟩
section
variable{prog:Program}{w:World}{A:Around}{E:Value→Shared→Prop}{s:Shared}{K:Ad}{x dx C f:Addr}{mA:Str→Option Value}{name:Str}{v:Value}
theorem aUa{expr:Bool}{Q:Value→Shared→Prop}(X:K.In s.heap)(I:ObjM s.heap x dx C mA)(hg:G9 K C name=true)(hh:Gv K C=true)
  (ha:Dm K (.ref C) name=some none) (hv:mA name=some v) (hv':Ll v=true) (h:Q v { s with toks:=s.toks+1 }) :
  wpAny (model prog w) A (getAttr (.ref x) name expr) Q E s:=by
 obtain⟨od,J,hl⟩:=I.look
 exact PySem.W.get_value X J (PySem.W.plainGet_of hg).1 (PySem.W.findObj_own hh ha rfl (by rw[hl,hv])) hv' h
theorem aBs{ns:List Str}{Q:Unit→Shared→Prop}(X:K.In s.heap)(I:ObjM s.heap x dx C mA)
  (hs:Dm K (.ref C) "__setattr__"=some (some (.builtin "object.__setattr__"))) (hp:Ip K C=true) (ht:Jj K C name=some none) (hh:Gv K C=true)
  (hw:Lc mA ns) (hsz:ns.length≤sizeLine)
  (h:∀h',ObjM h' x dx C (fun y=>if y=name then some v else mA y)→Heap.SameBut dx s.heap h'→Q () { s with heap:=h',toks:=s.toks+2 }) :
  wpAny (model prog w) A (setAttr (.ref x) name v) Q E s:=by
 obtain⟨od,J,hl⟩:=I.look
 refine PySem.W.set_plain X J hs (PySem.W.osa_open (s:={ s with toks:=s.toks+1 }) (r:=none) X J hp ht fun b=>?_)
 obtain⟨cd,hc,hd'⟩:=PySem.W.any_some hh
 have hx:s.heap.get? x=some ⟨.ref C,some dx,.plain,#[]⟩:=I.obj
 refine wpAny_bind (wpAny_pure (wpAny_bind (wpAny_bind (wpAny_loadPart hx (wpAny_bind (PySem.W.Looks.here (s:={ s with toks:=s.toks+1 }) (PySem.W.looks_clsIn X hc) ?_))))))
 rw[hd']
 refine wpAny_pure (a:=some dx) (wpAny_bind (wpAny_pure (wpAny_bind ?_)))
 refine wpAny_nsSet1 (s:={ s with toks:=s.toks+1 }) I.ns fun h' hn2 hs2=>?_
 obtain⟨oD,esD,epD,hoD,hdD,hcD⟩:=hn2.count (PySem.Within.cons name v hw)
 refine wpAny_bind (wpAny_lookBehind hoD (by rw[hdD];exact pastItsLine_dict (B7 hcD (by rw[Ar];omega))) ?_)
 exact wpAny_pure (h _ ⟨(hs2.2 _ (Hm I.ne)).trans I.obj,hn2,I.ne⟩ hs2)
theorem aQk{R:Result→Shared→Prop}{vs:List Value}{kw:List (Str×Value)}(X:K.In s.heap)(hm:Jk K C=true)
  (hi:Dm K (.ref C) "__init__"=some (some (.ref f))) (hf:PySem.W.typeIn K (.ref f)=some (.type "function"))
  (h:codeAny (model prog w) (A.under (.builtin "type.__call__" ⟨.ref C::vs,kw⟩)) (.call (.ref f) ⟨.ref (s.heap.objs.size+1)::vs,kw⟩) (PySem.W.InitBack (s.heap.objs.size+1) R)
   { s with heap:=(s.heap.push Dg).push (Ec C s.heap.objs.size) }) :
  codeAny (model prog w) A (.call (.ref C) ⟨vs,kw⟩) R s:=by
 obtain⟨hh,g,d,t,os⟩:=s
 exact PySem.W.make_core (PySem.W.makes_of X hm) (PySem.W.looks_findIn X hi) (fun self=>PySem.W.bind_fn X self hf) (.inl rfl) h
end
noncomputable def uG (f:Str) (v:V):List (Str×V)→List (Str×V)
 |[]=>[(f,v)]
 |(g,x)::r=>if g=f then(g,v)::r else(g,x)::uG f v r
theorem wC(f g:Str)(v:V):∀fs:List (Str×V),(uG f v fs).lookup g=if g=f then some v else fs.lookup g
 |[]=>by
  show E3 g [(f,v)]=_
  by_cases h:g=f
  .have hb:(g==f)=true:=beq_iff_eq.mpr h
   simp only[E3,hb,ip h]
  .have hb:(g==f)=false:=beq_eq_false_iff_ne.mpr h
   simp only[E3,hb,ig h]
 |(k,x)::r=>by
  have ih:=wC f g v r
  rw[show uG f v ((k,x)::r)=(if k=f then(k,v)::r else(k,x)::uG f v r)from rfl]
  by_cases hk:k=f
  .rw[ip hk]
   by_cases h:g=k
   .have hb:(g==k)=true:=beq_iff_eq.mpr h
    simp only[E3,hb,ip (h.trans hk)]
   .have hb:(g==k)=false:=beq_eq_false_iff_ne.mpr h
    simp only[E3,hb,ig (fun e:g=f=>h (e.trans hk.symm))]
  .rw[ig hk]
   by_cases h:g=k
   .have hb:(g==k)=true:=beq_iff_eq.mpr h
    simp only[E3,hb,ig (fun e:g=f=>hk (h.symm.trans e))]
   .have hb:(g==k)=false:=beq_eq_false_iff_ne.mpr h
    simp only[E3,hb]
    exact ih
theorem vY(f:Str)(v:V):∀fs:List (Str×V),f∈(uG f v fs).map (·.1)∧∀g,g∈fs.map (·.1)→g∈(uG f v fs).map (·.1)
 |[]=>⟨by simp[uG],fun g h=>by simp at h⟩
 |(k,x)::r=>by
  obtain⟨i1,i2⟩:=vY f v r
  rw[show uG f v ((k,x)::r)=(if k=f then(k,v)::r else(k,x)::uG f v r)from rfl]
  by_cases hk:k=f
  .rw[ip hk]
   subst hk
   exact⟨by simp,fun g h=>by simpa using h⟩
  .rw[ig hk]
   refine⟨?_,fun g h=>?_⟩
   .rw[Ai]
    exact A4 _ i1
   .rw[Ai]at h ⊢
    rcases A1.mp h with e|e
    .exact A1.mpr (.inl e)
    .exact A4 _ (i2 g e)
theorem wB(f:Str)(v:V):∀fs:List (Str×V),(uG f v fs).length≤fs.length+1
 |[]=>by simp[uG]
 |(k,x)::r=>by
  have ih:=wB f v r
  rw[show uG f v ((k,x)::r)=(if k=f then(k,v)::r else(k,x)::uG f v r)from rfl]
  by_cases hk:k=f
  .rw[ip hk,Ar,Ar];omega
  .rw[ig hk,Ar,Ar];omega
theorem aTl.some_of{v:V}{o:Option Value}(r:aTl (some v) o):∃u,o=some u∧gX v u:=by
 cases o with
 |none=>exact(show False from r).elim
 |some u=>exact⟨u,rfl,r⟩
theorem aM0{v:V}{u:Value}(r:gX v u):Ll u=true:=by
 cases v with
 |non=>cases(show u=Value.none from r);rfl
 |bl b=>cases(show u=Value.bool b from r);rfl
 |int i=>obtain⟨t,e⟩:=(show ∃t,u=Value.int i t from r);cases e;rfl
 |str x=>obtain⟨t,e⟩:=(show ∃t,u=Value.str x t from r);cases e;rfl
 |byt b=>obtain⟨t,e⟩:=(show ∃t,u=Value.bytes b t from r);cases e;rfl
 |flt b=>obtain⟨t,e⟩:=(show ∃t,u=Value.float b t from r);cases e;rfl
 |ref a=>cases(show u=Value.ref a from r);rfl
 |ty n=>cases(show u=Value.type n from r);rfl
section
variable{P:Program}{w:World}{H H':Hp}{h h':Heap}{a C dx:Addr}{fs fs':List (Str×V)}
theorem aM4(hok:HOk P w H h)(e:H a=some (.ins C dx fs)):∃mA,ObjM h a dx C mA∧(∀f,aTl (fs.lookup f) (mA f))∧Lc mA (fs.map (·.1))∧fs.length≤1000∧H dx=some (.own a):=by
 obtain⟨d,z,ne,ob,mA,n,r,q⟩:=(show mT P w H h a (.ins C dx fs)from hok a _ e)
 exact⟨mA,⟨ob,n,ne⟩,r,q,z,d⟩
end
structure Cls(K:Ad)(C:Addr):Prop where
 pg:G9 K C Str.empty=true
 hd:Gv K C=true
 po:Ip K C=true
 sa:Dm K (.ref C) "__setattr__"=some (some (.builtin "object.__setattr__"))
theorem Cls.get{K:Ad}{C:Addr}(c:Cls K C)(f:Str):G9 K C f=true:=c.pg
def oG(K:Ad)(C:Addr)(f:Str):Prop:=Dm K (.ref C) f=some none
theorem oG.taker{K:Ad}{C:Addr}{f:Str}(n:oG K C f):Jj K C f=some none:=by
 unfold Jj
 rw[show Dm K (.ref C) f=some none from n]
 rfl
section
variable{X:Cx}{pins:List (Addr×Obj)}{σ:St}{H:Hp}{s:Shared}{a C dx:Addr}{fs:List (Str×V)}{f:Str}{v:V}{A:Around}{E:Value→Shared→Prop}
theorem aI3{b:Bool}{Q:Value→Shared→Prop}(I:Inv X pins σ H s)(e:H a=some (.ins C dx fs))(c:Cls X.K C)(n:oG X.K C f)(l:fs.lookup f=some v)
  (h:∀u s',Inv X pins σ H s'→gX v u→Q u s'):wpAny (model X.prog X.w) A (getAttr (.ref a) f b) Q E s:=by
 obtain⟨mA,O,r,_,_,_⟩:=aM4 I.hok e
 obtain⟨u,hu,ru⟩:=aTl.some_of (v:=v) (o:=mA f) (by rw[←l];exact r f)
 exact aUa I.kIn O (c.get f) c.hd n hu (aM0 ru) (h u _ (I.tok _) ru)
theorem aJg{y:V}{u:Value}{Q:Unit→Shared→Prop}(I:Inv X pins σ H s)(e:H a=some (.ins C dx fs))(c:Cls X.K C)(n:oG X.K C f)(hl:fs.length<1000)(ry:gX y u)
  (h:∀s',Inv X pins σ (upd H a (.ins C dx (uG f y fs))) s'→Q () s'):wpAny (model X.prog X.w) A (setAttr (.ref a) f u) Q E s:=by
 obtain⟨mA,O,r,wi,_,ho⟩:=aM4 I.hok e
 have hz:(fs.map (·.1)).length≤sizeLine:=by rw[Ag,sizeLine_eq];omega
 refine aBs I.kIn O c.sa c.po n.taker c.hd wi hz fun h' O' sb=>h _ ?_
 have hd:∃o,h'.get? dx=some o:=let ⟨o,_,_,e',_⟩:=O'.ns;⟨o,e'⟩
 refine I.write (x:=a) (e:=dx) (by rw[e];exact True.intro) (.inr ho) (fun b q hb z=>(sb.2 b hb).trans z) hd ?_
 refine⟨by rw[aU O.ne];exact ho,?_,O.ne,O'.obj,_,O'.ns,fun g=>?_,fun g hg=>?_⟩
 .have:=wB f y fs;omega
 .show aTl ((uG f y fs).lookup g) (if g=f then some u else mA g)
  rw[wC]
  by_cases q:g=f
  .rw[ip q,ip q];exact ry
  .rw[ig q,ig q];exact r g
 .by_cases q:g=f
  .rw[q];exact(vY f y fs).1
  .refine(vY f y fs).2 g (wi g fun z=>hg ?_)
   show(if g=f then some u else mA g)=none
   rw[ig q];exact z
theorem Inv.made(I:Inv X pins σ H s):Inv X pins σ (upd (upd H s.heap.objs.size (.own (s.heap.objs.size+1))) (s.heap.objs.size+1) (.ins C s.heap.objs.size []))
  { s with heap:=(s.heap.push Dg).push (Ec C s.heap.objs.size) }:=by
 have e1:(s.heap.push Dg).get? s.heap.objs.size=some Dg:=Heap.get?_push_size s.heap rfl
 have e2:((s.heap.push Dg).push (Ec C s.heap.objs.size)).get? (s.heap.objs.size+1)=some (Ec C s.heap.objs.size):=by
  have:=Heap.get?_push_size (s.heap.push Dg) (o:=Ec C s.heap.objs.size) rfl
  rwa [Heap.size_push]at this
 have e3:(s.heap.push Dg).Ns s.heap.objs.size (fun _=>none):=⟨Dg,#[],_,e1,rfl,(fun e he=>absurd he (by simp)),fun _=>rfl⟩
 have I1:=I.laid (a:=s.heap.objs.size) (o:=.own (s.heap.objs.size+1)) (h':=s.heap.push Dg) (t':=s.toks) (fun b u q=>Heap.get?_push_of_some _ q) (An _) ⟨_,e1⟩
 refine I1.laid (a:=s.heap.objs.size+1) (o:=.ins C s.heap.objs.size []) (t':=s.toks) (fun b u q=>Heap.get?_push_of_some _ q) (Jl (Heap.size_push _ _)) ?_
 have ne:s.heap.objs.size≠s.heap.objs.size+1:=Cv (Fb _)
 refine⟨by rw[aU ne,bG],E4 _,ne,e2,fun _=>none,(Heap.Ns1.of_empty e3).at fun o q=>Heap.get?_push_of_some _ q,fun _=>True.intro,fun y hy=>absurd rfl hy⟩
theorem aTr{prog:Program}{w:World}{env:Env}{e:Expr}{f:Str}{pos:Pos}{s:Shared}{Q:Value→Shared→Prop}(hb:attributeBase e f env (eval e env)=eval e env)
  (h:wpAny (model prog w) A (eval e env) (fun o s₁=>wpAny (model prog w) A (getAttr o f true) Q E s₁) E s):wpAny (model prog w) A (eval (.Attribute e f pos) env) Q E s:=
 Attribute_any_ h (by rw[arm_eval_Attribute,hb])
end
def bCk(K:Ad)(ta:TE)(f:Str):TE:=fun σ H Q=>ta σ H fun x H1=>∃a C dx fs v,x=.ref a∧H1 a=some (.ins C dx fs)∧Cls K C∧oG K C f∧fs.lookup f=some v∧Q v H1
def bE7(K:Ad)(ta tv:TE)(f:Str):TS:=fun D σ H=>tv σ H fun y H1=>ta σ H1 fun x H2=>∃a C dx fs,x=.ref a∧H2 a=some (.ins C dx fs)∧Cls K C∧oG K C f∧fs.length<1000 ∧
 D.nx σ (upd H2 a (.ins C dx (uG f y fs)))
section
variable{X:Cx}{o e value:Expr}{f:Str}{pos pos' tpos:Pos}{ta tv:TE}
theorem aH9(he:PE X e ta)(hb:attributeBase e f X.env (eval e X.env)=eval e X.env):PE X (.Attribute e f pos) (bCk X.K ta f):=by
 intro pins s σ H Q I h
 refine aTr hb (thn (he pins s σ H _ I h) fun u s1 ⟨x,H1,I1,rx,a,C,dx,fs,v,ex,ea,c,n,l,q⟩=>?_)
 subst ex
 obtain rfl:u=Value.ref a:=rx
 exact aI3 I1 ea c n l fun u' s2 I2 ru=>⟨v,H1,I2,ru,q⟩
theorem aHd(ha:PE X o ta)(hv:PE X value tv)(hs:swapsWith value (some (.Attribute o f pos')) pos.line X.env=pure false):PS X (.Assign [.Attribute o f pos'] value pos) (bE7 X.K ta tv f):=by
 intro pins s σ H D I h
 refine plainObj_wpAny_Assign_Attribute (thn (hv pins s σ H _ I h) fun u s1 ⟨y,H1,I1,ry,q⟩=>thn (ha pins s1 σ H1 _ I1 q) fun ov s2 ⟨x,H2,I2,rx,a,C,dx,fs,ex,ea,c,n,l,q2⟩=>?_) hs
 subst ex
 obtain rfl:ov=Value.ref a:=rx
 exact aJg I2 ea c n l ry fun s3 I3=>⟨σ,_,I3,q2⟩
end
section
variable{X:Cx}{pins:List (Addr×Obj)}{σ:St}{H:Hp}{s:Shared}{A:Around}{E:Value→Shared→Prop}{Q:Value→Shared→Prop}{c:Value}{b:Bool}
end
structure Room(k:Nat)(A:Around):Prop where
 hd:A.handled=none
 dp:A.depth+3*k+5<recursionLimit
 un:A.units+16*k+200<cLine
theorem Room.mono{j k:Nat}{A:Around}(r:Room k A)(h:j≤k):Room j A:=⟨r.hd,by have:=r.dp;omega,by have:=r.un;omega⟩
theorem Room.deeper{k:Nat}{A:Around}(r:Room (k+1) A)(env:Env):Room k (A.deeper env):=
 ⟨r.hd,by have:=r.dp;show A.depth+1+3*k+5<_;omega,by have:=r.un;show A.units+3+16*k+200<_;omega⟩
theorem aIc{A:Around}{C:Addr}{us:List Value}{kw:List (Str×Value)}:(A.under (.builtin "type.__call__" ⟨.ref C::us,kw⟩)).depth=A.depth+1:=by
 first|rfl|simp[Around.under,Code.weight,Code.isCreation,Code.isGuard,Code.isCaller,Code.frames,Code.isFrame,guardIds]
theorem aId{A:Around}{C:Addr}{us:List Value}{kw:List (Str×Value)}:(A.under (.builtin "type.__call__" ⟨.ref C::us,kw⟩)).units=A.units+1:=by
 first|rfl|simp[Around.under,Code.cUnits,Code.frames,Code.isFrame]
theorem Room.make{k:Nat}{A:Around}(r:Room (k+1) A)(C:Addr)(us:List Value)(kw:List (Str×Value)):Room k (A.under (.builtin "type.__call__" ⟨.ref C::us,kw⟩)):=
 ⟨r.hd,by have:=r.dp;rw[aIc];omega,by have:=r.un;rw[aId];omega⟩
theorem Room.depth{k:Nat}{A:Around}(r:Room k A):A.depth<recursionLimit:=by have:=r.dp;omega
theorem Room.units{k:Nat}{A:Around}(r:Room k A):A.units+64<cLine:=by have:=r.un;omega
def bCl:TA:=fun _ H Q=>Q [] H
def aXb(ta:TE)(tr:TA):TA:=fun σ H Q=>ta σ H fun x H1=>tr σ H1 fun xs H2=>Q (x::xs) H2
section
variable{X:Cx}{e:Expr}{es:List Expr}{te:TE}{t:TA}{pos:Pos}
theorem tG:PA X [] bCl:=fun _ _ _ _ H Q I h=>Calls.spliced_nil ⟨[],H,I,.nil,h⟩
theorem lF(ha:PE X e te)(hr:PA X es t)(hs:starEach (e::es) X.env=(false,eval e X.env)::starEach es X.env:=by rfl):PA X (e::es) (aXb te t):=by
 intro pos pins s σ H Q I h
 rw[hs]
 show wpAny _ _ (spliced ((false,eval e X.env)::backTo pos (starEach es X.env))) _ _ s
 refine Calls.spliced_cons (thn (ha pins s σ H _ I h) fun u s1 ⟨x,H1,I1,r1,q1⟩=>?_)
 exact thn (hr pos pins s1 σ H1 _ I1 q1) fun us s2 ⟨xs,H2,I2,r2,q2⟩=>⟨x::xs,H2,I2,.cons r1 r2,q2⟩
def bH9(t:TA):TE:=fun σ H Q=>t σ H fun xs H1=>xs.length≤sizeLine∧∀p,H1 p=none→Q (.ref p) (upd H1 p (.tup xs))
def bH5(t:TA):TE:=fun σ H Q=>t σ H fun xs H1=>xs.length≤sizeLine∧∀p,H1 p=none→Q (.ref p) (upd H1 p (.lst xs))
theorem bAx{x1}(h:PA X es t):PE X (.Tuple es x1 pos) (bH9 t):=by
 intro pins s σ H Q I hq
 refine wpAny_Tuple_spliced (thn (h pos pins s σ H _ I hq) fun us s1 ⟨xs,H1,I1,r,z,q⟩=>⟨by rw[←r.length];exact z,?_⟩)
 have hf:H1 s1.heap.objs.size=none:=I1.hok.fresh (An _)
 refine⟨.ref s1.heap.objs.size,upd H1 s1.heap.objs.size (.tup xs),I1.laid (t':=s1.toks) (fun b u e=>Heap.get?_push_of_some _ e) (An _) ?_,rfl,q _ hf⟩
 exact⟨z,us,r,⟨_,Heap.get?_push_size _ rfl,rfl,_,rfl⟩⟩
theorem aO4(h:PA X es t):PE X (.List es pos) (bH5 t):=by
 intro pins s σ H Q I hq
 refine wpAny_List_spliced (thn (h pos pins s σ H _ I hq) fun us s1 ⟨xs,H1,I1,r,z,q⟩=>⟨by rw[←r.length];exact z,?_⟩)
 have hf:H1 s1.heap.objs.size=none:=I1.hok.fresh (An _)
 refine⟨.ref s1.heap.objs.size,upd H1 s1.heap.objs.size (.lst xs),I1.laid (t':=s1.toks) (fun b u e=>Heap.get?_push_of_some _ e) (An _) ?_,rfl,q _ hf⟩
 exact⟨z,us,0,r,Heap.get?_push_size _ rfl⟩
end
abbrev Sp:=List V→Hp→VK→XK→Prop
abbrev CXT:=List Env→Hp→Shared→XK→Value→Shared→Prop
structure Env0(P:Program)(w:World)(K:Ad)(mg:Str→Option Value)(base:Heap)(A:Around)(outer:List Env)(s:Shared)(H:Hp):Prop where
 frames:A.frames=some outer
 mod:Mod K mg base
 bs:∀b o,base.get? b=some o→s.heap.get? b=some o∧H b=none
 bsz:base.objs.size≤s.heap.objs.size
 funs:s.heap.FunFrames base outer
 frf:∀b∈frs outer,H b=none
 hok:HOk P w H s.heap
 bare:AllBare s.gens
def CE(outer:List Env)(P:Program)(w:World)(H:Hp)(s:Shared)(Q:VK)(u:Value)(s':Shared):Prop:=
 ∃v H',s'.os=s.os∧AllBare s'.gens∧Un (frs outer) [] H H' s.heap s'.heap∧HOk P w H' s'.heap∧gX v u∧Q v H'
def CR(CX:CXT)(outer:List Env)(P:Program)(w:World)(H:Hp)(s:Shared)(Q:VK)(E:XK)(r:Result)(s':Shared):Prop:=
 match r with
 |.ok (.ret u)=>CE outer P w H s Q u s'
 |.ok _=>False
 |.error e=>CX outer H s E e s'
structure FnOk(P:Program)(w:World)(K:Ad)(mg:Str→Option Value)(base:Heap)(CX:CXT)(k:Nat)(f:Addr)(fd:FuncData)(ps:List Str)(sp:Sp):Prop where
 len:∀vs H Q E,sp vs H Q E→vs.length=ps.length
 run:∀(A:Around)(outer:List Env)(s:Shared)(H:Hp)(args:Args)(us:List Value)(vs:List V)(Q:VK)(E:XK),Room k A→Env0 P w K mg base A outer s H→BindsTo s fd args (ps.zip us)→Vals vs us→sp vs H Q E→
  codeAny (model P w) A (.call (.ref f) args) (CR CX outer P w H s Q E) s
theorem FnOk.mono{P:Program}{w:World}{K:Ad}{mg:Str→Option Value}{base:Heap}{CX:CXT}{j k:Nat}{f:Addr}{fd:FuncData}{ps:List Str}{sp:Sp}(F:FnOk P w K mg base CX j f fd ps sp)(h:j≤k) :
  FnOk P w K mg base CX k f fd ps sp:=⟨F.len,fun A outer s H args us vs Q E hr=>F.run A outer s H args us vs Q E (hr.mono h)⟩
theorem Env0.make{P:Program}{w:World}{K:Ad}{mg:Str→Option Value}{base:Heap}{A:Around}{outer:List Env}{s:Shared}{H:Hp}(e:Env0 P w K mg base A outer s H)(C:Addr)(us:List Value)(kw:List (Str×Value)) :
  Env0 P w K mg base (A.under (.builtin "type.__call__" ⟨.ref C::us,kw⟩)) outer s H:=⟨by first|exact e.frames|(simpa[Around.under,Code.envs,Code.isFrame,pushEnvs]using e.frames),e.mod,e.bs,e.bsz,e.funs,e.frf,e.hok,e.bare⟩
section
variable{X:Cx}{pins:List (Addr×Obj)}{σ:St}{H:Hp}{s s':Shared}
theorem Inv.env0(I:Inv X pins σ H s):Env0 X.prog X.w X.K X.mg X.base X.A X.stack s H:=
 ⟨I.ok.frames,I.ok.mod,I.bs,B7 I.ok.bsz I.sz,I.stack,I.stkFree,I.hok,I.bare⟩
theorem Inv.after{Q:VK}{u:Value}(I:Inv X pins σ H s)(h:CE X.stack X.prog X.w H s Q u s'):EP X pins σ Q u s':=by
 obtain⟨v,H',os,bare,un,hok,r,q⟩:=h
 obtain⟨hh,g,d,t,os'⟩:=s'
 obtain rfl:os'=s.os:=os
 exact⟨v,H',I.call (h':=hh) (g':=g) (d':=d) (t':=t) (ch:=[]) un hok bare (fun b z=>absurd z (by simp)),r,q⟩
end
def aP2(sp:Sp)(dvs:List V)(E:XK)(t:TA):TE:=fun σ H Q=>t σ H fun vs H1=>sp (vs++dvs) H1 Q E
def bEa(C:Addr)(sp:Sp)(dvs:List V)(E:XK)(t:TA):TE:=fun σ H Q=>t σ H fun vs H1=>∀x dx,H1 x=none→H1 dx=none→dx≠x→
 sp (.ref x::(vs++dvs)) (upd (upd H1 dx (.own x)) x (.ins C dx [])) (fun v H2=>v=.non∧Q (.ref x) H2) E
def Binds(K:Ad)(fd:FuncData)(ps:List Str)(ds:List Value):Prop:=
 ∀(s:Shared)(us:List Value),K.In s.heap→(us++ds).length=ps.length→BindsTo s fd ⟨us,[]⟩ (ps.zip (us++ds))
theorem Binds.all{K:Ad}{fd:FuncData}{ps:List Str}(h:∀us:List Value,us.length=ps.length→bindArgs fd ⟨us,[]⟩=pure (ps.zip us)):Binds K fd ps []:=fun s us _ hl=>by
 rw[Co]at hl ⊢
 exact .of_eq (h us hl)
def Passes(CX:CXT)(X:Cx)(E:XK):Prop:=∀(pins:List (Addr×Obj))(σ:St)(H:Hp)(s:Shared)(e:Value)(s':Shared),Inv X pins σ H s→CX X.stack H s E e s'→X.xe e s'
section
variable{X:Cx}{CX:CXT}{k:Nat}{f C:Addr}{fd:FuncData}{ps:List Str}{sp:Sp}{dvs:List V}{ds:List Value}{E:XK}{x m:Str}{p pos apos:Pos}{e o:Expr}{es:List Expr}{ta:TE}{t:TA}
theorem aOq{pins:List (Addr×Obj)}{σ:St}{H:Hp}{s:Shared}{Q:VK}{us:List Value}{vs:List V}(F:FnOk X.prog X.w X.K X.mg X.base CX k f fd ps sp)(hr:Room k X.A)(hb:Binds X.K fd ps ds)(hd:Vals dvs ds)(hx:Passes CX X E)
  (I:Inv X pins σ H s) (r:Vals vs us) (h:sp (vs++dvs) H Q E):wpAny (model X.prog X.w) X.A (call (.ref f) us) (EP X pins σ Q) X.xe s:=by
 have r2:Vals (vs++dvs) (us++ds):=r.append hd
 have hl:(us++ds).length=ps.length:=by rw[←r2.length];exact F.len _ _ _ _ h
 refine wpAny_call (codeAny_mono (F.run X.A X.stack s H ⟨us,[]⟩ (us++ds) (vs++dvs) Q E hr I.env0 (hb s us I.kIn hl) r2 h) fun r s' hq=>?_)
 cases r with
 |error e=>exact hx pins σ H s e s' I hq
 |ok fl=>
  cases fl with
  |ret u=>exact I.after hq
  |next=>exact Dz hq
  |brk=>exact Dz hq
  |cont=>exact Dz hq
theorem aFm(F:FnOk X.prog X.w X.K X.mg X.base CX k f fd ps sp)(hr:Room k X.A)(hg:Gl X x)(hm:X.mg x=some (.ref f))(hk:Bl X.K (.ref f)=true)(hb:Binds X.K fd ps ds)(hd:Vals dvs ds)(hx:Passes CX X E)
  (ha:PA X (e::es) t) (hdb:(x==("__debug__":Str))=false:=by decide) (he:starEach (e::es) X.env=(false,eval e X.env)::starEach es X.env:=by rfl) (hpl:(backTo pos (starEach es X.env)).any (·.1)=false:=by rfl) :
  PE X (.Call (.Name x p) (e::es) [] pos) (aP2 sp dvs E t):=by
 intro pins s σ H Q I h
 refine wpAny_Call_Name_kw (aAh I hg hm ?_ hdb)
 refine Kn (h₀:=X.base) I.ok.mod.kin hk (thn (ha pos pins s σ H _ I h) fun us s1 ⟨vs,H1,I1,r,q⟩=>⟨I1.kIn,?_⟩) he hpl
 exact aOq F hr hb hd hx I1 r q
theorem aRo(F:FnOk X.prog X.w X.K X.mg X.base CX k f fd ps sp)(hr:Room k X.A)(hg:Gl X x)(hm:X.mg x=some (.ref f))(hk:Bl X.K (.ref f)=true)(hb:Binds X.K fd ps ds)(hd:Vals dvs ds)(hx:Passes CX X E)
  (hdb:(x==("__debug__":Str))=false:=by decide):PE X (.Call (.Name x p) [] [] pos) (aP2 sp dvs E bCl):=by
 intro pins s σ H Q I h
 refine wpAny_Call_Name_kw (aAh I hg hm ?_ hdb)
 exact Kh I.kIn hk (aOq (us:=[]) F hr hb hd hx I .nil h)
structure Mk(K:Ad)(C f:Addr):Prop where
 makes:Jk K C=true
 init:Dm K (.ref C) "__init__"=some (some (.ref f))
 fn:Of K (.ref f)=true
 kp:Bl K (.ref C)=true
theorem aS0{pins:List (Addr×Obj)}{σ:St}{H:Hp}{s:Shared}{Q:VK}{us:List Value}{vs:List V}(M:Mk X.K C f)(F:FnOk X.prog X.w X.K X.mg X.base CX k f fd ps sp)(hr:Room (k+1) X.A)(hb:Binds X.K fd ps ds)(hd:Vals dvs ds)
  (hx:Passes CX X E) (I:Inv X pins σ H s) (r:Vals vs us)
  (h:∀x dx,H x=none→H dx=none→dx≠x→sp (.ref x::(vs++dvs)) (upd (upd H dx (.own x)) x (.ins C dx [])) (fun v H2=>v=.non∧Q (.ref x) H2) E) :
  wpAny (model X.prog X.w) X.A (call (.ref C) us) (EP X pins σ Q) X.xe s:=by
 have hq:=h (s.heap.objs.size+1) s.heap.objs.size (I.hok.fresh (Ki _)) (I.hok.fresh (An _)) (Cv (Fb _))
 have I2:=Inv.made (C:=C) I
 have r2:Vals (V.ref (s.heap.objs.size+1)::(vs++dvs)) (Value.ref (s.heap.objs.size+1)::(us++ds)):=.cons rfl (r.append hd)
 have hl:(Value.ref (s.heap.objs.size+1)::us++ds).length=ps.length:=by
  have e:=r2.length
  rw[F.len _ _ _ _ hq]at e
  exact e.symm
 refine wpAny_call (aQk (f:=f) I.kIn M.makes M.init (beq_iff_eq.mp M.fn) (codeAny_mono (F.run _ X.stack _ _ ⟨Value.ref (s.heap.objs.size+1)::us,[]⟩ (Value.ref (s.heap.objs.size+1)::(us++ds)) _ _ E (hr.make C us [])
  (I2.env0.make C us []) (hb _ (Value.ref (s.heap.objs.size+1)::us) I2.kIn hl) r2 hq) fun r s' hq'=>?_))
 cases r with
 |error e=>exact hx pins σ _ _ e s' I2 hq'
 |ok fl=>
  cases fl with
  |ret u=>
   obtain⟨v,H',I3,rv,ev,q3⟩:=I2.after hq'
   subst ev
   exact⟨rv,⟨V.ref (s.heap.objs.size+1),H',I3,rfl,q3⟩⟩
  |next=>exact Dz hq'
  |brk=>exact Dz hq'
  |cont=>exact Dz hq'
theorem aRq(M:Mk X.K C f)(F:FnOk X.prog X.w X.K X.mg X.base CX k f fd ps sp)(hr:Room (k+1) X.A)(hg:Gl X x)(hm:X.mg x=some (.ref C))(hb:Binds X.K fd ps ds)(hd:Vals dvs ds)(hx:Passes CX X E)
  (hdb:(x==("__debug__":Str))=false:=by decide):PE X (.Call (.Name x p) [] [] pos) (bEa C sp dvs E bCl):=by
 intro pins s σ H Q I h
 refine wpAny_Call_Name_kw (aAh I hg hm ?_ hdb)
 exact Kh I.kIn M.kp (aS0 (us:=[]) M F hr hb hd hx I .nil h)
end
section
variable{X:Cx}{CX:CXT}{k:Nat}{f C:Addr}{fd:FuncData}{ps ks:List Str}{sp:Sp}{E:XK}{x m:Str}{p pos apos kpos:Pos}{e o:Expr}{es:List Expr}{kws:List Keyword}{te ta:TE}{t tk:TA}{nm:Option Str}
variable{g:List Value→List Value→List Value}{gV:List V→List V→List V}
end
structure FnScope(N P:List Str)(sc:Scope):Prop where
 kind:sc.kind=.function
 co:sc.isCoroutine=false
 gen:sc.isGenerator=false
 nd:N.Nodup
 pre:N.take P.length=P
 par:∀x∈P,sc.names.lookup x=some .local∨sc.names.lookup x=some .cell
 nofree:∀y∈sc.names,y.2≠.free
theorem aCa{kindOf:Str→Option NameKind}{x:Str}:∀{binds:List (Str×Value)}{m:Str→Option Value},(∀v,(x,v)∉binds)→bindL kindOf binds m x=m x
 |[],_,_=>rfl
 |(n,v)::r,m,h=>by
  unfold bindL
  rw[aCa fun w hw=>h w (A4 _ hw)]
  split
  .have:x≠n:=by rintro rfl;exact h v Bu
   simp[this]
  .rfl
theorem aC8{kindOf:Str→Option NameKind}{x:Str}:∀{binds:List (Str×Value)}{m:Str→Option Value},(∀v,(x,v)∉binds)→bindC kindOf binds m x=m x
 |[],_,_=>rfl
 |(n,v)::r,m,h=>by
  unfold bindC
  rw[aC8 fun w hw=>h w (A4 _ hw)]
  split
  .rfl
  .have:x≠n:=by rintro rfl;exact h v Bu
   simp[this]
theorem aC9{kindOf:Str→Option NameKind}{x:Str}{v:Value}:∀{P:List Str}{vs:List Value}{i:Nat}{m:Str→Option Value},P.Nodup→P[i]?=some x→vs[i]?=some v→kindOf x=some .local→
  bindL kindOf (P.zip vs) m x=some v
 |[],_,_,_,_,h,_,_=>by simp at h
 |_::_,[],_,_,_,_,h,_=>by simp at h
 |p::P,w::vs,0,m,nd,h1,h2,hk=>by
  simp at h1 h2;subst h1;subst h2
  show bindL kindOf ((p,w)::P.zip vs) m p=_
  unfold bindL
  rw[aCa fun v hv=>(Hn.mp nd).1 (Jm hv).1,ip hk]
  simp
 |p::P,w::vs,i+1,m,nd,h1,h2,hk=>by
  show bindL kindOf ((p,w)::P.zip vs) m x=_
  unfold bindL
  exact aC9 (i:=i) (Hn.mp nd).2 (by simpa using h1) (by simpa using h2) hk
theorem aC7{kindOf:Str→Option NameKind}{x:Str}{v:Value}:∀{P:List Str}{vs:List Value}{i:Nat}{m:Str→Option Value},P.Nodup→P[i]?=some x→vs[i]?=some v→kindOf x≠some .local→
  bindC kindOf (P.zip vs) m x=some v
 |[],_,_,_,_,h,_,_=>by simp at h
 |_::_,[],_,_,_,_,h,_=>by simp at h
 |p::P,w::vs,0,m,nd,h1,h2,hk=>by
  simp at h1 h2;subst h1;subst h2
  show bindC kindOf ((p,w)::P.zip vs) m p=_
  unfold bindC
  rw[aC8 fun v hv=>(Hn.mp nd).1 (Jm hv).1,ig hk]
  simp
 |p::P,w::vs,i+1,m,nd,h1,h2,hk=>by
  show bindC kindOf ((p,w)::P.zip vs) m x=_
  unfold bindC
  exact aC7 (i:=i) (Hn.mp nd).2 (by simpa using h1) (by simpa using h2) hk
noncomputable def start (N:List Str) (vs:List V):St:=vs.map some++A8 (N.length-vs.length) none
noncomputable def aPm (CX:CXT) (P:Program) (w:World) (K:Ad) (mg:Str→Option Value) (base:Heap) (N:List Str) (qual:Str) (scope:Scope) (f:Addr) (cd:Value) (A:Around) (outer:List Env) (s:Shared) (H:Hp) (E:XK):Cx where
 prog:=P
 w:=w
 K:=K
 mg:=mg
 base:=base
 A:=A.deeper (envOfC qual scope s.heap.objs.size f cd)
 N:=N
 s_0:=s
 H_0:=H
 env:=envOfC qual scope s.heap.objs.size f cd
 outer:=outer
 stack:=envOfC qual scope s.heap.objs.size f cd::outer
 ex:=[]
 calm:=true
 fn:=fun _=>true
 pn:=[]
 xe:=fun e s'=>wpAny (model P w) (A.deeper (envOfC qual scope s.heap.objs.size f cd)) («leaving» (envOfC qual scope s.heap.objs.size f cd) e) (fun _ s''=>CX outer H s E e s'') (fun e' s''=>CX outer H s E e' s'') s'
theorem aG7{sc:Scope}{n:Nat}{x:Str}(h:sc.names.lookup x=some .cell):∃c,(cellsFrom n sc.names []).lookup x=some c:=by
 have q:=Jg sc.names n [] (.inl h)
 exact Option.isSome_iff_exists.mp q
theorem aM6{CX:CXT}{P:Program}{w:World}{K:Ad}{mg:Str→Option Value}{base:Heap}{N ps:List Str}{qual:Str}{scope:Scope}{f:Addr}{cd:Value}{A:Around}{outer:List Env}{s s1:Shared}{H:Hp}{E:XK}{us:List Value}{vs:List V}
  (S:FnScope N ps scope) (hd:A.handled=none) (e0:Env0 P w K mg base A outer s H) (hl:vs.length=ps.length) (r:Vals vs us)
  (x:InCallC s s.heap.objs.size (bindL (envOfC qual scope s.heap.objs.size f cd).kindOf (ps.zip us) fun _=>none) (cellsFrom (s.heap.objs.size+1) scope.names []) (bindC (envOfC qual scope s.heap.objs.size f cd).kindOf (ps.zip us) fun _=>none) s1) :
  Inv (aPm CX P w K mg base N qual scope f cd A outer s H E) [] (start N vs) H s1:=by
 have hpl:ps.length≤N.length:=by have:=congrArg Iw S.pre;rw[F4]at this;omega
 obtain⟨h1,tk,rfl,hk⟩:=x.done
 have noA:∀b:Addr,b∉(aPm CX P w K mg base N qual scope f cd A outer s H E).ex:=fun b z=>absurd (show b∈([]:List Addr)from z) (by simp)
 refine⟨⟨e0.mod,S.kind,rfl,rfl,An _,fun y z c h1 h2=>?_,fun y hy=>?_,fun y c _ h=>?_,fun _=>hd,Around.frames_deeper e0.frames,.inr ⟨rfl,rfl⟩,fun b z=>absurd z (noA b),e0.bs,e0.bsz,fun b _ _=>noA b,fun b z=>absurd z (noA b),e0.funs,e0.frf⟩,
  rfl,e0.bare,Un.kept hk,⟨_,x.toInCall.ns,fun i y v h1 h2 h3=>?_⟩,fun y c h=>⟨_,x.cell y c h⟩,e0.hok.fresh (An _),fun y c h=>?_,fun p hp=>absurd (show p∈([]:List (Addr×Obj))from hp) (by simp),e0.hok.kept hk,?_⟩
 .exact name_of_addr x.apart (Bq h1) (Bq h2)
 .have hy:scope.names.lookup y=some .cell∨scope.names.lookup y=some .free:=hy
  rcases hy with hy|hy
  .exact aG7 hy
  .exact absurd rfl (S.nofree _ (Bq hy))
 .exact Ji (x.above y c (Bq h))
 .have hi:i<vs.length:=by
   unfold start at h2
   by_cases hi:i<vs.length
   .exact hi
   .rw[Dx (by simpa using hi)]at h2
    rw[List.getElem?_replicate]at h2
    split at h2<;>cases h2
  have ha:vs[i]?=some v:=by
   unfold start at h2
   rw[Cz (by simpa using hi),Bb]at h2
   cases e:vs[i]? with
   |none=>rw[e]at h2;cases h2
   |some a=>rw[e]at h2;cases h2;rfl
  obtain⟨u,hu,rv⟩:=r.get ha
  have hp:ps[i]?=some y:=by
   rw[←S.pre,List.getElem?_take_of_lt (by omega)];exact h1
  have ndP:ps.Nodup:=by rw[←S.pre];exact S.nd.sublist (List.take_sublist _ _)
  refine⟨u,rv,?_⟩
  rcases S.par y (Du hp)with k|k
  .exact .inl ⟨k,aC9 ndP hp hu k⟩
  .obtain⟨c,e⟩:=aG7 (n:=s.heap.objs.size+1) k
   refine .inr ⟨.inl k,c,e,?_⟩
   have q:=x.cell y c e
   rw[aC7 ndP hp hu (by show scope.names.lookup y≠_;rw[k];decide)]at q
   exact q
 .exact e0.hok.fresh (Ji (x.above y c (Bq h)))
 .unfold start
  show _=N.length
  rw[A6,Ag,List.length_replicate]
  omega
theorem bD5{CX:CXT}{P:Program}{w:World}{K:Ad}{mg:Str→Option Value}{base:Heap}{k:Nat}{f:Addr}{name qual:Str}{params:Arguments}{body:List Stmt}{scope:Scope}{dV kV doc pm cdv ct oc:Value}{an od:Option Addr}
  {osl:Array (Option Value)} {N ps:List Str} {sp:Sp} (lk:K.lookup f=some ⟨oc,od,.func (Ez name qual params body scope dV kV doc pm an cdv ct),osl⟩) (hcd:G2 K cdv qual=true) (S:FnScope N ps scope)
  (len:∀vs H Q E,sp vs H Q E→vs.length=ps.length)
  (hbody:∀(A:Around)(outer:List Env)(s:Shared)(H:Hp)(vs:List V)(Q:VK)(E:XK),Room k (A.deeper (envOfC qual scope s.heap.objs.size f cdv))→sp vs H Q E→
   ∃t,PSs (aPm CX P w K mg base N qual scope f cdv A outer s H E) body t∧t { nx:=fun _ H'=>Q .non H',rt:=Q } (start N vs) H) :
  FnOk P w K mg base CX (k+1) f (Ez name qual params body scope dV kV doc pm an cdv ct) ps sp:=by
 refine⟨len,fun A outer s H args us vs Q E hr e0 hb r hsp=>?_⟩
 have hl:=len _ _ _ _ hsp
 have KX:K.In s.heap:=e0.mod.kin.keeps fun b o e=>(e0.bs b o e).1
 have lim:s.heap.NoLimit:=e0.mod.nolimit.keeps fun b o e=>(e0.bs b o e).1
 have hkind:∀y∈ps.zip us,scope.names.lookup y.1=some .local∨(scope.names.lookup y.1=some .cell∧((cellsFrom (s.heap.objs.size+1) scope.names []).lookup y.1).isSome=true):=fun⟨n,v⟩ hy=>by
  rcases S.par n (Jm hy).1 with q|q
  .exact .inl q
  .exact .inr ⟨q,Jg _ _ _ (.inl q)⟩
 refine codeAny_call_function hr.depth (KX _ _ lk) rfl S.co S.gen rfl (PySem.W.codeRec_of KX hcd) (hb _ _ _ _ ?_)
 refine wpAny_newFunctionEnv_cells S.kind hkind fun env he s1 x=>?_
 subst he
 refine⟨lim.keeps x.toInCall.keep,codeAny_func ?_⟩
 obtain⟨t,ht,hq⟩:=hbody A outer s H vs Q E (hr.deeper _) hsp
 have I:Inv (aPm CX P w K mg base N qual scope f cdv A outer s H E) [] (start N vs) H s1:=aM6 S hr.hd e0 hl r x
 refine wpAny_mono (ht [] s1 (start N vs) H _ I hq) (fun fl s' hs=>?_) fun e s' hs=>hs
 have fin:∀{σ':St}{H':Hp}{v:V}{u:Value},Inv (aPm CX P w K mg base N qual scope f cdv A outer s H E) [] σ' H' s'→gX v u→Q v H'→CE outer P w H s Q u s':=
  fun{σ' H' v u}J rv q=>⟨v,H',J.os,J.bare,J.base,J.hok,rv,q⟩
 cases fl with
 |ret u=>
  obtain⟨v,σ',H',J,rv,q⟩:=hs
  exact fin J rv q
 |next=>
  obtain⟨σ',H',J,q⟩:=hs
  exact fin (v:=V.non) (u:=Value.none) J rfl q
 |brk=>
  obtain⟨_,_,_,q⟩:=hs
  exact Dz q
 |cont=>
  obtain⟨_,_,_,q⟩:=hs
  exact Dz q
section
variable{X:Cx}{x:Str}{p pos:Pos}{e:Expr}{es:List Expr}{t:TA}{id T:String}{r:List V→Hp→VK→Prop}
def tCB(r:List V→Hp→VK→Prop)(t:TA):TE:=fun σ H Q=>t σ H fun vs H1=>r vs H1 Q
theorem jU(hc:pS X (.builtin id) r)(hg:Gl X x)(hm:X.mg x=none)(hv:bootBuiltins x=some (.builtin id))(ha:PA X (e::es) t)(hn:x≠"__name__":=by decide)(hdb:(x==("__debug__":Str))=false:=by decide)
  (he:starEach (e::es) X.env=(false,eval e X.env)::starEach es X.env:=by rfl) (hpl:(backTo pos (starEach es X.env)).any (·.1)=false:=by rfl):PE X (.Call (.Name x p) (e::es) [] pos) (tCB r t):=by
 intro pins s σ H Q I h
 refine wpAny_Call_Name_kw (nM I hg hm hv ?_ hn hdb)
 exact PyProof.Rows.callWith_builtin1 (thn (ha pos pins s σ H _ I h) fun us s1 ⟨vs,H1,I1,r1,q1⟩=>hc pins s1 σ H1 vs us Q I1 r1 q1) he hpl
end
end L2
namespace HT
set_option maxRecDepth 100000
open PySem PyProof.Rows
section
open PySem.SeqAt
open PySem.AutoSeq1 (wpAny_loadPart')
open PySem.MeetsSeq PySem.MeetsSeq2 PySem.MeetsSeq3
end
section
variable{prog:Program}{w:World}{A:Around}{E:Value→Shared→Prop}{s:Shared}
noncomputable def sIx (n d:Nat):Option Int→Nat
 |none=>d
 |some v=>if v<0 then(v+(n:Int)).toNat else min v.toNat n
theorem aOr(n d k:Nat):sIx n d (some (k:Int))=min k n:=by
 show(if(k:Int)<0 then((k:Int)+(n:Int)).toNat else min (k:Int).toNat n)=min k n
 rw[ig (by omega),B8]
end
end HT
namespace L2
set_option maxRecDepth 100000
open PySem PySem.Spec PyProof.Rows
abbrev TO:=St→Hp→(Option Int→Hp→Prop)→Prop
def PO(X:Cx)(e:Option Expr)(t:TO):Prop:=
 ∀(pins:List (Addr×Obj))(s:Shared)(σ:St)(H:Hp)(Q:Option Int→Hp→Prop),Inv X pins σ H s→t σ H Q→
  wpAny (model X.prog X.w) X.A (evalPart e X.env) (fun u s'=>∃o H',Inv X pins σ H' s'∧IsPart u o∧Q o H') X.xe s
def aXc:TO:=fun _ H Q=>Q none H
def bEd(t:TE):TO:=fun σ H Q=>t σ H fun x H1=>∃i,x=.int i∧Q (some i) H1
theorem aI7{ns:List Int}:∀{us:List Value},Vals (ns.map V.int) us→IntsAre us ns:=by
 induction ns with
 |nil=>intro us r;rw[G4]at r;cases r;exact .nil
 |cons n ns ih=>
  intro us r
  rw[Ai]at r
  cases r with
  |cons r1 r2=>
   obtain⟨t,e⟩:=r1
   subst e
   exact .cons n t (ih r2)
section
variable{X:Cx}{e:Expr}{te:TE}{lo hi:Option Expr}{tl th:TO}{pos p2:Pos}
theorem aWw:PO X none aXc:=by
 intro pins s σ H Q I h
 rw[evalPart_none]
 exact wpAny_pure ⟨none,H,I,.none,h⟩
theorem aFp(h:PE X e te):PO X (some e) (bEd te):=by
 intro pins s σ H Q I hw
 rw[evalPart_some]
 refine thn (h pins s σ H _ I hw) fun u s1 ⟨x,H1,I1,r1,q1⟩=>?_
 obtain⟨i,rfl,q⟩:=q1
 obtain⟨t,rfl⟩:=r1
 exact⟨some i,H1,I1,.int i t,q⟩
def SlR(X:Cx)(r:V→Option Int→Option Int→Hp→VK→Prop):Prop:=
 ∀(pins:List (Addr×Obj))(s:Shared)(σ:St)(H:Hp)(x:V)(v vl vu:Value)(lo hi:Option Int)(sl:Addr)(Q:VK),Inv X pins σ H s→gX x v→s.heap.IsSliceOf sl vl vu .none→IsPart vl lo→IsPart vu hi→r x lo hi H Q→
  ∃T id,typeLookup (.type T) "__getitem__"=pure (some (.builtin id))∧s.TypeIs v T∧wpAny (model X.prog X.w) X.A (getItem v (.ref sl)) (EP X pins σ Q) X.xe s
def tSl(r:V→Option Int→Option Int→Hp→VK→Prop)(te:TE)(tl th:TO):TE:=fun σ H Q=>te σ H fun x H1=>tl σ H1 fun l H2=>th σ H2 fun u H3=>r x l u H3 Q
theorem aHa{r:V→Option Int→Option Int→Hp→VK→Prop}(hr:SlR X r)(he:PE X e te)(hl:PO X lo tl)(hu:PO X hi th):PE X (.Subscript e (.Slice lo hi none p2) pos) (tSl r te tl th):=by
 intro pins s σ H Q I h
 refine Subscript_ (thn (he pins s σ H _ I h) fun v s1 ⟨x,H1,I1,r1,q1⟩=>?_)
 refine wpAny_Slice (thn (hl pins s1 σ H1 _ I1 q1) fun vl s2 ⟨l,H2,I2,pl,q2⟩=>thn (hu pins s2 σ H2 _ I2 q2) fun vu s3 ⟨u,H3,I3,pu,q3⟩=>?_)
 rw[evalPart_none]
 refine wpAny_pure ?_
 have I4:Inv X pins σ H3 { s3 with heap:=s3.heap.push { cls:=.type "slice",data:=.fields #[vl,vu,.none] } }:=I3.kept (t':=s3.toks) fun b ob q=>Heap.get?_push_of_some _ q
 obtain⟨T,id,hT,ht,hg⟩:=hr pins { s3 with heap:=s3.heap.push { cls:=.type "slice",data:=.fields #[vl,vu,.none] } } σ H3 x v vl vu l u s3.heap.objs.size Q I4 r1 (Heap.IsSliceOf.new ..) pl pu q3
 show wpAny (model X.prog X.w) X.A (subscriptTail e (.Slice lo hi none p2) v (.ref s3.heap.objs.size)) (EP X pins σ Q) X.xe { s3 with heap:=s3.heap.push { cls:=.type "slice",data:=.fields #[vl,vu,.none] } }
 exact tail_any (ops:=[.ref s3.heap.objs.size,v]) ht hT hg (by with_unfolding_all rfl)
def aLd(xs:List V)(lo hi:Option Int):List V:=(xs.drop (HT.sIx xs.length 0 lo)).take (HT.sIx xs.length xs.length hi-HT.sIx xs.length 0 lo)
theorem aEi(xs:List V)(lo hi:Option Int):(aLd xs lo hi).length≤xs.length:=by
 unfold aLd
 rw[F4,Jc]
 omega
end
noncomputable def ixN (n:Nat) (i:Int):Option Nat:=if 0≤i then(if i<n then some i.toNat else none)else if -(n:Int)≤i then some (i+n).toNat else none
noncomputable def atI {α:Type} (xs:List α) (i:Int):Option α:=(ixN xs.length i).bind fun j=>xs[j]?
theorem aM9{n:Nat}{i:Int}{j:Nat}(h:ixN n i=some j):seqIndex? i n=some j∧j<n∧-(n:Int)≤i∧i<n:=by
 unfold ixN at h
 by_cases h0:0≤i
 .rw[ip h0]at h
  by_cases h1:i<n
  .rw[ip h1]at h
   have e:i.toNat=j:=A0 h
   exact⟨by rw[seqIndex_of h0 h1,e],by omega,by omega,h1⟩
  .rw[ig h1]at h;cases h
 .rw[ig h0]at h
  by_cases h1:-(n:Int)≤i
  .rw[ip h1]at h
   have e:(i+n).toNat=j:=A0 h
   exact⟨by rw[seqIndex_neg (by omega) h1,e],by omega,h1,by omega⟩
  .rw[ig h1]at h;cases h
theorem aK6{α:Type}{xs:List α}{i:Int}{v:α}(h:atI xs i=some v):∃j,seqIndex? i xs.length=some j∧xs[j]?=some v∧j<xs.length∧-(xs.length:Int)≤i∧i<xs.length:=by
 unfold atI at h
 cases e:ixN xs.length i with
 |none=>rw[e]at h;cases h
 |some j=>
  rw[e]at h
  obtain⟨h1,h2,h3,h4⟩:=aM9 e
  exact⟨j,h1,h,h2,h3,h4⟩
theorem aTq{α:Type}{xs:List α}{j:Nat}{v:α}(h:xs[j]?=some v):atI xs (j:Int)=some v:=by
 have hj:j<xs.length:=(As.mp h).1
 have e:ixN xs.length (j:Int)=some j:=by
  unfold ixN
  rw[ip (by omega),ip (by omega)];simp
 unfold atI;rw[e];exact h
def aJz(b:Expr):Prop:=∀o i,subscripted b false o i=operate [o,i] (getItem o i)
def IxR(X:Cx)(r:R2):Prop:=
 ∀(value slice:Expr)(pins:List (Addr×Obj))(s:Shared)(σ:St)(H:Hp)(x y:V)(v u:Value)(Q:VK),Inv X pins σ H s→gX x v→gX y u→r x y H Q→
  subscripted slice false v u=operate [v,u] (getItem v u)→wpAny (model X.prog X.w) X.A (subscriptTail value slice v u) (EP X pins σ Q) X.xe s
def MtR(X:Cx)(id:String)(r:V→List V→Hp→VK→Prop):Prop:=
 ∀(pins:List (Addr×Obj))(s:Shared)(σ:St)(H:Hp)(x:V)(xs:List V)(v:Value)(us:List Value)(Q:VK),Inv X pins σ H s→gX x v→Vals xs us→r x xs H Q→
  wpAny (model X.prog X.w) X.A (call (.builtin id) (v::us)) (EP X pins σ Q) X.xe s
section
variable{X:Cx}{a b:Expr}{ta tb:TE}{pos:Pos}
theorem IxR.or{r r':R2}(h:IxR X r)(h':IxR X r'):IxR X (fun x y H Q=>r x y H Q∨r' x y H Q):=by
 intro value slice pins s σ H x y v u Q I rx ry q hs
 rcases q with q|q
 .exact h value slice pins s σ H x y v u Q I rx ry q hs
 .exact h' value slice pins s σ H x y v u Q I rx ry q hs
theorem MtR.or{id:String}{r r':V→List V→Hp→VK→Prop}(h:MtR X id r)(h':MtR X id r'):MtR X id (fun x xs H Q=>r x xs H Q∨r' x xs H Q):=by
 intro pins s σ H x xs v us Q I rx rs q
 rcases q with q|q
 .exact h pins s σ H x xs v us Q I rx rs q
 .exact h' pins s σ H x xs v us Q I rx rs q
theorem aFn{r:R2}(hr:IxR X r)(ha:PE X a ta)(hb:PE X b tb)(hs:aJz b):PE X (.Subscript a b pos) (tOp r ta tb):=by
 intro pins s σ H Q I h
 exact Subscript_ (bCy ha hb I h fun v u s2 x y H2 I2 rx ry q=>hr a b pins s2 σ H2 x y v u Q I2 rx ry q (hs _ _))
def bGy(K:Ad):R2:=fun x y H Q=>∃p xs i v,x=.ref p∧y=.int i∧SqL K H p xs∧atI xs i=some v∧Q v H
def bE5(K:Ad):R2:=fun x y H Q=>∃p xs i v,x=.ref p∧y=.int i∧SqT K H p xs∧atI xs i=some v∧Q v H
theorem aEq:IxR X (bGy X.K):=by
 intro value slice pins s σ H x y v u Q I rx ry h hs
 obtain⟨p,xs,i,z,rfl,rfl,hq,he,q⟩:=h
 cases rx
 obtain⟨t,rfl⟩:=ry
 obtain⟨its,r,pl,hz⟩:=I.list hq
 obtain⟨j,h1,h2,h3,h4,h5⟩:=aK6 he
 obtain⟨w,ew,rw'⟩:=r.get h2
 have hl:=r.length
 have hn:=aCo
 have fin:EP X pins σ Q w s:=⟨z,H,I,rw',q⟩
 by_cases h0:0≤i
 .have hj:i.toNat=j:=by
   rw[seqIndex_of h0 h5]at h1
   exact A0 h1
  exact item_listR pl.isList h0 (by omega) (by rw[hj];simpa using ew) fin hs
 .have hj:(i+(its.toArray.size:Int)).toNat=j:=by
   rw[seqIndex_neg (by omega) h4]at h1
   rw[Am,←hl]
   exact A0 h1
  exact subscriptTail_builtinR (x:=w) pl.isList.typeIs slot_list_getitem.lookup
   (wpAny_getItem_list_neg (Q:=fun r s'=>r=w∧EP X pins σ Q r s') pl.isList (by omega) (by rw[Am]<;>omega) (by omega) (by rw[hj];simpa using ew) ⟨rfl,fin⟩) hs
theorem aCm:IxR X (bE5 X.K):=by
 intro value slice pins s σ H x y v u Q I rx ry h hs
 obtain⟨p,xs,i,z,rfl,rfl,hq,he,q⟩:=h
 cases rx
 obtain⟨t,rfl⟩:=ry
 obtain⟨its,r,pl,hz⟩:=I.tuple hq
 obtain⟨j,h1,h2,h3,h4,h5⟩:=aK6 he
 obtain⟨w,ew,rw'⟩:=r.get h2
 have hl:=r.length
 have hn:=aCo
 have fin:EP X pins σ Q w s:=⟨z,H,I,rw',q⟩
 exact subscriptTail_builtinR (x:=w) pl.typeIs slot_tuple_getitem.lookup
  (getItem_tuple (j:=j) (Q:=fun r s'=>r=w∧EP X pins σ Q r s') pl (by omega) (by omega) (by rw[Am,←hl];exact h1) (by simpa using ew) ⟨rfl,fin⟩) hs
theorem aIe(its:List Value)(n j:Nat)(u:Value):Obj.mapSeq (·.setIfInBounds j u) { cls:=.type "list",data:=.seq its.toArray n }={ cls:=.type "list",data:=.seq (its.set j u).toArray n }:=by
 simp[Obj.mapSeq]
theorem Inv.lst{pins:List (Addr×Obj)}{σ:St}{H:Hp}{s:Shared}{p:Addr}{xs:List V}(I:Inv X pins σ H s)(h:H p=some (.lst xs)) :
  ∃(its:List Value)(n:Nat),Vals xs its∧s.heap.get? p=some { cls:=.type "list",data:=.seq its.toArray n }∧xs.length≤sizeLine:=by
 obtain⟨z,its,n,r,e⟩:=I.hok p _ h
 exact⟨its,n,r,e,z⟩
theorem Inv.lstUpd{pins:List (Addr×Obj)}{σ:St}{H:Hp}{s:Shared}{p:Addr}{xs ys:List V}{its its':List Value}{n n':Nat}{f:Obj→Obj}(I:Inv X pins σ H s)(h:H p=some (.lst xs))
  (ho:s.heap.get? p=some { cls:=.type "list",data:=.seq its.toArray n }) (hf:f { cls:=.type "list",data:=.seq its.toArray n }={ cls:=.type "list",data:=.seq its'.toArray n' }) (r:Vals ys its') (hz:ys.length≤sizeLine) (t:Nat) :
  Inv X pins σ (upd H p (.lst ys)) { s with heap:=s.heap.update p f,toks:=t }:=by
 have e:(s.heap.update p f).get? p=some { cls:=.type "list",data:=.seq its'.toArray n' }:=by
  rw[Heap.get?_update_self f ho (by rw[hf]<;>rfl),hf]
 refine I.write (x:=p) (e:=p) (by rw[h];trivial) (.inl rfl) (fun b u hb q=>(Heap.get?_update_other _ _ (Hm hb)).trans q) ⟨_,e⟩ ?_
 exact⟨hz,its',n',r,e⟩
def bBe:V→V→V→Hp→(Hp→Prop)→Prop:=fun o i v H Q=>∃p xs k j,o=.ref p∧i=.int k∧H p=some (.lst xs)∧ixN xs.length k=some j∧Q (upd H p (.lst (xs.set j v)))
theorem aS3:bEh X bBe:=by
 intro pins s σ H o i v ov iv u Q I ro ri rv h
 obtain⟨p,xs,k,j,rfl,rfl,hp,hj,q⟩:=h
 cases ro
 obtain⟨t,rfl⟩:=ri
 obtain⟨its,n,r,ho,hz⟩:=I.lst hp
 obtain⟨h1,h2,h3,h4⟩:=aM9 hj
 have hl:=r.length
 have hn:=aCo
 have I':Inv X pins σ (upd H p (.lst (xs.set j v))) { s with heap:=s.heap.update p (Obj.mapSeq (·.setIfInBounds j u)) }:=
  I.lstUpd hp ho (aIe its n j u) (r.set rv j) (by rw[Jn];exact hz) s.toks
 by_cases h0:0≤k
 .have hk:k.toNat=j:=by
   rw[seqIndex_of h0 h4]at h1
   exact A0 h1
  exact PySem.W.ki_setAt ho h0 (by omega) (by rw[Am,←hl];exact h4) (by rw[hk];exact⟨_,I',q⟩)
 .have hk:(k+(its.toArray.size:Int)).toNat=j:=by
   rw[seqIndex_neg (by omega) h3]at h1
   rw[Am,←hl]
   exact A0 h1
  exact PySem.W.ki_setBack ho (by omega) (by rw[Am,←hl];exact h3) (by omega) (by rw[hk];exact⟨_,I',q⟩)
theorem aDf(lo hi:Option Int)(n:Nat):(sliceBounds lo hi none n).1=((HT.sIx n 0 lo:Nat):Int)∧(sliceBounds lo hi none n).2.1=((HT.sIx n n hi:Nat):Int)∧(sliceBounds lo hi none n).2.2=1:=by
 refine⟨?_,?_,rfl⟩
 .cases lo with
  |none=>simp[sliceBounds,HT.sIx]
  |some i=>
   simp only[sliceBounds,HT.sIx,Lm,show(1:Int)>0 by decide,if_true]
   by_cases h:i<0
   .simp only[h,if_true]<;>omega
   .simp only[h,if_false]<;>omega
 .cases hi with
  |none=>simp[sliceBounds,HT.sIx]
  |some i=>
   simp only[sliceBounds,HT.sIx,Lm,show(1:Int)>0 by decide,if_true]
   by_cases h:i<0
   .simp only[h,if_true]<;>omega
   .simp only[h,if_false]<;>omega
theorem aBt(its:List Value)(lo hi:Option Int):slicePick its.toArray lo hi none=((its.drop (HT.sIx its.length 0 lo)).take (HT.sIx its.length its.length hi-HT.sIx its.length 0 lo)).toArray:=by
 obtain⟨h1,h2,h3⟩:=aDf lo hi its.toArray.size
 unfold slicePick
 rw[h1,h2,h3]
 simp only[sliceRange_one,pick_run,Am]<;>rfl
def bGz(K:Ad):V→Option Int→Option Int→Hp→VK→Prop:=fun x lo hi H Q=>∃a xs,x=.ref a∧SqL K H a xs∧∀p,H p=none→Q (.ref p) (upd H p (.lst (aLd xs lo hi)))
theorem aOt:SlR X (bGz X.K):=by
 intro pins s σ H x v vl vu lo hi sl Q I rx hs pl pu h
 obtain⟨a,xs,rfl,hx,q⟩:=h
 cases rx
 obtain⟨its,r,ht,hz⟩:=I.list hx
 have hlen:=r.length
 refine⟨"list",_,slot_list_getitem.lookup,ht.isList.typeIs,?_⟩
 refine wpAny_getItem_list_slice ht.isList hs pl pu .none (by simp) ?_ (by rw[Am]<;>omega)
 rw[aBt,←hlen]
 refine⟨.ref s.heap.objs.size,_,I.laid (t':=s.toks) (o:=.lst (aLd xs lo hi)) (fun b ob q=>Heap.get?_push_of_some _ q) (An _) ?_,rfl,q _ (I.hok.fresh (An _))⟩
 exact⟨B7 (aEi xs lo hi) hz,_,0,(r.drop (HT.sIx xs.length 0 lo)).take (HT.sIx xs.length xs.length hi-HT.sIx xs.length 0 lo),Heap.get?_push_size _ rfl⟩
def aAe:V→Bool
 |.non=>true
 |.bl _=>true
 |.int _=>true
 |.str _=>true
 |_=>false
noncomputable def eqV:V→V→Bool
 |.non,.non=>true
 |.bl a,.bl b=>a==b
 |.bl a,.int b=>(if a then 1 else 0)==b
 |.int a,.bl b=>a==(if b then 1 else 0)
 |.int a,.int b=>a==b
 |.str a,.str b=>a==b
 |_,_=>false
theorem aYi{A:Around}{s:Shared}{y x:V}{u v:Value}(ry:gX y u)(rx:gX x v)(fy:aAe y=true)(fx:aAe x=true):SeqAt.EqAt A s u v (eqV y x):=by
 cases y with
 |non=>
  cases ry
  cases x with
  |non=>cases rx;exact SeqAt.EqAt.same _
  |bl b=>cases rx;exact SeqAt.EqAt.none_bool b
  |int b=>obtain⟨t,rfl⟩:=rx;exact SeqAt.EqAt.none_int b t
  |str b=>obtain⟨t,rfl⟩:=rx;exact SeqAt.EqAt.none_str b t
  |_=>exact absurd (show false=true from fx) A5
 |bl a=>
  cases ry
  cases x with
  |non=>cases rx;exact SeqAt.EqAt.bool_none a
  |bl b=>cases rx;exact SeqAt.EqAt.bool_bool a b
  |int b=>obtain⟨t,rfl⟩:=rx;exact SeqAt.EqAt.bool_int a b t
  |str b=>obtain⟨t,rfl⟩:=rx;exact SeqAt.EqAt.bool_str a b t
  |_=>exact absurd (show false=true from fx) A5
 |int a=>
  obtain⟨t',rfl⟩:=ry
  cases x with
  |non=>cases rx;exact SeqAt.EqAt.int_none a t'
  |bl b=>cases rx;exact SeqAt.EqAt.int_bool a t' b
  |int b=>obtain⟨t,rfl⟩:=rx;exact SeqAt.EqAt.int_int a t' b t
  |str b=>obtain⟨t,rfl⟩:=rx;exact SeqAt.EqAt.int_str a t' b t
  |_=>exact absurd (show false=true from fx) A5
 |str a=>
  obtain⟨t',rfl⟩:=ry
  cases x with
  |non=>cases rx;exact SeqAt.EqAt.str_none a t'
  |bl b=>cases rx;exact SeqAt.EqAt.str_bool a t' b
  |int b=>obtain⟨t,rfl⟩:=rx;exact SeqAt.EqAt.str_int a t' b t
  |str b=>obtain⟨t,rfl⟩:=rx;exact SeqAt.EqAt.str_str a t' b t
  |_=>exact absurd (show false=true from fx) A5
 |_=>exact absurd (show false=true from fy) A5
noncomputable def eqU (x:V) (u:Value):Bool:=match u with
 |.none=>eqV .non x
 |.bool b=>eqV (.bl b) x
 |.int i _=>eqV (.int i) x
 |.str z _=>eqV (.str z) x
 |_=>false
theorem aSr{x y:V}{u:Value}(r:gX y u)(f:aAe y=true):eqU x u=eqV y x:=by
 cases y with
 |non=>cases r;rfl
 |bl b=>cases r;rfl
 |int i=>obtain⟨t,rfl⟩:=r;rfl
 |str z=>obtain⟨t,rfl⟩:=r;rfl
 |_=>exact absurd (show false=true from f) A5
theorem aDs{x:V}:∀{xs:List V}{us:List Value},Vals xs us→xs.all aAe=true→us.any (eqU x)=xs.any fun y=>eqV y x
 |_,_,.nil,_=>rfl
 |y::xs,u::us,.cons r t,f=>by
  rw[Bz,Ac]at f
  rw[Hh,Hh,aSr r f.1,aDs t f.2]
theorem aB7{A:Around}{s:Shared}{x:V}{v:Value}(rx:gX x v)(fx:aAe x=true):∀{xs:List V}{us:List Value},Vals xs us→xs.all aAe=true→∀u∈us,SeqAt.EqAt A s u v (eqU x u)
 |_,_,.nil,_=>fun u hu=>by cases hu
 |y::xs,u::us,.cons r t,f=>fun u' hu=>by
  rw[Bz,Ac]at f
  rcases A1.mp hu with rfl|hu
  .rw[aSr r f.1];exact aYi r rx f.1 fx
  .exact aB7 rx fx t f.2 u' hu
noncomputable def inV (x:V) (xs:List V):Bool:=xs.any fun y=>eqV y x
def rIn(K:Ad)(neg:Bool):R2:=fun x y H Q=>∃p xs,y=.ref p∧(SqL K H p xs∨SqT K H p xs)∧aAe x=true∧xs.all aAe=true∧Q (.bl (if neg then !inV x xs else inV x xs)) H
theorem aD6:OpR X (compareOp .NotIn) (rIn X.K true):=by
 intro pins s σ H x y v u Q I rx ry h
 obtain⟨p,xs,rfl,hq,fx,fs,q⟩:=h
 cases ry
 rcases hq with hq|hq
 .obtain⟨its,r,pl,hz⟩:=I.list hq
  refine SeqAt.notIn_listAt (eqU x) pl.isList (fun w hw=>aB7 rx fx r fs w (by simpa using hw)) ⟨.bl _,H,I,rfl,?_⟩
  rw[show its.toArray.any (eqU x)=its.any (eqU x) by simp,aDs r fs]
  exact q
 .obtain⟨its,r,pl,hz⟩:=I.tuple hq
  refine SeqAt.notIn_tupleAt (eqU x) pl (fun w hw=>aB7 rx fx r fs w (by simpa using hw)) ⟨.bl _,H,I,rfl,?_⟩
  rw[show its.toArray.any (eqU x)=its.any (eqU x) by simp,aDs r fs]
  exact q
theorem nD:pS X (.builtin "len") (fun xs H Q=>∃p ys,xs=[.ref p]∧(SqL X.K H p ys∨SqT X.K H p ys)∧Q (.int ys.length) H):=by
 intro pins s σ H xs us Q I r h
 obtain⟨p,ys,rfl,hq,q⟩:=h
 obtain⟨u,rfl,rx⟩:=bC1 r
 cases rx
 have hn:=aCo
 rcases hq with hq|hq
 .obtain⟨its,r',pl,hz⟩:=I.list hq
  have hlen:=r'.length
  exact Calls.call_len_list pl.isList (by simp only[Am]<;>omega) ⟨.int ys.length,H,I.tok _,⟨s.toks+1,by rw[Am,hlen]⟩,q⟩
 .obtain⟨its,r',pl,hz⟩:=I.tuple hq
  have hlen:=r'.length
  exact len_tuple pl (by simp only[Am]<;>omega) ⟨.int ys.length,H,I.tok _,⟨s.toks+1,by rw[Am,hlen]⟩,q⟩
theorem pS.or{f:Value}{r r':List V→Hp→VK→Prop}(h:pS X f r)(h':pS X f r'):pS X f (fun xs H Q=>r xs H Q∨r' xs H Q):=by
 intro pins s σ H xs us Q I rs q
 rcases q with q|q
 .exact h pins s σ H xs us Q I rs q
 .exact h' pins s σ H xs us Q I rs q
def tyV(K:Ad)(T:String)(x:V)(H:Hp):Prop:=match x with
 |.str _=>T="str"
 |.int _=>T="int"
 |.ref p=>(T="list"∧∃xs,SqL K H p xs)∨(T="tuple"∧∃o,K.lookup p=some o∧o.cls=.type "tuple"∧o.dict=none) ∨
   (T="dict"∧((∃kvs,H p=some (.dK kvs))∨∃kvs,H p=some (.dT kvs)))∨(T="set"∧∃S n,H p=some (.set S n))
 |_=>False
theorem aTg{pins:List (Addr×Obj)}{σ:St}{H:Hp}{s:Shared}{T:String}{x:V}{v:Value}(I:Inv X pins σ H s)(r:gX x v)(ty:tyV X.K T x H) :
  s.TypeIs v T∧∀a,v=.ref a→∃ob,s.heap.get? a=some ob∧ob.dict=none:=by
 cases x with
 |str z=>
  obtain⟨t,rfl⟩:=r
  cases(show T="str" from ty)
  exact⟨typeIs_str s z t,fun _ e=>nomatch e⟩
 |int i=>
  obtain⟨t,rfl⟩:=r
  cases(show T="int" from ty)
  exact⟨typeIs_int s i t,fun _ e=>nomatch e⟩
 |ref p=>
  cases r
  rcases ty with⟨rfl,xs,hq⟩|⟨rfl,o,hk,hc,hd⟩|⟨rfl,hk⟩|⟨rfl,S,n,hk⟩
  .obtain⟨its,_,pl,_⟩:=I.list hq
   refine⟨pl.isList.typeIs,fun a e=>?_⟩
   cases e
   obtain⟨o,n,e,c,hd,_⟩:=pl
   exact⟨o,e,hd⟩
  .refine⟨⟨o,I.kIn p o hk,hc⟩,fun a e=>?_⟩
   cases e
   exact⟨o,I.kIn _ o hk,hd⟩
  .have z:∃o,s.heap.get? p=some o∧o.ExactDict:=by
    rcases hk with⟨kvs,hk⟩|⟨kvs,hk⟩
    .obtain⟨_,_,_,_,o,_,_,e,ex,_⟩:=I.hok p _ hk
     exact⟨o,e,ex⟩
    .obtain⟨_,_,_,_,o,_,_,e,ex,_⟩:=I.hok p _ hk
     exact⟨o,e,ex⟩
   obtain⟨o,e,ex⟩:=z
   refine⟨⟨o,e,ex.1⟩,fun a e2=>?_⟩
   cases e2
   exact⟨o,e,ex.2.1⟩
  .obtain⟨o,_,_,_,e,ex,_⟩:=I.hok p _ hk
   refine⟨⟨o,e,ex.1⟩,fun a e2=>?_⟩
   cases e2
   exact⟨o,e,ex.2.1⟩
 |_=>exact Dz ty
def bF8(K:Ad)(T:String)(r:V→List V→Hp→VK→Prop)(to:TE):TE:=fun σ H Q=>to σ H fun x H1=>tyV K T x H1∧r x [] H1 Q
def tBM(K:Ad)(T:String)(r:V→List V→Hp→VK→Prop)(to:TE)(t:TA):TE:=fun σ H Q=>to σ H fun x H1=>tyV K T x H1∧t σ H1 fun xs H2=>r x xs H2 Q
variable{o e:Expr}{es:List Expr}{to:TE}{t:TA}{name:Str}{apos cpos:Pos}{T id:String}{r:V→List V→Hp→VK→Prop}
theorem bAu(pa:PlainAttrs T)(slot:Slot T name id)(hty:typeOf (.builtin id)=pure (.type "method_descriptor"))(hm:MtR X id r)(ho:PE X o to)
  (hbase:attributeBase o name X.env (eval o X.env)=eval o X.env:=by rfl) (hline:(apos.endLine==cpos.line)=true:=by rfl):PE X (.Call (.Attribute o name apos) [] [] cpos) (bF8 X.K T r to):=by
 intro pins s σ H Q I h
 refine wpAny_Call_method0_late hbase hline (thn (ho pins s σ H _ I h) fun v s1 ⟨x,H1,I1,r1,ty,q1⟩=>?_)
 obtain⟨h1,h2⟩:=aTg I1 r1 ty
 exact⟨T,id,pa,slot,hty,h1,h2,Calls.callWith_builtin rfl (PySem.evalArgs_none (hm pins s1 σ H1 x [] v [] Q I1 r1 .nil q1))⟩
theorem aJa(pa:PlainAttrs T)(slot:Slot T name id)(hty:typeOf (.builtin id)=pure (.type "method_descriptor"))(hm:MtR X id r)(ho:PE X o to)(ha:PA X (e::es) t)
  (hbase:attributeBase o name X.env (eval o X.env)=eval o X.env:=by rfl)
  (hfew:((backTo cpos (starEach (e::es) X.env)).all (fun x=>!x.1)&&(backToKw cpos (keywordEach [] X.env)).all (fun x=>x.1.isSome)
  &&decide ((e::es).length+([]:List Keyword).length+(if([]:List Keyword).isEmpty then 0 else 1)<30))=true:=by rfl)
  (hline:(apos.endLine==cpos.line)=true:=by rfl) (hs:starEach (e::es) X.env=(false,eval e X.env)::starEach es X.env:=by rfl) (hplain:(backTo cpos (starEach es X.env)).any (·.1)=false:=by rfl) :
  PE X (.Call (.Attribute o name apos) (e::es) [] cpos) (tBM X.K T r to t):=by
 intro pins s σ H Q I h
 refine wpAny_Call_method_late hbase hfew hline rfl (thn (ho pins s σ H _ I h) fun v s1 ⟨x,H1,I1,r1,ty,q1⟩=>?_)
 obtain⟨h1,h2⟩:=aTg I1 r1 ty
 refine⟨T,id,pa,slot,hty,h1,h2,?_⟩
 have hA:=ha cpos pins s1 σ H1 _ I1 q1
 rw[hs]at hA ⊢
 refine Calls.callWith_builtin (by show(false||(backTo cpos (starEach es X.env)).any (·.1))=false;rw[hplain]<;>rfl) (Calls.evalArgs_plain ?_)
 exact thn hA fun us s2 ⟨vs,H2,I2,r2,q2⟩=>hm pins s2 σ H2 x vs v us Q I2 r1 r2 q2
end
def MtM(X:Cx)(id:String)(r:V→List V→Hp→VK→Prop):Prop:=
 ∀(pins:List (Addr×Obj))(s:Shared)(σ:St)(H:Hp)(x:V)(xs:List V)(v:Value)(us:List Value)(Q:VK),Inv X pins σ H s→gX x v→Vals xs us→r x xs H Q→
  wpAny (model X.prog X.w) X.A (call (.builtin id) (v::us)) (EP X pins σ Q) X.xe s
theorem Vals.one:∀{x:V}{us:List Value},Vals [x] us→∃u,us=[u]∧gX x u
 |_,_,.cons r .nil=>⟨_,rfl,r⟩
theorem Vals.zero:∀{us:List Value},Vals [] us→us=[]
 |_,.nil=>rfl
theorem Vals.dropLast{xs:List V}{us:List Value}(h:Vals xs us):Vals xs.dropLast us.dropLast:=by
 induction h with
 |nil=>exact .nil
 |cons r t ih=>
  cases t with
  |nil=>exact .nil
  |cons q t'=>exact .cons r ih
theorem Vals.reverse{xs:List V}{us:List Value}(h:Vals xs us):Vals xs.reverse us.reverse:=by
 induction h with
 |nil=>exact .nil
 |cons r t ih=>rw[Et,Et];exact Vals.append ih (.cons r .nil)
theorem aI2{α:Type}(l:List α):l.eraseIdx (l.length-1)=l.dropLast:=by
 induction l with
 |nil=>rfl
 |cons a r ih=>
  cases r with
  |nil=>rfl
  |cons b r=>
   have e:(a::b::r).length-1=((b::r).length-1)+1:=by
    have h1:(a::b::r).length=r.length+2:=rfl
    have h2:(b::r).length=r.length+1:=rfl
    omega
   rw[e,List.eraseIdx_cons_succ,ih]
   all_goals rfl
section
variable{X:Cx}{pins:List (Addr×Obj)}{σ:St}{H:Hp}{s:Shared}{l b:Addr}{xs ys zs:List V}
theorem Inv.lset{its its':List Value}{n:Nat}{f:Array Value→Array Value}{t':Nat}(I:Inv X pins σ H s)(hH:H l=some (.lst xs))
  (e:s.heap.get? l=some { cls:=.type "list",data:=.seq its.toArray n }) (hf:f its.toArray=its'.toArray) (hv:Vals ys its') (hz:ys.length≤sizeLine) :
  Inv X pins σ (upd H l (.lst ys)) { s with heap:=s.heap.update l (Obj.mapSeq f),toks:=t' }:=by
 have q:=PySem.IsL.update e f
 rw[hf]at q
 refine I.write (x:=l) (e:=l) (by rw[hH];exact trivial) (.inl rfl) (fun b' u hb hu=>(Heap.get?_update_other s.heap (Obj.mapSeq f) (Hm hb)).trans hu) ⟨_,q⟩ ?_
 exact⟨hz,its',_,hv,q⟩
theorem Inv.lnew{its:List Value}{t':Nat}(I:Inv X pins σ H s)(hv:Vals ys its)(hz:ys.length≤sizeLine) :
  Inv X pins σ (upd H s.heap.objs.size (.lst ys)) { s with heap:=s.heap.push { cls:=.type "list",data:=.seq its.toArray },toks:=t' }:=
 I.laid (fun _ _ q=>Heap.get?_push_of_some _ q) (An _) ⟨hz,its,0,hv,Heap.get?_push_size _ rfl⟩
theorem Inv.fresh(I:Inv X pins σ H s):H s.heap.objs.size=none:=I.hok.fresh (An _)
theorem Inv.lstM(I:Inv X pins σ H s)(hH:H l=some (.lst xs)):xs.length≤sizeLine∧∃(its:List Value)(n:Nat),Vals xs its∧xs.length=its.length∧s.heap.get? l=some { cls:=.type "list",data:=.seq its.toArray n }:=by
 obtain⟨z,its,n,r,e⟩:=I.hok l _ hH
 exact⟨z,its,n,r,r.length,e⟩
theorem aR1{n:Nat}(h:n≤sizeLine):Builtin.List.listTooLong n=false:=by
 unfold Builtin.List.listTooLong
 exact def_ (by omega)
end
section
variable{X:Cx}
def aFs:V→List V→Hp→VK→Prop:=fun x vs H Q=>∃l xs y,x=.ref l∧vs=[y]∧H l=some (.lst xs)∧xs.length<sizeLine∧Q .non (upd H l (.lst (xs++[y])))
theorem wJ:MtM X "list.append" aFs:=by
 intro pins s σ H x vs v us Q I rx rv h
 obtain⟨l,xs,y,rfl,rfl,hH,hz,q⟩:=h
 cases rx
 obtain⟨u,rfl,ru⟩:=rv.one
 obtain⟨z,its,n,r,hl,e⟩:=I.lstM hH
 refine call_meets F.slot_list_append ⟨_,e,rfl⟩ F.entry_list_append (F.args_list_append_2 _ _) (PySem.list_append l its.toArray n u (by rw[Am];omega)) ⟨e,?_⟩
 refine⟨.non,_,I.lset (its':=its++[u]) hH e (by simp) (r.append (.cons ru .nil)) ?_,rfl,q⟩
 rw[A6,List.length_singleton]
 omega
def aOi:V→List V→Hp→VK→Prop:=fun x vs H Q=>∃l b xs zs,x=.ref l∧vs=[.ref b]∧H l=some (.lst xs)∧H b=some (.lst zs)∧xs.length+zs.length≤sizeLine∧Q .non (upd H l (.lst (xs++zs)))
theorem aCp:MtM X "list.extend" aOi:=by
 intro pins s σ H x vs v us Q I rx rv h
 obtain⟨l,b,xs,zs,rfl,rfl,hH,hB,hz,q⟩:=h
 cases rx
 obtain⟨u,rfl,ru⟩:=rv.one
 cases ru
 obtain⟨z,its,n,r,hl,e⟩:=I.lstM hH
 obtain⟨z2,its2,n2,r2,hl2,e2⟩:=I.lstM hB
 have hsz:its.toArray.size+its2.toArray.size≤sizeLine:=by rw[Am,Am];omega
 have hlong:¬(!its.toArray.isEmpty&&Builtin.List.listTooLong (its.toArray.size+its2.toArray.size))=true:=by
  rw[aR1 hsz,Mn]
  exact A5
 refine call_meets F.slot_list_extend ⟨_,e,rfl⟩ F.entry_list_extend (F.args_list_extend_2 _ _)
  (AutoSeq1.list_extend_list_list_0 l its.toArray n b its2.toArray n2 hlong (by rw[Am];omega) (by omega)) ⟨e,e2,?_⟩
 refine⟨.non,_,I.lset (its':=its++its2) hH e (by simp) (r.append r2) ?_,rfl,q⟩
 rw[A6]
 omega
def bF4:V→List V→Hp→VK→Prop:=fun x vs H Q=>∃l xs y,x=.ref l∧vs=[]∧H l=some (.lst xs)∧xs[xs.length-1]?=some y∧Q y (upd H l (.lst xs.dropLast))
theorem aZd:MtM X "list.pop" bF4:=by
 intro pins s σ H x vs v us Q I rx rv h
 obtain⟨l,xs,y,rfl,rfl,hH,hy,q⟩:=h
 cases rx
 have hus:=rv.zero
 subst hus
 obtain⟨z,its,n,r,hl,e⟩:=I.lstM hH
 obtain⟨u,hu,ru⟩:=r.get hy
 have hy':its.toArray[its.toArray.size-1]?=some u:=by
  show its.toArray[its.length-1]?=some u
  rw[←Jo,←hl]
  exact hu
 refine call_meets F.slot_list_pop ⟨_,e,rfl⟩ F.entry_list_pop (F.args_list_pop_1 _) (MeetsSeq.list_pop_last l its.toArray n u hy' (by rw[Am];omega)) ⟨e,?_⟩
 refine⟨y,_,I.lset (its':=its.dropLast) hH e ?_ r.dropLast ?_,ru,q⟩
 .show its.toArray.eraseIdxIfInBounds (its.toArray.size-1)=its.dropLast.toArray
  rw[Am,List.eraseIdxIfInBounds_toArray,aI2]
 .rw[List.length_dropLast]
  omega
def bGx:R2:=fun x y H Q=>∃l b xs zs,x=.ref l∧y=.ref b∧H l=some (.lst xs)∧H b=some (.lst zs)∧xs.length+zs.length≤sizeLine∧∀p,H p=none→Q (.ref p) (upd H p (.lst (xs++zs)))
theorem bAn:OpR X (binaryOp .Add) bGx:=by
 intro pins s σ H x y v u Q I rx ry h
 obtain⟨l,b,xs,zs,rfl,rfl,hH,hB,hz,q⟩:=h
 cases rx
 cases ry
 obtain⟨z,its,n,r,hl,e⟩:=I.lstM hH
 obtain⟨z2,its2,n2,r2,hl2,e2⟩:=I.lstM hB
 refine PySem.P.add_list e e2 ?_ (by rw[Am,Am];omega)
 have ea:its.toArray++its2.toArray=(its++its2).toArray:=by simp
 rw[ea]
 exact⟨.ref _,_,I.lnew (t':=s.toks) (r.append r2) (by rw[A6];omega),rfl,q _ I.fresh⟩
end
section
variable{prog:Program}{w:World}{A:Around}{E:Value→Shared→Prop}{s:Shared}
end
section
variable{X:Cx}
end
theorem Vals.intz:∀{ns:List Int}{us:List Value},Vals (ns.map V.int) us→IntsAre us ns
 |[],us,h=>by
  rw[G4]at h
  cases h
  exact IntsAre.nil
 |n::ns,us,h=>by
  rw[Ai]at h
  cases h with
  |cons r t=>
   obtain⟨k,rfl⟩:=r
   exact IntsAre.cons n k (Vals.intz t)
theorem Vals.bls:∀{bs:List Bool}{us:List Value},Vals (bs.map V.bl) us→us=bs.map Value.bool
 |[],us,h=>by
  rw[G4]at h
  cases h
  rfl
 |b::bs,us,h=>by
  rw[Ai]at h
  cases h with
  |cons r t=>
   cases r
   rw[Vals.bls t,Ai]
theorem Vals.ref1{a:Addr}{us:List Value}(r:Vals [V.ref a] us):us=[Value.ref a]:=by
 cases r with
 |cons r t=>
  cases t
  cases r
  rfl
section
variable{prog:Program}{w:World}{A:Around}{E:Value→Shared→Prop}{s:Shared}{l:Addr}{its:List Value}{ns:List Int}{Q:Value→Shared→Prop}
theorem aX9(hh:A.handled=none)(hl:s.heap.IsList l its.toArray)(hi:IntsAre its ns)
  (h:∀h' tk t',(∀b o,s.heap.get? b=some o→h'.get? b=some o)→Q (.int ns.sum t') { s with heap:=h',toks:=tk }):wpAny (model prog w) A (call (.builtin "sum") [.ref l]) Q E s:=by
 obtain⟨xs,e⟩:=hi.allInts.items
 have hn:numsOf (intItems xs).toList=ns:=by rw[←e];exact hi.numsOf
 rw[nums_intItems]at hn
 rw[e]at hl
 refine PySem.sum_intListG hh hl fun h' tk t' hk=>?_
 have:=h h' tk t' hk
 rw[preSum_eq,Gu (by simp),hn];exact this
theorem aUm(hh:A.handled=none)(hl:s.heap.IsList l its.toArray)(hi:IntsAre its ns)(hne:0<ns.length)
  (h:∀h' tk M t',(∀b o,s.heap.get? b=some o→h'.get? b=some o)→M∈ns→(∀a,a∈ns→a≤M)→Q (.int M t') { s with heap:=h',toks:=tk }):wpAny (model prog w) A (call (.builtin "max") [.ref l]) Q E s:=by
 obtain⟨xs,e⟩:=hi.allInts.items
 have hn:numsOf (intItems xs).toList=ns:=by rw[←e];exact hi.numsOf
 rw[nums_intItems]at hn
 subst hn
 rw[e]at hl
 have hsz:0<xs.size:=by simpa using hne
 refine PySem.max_intList hh hl hsz fun v h' tk hv hk=>?_
 obtain⟨t,rfl⟩:=intItems_at hv
 obtain⟨h1,h2⟩:=argBest_gt (numAt xs) (xs.size-1)
 refine h h' tk _ t hk ?_ fun a ha=>?_
 .rw[numAt_eq];exact Mo (by rw[Ag,C2];omega)
 .obtain⟨j,hj,rfl⟩:=mem_getD ha
  rw[Ag,C2]at hj
  rw[←numAt_eq];exact h2 j (by omega)
theorem aUo(hh:A.handled=none)(hl:s.heap.IsList l its.toArray)(hi:IntsAre its ns)(hne:0<ns.length)
  (h:∀h' tk M t',(∀b o,s.heap.get? b=some o→h'.get? b=some o)→M∈ns→(∀a,a∈ns→M≤a)→Q (.int M t') { s with heap:=h',toks:=tk }):wpAny (model prog w) A (call (.builtin "min") [.ref l]) Q E s:=by
 obtain⟨xs,e⟩:=hi.allInts.items
 have hn:numsOf (intItems xs).toList=ns:=by rw[←e];exact hi.numsOf
 rw[nums_intItems]at hn
 subst hn
 rw[e]at hl
 have hsz:0<xs.size:=by simpa using hne
 refine PySem.min_intList hh hl hsz fun v h' tk hv hk=>?_
 obtain⟨t,rfl⟩:=intItems_at hv
 obtain⟨h1,h2⟩:=argBest_lt (numAt xs) (xs.size-1)
 refine h h' tk _ t hk ?_ fun a ha=>?_
 .rw[numAt_eq];exact Mo (by rw[Ag,C2];omega)
 .obtain⟨j,hj,rfl⟩:=mem_getD ha
  rw[Ag,C2]at hj
  rw[←numAt_eq];exact h2 j (by omega)
end
section
variable{X:Cx}
def bF5(K:Ad):List V→Hp→VK→Prop:=fun vs H Q=>∃(a:Addr)(ns:List Int),vs=[V.ref a]∧SqL K H a (ns.map V.int)∧Q (.int ns.sum) H
def bF2(K:Ad):List V→Hp→VK→Prop:=fun vs H Q=>∃(a:Addr)(ns:List Int),vs=[V.ref a]∧SqL K H a (ns.map V.int)∧0<ns.length∧∀m,m∈ns→(∀y,y∈ns→y≤m)→Q (.int m) H
def bF3(K:Ad):List V→Hp→VK→Prop:=fun vs H Q=>∃(a:Addr)(ns:List Int),vs=[V.ref a]∧SqL K H a (ns.map V.int)∧0<ns.length∧∀m,m∈ns→(∀y,y∈ns→m≤y)→Q (.int m) H
theorem aYb(hc:X.calm=true):pS X (.builtin "sum") (bF5 X.K):=by
 intro pins s σ H vs us Q I r h
 obtain⟨a,ns,rfl,hs,q⟩:=h
 obtain⟨its,rv,hl,_⟩:=I.list hs
 rw[Vals.ref1 r]
 exact aX9 (I.ok.hd hc) hl.isList rv.intz fun h' tk t' hk=>⟨.int _,H,I.kept hk,⟨_,rfl⟩,q⟩
theorem aY9(hc:X.calm=true):pS X (.builtin "max") (bF2 X.K):=by
 intro pins s σ H vs us Q I r h
 obtain⟨a,ns,rfl,hs,hne,q⟩:=h
 obtain⟨its,rv,hl,_⟩:=I.list hs
 rw[Vals.ref1 r]
 exact aUm (I.ok.hd hc) hl.isList rv.intz hne fun h' tk m t' hk h1 h2=>⟨.int _,H,I.kept hk,⟨_,rfl⟩,q m h1 h2⟩
theorem aYa(hc:X.calm=true):pS X (.builtin "min") (bF3 X.K):=by
 intro pins s σ H vs us Q I r h
 obtain⟨a,ns,rfl,hs,hne,q⟩:=h
 obtain⟨its,rv,hl,_⟩:=I.list hs
 rw[Vals.ref1 r]
 exact aUo (I.ok.hd hc) hl.isList rv.intz hne fun h' tk m t' hk h1 h2=>⟨.int _,H,I.kept hk,⟨_,rfl⟩,q m h1 h2⟩
end
theorem aGs{prog:Program}{w:World}{A:Around}{E:Value→Shared→Prop}{s:Shared}{l:Addr}{items:Array Value}{Q:Value→Shared→Prop}(hl:s.heap.IsList l items)
  (h:∀s₂:Shared,s₂={ s with heap:=s.heap.push { cls:=.type "list_iterator",data:=.fields #[.ref l,.int 0 0] } }→
   (s₂.heap.IsListIter s.heap.objs.size l 0∧s₂.heap.IsList l items)→l≠s.heap.objs.size→Q (.ref s.heap.objs.size) s₂):wpAny (model prog w) A (pyIter (.ref l)) Q E s:=by
 have hlt:l<s.heap.objs.size:=by obtain⟨_,e,_⟩:=hl;exact Heap.lt_size e
 exact wpAny_pyIter_list hl (h _ rfl ⟨⟨_,Heap.get?_push_size _ rfl,rfl,rfl⟩,hl.push _⟩ (Cv hlt))
theorem xL{prog:Program}{w:World}{A:Around}{bs:List Bool}{its:List Value}(e:its=bs.map Value.bool) :
  TruthOf prog w A (fun i v=>its.toArray[i]?=some v) (fun i=>bs.getD i false):=fun i v s Q E hv hq=>by
 have hv':its[i]?=some v:=by simpa using hv
 rw[e,Bb]at hv'
 obtain⟨b,hb,rfl⟩:=Ae.mp hv'
 have hg:bs.getD i false=b:=by rw[B4,hb]<;>rfl
 have hq':Q (bs.getD i false) s:=hq
 rw[hg]at hq'
 exact wpAny_truthy_bool hq'
theorem aC6:∀bs:List Bool,(Ab bs.length).any (fun i=>bs.getD i false)=bs.any id
 |[]=>rfl
 |b::bs=>by
  rw[Ar,Av,Hh,List.any_map,Hh,←aC6 bs]
  all_goals rfl
theorem aC5:∀bs:List Bool,(Ab bs.length).all (fun i=>bs.getD i false)=bs.all id
 |[]=>rfl
 |b::bs=>by
  rw[Ar,Av,Bz,Jp,Bz,←aC5 bs]
  all_goals rfl
section
variable{X:Cx}
def bF1(K:Ad):List V→Hp→VK→Prop:=fun vs H Q=>∃(a:Addr)(bs:List Bool),vs=[V.ref a]∧SqL K H a (bs.map V.bl)∧Q (.bl (bs.any id)) H
def bF0(K:Ad):List V→Hp→VK→Prop:=fun vs H Q=>∃(a:Addr)(bs:List Bool),vs=[V.ref a]∧SqL K H a (bs.map V.bl)∧Q (.bl (bs.all id)) H
theorem aY8(hc:X.calm=true):pS X (.builtin "any") (bF1 X.K):=by
 intro pins s σ H vs us Q I r h
 obtain⟨a,bs,rfl,hs,q⟩:=h
 obtain⟨its,rv,hl,_⟩:=I.list hs
 rw[Vals.ref1 r]
 have hb:=rv.bls
 refine call_any_walk (aGs hl.isList fun s₂ e2 st hne=>?_)
 subst e2
 refine⟨_,_,_,_,_,_,_,rfl,Walks.list (A:=X.A.in1) (I.ok.hd hc) _ a hne its.toArray,st,xL hb,fun h' tk hk=>?_⟩
 refine⟨.bl _,H,I.kept fun b o eo=>hk b o (fun hmem=>?_) (Heap.get?_push_of_some _ eo),?_,q⟩
 .rcases A1.mp hmem with e1|hmem
  .exact absurd (e1▸Heap.lt_size eo) (Da _)
  .cases hmem
 .show Value.bool _=Value.bool _
  rw[←aC6,hb,Am,Ag]
theorem aY7(hc:X.calm=true):pS X (.builtin "all") (bF0 X.K):=by
 intro pins s σ H vs us Q I r h
 obtain⟨a,bs,rfl,hs,q⟩:=h
 obtain⟨its,rv,hl,_⟩:=I.list hs
 rw[Vals.ref1 r]
 have hb:=rv.bls
 refine call_all_walk (aGs hl.isList fun s₂ e2 st hne=>?_)
 subst e2
 refine⟨_,_,_,_,_,_,_,rfl,Walks.list (A:=X.A.in1) (I.ok.hd hc) _ a hne its.toArray,st,xL hb,fun h' tk hk=>?_⟩
 refine⟨.bl _,H,I.kept fun b o eo=>hk b o (fun hmem=>?_) (Heap.get?_push_of_some _ eo),?_,q⟩
 .rcases A1.mp hmem with e1|hmem
  .exact absurd (e1▸Heap.lt_size eo) (Da _)
  .cases hmem
 .show Value.bool _=Value.bool _
  rw[←aC5,hb,Am,Ag]
end
section
variable{X:Cx}{pins:List (Addr×Obj)}{σ:St}{H:Hp}{s:Shared}
end
section
variable{X:Cx}
end
abbrev aSh(h:Heap)(c:Addr)(v:Option Value):Prop:=h.IsCell c v
noncomputable def bBh (scope sc:Scope):Scope:=
 { scope with names:=scope.names.map fun(n,k)=>if(k==.free&&sc.kind==.function&&sc.names.lookup n==some .cell)then(n,.cell)else(n,k) }
noncomputable def dH (cells:List (Str×Addr)):List (Str×NameKind)→List (Str×Addr)→List (Str×Addr)
 |[],acc=>acc
 |(n,k)::r,acc=>if k==.free then dH cells r ((n,(cells.lookup n).getD 0)::acc)else dH cells r acc
theorem sY(env:Env)(f:Str×NameKind→List (Str×Addr)→Sem (ForInStep (List (Str×Addr))))
  (hf:∀n k c,f (n,k) c=if k==.free then(do let a ←cellOf env n;pure (.yield ((n,a)::c)))else pure (.yield c)) :
  ∀(names:List (Str×NameKind))(acc:List (Str×Addr)),(∀y∈names,y.2=.free→∃c,env.cells.lookup y.1=some c)→forIn names acc f=pure (dH env.cells names acc)
 |[],acc,_=>by rw[Mp];rfl
 |(n,k)::r,acc,h=>by
  rw[List.forIn_cons,hf]
  have ih:=fun acc=>sY env f hf r acc fun y hy=>h y (A4 _ hy)
  unfold dH
  by_cases hk:(k==NameKind.free)=true
  .rw[ip hk,ip hk]
   obtain⟨c,hc⟩:=h (n,k) Bu (by simpa using hk)
   have e:cellOf env n=pure c:=by unfold cellOf;rw[hc]
   rw[e]
   have e2:(env.cells.lookup n).getD 0=c:=by rw[hc];rfl
   rw[e2]
   exact ih _
  .rw[ig hk,ig hk]
   exact ih _
theorem aHz{scope:Scope}{env:Env}(h:∀y∈scope.names,y.2=.free→∃c,env.cells.lookup y.1=some c):closureFor scope env=pure (dH env.cells scope.names []):=by
 simp only[closureFor]
 rw[sY env _ (fun n k c=>rfl) scope.names [] h]
 rfl
theorem sC{α:Type}:∀{l:List (Str×α)}{n:Str}{c:α},(n,c)∈l→∃c',l.lookup n=some c'
 |(k,v)::r,n,c,h=>by
  rw[D5]
  cases hb:n==k with
  |true=>exact⟨_,rfl⟩
  |false=>
   rcases A1.mp h with e|h
   .cases e;simp at hb
   .exact sC h
theorem mB{cells:List (Str×Addr)}:∀{names:List (Str×NameKind)}{acc:List (Str×Addr)}{n:Str}{c:Addr},(n,c)∈dH cells names acc→(n,c)∈acc∨((n,.free)∈names∧c=(cells.lookup n).getD 0)
 |[],_,_,_,h=>.inl h
 |(m,k)::r,acc,n,c,h=>by
  unfold dH at h
  split at h
  .rename_i hk
   have hk:k=.free:=by simpa using hk
   rcases mB h with h|⟨h1,h2⟩
   .rcases A1.mp h with e|h
    .cases e;exact .inr ⟨hk▸Bu,rfl⟩
    .exact .inl h
   .exact .inr ⟨A4 _ h1,h2⟩
  .rcases mB h with h|⟨h1,h2⟩
   .exact .inl h
   .exact .inr ⟨A4 _ h1,h2⟩
theorem pD{cells:List (Str×Addr)}:∀{names:List (Str×NameKind)}{acc:List (Str×Addr)}{p:Str×Addr},p∈acc→p∈dH cells names acc
 |[],_,_,h=>h
 |(m,k)::r,acc,p,h=>by
  unfold dH
  split
  .exact pD (A4 _ h)
  .exact pD h
theorem pE{cells:List (Str×Addr)}:∀{names:List (Str×NameKind)}{acc:List (Str×Addr)}{n:Str},(n,.free)∈names→(n,(cells.lookup n).getD 0)∈dH cells names acc
 |(m,k)::r,acc,n,h=>by
  unfold dH
  rcases A1.mp h with e|h
  .cases e
   exact pD Bu
  .split
   .exact pE h
   .exact pE h
theorem nE:∀{names:List (Str×NameKind)}{h:Heap}{acc:List (Str×Addr)}{x:Str}{c:Addr},(x,c)∈cellsFrom h.objs.size names acc→
  (x,c)∈acc∨((x,.cell)∈names∧h.objs.size≤c∧aSh (pushCells h names) c none)
 |[],_,_,_,_,h=>.inl h
 |(n,k)::r,h,acc,x,c,hm=>by
  unfold cellsFrom at hm
  unfold pushCells
  split at hm
  .rename_i hk
   rw[ip hk]
   have hk:k=.cell:=by simpa using hk
   rw[←Heap.size_push h { cls:=.type "cell",data:=.cell none }]at hm
   rcases nE hm with hm|⟨h1,h2,h3⟩
   .rcases A1.mp hm with e|hm
    .cases e
     exact .inr ⟨hk▸Bu,An _,_,pushCells_keeps r _ _ _ (Heap.get?_push_size _ rfl),rfl⟩
    .exact .inl hm
   .rw[Heap.size_push]at h2
    exact .inr ⟨A4 _ h1,Gw h2,h3⟩
  .rename_i hk
   rw[ig hk]
   rcases nE hm with hm|⟨h1,h2,h3⟩
   .exact .inl hm
   .exact .inr ⟨A4 _ h1,h2,h3⟩
theorem pW:∀{names:List (Str×NameKind)}{n:Nat}{acc:List (Str×Addr)}{p:Str×Addr},p∈acc→p∈cellsFrom n names acc
 |[],_,_,_,h=>h
 |(m,k)::r,n,acc,p,h=>by
  unfold cellsFrom
  split
  .exact pW (A4 _ h)
  .exact pW h
theorem vJ:∀{names:List (Str×NameKind)}{n:Nat}{acc:List (Str×Addr)}{x:Str},(x,.cell)∈names→∃c,(x,c)∈cellsFrom n names acc
 |(m,k)::r,n,acc,x,h=>by
  unfold cellsFrom
  rcases A1.mp h with e|h
  .cases e
   exact⟨n,pW Bu⟩
  .split
   .exact vJ h
   .exact vJ h
theorem vK:∀{names:List (Str×NameKind)}{h:Heap}{acc:List (Str×Addr)}{x y:Str}{c:Addr},(∀p∈acc,p.2<h.objs.size)→(∀x y c,(x,c)∈acc→(y,c)∈acc→x=y)→
  (x,c)∈cellsFrom h.objs.size names acc→(y,c)∈cellsFrom h.objs.size names acc→x=y
 |[],_,_,_,_,_,_,hi,h1,h2=>hi _ _ _ h1 h2
 |(n,k)::r,h,acc,x,y,c,hl,hi,h1,h2=>by
  unfold cellsFrom at h1 h2
  split at h1
  .rename_i hk
   rw[ip hk]at h2
   rw[←Heap.size_push h { cls:=.type "cell",data:=.cell none }]at h1 h2
   refine vK (h:=h.push _) (fun p hp=>?_) (fun x y c a b=>?_) h1 h2
   .rw[Heap.size_push]
    rcases A1.mp hp with rfl|hp
    .exact Fb _
    .exact Gx (hl p hp)
   .rcases A1.mp a with e|a<;>rcases A1.mp b with e'|b
    .cases e;cases e';rfl
    .cases e;exact absurd (hl _ b) (Da _)
    .cases e';exact absurd (hl _ a) (Da _)
    .exact hi _ _ _ a b
  .rename_i hk
   rw[ig hk]at h2
   exact vK hl hi h1 h2
theorem aF5{M:Model}{A:Around}{E:Value→Shared→Prop}{s:Shared}{scope:Scope}{globals:Addr}{closure:List (Str×Addr)}{qual:Str}{func:Option Addr}{code:Value}{around:Env}{builtins:Addr}{Q:Env→Shared→Prop}
  (h:Q (newEnv scope s.heap.objs.size globals (cellsFrom (s.heap.objs.size+1) scope.names closure) qual func code (some around) builtins)
   { s with heap:=pushCells (s.heap.push { cls:=.type "dict",data:=.dict #[] }) scope.names }) :
  wpAny M A (newFunctionEnv scope globals closure [] qual func code (some around) builtins) Q E s:=by
 simp only[newFunctionEnv,Option.isSome_some,if_true]
 refine wpAny_bind (wpAny_alloc ?_)
 refine wpAny_bind (wpAny_layCells _ (fun n k c=>rfl) scope.names closure _ _ ?_)
 rw[show({ s with heap:=s.heap.push { cls:=.type "dict",data:=.dict #[] } }:Shared).heap.objs.size=s.heap.objs.size+1 from Heap.size_push ..]
 rw[Mp]
 exact wpAny_bind (wpAny_pure (wpAny_pure h))
theorem pK{sc:Scope}:∀{names:List (Str×NameKind)}{x:Str}{k:NameKind},
  (names.map fun(n,k)=>if(k==NameKind.free&&sc.kind==.function&&sc.names.lookup n==some .cell)then(n,NameKind.cell)else(n,k)).lookup x=some k→
  ∃k',names.lookup x=some k'∧(k=k'∨(k'=.free∧k=.cell))
 |[],_,_,h=>by simp at h
 |(n,k₀)::r,x,k,h=>by
  have ih:=@pK sc r x k
  have h':E3 x ((if(k₀==NameKind.free&&sc.kind==.function&&sc.names.lookup n==some .cell)=true then(n,NameKind.cell)else(n,k₀))::(r.map _))=some k:=h
  cases hx:x==n with
  |true=>
   simp only[D5,hx]
   by_cases hc:(k₀==NameKind.free&&sc.kind==.function&&sc.names.lookup n==some .cell)=true
   .rw[ip hc]at h'
    simp only[D5,hx]at h'
    cases h'
    simp only[Ac,beq_iff_eq]at hc
    exact⟨k₀,rfl,.inr ⟨hc.1.1,rfl⟩⟩
   .rw[ig hc]at h'
    simp only[D5,hx]at h'
    cases h'
    exact⟨_,rfl,.inl rfl⟩
  |false=>
   simp only[D5,hx]
   by_cases hc:(k₀==NameKind.free&&sc.kind==.function&&sc.names.lookup n==some .cell)=true
   .rw[ip hc]at h'
    simp only[D5,hx]at h'
    exact ih h'
   .rw[ig hc]at h'
    simp only[D5,hx]at h'
    exact ih h'
structure BlkOk(N:List Str)(sc scope:Scope)(own:List (Str×Nat)):Prop where
 kind:scope.kind=.function
 uniq:∀y∈scope.names,scope.names.lookup y.1=some y.2
 ix:∀p∈own,N[p.2]?=some p.1
 free:∀y∈scope.names,y.2=.free→sc.names.lookup y.1=some .cell∨sc.names.lookup y.1=some .free
 own:∀y∈scope.names,y.2=.local∨y.2=.cell→y.1∈own.map (·.1)∨y.1∉N
noncomputable def wipe (σ:St):List Nat→St
 |[]=>σ
 |v::vs=>(wipe σ vs).set v none
theorem pR(σ:St):∀vs:List Nat,(wipe σ vs).length=σ.length
 |[]=>rfl
 |v::vs=>by unfold wipe;rw[Jn,pR σ vs]
theorem xM{σ:St}{i:Nat}{x:V}:∀{vs:List Nat},(wipe σ vs)[i]?=some (some x)→σ[i]?=some (some x)∧i∉vs
 |[],h=>⟨h,by simp⟩
 |v::vs,h=>by
  unfold wipe at h
  by_cases hi:v=i
  .subst hi
   by_cases hv:v<(wipe σ vs).length
   .rw[Cb hv]at h;cases h
   .rw[Dh (by simpa using hv)]at h;cases h
  .rw[Au hi]at h
   obtain⟨h1,h2⟩:=xM h
   exact⟨h1,by simp only[A1,not_or];exact⟨fun e=>hi e.symm,h2⟩⟩
noncomputable abbrev Cx.blk (X:Cx) (s:Shared) (H:Hp) (scope:Scope) (cenv:Env) (fp:List Addr):Cx:={ X with s_0:=s,H_0:=H,env:=cenv,outer:=X.stack,ex:=fp,fn:=fun x=>scope.names.lookup x==some .cell,pn:=[],xe:=fun _ _=>False }
section
variable{X:Cx}{pins:List (Addr×Obj)}{σ:St}{H:Hp}{s:Shared}
theorem aEd{scope:Scope}{own:List (Str×Nat)}{fp:List Addr}(I:Inv X pins σ H s)(ok:BlkOk X.N X.env.scope scope own)(hN:X.N.Nodup)(hfp:∀b∈fp,aJr X pins H b∧b<s.heap.objs.size) :
  Inv (X.blk s H scope (compEnvC scope (cellsFrom (s.heap.objs.size+1) scope.names (dH X.env.cells scope.names [])) s.heap.objs.size X.env) fp) [] (wipe σ (own.map (·.2))) H { s with heap:=pushCells (s.heap.push { cls:=.type "dict",data:=.dict #[] }) scope.names }:=by
 have hfree:∀y∈scope.names,y.2=.free→∃c,X.env.cells.lookup y.1=some c:=fun y hy e=>by
  rcases ok.free y hy e with k|k
  .exact I.ok.has _ (.inl k)
  .exact I.ok.has _ (.inr k)
 generalize hcenv:compEnvC scope (cellsFrom (s.heap.objs.size+1) scope.names (dH X.env.cells scope.names [])) s.heap.objs.size X.env=cenv
 have kp:∀b o,s.heap.get? b=some o→(pushCells (s.heap.push { cls:=.type "dict",data:=.dict #[] }) scope.names).get? b=some o:=fun b o e=>pushCells_keeps _ _ _ _ (Heap.get?_push_of_some _ e)
 have hL:cenv.locals=s.heap.objs.size:=by rw[←hcenv];rfl
 have hcl:cenv.cells=cellsFrom (s.heap.objs.size+1) scope.names (dH X.env.cells scope.names []):=by rw[←hcenv];rfl
 have hsc:cenv.scope=bBh scope X.env.scope:=by rw[←hcenv];rfl
 rw[←Heap.size_push s.heap { cls:=.type "dict",data:=.dict #[] }]at hcl
 have cm:∀{y c},(y,c)∈dH X.env.cells scope.names []→X.env.cells.lookup y=some c∧c<s.heap.objs.size:=fun{y c}hm=>by
  rcases mB hm with hm|⟨h1,rfl⟩
  .cases hm
  .obtain⟨c,hc⟩:=hfree _ h1 rfl
   rw[hc]
   obtain⟨w,z⟩:=I.cell _ _ hc
   exact⟨rfl,z.lt⟩
 have mem:∀{y c},cenv.cells.lookup y=some c→(X.env.cells.lookup y=some c∧c<s.heap.objs.size)∨(s.heap.objs.size+1≤c∧aSh (pushCells (s.heap.push { cls:=.type "dict",data:=.dict #[] }) scope.names) c none):=fun{y c}e=>by
  rw[hcl]at e
  rcases nE (Bq e)with hm|⟨_,h2,h3⟩
  .exact .inl (cm hm)
  .rw[Heap.size_push]at h2;exact .inr ⟨h2,h3⟩
 have look:∀{y},scope.names.lookup y=some .free→∃c,cenv.cells.lookup y=some c∧X.env.cells.lookup y=some c:=fun{y}hl=>by
  have hy:(y,NameKind.free)∈scope.names:=Bq hl
  obtain⟨c',e'⟩:=sC (pW (names:=scope.names) (n:=(s.heap.push { cls:=.type "dict",data:=.dict #[] }).objs.size) (pE (cells:=X.env.cells) (acc:=[]) hy))
  rw[←hcl]at e'
  refine⟨c',e',?_⟩
  rw[hcl]at e'
  rcases nE (Bq e')with hm|⟨h1,_,_⟩
  .exact(cm hm).1
  .have:=ok.uniq _ h1
   rw[hl]at this;cases this
 have okB:(X.blk s H scope cenv fp).Ok:=by
  refine⟨I.ok.mod,by show cenv.scope.kind=_;rw[hsc];exact ok.kind,by show cenv.globals=_;rw[←hcenv];exact I.ok.glob,by show cenv.builtins=_;rw[←hcenv];exact I.ok.blt,by show s.heap.objs.size≤cenv.locals;rw[hL];exact An _,
   fun y z c e1 e2=>?_,fun y hy=>?_,fun y c z e=>?_,I.ok.hd,I.ok.frames,.inl rfl,fun b hb=>⟨?_,fun y c e z=>?_⟩,I.bs,B7 I.ok.bsz I.sz,fun b o e hb=>?_,fun b hb z=>?_,I.stack,I.stkFree⟩
  .have e1:cenv.cells.lookup y=some c:=e1
   have e2:cenv.cells.lookup z=some c:=e2
   rw[hcl]at e1 e2
   refine vK (fun p hp=>?_) (fun y z c a b=>I.ok.inj y z c (cm a).1 (cm b).1) (Bq e1) (Bq e2)
   rw[Heap.size_push]
   exact Gx (cm (y:=p.1) (c:=p.2) hp).2
  .show ∃c,cenv.cells.lookup y=some c
   have key:∀k,cenv.kindOf y=some k→(k=.cell∨k=.free)→∃c,cenv.cells.lookup y=some c:=fun k hk hk'=>by
    unfold Env.kindOf at hk
    rw[hsc]at hk
    obtain⟨k',e,r⟩:=pK hk
    have:k'=.cell∨k'=.free:=by
     rcases r with rfl|⟨rfl,_⟩
     .exact hk'
     .exact .inr rfl
    rcases this with rfl|rfl
    .obtain⟨c,hm⟩:=vJ (n:=(s.heap.push { cls:=.type "dict",data:=.dict #[] }).objs.size) (acc:=dH X.env.cells scope.names []) (Bq e)
     obtain⟨c',e'⟩:=sC hm
     exact⟨c',by rw[hcl];exact e'⟩
    .obtain⟨c,h1,_⟩:=look e
     exact⟨c,h1⟩
   rcases hy with hy|hy
   .exact key _ hy (.inl rfl)
   .exact key _ hy (.inr rfl)
  .have z:(scope.names.lookup y==some NameKind.cell)=true:=z
   have z:scope.names.lookup y=some .cell:=by simpa using z
   have e:cenv.cells.lookup y=some c:=e
   rw[hcl]at e
   rcases nE (Bq e)with hm|⟨_,h2,_⟩
   .rcases mB hm with hm|⟨h1,_⟩
    .cases hm
    .have q:=ok.uniq _ h1
     rw[z]at q;cases q
   .rw[Heap.size_push]at h2
    exact Gw h2
  .show b≠cenv.locals
   rw[hL];exact Cv (hfp b hb).2
  .have e:cenv.cells.lookup y=some c:=e
   rcases mem e with⟨h1,_⟩|⟨h1,_⟩
   .exact(hfp b hb).1.2.2.2.2.1 y c h1 z
   .have h2:s.heap.objs.size+1≤b:=by rw[←z];exact h1
    exact absurd (Bg (hfp b hb).2 (Gw h2)) (Da _)
  .rcases(hfp b hb).1.2.2.2.1 with z|z
   .exact I.ok.noex b o e z
   .exact absurd (Bg (Heap.lt_size e) (B7 I.ok.bsz z)) (Da _)
  .rcases A1.mp (I.stkSub b z)with z|z
   .exact(hfp b hb).1.2.1 z
   .exact(hfp b hb).1.2.2.1 z
 refine⟨okB,rfl,I.bare,Un.kept kp,⟨fun _=>none,?_,fun i y av e1 e2 e3=>?_⟩,fun y c e=>?_,?_,fun y c e=>?_,fun p hp=>?_,I.hok.kept kp,by rw[pR];exact I.len⟩
 .show Heap.Ns _ cenv.locals _
  rw[hL]
  exact Heap.Ns.keeps (Heap.Ns.new ..) fun b o e=>pushCells_keeps _ _ _ _ e
 .obtain⟨e2,hne⟩:=xM e2
  have hfr:scope.names.lookup y=some .free∧(cenv.kindOf y=some .cell∨cenv.kindOf y=some .free):=by
   have key:∀k,cenv.scope.names.lookup y=some k→k=.local∨k=.cell∨k=.free→scope.names.lookup y=some .free∧(cenv.kindOf y=some .cell∨cenv.kindOf y=some .free):=fun k hk hk'=>by
    have hk0:=hk
    rw[hsc]at hk
    obtain⟨k',e,r⟩:=pK hk
    have no:¬(k'=.local∨k'=.cell):=fun hh=>by
     rcases ok.own _ (Bq e) hh with e'|e'
     .obtain⟨p,hp,hpy⟩:=Cd.mp e'
      have e3:=ok.ix p hp
      have:p.1=y:=hpy
      rw[this]at e3
      exact hne (Cd.mpr ⟨p,hp,aBd hN e3 e1⟩)
     .exact e' (Du e1)
    rcases r with rfl|⟨rfl,rfl⟩
    .rcases hk' with rfl|rfl|rfl
     .exact absurd (.inl rfl) no
     .exact absurd (.inr rfl) no
     .exact⟨e,.inr hk0⟩
    .exact⟨e,.inl hk0⟩
   have e3:Vis cenv.scope y:=e3
   rcases e3 with e3|e3|e3
   .exact key _ e3 (.inl rfl)
   .exact key _ e3 (.inr (.inl rfl))
   .exact key _ e3 (.inr (.inr rfl))
  obtain⟨m,hn,hl⟩:=I.loc
  have hvis:Vis X.env.scope y:=(ok.free _ (Bq hfr.1) rfl).elim (fun k=>.inr (.inl k)) (fun k=>.inr (.inr k))
  obtain⟨w,r,q⟩:=hl i y av e1 e2 hvis
  refine⟨w,r,.inr ⟨hfr.2,?_⟩⟩
  obtain⟨c,h1,h2⟩:=look hfr.1
  rcases q with⟨k,_⟩|⟨_,c',e',z⟩
  .have k:X.env.scope.names.lookup y=some .local:=k
   rcases ok.free _ (Bq hfr.1) rfl with k'|k'<;>rw[show X.env.scope.names.lookup y=_ from k']at k<;>cases k
  .rw[h2]at e';cases e'
   exact⟨c,h1,z.keeps kp⟩
 .have e:cenv.cells.lookup y=some c:=e
  rcases mem e with⟨h1,_⟩|⟨_,z⟩
  .obtain⟨w,z⟩:=I.cell y c h1
   exact⟨w,z.keeps kp⟩
  .exact⟨_,z⟩
 .show H cenv.locals=none
  rw[hL];exact I.hok.fresh (An _)
 .have e:cenv.cells.lookup y=some c:=e
  rcases mem e with⟨h1,_⟩|⟨h1,_⟩
  .exact I.freeC y c h1
  .exact I.hok.fresh (Gw h1)
 .exact absurd (show p∈([]:List (Addr×Obj))++[]from hp) (by simp)
theorem aXz{E:Value→Shared→Prop}{D:Addr}{xs:List V}{y:V}{v:Value}{Q:Value→Shared→Prop}(I:Inv X pins σ H s)(hD:H D=some (.lst xs))(hz:xs.length<sizeLine)(r:gX y v)
  (h:∀s',Inv X pins σ (upd H D (.lst (xs++[y]))) s'→Q .none s'):wpAny (model X.prog X.w) X.A (call (.builtin "list.append") [.ref D,v]) Q E s:=by
 obtain⟨hz',its,n,ri,e⟩:=I.hok D _ hD
 have hl:=ri.length
 refine append_at (hsz:=by rw[Am];omega) e fun h' sb ho'=>?_
 refine h { s with heap:=h' } (I.write (t':=s.toks) (by rw[hD];trivial) (.inl rfl) (fun b u hb q=>(sb.2 b hb).trans q) ⟨_,ho'⟩ ⟨by rw[A6];exact hz,its++[v],n+1,ri.append (.cons r .nil),?_⟩)
 rw[ho']
 simp
def PTs(X:Cx)(ifs:List Expr)(t:TT):Prop:=
 ∀(pins:List (Addr×Obj))(s:Shared)(σ:St)(H:Hp)(Q:Bool→Hp→Prop),Inv X pins σ H s→t σ H Q→
  wpAny (model X.prog X.w) X.A (forIn ifs true fun c r=>if r=true then do let ok ←isTrue c X.env (eval c X.env);pure (Ho ok)else pure (Ho r)) (TP X pins σ Q) X.xe s
def bHa:TT:=fun _ H Q=>Q true H
theorem aWx:PTs X [] bHa:=fun _ _ _ H _ I h=>wpAny_tests_nil ⟨H,I,h⟩
theorem aWy{c:Expr}{t:TT}(h:PT X c t):PTs X [c] t:=fun pins s σ H Q I hw=>wpAny_tests_one (h pins s σ H Q I hw)
end
theorem aXo{α:Type}{t:Sem α}{Q Q':α→Shared→Prop}{M:Model}{A:Around}{E:Value→Shared→Prop}{s:Shared}(h:wpAny M A t Q (fun _ _=>False) s)(hQ:∀a s,Q a s→Q' a s):wpAny M A t Q' E s:=wpAny_mono h hQ fun _ _ z=>Dz z
theorem aCd{prog:Program}{w:World}{A:Around}{R:Result→Shared→Prop}{s:Shared}{elt target iter:Expr}{ifs:List Expr}{scope:Scope}{pos:Pos}{it acc:Value}{env:Env}(I:Nat→Shared→Prop)
  (turn:∀n s,I n s→wpAny (model prog w) A (pyNext it) (fun r s₁=>match r with
   |none=>R (.ok .next) s₁
   |some v=>wpAny (model prog w) A (letOwnedTupleGo target it v) (fun _ s₁'=>wpAny (model prog w) A (assign target env v) (fun _ s₂=>
     wpAny (model prog w) A (forIn ifs true fun c r=>if r=true then do let ok ←isTrue c env (eval c env);pure (Ho ok)else pure (Ho r)) (fun ok s₃=>
      if ok=true then wpAny (model prog w) A (eval elt env) (fun x s₄=>
       wpAny (model prog w) A (call (.builtin "list.append") [acc,x]) (fun _ s₅=>∃m,m<n∧I m s₅) (notedBy (model prog w) A env fun e s'=>R (.error e) s') s₄) (notedBy (model prog w) A env fun e s'=>R (.error e) s') s₃
      else ∃m,m<n∧I m s₃) (notedBy (model prog w) A env fun e s'=>R (.error e) s') s₂) (notedBy (model prog w) A env fun e s'=>R (.error e) s') s₁') (notedBy (model prog w) A env fun e s'=>R (.error e) s') s₁) (notedBy (model prog w) A env fun e s'=>R (.error e) s') s)
  (n:Nat) (h:I n s) :
  codeAny (model prog w) A (.compLoop (.ListComp elt [⟨target,iter,ifs,0⟩] scope pos) 0 it acc env) R s:=by
 refine codeAny_loop rfl I (fun n s hI=>?_) n h
 show wpAny _ A ((compTurn (.ListComp elt [⟨target,iter,ifs,0⟩] scope pos) 0 it acc env).onRaise (fun x=>do noteFrame x env;theTreesLotGoes x)) _ _ s
 refine wpAny_noted ?_
 rw[compTurn_list]
 refine wpAny_bind (wpAny_standAt (wpAny_bind (wpAny_mono (turn n s hI) (fun r s₁ h₁=>?_) fun _ _ h'=>h')))
 cases r with
 |none=>exact wpAny_pure h₁
 |some v=>
  refine wpAny_bind (wpAny_mono h₁ (fun _ s₁' h₁'=>?_) fun _ _ h'=>h')
  refine wpAny_bind (wpAny_mono h₁' (fun _ s₂ h₂=>wpAny_bind (wpAny_mono h₂ (fun ok s₃ h₃=>?_) fun _ _ h'=>h')) fun _ _ h'=>h')
  cases ok with
  |false=>exact wpAny_pure ⟨rfl,h₃⟩
  |true=>
   exact wpAny_bind (wpAny_bind (wpAny_mono h₃ (fun x s₄ h₄=>wpAny_bind (wpAny_mono h₄ (fun _ s₅ h₅=>wpAny_pure (wpAny_pure ⟨rfl,h₅⟩)) fun _ _ h'=>h')) fun _ _ h'=>h'))
section
variable{X:Cx}
def tLc(wi:TI)(g:TG)(tt:TT)(te:TE)(vs:List Nat):TE:=fun σ H Q=>wi σ H fun J H1=>∀D,H1 D=none→∃W:Nat→Nat→Hp→Prop,(∃m,W 0 m (upd H1 D (.lst [])))∧∀i m H,W i m H→
 (J.stop i H∧Q (.ref D) H)∨(J.go i H∧∃Nx:Hp→Prop,(∀H',Nx H'→∃m',m'<m∧W (i+1) m' H')∧∀x H',J.yld i H x H'→g x (wipe σ vs) H' fun σ2 H2=>wipe σ2 vs=wipe σ vs∧tt σ2 H2 fun b H3=>
  if b=true then te σ2 H3 fun y H4=>∃acc,H4 D=some (.lst acc)∧acc.length<sizeLine∧Nx (upd H4 D (.lst (acc++[y])))else Nx H3)
theorem aMa{pins:List (Addr×Obj)}{s:Shared}{σ:St}{H:Hp}{Q:VK}{elt tg iter:Expr}{ifs:List Expr}{scope:Scope}{own:List (Str×Nat)}{pos pos':Pos}{wi:TI}{g:TG}{tt:TT}{te:TE}{use:Option (Value→Sem Unit)}{Qf:Value→Shared→Prop}
  (hc:X.calm=true) (hN:X.N.Nodup) (I:Inv X pins σ H s) (hi:PI X tg iter wi) (ok:BlkOk X.N X.env.scope scope own)
  (hg:∀(s:Shared)(H:Hp)(C:Addr)(cl:List (Str×Addr))(fp:List Addr),PG (X.blk s H scope (compEnvC scope cl C X.env) fp) tg g) (ht:∀(s:Shared)(H:Hp)(C:Addr)(cl:List (Str×Addr))(fp:List Addr),PTs (X.blk s H scope (compEnvC scope cl C X.env) fp) ifs tt)
  (he:∀(s:Shared)(H:Hp)(C:Addr)(cl:List (Str×Addr))(fp:List Addr),PE (X.blk s H scope (compEnvC scope cl C X.env) fp) elt te) (hs:∀x,foldedSetIterable iter X.env x=pure x)
  (h:tLc wi g tt te (own.map (·.2)) σ H Q)
  (hRR:∀D C s' m H',Inv X pins σ H' s'→Q (.ref D) H'→s'.heap.Ns C m→aJr X pins H' C→compPost (model X.prog X.w) X.A X.xe use Qf (.ref D) C (.ok .next) s') :
  wpAny (model X.prog X.w) X.A (comprehension (.ListComp elt [⟨tg,iter,ifs,0⟩] scope pos) scope X.env pos' (newList []) false (eval iter X.env) use) Qf X.xe s:=by
 have hfree:∀y∈scope.names,y.2=.free→∃c,X.env.cells.lookup y.1=some c:=fun y hy e=>by
  rcases ok.free y hy e with k|k
  .exact I.ok.has _ (.inl k)
  .exact I.ok.has _ (.inr k)
 refine wpAny_comprehension_free (use:=use) rfl hs (aHz hfree) ok.kind (fun y hy e=>by rw[ok.uniq y hy,e])
  (thn (hi pins s σ H _ I h) fun xv s1 hx=>thn hx fun itv s2 h2=>?_)
 obtain⟨it,fp,tn,J,H2,e,I2,T,st2,f2,q⟩:=h2
 subst e
 refine wpAny_newObj_type (aF5 ?_) (by show 0≤sizeLine;decide)
 generalize hD:s2.heap.objs.size=D
 have hDn:H2 D=none:=I2.hok.fresh (Jl hD)
 obtain⟨W,⟨m0,w0⟩,turn⟩:=q D hDn

 generalize hs3:({ s2 with heap:=s2.heap.push { cls:=.type "list",data:=.seq ([]:List Value).toArray } }:Shared)=s3
 have I3:Inv X pins σ (upd H2 D (.lst [])) s3:=by
  rw[←hs3]
  refine I2.laid (t':=s2.toks) (fun b o e=>Heap.get?_push_of_some _ e) (Jl hD) ⟨E4 _,[],0,.nil,?_⟩
  rw[←hD]
  exact Heap.get?_push_size _ rfl
 have h3:s3.heap=s2.heap.push { cls:=.type "list",data:=.seq ([]:List Value).toArray }:=by rw[←hs3]
 have sz:∀b∈fp,b<s2.heap.objs.size:=fun b hb=>by
  obtain⟨o,e,_⟩:=T.obj _ _ st2 b hb
  exact Heap.lt_size e
 have f3:∀b∈fp,aJr X pins (upd H2 D (.lst [])) b∧b<s3.heap.objs.size:=fun b hb=>by
  have hlt:=sz b hb
  refine⟨⟨?_,(f2 b hb).2⟩,by rw[h3,Heap.size_push];exact Gx hlt⟩
  rw[aU (by rw[←hD];exact Cv hlt)]
  exact(f2 b hb).1
 have st3:tn 0 s3.heap:=T.keep _ _ _ st2 fun b _ o e=>by rw[h3];exact Heap.get?_push_of_some _ e
 have I4:=aEd I3 ok hN f3
 have pg:=hg s3 (upd H2 D (.lst [])) s3.heap.objs.size (cellsFrom (s3.heap.objs.size+1) scope.names (dH X.env.cells scope.names [])) fp
 have pt:=ht s3 (upd H2 D (.lst [])) s3.heap.objs.size (cellsFrom (s3.heap.objs.size+1) scope.names (dH X.env.cells scope.names [])) fp
 have pe:=he s3 (upd H2 D (.lst [])) s3.heap.objs.size (cellsFrom (s3.heap.objs.size+1) scope.names (dH X.env.cells scope.names [])) fp
 show codeAny _ _ (.compStart (.ListComp elt [⟨tg,iter,ifs,0⟩] scope pos) 0 (.ref it) (.ref D) (compEnvC scope (cellsFrom (s3.heap.objs.size+1) scope.names (dH X.env.cells scope.names [])) s3.heap.objs.size X.env)) (compPost (model X.prog X.w) X.A X.xe use Qf (.ref D) s3.heap.objs.size) { s3 with heap:=pushCells (s3.heap.push { cls:=.type "dict",data:=.dict #[] }) scope.names }
 have nfp:∀b∈fp,(upd H2 D (.lst [])) b=none:=fun b hb=>(f3 b hb).1.1
 generalize hce:compEnvC scope (cellsFrom (s3.heap.objs.size+1) scope.names (dH X.env.cells scope.names [])) s3.heap.objs.size X.env=ce at I4 pg pt pe ⊢
 have cL:ce.locals=s3.heap.objs.size:=by subst hce;rfl
 generalize hH3:upd H2 D (.lst [])=H3 at I3 I4 pg pt pe w0 nfp f3
 generalize hs4:({ s3 with heap:=pushCells (s3.heap.push { cls:=.type "dict",data:=.dict #[] }) scope.names }:Shared)=s4 at I4 ⊢
 have st4:tn 0 s4.heap:=T.keep _ _ _ st3 fun b _ o e=>by rw[←hs4];exact pushCells_keeps _ _ _ _ (Heap.get?_push_of_some _ e)
 have stat:∀{σ':St}{H':Hp}{s':Shared},Inv (X.blk s3 H3 scope ce fp) [] σ' H' s'→(∀b∈fp,H' b=none)→∀b∈fp,aJr (X.blk s3 H3 scope ce fp) [] H' b:=fun{σ' H' s'}I' hn b hb=>
  ⟨hn b hb,(I'.ok.exf b hb).1,I'.ok.exfs b hb,.inl hb,fun x c e=>(I'.ok.exf b hb).2 x c e,fun p hp=>absurd (show p∈([]:List (Addr×Obj))++[]from hp) (by simp)⟩
 have loop:codeAny (model X.prog X.w) X.A (.compLoop (.ListComp elt [⟨tg,iter,ifs,0⟩] scope pos) 0 (.ref it) (.ref D) ce) (compPost (model X.prog X.w) X.A X.xe use Qf (.ref D) s3.heap.objs.size) s4:=by
  refine aCd (fun n s'=>∃i H',Inv (X.blk s3 H3 scope ce fp) [] (wipe σ (own.map (·.2))) H' s'∧tn i s'.heap∧(∀b∈fp,H' b=none)∧W i n H') ?_ m0 ⟨0,H3,I4,st4,nfp,w0⟩
  rintro n s5 ⟨i,H5,I5,st5,n5,w5⟩
  rcases turn i n H5 w5 with⟨stop,qq⟩|⟨go,Nx,hNx,step⟩
  .have td:=T.done (X.blk s3 H3 scope ce fp) rfl rfl rfl hc i [] s5 _ H5 (fun _ _=>False) I5 (stat I5 n5) st5 stop
   refine aXo td fun r s6 ⟨hr,I6⟩=>?_
   subst hr

   have I7:Inv X pins σ H5 s6:=I3.call' (ch:=fp) I6.os I6.base I6.hok I6.bare fun b hb=>⟨(f3 b hb).1.2.2.2.1,(f3 b hb).1.2.1,(f3 b hb).1.2.2.2.2.1,(f3 b hb).1.2.2.2.2.2⟩
   have nC:H5 s3.heap.objs.size=none:=by
    have z:H5 ce.locals=none:=I6.free
    rw[cL]at z
    exact z
   obtain⟨m,hn,_⟩:=I6.loc
   have hn:s6.heap.Ns ce.locals m:=hn
   rw[cL]at hn
   exact hRR D s3.heap.objs.size s6 m H5 I7 qq hn (I3.fpOk (An _) nC)
  .have ti:=T.item (X.blk s3 H3 scope ce fp) rfl rfl rfl hc i [] s5 _ H5 (fun _ _=>False) I5 (stat I5 n5) st5 go
   refine aXo ti fun r s6 ⟨u,hr,h6⟩=>?_
   subst hr
   refine aXo h6 fun _ s7 ⟨x,H7,I7,r7,y7,st7,n7⟩=>?_
   have I7':=I7.pinned (stat I7 n7) (T.obj _ _ st7)
   refine aXo (pg _ s7 _ H7 x u _ I7' r7 (step x H7 y7)) fun _ s8 ⟨σ8,H8,I8,hw8,q8⟩=>?_
   refine aXo (pt _ s8 σ8 H8 _ I8 q8) fun b s9 ⟨H9,I9,q9⟩=>?_

   have fin:∀{s':Shared}{H':Hp},Inv (X.blk s3 H3 scope ce fp) ([]++aDa fp s7.heap) σ8 H' s'→Nx H'→∃m,m<n∧∃i H',Inv (X.blk s3 H3 scope ce fp) [] (wipe σ (own.map (·.2))) H' s'∧tn i s'.heap∧(∀b∈fp,H' b=none)∧W i m H':=fun{s' H'}I' nx=>by
    obtain⟨m',hm,w'⟩:=hNx H' nx
    have pin':∀b∈fp,∀o,s7.heap.get? b=some o→s'.heap.get? b=some o∧H' b=none:=fun b hb o e=>
     let z:=I'.pin (b,o) (Cw _ (Cw _ (sD hb e)))
     ⟨z.1,z.2.1⟩
    have hl:(wipe σ (own.map (·.2))).length=σ8.length:=by rw[←hw8,pR]
    refine⟨m',hm,i+1,H',(I'.unpinned (pins:=[])).weak hl (fun j v e=>?_),T.keep _ _ _ st7 fun b hb o e=>(pin' b hb o e).1,fun b hb=>?_,w'⟩
    .rw[←hw8]at e
     exact(xM e).1
    .obtain⟨o,e,_⟩:=T.obj _ _ st7 b hb
     exact(pin' b hb o e).2
   cases b with
   |false=>
    simp only[Do,if_false]at q9 ⊢
    exact fin I9 q9
   |true=>
    simp only[if_true]at q9 ⊢
    refine aXo (pe _ s9 σ8 H9 _ I9 q9) fun z s10 ⟨yv,H10,I10,r10,acc,hD10,hz10,nx⟩=>?_
    exact aXz (X:=X.blk s3 H3 scope ce fp) I10 hD10 hz10 r10 fun s11 I11=>fin I11 nx
 exact codeAny_compStart_list loop (T.self X.A 0 _ _ _ st4 loop)
theorem bE0{elt tg iter:Expr}{ifs:List Expr}{scope:Scope}{own:List (Str×Nat)}{pos:Pos}{wi:TI}{g:TG}{tt:TT}{te:TE}(hc:X.calm=true)(hN:X.N.Nodup)(hi:PI X tg iter wi)(ok:BlkOk X.N X.env.scope scope own)
  (hg:∀(s:Shared)(H:Hp)(C:Addr)(cl:List (Str×Addr))(fp:List Addr),PG (X.blk s H scope (compEnvC scope cl C X.env) fp) tg g) (ht:∀(s:Shared)(H:Hp)(C:Addr)(cl:List (Str×Addr))(fp:List Addr),PTs (X.blk s H scope (compEnvC scope cl C X.env) fp) ifs tt)
  (he:∀(s:Shared)(H:Hp)(C:Addr)(cl:List (Str×Addr))(fp:List Addr),PE (X.blk s H scope (compEnvC scope cl C X.env) fp) elt te) (hs:∀x,foldedSetIterable iter X.env x=pure x:=by intro _;rfl) :
  PE X (.ListComp elt [⟨tg,iter,ifs,0⟩] scope pos) (tLc wi g tt te (own.map (·.2))):=by
 intro pins s σ H Q I h
 rw[eval_ListComp]
 refine aMa hc hN I hi ok hg ht he hs h fun D C s' m H' I' q hn f=>⟨m,hn,fun h'' sb=>?_⟩
 obtain⟨f0,f1,f2,f3,f4,f5⟩:=f
 exact⟨.ref D,H',I'.turned (t':=s'.toks) (fun b o hb e=>(sb.2 b hb).trans e) f0 f1 f3 f4 f5,rfl,q⟩
theorem aRv{i:Nat}{y:Str}{py:Pos}{elt tg iter:Expr}{ifs:List Expr}{scope:Scope}{own:List (Str×Nat)}{pos spos:Pos}{wi:TI}{g:TG}{tt:TT}{te:TE}(hc:X.calm=true)(hN:X.N.Nodup)(hy:X.N[i]?=some y)(hyl:X.env.scope.names.lookup y=some .local)
  (hsw:swapsWith (.ListComp elt [⟨tg,iter,ifs,0⟩] scope pos) (some (.Name y py)) spos.line X.env=pure true) (hi:PI X tg iter wi) (ok:BlkOk X.N X.env.scope scope own)
  (hg:∀(s:Shared)(H:Hp)(C:Addr)(cl:List (Str×Addr))(fp:List Addr),PG (X.blk s H scope (compEnvC scope cl C X.env) fp) tg g) (ht:∀(s:Shared)(H:Hp)(C:Addr)(cl:List (Str×Addr))(fp:List Addr),PTs (X.blk s H scope (compEnvC scope cl C X.env) fp) ifs tt)
  (he:∀(s:Shared)(H:Hp)(C:Addr)(cl:List (Str×Addr))(fp:List Addr),PE (X.blk s H scope (compEnvC scope cl C X.env) fp) elt te) (hs:∀x,foldedSetIterable iter X.env x=pure x:=by intro _;rfl) :
  PS X (.Assign [.Name y py] (.ListComp elt [⟨tg,iter,ifs,0⟩] scope pos) spos) (aXl (tLc wi g tt te (own.map (·.2))) (vR i)):=by
 intro pins s σ H D I h
 rw[exec_Assign_Name_used _ _ _ _ hsw]
 refine wpAny_bind (wpAny_standAt (wpAny_bind ?_))
 show wpAny _ X.A (do let _ ←comprehension (.ListComp elt [⟨tg,iter,ifs,0⟩] scope pos) scope X.env (firstIterPos [⟨tg,iter,ifs,0⟩] pos) (newList []) false (eval iter X.env) (some (assign (.Name y py) X.env))) _ _ s
 have h:tLc wi g tt te (own.map (·.2)) σ H (fun x H1=>vR i x σ H1 D.nx):=h
 refine wpAny_bind (thn (aMa (Qf:=fun _ s'=>SP X pins D .next s') hc hN I hi ok hg ht he hs h fun L C s' m H' I' q hn f=>?_) fun _ s' hq=>wpAny_pure (wpAny_pure hq))
 show wpAny _ _ (assign (.Name y py) X.env (.ref L)) _ _ _
 refine wpAny_assign_Name (aDg (v:=V.ref L) I' hN hy (.inl hyl) rfl (fun s2 I2 ⟨a,sb,ha⟩=>?_) (.inr hyl))
 obtain⟨f0,f1,f2,f3,f4,f5⟩:=f
 have haC:C≠a:=by
  rcases ha with z|z
  .rw[z];exact f1
  .exact fun e=>f4 y a z e.symm
 refine⟨m,hn.sameBut sb haC,fun h3 sb3=>?_⟩
 exact⟨_,H',I2.turned (t':=s2.toks) (fun b o hb e=>(sb3.2 b hb).trans e) f0 f1 f3 f4 f5,q⟩
theorem aXa{elt:Expr}{gs:List Comprehension}{scope:Scope}{pos py:Pos}{y:Str}{l:Nat}{env:Env}(hk:env.scope.kind=.function)(hy:env.scope.names.lookup y=some .local)(hl:(py.line==pos.line)=true)
  (ha:(scope.names.any fun(n,k)=>n==y&&(k==.local||k==.cell))=false):swapsWith (.ListComp elt gs scope pos) (some (.Name y py)) l env=pure true:=by
 have ky:env.kindOf y=some .local:=hy
 have hb:env.blockKind=.function:=by unfold Env.blockKind;rw[hk];rfl
 unfold swapsWith
 simp only[hb,ky,ha,Expr.pos,hl]
 rfl
end
noncomputable def bC7 (N:List Str) (sc scope:Scope) (own:List (Str×Nat)):Bool:=
 (match scope.kind with|.function=>true|_=>false)&&(scope.names.all fun y=>decide (scope.names.lookup y.1=some y.2))&&(own.all fun p=>decide (N[p.2]?=some p.1)) &&
  (scope.names.all fun y=>match y.2 with
   |.free=>(match sc.names.lookup y.1 with|some .cell=>true|some .free=>true|_=>false)
   |.local=>decide (y.1∈own.map (·.1))||decide (y.1∉N)
   |.cell=>decide (y.1∈own.map (·.1))||decide (y.1∉N)
   |_=>true)
theorem aG4{N:List Str}{sc scope:Scope}{own:List (Str×Nat)}(h:bC7 N sc scope own=true):BlkOk N sc scope own:=by
 unfold bC7 at h
 simp only[Ac,Bc,dqe]at h
 obtain⟨⟨⟨h1,h2⟩,h3⟩,h4⟩:=h
 refine⟨?_,h2,h3,fun y hy e=>?_,fun y hy e=>?_⟩
 .split at h1
  .assumption
  .cases h1
 .have q:=h4 y hy
  simp only[e]at q
  split at q<;>first|exact .inl (by assumption)|exact .inr (by assumption)|cases q
 .have q:=h4 y hy
  rcases e with e|e<;>(simp only[e,Eu,dqe]at q;exact q)
section
variable{prog:Program}{w:World}{A:Around}{R:Result→Shared→Prop}{s:Shared}{elt t0 i0 t1 i1:Expr}{ifs0 ifs1:List Expr}{scope:Scope}{pos:Pos}{it acc:Value}{env:Env}
end
section
variable{X:Cx}
end
section
variable{κ:Type}[DecidableEq κ]
end
section
variable{P:Program}{w:World}{H:Hp}{h:Heap}{a:Addr}
end
section
variable{X:Cx}{pins:List (Addr×Obj)}{σ:St}{H:Hp}{s:Shared}{a:Addr}{y v:V}{u r:Value}{o:Option V}{A:Around}{E:Value→Shared→Prop}
end
section
variable{X:Cx}{pins:List (Addr×Obj)}{σ:St}{H:Hp}{s:Shared}{a:Addr}{kvs:List (Key×V)}{k:Key}{u:Value}{A:Around}{E:Value→Shared→Prop}
end
section
variable{X:Cx}{o i e value:Expr}{pos pos' tpos:Pos}{td ty tv:TE}
end
section
variable{X:Cx}{pos:Pos}
end
section
variable{X:Cx}{pins:List (Addr×Obj)}{σ:St}{H:Hp}{s:Shared}{a:Addr}{y d:V}{u r:Value}{o:Option V}{A:Around}{E:Value→Shared→Prop}
end
section
variable{X:Cx}{o e f:Expr}{apos cpos:Pos}{td ty tx:TE}
end
section
variable{X:Cx}{pins:List (Addr×Obj)}{σ:St}{H:Hp}{s:Shared}{a:Addr}{kvs:List (Key×V)}{A:Around}{E:Value→Shared→Prop}
end
section
variable{X:Cx}{pins:List (Addr×Obj)}{σ:St}{H:Hp}{s:Shared}{a:Addr}{y:V}{u:Value}{A:Around}{E:Value→Shared→Prop}
end
section
variable{prog:Program}{w:World}{A:Around}{E:Value→Shared→Prop}
end
section
variable{X:Cx}
end
theorem oH:bootBuiltins "reversed"=some (.type "reversed"):=by decide +kernel
section
variable{X:Cx}{pins:List (Addr×Obj)}{σ:St}{H:Hp}{s:Shared}{h':Heap}
theorem Inv.turnedL{t':Nat}{ch:List Addr}(I:Inv X pins σ H s)(k:∀b o,b∉ch→s.heap.get? b=some o→h'.get? b=some o)(hf:∀b∈ch,aJr X pins H b):Inv X pins σ H { s with heap:=h',toks:=t' }:=by
 have nit:∀b u,H b=some u→b∉ch:=fun b u e z=>by
  have q:=(hf b z).1
  rw[q]at e;cases e
 refine I.step (g':=s.gens) (d':=s.drawn) (ch:=ch) (fun b hb=>⟨(hf b hb).2.2.2.1,(hf b hb).2.1,(hf b hb).2.2.2.2.1,(hf b hb).2.2.2.2.2⟩) (fun b o _ _ hc e _=>k b o hc e) (fun b o _ _ hc e _=>⟨o.slots,k b o hc e⟩)
  (fun _ _ _ _ n=>n) (fun b o hc e=>⟨o,k b o hc e⟩) (fun _ _ e=>e) (fun _ _ _ e=>e) (fun b ps e=>⟨#[],by rw[e];simp⟩) (fun m hm=>?_) (fun b u e=>?_) I.bare
 .obtain⟨o,es,ep,ho,r⟩:=hm
  exact⟨o,es,ep,k _ o (fun z=>(hf _ z).2.1 rfl) ho,r⟩
 .refine(I.hok b u e).stay (fun c v hc q=>k c v ?_ q) (fun _ q=>q) fun _ _ q=>q
  rcases hc with z|z
  .rw[z];exact nit b u e
  .exact nit c _ z
theorem Inv.turnedNew{t':Nat}{ch:List Addr}{T:Addr}{ob:HO}(I:Inv X pins σ H s)(k:∀b o,b∉ch→s.heap.get? b=some o→h'.get? b=some o)(hf:∀b∈ch,aJr X pins H b)(hT:s.heap.objs.size≤T)
  (new:mT X.prog X.w (upd H T ob) h' T ob):Inv X pins σ (upd H T ob) { s with heap:=h',toks:=t' }:=by
 have hn:H T=none:=I.hok.fresh hT
 have nit:∀b u,H b=some u→b∉ch:=fun b u e z=>by
  have q:=(hf b z).1
  rw[q]at e;cases e
 refine I.step (g':=s.gens) (d':=s.drawn) (ch:=ch) (fun b hb=>⟨(hf b hb).2.2.2.1,(hf b hb).2.1,(hf b hb).2.2.2.2.1,(hf b hb).2.2.2.2.2⟩) (fun b o _ _ hc e _=>k b o hc e) (fun b o _ _ hc e _=>⟨o.slots,k b o hc e⟩)
  (fun b o _ e n=>?_) (fun b o hc e=>⟨o,k b o hc e⟩) (fun b xs e=>?_) (fun b o u e=>?_) (fun b ps e=>⟨#[],?_⟩) (fun m hm=>?_) (fun b u e=>?_) I.bare
 .rw[aU (Cv (Bg (Heap.lt_size e) hT))];exact n
 .rw[aU (cZ e hn)];exact e
 .rw[aU (cZ e hn)];exact e
 .rw[aU (cZ e hn),e];simp
 .obtain⟨o,es,ep,ho,r⟩:=hm
  exact⟨o,es,ep,k _ o (fun z=>(hf _ z).2.1 rfl) ho,r⟩
 .by_cases hb:b=T
  .subst hb
   rw[bG]at e
   cases e
   exact new
  .rw[aU hb]at e
   refine(I.hok b u e).stay (fun c v hc q=>k c v ?_ q) (fun c q=>by rw[aU (cZ q hn)];exact q) fun c xs q=>by rw[aU (cZ q hn)];exact q
   rcases hc with z|z
   .rw[z];exact nit b u e
   .exact nit c _ z
end
section
variable{X:Cx}
theorem aT4{tg:Expr}{pins:List (Addr×Obj)}{σ:St}{H:Hp}{s:Shared}{R:It→Hp→Prop}{J:It}{tn:Nat→Heap→Prop}{tk:Nat}(I:Inv X pins σ H s)(o:Obj)
  (T:Turn X.prog X.w X.K tg J [s.heap.objs.size] s.heap.objs.size tn) (st:tn 0 (s.heap.push o)) (q:R J H):PIE X pins σ tg R (.ref s.heap.objs.size) { s with heap:=s.heap.push o,toks:=tk }:=by
 refine⟨s.heap.objs.size,[s.heap.objs.size],tn,J,H,rfl,I.kept fun b ob e=>Heap.get?_push_of_some _ e,T,st,fun b hb=>?_,q⟩
 have e:b=s.heap.objs.size:=by simpa using hb
 subst e
 exact I.fpOk (An _) (I.hok.fresh (An _))
end
def Itc(lo c:Int)(n:Nat):It:=⟨fun i _=>i<n,fun i H x H'=>H'=H∧x=.int (lo+(i:Nat)*c),fun i _=>n≤i⟩
theorem aG1{P:Program}{w:World}{K:Ad}{tg:Expr}(it:Addr)(lo c:Int)(n:Nat):Turn P w K tg (Itc lo c n) [it] it (fun i h=>IsRangeIter h it (lo+(i:Nat)*c) ((n:Int)-(i:Nat)) c) where
 mem:=by simp
 obj:=fun i h st b hb=>by
  have e:b=it:=by simpa using hb
  subst e
  exact⟨_,st,fun v z=>nomatch z⟩
 keep:=fun i h h' st k=>k it (by simp) _ st
 item:=by
  intro X hP hw hK hc i pins s σ H E I hf st hg
  subst hP hw hK
  obtain⟨f0,f1,f2,f3,f4,f5⟩:=hf it (by simp)
  have W:=Walks.range (prog:=X.prog) (w:=X.w) (I.ok.hd hc) it lo c n
  refine W.item i s _ _ hg st fun v h' tk hv st' kk=>?_
  obtain⟨t,rfl⟩:=hv
  have I1:Inv X pins σ H { s with heap:=h',toks:=tk }:=I.turned (fun b o hb e=>kk b o (by simpa using hb) e) f0 f1 f3 f4 f5
  exact⟨_,rfl,aLu (s:={ s with heap:=h',toks:=tk }) (n:="range_iterator") st' rfl rfl (by decide) ⟨.int (lo+(i:Nat)*c),H,I1,⟨t,rfl⟩,⟨rfl,rfl⟩,st',fun b hb=>(hf b hb).1⟩⟩
 done:=by
  intro X hP hw hK hc i pins s σ H E I hf st hg
  subst hP hw hK
  obtain⟨f0,f1,f2,f3,f4,f5⟩:=hf it (by simp)
  exact wpAny_pyNext_range_end (I.ok.hd hc) st (by have:n≤i:=hg;omega) fun h' eb=>⟨rfl,I.turned (t':=s.toks) (fun b o hb e=>eb b o hb e) f0 f1 f3 f4 f5⟩
 self:=fun A i s Q E st h=>wpAny_pyIter_rangeiter st h
def RgC(i j c:Int)(n:Nat):Prop:=c≠0∧c.natAbs<1073741824∧Builtin.Range.small i j c=true∧Builtin.Range.rangeSize i j c=n
theorem RgC.neg{i j:Int}(ha:-(2^62)≤i)(ha':i<2^62)(hb:-(2^62)≤j)(hb':j<2^62):RgC i j (-1) (i-j).toNat:=
 ⟨by decide,by decide,PySem.W.small_down ha ha' hb hb',PySem.W.rangeSize_downNat i j⟩
def bDc(ta:TA):TI:=fun σ H R=>ta σ H fun vs H1=>∃(i j c:Int)(n:Nat),vs=[.int i,.int j,.int c]∧RgC i j c n∧R (Itc i c n) H1
section
variable{X:Cx}{tg:Expr}
theorem aO9{a b c:Expr}{ta:TA}{p pos:Pos}(hg:Gl X "range")(hm:X.mg "range"=none)(ha:PA X [a,b,c] ta)
  (hs:starEach [a,b,c] X.env=(false,eval a X.env)::starEach [b,c] X.env:=by rfl) (hpl:(backTo pos (starEach [b,c] X.env)).any (·.1)=false:=by rfl) :
  PI X tg (.Call (.Name "range" p) [a,b,c] [] pos) (bDc ta):=by
 intro pins s σ H R I h
 refine Call_ (nM I hg hm boot_range (Bp (thn (ha pos pins s σ H _ I h) fun us s1 ⟨vs,H1,I1,r1,q1⟩=>?_) hs hpl))
 obtain⟨i,j,k,n,e,⟨c0,c1,c2,c3⟩,q⟩:=q1
 subst e
 cases r1 with
 |cons r rr=>
  cases rr with
  |cons r' rr=>
   cases rr with
   |cons r'' rr=>
    cases rr
    obtain⟨t,rfl⟩:=r
    obtain⟨t',rfl⟩:=r'
    obtain⟨t'',rfl⟩:=r''
    refine call_range_3 c0 ?_ (.inl (Gr c1))
    refine wpAny_pyIter_range (IsRange.new ..) c2 ?_
    have I2:Inv X pins σ H1 { s1 with heap:=s1.heap.push { cls:=.type "range",data:=.fields #[.int i t,.int j t',.int k t''] } }:=I1.kept (t':=s1.toks) fun b o e=>Heap.get?_push_of_some _ e
    refine aT4 (tk:=s1.toks) I2 _ (aG1 _ i k n) ?_ q
    have e1:i+((0:Nat):Int)*k=i:=by simp
    have e2:(n:Int)-((0:Nat):Int)=Builtin.Range.rangeSize i j k:=by rw[c3];simp
    show IsRangeIter _ _ (i+((0:Nat):Int)*k) ((n:Int)-((0:Nat):Int)) k
    rw[e1,e2]
    exact Heap.get?_push_size _ rfl
end
def Itv(K:Ad)(a:Addr)(n:Nat):It:=
 ⟨fun i H=>i<n∧∃(xs:List V)(x:V),SqL K H a xs∧xs[n-1-i]?=some x,fun i H x H'=>H'=H∧∀xs,SqL K H a xs→xs[n-1-i]?=some x,fun i _=>n≤i⟩
theorem aSa{P:Program}{w:World}{K:Ad}{tg:Expr}(a it:Addr)(n:Nat):Turn P w K tg (Itv K a n) [it] it (fun i h=>i≤n∧h.IsRevIter it a ((n:Int)-1-(i:Nat))) where
 mem:=by simp
 obj:=fun i h st b hb=>by
  have e:b=it:=by simpa using hb
  subst e
  obtain⟨_,o,e,c,d⟩:=st
  exact⟨o,e,fun v z=>by rw[d]at z;cases z⟩
 keep:=fun i h h' st k=>⟨st.1,st.2.at fun o e=>k it (by simp) o e⟩
 item:=by
  intro X hP hw hK hc i pins s σ H E I hf st hg
  subst hP hw hK
  obtain⟨hin,xs,x,hq,hx⟩:=hg
  obtain⟨its,rv,p,hz⟩:=I.list hq
  obtain⟨u,hu,ru⟩:=rv.get hx
  obtain⟨f0,f1,f2,f3,f4,f5⟩:=hf it (by simp)
  obtain⟨_,hit⟩:=st
  have e1:(n:Int)-1-((i:Nat):Int)=((n-1-i:Nat):Int):=by omega
  rw[e1]at hit
  refine wpAny_pyNext_rev_item hit p.isList (x:=u) (by simpa using hu) fun h' st' sb=>?_
  have e2:((n-1-i:Nat):Int)-1=(n:Int)-1-((i+1:Nat):Int):=by omega
  rw[e2]at st'
  have I1:Inv X pins σ H { s with heap:=h' }:=I.turned (t':=s.toks) (fun b o hb e=>(sb.2 b hb).trans e) f0 f1 f3 f4 f5
  obtain⟨o,e,c,d⟩:=id st'
  exact⟨u,rfl,aLu (s:={ s with heap:=h' }) e c d (by decide) ⟨x,H,I1,ru,⟨rfl,fun ys hy=>by rw[I.list_inj hy hq];exact hx⟩,⟨hin,st'⟩,fun b hb=>(hf b hb).1⟩⟩
 done:=by
  intro X hP hw hK hc i pins s σ H E I hf st hg
  subst hP hw hK
  obtain⟨f0,f1,f2,f3,f4,f5⟩:=hf it (by simp)
  obtain⟨hin,hit⟩:=st
  have hge:n≤i:=hg
  have e1:(n:Int)-1-((i:Nat):Int)=-1:=by omega
  rw[e1]at hit
  exact wpAny_pyNext_rev_end (I.ok.hd hc) hit fun h' eb=>⟨rfl,I.turned (t':=s.toks) (fun b o hb e=>eb b o hb e) f0 f1 f3 f4 f5⟩
 self:=fun A i s Q E st h=>wpAny_pyIter_revIter st.2 h
def bFz(K:Ad)(ta:TA):TI:=fun σ H R=>ta σ H fun vs H1=>∃(a:Addr)(xs:List V),vs=[.ref a]∧SqL K H1 a xs∧R (Itv K a xs.length) H1
section
variable{X:Cx}{tg:Expr}
theorem aFo{e:Expr}{ta:TA}{p pos:Pos}(hg:Gl X "reversed")(hm:X.mg "reversed"=none)(ha:PA X [e] ta)(hs:starEach [e] X.env=[(false,eval e X.env)]:=by rfl):PI X tg (.Call (.Name "reversed" p) [e] [] pos) (bFz X.K ta):=by
 intro pins s σ H R I h
 refine Call_ (nM I hg hm oH (Bp (thn (ha pos pins s σ H _ I h) fun us s1 ⟨vs,H1,I1,r1,q1⟩=>?_) hs rfl))
 obtain⟨a,xs,e,hq,q⟩:=q1
 subst e
 cases r1 with
 |cons r rr=>
  cases rr
  cases r
  obtain⟨its,rv,p',hz⟩:=I1.list hq
  have hl:=rv.length
  have e1:((its.toArray.size:Nat):Int)-1=(xs.length:Int)-1-((0:Nat):Int):=by simp only[Am];omega
  refine call_reversed_list p'.isList (wpAny_pyIter_revIter (l:=a) (i:=((its.toArray.size:Nat):Int)-1) ⟨_,Heap.get?_push_size _ rfl,rfl,rfl⟩ ?_)
  refine aT4 (tk:=s1.toks) I1 _ (aSa a _ xs.length) ⟨E4 _,?_⟩ q
  rw[←e1]
  exact⟨_,Heap.get?_push_size _ rfl,rfl,rfl⟩
end
section
variable{prog:Program}{w:World}{A:Around}{E:Value→Shared→Prop}{s:Shared}
end
section
variable{X:Cx}{pins:List (Addr×Obj)}{σ:St}{H:Hp}{s:Shared}{d:Addr}{o:Obj}
end
section
variable{P:Program}{w:World}{K:Ad}{tg:Expr}{d:Addr}{o:Obj}{es:Array DictEntry}{ep:Nat}
end
section
variable{X:Cx}{tg e:Expr}{td:TE}{apos cpos:Pos}
end
def Ite(K:Ad)(a:Addr):It:=
 ⟨fun i H=>∃(xs:List V)(x:V),SqL K H a xs∧xs[i]?=some x,fun i H v H'=>∃T x,v=.ref T∧H T=none∧H'=upd H T (.tup [.int (i:Nat),x])∧∀xs,SqL K H a xs→xs[i]?=some x,fun i H=>∃xs:List V,SqL K H a xs∧xs.length≤i⟩
theorem aP8{P:Program}{w:World}{K:Ad}{elts:List Expr}{kk:Nat}{tpos:Pos}(a e it:Addr) :
  Turn P w K (.Tuple elts kk tpos) (Ite K a) [e,it] e (fun i h=>(∃old,IsEnum h e it ((i:Nat):Int) old)∧h.IsListIter it a i∧e≠it) where
 mem:=by simp
 obj:=fun i h st b hb=>by
  obtain⟨⟨old,he⟩,⟨o,ho,hc,hd⟩,_⟩:=st
  have e':b=e∨b=it:=by simpa using hb
  rcases e' with z|z
  .rw[z];exact⟨_,he,fun v q=>nomatch q⟩
  .rw[z];exact⟨o,ho,fun v q=>by rw[hd]at q;cases q⟩
 keep:=fun i h h' st k=>let ⟨⟨old,he⟩,hi,hne⟩:=st;⟨⟨old,k e (by simp) _ he⟩,hi.at fun o q=>k it (by simp) o q,hne⟩
 item:=by
  intro X hP hw hK hc i pins s σ H E I hf st hg
  subst hP hw hK
  obtain⟨⟨old,he⟩,hit,hne⟩:=st
  obtain⟨xs,x,hq,hx⟩:=hg
  obtain⟨its,rv,p,hz⟩:=I.list hq
  obtain⟨u,hu,ru⟩:=rv.get hx
  have hel:e<s.heap.objs.size:=Heap.lt_size he
  have hil:it<s.heap.objs.size:=by obtain⟨_,q,_⟩:=hit;exact Heap.lt_size q
  refine wpAny_pyNext_enum_item he hit p.isList (x:=u) (by simpa using hu) hne fun h' ho hit' hT hsz hk=>?_
  refine⟨_,rfl,wpAny_letOwnedTupleGo_enum (s:={ s with heap:=h',toks:=s.toks+1 }) ho fun h'' he' sb=>?_⟩
  have hT2:h''.get? s.heap.objs.size=some { cls:=.type "tuple",data:=.seq #[.int i s.toks,u] }:=(sb.2 _ (Le hel)).trans hT
  have new:mT X.prog X.w (upd H s.heap.objs.size (.tup [.int (i:Nat),x])) h'' s.heap.objs.size (.tup [.int (i:Nat),x]):=
   ⟨by show 2≤sizeLine;decide,[.int i s.toks,u],.cons ⟨_,rfl⟩ (.cons ru .nil),⟨_,hT2,rfl,_,rfl⟩⟩
  have I1:Inv X pins σ (upd H s.heap.objs.size (.tup [.int (i:Nat),x])) { s with heap:=h'',toks:=s.toks+1 }:=
   I.turnedNew (ch:=[e,it]) (fun b ob hb q=>(sb.2 b (fun z=>hb (by simp[z]))).trans (hk b ob (fun z=>hb (by simp[z])) (fun z=>hb (by simp[z])) q)) hf (An _) new
  refine⟨.ref s.heap.objs.size,_,I1,rfl,⟨_,x,rfl,I.hok.fresh (An _),rfl,fun ys hy=>by rw[I.list_inj hy hq];exact hx⟩,⟨⟨u,?_⟩,hit'.at fun o q=>(sb.2 it (Hm hne)).trans q,hne⟩,fun b hb=>?_⟩
  .have e1:((i+1:Nat):Int)=(i:Int)+1:=by omega
   rw[e1];exact he'
  .have hb':b<s.heap.objs.size:=by
    have e':b=e∨b=it:=by simpa using hb
    rcases e' with z|z
    .rw[z];exact hel
    .rw[z];exact hil
   rw[aU (Cv hb')]
   exact(hf b hb).1
 done:=by
  intro X hP hw hK hc i pins s σ H E I hf st hg
  subst hP hw hK
  obtain⟨⟨old,he⟩,hit,hne⟩:=st
  obtain⟨xs,hq,hx⟩:=hg
  obtain⟨its,rv,p,hz⟩:=I.list hq
  obtain⟨f0,f1,f2,f3,f4,f5⟩:=hf it (by simp)
  have hl:=rv.length
  exact wpAny_pyNext_enum_end (I.ok.hd hc) he hit p.isList (by simp;omega) fun h' eb=>⟨rfl,I.turned (t':=s.toks) (fun b o hb q=>eb b o hb q) f0 f1 f3 f4 f5⟩
 self:=fun A i s Q E st h=>let ⟨⟨_,he⟩,_⟩:=st;wpAny_pyIter_enum he h
def bD8(K:Ad)(ta:TA):TI:=fun σ H R=>ta σ H fun vs H1=>∃a xs,vs=[.ref a]∧SqL K H1 a xs∧R (Ite K a) H1
theorem aWs{X:Cx}{e:Expr}{ta:TA}{p pos tpos:Pos}{elts:List Expr}{kk:Nat}(hg:Gl X "enumerate")(hm:X.mg "enumerate"=none)(ha:PA X [e] ta)(hs:starEach [e] X.env=[(false,eval e X.env)]:=by rfl) :
  PI X (.Tuple elts kk tpos) (.Call (.Name "enumerate" p) [e] [] pos) (bD8 X.K ta):=by
 intro pins s σ H R I h
 refine Call_ (nM I hg hm boot_enumerate (Bp (thn (ha pos pins s σ H _ I h) fun us s1 ⟨vs,H1,I1,r1,q1⟩=>?_) hs rfl))
 obtain⟨a,xs,ex,hq,q⟩:=q1
 subst ex
 cases r1 with
 |cons r rr=>
  cases rr
  cases r
  obtain⟨its,rv,p',hz⟩:=I1.list hq
  refine call_enumerate_list p'.isList fun h' he hit hsz hk=>wpAny_pyIter_enum he ?_
  have I2:Inv X pins σ H1 { s1 with heap:=h' }:=I1.kept (t':=s1.toks) hk
  refine⟨s1.heap.objs.size+1,[s1.heap.objs.size+1,s1.heap.objs.size],_,_,H1,rfl,I2,aP8 a (s1.heap.objs.size+1) s1.heap.objs.size,⟨⟨.none,he⟩,hit,Nat.succ_ne_self _⟩,fun b hb=>?_,q⟩
  have e':b=s1.heap.objs.size+1∨b=s1.heap.objs.size:=by simpa using hb
  have hle:s1.heap.objs.size≤b:=by
   rcases e' with z|z
   .rw[z];exact F5 _ _
   .rw[z];exact An _
  exact I1.fpOk hle (I1.hok.fresh hle)
theorem aL4:bootBuiltins "zip"=some (.type "zip"):=by decide +kernel
def Itz(K:Ad)(a b:Addr):It:=
 ⟨fun i H=>∃(xs ys:List V)(x y:V),SqL K H a xs∧SqL K H b ys∧xs[i]?=some x∧ys[i]?=some y,
  fun i H v H'=>∃T x y,v=.ref T∧H T=none∧H'=upd H T (.tup [x,y])∧(∀xs,SqL K H a xs→xs[i]?=some x)∧∀ys,SqL K H b ys→ys[i]?=some y,
  fun i H=>∃xs ys:List V,SqL K H a xs∧SqL K H b ys∧(xs.length≤i∨ys.length≤i)⟩
theorem aSb{P:Program}{w:World}{K:Ad}{elts:List Expr}{kk:Nat}{tpos:Pos}{a b z TI TO i1 i2:Addr}(D:ZipApart z TI TO i1 i2 a b) :
  Turn P w K (.Tuple elts kk tpos) (Itz K a b) [z,TI,TO,i1,i2] z (fun i h=>IsZip h z TI TO .none∧IsPair h TI (.ref i1) (.ref i2)∧(∃x y,IsPair h TO x y)∧h.IsListIter i1 a i∧h.IsListIter i2 b i) where
 mem:=by simp
 obj:=fun i h st c hc=>by
  obtain⟨hz,hTI,⟨x,y,hTO⟩,⟨o1,e1,_,d1⟩,⟨o2,e2,_,d2⟩⟩:=st
  have e':c=z∨c=TI∨c=TO∨c=i1∨c=i2:=by simpa using hc
  rcases e' with q|q|q|q|q
  .rw[q];exact⟨_,hz,fun v q=>nomatch q⟩
  .rw[q];exact⟨_,hTI,fun v q=>nomatch q⟩
  .rw[q];exact⟨_,hTO,fun v q=>nomatch q⟩
  .rw[q];exact⟨o1,e1,fun v q=>by rw[d1]at q;cases q⟩
  .rw[q];exact⟨o2,e2,fun v q=>by rw[d2]at q;cases q⟩
 keep:=fun i h h' st k=>by
  obtain⟨hz,hTI,⟨x,y,hTO⟩,h1,h2⟩:=st
  exact⟨k z (by simp) _ hz,k TI (by simp) _ hTI,⟨x,y,k TO (by simp) _ hTO⟩,h1.at fun o q=>k i1 (by simp) o q,h2.at fun o q=>k i2 (by simp) o q⟩
 item:=by
  intro X hP hw hK hc i pins s σ H E I hf st hg
  subst hP hw hK
  obtain⟨hz,hTI,⟨x0,y0,hTO⟩,h1,h2⟩:=st
  obtain⟨xs,ys,x,y,hqx,hqy,hx,hy⟩:=hg
  obtain⟨its,rv,p,_⟩:=I.list hqx
  obtain⟨its2,rv2,p2,_⟩:=I.list hqy
  obtain⟨u,hu,ru⟩:=rv.get hx
  obtain⟨u2,hu2,ru2⟩:=rv2.get hy
  have hzl:z<s.heap.objs.size:=Heap.lt_size hz
  refine wpAny_pyNext_zip_item D hz hTI hTO h1 h2 p.isList p2.isList (x:=u) (y:=u2) (by simpa using hu) (by simpa using hu2) fun h' z' TO' h1' h2' hT hsz hk=>?_
  refine⟨_,rfl,wpAny_letOwnedTupleGo_zip (s:={ s with heap:=h' }) z' fun h'' z'' sb=>?_⟩
  have hT2:h''.get? s.heap.objs.size=some { cls:=.type "tuple",data:=.seq #[u,u2] }:=(sb.2 _ (Le hzl)).trans hT
  have new:mT X.prog X.w (upd H s.heap.objs.size (.tup [x,y])) h'' s.heap.objs.size (.tup [x,y]):=
   ⟨by show 2≤sizeLine;decide,[u,u2],.cons ru (.cons ru2 .nil),⟨_,hT2,rfl,_,rfl⟩⟩
  have I1:Inv X pins σ (upd H s.heap.objs.size (.tup [x,y])) { s with heap:=h'' }:=
   I.turnedNew (t':=s.toks) (ch:=[z,TI,TO,i1,i2]) (fun c o hb q=>(sb.2 c (fun q'=>hb (by simp[q']))).trans (hk c o (fun q'=>hb (by simp[q'])) (fun q'=>hb (by simp[q'])) (fun q'=>hb (by simp[q'])) (fun q'=>hb (by simp[q'])) q)) hf (An _) new
  refine⟨.ref s.heap.objs.size,_,I1,rfl,⟨_,x,y,rfl,I.hok.fresh (An _),rfl,fun l hl=>by rw[I.list_inj hl hqx];exact hx,fun l hl=>by rw[I.list_inj hl hqy];exact hy⟩,⟨z'',?_,⟨u,u2,?_⟩,?_,?_⟩,fun c hcm=>?_⟩
  .exact(sb.2 _ D.TIz).trans (hk _ _ D.TIz D.TITO D.TIi1 D.TIi2 hTI)
  .exact(sb.2 _ D.TOz).trans TO'
  .exact h1'.at fun o q=>(sb.2 _ D.i1z).trans q
  .exact h2'.at fun o q=>(sb.2 _ D.i2z).trans q
  .have hlt:c<s.heap.objs.size:=by
    have e':c=z∨c=TI∨c=TO∨c=i1∨c=i2:=by simpa using hcm
    rcases e' with q|q|q|q|q
    .rw[q];exact hzl
    .rw[q];exact Heap.lt_size hTI
    .rw[q];exact Heap.lt_size hTO
    .rw[q];obtain⟨_,e1,_⟩:=h1;exact Heap.lt_size e1
    .rw[q];obtain⟨_,e2,_⟩:=h2;exact Heap.lt_size e2
   rw[aU (Cv hlt)]
   exact(hf c hcm).1
 done:=by
  intro X hP hw hK hc i pins s σ H E I hf st hg
  subst hP hw hK
  obtain⟨hz,hTI,⟨x0,y0,hTO⟩,h1,h2⟩:=st
  obtain⟨xs,ys,hqx,hqy,hend⟩:=hg
  obtain⟨its,rv,p,_⟩:=I.list hqx
  obtain⟨its2,rv2,p2,_⟩:=I.list hqy
  have l1:=rv.length
  have l2:=rv2.length
  have he:its.toArray[i]?=none∨its2.toArray[i]?=none:=by
   rcases hend with q|q
   .exact .inl (by simp;omega)
   .exact .inr (by simp;omega)
  exact wpAny_pyNext_zip_end (I.ok.hd hc) D hz hTI hTO h1 h2 p.isList p2.isList he fun h' hk=>⟨rfl,I.turnedL (t':=s.toks) (ch:=[z,TI,TO,i1,i2]) (fun c o hb q=>
   hk c o (fun q'=>hb (by simp[q'])) (fun q'=>hb (by simp[q'])) (fun q'=>hb (by simp[q'])) (fun q'=>hb (by simp[q'])) q) hf⟩
 self:=fun A i s Q E st h=>wpAny_pyIter_zip st.1 h
def bG1(K:Ad)(ta:TA):TI:=fun σ H R=>ta σ H fun vs H1=>∃a b xs ys,vs=[.ref a,.ref b]∧SqL K H1 a xs∧SqL K H1 b ys∧R (Itz K a b) H1
theorem bB1{X:Cx}{e e2:Expr}{ta:TA}{p pos tpos:Pos}{elts:List Expr}{kk:Nat}(hg:Gl X "zip")(hm:X.mg "zip"=none)(ha:PA X [e,e2] ta)
  (hs:starEach [e,e2] X.env=(false,eval e X.env)::starEach [e2] X.env:=by rfl) (hpl:(backTo pos (starEach [e2] X.env)).any (·.1)=false:=by rfl) :
  PI X (.Tuple elts kk tpos) (.Call (.Name "zip" p) [e,e2] [] pos) (bG1 X.K ta):=by
 intro pins s σ H R I h
 refine Call_ (nM I hg hm aL4 (Bp (thn (ha pos pins s σ H _ I h) fun us s1 ⟨vs,H1,I1,r1,q1⟩=>?_) hs hpl))
 obtain⟨a,b,xs,ys,ex,hqx,hqy,q⟩:=q1
 subst ex
 cases r1 with
 |cons r rr=>
  cases rr with
  |cons r' rr=>
   cases rr
   cases r
   cases r'
   obtain⟨its,rv,p1,_⟩:=I1.list hqx
   obtain⟨its2,rv2,p2,_⟩:=I1.list hqy
   have la:a<s1.heap.objs.size:=p1.lt
   have lb:b<s1.heap.objs.size:=p2.lt
   refine call_zip_2 p1.isList p2.isList fun h' hz hTI hTO h1 h2 hsz hk=>wpAny_pyIter_zip hz ?_
   have I2:Inv X pins σ H1 { s1 with heap:=h' }:=I1.kept (t':=s1.toks) hk
   refine⟨s1.heap.objs.size+4,[s1.heap.objs.size+4,s1.heap.objs.size+2,s1.heap.objs.size+3,s1.heap.objs.size,s1.heap.objs.size+1],_,_,H1,rfl,I2,aSb (PySem.W.ktu_apart s1.heap.objs.size a b la lb),⟨hz,hTI,⟨_,_,hTO⟩,h1,h2⟩,fun c hcm=>?_,q⟩
   have e':c=s1.heap.objs.size+4∨c=s1.heap.objs.size+2∨c=s1.heap.objs.size+3∨c=s1.heap.objs.size∨c=s1.heap.objs.size+1:=by simpa using hcm
   have hle:s1.heap.objs.size≤c:=by
    rcases e' with z|z|z|z|z
    .rw[z];exact F5 _ _
    .rw[z];exact F5 _ _
    .rw[z];exact F5 _ _
    .rw[z];exact An _
    .rw[z];exact F5 _ _
   exact I1.fpOk hle (I1.hok.fresh hle)
end L2
section 
namespace Bits
set_option maxRecDepth 100000
open PySem PyProof.Rows
end Bits
end 
section 
namespace TL
set_option maxRecDepth 100000
open PySem PySem.Builtin PySem.Builtin.Str PySem.StrLaws
end TL
end 
namespace L2
set_option maxRecDepth 100000
open PySem PySem.Spec PyProof.Rows
section
variable{X:Cx}{pins:List (Addr×Obj)}{σ:St}{H:Hp}{s:Shared}{Q:VK}
end
section
variable{X:Cx}
end
section
variable{X:Cx}{o e:Expr}{to te:TE}
end
section
variable{X:Cx}
end
end L2
namespace Att
set_option maxRecDepth 100000
open PySem PySem.W PySem.Calls PyProof.Rows
section
variable{prog:Program}{w:World}{A:Around}{E:Value→Shared→Prop}{s:Shared}{K:Frag}
end
end Att
namespace L2
set_option maxRecDepth 100000
open PySem PySem.Spec PyProof.Rows
noncomputable def aUf (s:Stmt) (j:Nat):Stmt:=match s with
 |.ClassDef _ _ _ body _ _ _ _ _ _ _=>body.getD j (.Pass ⟨0,0,0,0⟩)
 |_=>.Pass ⟨0,0,0,0⟩
noncomputable def mD (s:Stmt):Arguments:=match s with
 |.FunctionDef _ a _ _ _ _ _ _ _ _=>a
 |_=>{ posonlyargs:=[],args:=[],vararg:=none,kwonlyargs:=[],kw_defaults:=[],kwarg:=none,defaults:=[] }
def fS(s:Stmt):List Stmt:=match s with
 |.FunctionDef _ _ b _ _ _ _ _ _ _=>b
 |_=>[]
noncomputable def bL (s:Stmt):Scope:=match s with
 |.FunctionDef _ _ _ _ _ _ sc _ _ _=>sc
 |_=>{ kind:=.function,names:=[],isGenerator:=false,isCoroutine:=false }
abbrev CX0:CXT:=fun _ _ _ _ _ _=>False
abbrev E0:XK:=fun _ _ _=>False
theorem aJ9{X:Cx}:Passes CX0 X E0:=fun _ _ _ _ _ _ _ h=>h.elim
structure Fun(K:Ad)(x qual:Str)(st:Stmt)(f:Addr)(fd:FuncData):Prop where
 ex:∃(oc:Value)(od:Option Addr)(kV doc pm:Value)(an:Option Addr)(cdv ct:Value)(osl:Array (Option Value)),
  fd=Ez x qual (mD st) (fS st) (bL st) .none kV doc pm an cdv ct∧K.lookup f=some ⟨oc,od,.func fd,osl⟩∧G2 K cdv qual=true
 kp:Bl K (.ref f)=true
section
variable{P:Program}{w:World}{K:Ad}{mg:Str→Option Value}{base:Heap}
theorem Fun.ok{x qual:Str}{st:Stmt}{f:Addr}{fd:FuncData}{N ps:List Str}{k:Nat}{sp:Sp}(F:Fun K x qual st f fd)(S:FnScope N ps (bL st))(len:∀vs H Q E,sp vs H Q E→vs.length=ps.length)
  (hbody:∀(cdv:Value)(A:Around)(outer:List Env)(s:Shared)(H:Hp)(vs:List V)(Q:VK)(E:XK),Room k (A.deeper (envOfC qual (bL st) s.heap.objs.size f cdv))→sp vs H Q E→
   ∃t,PSs (aPm CX0 P w K mg base N qual (bL st) f cdv A outer s H E).nox (fS st) t∧t { nx:=fun _ H'=>Q .non H',rt:=Q } (start N vs) H):FnOk P w K mg base CX0 (k+1) f fd ps sp:=by
 obtain⟨oc,od,kV,doc,pm,an,cdv,ct,osl,rfl,lk,hcd⟩:=F.ex
 refine bD5 lk hcd S len fun A outer s H vs Q E hr hsp=>?_
 obtain⟨t,h,q⟩:=hbody cdv A outer s H vs Q E hr hsp
 exact⟨t,h.nox,q⟩
theorem Fun.binds{x qual:Str}{st:Stmt}{f:Addr}{fd:FuncData}{ps:List Str}(F:Fun K x qual st f fd)
  (h:∀(kV doc pm:Value)(an:Option Addr)(cdv ct:Value)(us:List Value),us.length=ps.length→bindArgs (Ez x qual (mD st) (fS st) (bL st) .none kV doc pm an cdv ct) ⟨us,[]⟩=pure (ps.zip us)):Binds K fd ps []:=by
 obtain⟨oc,od,kV,doc,pm,an,cdv,ct,osl,rfl,lk,hcd⟩:=F.ex
 exact .all (h kV doc pm an cdv ct)
theorem aSx{x qual:Str}{st:Stmt}{f:Addr}{oc:Value}{od an:Option Addr}{osl:Array (Option Value)}{kV doc pm cdv ct:Value}(l:K.lookup f=some ⟨oc,od,.func (Ez x qual (mD st) (fS st) (bL st) .none kV doc pm an cdv ct),osl⟩)
  (c:G2 K cdv qual=true) (k:Bl K (.ref f)=true):Fun K x qual st f (Ez x qual (mD st) (fS st) (bL st) .none kV doc pm an cdv ct):=⟨⟨oc,od,kV,doc,pm,an,cdv,ct,osl,rfl,l,c⟩,k⟩
end
section
variable{X:Cx}
theorem pv(i:Nat){x:Str}{pos:Pos}(hN:X.N[i]?=some x:=by rfl)(hv:Vis X.env.scope x:=by first|exact Lx rfl|exact Or.inr (Lx rfl)|exact Or.inr (Or.inr rfl))(hd:(x==("__debug__":Str))=false:=by decide)
  (hcd:(x==("__classdict__":Str))=false:=by decide):PE X (.Name x pos) (aJl i):=aO5 hN hv hd hcd
end
def Same(H H':Hp):Prop:=∀b o,H b=some o→H' b=some o
theorem Same.seq{K:Ad}{H H':Hp}{a:Addr}{xs:List V}(e:Same H H')(h:SqL K H a xs):SqL K H' a xs:=by
 rcases h with(h|⟨o,h⟩)|h
 .exact .inl (.inl (e _ _ h))
 .exact .inl (.inr ⟨o,e _ _ h⟩)
 .exact .inr h
section
variable{κ:Type}[DecidableEq κ]
end
end L2
namespace L2
set_option maxRecDepth 100000
open PySem PySem.Spec PyProof.Rows
open PySem.W (WData Codec OpenSpec Well WellAll ReadsW ReadsAllW)
mutual
/-- x stands for the datum d,lists and tuples all the way -/
inductive Dw(K:Ad)(H:Hp):V→WData→Prop
 |non:Dw K H .non .none
 |bl (b:Bool):Dw K H (.bl b) (.bool b)
 |int (i:Int):Dw K H (.int i) (.int i)
 |str (x:Str):Dw K H (.str x) (.str x)
 |byt (b:Array UInt8):Dw K H (.byt b) (.bytes b.toList)
 |lst {a:Addr} {xs:List V} {ds:List WData}:SqL K H a xs→DwAll K H xs ds→Dw K H (.ref a) (.list ds)
 |tup {a:Addr} {xs:List V} {ds:List WData}:SqT K H a xs→DwAll K H xs ds→Dw K H (.ref a) (.tuple ds)
inductive DwAll(K:Ad)(H:Hp):List V→List WData→Prop
 |nil:DwAll K H [] []
 |cons {v:V} {vs:List V} {d:WData} {ds:List WData}:Dw K H v d→DwAll K H vs ds→DwAll K H (v::vs) (d::ds)
end
theorem aLi{K:Ad}{H:Hp}:∀ns:List Int,DwAll K H (ns.map V.int) (ns.map WData.int)
 |[]=>.nil
 |n::r=>.cons (.int n) (aLi r)
theorem aM5{K:Ad}{H:Hp}:∀(ns:List Int)(xs:List V),DwAll K H xs (ns.map WData.int)→xs=ns.map V.int
 |[],xs,h=>by
  cases h
  rfl
 |n::r,xs,h=>by
  cases h with
  |cons h1 h2=>
   cases h1
   rw[aM5 r _ h2]<;>rfl
section
variable{P:Program}{w:World}{K:Ad}{H:Hp}{h:Heap}{R:Ln}{cl:Str→Option Addr}
theorem bBq{a:Addr}{xs:List V}(hok:HOk P w H h)(KX:K.In h)(q:SqL K H a xs):∃(its:List Value)(o:Obj)(n:Nat),Vals xs its∧h.get? a=some o∧o.cls=.type "list"∧o.data=.seq its.toArray n:=by
 rcases q with q|⟨o,its,n,e,hc,_,hd,_,hv⟩
 .obtain⟨_,its,n,hv,e⟩:=(show mT P w H h a (.lst xs)from q.ok hok)
  exact⟨its,_,n,hv,e,rfl,rfl⟩
 .exact⟨its.toList,o,n,hv,KX _ _ e,hc,by simp[hd]⟩
theorem bBr{a:Addr}{xs:List V}(hok:HOk P w H h)(KX:K.In h)(q:SqT K H a xs):∃(its:List Value)(o:Obj)(n:Nat),Vals xs its∧h.get? a=some o∧o.cls=.type "tuple"∧o.data=.seq its.toArray n:=by
 rcases q with q|⟨o,its,n,e,hc,hd,_,hv⟩
 .obtain⟨_,its,hv,o,e,hc,n,hd⟩:=(show mT P w H h a (.tup xs)from q.ok hok)
  exact⟨its,o,n,hv,e,hc,hd⟩
 .exact⟨its.toList,o,n,hv,KX _ _ e,hc,by simp[hd]⟩
mutual
theorem Dw.reads(hok:HOk P w H h)(KX:K.In h):∀(d:WData)(v:V)(u:Value),Dw K H v d→gX v u→∃as,ReadsW R cl h u d as
 |.none,_,_,x,r=>by
  cases x
  cases r
  exact⟨_,ReadsW.none⟩
 |.bool b,_,_,x,r=>by
  cases x
  cases r
  exact⟨_,ReadsW.bool b⟩
 |.int i,_,_,x,r=>by
  cases x
  obtain⟨t,rfl⟩:=r
  exact⟨_,ReadsW.int i t⟩
 |.str s,_,_,x,r=>by
  cases x
  obtain⟨t,rfl⟩:=r
  exact⟨_,ReadsW.str s t⟩
 |.bytes b,_,_,x,r=>by
  cases x
  obtain⟨t,rfl⟩:=r
  exact⟨_,ReadsW.bytes _ t⟩
 |.list ds,_,_,x,r=>by
  cases x with
  |lst hs ha=>
   cases r
   obtain⟨its,o,n,rv,ho,hc,hd⟩:=bBq hok KX hs
   obtain⟨as,hr⟩:=Dw.readsAll hok KX ds _ its ha rv
   exact⟨_,ReadsW.list ho hc hd hr⟩
 |.tuple ds,_,_,x,r=>by
  cases x with
  |tup hs ha=>
   cases r
   obtain⟨its,o,n,rv,ho,hc,hd⟩:=bBr hok KX hs
   obtain⟨as,hr⟩:=Dw.readsAll hok KX ds _ its ha rv
   exact⟨_,ReadsW.tuple ho hc hd hr⟩
 |.float _,_,_,x,_=>by cases x
 |.dict _,_,_,x,_=>by cases x
 |.bytearray _,_,_,x,_=>by cases x
 |.set _,_,_,x,_=>by cases x
 |.frozenset _,_,_,x,_=>by cases x
 |.obj _ _,_,_,x,_=>by cases x
theorem Dw.readsAll(hok:HOk P w H h)(KX:K.In h):∀(ds:List WData)(vs:List V)(us:List Value),DwAll K H vs ds→Vals vs us→∃as,ReadsAllW R cl h us ds as
 |[],_,_,x,r=>by
  cases x
  cases r
  exact⟨_,ReadsAllW.nil⟩
 |d::ds,_,_,x,r=>by
  cases x with
  |cons h1 h2=>
   cases r with
   |cons r1 r2=>
    obtain⟨as,q1⟩:=Dw.reads hok KX d _ _ h1 r1
    obtain⟨bs,q2⟩:=Dw.readsAll hok KX ds _ _ h2 r2
    exact⟨_,ReadsAllW.cons q1 q2⟩
end
end
mutual
/-- data that a codec tells -/
noncomputable def plW:WData→Bool
 |.none=>true
 |.bool _=>true
 |.int _=>true
 |.str _=>true
 |.bytes _=>true
 |.list xs=>aJt xs
 |.tuple xs=>aJt xs
 |_=>false
noncomputable def aJt:List WData→Bool
 |[]=>true
 |x::r=>plW x&&aJt r
end
theorem aHc{α:Type}{f:α→WData}(h:∀a,plW (f a)=true):∀l:List α,aJt (l.map f)=true
 |[]=>rfl
 |x::r=>by
  show(plW (f x)&&aJt (r.map f))=true
  rw[h x,aHc h r]<;>rfl
theorem tH:∀(c:Codec)(a:c.denote),plW (c.enc a)=true
 |.unit,_=>rfl
 |.bool,_=>rfl
 |.int _ _,_=>rfl
 |.nat _ _,_=>rfl
 |.u8,_=>rfl
 |.bytes _ _,_=>rfl
 |.text _ _ _ _,_=>rfl
 |.list _ _ c,a=>aHc (fun x=>tH c x) a
 |.pair c d,a=>by
  show(plW (c.enc a.1)&&(plW (d.enc a.2)&&true))=true
  rw[tH c a.1,tH d a.2]<;>rfl
 |.triple c d e,a=>by
  show(plW (c.enc a.1)&&(plW (d.enc a.2.1)&&(plW (e.enc a.2.2)&&true)))=true
  rw[tH c a.1,tH d a.2.1,tH e a.2.2]<;>rfl
 |.option c,none=>rfl
 |.option c,some x=>tH c x
theorem aDb:∀(cs:List Codec)(a:Codec.denoteAll cs),aJt (Codec.encAll cs a)=true
 |[],_=>rfl
 |c::cs,a=>by
  show(plW (c.enc a.1)&&aJt (Codec.encAll cs a.2))=true
  rw[tH c a.1,aDb cs a.2]<;>rfl
theorem sV:∀{xs:List WData}{d:WData},d∈xs→d.weight≤WData.weightAll xs
 |[],d,h=>absurd h (by simp)
 |x::r,d,h=>by
  show d.weight≤x.weight+1+WData.weightAll r
  rcases A1.mp h with e|m
  .rw[e]
   omega
  .have z:=sV m
   omega
noncomputable def toV:Value→V
 |.none=>.non
 |.bool b=>.bl b
 |.int i _=>.int i
 |.str x _=>.str x
 |.bytes b _=>.byt b
 |.ref a=>.ref a
 |_=>.non
def OkU(A:List Addr):Value→Prop
 |.none=>True
 |.bool _=>True
 |.int _ _=>True
 |.str _ _=>True
 |.bytes _ _=>True
 |.ref a=>a∈A
 |_=>False
theorem OkU.mono{A B:List Addr}(h:∀a∈A,a∈B):∀{u:Value},OkU A u→OkU B u:=fun{u}x=>by
 cases u with
 |ref a=>exact h a x
 |none=>trivial
 |bool b=>trivial
 |int i t=>trivial
 |str s t=>trivial
 |bytes b t=>trivial
 |_=>exact Dz x
theorem aRz{A:List Addr}{u:Value}(x:OkU A u):gX (toV u) u:=by
 cases u with
 |ref a=>rfl
 |none=>rfl
 |bool b=>rfl
 |int i t=>exact⟨t,rfl⟩
 |str s t=>exact⟨t,rfl⟩
 |bytes b t=>exact⟨t,rfl⟩
 |_=>exact Dz x
theorem oF{A:List Addr}:∀{vs:List Value},(∀u∈vs,OkU A u)→Vals (vs.map toV) vs
 |[],_=>.nil
 |u::r,h=>.cons (aRz (h u (Bu ..))) (oF fun x hx=>h x (A4 _ hx))
def tJ(h:Heap)(A:List Addr)(a:Addr):Prop:=∃vs:List Value,vs.length≤sizeLine∧(∀u∈vs,OkU A u) ∧
 (h.get? a=some { cls:=.type "list",data:=.seq vs.toArray }∨h.get? a=some { cls:=.type "tuple",data:=.seq vs.toArray })
theorem tJ.mono{h:Heap}{A B:List Addr}{a:Addr}(k:∀a∈A,a∈B)(x:tJ h A a):tJ h B a:=by
 obtain⟨vs,h1,h2,h3⟩:=x
 exact⟨vs,h1,fun u hu=>(h2 u hu).mono k,h3⟩
theorem mS{P:Params}{h:Heap}:∀{vs:List Value}{ds:List WData},WellAll P h vs ds→vs.length=ds.length
 |_,_,.nil=>rfl
 |_,_,.cons _ b=>by
  show _+1=_+1
  rw[mS b]
theorem aDp{P:Params}{h:Heap}{v:Value}{ds:List WData}(x:Well P h v (.list ds)):∃(a:Addr)(vs:List Value),v=.ref a∧h.get? a=some { cls:=.type "list",data:=.seq vs.toArray }∧WellAll P h vs ds:=by
 cases x with
 |list ho hall=>exact⟨_,_,rfl,ho,hall⟩
theorem zF{P:Params}{h:Heap}{v:Value}{ds:List WData}(x:Well P h v (.tuple ds)):∃(a:Addr)(vs:List Value),v=.ref a∧h.get? a=some { cls:=.type "tuple",data:=.seq vs.toArray }∧WellAll P h vs ds:=by
 cases x with
 |tuple ho hall=>exact⟨_,_,rfl,ho,hall⟩
theorem aDo{P:Params}{h:Heap}{us:List Value}{d:WData}{ds:List WData}(x:WellAll P h us (d::ds)):∃(v:Value)(vs:List Value),us=v::vs∧Well P h v d∧WellAll P h vs ds:=by
 cases x with
 |cons a b=>exact⟨_,_,rfl,a,b⟩
theorem aMc{n:Nat}(h:n≤1048576):n≤sizeLine:=B7 h (by decide)
section
variable{P:Params}{h:Heap}
mutual
theorem aPq:∀(d:WData)(v:Value),Well P h v d→plW d=true→d.weight≤1048576→∃A:List Addr,OkU A v∧∀a∈A,tJ h A a
 |.none,_,x,_,_=>by
  cases x
  exact⟨[],trivial,fun a m=>absurd m (by simp)⟩
 |.bool b,_,x,_,_=>by
  cases x
  exact⟨[],trivial,fun a m=>absurd m (by simp)⟩
 |.int i,_,x,_,_=>by
  cases x
  exact⟨[],trivial,fun a m=>absurd m (by simp)⟩
 |.str s,_,x,_,_=>by
  cases x
  exact⟨[],trivial,fun a m=>absurd m (by simp)⟩
 |.bytes b,_,x,_,_=>by
  cases x
  exact⟨[],trivial,fun a m=>absurd m (by simp)⟩
 |.list ds,_,x,p,z=>by
  obtain⟨a,vs,rfl,ho,hall⟩:=aDp x
  have z2:WData.weightAll ds≤1048576:=z
  obtain⟨A,h1,h2⟩:=tX ds _ hall p fun d hd=>B7 (sV hd) z2
  have k:∀b∈A,b∈a::A:=fun b hb=>A4 _ hb
  refine⟨a::A,Bu ..,fun b hb=>?_⟩
  rcases A1.mp hb with e|m
  .rw[e]
   exact⟨vs,aMc (by rw[mS hall];exact B7 (Hi ds) z2),fun u hu=>(h1 u hu).mono k,.inl ho⟩
  .exact(h2 b m).mono k
 |.tuple ds,_,x,p,z=>by
  obtain⟨a,vs,rfl,ho,hall⟩:=zF x
  have z2:WData.weightAll ds≤1048576:=z
  obtain⟨A,h1,h2⟩:=tX ds _ hall p fun d hd=>B7 (sV hd) z2
  have k:∀b∈A,b∈a::A:=fun b hb=>A4 _ hb
  refine⟨a::A,Bu ..,fun b hb=>?_⟩
  rcases A1.mp hb with e|m
  .rw[e]
   exact⟨vs,aMc (by rw[mS hall];exact B7 (Hi ds) z2),fun u hu=>(h1 u hu).mono k,.inr ho⟩
  .exact(h2 b m).mono k
 |.float _,_,_,p,_=>Cn (show false=true from p)
 |.dict _,_,_,p,_=>Cn (show false=true from p)
 |.bytearray _,_,_,p,_=>Cn (show false=true from p)
 |.set _,_,_,p,_=>Cn (show false=true from p)
 |.frozenset _,_,_,p,_=>Cn (show false=true from p)
 |.obj _ _,_,_,p,_=>Cn (show false=true from p)
theorem tX:∀(ds:List WData)(vs:List Value),WellAll P h vs ds→aJt ds=true→(∀d∈ds,d.weight≤1048576)→∃A:List Addr,(∀u∈vs,OkU A u)∧∀a∈A,tJ h A a
 |[],_,x,_,_=>by
  cases x
  exact⟨[],fun u m=>absurd m (by simp),fun a m=>absurd m (by simp)⟩
 |d::ds,_,x,p,z=>by
  obtain⟨v,vs,rfl,x1,x2⟩:=aDo x
  have q:plW d=true∧aJt ds=true:=Er.mp p
  obtain⟨A,a1,a2⟩:=aPq d v x1 q.1 (z d (Bu ..))
  obtain⟨B,b1,b2⟩:=tX ds vs x2 q.2 fun e he=>z e (A4 _ he)
  have kA:∀b∈A,b∈A++B:=fun b hb=>Ed.mpr (.inl hb)
  have kB:∀b∈B,b∈A++B:=fun b hb=>Ed.mpr (.inr hb)
  refine⟨A++B,fun u hu=>?_,fun b hb=>?_⟩
  .rcases A1.mp hu with e|m
   .rw[e]
    exact a1.mono kA
   .exact(b1 u m).mono kB
  .rcases Ed.mp hb with m|m
   .exact(a2 b m).mono kA
   .exact(b2 b m).mono kB
end
end
noncomputable def bCc (o:Obj):Option HO:=match o.data with
 |.seq vs _=>if(o.cls==Value.type "list")=true then some (.frz o (.lst (vs.toList.map toV)))else some (.frz o (.tup (vs.toList.map toV)))
 |_=>none
noncomputable def zI (K:Ad) (h:Heap) (A:List Addr):Hp:=fun b=>if b∈A then(if(K.lookup b).isNone=true then(h.get? b).bind bCc else none)else none
def aJy(H:Hp):Prop:=∀b,H b=none∨∃o u,H b=some (.frz o u)
theorem aGn(vs:List Value):bCc { cls:=.type "list",data:=.seq vs.toArray }=some (.frz { cls:=.type "list",data:=.seq vs.toArray } (.lst (vs.map toV))):=by
 show(if(Value.type "list"==Value.type "list")=true then some (HO.frz { cls:=.type "list",data:=.seq vs.toArray } (.lst (vs.toArray.toList.map toV)))else some (HO.frz { cls:=.type "list",data:=.seq vs.toArray } (.tup (vs.toArray.toList.map toV))))=_
 rw[ip (beq_self_eq_true _)]
theorem aGo(vs:List Value):bCc { cls:=.type "tuple",data:=.seq vs.toArray }=some (.frz { cls:=.type "tuple",data:=.seq vs.toArray } (.tup (vs.map toV))):=by
 show(if(Value.type "tuple"==Value.type "list")=true then some (HO.frz { cls:=.type "tuple",data:=.seq vs.toArray } (.lst (vs.toArray.toList.map toV)))else some (HO.frz { cls:=.type "tuple",data:=.seq vs.toArray } (.tup (vs.toArray.toList.map toV))))=_
 rw[ig (by decide)]
section
variable{P:Program}{w:World}{K:Ad}{h:Heap}{A:List Addr}
theorem zJ{b:Addr}{o:Obj}(hb:b∈A)(hk:K.lookup b=none)(e:h.get? b=some o):zI K h A b=bCc o:=by
 unfold zI
 rw[ip hb,hk,ip (show(none:Option Obj).isNone=true from rfl),e]<;>rfl
theorem aVu{b:Addr}{u:HO}(q:zI K h A b=some u):b∈A∧K.lookup b=none:=by
 unfold zI at q
 by_cases hb:b∈A
 .rw[ip hb]at q
  cases hk:K.lookup b with
  |none=>exact⟨hb,rfl⟩
  |some o=>
   rw[hk,ig (by simp)]at q
   cases q
 .rw[ig hb]at q
  cases q
theorem zK(ar:∀a∈A,tJ h A a){b:Addr}{u:HO}(q:zI K h A b=some u):K.lookup b=none∧∃vs:List Value,vs.length≤sizeLine∧(∀u∈vs,OkU A u) ∧
  ((h.get? b=some { cls:=.type "list",data:=.seq vs.toArray }∧u=.frz { cls:=.type "list",data:=.seq vs.toArray } (.lst (vs.map toV))) ∨
  (h.get? b=some { cls:=.type "tuple",data:=.seq vs.toArray }∧u=.frz { cls:=.type "tuple",data:=.seq vs.toArray } (.tup (vs.map toV)))):=by
 obtain⟨hb,hk⟩:=aVu q
 obtain⟨vs,h1,h2,h3⟩:=ar b hb
 refine⟨hk,vs,h1,h2,?_⟩
 rcases h3 with e|e
 .rw[zJ hb hk e,aGn]at q
  exact .inl ⟨e,(A0 q).symm⟩
 .rw[zJ hb hk e,aGo]at q
  exact .inr ⟨e,(A0 q).symm⟩
theorem aK5(ar:∀a∈A,tJ h A a):aJy (zI K h A):=fun b=>by
 cases q:zI K h A b with
 |none=>exact .inl rfl
 |some u=>
  obtain⟨_,vs,_,_,⟨_,e⟩|⟨_,e⟩⟩:=zK ar q
  .exact .inr ⟨_,_,by rw[e]⟩
  .exact .inr ⟨_,_,by rw[e]⟩
theorem aTo(ar:∀a∈A,tJ h A a):HOk P w (zI K h A) h:=fun b u q=>by
 obtain⟨_,vs,h1,h2,⟨e,rfl⟩|⟨e,rfl⟩⟩:=zK ar q
 .exact⟨e,by rw[Ag];exact h1,vs,_,oF h2,e⟩
 .exact⟨e,by rw[Ag];exact h1,vs,oF h2,_,e,rfl,_,rfl⟩
theorem aBr{c c':Value}{vs us:List Value}(e:(some { cls:=c,data:=.seq vs.toArray }:Option Obj)=some { cls:=c',data:=.seq us.toArray }):c=c'∧vs=us:=by
 have e1:=A0 e
 have e2:c=c':=congrArg Obj.cls e1
 have e3:Data.seq vs.toArray=Data.seq us.toArray:=congrArg Obj.data e1
 injection e3 with e4
 refine⟨e2,?_⟩
 have e5:=congrArg Ld e4
 simpa using e5
theorem bFe(KX:K.In h)(ar:∀a∈A,tJ h A a){a:Addr}{vs:List Value}(ha:a∈A)(e:h.get? a=some { cls:=.type "list",data:=.seq vs.toArray }):(∀u∈vs,OkU A u)∧SqL K (zI K h A) a (vs.map toV):=by
 obtain⟨us,h1,h2,h3⟩:=ar a ha
 have hu:us=vs:=by
  rcases h3 with q|q
  .rw[e]at q
   exact(aBr q).2.symm
  .rw[e]at q
   exact absurd (Value.type.inj (aBr q).1) (by decide)
 subst hu
 refine⟨h2,?_⟩
 cases hk:K.lookup a with
 |none=>exact .inl (.inr ⟨_,by rw[zJ ha hk e,aGn]⟩)
 |some o=>
  have e2:=KX a o hk
  rw[e]at e2
  obtain rfl:=A0 e2
  exact .inr ⟨_,us.toArray,_,hk,rfl,rfl,rfl,by rw[Am];exact h1,by simpa using oF h2⟩
theorem bFf(KX:K.In h)(ar:∀a∈A,tJ h A a){a:Addr}{vs:List Value}(ha:a∈A)(e:h.get? a=some { cls:=.type "tuple",data:=.seq vs.toArray }):(∀u∈vs,OkU A u)∧SqT K (zI K h A) a (vs.map toV):=by
 obtain⟨us,h1,h2,h3⟩:=ar a ha
 have hu:us=vs:=by
  rcases h3 with q|q
  .rw[e]at q
   exact absurd (Value.type.inj (aBr q).1) (by decide)
  .rw[e]at q
   exact(aBr q).2.symm
 subst hu
 refine⟨h2,?_⟩
 cases hk:K.lookup a with
 |none=>exact .inl (.inr ⟨_,by rw[zJ ha hk e,aGo]⟩)
 |some o=>
  have e2:=KX a o hk
  rw[e]at e2
  obtain rfl:=A0 e2
  exact .inr ⟨_,us.toArray,_,hk,rfl,rfl,by rw[Am];exact h1,by simpa using oF h2⟩
mutual
theorem aYd{Pm:Params}(KX:K.In h)(ar:∀a∈A,tJ h A a):∀(d:WData)(v:Value),Well Pm h v d→plW d=true→OkU A v→Dw K (zI K h A) (toV v) d
 |.none,_,x,_,_=>by
  cases x
  exact .non
 |.bool b,_,x,_,_=>by
  cases x
  exact .bl b
 |.int i,_,x,_,_=>by
  cases x
  exact .int i
 |.str s,_,x,_,_=>by
  cases x
  exact .str s
 |.bytes b,_,x,_,_=>by
  cases x
  have z:=Dw.byt (K:=K) (H:=zI K h A) b.toArray
  exact z
 |.list ds,_,x,p,hu=>by
  obtain⟨a,vs,rfl,ho,hall⟩:=aDp x
  obtain⟨h2,hs⟩:=bFe KX ar hu ho
  exact .lst hs (aGb KX ar ds _ hall p h2)
 |.tuple ds,_,x,p,hu=>by
  obtain⟨a,vs,rfl,ho,hall⟩:=zF x
  obtain⟨h2,hs⟩:=bFf KX ar hu ho
  exact .tup hs (aGb KX ar ds _ hall p h2)
 |.float _,_,_,p,_=>Cn (show false=true from p)
 |.dict _,_,_,p,_=>Cn (show false=true from p)
 |.bytearray _,_,_,p,_=>Cn (show false=true from p)
 |.set _,_,_,p,_=>Cn (show false=true from p)
 |.frozenset _,_,_,p,_=>Cn (show false=true from p)
 |.obj _ _,_,_,p,_=>Cn (show false=true from p)
theorem aGb{Pm:Params}(KX:K.In h)(ar:∀a∈A,tJ h A a):∀(ds:List WData)(vs:List Value),WellAll Pm h vs ds→aJt ds=true→(∀u∈vs,OkU A u)→DwAll K (zI K h A) (vs.map toV) ds
 |[],_,x,_,_=>by
  cases x
  exact .nil
 |d::ds,_,x,p,hu=>by
  obtain⟨v,vs,rfl,x1,x2⟩:=aDo x
  have q:plW d=true∧aJt ds=true:=Er.mp p
  exact .cons (aYd KX ar d v x1 q.1 (hu _ (Bu ..))) (aGb KX ar ds vs x2 q.2 fun u m=>hu u (A4 _ m))
end
end
theorem aOw{P:Program}{w:World}{K:Ad}{mg mb:Str→Option Value}{CX:CXT}{k:Nat}{fa:Addr}{fd:FuncData}{ps:List Str}{sp:Sp}{s₁:Shared}{vals:List Value}{ds:List WData}{R:Ln}{cl:Str→Option Addr}{d0:WData}
  (KX:K.In s₁.heap) (hns:s₁.heap.Ns mainGlobals mg) (hb:s₁.heap.Ns builtinsNs mb) (hbb:∀x:Str,x≠"__name__"→mb x=bootBuiltins x) (hlim:s₁.heap.NoLimit) (hg:s₁.gens=#[])
  (hwl:WellAll w.params s₁.heap vals ds) (hpl:aJt ds=true) (hwt:∀d∈ds,d.weight≤1048576) (hr:Room k callerA)
  (F:∀base:Heap,K.In base→base.Ns mainGlobals mg→FnOk P w K mg base CX k fa fd ps sp) (hbind:∀(s:Shared)(us:List Value),us.length=ps.length→BindsTo s fd ⟨us,[]⟩ (ps.zip us)) (hlen:ds.length=ps.length)
  (hsp:∀(H:Hp)(xs:List V),aJy H→DwAll K H xs ds→sp xs H (fun v H'=>Dw K H' v d0) fun _ _ _=>False)
  (hCX:∀H e s',CX [] H s₁ (fun _ _ _=>False) e s'→False) :
  codeAny (model P w) callerA (.call (.ref fa) ⟨vals,[]⟩) (fun r s'=>∃u as,r=.ok (.ret u)∧ReadsW R cl s'.heap u d0 as∧OldK s₁.heap s'.heap∧s'.os=s₁.os∧AllBare s'.gens) s₁:=by
 obtain⟨A,ho,ar⟩:=tX ds vals hwl hpl hwt
 have hO:aJy (zI K s₁.heap A):=aK5 ar
 have hok:HOk P w (zI K s₁.heap A) s₁.heap:=aTo ar
 have hS:=aGb KX ar ds vals hwl hpl ho
 have hV:=oF ho
 have hK:∀b u,zI K s₁.heap A b=some u→K.lookup b=none:=fun b u q=>(zK ar q).1
 have noA:∀{b:Addr}{o:Obj}{es:Array DictEntry}{ep:Nat},s₁.heap.get? b=some o→o.data=.dict es ep→zI K s₁.heap A b=none:=fun{b o es ep}e d=>by
  cases q:zI K s₁.heap A b with
  |none=>rfl
  |some u=>
   obtain⟨_,vs,_,_,⟨e2,_⟩|⟨e2,_⟩⟩:=zK ar q
   .rw[e2]at e
    cases e
    have d':Data.seq vs.toArray _=Data.dict es ep:=d
    cases d'
   .rw[e2]at e
    cases e
    have d':Data.seq vs.toArray _=Data.dict es ep:=d
    cases d'
 generalize zI K s₁.heap A=H at hO hok hS hK noA
 have vF:∀{b:Addr}{o:Obj},s₁.heap.get? b=some o→H b=none→(aQ8 s₁.heap H).get? b=some o:=fun e n=>aQ9 e n
 have nsK:∀{b:Addr}{m:Str→Option Value},s₁.heap.Ns b m→(aQ8 s₁.heap H).Ns b m:=fun{b m} ⟨o,es,ep,e,d,r⟩=>⟨o,es,ep,vF e (noA e d),d,r⟩
 have nK:∀b o,K.lookup b=some o→H b=none:=fun b o e=>by
  cases q:H b with
  |none=>rfl
  |some u=>
   rw[hK b u q]at e
   cases e
 have hKb:K.In (aQ8 s₁.heap H):=fun b o e=>vF (KX b o e) (nK b o e)
 have hM:Mod K mg (aQ8 s₁.heap H):=⟨hKb,nsK hns,⟨mb,nsK hb,hbb⟩,let ⟨mc,h1,h2⟩:=hlim;⟨mc,nsK h1,h2⟩⟩
 have e0:Env0 P w K mg (aQ8 s₁.heap H) callerA [] s₁ H:=⟨rfl,hM,fun b o e=>aVv e,Jl (aM3 _ _),trivial,fun b hb=>absurd (show b∈([]:List Addr)from hb) (by simp),hok,.of_eq hg⟩
 have hl:vals.length=ps.length:=by rw[mS hwl];exact hlen
 refine codeAny_mono ((F _ hKb (nsK hns)).run callerA [] s₁ H ⟨vals,[]⟩ vals (vals.map toV) _ _ hr e0 (hbind s₁ vals hl) hV (hsp H _ hO hS)) fun r s' x=>?_
 cases r with
 |error e=>exact(hCX H e s' x).elim
 |ok fl=>
  cases fl with
  |next=>exact Dz x
  |brk=>exact Dz x
  |cont=>exact Dz x
  |ret u=>
   obtain⟨v,H',os,bare,un,hok',r',q⟩:=x
   have kept:∀b o,s₁.heap.get? b=some o→s'.heap.get? b=some o:=fun b o e=>by
    cases q2:H b with
    |none=>exact un.keep b o e q2 (by intro z;exact absurd (show b∈([]:List Addr)from z) (by simp)) (by simp)
    |some u2=>
     rcases hO b with z|⟨ob,u3,z⟩
     .rw[q2]at z
      cases z
     .have z2:=un.frzs b ob _ z
      obtain⟨e1,_⟩:=hok b _ z
      obtain⟨e2,_⟩:=hok' b _ z2
      rw[e]at e1
      cases e1
      exact e2
   have KX':K.In s'.heap:=fun b o e=>kept b o (KX b o e)
   obtain⟨as,hrd⟩:=Dw.reads (R:=R) (cl:=cl) hok' KX' d0 v u q r'
   exact⟨u,as,rfl,hrd,OldK.of_keep kept,os,bare⟩
theorem xS{ds:List WData}(h:WData.layableAll ds=true):∀d∈ds,d.weight≤1048576:=fun d hd=>
 (PySem.W.layableW_iff.mp (Bc.mp h d hd)).2.2
theorem yQ:∀(cs:List Codec)(a:Codec.denoteAll cs),(Codec.encAll cs a).length=cs.length
 |[],_=>rfl
 |c::cs,a=>by
  show(Codec.encAll cs a.2).length+1=cs.length+1
  rw[yQ cs a.2]
theorem aPg{r:OpenSpec}{k:Nat}{q:Program}{loose:List Str}{XP:(Str→Option Value)→Heap→Prop}{YP:World→Heap→Prop}{d:DefRec}{K:Params→Ad}{CX:World→CXT}{ps:List Str}{sp:World→Sp}
  (hwell:r.wellSaid=true) (hdf:d.params.defaults=[]) (hlen:r.args.length=ps.length) (hr:Room k callerA)
  (hY:∀(w:World)(h:Heap),YP w h→(K w.params).In h)
  (F:∀(w:World)(mg:Str→Option Value)(fa:Addr)(h:Heap),YP w h→(K w.params).In h→h.Ns mainGlobals mg→mg d.name=some (.ref fa)→
   ∃fd:FuncData,(∀(s:Shared)(us:List Value),us.length=ps.length→BindsTo s fd ⟨us,[]⟩ (ps.zip us)) ∧
    ∀base:Heap,(K w.params).In base→base.Ns mainGlobals mg→FnOk r.prog w (K w.params) mg base (CX w) k fa fd ps (sp w))
  (hsp:∀(w:World)(H:Hp)(xs:List V)(a:Codec.denoteAll r.args),aJy H→Codec.withinAll r.args a=true→Codec.app r.args r.asked a=true→DwAll (K w.params) H xs (Codec.encAll r.args a)→
   sp w xs H (fun v H'=>Dw (K w.params) H' v (r.ret.enc (Codec.app r.args r.f a))) fun _ _ _=>False)
  (hCX:∀(w:World)(H:Hp)(s:Shared)(e:Value)(s':Shared),CX w [] H s (fun _ _ _=>False) e s'→False) :
  Mr q loose XP YP r d [] (fun f vs=>PySem.call f vs):=by
 intro w s_0 s₁ mg mb G Y fa o pm cd doc dV kV ho hd hcd hD hmg hg args vals as hpre hlay hrd hwl hlo
 obtain⟨a,e1,e2⟩:=PySem.W.os_pre_some hpre
 obtain⟨e3,hwi⟩:=Codec.encAll_of_decAll r.args args a e1
 subst e3
 have KX:=hY w _ Y
 obtain⟨fd,hb,hF⟩:=F w mg fa _ Y KX G.T.g hmg
 refine PySem.W.enter_call (codeAny_mono (aOw (R:=[]) (cl:=classAt s_0.heap) (d0:=r.ret.enc (Codec.app r.args r.f a)) KX G.T.g G.T.b G.T.builtins G.T.nolimit hg hwl (aDb _ _) (xS hlay) hr hF hb (by rw[yQ];exact hlen)
  (fun H xs hO hS=>hsp w H xs a hO hwi e2 hS) fun H e s'=>hCX w H s₁ e s') fun r' s' hq=>?_)
 obtain⟨u,as',rfl,h1,h2,h3,h4⟩:=hq
 exact⟨.inl ⟨u,_,as',rfl,fun _=>rfl,h1,(OpenSpec.post_iff hwell hwi _ _).mpr rfl,fun z=>Cn (show false=true from z)⟩,h2,h3,h4⟩
theorem aJp{r:OpenSpec}{k:Nat}{q:Program}{loose:List Str}{XP:(Str→Option Value)→Heap→Prop}{YP:World→Heap→Prop}{d:DefRec}{K:Params→Ad}{CX:CXT}{ps:List Str}{sp:Ad→Sp}
  (hwell:r.wellSaid=true) (hdf:d.params.defaults=[]) (hlen:r.args.length=ps.length) (hr:Room k callerA)
  (hY:∀(w:World)(h:Heap),YP w h→(K w.params).In h)
  (F:∀(w:World)(mg:Str→Option Value)(fa:Addr)(h:Heap),YP w h→(K w.params).In h→h.Ns mainGlobals mg→mg d.name=some (.ref fa)→
   ∃fd:FuncData,(∀(s:Shared)(us:List Value),us.length=ps.length→BindsTo s fd ⟨us,[]⟩ (ps.zip us)) ∧
    ∀base:Heap,(K w.params).In base→base.Ns mainGlobals mg→FnOk r.prog w (K w.params) mg base CX k fa fd ps (sp (K w.params)))
  (hsp:∀(K:Ad)(H:Hp)(xs:List V)(a:Codec.denoteAll r.args),aJy H→Codec.withinAll r.args a=true→Codec.app r.args r.asked a=true→DwAll K H xs (Codec.encAll r.args a)→
   sp K xs H (fun v H'=>Dw K H' v (r.ret.enc (Codec.app r.args r.f a))) fun _ _ _=>False)
  (hCX:∀(H:Hp)(s:Shared)(e:Value)(s':Shared),CX [] H s (fun _ _ _=>False) e s'→False) :
  Mr q loose XP YP r d [] (fun f vs=>PySem.call f vs):=
 aPg (K:=K) (CX:=fun _=>CX) (sp:=fun w=>sp (K w.params)) hwell hdf hlen hr hY F (fun w H xs a h1 h2 h3 h4=>hsp (K w.params) H xs a h1 h2 h3 h4) fun _ H s e s'=>hCX H s e s'
end L2
namespace Pl
inductive Dat where
 |non|bl (b:Bool)|int (i:Int)|lst (l:List Dat)|tup (l:List Dat)|rcd (l:List Dat)
inductive Bop where
 |add|sub|mul|fdiv|mod
 deriving DecidableEq
inductive Cop where
 |eq|ne|lt|le|gt|ge|isN|nin
 deriving DecidableEq
inductive Blt where
 |len|sum|max|min|abs|all|any|lrev|lrange|count|step2
 deriving DecidableEq
inductive Tg where
 |one (i:Nat)|two (i j:Nat)
 deriving DecidableEq
mutual
inductive Tm where
 |var (i:Nat)|int (z:Int)|bl (b:Bool)|non|glo (g:Nat)
 |bin (o:Bop) (a b:Tm)|cmp (o:Cop) (a b:Tm)
 |and_ (a b:Tm)|or_ (a b:Tm)|not_ (a:Tm)|neg (a:Tm)
 |ite (c a b:Tm)|idx (a b:Tm)|slc (a:Tm) (lo hi:Tms)|fld (a:Tm) (f:Nat)
 |lst (l:Tms)|tup (l:Tms)|call (f:Nat) (l:Tms)|blt (f:Blt) (l:Tms)
 |lc (e:Tm) (tg:Tg) (it:Wk) (c:Tms)
inductive Tms where
 |nil|cons (a:Tm) (r:Tms)
inductive Wk where
 |of (a:Tm)|range (l:Tms)|enum (a:Tm)|zip (a b:Tm)|rev (a:Tm)
end
mutual
inductive Stm where
 |set (i:Nat) (own:Bool) (e:Tm)|aug (i:Nat) (o:Bop) (e:Tm)
 |app (i:Nat) (e:Tm)|ext (i:Nat) (e:Tm)
 |ite (c:Tm) (a b:Stms)|whl (c:Tm) (b:Stms)|for_ (tg:Tg) (it:Wk) (b:Stms)
 |ret (e:Tm)
inductive Stms where
 |nil|cons (a:Stm) (r:Stms)
end
abbrev SZ:Nat:=16777216
abbrev Rho:=List (Option Dat)
noncomputable def flat:Dat→Bool
 |.lst _=>false|.tup _=>false|.rcd _=>false|_=>true
noncomputable def intz:List Dat→Option (List Int)
 |[]=>some []
 |.int i::r=>(intz r).map (i::·)
 |_::_=>none
noncomputable def bls:List Dat→Option (List Bool)
 |[]=>some []
 |.bl i::r=>(bls r).map (i::·)
 |_::_=>none
noncomputable def truth:Dat→Option Bool
 |.bl b=>some b
 |.int i=>some (decide (i≠0))
 |.lst l=>some (!l.isEmpty)
 |_=>none
noncomputable def aUp (i j:Int):Bool:=decide ((-18446744073709551616<i∧i<18446744073709551616)∨(-18446744073709551616<j∧j<18446744073709551616))
noncomputable def aU3 (j:Int):Bool:=decide (0<j∧j<1073741824)
noncomputable def n2 (f:Int→Int→Option Dat):Dat→Dat→Option Dat
 |.int i,.int j=>f i j
 |_,_=>none
noncomputable def n3 (f:Int→Int→Bool):Dat→Dat→Option Bool
 |.int i,.int j=>some (f i j)
 |_,_=>none
theorem aH5{f:Int→Int→Option Dat}{x y d:Dat}(h:n2 f x y=some d):∃i j,x=.int i∧y=.int j∧f i j=some d:=by
 cases x<;>cases y<;>first|cases h|exact⟨_,_,rfl,rfl,h⟩
theorem yV{f:Int→Int→Bool}{x y:Dat}{d:Bool}(h:n3 f x y=some d):∃i j,x=.int i∧y=.int j∧f i j=d:=by
 cases x<;>cases y<;>first|exact⟨_,_,rfl,rfl,A0 h⟩|cases h
def bop(o:Bop)(x y:Dat):Option Dat:=match o with
 |.add=>match x,y with
  |.int i,.int j=>some (.int (i+j))
  |.lst a,.lst b=>if a.length+b.length≤SZ then some (.lst (a++b))else none
  |_,_=>none
 |.sub=>n2 (fun i j=>some (.int (i-j))) x y
 |.mul=>n2 (fun i j=>if aUp i j then some (.int (i*j))else none) x y
 |.fdiv=>n2 (fun i j=>if aU3 j then some (.int (i/j))else none) x y
 |.mod=>n2 (fun i j=>if 0<j then some (.int (i%j))else none) x y
def cop(o:Cop)(x y:Dat):Option Bool:=match o with
 |.eq=>n3 (fun i j=>decide (i=j)) x y
 |.ne=>n3 (fun i j=>!decide (i=j)) x y
 |.lt=>n3 (fun i j=>decide (i<j)) x y
 |.le=>n3 (fun i j=>decide (i≤j)) x y
 |.gt=>n3 (fun i j=>decide (j<i)) x y
 |.ge=>n3 (fun i j=>decide (j≤i)) x y
 |.isN=>match y with
  |.non=>match x with
   |.non=>some true
   |_=>some false
  |_=>none
 |.nin=>match x,y with
  |.int i,.lst l=>(intz l).map fun ns=>!decide (i∈ns)
  |_,_=>none
noncomputable def qE (n:Nat) (i:Int):Option Nat:=if 0≤i then(if i<n then some i.toNat else none)else if -(n:Int)≤i then some (i+n).toNat else none
def at_(l:List Dat)(i:Int):Option Dat:=(qE l.length i).bind fun j=>l[j]?
def idx:Dat→Dat→Option Dat
 |.lst l,.int i=>at_ l i
 |.tup l,.int i=>at_ l i
 |_,_=>none
noncomputable def sIx (n d:Nat):Option Int→Nat
 |none=>d
 |some v=>if v<0 then(v+n).toNat else min v.toNat n
def cut(l:List Dat)(lo hi:Option Int):List Dat:=(l.drop (sIx l.length 0 lo)).take (sIx l.length l.length hi-sIx l.length 0 lo)
noncomputable def part:List Dat→Option (Option Int)
 |[]=>some none
 |[.int i]=>some (some i)
 |_=>none
noncomputable def aIf:List Int→Option Int
 |[]=>none
 |a::l=>some (l.foldl max a)
noncomputable def aUn:List Int→Option Int
 |[]=>none
 |a::l=>some (l.foldl min a)
noncomputable def prs:List Dat→Option (List (Int×Int))
 |[]=>some []
 |.tup [.int i,.int j]::r=>(prs r).map ((i,j)::·)
 |_::_=>none
noncomputable def evry:List Int→List Int
 |a::_::r=>a::evry r
 |l=>l
noncomputable def aJf (i:Int):Bool:=decide (-4611686018427387904≤i∧i<4611686018427387904)
noncomputable def upTo (lo:Int) (n:Nat):List Dat:=(Ab n).map fun(k:Nat)=>.int (lo+(k:Int))
noncomputable def vP (lo:Int) (n:Nat):List Dat:=(Ab n).map fun(k:Nat)=>.int (lo+(k:Int)*(-1))
def range:List Dat→Option (List Dat)
 |[.int j]=>if aJf j then some (upTo 0 j.toNat)else none
 |[.int i,.int j]=>if aJf i&&aJf j then some (upTo i (j-i).toNat)else none
 |[.int i,.int j,.int s]=>if s=-1&&aJf i&&aJf j then some (vP i (i-j).toNat)else none
 |_=>none
def blt(f:Blt)(ds:List Dat):Option Dat:=match f with
 |.len=>match ds with
  |[.lst l]=>some (.int l.length)
  |[.tup l]=>some (.int l.length)
  |_=>none
 |.sum=>match ds with
  |[.lst l]=>(intz l).map fun ns=>.int ns.sum
  |_=>none
 |.max=>match ds with
  |[.lst l]=>(intz l).bind fun ns=>(aIf ns).map .int
  |[.int i,.int j]=>some (.int (if j>i then j else i))
  |_=>none
 |.min=>match ds with
  |[.lst l]=>(intz l).bind fun ns=>(aUn ns).map .int
  |[.int i,.int j]=>some (.int (if j<i then j else i))
  |_=>none
 |.abs=>match ds with
  |[.int i]=>some (.int (if i<0 then -i else i))
  |_=>none
 |.all=>match ds with
  |[.lst l]=>(bls l).map fun bs=>.bl (bs.all id)
  |_=>none
 |.any=>match ds with
  |[.lst l]=>(bls l).map fun bs=>.bl (bs.any id)
  |_=>none
 |.lrev=>match ds with
  |[.lst l]=>some (.lst l.reverse)
  |_=>none
 |.lrange=>(range ds).bind fun r=>if r.length≤SZ then some (.lst r)else none
 |.count=>match ds with
  |[.lst l,.int i]=>(intz l).map fun ns=>.int ((ns.count i:Nat):Int)
  |[.lst l,.tup [.int i,.int j]]=>(prs l).map fun ns=>.int ((ns.count (i,j):Nat):Int)
  |_=>none
 |.step2=>match ds with
  |[.lst l,.int i]=>if 0≤i then(intz l).map fun ns=>.lst ((evry (ns.drop i.toNat)).map .int)else none
  |_=>none
noncomputable def eX:Nat→List Dat→List Dat
 |_,[]=>[]
 |n,d::r=>.tup [.int (n:Int),d]::eX (n+1) r
noncomputable def aDq:List Dat→List Dat→List Dat
 |a::l,b::r=>.tup [a,b]::aDq l r
 |_,_=>[]
noncomputable def sW:Dat→Option (List Dat)
 |.lst l=>some l
 |_=>none
noncomputable def aY0:Dat→Option (List Dat)
 |.lst l=>some l
 |.tup l=>some l
 |_=>none
noncomputable def aHu:Tg→Dat→Rho→Option Rho
 |.one i,d,r=>some (r.set i (some d))
 |.two i j,.tup [a,b],r=>some ((r.set i (some a)).set j (some b))
 |_,_,_=>none
def comp(tg:Tg)(c:Rho→Option Bool)(e:Rho→Option Dat)(r:Rho):List Dat→Option (List Dat)
 |[]=>some []
 |d::ds=>(aHu tg d r).bind fun r'=>(c r').bind fun b=>
  if b then(e r').bind fun x=>(comp tg c e r ds).map (x::·)else comp tg c e r ds
section
variable(F:Nat→List Dat→Option Dat)(G:Nat→Option Dat)
mutual
def ev:Tm→Rho→Option Dat
 |.var i,r=>(r[i]?).bind id
 |.int z,_=>some (.int z)
 |.bl b,_=>some (.bl b)
 |.non,_=>some .non
 |.glo g,_=>G g
 |.bin o a b,r=>(ev a r).bind fun x=>(ev b r).bind fun y=>bop o x y
 |.cmp o a b,r=>(ev a r).bind fun x=>(ev b r).bind fun y=>(cop o x y).map .bl
 |.and_ a b,r=>(ev a r).bind fun x=>match x with
  |.bl true=>(ev b r).bind fun y=>match y with
   |.bl k=>some (.bl k)
   |_=>none
  |.bl false=>some (.bl false)
  |_=>none
 |.or_ a b,r=>(ev a r).bind fun x=>match x with
  |.bl true=>some (.bl true)
  |.bl false=>(ev b r).bind fun y=>match y with
   |.bl k=>some (.bl k)
   |_=>none
  |_=>none
 |.not_ a,r=>(ev a r).bind fun x=>match x with
  |.bl k=>some (.bl !k)
  |_=>none
 |.neg a,r=>(ev a r).bind fun x=>match x with
  |.int i=>some (.int (-i))
  |_=>none
 |.ite c a b,r=>(ev c r).bind fun x=>(truth x).bind fun k=>if k then ev a r else ev b r
 |.idx a b,r=>(ev a r).bind fun x=>(ev b r).bind fun y=>idx x y
 |.slc a lo hi,r=>(ev a r).bind fun x=>(evs lo r).bind fun l=>(evs hi r).bind fun h=>(part l).bind fun l'=>(part h).bind fun h'=>match x with
  |.lst d=>some (.lst (cut d l' h'))
  |_=>none
 |.fld a f,r=>(ev a r).bind fun x=>match x with
  |.rcd fs=>fs[f]?
  |_=>none
 |.lst l,r=>(evs l r).bind fun d=>if d.length≤SZ then some (.lst d)else none
 |.tup l,r=>(evs l r).bind fun d=>if d.length≤SZ then some (.tup d)else none
 |.call f l,r=>(evs l r).bind fun d=>F f d
 |.blt f l,r=>(evs l r).bind fun d=>blt f d
 |.lc e tg it c,r=>(items it r).bind fun ds=>if ds.length≤SZ then(comp tg (tsts c) (ev e) r ds).map .lst else none
def evs:Tms→Rho→Option (List Dat)
 |.nil,_=>some []
 |.cons a t,r=>(ev a r).bind fun x=>(evs t r).map (x::·)
def items:Wk→Rho→Option (List Dat)
 |.of a,r=>(ev a r).bind aY0
 |.range l,r=>(evs l r).bind range
 |.enum a,r=>(ev a r).bind fun x=>(sW x).map (eX 0)
 |.zip a b,r=>(ev a r).bind fun x=>(ev b r).bind fun y=>(sW x).bind fun l=>(sW y).map fun m=>aDq l m
 |.rev a,r=>(ev a r).bind fun x=>(sW x).map List.reverse
def tsts:Tms→Rho→Option Bool
 |.nil,_=>some true
 |.cons c _,r=>(ev c r).bind truth
end
def tst(c:Tm)(r:Rho):Option Bool:=(ev F G c r).bind truth
abbrev Slot:=Option (Dat×Bool)
abbrev Env:=List Slot
noncomputable def rho (e:Env):Rho:=e.map fun s=>s.map (·.1)
inductive Flow where
 |nxt (e:Env)|ret (d:Dat)
mutual
/-- the slots out of which the addresses in a term's value may come -/
noncomputable def src:Tm→List Nat
 |.var i=>[i]
 |.int _=>[]|.bl _=>[]|.non=>[]|.glo _=>[]
 |.bin _ a b=>src a++src b
 |.cmp _ _ _=>[]|.and_ _ _=>[]|.or_ _ _=>[]|.not_ _=>[]|.neg _=>[]
 |.ite _ a b=>src a++src b
 |.idx a _=>src a
 |.slc a _ _=>src a
 |.fld a _=>src a
 |.lst l=>srcs l
 |.tup l=>srcs l
 |.call _ _=>[]
 |.blt f l=>match f with
  |.lrev=>srcs l
  |.lrange=>srcs l
  |_=>[]
 |.lc e _ it _=>bBs it++src e
noncomputable def srcs:Tms→List Nat
 |.nil=>[]
 |.cons a t=>src a++srcs t
noncomputable def bBs:Wk→List Nat
 |.of a=>src a
 |.range _=>[]
 |.enum a=>src a
 |.zip a b=>src a++src b
 |.rev a=>src a
end
noncomputable def tM:Tm→Bool
 |.bin _ _ _=>true|.slc _ _ _=>true|.lst _=>true|.call _ _=>true|.blt _ _=>true|.lc _ _ _ _=>true
 |_=>false
noncomputable def flats (d:Dat):Bool:=match d with
 |.lst l=>l.all flat
 |_=>false
noncomputable def owned (e:Env) (i:Nat):Bool:=match e[i]? with
 |some (some (_,o))=>o
 |_=>false
noncomputable def mine (e:Env) (i:Nat):Bool:=match e[i]? with
 |some (some (d,o))=>flat d||o
 |_=>true
noncomputable def lE (c:Env→Option Bool) (b:Env→Option Flow):Nat→Env→Option Flow
 |0,_=>none
 |n+1,e=>(c e).bind fun k=>if k then(b e).bind fun f=>match f with
  |.nxt e'=>lE c b n e'
  |.ret d=>some (.ret d)
  else some (.nxt e)
noncomputable def aPs:Tg→Dat→Env→Option Env
 |.one i,d,r=>some (r.set i (some (d,false)))
 |.two i j,.tup [a,b],r=>some ((r.set i (some (a,false))).set j (some (b,false)))
 |_,_,_=>none
def lN(tg:Tg)(b:Env→Option Flow):List Dat→Env→Option Flow
 |[],e=>some (.nxt e)
 |d::ds,e=>(aPs tg d e).bind fun e1=>(b e1).bind fun f=>match f with
  |.nxt e'=>lN tg b ds e'
  |.ret d=>some (.ret d)
variable(fuel:Nat)
mutual
def mQ:Stm→Env→Option Flow
 |.set i true e,s=>(ev F G e (rho s)).bind fun d=>if tM e&&flats d then some (.nxt (s.set i (some (d,true))))else none
 |.set i false e,s=>(ev F G e (rho s)).bind fun d=>if flat d||(src e).all (fun j=>!owned s j)then some (.nxt (s.set i (some (d,false))))else none
 |.aug i o e,s=>match s[i]? with
  |some (some (.int x,_))=>(ev F G e (rho s)).bind fun y=>match y with
   |.int z=>(bop o (.int x) (.int z)).map fun d=>.nxt (s.set i (some (d,false)))
   |_=>none
  |_=>none
 |.app i e,s=>match s[i]? with
  |some (some (.lst l,true))=>(ev F G e (rho s)).bind fun d=>if flat d&&decide (l.length<SZ)then some (.nxt (s.set i (some (.lst (l++[d]),true))))else none
  |_=>none
 |.ext i e,s=>match s[i]? with
  |some (some (.lst l,true))=>(ev F G e (rho s)).bind fun d=>match d with
   |.lst m=>if m.all flat&&decide (l.length+m.length≤SZ)then some (.nxt (s.set i (some (.lst (l++m),true))))else none
   |_=>none
  |_=>none
 |.ite c a b,s=>(tst F G c (rho s)).bind fun k=>if k then run a s else run b s
 |.whl c b,s=>lE (fun e=>tst F G c (rho e)) (fun e=>run b e) fuel s
 |.for_ tg it b,s=>(items F G it (rho s)).bind fun ds=>if(bBs it).all (fun j=>!owned s j)then lN tg (fun e=>run b e) ds s else none
 |.ret e,s=>(ev F G e (rho s)).bind fun d=>if flat d||(tM e&&flats d)||(src e).all (mine s)then some (.ret d)else none
def run:Stms→Env→Option Flow
 |.nil,s=>some (.nxt s)
 |.cons a r,s=>(mQ a s).bind fun f=>match f with
  |.nxt s'=>run r s'
  |.ret d=>some (.ret d)
end
noncomputable def start (n:Nat) (args:List Dat):Env:=args.map (fun d=>some (d,false))++A8 (n-args.length) none
def Computes(n:Nat)(b:Stms)(m:List Dat→Option Dat):Prop:=∀args d,m args=some d→args.length≤n∧∃fuel,run F G fuel b (start n args)=some (.ret d)
end
abbrev I(z:Int):Slot:=some (.int z,false)
abbrev N(n:Nat):Dat:=.int (n:Int)
section
variable{F:Nat→List Dat→Option Dat}{G:Nat→Option Dat}{f:Nat}
@[simp] theorem aLm{i r}:ev F G (.var i) r=(r[i]?).bind id:=Aq rfl rfl
@[simp] theorem bJ{z r}:ev F G (.int z) r=some (.int z):=Aq rfl rfl
@[simp] theorem aU6{z r}:ev F G (.bl z) r=some (.bl z):=Aq rfl rfl
@[simp] theorem oJ{r}:ev F G .non r=some .non:=Aq rfl rfl
@[simp] theorem aYk{g r}:ev F G (.glo g) r=G g:=Aq rfl rfl
@[simp] theorem aSt{o a b r}:ev F G (.bin o a b) r=(ev F G a r).bind fun x=>(ev F G b r).bind fun y=>bop o x y:=Aq rfl rfl
@[simp] theorem aYj{o a b r}:ev F G (.cmp o a b) r=(ev F G a r).bind fun x=>(ev F G b r).bind fun y=>(cop o x y).map .bl:=Aq rfl rfl
theorem aSs{a b r}:ev F G (.and_ a b) r=(ev F G a r).bind fun x=>match x with
  |.bl true=>(ev F G b r).bind fun y=>match y with
   |.bl k=>some (.bl k)
   |_=>none
  |.bl false=>some (.bl false)
  |_=>none:=Aq rfl rfl
theorem aGg{a b r k}(h:ev F G a r=some (.bl true))(h2:ev F G b r=some (.bl k)):ev F G (.and_ a b) r=some (.bl k):=by rw[aSs,h];simp[h2]
theorem aQ5{a b r}(h:ev F G a r=some (.bl false)):ev F G (.and_ a b) r=some (.bl false):=by rw[aSs,h];rfl
theorem aYq{a b r}:ev F G (.or_ a b) r=(ev F G a r).bind fun x=>match x with
  |.bl true=>some (.bl true)
  |.bl false=>(ev F G b r).bind fun y=>match y with
   |.bl k=>some (.bl k)
   |_=>none
  |_=>none:=Aq rfl rfl
theorem vQ{a b r}(h:ev F G a r=some (.bl true)):ev F G (.or_ a b) r=some (.bl true):=by rw[aYq,h];rfl
theorem rV{a b r k}(h:ev F G a r=some (.bl false))(h2:ev F G b r=some (.bl k)):ev F G (.or_ a b) r=some (.bl k):=by rw[aYq,h];simp[h2]
@[simp] theorem aYp{a r}:ev F G (.not_ a) r=(ev F G a r).bind fun x=>match x with
  |.bl k=>some (.bl !k)
  |_=>none:=Aq rfl rfl
@[simp] theorem aYo{a r}:ev F G (.neg a) r=(ev F G a r).bind fun x=>match x with
  |.int i=>some (.int (-i))
  |_=>none:=Aq rfl rfl
@[simp] theorem aSw{c a b r}:ev F G (.ite c a b) r=(ev F G c r).bind fun x=>(truth x).bind fun k=>if k then ev F G a r else ev F G b r:=Aq rfl rfl
@[simp] theorem aYl{a b r}:ev F G (.idx a b) r=(ev F G a r).bind fun x=>(ev F G b r).bind fun y=>idx x y:=Aq rfl rfl
@[simp] theorem aYr{a lo hi r}:ev F G (.slc a lo hi) r=(ev F G a r).bind fun x=>(evs F G lo r).bind fun l=>(evs F G hi r).bind fun h=>(part l).bind fun l'=>(part h).bind fun h'=>match x with
  |.lst d=>some (.lst (cut d l' h'))
  |_=>none:=Aq rfl rfl
@[simp] theorem aSv{a g r}:ev F G (.fld a g) r=(ev F G a r).bind fun x=>match x with
  |.rcd fs=>fs[g]?
  |_=>none:=Aq rfl rfl
@[simp] theorem aYn{l r}:ev F G (.lst l) r=(evs F G l r).bind fun d=>if d.length≤SZ then some (.lst d)else none:=Aq rfl rfl
@[simp] theorem aYs{l r}:ev F G (.tup l) r=(evs F G l r).bind fun d=>if d.length≤SZ then some (.tup d)else none:=Aq rfl rfl
@[simp] theorem aLl{g l r}:ev F G (.call g l) r=(evs F G l r).bind fun d=>F g d:=Aq rfl rfl
@[simp] theorem aSu{g l r}:ev F G (.blt g l) r=(evs F G l r).bind fun d=>blt g d:=Aq rfl rfl
@[simp] theorem aYm{e tg it c r}:ev F G (.lc e tg it c) r=(items F G it r).bind fun ds=>if ds.length≤SZ then(comp tg (tsts F G c) (ev F G e) r ds).map .lst else none:=Aq rfl rfl
@[simp] theorem aE{r}:evs F G .nil r=some []:=Aq rfl rfl
@[simp] theorem aGi{a t r}:evs F G (.cons a t) r=(ev F G a r).bind fun x=>(evs F G t r).map (x::·):=Aq rfl rfl
@[simp] theorem aGr{a r}:items F G (.of a) r=(ev F G a r).bind aY0:=Aq rfl rfl
@[simp] theorem vW{l r}:items F G (.range l) r=(evs F G l r).bind range:=Aq rfl rfl
@[simp] theorem aI9{a r}:items F G (.enum a) r=(ev F G a r).bind fun x=>(sW x).map (eX 0):=Aq rfl rfl
@[simp] theorem aM8{a b r}:items F G (.zip a b) r=(ev F G a r).bind fun x=>(ev F G b r).bind fun y=>(sW x).bind fun l=>(sW y).map fun m=>aDq l m:=Aq rfl rfl
@[simp] theorem vX{a r}:items F G (.rev a) r=(ev F G a r).bind fun x=>(sW x).map List.reverse:=Aq rfl rfl
@[simp] theorem aS8{r}:tsts F G .nil r=some true:=Aq rfl rfl
@[simp] theorem aS9{c t r}:tsts F G (.cons c t) r=(ev F G c r).bind truth:=Aq rfl rfl
@[simp] theorem pQ{c r}:tst F G c r=(ev F G c r).bind truth:=Aq rfl rfl
@[simp] theorem aHi{s:Slot}{e:Env}:rho (s::e)=s.map (·.1)::rho e:=Aq rfl rfl
@[simp] theorem aOo:rho []=[]:=Aq rfl rfl
@[simp] theorem aS7{b}:truth (.bl b)=some b:=Aq rfl rfl
@[simp] theorem bCb{i}:flat (.int i)=true:=Aq rfl rfl
@[simp] theorem aH8:part []=some none:=Aq rfl rfl
@[simp] theorem oB{i}:part [.int i]=some (some i):=Aq rfl rfl
@[simp] theorem fB{i j}:bop .add (.int i) (.int j)=some (.int (i+j)):=Aq rfl rfl
@[simp] theorem hJ{i j}:bop .sub (.int i) (.int j)=some (.int (i-j)):=Aq rfl rfl
@[simp] theorem nB{a b:List Dat}:bop .add (.lst a) (.lst b)=if a.length+b.length≤SZ then some (.lst (a++b))else none:=Aq rfl rfl
theorem aTx{i j:Int}(h:(-18446744073709551616<i∧i<18446744073709551616)∨(-18446744073709551616<j∧j<18446744073709551616)):bop .mul (.int i) (.int j)=some (.int (i*j)):=by
 show(if aUp i j then some (Dat.int (i*j))else none)=_
 rw[ip (show aUp i j=true from det h)]
theorem aPy{i j:Int}(h:0<j)(h2:j<1073741824):bop .fdiv (.int i) (.int j)=some (.int (i/j)):=by
 show(if aU3 j then some (Dat.int (i/j))else none)=_
 rw[ip (show aU3 j=true from det ⟨h,h2⟩)]
theorem aL5{i j:Int}(h:0<j):bop .mod (.int i) (.int j)=some (.int (i%j)):=by
 show(if 0<j then some (Dat.int (i%j))else none)=_
 rw[ip h]
theorem bT{m n:Nat}(h:0<n)(h2:n<1073741824):bop .fdiv (.int m) (.int n)=some (.int ((m/n:Nat):Int)):=by
 rw[aPy (by omega) (by omega)];simp
theorem cG{m n:Nat}(h:0<n):bop .mod (.int m) (.int n)=some (.int ((m%n:Nat):Int)):=by
 rw[aL5 (by omega)];simp
theorem dO{m n:Nat}(h:m<18446744073709551616∨n<18446744073709551616):bop .mul (.int m) (.int n)=some (.int ((m*n:Nat):Int)):=by
 rw[aTx (by omega)];simp
@[simp] theorem yM{i j}:cop .eq (.int i) (.int j)=some (decide (i=j)):=Aq rfl rfl
@[simp] theorem yO{i j}:cop .ne (.int i) (.int j)=some (!decide (i=j)):=Aq rfl rfl
@[simp] theorem aGa{i j}:cop .lt (.int i) (.int j)=some (decide (i<j)):=Aq rfl rfl
@[simp] theorem aG9{i j}:cop .le (.int i) (.int j)=some (decide (i≤j)):=Aq rfl rfl
@[simp] theorem yN{i j}:cop .gt (.int i) (.int j)=some (decide (j<i)):=Aq rfl rfl
@[simp] theorem vO{i j}:cop .ge (.int i) (.int j)=some (decide (j≤i)):=Aq rfl rfl
@[simp] theorem nJ{l i}:idx (.lst l) (.int i)=at_ l i:=Aq rfl rfl
theorem yL{l:List Dat}{k:Nat}:at_ l (k:Int)=l[k]?:=by
 unfold at_ qE
 rw[ip (by omega)]
 by_cases h:k<l.length
 .rw[ip (by omega)];simp
 .rw[ig (by omega)];simp;omega
@[simp] theorem bFg{d:Dat}{l:List Dat}:at_ (d::l) 0=some d:=yL (k:=0)
@[simp] theorem bFh{d e:Dat}{l:List Dat}:at_ (d::e::l) 1=some e:=yL (k:=1)
@[simp] theorem bFi{a d e:Dat}{l:List Dat}:at_ (d::e::a::l) 2=some a:=yL (k:=2)
@[simp] theorem bFj{a b d e:Dat}{l:List Dat}:at_ (d::e::a::b::l) 3=some b:=yL (k:=3)
theorem aK7{l:List Dat}{d:Dat}:at_ (l++[d]) (-1)=some d:=by
 unfold at_ qE
 rw[ig (by omega),ip (by simp;omega)]
 simp only[Af,A6,Ar,Gj]
 have e:((-1:Int)+((l.length+(0+1):Nat):Int)).toNat=l.length:=by omega
 rw[e];simp
@[simp] theorem aQc{l:List Int}:intz (l.map Dat.int)=some l:=by
 induction l with
 |nil=>rfl
 |cons a l ih=>simp[intz,ih]
@[simp] theorem vV{l:List Nat}:intz (l.map N)=some (l.map fun(x:Nat)=>(x:Int)):=by
 induction l with
 |nil=>rfl
 |cons a l ih=>simp[intz,ih]
@[simp] theorem aEe{l:List Bool}:bls (l.map Dat.bl)=some l:=by
 induction l with
 |nil=>rfl
 |cons a l ih=>simp[bls,ih]
@[simp] theorem aA5{l}:blt .len [.lst l]=some (.int l.length):=Aq rfl rfl
@[simp] theorem aEf{l}:blt .sum [.lst l]=(intz l).map fun ns=>.int ns.sum:=Aq rfl rfl
@[simp] theorem aA6{l}:blt .max [.lst l]=(intz l).bind fun ns=>(aIf ns).map .int:=Aq rfl rfl
@[simp] theorem aTw{l}:blt .min [.lst l]=(intz l).bind fun ns=>(aUn ns).map .int:=Aq rfl rfl
@[simp] theorem aTu{i}:blt .abs [.int i]=some (.int (if i<0 then -i else i)):=Aq rfl rfl
@[simp] theorem aKu{l}:blt .all [.lst l]=(bls l).map fun bs=>.bl (bs.all id):=Aq rfl rfl
@[simp] theorem aTv{l}:blt .any [.lst l]=(bls l).map fun bs=>.bl (bs.any id):=Aq rfl rfl
@[simp] theorem aKv{l i}:blt .count [.lst l,.int i]=(intz l).map fun ns=>.int ((ns.count i:Nat):Int):=Aq rfl rfl
@[simp] theorem aHv{l i j}:blt .count [.lst l,.tup [.int i,.int j]]=(prs l).map fun ns=>.int ((ns.count (i,j):Nat):Int):=Aq rfl rfl
@[simp] theorem aKw{l i}:blt .step2 [.lst l,.int i]=if 0≤i then(intz l).map fun ns=>.lst ((evry (ns.drop i.toNat)).map .int)else none:=Aq rfl rfl
@[simp] theorem aHw{ds}:blt .lrange ds=(range ds).bind fun r=>if r.length≤SZ then some (.lst r)else none:=Aq rfl rfl
@[simp] theorem aG6{l}:blt .lrev [.lst l]=some (.lst l.reverse):=Aq rfl rfl
theorem aBn{j:Nat}(h:j<4611686018427387904):aJf (j:Int)=true:=det ⟨by omega,by omega⟩
theorem jJ{j:Nat}(h:j<4611686018427387904):range [.int (j:Int)]=some ((Ab j).map N):=by
 simp only[range,aBn h,if_true,upTo,B8,Int.zero_add]
theorem oQ{i j:Nat}(h:i<4611686018427387904)(h2:j<4611686018427387904):range [.int (i:Int),.int (j:Int)]=some ((Ab (j-i)).map fun k=>N (i+k)):=by
 have e:((j:Int)-(i:Int)).toNat=j-i:=by omega
 simp only[range,aBn h,aBn h2,Ej,if_true,upTo,e]
 rfl
@[simp] theorem aR{s}:run F G f .nil s=some (.nxt s):=Aq rfl rfl
theorem aHk{a r s}:run F G f (.cons a r) s=(mQ F G f a s).bind fun x=>match x with
  |.nxt s'=>run F G f r s'
  |.ret d=>some (.ret d):=Aq rfl rfl
theorem aM{a r s s'}(h:mQ F G f a s=some (.nxt s')):run F G f (.cons a r) s=run F G f r s':=by rw[aHk,h];rfl
theorem aF{a r s d}(h:mQ F G f a s=some (.ret d)):run F G f (.cons a r) s=some (.ret d):=by rw[aHk,h];rfl
theorem aBj{i e s d}(h:ev F G e (rho s)=some d)(hn:tM e=true:=by rfl)(hf:flats d=true):mQ F G f (.set i true e) s=some (.nxt (s.set i (some (d,true)))):=by
 show((ev F G e (rho s)).bind fun d=>if tM e&&flats d then some (Flow.nxt (s.set i (some (d,true))))else none)=_
 rw[h];simp[hn,hf]
theorem iL{i e s d}(h:ev F G e (rho s)=some d)(hf:(flat d||(src e).all (fun j=>!owned s j))=true):mQ F G f (.set i false e) s=some (.nxt (s.set i (some (d,false)))):=by
 show((ev F G e (rho s)).bind fun d=>if flat d||(src e).all (fun j=>!owned s j)then some (Flow.nxt (s.set i (some (d,false))))else none)=_
 rw[h];simp only[Af];rw[ip hf]
theorem aI{i e s z}(h:ev F G e (rho s)=some (.int z)):mQ F G f (.set i false e) s=some (.nxt (s.set i (I z))):=iL h rfl
theorem qZ{i o e s x z d k}(h0:s[i]?=some (some (.int x,k)))(h:ev F G e (rho s)=some (.int z))(hb:bop o (.int x) (.int z)=some d):mQ F G f (.aug i o e) s=some (.nxt (s.set i (some (d,false)))):=by
 simp only[mQ,h0,h,Af,hb,Bt]
theorem yG{i e s l d}(h0:s[i]?=some (some (.lst l,true)))(h:ev F G e (rho s)=some d)(hf:flat d=true)(hl:l.length<SZ):mQ F G f (.app i e) s=some (.nxt (s.set i (some (.lst (l++[d]),true)))):=by
 simp only[mQ,h0,h,Af,hf,hl,decide_true,Ej,if_true]
theorem bBf{i e s l m}(h0:s[i]?=some (some (.lst l,true)))(h:ev F G e (rho s)=some (.lst m))(hf:m.all flat=true)(hl:l.length+m.length≤SZ):mQ F G f (.ext i e) s=some (.nxt (s.set i (some (.lst (l++m),true)))):=by
 simp only[mQ,h0,h,Af,hf,hl,decide_true,Ej,if_true]
theorem bBg{c a b s k}(h:ev F G c (rho s)=some (.bl k)):mQ F G f (.ite c a b) s=if k then run F G f a s else run F G f b s:=by
 simp only[mQ,pQ,h,Af,aS7]
theorem aOk{c a b s}(h:ev F G c (rho s)=some (.bl true)):mQ F G f (.ite c a b) s=run F G f a s:=by rw[bBg h];rfl
theorem aOj{c a b s}(h:ev F G c (rho s)=some (.bl false)):mQ F G f (.ite c a b) s=run F G f b s:=by rw[bBg h];rfl
theorem aBk{c b s}:mQ F G f (.whl c b) s=lE (fun e=>tst F G c (rho e)) (fun e=>run F G f b e) f s:=Aq rfl rfl
theorem aRx{tg it b s ds}(h:items F G it (rho s)=some ds)(ho:(bBs it).all (fun j=>!owned s j)=true):mQ F G f (.for_ tg it b) s=lN tg (fun e=>run F G f b e) ds s:=by
 simp only[mQ,h,Af,ho,if_true]
theorem eB{e s d}(h:ev F G e (rho s)=some d)(hf:flat d=true):mQ F G f (.ret e) s=some (.ret d):=by
 simp only[mQ,h,Af,hf,Lg,if_true]
theorem fK{e s d}(h:ev F G e (rho s)=some d)(hn:tM e=true:=by rfl)(hf:flats d=true):mQ F G f (.ret e) s=some (.ret d):=by
 simp only[mQ,h,Af,hf,hn,Lg,Ko,Bool.or_true,if_true]
theorem xC{e s d}(h:ev F G e (rho s)=some d)(hm:(src e).all (mine s)=true):mQ F G f (.ret e) s=some (.ret d):=by
 simp only[mQ,h,Af,hm,Bool.or_true,if_true]
theorem fT{c b n e e'}(h:c e=some true)(h2:b e=some (.nxt e')):lE c b (n+1) e=lE c b n e':=by
 simp only[lE,h,h2,Af,if_true]
theorem iY{c b n e}(h:c e=some false):lE c b (n+1) e=some (.nxt e):=by
 simp[lE,h]
theorem aQg{c b n e d}(h:c e=some true)(h2:b e=some (.ret d)):lE c b (n+1) e=some (.ret d):=by
 simp only[lE,h,h2,Af,if_true]
theorem pH{tg b e}:lN tg b [] e=some (.nxt e):=Aq rfl rfl
theorem bH{tg b d ds e e1 e'}(h:aPs tg d e=some e1)(h2:b e1=some (.nxt e')):lN tg b (d::ds) e=lN tg b ds e':=by
 simp only[lN,h,h2,Af]
theorem aAg{tg b d ds e e1 x}(h:aPs tg d e=some e1)(h2:b e1=some (.ret x)):lN tg b (d::ds) e=some (.ret x):=by
 simp only[lN,h,h2,Af]
theorem aG8{α:Type}{tg:Tg}{c:Rho→Option Bool}{e:Rho→Option Dat}{r:Rho}(q:α→Dat)(g:α→Dat):∀(l:List α),(∀a∈l,∃r',aHu tg (q a) r=some r'∧c r'=some true∧e r'=some (g a))→comp tg c e r (l.map q)=some (l.map g)
 |[],_=>rfl
 |a::l,h=>by
  obtain⟨r',h1,h2,h3⟩:=h a (by simp)
  have ih:=aG8 q g l fun b hb=>h b (by simp[hb])
  simp only[Ai,comp,h1,h2,h3,ih,Af,if_true,Bt]
theorem vN{α:Type}{tg:Tg}{c:Rho→Option Bool}{e:Rho→Option Dat}{r:Rho}(q:α→Dat)(p:α→Bool)(g:α→Dat):∀(l:List α),(∀a∈l,∃r',aHu tg (q a) r=some r'∧c r'=some (p a)∧(p a=true→e r'=some (g a)))→comp tg c e r (l.map q)=some ((l.filter p).map g)
 |[],_=>rfl
 |a::l,h=>by
  obtain⟨r',h1,h2,h3⟩:=h a (by simp)
  have ih:=vN q p g l fun b hb=>h b (by simp[hb])
  cases hp:p a with
  |false=>simp only[Ai,comp,h1,h2,hp,ih,Af,Do,if_false,D6]
  |true=>simp only[Ai,comp,h1,h2,h3 hp,hp,ih,Af,if_true,Bt,D6,Ai]
theorem jL{o:Bop}{a b:Tm}{r:Rho}{x y z:Dat}(ha:ev F G a r=some x)(hb:ev F G b r=some y)(h:bop o x y=some z):ev F G (.bin o a b) r=some z:=by rw[aSt,ha,hb];exact h
theorem lH{o:Cop}{a b:Tm}{r:Rho}{x y:Dat}{k:Bool}(ha:ev F G a r=some x)(hb:ev F G b r=some y)(h:cop o x y=some k):ev F G (.cmp o a b) r=some (.bl k):=by rw[aYj,ha,hb];simp only[Af,h,Bt]
theorem aV{i:Nat}{r:Rho}{d:Dat}(h:r[i]?=some (some d)):ev F G (.var i) r=some d:=by rw[aLm,h];rfl
theorem cA{g:Nat}{l:Tms}{r:Rho}{ds:List Dat}{d:Dat}(hl:evs F G l r=some ds)(h:F g ds=some d):ev F G (.call g l) r=some d:=by rw[aLl,hl];exact h
theorem cP{g:Blt}{l:Tms}{r:Rho}{ds:List Dat}{d:Dat}(hl:evs F G l r=some ds)(h:blt g ds=some d):ev F G (.blt g l) r=some d:=by rw[aSu,hl];exact h
theorem aG{a:Tm}{t:Tms}{r:Rho}{x:Dat}{ds:List Dat}(ha:ev F G a r=some x)(ht:evs F G t r=some ds):evs F G (.cons a t) r=some (x::ds):=by rw[aGi,ha,ht];rfl
theorem aYe{a b:Tm}{r:Rho}{x y z:Dat}(ha:ev F G a r=some x)(hb:ev F G b r=some y)(h:idx x y=some z):ev F G (.idx a b) r=some z:=by rw[aYl,ha,hb];exact h
theorem kG{l:Tms}{r:Rho}{ds:List Dat}(h:evs F G l r=some ds)(hl:ds.length≤SZ):ev F G (.lst l) r=some (.lst ds):=by rw[aYn,h];simp only[Af,ip hl]
theorem mE{l:List Nat}:flats (.lst (l.map N))=true:=by simp[flats]
theorem gH{l:List Int}:flats (.lst (l.map Dat.int))=true:=by simp[flats]
end
mutual
inductive OStm where
 |set (i:Nat) (e:Tm)|onum (e:Tm)|olst (e:Tm)|oapp (e:Tm)|opop|oput (k e:Tm)
 |ite (c:Tm) (a b:OStms)|ret (e:Tm)|retE (g:Nat) (l:Tms)|retTE (t:Nat) (ix:Tm) (l:Tms)|retTP (t:Nat) (ix:Tm) (l:Tms)
inductive OStms where
 |nil|cons (a:OStm) (r:OStms)
end
inductive OFlow where
 |nxt (r:Rho)|ret (d:Dat) (l:List Dat) (p:Int)
noncomputable def obj (r:Rho):Option (List Dat×Int):=match(r[0]?:Option (Option Dat))with
 |some (some (.rcd [.lst l,.int p]))=>some (l,p)
 |_=>none
noncomputable def oP (r:Rho) (l:List Dat) (p:Int):Rho:=r.set 0 (some (.rcd [.lst l,.int p]))
section
variable(F:Nat→List Dat→Option Dat)(G:Nat→Option Dat)
variable(E:Nat→List Dat→Int→List Dat→Option (Dat×List Dat×Int))
variable(T:Nat→List Nat)
mutual
def gR:OStm→Rho→Option OFlow
 |.set i e,r=>(ev F G e r).bind fun d=>if flat d&&decide (i≠0)then some (.nxt (r.set i (some d)))else none
 |.onum e,r=>(obj r).bind fun w=>(ev F G e r).bind fun d=>match d with
  |.int z=>some (.nxt (oP r w.1 z))
  |_=>none
 |.olst e,r=>(obj r).bind fun w=>(ev F G e r).bind fun d=>match d with
  |.lst l=>if tM e&&l.all flat then some (.nxt (oP r l w.2))else none
  |_=>none
 |.oapp e,r=>(obj r).bind fun w=>(ev F G e r).bind fun d=>if flat d&&decide (w.1.length<SZ)then some (.nxt (oP r (w.1++[d]) w.2))else none
 |.opop,r=>(obj r).bind fun w=>if w.1.isEmpty then none else some (.nxt (oP r w.1.dropLast w.2))
 |.oput k e,r=>(obj r).bind fun w=>(ev F G e r).bind fun d=>(ev F G k r).bind fun z=>match z with
  |.int z=>if flat d then(qE w.1.length z).map fun j=>.nxt (oP r (w.1.set j d) w.2)else none
  |_=>none
 |.ite c a b,r=>(tst F G c r).bind fun k=>if k then orun a r else orun b r
 |.ret e,r=>(obj r).bind fun w=>(ev F G e r).bind fun d=>if tM e&&flats d then some (.ret d w.1 w.2)else none
 |.retE g l,r=>(obj r).bind fun w=>(evs F G l r).bind fun ds=>if(srcs l).all (fun j=>decide (j≠0))then(E g w.1 w.2 ds).map fun z=>.ret z.1 z.2.1 z.2.2 else none
 |.retTE t ix l,r=>(obj r).bind fun w=>(ev F G ix r).bind fun i=>(evs F G l r).bind fun ds=>match i with
  |.int i=>if(srcs l).all (fun j=>decide (j≠0))then(qE (T t).length i).bind fun j=>((T t)[j]?).bind fun g=>(E g w.1 w.2 ds).map fun z=>.ret z.1 z.2.1 z.2.2 else none
  |_=>none
 |.retTP t ix l,r=>(obj r).bind fun w=>(ev F G ix r).bind fun i=>(evs F G l r).bind fun ds=>match i with
  |.int i=>(qE (T t).length i).bind fun j=>((T t)[j]?).bind fun g=>(F g ds).bind fun d=>if flats d then some (.ret d w.1 w.2)else none
  |_=>none
def orun:OStms→Rho→Option OFlow
 |.nil,r=>some (.nxt r)
 |.cons a t,r=>(gR a r).bind fun f=>match f with
  |.nxt r'=>orun t r'
  |.ret d l p=>some (.ret d l p)
end
noncomputable def ostart (n:Nat) (l:List Dat) (p:Int) (args:List Dat):Rho:=some (.rcd [.lst l,.int p])::(args.map some++A8 (n-1-args.length) none)
def cN(n:Nat)(b:OStms)(m:List Dat→Int→List Dat→Option (Dat×List Dat×Int)):Prop:=∀l p args z,m l p args=some z→args.length+1≤n∧orun F G E T b (ostart n l p args)=some (.ret z.1 z.2.1 z.2.2)
end
end Pl
namespace Tx
open Pl
abbrev aN:Nat:=0
abbrev cB:Nat:=1
abbrev dG:Nat:=2
abbrev dY:Nat:=3
abbrev dL:Nat:=4
abbrev bF:Nat:=5
abbrev eR:Nat:=6
abbrev aL:Nat:=7
abbrev aB:Nat:=8
abbrev cJ:Nat:=9
abbrev bA:Nat:=10
abbrev bS:Nat:=11
abbrev bQ:Nat:=12
abbrev iU:Nat:=13
abbrev eA:Nat:=14
abbrev cC:Nat:=15
abbrev dX:Nat:=16
abbrev eT:Nat:=17
abbrev aQn:Nat:=18
abbrev aV2:Nat:=19
abbrev aIj:Nat:=20
abbrev aQy:Nat:=21
abbrev aV6:Nat:=22
abbrev aZo:Nat:=23
abbrev aZn:Nat:=24
abbrev aUu:Nat:=25
abbrev aZq:Nat:=26
abbrev aZe:Nat:=27
abbrev aQt:Nat:=28
abbrev aUr:Nat:=29
abbrev wK:Nat:=30
abbrev cX:Nat:=31
abbrev aZ:Nat:=32
abbrev cH:Nat:=33
abbrev eM:Nat:=34
abbrev dM:Nat:=35
abbrev aQp:Nat:=36
abbrev aUt:Nat:=37
abbrev aMt:Nat:=38
abbrev aF0:Nat:=39
abbrev aV1:Nat:=40
abbrev aMv:Nat:=41
abbrev aMz:Nat:=42
abbrev aF3:Nat:=43
abbrev aB9:Nat:=44
abbrev aZl:Nat:=45
abbrev aCq:Nat:=46
abbrev aN7:Nat:=47
abbrev bD:Nat:=48
abbrev fH:Nat:=49
abbrev qS:Nat:=50
abbrev bZ:Nat:=51
abbrev bX:Nat:=52
abbrev fX:Nat:=53
abbrev eZ:Nat:=54
abbrev jI:Nat:=55
abbrev aQm:Nat:=56
abbrev aMs:Nat:=57
abbrev aZm:Nat:=58
abbrev aN3:Nat:=59
abbrev aQr:Nat:=60
abbrev aB8:Nat:=61
abbrev aQw:Nat:=62
abbrev aZi:Nat:=63
abbrev aIk:Nat:=64
abbrev aR0:Nat:=65
abbrev oA:Nat:=66
abbrev aXj:Nat:=73
abbrev eE:Nat:=76
abbrev aC:Nat:=77
abbrev iJ:Nat:=78
abbrev aN0:Nat:=79
abbrev xT:Nat:=80
abbrev aN1:Nat:=81
abbrev aMx:Nat:=82
abbrev aMy:Nat:=83
abbrev aZs:Nat:=84
abbrev aZh:Nat:=85
abbrev aF2:Nat:=86
abbrev aV3:Nat:=87
abbrev aUz:Nat:=88
abbrev aUw:Nat:=89
abbrev aQ:Nat:=90
abbrev dF:Nat:=91
abbrev cY:Nat:=92
abbrev fP:Nat:=93
abbrev jT:Nat:=94
abbrev eU:Nat:=95
abbrev dZ:Nat:=96
abbrev iZ:Nat:=97
abbrev cS:Nat:=98
abbrev fQ:Nat:=99
abbrev bGl:Nat:=100
abbrev aIi:Nat:=101
abbrev aUx:Nat:=102
abbrev aZv:Nat:=103
abbrev aQx:Nat:=104
abbrev aZt:Nat:=105
abbrev aBa:Nat:=106
abbrev aMw:Nat:=107
abbrev aIh:Nat:=108
abbrev aUv:Nat:=109
abbrev aQv:Nat:=110
abbrev aZg:Nat:=111
abbrev aQq:Nat:=112
abbrev aQz:Nat:=113
abbrev aN4:Nat:=114
abbrev aV0:Nat:=115
abbrev iK:Nat:=116
abbrev iV:Nat:=117
abbrev aZj:Nat:=118
abbrev aQu:Nat:=119
abbrev aUy:Nat:=120
abbrev aZk:Nat:=121
abbrev aMu:Nat:=122
abbrev aUq:Nat:=123
abbrev aUs:Nat:=124
abbrev aN6:Nat:=125
abbrev aIl:Nat:=126
abbrev aQl:Nat:=127
abbrev aZf:Nat:=128
abbrev aZu:Nat:=129
abbrev aX:Nat:=130
abbrev uF:Nat:=131
abbrev aN2:Nat:=132
abbrev aQo:Nat:=133
abbrev aF1:Nat:=134
abbrev bDi:Nat:=135
abbrev aZp:Nat:=136
abbrev aQs:Nat:=137
abbrev aN5:Nat:=138
abbrev aF4:Nat:=139
abbrev aZr:Nat:=140
abbrev bGm:Nat:=141
abbrev aV5:Nat:=142
abbrev aV4:Nat:=143
abbrev iH:Nat:=144
abbrev jS:Nat:=145
abbrev yT:Nat:=0
abbrev kN:Nat:=1
abbrev vT:Nat:=2
abbrev aH:Nat:=3
abbrev aSy:Nat:=4
abbrev aP:Nat:=5
abbrev aK:Nat:=6
abbrev bR:Nat:=7
abbrev dP:Nat:=8
abbrev aW:Nat:=9
abbrev gA:Nat:=10
abbrev oO:Nat:=11
abbrev cU:Nat:=12
abbrev mF:Nat:=13
abbrev tD:Nat:=14
abbrev nG:Nat:=15
abbrev jM:Nat:=16
abbrev fV:Nat:=17
abbrev iX:Nat:=18
abbrev nH:Nat:=19
abbrev qB:Nat:=20
abbrev eG:Nat:=21
abbrev fN:Nat:=22
abbrev kL:Nat:=23
abbrev kK:Nat:=24
abbrev rW:Nat:=25
abbrev bM:Nat:=26
abbrev oN:Nat:=27
abbrev bP:Nat:=28
abbrev oK:Nat:=29
abbrev bU:Nat:=30
abbrev tE:Nat:=31
abbrev qC:Nat:=32
abbrev oM:Nat:=33
abbrev aLs:Nat:=34
abbrev vS:Nat:=35
abbrev eC:Nat:=36
abbrev cD:Nat:=37
abbrev gJ:Nat:=38
abbrev gI:Nat:=39
abbrev kM:Nat:=40
abbrev dR:Nat:=41
abbrev fF:Nat:=42
abbrev aJ:Nat:=0
abbrev fE:Nat:=1
abbrev xJ:Nat:=1000
abbrev xK:Nat:=1001
abbrev sR:Nat:=1004
abbrev pP:Nat:=1007
end Tx
namespace Pl
noncomputable abbrev Tms.a (x:Tm):Tms:=.cons x .nil
noncomputable abbrev Tms.b (x y:Tm):Tms:=.cons x (.cons y .nil)
noncomputable abbrev Tms.c (x y z:Tm):Tms:=.cons x (.cons y (.cons z .nil))
noncomputable abbrev Stms.a (x:Stm):Stms:=.cons x .nil
noncomputable abbrev Stms.b (x y:Stm):Stms:=.cons x (.cons y .nil)
noncomputable abbrev Stms.c (x y z:Stm):Stms:=.cons x (.cons y (.cons z .nil))
noncomputable abbrev Stms.d (x y z u:Stm):Stms:=.cons x (.cons y (.cons z (.cons u .nil)))
noncomputable abbrev Stms.e (x y z u v:Stm):Stms:=.cons x (.cons y (.cons z (.cons u (.cons v .nil))))
noncomputable abbrev Stms.f (x y z u v w:Stm):Stms:=.cons x (.cons y (.cons z (.cons u (.cons v (.cons w .nil)))))
noncomputable abbrev Stms.g (x y z u v w s:Stm):Stms:=.cons x (.cons y (.cons z (.cons u (.cons v (.cons w (.cons s .nil))))))
noncomputable abbrev OStms.a (x:OStm):OStms:=.cons x .nil
noncomputable abbrev OStms.b (x y:OStm):OStms:=.cons x (.cons y .nil)
noncomputable abbrev OStms.c (x y z:OStm):OStms:=.cons x (.cons y (.cons z .nil))
noncomputable abbrev OStms.d (x y z u:OStm):OStms:=.cons x (.cons y (.cons z (.cons u .nil)))
noncomputable abbrev OStms.e (x y z u v:OStm):OStms:=.cons x (.cons y (.cons z (.cons u (.cons v .nil))))
noncomputable abbrev Stm.s (n:Nat) (x:Tm):Stm:=.set n false x
noncomputable abbrev Stm.r (x:Tm):Stm:=.ret (.lst (.cons x .nil))
noncomputable abbrev Stm.w (x:Tm):Stm:=.ite x (.cons (.ret (.lst (.cons (.glo Tx.aH) .nil))) .nil) .nil
noncomputable abbrev Stm.i (x:Tm) (y:Stms):Stm:=.ite x y .nil
noncomputable abbrev OStm.r (x:Tm):OStm:=.ret (.lst (.cons x .nil))
noncomputable abbrev OStm.w (x:Tm):OStm:=.ite x (.cons (.ret (.lst (.cons (.glo Tx.aH) .nil))) .nil) .nil
noncomputable abbrev OStm.i (x:Tm) (y:OStms):OStm:=.ite x y .nil
end Pl
namespace Tx
open Pl
noncomputable abbrev v0:Tm:=.var 0
noncomputable abbrev v1:Tm:=.var 1
noncomputable abbrev v2:Tm:=.var 2
noncomputable abbrev v3:Tm:=.var 3
noncomputable abbrev v4:Tm:=.var 4
noncomputable abbrev v5:Tm:=.var 5
noncomputable abbrev v6:Tm:=.var 6
noncomputable abbrev v7:Tm:=.var 7
abbrev i0:Tm:=.int 0
abbrev i1:Tm:=.int 1
noncomputable abbrev i2:Tm:=.int 2
noncomputable abbrev x0:Tm:=.idx (.var 1) (.int 0)
abbrev x1:Tm:=.idx (.var 1) (.int 1)
abbrev x2:Tm:=.idx (.var 1) (.int 2)
def uM:Stms:=(.a (.ret (.bin .add (.lst (.a (.blt .len (.a v0)))) v0)))
def pC:Stms:=(.a (.ret (.ite v0 i1 i0)))
def zS:Stms:=(.a (.ret (.lst (.b (.bin .fdiv v0 (.glo bR)) (.bin .mod v0 (.glo bR))))))
def rK:Stms:=(.a (.ret (.bin .add (.call dG (.a (.bin .fdiv v0 (.glo bR)))) (.lst (.a (.bin .mod v0 (.glo bR)))))))
def oT:Stms:=(.d (.set 2 true (.lst .nil)) (.s 3 v0) (.whl (.cmp .gt v3 i0) (.b (.app 2 (.bin .mod v3 v1)) (.s 3 (.bin .fdiv v3 v1)))) (.ret v2))
def oS:Stms:=(.a (.ret (.blt .sum (.a (.call dL (.b v0 v1))))))
def kT:Stms:=(.e (.set 3 true (.lst .nil)) (.s 4 i0) (.s 5 i0) (.whl (.or_ (.cmp .gt v0 i0) (.cmp .gt v1 i0)) (.e (.s 5 (.bin .fdiv (.bin .add (.bin .add (.bin .mod v0 v2) (.bin .mod v1 v2)) v5) v2)) (.i (.cmp .eq v5 i1) (.a (.app 3 v4))) (.s 0 (.bin .fdiv v0 v2)) (.s 1 (.bin .fdiv v1 v2)) (.aug 4 .add i1))) (.ret v3))
def lT:Stms:=(.a (.ret (.blt .len (.a (.call eR (.c v0 v1 v2))))))
def vD:Stms:=(.d (.i (.cmp .gt v1 v0) (.a (.ret i0))) (.s 2 i1) (.for_ (.one 3) (.range (.b i1 (.bin .add v1 i1))) (.a (.s 2 (.bin .fdiv (.bin .mul v2 (.bin .add (.bin .sub v0 v1) v3)) v3)))) (.ret v2))
def aA0:Stms:=(.a (.ret (.lc (.call aB (.b v0 v1)) (.one 1) (.range (.a (.bin .add v0 i1))) .nil)))
def rM:Stms:=(.a (.ret (.call aL (.c v1 (.bin .sub v0 v1) v2))))
def oZ:Stms:=(.c (.s 2 i1) (.for_ (.one 3) (.of (.call dL (.b v0 v1))) (.a (.s 2 (.bin .mul v2 (.bin .add v3 i1))))) (.ret v2))
def uS:Stms:=(.c (.s 3 i1) (.whl (.cmp .gt v1 i0) (.c (.s 3 (.bin .mod (.bin .mul v3 (.call aB (.b (.bin .mod v0 v2) (.bin .mod v1 v2)))) v2)) (.s 0 (.bin .fdiv v0 v2)) (.s 1 (.bin .fdiv v1 v2)))) (.ret v3))
def iM:Stms:=(.e (.s 3 (.bin .add (.lst (.a i0)) v1)) (.s 4 (.bin .add v1 (.lst (.a i0)))) (.set 5 true (.lst .nil)) (.for_ (.one 6) (.range (.a (.bin .add v0 i1))) (.a (.ite (.cmp .gt (.call bA (.c v0 v6 v2)) i0) (.a (.app 5 i0)) (.a (.app 5 (.bin .add (.idx v3 v6) (.idx v4 v6))))))) (.ret v5))
def kE:Stms:=(.c (.s 3 (.lst (.a i1))) (.for_ (.one 4) (.range (.b i1 (.bin .add v0 i1))) (.a (.s 3 (.call iU (.c v4 v3 v2))))) (.ret (.idx v3 v1)))
def kY:Stms:=(.a (.ret (.lc (.call bA (.c v0 v2 v1)) (.one 2) (.range (.a (.bin .add v0 i1))) .nil)))
def jX:Stms:=(.a (.ret (.cmp .le (.call bS (.b v0 v1)) i2)))
def kX:Stms:=(.a (.ret (.cmp .eq (.call bS (.b v0 v1)) (.bin .add v0 i1))))
def zN:Stms:=(.d (.s 2 x0) (.s 3 x1) (.w (.or_ (.cmp .gt v2 (.glo dP)) (.cmp .gt v3 v2))) (.ret (.call dG (.a (.call aB (.b v2 v3))))))
def aE7:Stms:=(.d (.s 2 x0) (.s 3 x1) (.w (.or_ (.cmp .gt v2 (.glo aK)) (.cmp .gt v3 v2))) (.r (.call bA (.c v2 v3 v0))))
def rO:Stms:=(.b (.w (.cmp .gt x0 (.glo dP))) (.ret (.call aN (.a (.call cC (.b x0 v0))))))
def aA2:Stms:=(.d (.s 2 x0) (.w (.cmp .gt v2 (.glo aK))) (.s 3 (.call bS (.b v2 v0))) (.ret (.lst (.b v3 (.bin .sub (.bin .add v2 i1) v3)))))
def aEb:Stms:=(.b (.w (.cmp .gt x0 (.glo aW))) (.r (.call cB (.a (.call dX (.b x0 v0))))))
def aKk:Stms:=(.b (.w (.cmp .gt x0 (.glo aW))) (.r (.call cB (.a (.call eT (.b x0 v0))))))
def aKj:Stms:=(.b (.w (.cmp .gt x0 (.glo aW))) (.r (.blt .max (.a (.call cC (.b x0 v0))))))
def aDy:Stms:=(.c (.w (.cmp .gt x0 (.glo aW))) (.for_ (.two 2 3) (.enum (.call cC (.b x0 v0))) (.a (.i (.cmp .gt v3 i0) (.a (.ret (.lst (.b v2 v3))))))) (.r (.glo aP)))
def aKm:Stms:=(.b (.w (.cmp .gt x0 (.glo gA))) (.ret (.call aN (.a (.lc v2 (.one 2) (.range (.b (.glo cU) (.bin .add x0 i1))) (.a (.call dX (.b v2 v0))))))))
def aK9:Stms:=(.b (.w (.cmp .gt x0 (.glo gA))) (.ret (.call aN (.a (.lc v2 (.one 2) (.range (.a (.bin .add x0 i1))) (.a (.call eT (.b v2 v0))))))))
def zV:Stms:=(.c (.s 2 x0) (.w (.cmp .gt v2 (.glo oO))) (.r (.call bA (.c (.bin .mul i2 v2) v2 v0))))
def aDv:Stms:=(.b (.w (.cmp .gt x0 (.glo gA))) (.r (.blt .sum (.a (.lc (.call bS (.b v2 v0)) (.one 2) (.range (.a (.bin .add x0 i1))) .nil)))))
def jY:Stms:=(.b (.w (.cmp .gt x0 (.glo aW))) (.r (.blt .count (.b (.call cC (.b x0 v0)) x1))))
def rL:Stms:=(.b (.i (.or_ (.cmp .lt v0 i2) (.cmp .ge v0 (.glo mF))) (.a (.ret (.bl false)))) (.ret (.blt .all (.a (.lc (.cmp .gt (.bin .mod v0 v1) i0) (.one 1) (.range (.b i2 v0)) .nil)))))
def lA:Stms:=(.a (.ret (.lc v1 (.one 1) (.range (.b i2 (.bin .add v0 i1))) (.a (.call cX (.a v1))))))
def rN:Stms:=(.d (.s 2 v0) (.s 3 i0) (.whl (.cmp .eq (.bin .mod v2 v1) i0) (.b (.s 2 (.bin .fdiv v2 v1)) (.aug 3 .add i1))) (.ret v3))
def lY:Stms:=(.a (.ret (.lc (.tup (.b v1 (.call cH (.b v0 v1)))) (.one 1) (.of (.call aZ (.a v0))) (.a (.cmp .eq (.bin .mod v0 v1) i0)))))
def kZ:Stms:=(.a (.ret (.lc (.call aL (.c v2 (.bin .sub v0 v2) v1)) (.one 2) (.range (.a (.bin .add v0 i1))) .nil)))
def zP:Stms:=(.b (.w (.cmp .gt x0 (.glo aK))) (.ret (.call aN (.a (.call dL (.b x0 v0))))))
def aDx:Stms:=(.b (.w (.cmp .gt x0 (.glo aK))) (.r (.call bF (.b x0 v0))))
def uL:Stms:=(.b (.w (.cmp .gt (.blt .max (.a v1)) (.glo aK))) (.r (.call aL (.c x0 x1 v0))))
def oR:Stms:=(.b (.w (.cmp .gt (.blt .max (.a v1)) (.glo aK))) (.ret (.call aN (.a (.call eR (.c x0 x1 v0))))))
def aE6:Stms:=(.f (.w (.cmp .gt (.blt .max (.a v1)) (.glo aK))) (.s 2 x0) (.s 3 x1) (.s 4 x2) (.s 5 (.call aL (.c v2 v3 v0))) (.ret (.lst (.c (.bin .add v5 (.call aL (.c (.bin .add v2 v3) v4 v0))) v5 (.call aL (.c v3 v4 v0))))))
def uO:Stms:=(.b (.w (.or_ (.cmp .gt x0 (.glo aK)) (.cmp .eq x0 i0))) (.r (.call cH (.b x0 v0))))
def uU:Stms:=(.b (.w (.cmp .ge x0 (.glo aK))) (.ret (.lst (.b (.call bF (.b (.bin .add x0 i1) v0)) (.call aL (.c x0 i1 v0))))))
def oX:Stms:=(.c (.s 2 x0) (.w (.cmp .gt v2 (.glo jM))) (.ret (.call aN (.a (.lc v3 (.two 3 4) (.enum (.call dM (.b v2 v0))) (.a (.cmp .eq v4 x1)))))))
def lX:Stms:=(.b (.w (.cmp .gt x0 (.glo jM))) (.r (.blt .max (.a (.call dM (.b x0 v0))))))
def aKh:Stms:=(.e (.s 2 x0) (.w (.cmp .gt v2 (.glo tD))) (.s 3 (.call bF (.b v2 v0))) (.for_ (.one 4) (.range (.b (.bin .add v2 i1) (.bin .add (.bin .add v2 (.glo nG)) i1))) (.a (.i (.cmp .eq (.call bF (.b v4 v0)) v3) (.a (.r v4))))) (.r (.glo aP)))
def mV:Stms:=(.d (.w (.cmp .ge (.blt .max (.a v1)) v0)) (.s 2 i0) (.for_ (.one 3) (.rev v1) (.a (.s 2 (.bin .add (.bin .mul v2 v0) v3)))) (.r v2))
def vE:Stms:=(.e (.w (.cmp .gt (.blt .max (.a v1)) (.glo aK))) (.s 2 x0) (.s 3 x1) (.i (.cmp .lt v2 v3) (.a (.r (.glo aP)))) (.ret (.lst (.b (.bin .sub v2 v3) (.call aL (.c (.bin .sub v2 v3) v3 v0))))))
def kD:Stms:=(.c (.set 1 true (.lst (.a i0))) (.for_ (.one 2) (.of v0) (.a (.app 1 (.bin .add (.idx v1 (.neg i1)) v2)))) (.ret v1))
def oY:Stms:=(.a (.ret (.lc v1 (.two 1 2) (.enum v0) (.a (.cmp .eq v2 i1)))))
def vB:Stms:=(.c (.s 1 i0) (.for_ (.one 2) (.rev v0) (.a (.s 1 (.bin .add (.bin .mul i2 v1) v2)))) (.ret v1))
def mZ:Stms:=(.d (.set 2 true (.lst .nil)) (.s 3 v0) (.for_ (.one 4) (.range (.a v1)) (.b (.app 2 (.bin .mod v3 i2)) (.s 3 (.bin .fdiv v3 i2)))) (.ret (.ite (.cmp .eq v3 i0) v2 .non)))
def oW:Stms:=(.d (.s 1 i0) (.s 2 i0) (.for_ (.two 3 4) (.enum v0) (.a (.i (.cmp .eq v4 i1) (.b (.aug 2 .add i1) (.aug 1 .add (.call aB (.b v3 v2))))))) (.ret v1))
def jE:Stms:=(.e (.set 3 true (.lst .nil)) (.s 4 v1) (.s 5 v2) (.for_ (.one 6) (.range (.c (.bin .sub v0 i1) (.neg i1) (.neg i1))) (.b (.s 7 (.call aB (.b v6 v4))) (.ite (.cmp .ge v5 v7) (.c (.app 3 i1) (.aug 5 .sub v7) (.aug 4 .sub i1)) (.a (.app 3 i0))))) (.ret (.blt .lrev (.a v3))))
def gG:Stms:=(.a (.ret (.bin .add (.lst (.a (.call qS (.a v0)))) (.call fH (.a v0)))))
def fR:Stms:=(.e (.set 3 true (.lst .nil)) (.s 4 v1) (.s 5 v2) (.for_ (.one 6) (.range (.c (.bin .sub v0 i1) (.neg i1) (.neg i1))) (.b (.s 7 (.call aB (.b v6 v4))) (.ite (.cmp .lt v5 v7) (.a (.app 3 i0)) (.c (.app 3 i1) (.aug 4 .sub i1) (.s 5 (.bin .sub (.bin .sub (.call aB (.b v6 v4)) i1) (.bin .sub v5 v7))))))) (.ret (.blt .lrev (.a v3))))
def zM:Stms:=(.d (.s 2 x0) (.s 3 x1) (.i (.cmp .ge v3 (.call aB (.b (.blt .len (.a v0)) v2))) (.a (.r (.glo aP)))) (.ret (.call eZ (.a (.call fX (.c (.blt .len (.a v0)) v2 v3))))))
def uK:Stms:=(.c (.s 2 (.call bZ (.b x0 (.blt .len (.a v0))))) (.w (.or_ (.cmp .isN v2 .non) (.cmp .ne (.blt .sum (.a v2)) (.blt .sum (.a v0))))) (.ret (.lst (.b i0 (.bin .sub (.call bX (.a v2)) (.call bX (.a v0)))))))
def aKi:Stms:=(.d (.s 2 (.call bZ (.b x0 (.blt .len (.a v0))))) (.w (.cmp .isN v2 .non)) (.s 3 (.lc (.bin .add v4 v5) (.two 4 5) (.zip v0 v2) .nil)) (.ret (.lst (.b (.blt .count (.b v3 i2)) (.blt .count (.b v3 i1))))))
def uY:Stms:=(.d (.s 2 x0) (.s 3 (.blt .sum (.a v0))) (.w (.cmp .gt v2 v3)) (.r (.bin .mul (.call aB (.b v3 v2)) (.call aB (.b (.bin .sub (.blt .len (.a v0)) v3) (.bin .sub v3 v2))))))
def zR:Stms:=(.c (.i (.cmp .ge x0 (.blt .len (.a v0))) (.a (.r (.glo yT)))) (.s 2 (.call aB (.b (.bin .sub (.blt .len (.a v0)) i1) (.blt .sum (.a v0))))) (.ret (.lst (.b (.bin .sub (.call aB (.b (.blt .len (.a v0)) (.blt .sum (.a v0)))) v2) v2))))
def lS:Stms:=(.a (.r (.blt .sum (.a (.call cJ (.a (.blt .len (.a v0))))))))
def zZ:Stms:=(.a (.ret (.call aN (.a (.call fH (.a v0))))))
def aKe:Stms:=(.e (.s 2 x0) (.s 3 x1) (.w (.cmp .gt (.blt .len (.a v0)) (.glo fV))) (.i (.cmp .ge v3 (.call aB (.b (.blt .len (.a v0)) v2))) (.a (.r (.glo aP)))) (.ret (.call eZ (.a (.call jI (.c (.blt .len (.a v0)) v2 v3))))))
def rQ:Stms:=(.a (.r (.blt .sum (.a (.call fH (.a v0))))))
def aA4:Stms:=(.d (.w (.cmp .gt (.blt .len (.a v0)) (.glo fV))) (.s 2 (.lst (.a (.tup (.b i0 i0))))) (.for_ (.one 3) (.range (.a (.blt .len (.a v0)))) (.a (.s 2 (.bin .add v2 (.lc (.tup (.b (.bin .add v4 i1) (.bin .add v5 v3))) (.two 4 5) (.of v2) .nil))))) (.r (.blt .count (.b v2 (.tup (.b (.blt .sum (.a v0)) x0))))))
def rP:Stms:=(.a (.ret (.lst (.b (.blt .len (.a (.fld v0 aJ))) (.blt .sum (.a (.fld v0 aJ)))))))
def aDu:OStms:=(.d (.w (.not_ (.call cX (.a x0)))) (.onum x0) (.olst (.lst .nil)) (.r (.fld v0 fE)))
def kU:OStms:=(.d (.w (.not_ (.call cX (.a x0)))) (.set 2 (.fld v0 fE)) (.onum x0) (.r v2))
def aKb:OStms:=(.d (.w (.cmp .gt x0 i1)) (.i (.cmp .eq (.blt .len (.a (.fld v0 aJ))) (.glo iX)) (.a (.r (.glo aSy)))) (.oapp x0) (.ret (.call oA (.a v0))))
def bCx:OStms:=(.c (.i (.cmp .eq (.blt .len (.a (.fld v0 aJ))) i0) (.a (.r (.glo kN)))) .opop (.ret (.call oA (.a v0))))
def aKr:OStms:=(.e (.set 2 x0) (.i (.or_ (.cmp .ge (.bin .add v2 i1) (.blt .len (.a (.fld v0 aJ)))) (.cmp .eq (.idx (.fld v0 aJ) v2) (.idx (.fld v0 aJ) (.bin .add v2 i1)))) (.a (.r (.glo aP)))) (.oput v2 (.bin .sub i1 (.idx (.fld v0 aJ) v2))) (.oput (.bin .add v2 i1) (.bin .sub i1 (.idx (.fld v0 aJ) (.bin .add v2 i1)))) (.r (.call bX (.a (.fld v0 aJ)))))
def zW:OStms:=(.b (.olst (.lc (.bin .sub i1 v2) (.one 2) (.of (.fld v0 aJ)) .nil)) (.ret (.lst (.b (.blt .sum (.a (.fld v0 aJ))) (.call bX (.a (.fld v0 aJ)))))))
def bCw:OStms:=(.cons (.set 2 x0) (.e (.set 3 x1) (.set 4 (.blt .len (.a (.fld v0 aJ)))) (.i (.cmp .ge v3 (.call aB (.b v4 v2))) (.a (.r (.glo aP)))) (.olst (.call fX (.c v4 v2 v3))) (.ret (.call aN (.a (.call fH (.a (.fld v0 aJ))))))))
def aDz:OStms:=(.a (.retE aXj (.a (.lst (.b (.blt .sum (.a (.fld v0 aJ))) (.bin .add (.call bX (.a (.fld v0 aJ))) i1))))))
def uP:OStms:=(.c (.set 2 (.call bX (.a (.fld v0 aJ)))) (.i (.cmp .eq v2 i0) (.a (.r (.glo aP)))) (.retE aXj (.a (.lst (.b (.blt .sum (.a (.fld v0 aJ))) (.bin .sub v2 i1))))))
def mY:Stms:=(.c (.s 1 i1) (.for_ (.one 2) (.range (.b i2 (.bin .add v0 i1))) (.a (.s 1 (.bin .mul v1 v2)))) (.ret v1))
def gF:Stms:=(.d (.s 2 i0) (.s 3 (.bin .fdiv v0 v1)) (.whl (.cmp .gt v3 i0) (.b (.aug 2 .add v3) (.s 3 (.bin .fdiv v3 v1)))) (.ret v2))
def gZ:Stms:=(.d (.s 2 i1) (.s 3 v0) (.whl (.cmp .gt v3 i0) (.c (.s 2 (.bin .mod (.bin .mul v2 (.call eE (.a (.bin .mod v3 v1)))) v1)) (.i (.cmp .eq (.bin .mod (.bin .fdiv v3 v1) i2) i1) (.a (.s 2 (.bin .sub v1 v2)))) (.s 3 (.bin .fdiv v3 v1)))) (.ret v2))
def uV:Stms:=(.b (.w (.cmp .gt x0 (.glo nH))) (.r (.call eE (.a x0))))
def lB:Stms:=(.b (.w (.cmp .gt x0 (.glo aK))) (.r (.call aC (.b x0 v0))))
def uW:Stms:=(.b (.w (.cmp .gt x0 (.glo aK))) (.r (.call iJ (.b x0 v0))))
def uR:Stms:=(.f (.s 2 x0) (.w (.cmp .gt v2 (.glo qB))) (.s 3 i0) (.s 4 i0) (.whl (.cmp .lt v4 v2) (.c (.aug 3 .add i1) (.i (.cmp .eq v3 (.glo eG)) (.a (.r (.glo aP)))) (.aug 4 .add (.call cH (.b v3 v0))))) (.ret (.lst (.b v3 v4))))
def uT:Stms:=(.d (.s 2 x0) (.s 3 x1) (.w (.or_ (.cmp .lt v2 (.glo kL)) (.or_ (.cmp .gt v2 (.glo kK)) (.cmp .gt v3 (.glo aK))))) (.r (.blt .min (.a (.lc (.bin .fdiv (.call aC (.b v3 v4)) v5) (.two 4 5) (.of (.call eM (.a v2))) .nil)))))
def aKo:Stms:=(.d (.s 2 x0) (.s 3 x1) (.w (.or_ (.cmp .gt v3 (.glo aK)) (.or_ (.cmp .eq v2 i0) (.cmp .lt v3 v2)))) (.r (.bin .sub (.call aC (.b v3 v0)) (.call aC (.b (.bin .sub v2 i1) v0)))))
def aKd:Stms:=(.d (.s 2 x0) (.w (.cmp .gt v2 (.glo fN))) (.s 3 (.lc (.call aC (.b v4 v0)) (.one 4) (.range (.a (.bin .add v2 i1))) .nil)) (.ret (.call aN (.a (.lc v5 (.one 5) (.range (.a (.idx v3 v2))) (.a (.cmp .nin v5 v3)))))))
def oV:Stms:=(.c (.s 2 x0) (.w (.cmp .gt v2 (.glo fN))) (.ret (.call aN (.a (.lc v3 (.one 3) (.of (.call aZ (.a v2))) (.a (.cmp .eq (.bin .mod (.call aC (.b v2 v3)) i2) i1)))))))
def aE8:Stms:=(.e (.s 2 x0) (.s 3 x1) (.w (.or_ (.cmp .gt v2 (.glo aK)) (.cmp .gt v3 (.glo fN)))) (.s 4 (.lc (.cmp .le (.bin .mul i2 (.call aC (.b v3 v5))) (.call aC (.b v2 v5))) (.one 5) (.of (.call aZ (.a v3))) .nil)) (.r (.call cB (.a (.blt .all (.a v4))))))
def aE4:Stms:=(.f (.s 2 x0) (.w (.or_ (.cmp .lt v2 (.glo kL)) (.cmp .gt v2 (.glo kK)))) (.s 3 (.call eM (.a v2))) (.set 4 true (.lst (.a (.blt .len (.a v3))))) (.for_ (.two 5 6) (.of v3) (.a (.ext 4 (.lst (.b v5 v6))))) (.ret v4))
def aE1:Stms:=(.e (.s 2 x0) (.w (.or_ (.cmp .gt v2 (.glo aK)) (.cmp .eq v2 i0))) (.s 3 (.call aC (.b (.bin .sub v2 i1) v0))) (.s 4 (.call aC (.b v2 v0))) (.ret (.lst (.c (.bin .sub v4 v3) v3 v4))))
def jC:Stms:=(.b (.whl (.cmp .gt v1 i0) (.c (.s 2 (.bin .mod v0 v1)) (.s 0 v1) (.s 1 v2))) (.ret v0))
def gE:Stms:=(.c (.s 1 i0) (.for_ (.one 2) (.of v0) (.a (.s 1 (.call aQ (.b v2 v1))))) (.ret v1))
def jD:Stms:=(.c (.s 1 i1) (.for_ (.one 2) (.of v0) (.a (.s 1 (.bin .mul (.bin .fdiv v1 (.call aQ (.b v2 v1))) v2)))) (.ret v1))
def lU:Stms:=(.a (.ret (.call dF (.a (.slc (.call cJ (.a v0)) (.a i1) (.a (.neg i1)))))))
def lV:Stms:=(.a (.ret (.or_ (.cmp .lt v1 i1) (.cmp .ge v1 v0))))
def lC:Stms:=(.a (.ret (.lst (.c (.call aB (.b (.bin .sub v0 i1) (.bin .sub v1 i1))) (.call aB (.b v0 (.bin .add v1 i1))) (.call aB (.b (.bin .add v0 i1) v1))))))
def jZ:Stms:=(.a (.ret (.lst (.c (.call aB (.b (.bin .sub v0 i1) v1)) (.call aB (.b (.bin .add v0 i1) (.bin .add v1 i1))) (.call aB (.b v0 (.bin .sub v1 i1)))))))
def mX:Stms:=(.c (.s 1 i1) (.for_ (.one 2) (.of v0) (.a (.s 1 (.bin .mul v1 v2)))) (.ret v1))
def hE:Stms:=(.b (.s 2 (.call aB (.b v0 v1))) (.ret (.lc v3 (.one 3) (.of (.call aZ (.a v0))) (.a (.cmp .eq (.bin .mod v2 v3) i0)))))
def jK:Stms:=(.a (.ret (.blt .any (.a (.lc (.cmp .eq (.call aQ (.b (.idx v0 v1) v3)) v2) (.one 3) (.of (.slc v0 (.a (.bin .add v1 i1)) (.a (.neg i1)))) .nil)))))
def bCu:Stms:=(.b (.w (.cmp .gt x0 v0)) (.ret (.call dG (.a (.call aB (.b v0 x0))))))
def rJ:Stms:=(.b (.i (.cmp .lt v0 (.glo bM)) (.a (.r (.glo aP)))) (.r (.call fP (.a v0))))
def aE2:Stms:=(.a (.ret (.call dY (.a (.call cY (.a (.call cJ (.a v0))))))))
def aKs:Stms:=(.a (.ret (.call dY (.a (.call cY (.a (.blt .lrange (.b i1 (.bin .add v0 i2)))))))))
def aA1:Stms:=(.b (.w (.cmp .gt (.blt .max (.a v1)) v0)) (.ret (.call dG (.a (.call aQ (.b (.call aB (.b v0 x0)) (.call aB (.b v0 x1))))))))
def aKp:Stms:=(.c (.s 2 x0) (.w (.call jT (.b v0 v2))) (.ret (.lst (.b (.call dF (.a (.call eU (.b v0 v2)))) (.call dF (.a (.call dZ (.b v0 v2))))))))
def lZ:Stms:=(.c (.s 2 x0) (.w (.call jT (.b v0 v2))) (.r (.call cB (.a (.cmp .eq (.call iZ (.a (.call eU (.b v0 v2)))) (.call iZ (.a (.call dZ (.b v0 v2)))))))))
def uQ:Stms:=(.d (.s 2 x0) (.w (.or_ (.cmp .eq v2 i0) (.cmp .gt v2 v0))) (.s 3 (.bin .fdiv v0 (.call aQ (.b v0 v2)))) (.ret (.bin .add (.lst (.a v3)) (.call dG (.a (.bin .fdiv (.call aB (.b v0 v2)) v3))))))
def rH:Stms:=(.b (.w (.cmp .gt x0 v0)) (.ret (.call aN (.a (.call cS (.b v0 x0))))))
def aE0:Stms:=(.e (.s 2 x0) (.w (.cmp .gt v2 v0)) (.s 3 (.call cS (.b v0 v2))) (.i (.cmp .eq (.blt .len (.a v3)) i0) (.a (.r (.glo aP)))) (.ret (.lst (.b (.idx v3 (.neg i1)) (.call cB (.a (.cmp .gt (.idx v3 (.neg i1)) v2)))))))
def zY:Stms:=(.f (.s 2 x0) (.w (.or_ (.cmp .lt v2 (.glo oN)) (.cmp .gt v2 (.glo aK)))) (.s 3 i0) (.set 4 true (.lst .nil)) (.for_ (.one 5) (.range (.a (.bin .add (.glo rW) i1))) (.a (.for_ (.one 6) (.range (.a (.bin .add v5 i1))) (.a (.i (.cmp .eq (.call aB (.b v5 v6)) v2) (.b (.aug 3 .add i1) (.ext 4 (.lst (.b v5 v6))))))))) (.ret (.bin .add (.lst (.a v3)) v4)))
def aKc:Stms:=(.b (.s 2 (.call cJ (.a v0))) (.ret (.call aN (.a (.lc v3 (.one 3) (.range (.a (.bin .sub v0 i1))) (.a (.cmp .eq (.bin .add (.idx v2 v3) (.idx v2 (.bin .add v3 i2))) (.bin .mul i2 (.idx v2 (.bin .add v3 i1))))))))))
def zQ:Stms:=(.e (.i (.cmp .lt v0 (.glo bM)) (.a (.r (.glo aP)))) (.s 2 (.call cJ (.a v0))) (.s 3 (.call fP (.a v0))) (.for_ (.one 4) (.range (.b i1 v0)) (.a (.i (.call fQ (.c v2 v4 v3)) (.a (.r v4))))) (.r (.glo kN)))
def aA3:Stms:=(.b (.w (.cmp .gt x0 v0)) (.ret (.call dY (.a (.blt .sum (.a (.slc (.call cJ (.a v0)) .nil (.a (.bin .add x0 i1)))))))))
def uZ:Stms:=(.a (.ret (.call dY (.a (.blt .sum (.a (.lc (.bin .mul v2 v2) (.one 2) (.of (.call cJ (.a v0))) .nil)))))))
def aE5:Stms:=(.b (.w (.cmp .gt x0 v0)) (.ret (.call dG (.a (.blt .sum (.a (.lc (.call aB (.b v2 x0)) (.one 2) (.range (.a (.bin .add v0 i1))) .nil)))))))
def pB:Stms:=(.a (.ret (.call aB (.b (.blt .len (.a (.fld v0 aJ))) (.blt .sum (.a (.fld v0 aJ)))))))
def kW:Stms:=(.b (.s 1 (.call bD (.a (.fld v0 aJ)))) (.ret (.lc v2 (.two 2 3) (.enum v1) (.a (.cmp .gt (.call bA (.c v2 v3 (.fld v0 fE))) i0)))))
def aKf:Stms:=(.a (.ret (.lst (.c (.blt .len (.a (.fld v0 aJ))) (.blt .sum (.a (.fld v0 aJ))) (.call iK (.a v0))))))
def zX:Stms:=(.a (.ret (.lst (.b (.call bX (.a (.fld v0 aJ))) (.call iK (.a v0))))))
def aE3:Stms:=(.a (.r (.call bA (.c (.blt .len (.a (.fld v0 aJ))) (.blt .sum (.a (.fld v0 aJ))) (.fld v0 fE)))))
def aKg:Stms:=(.a (.r (.bin .mod (.call iK (.a v0)) (.fld v0 fE))))
def uN:Stms:=(.a (.ret (.call aN (.a (.call iV (.a v0))))))
def aDt:Stms:=(.d (.s 2 x0) (.s 3 x1) (.w (.or_ (.cmp .gt v2 (.glo iX)) (.cmp .gt v3 v2))) (.ret (.lst (.b (.call eA (.c v2 v3 (.fld v0 fE))) (.call aB (.b v2 v3))))))
def aDw:Stms:=(.b (.s 2 (.call eA (.c (.blt .len (.a (.fld v0 aJ))) (.blt .sum (.a (.fld v0 aJ))) (.fld v0 fE)))) (.ret (.lst (.b (.call cB (.a (.cmp .eq (.blt .len (.a (.call iV (.a v0)))) i0))) v2))))
def vC:Stms:=(.c (.s 2 (.call bZ (.b x0 (.blt .len (.a (.fld v0 aJ)))))) (.w (.or_ (.cmp .isN v2 .non) (.cmp .ne (.blt .sum (.a v2)) (.blt .sum (.a (.fld v0 aJ)))))) (.r (.blt .sum (.a (.lc (.blt .abs (.a (.bin .sub v3 v4))) (.two 3 4) (.zip (.call bD (.a (.fld v0 aJ))) (.call bD (.a v2))) .nil)))))
def rR:Stms:=(.e (.s 2 (.call bZ (.b x0 (.blt .len (.a (.fld v0 aJ)))))) (.w (.cmp .isN v2 .non)) (.s 3 (.call bD (.a (.fld v0 aJ)))) (.s 4 (.call bD (.a v2))) (.ret (.call aN (.a (.lc v5 (.two 5 6) (.enum v3) (.a (.cmp .eq (.idx v4 v5) v6)))))))
def zL:Stms:=(.d (.s 2 x0) (.w (.cmp .gt v2 (.blt .len (.a (.fld v0 aJ))))) (.s 3 (.blt .sum (.a (.slc (.fld v0 aJ) .nil (.a v2))))) (.ret (.lst (.b v3 (.bin .mod (.call aB (.b v2 v3)) (.fld v0 fE))))))
def aKa:Stms:=(.f (.s 2 (.bin .add (.blt .len (.a (.fld v0 aJ))) i1)) (.s 3 (.blt .sum (.a (.fld v0 aJ)))) (.s 4 (.call bA (.c v2 v3 (.fld v0 fE)))) (.s 5 (.call bA (.c v2 (.bin .add v3 i1) (.fld v0 fE)))) (.i (.cmp .lt v5 v4) (.a (.ret (.lst (.b i1 v5))))) (.ret (.lst (.b i0 v4))))
def aKq:Stms:=(.a (.ret (.lst (.c (.fld v0 fE) (.blt .len (.a (.fld v0 aJ))) (.call qS (.a (.fld v0 aJ)))))))
def lW:Stms:=(.a (.ret (.lc (.call bQ (.c v0 v2 v1)) (.one 2) (.range (.a (.bin .add v0 i1))) .nil)))
def zU:Stms:=(.d (.s 2 x0) (.s 3 x1) (.w (.or_ (.cmp .gt v2 (.glo aK)) (.cmp .gt v3 v2))) (.r (.call bQ (.c v2 v3 v0))))
def uX:Stms:=(.b (.w (.cmp .gt x0 (.glo bP))) (.ret (.call aN (.a (.call aX (.b x0 v0))))))
def zO:Stms:=(.c (.w (.cmp .gt x0 (.glo oK))) (.s 2 (.call aX (.b x0 v0))) (.ret (.bin .add (.lst (.a v0)) (.lc (.blt .count (.b v2 v3)) (.one 3) (.range (.a v0)) .nil))))
def oU:Stms:=(.e (.s 2 x0) (.s 3 x1) (.w (.or_ (.cmp .gt v2 (.glo tE)) (.cmp .gt v3 v2))) (.for_ (.one 4) (.range (.b (.bin .add v3 i1) (.bin .add v2 i1))) (.b (.s 5 (.call bQ (.c v2 v4 v0))) (.i (.cmp .gt v5 i0) (.a (.ret (.lst (.b v4 v5))))))) (.r (.glo aP)))
def aTs:Stms:=(.a (.ret (.call uF (.b (.glo aLs) v1))))
def aKl:Stms:=(.c (.s 2 x0) (.w (.cmp .gt v2 (.glo aK))) (.ret (.lst (.b (.call bS (.b v2 (.glo aLs))) (.call bF (.b v2 (.glo aLs)))))))
def zT:Stms:=(.g (.s 2 x0) (.s 3 x1) (.s 4 x2) (.s 5 (.idx v1 (.int 3))) (.w (.or_ (.cmp .gt v2 (.glo oM)) (.or_ (.cmp .lt v2 v3) (.or_ (.cmp .ge v4 v0) (.cmp .ge v5 v0))))) (.s 6 (.call bQ (.c (.bin .add (.bin .mul v2 v0) v4) (.bin .add (.bin .mul v3 v0) v5) v0))) (.ret (.lst (.c v6 (.call bQ (.c v2 v3 v0)) (.call bQ (.c v4 v5 v0))))))
def vA:Stms:=(.b (.w (.cmp .gt x0 (.glo bU))) (.r (.bin .mod (.blt .sum (.a (.call aX (.b x0 v0)))) v0)))
def pA:Stms:=(.c (.w (.cmp .gt x0 (.glo bU))) (.s 2 (.call aX (.b x0 v0))) (.r (.bin .mod (.bin .sub (.blt .sum (.a (.blt .step2 (.b v2 i0)))) (.blt .sum (.a (.blt .step2 (.b v2 i1))))) v0)))
def aKn:Stms:=(.d (.w (.cmp .gt (.blt .max (.a v1)) (.glo bP))) (.s 2 i0) (.for_ (.two 3 4) (.zip (.call aX (.b x0 v0)) (.call aX (.b x1 v0))) (.a (.i (.cmp .eq v3 v4) (.a (.aug 2 .add i1))))) (.r v2))
def bCv:Stms:=(.d (.s 2 x0) (.s 3 x1) (.w (.or_ (.cmp .gt v2 (.glo bU)) (.not_ (.call cX (.a v3))))) (.r (.call bS (.b v2 v3))))
def aEa:Stms:=(.d (.s 2 x0) (.s 3 x1) (.w (.or_ (.cmp .gt v2 (.glo bP)) (.cmp .ge v3 v0))) (.ret (.call aN (.a (.lc v4 (.two 4 5) (.enum (.call aX (.b v2 v0))) (.a (.cmp .eq v5 v3)))))))
def aE9:Stms:=(.d (.s 2 x0) (.s 3 x1) (.w (.or_ (.cmp .gt v2 (.glo qC)) (.cmp .gt v3 v2))) (.ret (.lst (.c (.call bQ (.c (.bin .add v2 i1) v3 v0)) (.call bQ (.c (.bin .add v2 i1) (.bin .add v3 i1) v0)) (.call bQ (.c (.bin .add v2 i2) (.bin .add v3 i1) v0))))))
def fL:Stms:=(.d (.i (.cmp .lt v1 (.glo gJ)) (.a (.ret (.call xK (.c (.bin .sub v1 (.glo cD)) v0 v2))))) (.i (.cmp .lt v1 (.glo gI)) (.a (.ret (.call sR (.c (.bin .sub v1 (.glo gJ)) v0 v2))))) (.i (.cmp .lt v1 (.glo kM)) (.a (.ret (.call xJ (.c (.bin .sub v1 (.glo gI)) v0 v2))))) (.ret (.call pP (.c (.bin .sub v1 (.glo kM)) v0 v2))))
def cO:OStms:=(.cons (.i (.and_ (.cmp .ne v1 (.glo vS)) (.cmp .eq (.fld v0 fE) i0)) (.a (.r (.glo vT)))) (.e (.i (.cmp .lt v1 (.glo eC)) (.a (.retTE 3 v1 (.a v2)))) (.i (.cmp .lt v1 (.glo cD)) (.a (.retTP 6 (.bin .sub v1 (.glo eC)) (.b v0 v2)))) (.i (.cmp .lt v1 (.glo dR)) (.a (.ret (.call iH (.c (.fld v0 fE) v1 v2))))) (.i (.cmp .lt v1 (.glo fF)) (.a (.retTP 5 (.bin .sub v1 (.glo dR)) (.b (.blt .len (.a (.fld v0 aJ))) v2)))) (.retTP 2 (.bin .sub v1 (.glo fF)) (.b (.fld v0 aJ) v2))))
-- 146 answers: calls a def that changes the object;statement While
end Tx
namespace Ma
noncomputable def C:Nat→Nat→Nat
 |_,0=>1
 |0,_+1=>0
 |n+1,k+1=>C n k+C n (k+1)
@[simp] theorem aC1(n:Nat):C n 0=1:=by cases n<;>rfl
@[simp] theorem aTk(k:Nat):C 0 (k+1)=0:=rfl
theorem iW(n k:Nat):C (n+1) (k+1)=C n k+C n (k+1):=rfl
theorem aTj:∀(n k:Nat),n<k→C n k=0
 |0,k+1,_=>rfl
 |n+1,k+1,h=>by rw[iW,aTj n k (by omega),aTj n (k+1) (by omega)]
@[simp] theorem aXs:∀n:Nat,C n n=1
 |0=>rfl
 |n+1=>by rw[iW,aXs n,aTj n (n+1) (by omega)]
theorem aJv:∀(n k:Nat),(k+1)*C (n+1) (k+1)=(n+1)*C n k
 |0,0=>rfl
 |0,k+1=>by simp[aTj 1 (k+2) (by omega)]
 |n+1,0=>by
  have h:=aJv n 0
  rw[iW]
  simp at h ⊢
  omega
 |n+1,k+1=>by
  have h1:=aJv n k
  have h2:=aJv n (k+1)
  rw[iW (n+1) (k+1),Fj,h2]
  have e:(k+1+1)*C (n+1) (k+1)=(k+1)*C (n+1) (k+1)+C (n+1) (k+1):=by rw[Nat.succ_mul]
  rw[e,h1,iW n k,←Gk]
  generalize C n k=a
  generalize C n (k+1)=b
  rw[Nat.add_mul (n+1) 1,Fj,Fk]
  omega
theorem aXr:∀(n k:Nat),k≤n→0<C n k
 |n,0,_=>by simp
 |n+1,k+1,h=>by rw[iW];have:=aXr n k (by omega);omega
theorem aHq:∀l:List Nat,(Gc l).length=l.length
 |[]=>rfl
 |[_]=>rfl
 |a::b::l=>by simp[Gc,aHq (b::l)]
theorem aHp:∀(l:List Nat)(k:Nat),(Gc l).getD k 0=l.getD k 0+l.getD (k+1) 0
 |[],k=>by simp[Gc]
 |[a],k=>by cases k<;>simp[Gc]
 |a::b::l,0=>by simp[Gc]
 |a::b::l,k+1=>by
  have h:=aHp (b::l) k
  simp only[Gc,F7]at h ⊢
  exact h
theorem aBo:∀(n k:Nat),(G5 n).getD k 0=C n k
 |0,0=>rfl
 |0,k+1=>by simp[G5]
 |n+1,0=>by simp[G5,Kp268.nextRow]
 |n+1,k+1=>by
  show(1::Gc (G5 n)).getD (k+1) 0=_
  rw[F7,aHp,aBo n k,aBo n (k+1),iW]
theorem bB(n k:Nat):Di n k=C n k:=aBo n k
theorem aBp:∀n:Nat,(G5 n).length=n+1
 |0=>rfl
 |n+1=>by
  show(1::Gc (G5 n)).length=_
  rw[Ar,aHq,aBp n]
theorem aHj(n:Nat):G5 n=(Ab (n+1)).map (C n):=by
 apply Lo
 .simp[aBp]
 .intro i h1 h2
  have:=aBo n i
  simp[aBp]at h1
  rw[B4,Bf (by rw[aBp];omega)]at this
  simpa using this
theorem bCo(m i:Nat):C (m+i) i*(m+(i+1))/(i+1)=C (m+(i+1)) (i+1):=by
 have h:=aJv (m+i) i
 have e:m+(i+1)=m+i+1:=by omega
 rw[e,Ek,←h]
 exact E5 _ (by omega)
theorem zG:∀(n k:Nat),C n k≤2^n
 |n,0=>by rw[aC1];exact Nat.one_le_two_pow
 |0,k+1=>by simp
 |n+1,k+1=>by
  have h1:=zG n k
  have h2:=zG n (k+1)
  rw[iW,Cm]
  omega
noncomputable def sub (p:Nat):Nat→Nat→Nat→Bool
 |0,_,_=>true
 |f+1,n,k=>decide (k%p≤n%p)&&sub p f (n/p) (k/p)
theorem aHo(p:Nat):∀f n,sub p f n n=true
 |0,_=>rfl
 |f+1,n=>by simp[sub,aHo p f]
theorem uH(p:Nat):∀f n,sub p f n 0=true
 |0,_=>rfl
 |f+1,n=>by simp[sub,uH p f]
theorem sub_le(p:Nat)(hp:0<p):∀f n k,k<p^f→sub p f n k=true→k≤n
 |0,n,k,hk,_=>by simp at hk;omega
 |f+1,n,k,hk,h=>by
  simp only[sub,Ac,dqe]at h
  have hk':k/p<p^f:=by rw[Jq hp];rw[Cm]at hk;exact hk
  have ih:=sub_le p hp f (n/p) (k/p) hk' h.2
  have e1:=Ee n p
  have e2:=Ee k p
  have:=Hq p ih
  omega
theorem vI(p:Nat)(hp:0<p):∀f i n k,k≤n→(Dc p f i 0 k (n-k)=[]↔sub p f n k=true)
 |0,i,n,k,_=>by simp[Dc,sub]
 |f+1,i,n,k,h=>by
  unfold Dc
  by_cases h0:k=0∧n-k=0
  .rw[ip h0]
   obtain⟨rfl,h1⟩:=h0
   simp[uH]
  .rw[ig h0]
   simp only[Fl]
   have e1:=Ee k p
   have e2:=Ee (n-k) p
   have e3:=Ee n p
   have l1:=Bx k hp
   have l2:=Bx (n-k) hp
   have l3:=Bx n hp
   have en:n=p*(k/p+(n-k)/p)+(k%p+(n-k)%p):=by rw[Fj];omega
   by_cases hc:p≤k%p+(n-k)%p
   .rw[ip hc]
    have e4:n=p*(k/p+(n-k)/p+1)+(k%p+(n-k)%p-p):=by
     rw[Fj,Gy];omega
    have e5:n%p=k%p+(n-k)%p-p:=by
     conv=>lhs;rw[e4]
     rw[Hr,Aw (by omega)]
    simp only[sub,Ac,dqe]
    constructor
    .intro q;cases q
    .rintro⟨q,_⟩;omega
   .rw[ig hc]
    have e5:n%p=k%p+(n-k)%p:=by
     conv=>lhs;rw[en]
     rw[Hr,Aw (by omega)]
    have e6:n/p=k/p+(n-k)/p:=by
     conv=>lhs;rw[en]
     rw[Ly hp,Dv (show k%p+(n-k)%p<p by omega),Fl]
    have e7:(n-k)/p=n/p-k/p:=by rw[e6];exact(C4 ..).symm
    rw[e7,vI p hp f (i+1) (n/p) (k/p) (Hf h)]
    simp only[sub,Ac,dqe]
    constructor
    .intro q;exact⟨by omega,q⟩
    .intro q;exact q.2
theorem rE{p n k:Nat}(hp:0<p)(hk:k≤n):(Ao p n k==0)=sub p 24 n k:=by
 have h:=vI p hp 24 0 n k hk
 unfold Ao A9
 cases hs:sub p 24 n k with
 |true=>rw[h.mpr hs];rfl
 |false=>
  have:Dc p 24 0 0 k (n-k)≠[]:=fun q=>by rw[h.mp q]at hs;cases hs
  cases hc:Dc p 24 0 0 k (n-k)with
  |nil=>exact absurd hc this
  |cons a l=>rfl
theorem sZ(p:Nat)(hp:0<p)(A B:Nat→Bool):∀m,(Ab (p*m)).countP (fun k=>A (k%p)&&B (k/p))=(Ab p).countP A*(Ab m).countP B
 |0=>by simp
 |m+1=>by
  rw[Nat.mul_succ,D9,Fg,sZ p hp A B m,Jr,B5,Fg,Fj]
  congr 1
  have e:∀r∈Ab p,((fun k=>A (k%p)&&B (k/p))∘fun x=>p*m+x) r=(A r&&B m):=by
   intro r hr
   have hr:=Ak.mp hr
   simp only[E6]
   rw[Hr,Aw hr,Ly hp,Dv hr,Fl]
  rw[Fv (fun r hr=>by rw[e r hr])]
  cases hB:B m with
  |true=>simp[hB]
  |false=>simp[hB]
theorem aCe(d:Nat):∀p,d<p→(Ab p).countP (fun r=>decide (r≤d))=d+1
 |0,h=>by omega
 |p+1,h=>by
  rw[B5,Fg]
  by_cases hd:d<p
  .rw[aCe d p hd];simp;omega
  .have:d=p:=by omega
   subst this
   have:(Ab d).countP (fun r=>decide (r≤d))=d:=by
    have h2:=Js (p:=fun r=>decide (r≤d)) (l:=Ab d)
    rw[Bj]at h2
    exact h2.mpr fun a ha=>by have:=Ak.mp ha;simp;omega
   rw[this];simp
def yF(l:List Nat):Nat:=l.foldl (fun(a d:Nat)=>a*(d+1)) 1
theorem sN:∀(l:List Nat)(a:Nat),l.foldl (fun(a d:Nat)=>a*(d+1)) a=a*yF l
 |[],a=>by simp[yF]
 |d::l,a=>by
  unfold yF
  rw[Cp,Cp,sN l,sN l (1*(d+1)),Fk,Iy]
theorem zA(d:Nat)(l:List Nat):yF (d::l)=(d+1)*yF l:=by
 unfold yF
 rw[Cp,sN,Fk];rfl
theorem aCf(p:Nat)(hp:2≤p):∀f n,n<p^f→(Ab (p^f)).countP (sub p f n)=yF (A2 p f n)
 |0,n,h=>by simp[sub,A2,yF]
 |f+1,n,h=>by
  have hn:n/p<p^f:=by rw[Jq (by omega)];rw[Cm]at h;exact h
  rw[Cm,Ek]
  have e:(fun k=>sub p (f+1) n k)=fun k=>(fun r=>decide (r≤n%p)) (k%p)&&(sub p f (n/p)) (k/p):=by
   funext k;rfl
  show Iz (fun k=>sub p (f+1) n k) _=_
  rw[e,sZ p (by omega) (fun r=>decide (r≤n%p)) (sub p f (n/p)),aCf p hp f (n/p) hn,aCe _ _ (Bx _ (by omega))]
  rw[show A2 p (f+1) n=if n=0 then[]else n%p::A2 p f (n/p)from rfl]
  by_cases h0:n=0
  .subst h0
   rw[ip rfl,Ie,Lh]
   have:∀f,A2 p f 0=[]:=by intro f;cases f<;>simp[A2]
   rw[this];rfl
  .rw[ig h0,zA]
theorem bB4{p n:Nat}(hp:2≤p)(hn:n<16777216):n<p^24:=Bg hn (by
 have:(2:Nat)^24≤p^24:=Nat.pow_le_pow_left hp 24
 simpa using this)
theorem aLc{p n:Nat}(hp:2≤p)(hn:n<16777216):(Ab (n+1)).countP (sub p 24 n)=Bv p n:=by
 have h1:=aCf p hp 24 n (bB4 hp hn)
 have h2:=bB4 hp hn
 have e:p^24=(n+1)+(p^24-(n+1)):=by omega
 generalize hP:p^24=P at h1 h2 e
 rw[e,D9,Fg]at h1
 have h3:Iz (sub p 24 n) (Ka (fun x=>n+1+x) (Ab (P-(n+1))))=0:=by
  rw[Hs]
  intro k hk hs
  obtain⟨x,hx,rfl⟩:=Cd.mp hk
  have hx:=Ak.mp hx
  have:=sub_le p (by omega) 24 n (n+1+x) (by rw[hP];omega) hs
  omega
 rw[h3,Fl]at h1
 exact h1
theorem pG{p n:Nat}(hp:2≤p)(hn:n<16777216):(Ab (n+1)).countP (fun k=>Ao p n k==0)=Bv p n:=by
 rw[←aLc hp hn]
 refine Fv fun k hk=>?_
 have:=Ak.mp hk
 rw[rE (by omega) (by omega)]
theorem zD{p n:Nat}(hp:0<p):Ao p n 0=0:=by
 have:=rE (p:=p) (n:=n) (k:=0) hp (by omega)
 rw[uH]at this
 simpa using this
theorem aJm{p n:Nat}(hp:0<p):Ao p n n=0:=by
 have:=rE (p:=p) (n:=n) (k:=n) hp (by omega)
 rw[aHo]at this
 simpa using this
theorem aSg{p n:Nat}(hp:2≤p)(hn:n<16777216):Fm p n=decide (Bv p n≤2):=by
 rw[←pG hp hn]
 unfold Fm
 cases n with
 |zero=>simp[zD (show 0<p by omega)]
 |succ n=>
  have er:Ab (n+1+1)=0::((Ab n).map G3++[n+1]):=by
   rw[B5,Av];rfl
  rw[er,Bz,Fo,Lp,Fg]
  have c1:Iz (fun k=>Ao p (n+1) k==0) [n+1]=1:=by simp[aJm (show 0<p by omega)]
  have c2:(if(Ao p (n+1) 0==0)=true then 1 else 0)=1:=by simp[zD (show 0<p by omega)]
  rw[c1,c2]
  have c3:([n+1].all fun k=>k==0||k==n+1||Ao p (n+1) k != 0)=true:=by simp
  rw[c3]
  simp only[beq_self_eq_true,Lg,Fw,Ko]
  rw[C8,Bc,dqe]
  constructor
  .intro h
   have:Iz (fun k=>Ao p (n+1) k==0) (Ka G3 (Ab n))=0:=by
    rw[Hs]
    intro k hk hz
    have h1:=h k hk
    obtain⟨x,hx,rfl⟩:=Cd.mp hk
    have hx:=Ak.mp hx
    simp at h1 hz
    omega
   omega
  .intro h k hk
   have h0:Iz (fun k=>Ao p (n+1) k==0) (Ka G3 (Ab n))=0:=by omega
   rw[Hs]at h0
   have:=h0 k hk
   simp at this
   simp[this]
theorem aVg{p n:Nat}(hp:2≤p)(hn:n<16777216):Fp p n=decide (Bv p n=n+1):=by
 rw[←pG hp hn]
 unfold Fp
 rw[C8,Bc,dqe]
 have:=Js (p:=fun k=>Ao p n k==0) (l:=Ab (n+1))
 rw[Bj]at this
 rw[this]
theorem aOc{p a b:Nat}(hp:Bh p=true)(h:p ∣ a*b):p ∣ a∨p ∣ b:=by
 unfold Bh at hp
 simp only[Ac,dqe,Bc,Ak,Eu,bne_iff_ne,ne_eq]at hp
 obtain⟨h2,hd⟩:=hp
 have hg:B3 p a ∣ p:=Ha p a
 have hle:=Hj (by omega) hg
 have hpos:0<B3 p a:=Nat.gcd_pos_of_pos_left _ (by omega)
 by_cases h1:B3 p a=1
 .exact .inr (Nat.Coprime.dvd_of_dvd_mul_left h1 h)
 .by_cases h3:B3 p a=p
  .left;rw[←h3];exact K3 p a
  .rcases hd (B3 p a) (by omega)with q|q
   .omega
   .exact absurd (Fe hg) q
theorem lL{p a b:Nat}(hp:Bh p=true):a*b%p=0↔a%p=0∨b%p=0:=by
 constructor
 .intro h
  rcases aOc hp (Ff h)with q|q
  .exact .inl (Fe q)
  .exact .inr (Fe q)
 .rintro(h|h)
  .rw[Nat.mul_mod,h,Jt,Ie]
  .rw[Nat.mul_mod,h,Nat.mul_zero,Ie]
theorem aJw{p:Nat}(hp:Bh p=true):∀n k,k≤n→n<p→C n k%p≠0
 |0,0,_,hn=>by
  rw[aC1,Aw]
  .omega
  .unfold Bh at hp;simp at hp;omega
 |0,k+1,h,_=>by omega
 |n+1,0,_,hn=>by
  rw[aC1,Aw]
  .omega
  .omega
 |n+1,k+1,h,hn=>by
  intro hz
  have h1:=aJv n k
  have h2:(k+1)*C (n+1) (k+1)%p=0:=(lL hp).mpr (.inr hz)
  rw[h1]at h2
  rcases(lL hp).mp h2 with q|q
  .rw[Aw hn]at q;omega
  .exact aJw hp n k (by omega) (by omega) q
theorem aOz(p:Nat):∀(l:List Nat)(k:Nat),(∀x∈l,x<p)→(Fx p l).getD k 0=(l.getD k 0+l.getD (k+1) 0)%p
 |[],k,_=>by simp[Fx]
 |[a],k,h=>by
  have:=h a (by simp)
  cases k<;>simp[Fx,Aw this]
 |a::b::l,0,_=>by simp[Fx]
 |a::b::l,k+1,h=>by
  have h:=aOz p (b::l) k fun x hx=>h x (by simp at hx ⊢;exact .inr hx)
  simp only[Fx,F7]at h ⊢
  exact h
theorem aTa(p:Nat)(hp:0<p):∀(l:List Nat),(∀x∈l,x<p)→∀x∈Fx p l,x<p
 |[],_,x,hx=>by simp[Fx]at hx
 |[a],h,x,hx=>h x (by simpa[Fx]using hx)
 |a::b::l,h,x,hx=>by
  simp only[Fx,A1]at hx
  rcases hx with rfl|hx
  .exact Bx _ hp
  .exact aTa p hp (b::l) (fun y hy=>h y (by simp at hy ⊢;exact .inr hy)) x hx
theorem aHm(p:Nat)(hp:0<p):∀d,∀x∈Dn p d,x<p
 |0,x,hx=>by simp[Dn]at hx;rw[hx];exact Bx _ hp
 |d+1,x,hx=>by
  simp only[Dn,N2,A1]at hx
  rcases hx with rfl|hx
  .exact Bx _ hp
  .exact aTa p hp _ (aHm p hp d) x hx
theorem rB(p:Nat)(hp:0<p):∀d k,(Dn p d).getD k 0=C d k%p
 |0,0=>by simp[Dn]
 |0,k+1=>by simp[Dn]
 |d+1,0=>by simp[Dn,N2]
 |d+1,k+1=>by
  show(1%p::Fx p (Dn p d)).getD (k+1) 0=_
  rw[F7,aOz p _ _ (aHm p hp d),rB p hp d k,rB p hp d (k+1),iW,←Nat.add_mod]
theorem hZ(p:Nat)(hp:0<p)(f n k:Nat):D2 p (f+1) n k=if n=0∧k=0 then 1%p else C (n%p) (k%p)%p*D2 p f (n/p) (k/p)%p:=by
 show(if n=0∧k=0 then 1%p else(Dn p (n%p)).getD (k%p) 0*D2 p f (n/p) (k/p)%p)=_
 rw[rB p hp]
theorem qG(p:Nat)(hp:0<p):∀f n k,D2 p f n k<p
 |0,n,k=>by unfold D2;exact Bx _ hp
 |f+1,n,k=>by
  rw[hZ p hp];split
  .exact Bx _ hp
  .exact Bx _ hp
theorem qF(p:Nat)(hp:2≤p):∀f n,D2 p f n 0=1
 |0,n=>by unfold D2;exact Aw hp
 |f+1,n=>by
  rw[hZ p (by omega)]
  have:1%p=1:=Aw hp
  split
  .exact this
  .rw[Ie,aC1,Lh,qF p hp f,this,Gy,this]
theorem aAi{p:Nat}(hp:Bh p=true)(h2:2≤p):∀f n k,(D2 p f n k=0↔sub p f n k=false)
 |0,n,k=>by
  unfold D2 sub
  rw[Aw (by omega)];simp
 |f+1,n,k=>by
  rw[hZ p (by omega)]
  by_cases h0:n=0∧k=0
  .obtain⟨rfl,rfl⟩:=h0
   rw[ip ⟨rfl,rfl⟩,Aw (by omega),uH];simp
  .rw[ig h0,lL hp,Ht,Aw (qG p (by omega) _ _ _),aAi hp h2 f]
   simp only[sub,Ju,decide_eq_false_iff_not]
   constructor
   .rintro(h|h)
    .left;intro hle
     exact aJw hp _ _ hle (Bx _ (by omega)) h
    .exact .inr h
   .rintro(h|h)
    .left;rw[aTj _ _ (by omega),Ie]
    .exact .inr h
theorem rX{p n k:Nat}(hp:Bh p=true)(h2:2≤p)(hk:k≤n):(Ap p n k==0)=!(Ao p n k==0):=by
 rw[rE (by omega) hk]
 have:=aAi hp h2 24 n k
 unfold Ap
 cases hs:sub p 24 n k with
 |false=>simp[this.mpr hs]
 |true=>
  have:D2 p 24 n k≠0:=fun q=>by rw[this.mp q]at hs;cases hs
  simp[this]
theorem aI1{p n:Nat}(hp:Bh p=true)(h2:2≤p)(hn:n<16777216):((Ab (n+1)).filter fun k=>Ap p n k != 0).length=Bv p n:=by
 rw[←Fh,←pG h2 hn]
 refine Fv fun k hk=>?_
 have:=Ak.mp hk
 have e:=rX hp h2 (show k≤n by omega)
 rw[bne,e,Bool.not_not]
noncomputable def bits (n m:Nat):List Nat:=(Ab n).map fun i=>m/2^i%2
theorem cF(n m:Nat):(bits n m).length=n:=by simp[bits]
theorem aEc{n m b:Nat}(h:b∈bits n m):b<2:=by
 obtain⟨i,_,rfl⟩:=Cd.mp h
 omega
theorem tY{n m i:Nat}(h:i<n):(bits n m)[i]?=some (m/2^i%2):=by
 unfold bits;rw[Bb,E7 h];rfl
theorem pV(n m:Nat):bits (n+1) m=bits n m++[m/2^n%2]:=by
 unfold bits;rw[B5,A7];rfl
theorem nA(n m:Nat):bits (n+1) m=m%2::bits n (m/2):=by
 unfold bits
 rw[Av,Ai,Aj,Li,Lz]
 congr 1
 refine Ax fun i _=>?_
 show m/2^(i+1)%2=m/2/2^i%2
 rw[C0,Cm,Ek]
theorem aPt(a b m:Nat):bits (a+b) m=bits a m++bits b (m/2^a):=by
 unfold bits
 rw[D9,A7,Aj]
 congr 1
 refine Ax fun i _=>?_
 show m/2^(a+i)%2=m/2^a/2^i%2
 rw[C0,I0]
theorem lG{n a b:Nat}(h:a%2^n=b%2^n):bits n a=bits n b:=by
 refine Ax fun i hi=>?_
 have hi:=Ak.mp hi
 have key:∀x:Nat,x%2^n/2^i%2=x/2^i%2:=by
  intro x
  have:2^n=2^i*2^(n-i):=by rw[←I0];congr 1;omega
  rw[this,Nat.mod_mul_right_div_self]
  have:2^(n-i)=2*2^(n-i-1):=by rw[←Nat.pow_succ'];congr 1;omega
  rw[this,Nat.mod_mul_right_mod]
 rw[←key a,←key b,h]
noncomputable def val:List Nat→Nat
 |[]=>0
 |b::l=>b+2*val l
theorem oE:∀n m,m<2^n→val (bits n m)=m
 |0,m,h=>by simp at h;subst h;rfl
 |n+1,m,h=>by
  rw[nA,val,oE n (m/2) (by rw[Cm]at h;omega)]
  omega
theorem dA(m i:Nat):Ef m i=(m/2^i%2==1):=by
 rw[Nat.testBit_eq_decide_div_mod_eq]
 by_cases h:m/2^i%2=1<;>simp[h]
theorem mR(n m:Nat):Ay (n+1) m=Ay n m++if m/2^n%2=1 then[n]else[]:=by
 unfold Ay
 rw[B5,El]
 congr 1
 rw[D6,dA]
 by_cases h:m/2^n%2=1<;>simp[h]
def pc(n m:Nat):Nat:=(Ay n m).length
theorem sM(n m:Nat):pc (n+1) m=pc n m+m/2^n%2:=by
 unfold pc
 rw[mR,A6]
 by_cases h:m/2^n%2=1
 .rw[ip h,h];rfl
 .rw[ig h];simp;omega
theorem yE:∀n m,pc n m≤n
 |0,m=>An _
 |n+1,m=>by rw[sM];have:=yE n m;omega
theorem kJ:∀n m,(bits n m).sum=pc n m
 |0,m=>rfl
 |n+1,m=>by rw[pV,Eg,kJ n m,sM];simp
theorem tI{n a b:Nat}(h:a%2^n=b%2^n):Ay n a=Ay n b:=by
 have hb:=lG h
 unfold Ay
 refine Eb fun i hi=>?_
 have hi:=Ak.mp hi
 have h1:=tY (n:=n) (m:=a) hi
 have h2:=tY (n:=n) (m:=b) hi
 rw[hb,h2]at h1
 rw[dA,dA,A0 h1]
theorem aPr(m i:Nat):G6 m i=pc i m:=by
 unfold G6 pc
 rw[tI (Ht m (2^i))]
theorem vG{n i m:Nat}(h:i≤n):(bits n m).take i=bits i m:=by
 unfold bits;rw[←Fy,L0,Gm h]
theorem aXq{k:Nat}:∀{a b:Nat},a≤b→C a k≤C b k:=by
 intro a b h
 induction h with
 |refl=>exact An _
 |step _ ih=>
  refine B7 ih ?_
  rename_i b _
  cases k with
  |zero=>simp
  |succ k=>rw[iW];omega
theorem aYu{k r:Nat}:∀(d n:Nat),C n k≤r→r<C (n+1) k→Eh k r (n+d)=n
 |0,n,h,_=>by
  cases n with
  |zero=>rfl
  |succ n=>
   show(if Cy (n+1) k≤r then n+1 else Eh k r n)=_
   unfold Cy;rw[bB,ip h]
 |d+1,n,h,h2=>by
  show(if Cy (n+d+1) k≤r then n+d+1 else Eh k r (n+d))=_
  unfold Cy;rw[bB,ig,aYu d n h h2]
  have:=aXq (k:=k) (show n+1≤n+d+1 by omega)
  omega
noncomputable def chv:Nat→Nat→Nat→Nat
 |0,_,_=>0
 |n+1,k,r=>if r<C n k then chv n k r else chv n (k-1) (r-C n k)+2^n
theorem aL9:∀(n k r N:Nat),n≤N→r<C n k→Ij N k r=chv n k r
 |0,0,r,N,_,_=>by cases N<;>rfl
 |0,k+1,r,N,_,h=>by simp at h
 |n+1,k,r,N,hN,h=>by
  unfold chv
  by_cases hr:r<C n k
  .rw[ip hr];exact aL9 n k r N (by omega) hr
  .rw[ig hr]
   cases k with
   |zero=>simp at h hr;omega
   |succ k=>
    have hx:Eh (k+1) r (N-1)=n:=by
     have:=aYu (k:=k+1) (r:=r) (N-1-n) n (by omega) h
     rw[show n+(N-1-n)=N-1 by omega]at this
     exact this
    have:Ij N (k+1) r=2^n+Ij N k (r-C n (k+1)):=by
     show 2^Eh (k+1) r (N-1)+Ij N k (r-Cy (Eh (k+1) r (N-1)) (k+1))=_
     rw[hx];unfold Cy;rw[bB]
    rw[this,Cu,aL9 n k _ N (by omega) (by rw[iW]at h;omega),Fq]
theorem vM:∀n k r,chv n k r<2^n
 |0,_,_=>by simp[chv]
 |n+1,k,r=>by
  unfold chv
  rw[Cm]
  split
  .have:=vM n k r;omega
  .have:=vM n (k-1) (r-C n k);omega
theorem nV{n v b:Nat}(hv:v<2^n)(hb:b<2):bits (n+1) (v+b*2^n)=bits n v++[b]:=by
 rw[pV]
 congr 1
 .exact lG (by rw[Nat.add_mul_mod_self_right])
 .have:(v+b*2^n)/2^n=b:=by
   rw[Nat.add_mul_div_right _ _ (D3 n),Dv hv,Bw]
  rw[this,Aw hb]
theorem aPu(n k r:Nat):bits (n+1) (chv (n+1) k r)=if r<C n k then bits n (chv n k r)++[0]else bits n (chv n (k-1) (r-C n k))++[1]:=by
 show bits (n+1) (if r<C n k then chv n k r else chv n (k-1) (r-C n k)+2^n)=_
 split
 .have:=nV (b:=0) (vM n k r) (by omega)
  rw[Jt,Fl]at this
  exact this
 .have:=nV (b:=1) (vM n (k-1) (r-C n k)) (by omega)
  rw[Fk]at this
  exact this
noncomputable def exv:Nat→Nat→Nat→Nat
 |0,_,_=>0
 |n+1,k,r=>if r<C n k then exv n k r else exv n (k-1) (C n (k-1)-1-(r-C n k))+2^n
theorem tB:∀n k,(Ew n k).length=C n k
 |n,0=>by cases n<;>rfl
 |0,k+1=>rfl
 |n+1,k+1=>by
  show(Ew n (k+1)++((Ew n k).reverse.map fun m=>m+2^n)).length=_
  rw[A6,Ag,Hu,tB n (k+1),tB n k,iW];omega
theorem aGj:∀n,exv n 0 0=0
 |0=>rfl
 |n+1=>by unfold exv;rw[ip (by simp),aGj n]
theorem aLp:∀n k r,r<C n k→(Ew n k)[r]?=some (exv n k r)
 |n,0,r,h=>by
  have:r=0:=by simp at h;exact h
  subst this
  rw[aGj];cases n<;>rfl
 |0,k+1,r,h=>by simp at h
 |n+1,k+1,r,h=>by
  show(Ew n (k+1)++((Ew n k).reverse.map fun m=>m+2^n))[r]?=some (if r<C n (k+1)then exv n (k+1) r else exv n (k+1-1) (C n (k+1-1)-1-(r-C n (k+1)))+2^n)
  rw[iW]at h
  by_cases hr:r<C n (k+1)
  .rw[ip hr,Cz (by rw[tB];exact hr),aLp n (k+1) r hr]
  .rw[ig hr,Dx (by rw[tB];omega),tB,Bb,Jv (by rw[tB];omega),tB,Cu,aLp n k _ (by omega)]
   rfl
theorem aCk:∀n k r,exv n k r<2^n
 |0,_,_=>by simp[exv]
 |n+1,k,r=>by
  unfold exv
  rw[Cm]
  split
  .have:=aCk n k r;omega
  .have:=aCk n (k-1) (C n (k-1)-1-(r-C n k));omega
theorem aPv(n k r:Nat):bits (n+1) (exv (n+1) k r)=if r<C n k then bits n (exv n k r)++[0]else bits n (exv n (k-1) (C n (k-1)-1-(r-C n k)))++[1]:=by
 show bits (n+1) (if r<C n k then exv n k r else exv n (k-1) (C n (k-1)-1-(r-C n k))+2^n)=_
 split
 .have:=nV (b:=0) (aCk n k r) (by omega)
  rw[Jt,Fl]at this
  exact this
 .have:=nV (b:=1) (aCk n (k-1) (C n (k-1)-1-(r-C n k))) (by omega)
  rw[Fk]at this
  exact this
theorem vL(n k r:Nat):Jw n k r=if r<C n k then some (chv n k r)else none:=by
 unfold Jw Cy
 rw[bB]
 by_cases h:r<C n k
 .rw[ip h,ip h,aL9 n k r n (An _) h]
 .rw[ig h,ig h]
theorem aX6:∀n,((Ab (n+1)).map (C n)).sum=2^n:=by
 have key:∀n m,((Ab (m+1)).map (C (n+1))).sum=((Ab (m+1)).map (C n)).sum+((Ab m).map (C n)).sum:=by
  intro n m
  induction m with
  |zero=>simp
  |succ m ih=>
   have e:((Ab (m+1)).map (C n)).sum=((Ab m).map (C n)).sum+C n m:=by
    rw[B5,A7,Eg,Dq,Gn]
   rw[B5 (n:=m+1),A7,Eg,ih,A7,Eg,Dq,Dq,Gn,Gn,iW]
   omega
 intro n
 induction n with
 |zero=>rfl
 |succ n ih=>
  rw[key,B5 (n:=n+1),A7,Eg,ih,Dq,Gn,aTj n (n+1) (by omega),Cm]
  omega
noncomputable def ones:Nat→List Nat→List Nat
 |_,[]=>[]
 |i,b::l=>if b=1 then i::ones (i+1) l else ones (i+1) l
theorem aD5:∀n m i,ones i (bits n m)=(Ay n m).map (i+·)
 |0,m,i=>rfl
 |n+1,m,i=>by
  rw[nA]
  have e:Ay (n+1) m=(if m%2=1 then[0]else[])++(Ay n (m/2)).map G3:=by
   unfold Ay
   rw[Av,D6,Gp]
   have:(fun i=>m.testBit i)∘G3=fun i=>(m/2).testBit i:=by
    funext t;show m.testBit (t+1)=_;rw[Nat.testBit_succ]
   rw[this,dA,Li,Lz]
   by_cases h:m%2=1<;>simp[h]
  rw[e,A7,Aj]
  have e2:(fun x=>i+x)∘G3=fun x=>i+1+x:=by funext x;show i+(x+1)=_;omega
  rw[e2]
  unfold ones
  rw[aD5 n (m/2) (i+1)]
  by_cases h:m%2=1
  .rw[ip h,ip h];simp
  .rw[ig h,ig h];simp
theorem wZ(n m:Nat):ones 0 (bits n m)=Ay n m:=by
 rw[aD5];simp
noncomputable def tv:Int→List Nat→List Nat→Nat
 |d,b::l,c::l'=>(d+b-c).natAbs+tv (d+b-c) l l'
 |_,_,_=>0
theorem aTf:∀(l l':List Nat)(d:Int),tv (-d) l l'=tv d l' l
 |[],[],d=>rfl
 |[],_::_,d=>rfl
 |_::_,[],d=>rfl
 |b::l,c::l',d=>by
  unfold tv
  have e:-d+(b:Int)-c=-(d+c-b):=by omega
  rw[e,aTf l l' (d+c-b),Int.natAbs_neg]
theorem yK:∀a b:List Nat,Fz a b=Fz b a
 |[],[]=>rfl
 |[],_::_=>rfl
 |_::_,[]=>rfl
 |x::a,y::b=>by
  unfold Fz
  rw[yK a b]
  congr 1
  split<;>split<;>omega
theorem rC(i:Nat):∀Q:List Nat,(∀q∈Q,q≤i)→(Q.map fun q=>i+1-q).sum=(Q.map fun q=>i-q).sum+Q.length
 |[],_=>rfl
 |q::Q,h=>by
  have:=h q (by simp)
  rw[Ai,Dr,rC i Q fun x hx=>h x (by simp[hx]),Ai,Dr,Ar]
  omega
theorem lR:∀(k:Nat)(l l':List Nat),l.length=k→l'.length=k→(∀b∈l,b<2)→(∀b∈l',b<2)→∀(i:Nat)(Q:List Nat),Q.length+l.sum=l'.sum→(∀q∈Q,q≤i)→
  Fz (Q++ones i l) (ones i l')=(Q.map fun q=>i-q).sum+tv Q.length l l'
 |0,l,l',h1,h2,_,_,i,Q,hs,hQ=>by
  have e1:=E8.mp h1
  have e2:=E8.mp h2
  subst e1 e2
  have:Q=[]:=E8.mp (by simp at hs;simp[hs])
  subst this;rfl
 |k+1,[],l',h1,_,_,_,_,_,_,_=>by simp at h1
 |k+1,_::_,[],_,h2,_,_,_,_,_,_=>by simp at h2
 |k+1,b::l,c::l',h1,h2,hb,hc,i,Q,hs,hQ=>by
  have g1:l.length=k:=by simpa using h1
  have g2:l'.length=k:=by simpa using h2
  have b2:=hb b (by simp)
  have c2:=hc c (by simp)
  have hb':∀x∈l,x<2:=fun x hx=>hb x (by simp[hx])
  have hc':∀x∈l',x<2:=fun x hx=>hc x (by simp[hx])
  have hQ1:∀q∈Q,q≤i+1:=fun q hq=>by have:=hQ q hq;omega
  rw[Dr,Dr]at hs
  have sh:=rC i Q hQ
  have hb01:b=0∨b=1:=by omega
  have hc01:c=0∨c=1:=by omega
  rcases hb01 with rfl|rfl<;>rcases hc01 with rfl|rfl
  .have ih:=lR k l l' g1 g2 hb' hc' (i+1) Q (by omega) hQ1
   have o1:ones i (0::l)=ones (i+1) l:=rfl
   have o2:ones i (0::l')=ones (i+1) l':=rfl
   rw[o1,o2,ih,sh]
   show _=_+(((Q.length:Int)+(0:Nat)-(0:Nat)).natAbs+tv ((Q.length:Int)+(0:Nat)-(0:Nat)) l l')
   rw[show((Q.length:Int)+(0:Nat)-(0:Nat))=(Q.length:Int) by omega];omega
  .have o1:ones i (0::l)=ones (i+1) l:=rfl
   have o2:ones i (1::l')=i::ones (i+1) l':=rfl
   rw[o1,o2]
   cases Q with
   |nil=>
    have ih:=lR k l' l g2 g1 hc' hb' (i+1) [i] (by simp at hs ⊢;omega) (by simp)
    rw[Cq,yK,show i::ones (i+1) l'=[i]++ones (i+1) l' from rfl,ih]
    show((i+1-i)+0)+tv 1 l' l=0+(((0:Int)+(0:Nat)-(1:Nat)).natAbs+tv ((0:Int)+(0:Nat)-(1:Nat)) l l')
    rw[show((0:Int)+(0:Nat)-(1:Nat))=-1 by omega,aTf]
    simp
   |cons q Q=>
    have hq:=hQ q (by simp)
    have ih:=lR k l l' g1 g2 hb' hc' (i+1) Q (by simp at hs;omega) (fun x hx=>hQ1 x (by simp[hx]))
    have sh':=rC i Q fun x hx=>hQ x (by simp[hx])
    show(if q<i then i-q else q-i)+Fz (Q++ones (i+1) l) (ones (i+1) l')=((i-q)+(Q.map fun q=>i-q).sum)+((((Q.length+1:Nat):Int)+(0:Nat)-(1:Nat)).natAbs+tv (((Q.length+1:Nat):Int)+(0:Nat)-(1:Nat)) l l')
    rw[ih,sh',show(((Q.length+1:Nat):Int)+(0:Nat)-(1:Nat))=(Q.length:Int) by omega]
    split<;>omega
  .have ih:=lR k l l' g1 g2 hb' hc' (i+1) (Q++[i]) (by simp;omega) (by
    intro x hx
    rcases Ed.mp hx with h|h
    .exact hQ1 x h
    .simp at h;omega)
   have o1:ones i (1::l)=i::ones (i+1) l:=rfl
   have o2:ones i (0::l')=ones (i+1) l':=rfl
   rw[o1,o2,show Q++i::ones (i+1) l=Q++[i]++ones (i+1) l by simp,ih,A7,Eg,sh,A6]
   show(Q.map fun q=>i-q).sum+Q.length+((i+1-i)+0)+tv ((Q.length+1:Nat):Int) l l'=_+(((Q.length:Int)+(1:Nat)-(0:Nat)).natAbs+tv ((Q.length:Int)+(1:Nat)-(0:Nat)) l l')
   rw[show((Q.length:Int)+(1:Nat)-(0:Nat))=((Q.length+1:Nat):Int) by omega];omega
  .have o1:ones i (1::l)=i::ones (i+1) l:=rfl
   have o2:ones i (1::l')=i::ones (i+1) l':=rfl
   rw[o1,o2]
   cases Q with
   |nil=>
    have ih:=lR k l l' g1 g2 hb' hc' (i+1) [] (by simp at hs ⊢;omega) (by simp)
    rw[Cq]at ih
    show(if i<i then i-i else i-i)+Fz (ones (i+1) l) (ones (i+1) l')=0+(((0:Int)+(1:Nat)-(1:Nat)).natAbs+tv ((0:Int)+(1:Nat)-(1:Nat)) l l')
    rw[ih,show((0:Int)+(1:Nat)-(1:Nat))=0 by omega]
    simp
   |cons q Q=>
    have hq:=hQ q (by simp)
    have ih:=lR k l l' g1 g2 hb' hc' (i+1) (Q++[i]) (by simp at hs ⊢;omega) (by
     intro x hx
     rcases Ed.mp hx with h|h
     .exact hQ1 x (by simp[h])
     .simp at h;omega)
    have sh':=rC i Q fun x hx=>hQ x (by simp[hx])
    show(if q<i then i-q else q-i)+Fz (Q++i::ones (i+1) l) (ones (i+1) l')=((i-q)+(Q.map fun q=>i-q).sum)+((((Q.length+1:Nat):Int)+(1:Nat)-(1:Nat)).natAbs+tv (((Q.length+1:Nat):Int)+(1:Nat)-(1:Nat)) l l')
    rw[show Q++i::ones (i+1) l=Q++[i]++ones (i+1) l by simp,ih,A7,Eg,sh',A6,show(((Q.length+1:Nat):Int)+(1:Nat)-(1:Nat))=((Q.length+1:Nat):Int) by omega]
    show(if q<i then i-q else q-i)+((Q.map fun q=>i-q).sum+Q.length+((i+1-i)+0)+tv ((Q.length+1:Nat):Int) l l')=_
    split<;>omega
theorem aTb:∀(l l':List Nat)(d:Int),l.length=l'.length→((Ab (l.length+1)).map fun i=>(d+((l.take i).sum:Nat)-((l'.take i).sum:Nat)).natAbs).sum=d.natAbs+tv d l l'
 |[],[],d,_=>by simp[tv]
 |[],_::_,d,h=>by simp at h
 |_::_,[],d,h=>by simp at h
 |b::l,c::l',d,h=>by
  have ih:=aTb l l' (d+b-c) (by simpa using h)
  rw[Ar,Av,Ai,Dr,Aj]
  have e:((fun i=>(d+(((b::l).take i).sum:Nat)-(((c::l').take i).sum:Nat)).natAbs)∘G3)=fun i=>(d+b-c+((l.take i).sum:Nat)-((l'.take i).sum:Nat)).natAbs:=by
   funext i
   show(d+(((b::l).take (i+1)).sum:Nat)-(((c::l').take (i+1)).sum:Nat)).natAbs=_
   rw[Hv,Hv,Dr,Dr]
   congr 1;omega
  rw[e,ih]
  simp[tv]
theorem aSc{p n m a:Nat}(h:pc n a=pc n m):Kp ⟨p,n,m⟩ a=((Ab (n+1)).map fun i=>((pc i m:Int)-(pc i a:Int)).natAbs).sum:=by
 have h1:=lR n (bits n m) (bits n a) (cF _ _) (cF _ _) (fun b hb=>aEc hb) (fun b hb=>aEc hb) 0 [] (by rw[kJ,kJ,h];simp) (by simp)
 rw[Cq,wZ,wZ]at h1
 have h2:=aTb (bits n m) (bits n a) 0 (by rw[cF,cF])
 rw[cF]at h2
 have e:Kp ⟨p,n,m⟩ a=tv 0 (bits n m) (bits n a):=h1.trans (by show 0+tv 0 _ _=_;omega)
 rw[e]
 have e2:((Ab (n+1)).map fun i=>((0:Int)+(((bits n m).take i).sum:Nat)-(((bits n a).take i).sum:Nat)).natAbs)=(Ab (n+1)).map fun i=>((pc i m:Int)-(pc i a:Int)).natAbs:=by
  refine Ax fun i hi=>?_
  have:=Ak.mp hi
  rw[vG (by omega),vG (by omega),kJ,kJ,Int.zero_add]
 rw[e2]at h2
 rw[h2];simp
noncomputable def luc (p:Nat):Bool:=(Ab 25).all fun n=>(G5 n).map (·%p)==(Ab (n+1)).map (Ap p n)
theorem aZa:((Ab 25).filter Bh).all luc=true:=by decide +kernel
theorem lucas{p n k:Nat}(hp:Bh p=true)(h2:2≤p)(hn:n≤24)(hk:k≤n):C n k%p=Ap p n k:=by
 by_cases h:p≤24
 .have:=Bc.mp aZa p (Es.mpr ⟨Ak.mpr (by omega),hp⟩)
  have:=Bc.mp this n (Ak.mpr (by omega))
  have:=eq_of_beq this
  rw[aHj,Aj]at this
  have:=congrArg (fun l:List Nat=>l[k]?) this
  simp only[Bb,E7 (show k<n+1 by omega),Bt]at this
  exact A0 this
 .unfold Ap
  rw[hZ p (by omega)]
  by_cases h0:n=0∧k=0
  .rw[ip h0,h0.1,h0.2];rfl
  .rw[ig h0,Aw (show n<p by omega),Aw (show k<p by omega),Dv (show k<p by omega),qF p h2,Gy,Ht]
end Ma
namespace L2.Rv
set_option maxRecDepth 100000
open PySem
theorem nolen:typeLookup (.type "list_reverseiterator") "__len__"=pure none:=by
 rw[typeLookup_type,builtinLookup_eq_fast]
 kernel_rfl
theorem hint:typeLookup (.type "list_reverseiterator") "__length_hint__"=pure (some (.builtin "list_reverseiterator.__length_hint__")):=by
 rw[typeLookup_type,builtinLookup_eq_fast]
 kernel_rfl
section
variable{pr:Program}{wd:World}{B:Around}{t:Shared}{W:Result→Shared→Prop}{J:Addr}{pf wf:List Addr}{Gs:Array GenState→Array GenState→Prop}{m:Nat}{Pi:Nat→Value→Prop}{Si:Nat→Shared→Prop}
theorem aU8(Y:WalksS pr wd B.in1 J pf wf Gs m Pi Si)(ty:∀i s,Si i s→s.TypeIs (.ref J) "list_reverseiterator")(L:Addr)(res:Value)(c:Nat)(h0:Si 0 t)(nL:L∉pf)(mJ:J∈pf)
  (hL:t.heap.get? L=some { cls:=.type "list",data:=.seq #[] c }) (hm:m≤sizeLine)
  (fin:∀t' a' c',Moved (L::wf) Gs t t'→t'.heap.get? L=some { cls:=.type "list",dict:=none,data:=.seq a' c',slots:=#[] }→ItemsOf Pi a' m→W (.ok (.ret res)) t') :
  wpAny (model pr wd) B.in1 (Builtin.List.listExtendWith (.ref L) (.ref J) res)
   (fun x t'=>match x with|.done f=>W (.ok f) t'|.again c'=>c'.quiet=true∧codeAny (model pr wd) B c' W t') (fun e t'=>W (.error e) t') t:=by
 have d:L≠J:=fun e=>nL (e▸mJ)
 have e1:Builtin.List.listSameRef (.ref L) (.ref J)=false:=by simp[Builtin.List.listSameRef,d]
 unfold Builtin.List.listExtendWith
 refine wpAny_bind (wpAny_typeOf (ty 0 _ h0) ?_)
 rw[ig (by rw[e1];decide)]
 refine wpAny_bind (Y.self 0 _ _ _ h0 (wpAny_bind (wpAny_holding ?_)))
 unfold Builtin.List.listLengthHint
 refine wpAny_bind (wpAny_specialOf (ty 0 _ h0) nolen ?_)
 show wpAny _ B.in1 (specialOf (Value.ref J) (Str.ofString "__length_hint__") >>= _) _ _ _
 refine wpAny_bind (wpAny_specialOf (ty 0 _ h0) hint ?_)
 generalize hq:("list_reverseiterator.__length_hint__":String)=q0
 wp_delta
 rw[show splitId q0=some ("list_reverseiterator","__length_hint__")from by subst hq;decide +kernel]
 subst hq
 refine wpAny_bind (wpAny_isInstance (b:=true) (ty 0 _ h0) (by rw[isSubtype_type];kernel_rfl) (wpAny_pure ?_))
 rw[ig (by decide)]
 exact wpAny_pure ⟨plainId_quiet F.plain_extend_loop _,codeAny_extend_loopS Y hm _ nL _ m 0 _ _ _ rfl (E4 _) h0 hL (ItemsOf.nil Pi) fun t' a' c' x y z=>fin t' a' c' x y z⟩
theorem aQa(Y:WalksS pr wd B.in1 J pf wf Gs m Pi Si)(ty:∀i s,Si i s→s.TypeIs (.ref J) "list_reverseiterator")(L:Addr)(h0:Si 0 t)(nL:L∉pf)(mJ:J∈pf)
  (hL:t.heap.get? L=some { cls:=.type "list",data:=.seq #[] }) (hm:m≤sizeLine)
  (fin:∀t' a' c',Moved (L::wf) Gs t t'→t'.heap.get? L=some { cls:=.type "list",dict:=none,data:=.seq a' c',slots:=#[] }→ItemsOf Pi a' m→W (.ok (.ret .none)) t') :
  wpAny (model pr wd) B.in1 (Builtin.«list.__init__» ⟨[.ref L,.ref J],[]⟩)
   (fun x t'=>match x with|.done f=>W (.ok f) t'|.again c'=>c'.quiet=true∧codeAny (model pr wd) B c' W t') (fun e t'=>W (.error e) t') t:=by
 have same:∀b o,b≠L→t.heap.get? b=some o→(t.heap.update L (Obj.mapSeq fun _=>(#[]:Array Value))).get? b=some o:=fun b o n e=>
  Aq (Heap.get?_update_other _ _ (Hm n)) e
 have hL2:=Heap.get?_update_self (Obj.mapSeq fun _=>(#[]:Array Value)) hL rfl
 show wpAny _ B.in1 (Builtin.List.listItems (.ref L) >>= fun old=>Builtin.List.listUpdate (.ref L) (fun _=>#[]) >>= fun _=>letGo old.toList.reverse >>= fun _=>Builtin.List.listExtendWith (.ref L) (.ref J) .none) _ _ t
 unfold Builtin.List.listItems
 refine wpAny_bind (wpAny_bind (wpAny_seqItems hL rfl (wpAny_pure ?_)))
 show wpAny _ B.in1 (updateSeq L (fun _=>#[]) >>= fun _=>letGo ([]:List Value) >>= fun _=>Builtin.List.listExtendWith (.ref L) (.ref J) .none) _ _ t
 refine wpAny_bind (wpAny_updateSeq hL rfl (wpAny_bind (wpAny_letGo ?_)))
 have h1:=Y.frame 0 t (t.heap.update L (Obj.mapSeq fun _=>(#[]:Array Value))) t.toks h0 (An _) fun b hb o e=>same b o (fun q=>nL (q▸hb)) e
 exact aU8 Y ty L .none _ h1 nL mJ hL2 hm fun t' a' c' x y z=>
  fin t' a' c' (Moved.trans Y.gtrans (Moved.then_heap (Moved.refl Y.grefl) (An _) fun b o n e=>same b o (fun q=>n (q▸Bu)) e) x) y z
variable{Ex:Value→Shared→Prop}
theorem aQ0{Q:Value→Shared→Prop}(Y:WalksS pr wd B.in1.in1 J pf wf Gs m Pi Si)(ty:∀i s,Si i s→s.TypeIs (.ref J) "list_reverseiterator")(h0:Si 0 t)(old:∀b∈pf,b<t.heap.objs.size)(mJ:J∈pf)(hm:m≤sizeLine)
  (fin:∀t' a' c',Moved (t.heap.objs.size::wf) Gs { t with heap:=t.heap.push { cls:=.type "list",data:=.seq #[] } } t'→
   t'.heap.get? t.heap.objs.size=some { cls:=.type "list",dict:=none,data:=.seq a' c',slots:=#[] }→ItemsOf Pi a' m→Q (.ref t.heap.objs.size) t') :
  wpAny (model pr wd) B (call (.type "list") [.ref J]) Q Ex t:=by
 have nL:t.heap.objs.size∉pf:=fun q=>Da _ (old _ q)
 have hL:(t.heap.push { cls:=.type "list",data:=.seq #[] }).get? t.heap.objs.size=some { cls:=.type "list",data:=.seq #[] }:=Heap.get?_push_size _ rfl
 have h1:=Y.frame 0 t (t.heap.push { cls:=.type "list",data:=.seq #[] }) t.toks h0 (An _) fun b _ o e=>Heap.get?_push_of_some _ e
 refine callType_codes (Q₁:=fun x t1=>x=.ref t.heap.objs.size∧t1={ t with heap:=t.heap.push { cls:=.type "list",data:=.seq #[] } }) F.called_list (F.typeCall_list_1 _) F.entry_list_init (code_list_new _ ⟨rfl,rfl⟩) ?_
 rintro x t1 ⟨rfl,rfl⟩
 exact⟨⟨_,hL,rfl⟩,F.args_list_init_2 _ _,aQa Y ty _ h1 nL mJ hL hm fun t' a' c' u v z=>⟨rfl,fin t' a' c' u v z⟩⟩
end
end L2.Rv
namespace L2
set_option maxRecDepth 100000
open PySem PySem.Spec PyProof.Rows
section
variable{X:Cx}
theorem vX{its:List Value}{acc:Array Value}(h:ItemsOf (fun i v=>its.toArray[its.toArray.size-1-i]?=some v) acc its.toArray.size):acc.toList=its.reverse:=by
 obtain⟨h1,h2⟩:=h
 simp only[Am]at h1 h2
 apply Lo
 .simp[h1]
 .intro i a b
  have hi:i<acc.size:=by simpa using a
  have q:=h2 i acc[i] (Array.getElem?_eq_getElem hi)
  rw[List.getElem_reverse]
  simp only[Array.getElem_toList]
  simp only[Jx]at q
  obtain⟨_,q⟩:=As.mp q
  exact q.symm
theorem aY3:bootBuiltins "list"=some (.type "list"):=by decide +kernel
theorem aWq{e:Expr}{ta:TA}{p p2 pos pos2:Pos}(hc:X.calm=true)(hg:Gl X "list")(hm:X.mg "list"=none)(hg2:Gl X "reversed")(hm2:X.mg "reversed"=none)(ha:PA X [e] ta)(hs:starEach [e] X.env=[(false,eval e X.env)]) :
  PE X (.Call (.Name "list" p) [.Call (.Name "reversed" p2) [e] [] pos2] [] pos) (fun σ H Q=>ta σ H fun vs H1=>∃(a:Addr)(xs:List V),vs=[.ref a]∧H1 a=some (.lst xs)∧∀l,H1 l=none→Q (.ref l) (upd H1 l (.lst xs.reverse))):=by
 intro pins s σ H Q I h
 refine Call_ (nM I hg hm aY3 (Bp ?_ rfl rfl))
 show wpAny _ _ (spliced ((false,eval (.Call (.Name "reversed" p2) [e] [] pos2) X.env)::backTo pos (starEach [] X.env))) _ _ s
 refine Calls.spliced_cons (Call_ (nM I hg2 hm2 oH (Bp (thn (ha pos2 pins s σ H _ I h) fun us s1 ⟨vs,H1,I1,r1,q1⟩=>?_) hs rfl)))
 obtain⟨a,xs,ev,hq,q⟩:=q1
 subst ev
 cases r1 with
 |cons r rr=>
  cases rr
  cases r
  obtain⟨its,rv,p',hz⟩:=I1.list (SqL.of (K:=X.K) hq)
  refine call_reversed_list p'.isList (Calls.spliced_nil ?_)
  have hh:X.A.in1.in1.handled=none:=I1.ok.hd hc
  have la:a<s1.heap.objs.size:=I1.hok.lt hq
  have ne:a≠s1.heap.objs.size:=Cv la
  have sz:(s1.heap.push (revObj a ((its.toArray.size:Int)-1))).objs.size=s1.heap.objs.size+1:=Heap.size_push _ _
  refine Rv.aQ0 (t:={ s1 with heap:=s1.heap.push (revObj a ((its.toArray.size:Int)-1)) }) (Walks.toS (Walks.listRev hh s1.heap.objs.size a ne its.toArray)) (fun i t st=>st.2.1.typeIs) ?_ ?_ (by simp) ?_ ?_
  .refine⟨E4 _,⟨_,Heap.get?_push_size _ rfl,rfl,?_⟩,p'.isList.at fun o eo=>Heap.get?_push_of_some _ eo⟩
   simp[revObj]
  .intro b hb
   show b<(s1.heap.push (revObj a ((its.toArray.size:Int)-1))).objs.size
   rw[sz]
   simp at hb
   rcases hb with q|q
   .rw[q];exact Fb _
   .rw[q];exact Gx la
  .rw[Am,←rv.length];exact hz
  .rintro⟨h',g',d',tk,os'⟩ acc c' mv hL hacc
   obtain⟨m1,m2,m3,m4,m5⟩:=mv
   have m2:g'=s1.gens:=m2
   have m3:d'=s1.drawn:=m3
   have m4:os'=s1.os:=m4
   subst m2 m3 m4
   have hL':h'.get? (s1.heap.objs.size+1)=some { cls:=.type "list",dict:=none,data:=.seq acc c',slots:=#[] }:=by
    rw[←sz];exact hL
   have kp:∀b u,s1.heap.get? b=some u→h'.get? b=some u:=fun b u eb=>by
    have lb:=Heap.lt_size eb
    refine m1 b u (fun z=>?_) (Heap.get?_push_of_some _ (Heap.get?_push_of_some _ eb))
    simp at z
    rcases z with z|z
    .exact absurd lb (by rw[z];exact Nat.not_lt_of_le (Ki _))
    .exact absurd lb (by rw[z];exact Da _)
   have hfr:H1 (s1.heap.objs.size+1)=none:=I1.hok.fresh (Ki _)
   have il:=vX hacc
   show EP X pins σ Q (.ref (s1.heap.push (revObj a ((its.toArray.size:Int)-1))).objs.size) _
   rw[sz]
   refine⟨.ref (s1.heap.objs.size+1),_,I1.laid (t':=tk) kp (Ki _) ?_,rfl,q _ hfr⟩
   refine⟨by rw[Hu];exact hz,its.reverse,c',rv.reverse,?_⟩
   rw[hL',←il]
theorem aMq:MtR X "list.count" (fun x xs H Q=>∃(a:Addr)(ns:List Int)(k:Int),x=.ref a∧xs=[.int k]∧SqL X.K H a (ns.map V.int)∧Q (.int ((ns.count k:Nat):Int)) H):=by
 intro pins s σ H x xs v us Q I rx rs h
 obtain⟨a,ns,k,rfl,rfl,hq,q⟩:=h
 cases rx
 cases rs with
 |cons r1 rs=>
  cases rs
  obtain⟨t,rfl⟩:=r1
  obtain⟨its,rv,pl,hz⟩:=I.list hq
  exact count_list_ints pl.isList (aI7 rv) ⟨.int _,H,I.tok _,⟨_,rfl⟩,q⟩
def aC2(K:Ad)(H:Hp):List V→List (Int×Int)→Prop
 |[],[]=>True
 |y::ys,z::zs=>(∃b,y=.ref b∧SqT K H b [.int z.1,.int z.2])∧aC2 K H ys zs
 |_,_=>False
open Classical in
def eqP(K:Ad)(H:Hp)(i j:Int):Value→Bool
 |.ref b=>decide (SqT K H b [.int i,.int j])
 |_=>false
open Classical in
theorem aT9{pins:List (Addr×Obj)}{s:Shared}{σ:St}{H:Hp}(I:Inv X pins σ H s){b:Addr}{i j p q:Int}(h:SqT X.K H b [.int p,.int q]):eqP X.K H i j (.ref b)=(p==i&&q==j):=by
 show decide (SqT X.K H b [.int i,.int j])=_
 by_cases e:p=i∧q=j
 .obtain⟨rfl,rfl⟩:=e
  rw[det h];simp
 .have hn:¬SqT X.K H b [.int i,.int j]:=fun h'=>by
   have:=I.tuple_inj h h'
   simp at this
   exact e this
  rw[def_ hn]
  simp only[Ju,beq_eq_false_iff_ne,ne_eq,Bool.false_eq]
  by_cases h1:p=i
  .exact .inr fun h2=>e ⟨h1,h2⟩
  .exact .inl h1
open Classical in
theorem aWn{pins:List (Addr×Obj)}{s:Shared}{σ:St}{H:Hp}{A:Around}(I:Inv X pins σ H s)(hu:A.units<cLine){b c:Addr}{i j p q:Int}(h:SqT X.K H b [.int p,.int q])(hc:SqT X.K H c [.int i,.int j]):SeqAt.EqAt A s (.ref b) (.ref c) (eqP X.K H i j (.ref b)):=by
 by_cases e:b=c
 .subst e
  have:eqP X.K H i j (.ref b)=true:=by unfold eqP;exact det hc
  rw[this]
  exact SeqAt.EqAt.same _
 .rw[aT9 I h]
  obtain⟨u1,r1,p1,_⟩:=I.tuple h
  obtain⟨u2,r2,p2,_⟩:=I.tuple hc
  cases r1 with
  |cons a1 t1=>
   cases t1 with
   |cons a2 t2=>
    cases t2
    cases r2 with
    |cons b1 s1=>
     cases s1 with
     |cons b2 s2=>
      cases s2
      obtain⟨x1,rfl⟩:=a1
      obtain⟨x2,rfl⟩:=a2
      obtain⟨y1,rfl⟩:=b1
      obtain⟨y2,rfl⟩:=b2
      have:=SeqAt.RcAt.tuples (A:=A) (e:=fun k=>if k=0 then p==i else q==j) p1 p2 hu (fun k h1 h2=>by
       match k,h1,h2 with
       |0,_,_=>exact SeqAt.EqAt.int_int p x1 i y1
       |1,_,_=>exact SeqAt.EqAt.int_int q x2 j y2
       |k+2,h1,_=>exact absurd h1 (by simp))
      refine SeqAt.EqAt.of_refs e ?_
      have e2:((Ab (min [Value.int p x1,Value.int q x2].toArray.size [Value.int i y1,Value.int j y2].toArray.size)).all (fun k=>if k=0 then p==i else q==j)&&[Value.int p x1,Value.int q x2].toArray.size==[Value.int i y1,Value.int j y2].toArray.size)=(p==i&&q==j):=by
       show((Ab 2).all (fun k=>if k=0 then p==i else q==j)&&true)=_
       rw[show Ab 2=[0,1]from rfl]
       simp
      rw[e2]at this
      exact this
theorem xA{pins:List (Addr×Obj)}{s:Shared}{σ:St}{H:Hp}(I:Inv X pins σ H s){i j:Int}:∀{ys:List V}{us:List Value}{zs:List (Int×Int)},Vals ys us→aC2 X.K H ys zs→us.countP (eqP X.K H i j)=zs.count (i,j)
 |_,_,[],.nil,_=>rfl
 |_,_,z::zs,.nil,h=>h.elim
 |_,_,[],.cons _ _,h=>h.elim
 |y::ys,u::us,z::zs,.cons r t,h=>by
  obtain⟨⟨b,rfl,hb⟩,h⟩:=h
  cases r
  rw[Lp,xA I t h,List.count_cons,aT9 I hb]
  congr 1
theorem aD7{H:Hp}{K:Ad}:∀{ys:List V}{us:List Value}{zs:List (Int×Int)},Vals ys us→aC2 K H ys zs→∀u∈us,∃b p q,u=.ref b∧SqT K H b [.int p,.int q]
 |_,_,[],.nil,_,u,hu=>by cases hu
 |_,_,z::zs,.nil,h,u,hu=>h.elim
 |_,_,[],.cons _ _,h,u,hu=>h.elim
 |y::ys,w::us,z::zs,.cons r t,h,u,hu=>by
  obtain⟨⟨b,rfl,hb⟩,h⟩:=h
  cases r
  rcases A1.mp hu with rfl|hu
  .exact⟨b,z.1,z.2,rfl,hb⟩
  .exact aD7 t h u hu
theorem aMr(hu:X.A.units+64<cLine):MtR X "list.count" (fun x xs H Q=>∃(a c:Addr)(ys:List V)(zs:List (Int×Int))(i j:Int),x=.ref a∧xs=[.ref c]∧SqL X.K H a ys∧aC2 X.K H ys zs∧SqT X.K H c [.int i,.int j]∧Q (.int ((zs.count (i,j):Nat):Int)) H):=by
 intro pins s σ H x xs v us Q I rx rs h
 obtain⟨a,c,ys,zs,i,j,rfl,rfl,hq,hp,hc,q⟩:=h
 cases rx
 cases rs with
 |cons r1 rs=>
  cases rs
  cases r1
  obtain⟨its,rv,pl,hz⟩:=I.list hq
  obtain⟨⟨cls,dd,data,sl⟩,ho,hcl,n,hd⟩:=pl.isList
  simp only at hcl hd
  subst hcl hd
  refine call_meets Ja ⟨_,ho,rfl⟩ PySem.F.entry_list_count (PySem.F.args_list_count_2 _ _) (SeqAt.list_countAt a its.toArray n dd sl (.ref c) (eqP X.K H i j)) ⟨ho,fun y hy=>?_,?_⟩
  .obtain⟨b,p,q',rfl,hb⟩:=aD7 rv hp y (by simpa using hy)
   exact aWn I (by show X.A.units+1<cLine;omega) hb hc
  .show EP X pins σ Q (.int ((its.countP (eqP X.K H i j):Nat):Int) s.toks) _
   rw[xA I rv hp]
   exact⟨.int _,H,I.tok _,⟨_,rfl⟩,q⟩
theorem aDm{xs:List V}{us:List Value}(r:Vals xs us):∀L:List Nat,Vals (L.filterMap (xs[·]?)) (L.filterMap (us[·]?))
 |[]=>.nil
 |i::L=>by
  have ih:=aDm r L
  have hl:=r.length
  by_cases h:i<xs.length
  .have h1:xs[i]?=some xs[i]:=Bf h
   obtain⟨u,hu,ru⟩:=r.get h1
   rw[Dd,Dd,h1,hu]
   exact .cons ru ih
  .have h1:xs[i]?=none:=Dh (by omega)
   have h2:us[i]?=none:=Dh (by omega)
   rw[Dd,Dd,h1,h2]
   exact ih
noncomputable def aJb (xs:List V) (i:Nat):List V:=(sliceRange (min i xs.length:Nat) xs.length 2).filterMap (xs[·]?)
theorem aTy(i n:Nat):sliceBounds (some (i:Int)) none (some 2) n=(((min i n:Nat):Int),(n:Int),2):=by
 unfold sliceBounds
 simp only[Option.getD_some,show(2:Int)>0 by decide,if_true]
 rw[ig (by omega)]
 congr 1
 omega
theorem aRu(xs:List V)(i:Nat):(aJb xs i).length≤xs.length:=by
 unfold aJb
 refine B7 (List.length_filterMap_le _ _) ?_
 exact sliceRange_length_le _ _ _ _ (fun _=>⟨by omega,by omega⟩) (fun h=>absurd (show(2:Int)>0 by decide) h)
theorem aRs{e lo st:Expr}{te tl ts:TE}{p2 pos:Pos}(he:PE X e te)(hl:PE X lo tl)(hs:PE X st ts):PE X (.Subscript e (.Slice (some lo) none (some st) p2) pos)
  (fun σ H Q=>te σ H fun x H1=>tl σ H1 fun y H2=>ts σ H2 fun z H3=>∃(a:Addr)(xs:List V)(i:Nat),x=.ref a∧y=.int (i:Int)∧z=.int 2∧SqL X.K H3 a xs∧∀p,H3 p=none→Q (.ref p) (upd H3 p (.lst (aJb xs i)))):=by
 intro pins s σ H Q I h
 refine Subscript_ (thn (he pins s σ H _ I h) fun v s1 ⟨x,H1,I1,r1,q1⟩=>?_)
 refine wpAny_Slice ?_
 rw[evalPart_some]
 refine thn (hl pins s1 σ H1 _ I1 q1) fun vl s2 ⟨y,H2,I2,rl,q2⟩=>?_
 rw[evalPart_none]
 refine wpAny_pure ?_
 rw[evalPart_some]
 refine thn (hs pins s2 σ H2 _ I2 q2) fun vs s3 ⟨z,H3,I3,rs,q3⟩=>?_
 obtain⟨a,xs,i,rfl,rfl,rfl,hx,q⟩:=q3
 cases r1
 obtain⟨t1,rfl⟩:=rl
 obtain⟨t2,rfl⟩:=rs
 have I4:Inv X pins σ H3 { s3 with heap:=s3.heap.push { cls:=.type "slice",data:=.fields #[.int (i:Int) t1,.none,.int 2 t2] } }:=I3.kept (t':=s3.toks) fun b ob q=>Heap.get?_push_of_some _ q
 obtain⟨its,r,ht,hz⟩:=I4.list hx
 have hlen:=r.length
 show wpAny (model X.prog X.w) X.A (subscriptTail e (.Slice (some lo) none (some st) p2) (.ref a) (.ref s3.heap.objs.size)) (EP X pins σ Q) X.xe { s3 with heap:=s3.heap.push { cls:=.type "slice",data:=.fields #[.int (i:Int) t1,.none,.int 2 t2] } }
 refine tail_any (ops:=[.ref a,.ref s3.heap.objs.size]) ht.isList.typeIs slot_list_getitem.lookup ?_ (by with_unfolding_all rfl)
 refine wpAny_getItem_list_slice ht.isList (Heap.IsSliceOf.new ..) (.int (i:Int) t1) .none (.int 2 t2) (by simp) ?_ (by rw[Am]<;>omega)
 have ep:slicePick its.toArray (some (i:Int)) none (some 2)=((sliceRange (min i xs.length:Nat) xs.length 2).filterMap (its[·]?)).toArray:=by
  unfold slicePick
  rw[Am,aTy,←hlen]
  simp only[Jx]
 rw[ep]
 refine⟨.ref _,_,I4.laid (t':=s3.toks) (o:=.lst (aJb xs i)) (fun b ob q=>Heap.get?_push_of_some _ q) (An _) ?_,rfl,q _ (I4.hok.fresh (An _))⟩
 exact⟨B7 (aRu xs i) hz,_,0,aDm r _,Heap.get?_push_size _ rfl⟩
theorem aM7{i:Int}{acc:Array Value}{n:Nat}(h:ItemsOf (fun(k:Nat)(v:Value)=>∃t,v=Value.int (i+(k:Int)*1) t) acc n):Vals ((Ab n).map fun(k:Nat)=>V.int (i+(k:Int))) acc.toList:=by
 obtain⟨h1,h2⟩:=h
 have key:∀(l:List Value)(off:Nat),(∀(j:Nat)(v:Value),l[j]?=some v→∃t,v=Value.int (i+((off+j:Nat):Int)) t)→Vals ((Ab l.length).map fun(k:Nat)=>V.int (i+((off+k:Nat):Int))) l:=by
  intro l
  induction l with
  |nil=>intro off _;exact .nil
  |cons u l ih=>
   intro off hh
   rw[Ar,Av,Ai,Aj]
   obtain⟨t,rfl⟩:=hh 0 u rfl
   refine .cons ⟨t,rfl⟩ ?_
   have:=ih (off+1) fun j v hj=>by
    obtain⟨t,e⟩:=hh (j+1) v (by simpa using hj)
    exact⟨t,by rw[e];congr 3;omega⟩
   have ef:((fun(k:Nat)=>V.int (i+((off+k:Nat):Int)))∘G3)=fun(k:Nat)=>V.int (i+((off+1+k:Nat):Int)):=by
    funext k;show V.int (i+((off+(k+1):Nat):Int))=_;congr 3;omega
   rw[ef];exact this
 have:=key acc.toList 0 fun j v hj=>by
  obtain⟨t,e⟩:=h2 j v (by rw[←Jo];exact hj)
  exact⟨t,by rw[e];simp⟩
 rw[C2,h1]at this
 simpa using this
theorem aO3{e1 e2:Expr}{ta:TA}{p p2 pos pos2:Pos}(hc:X.calm=true)(hg:Gl X "list")(hm:X.mg "list"=none)(hg2:Gl X "range")(hm2:X.mg "range"=none)(ha:PA X [e1,e2] ta)(hs:starEach [e1,e2] X.env=[(false,eval e1 X.env),(false,eval e2 X.env)])(hs2:starEach [e2] X.env=[(false,eval e2 X.env)]) :
  PE X (.Call (.Name "list" p) [.Call (.Name "range" p2) [e1,e2] [] pos2] [] pos) (fun σ H Q=>ta σ H fun vs H1=>∃(i j:Int),vs=[.int i,.int j]∧(-(2^62)≤i∧i<2^62∧-(2^62)≤j∧j<2^62)∧(j-i).toNat≤2^24∧∀l,H1 l=none→Q (.ref l) (upd H1 l (.lst ((Ab (j-i).toNat).map fun(k:Nat)=>V.int (i+(k:Int)))))):=by
 intro pins s σ H Q I h
 refine Call_ (nM I hg hm aY3 (Bp ?_ rfl rfl))
 show wpAny _ _ (spliced ((false,eval (.Call (.Name "range" p2) [e1,e2] [] pos2) X.env)::backTo pos (starEach [] X.env))) _ _ s
 refine Calls.spliced_cons (Call_ (nM I hg2 hm2 boot_range (Bp (thn (ha pos2 pins s σ H _ I h) fun us s1 ⟨vs,H1,I1,r1,q1⟩=>?_) (by rw[hs,hs2]) (by rw[hs2];rfl))))
 obtain⟨i,j,ev,⟨b1,b2,b3,b4⟩,hz,q⟩:=q1
 subst ev
 cases r1 with
 |cons r rr=>
  cases rr with
  |cons r' rr=>
   cases rr
   obtain⟨t,rfl⟩:=r
   obtain⟨t',rfl⟩:=r'
   refine call_range_2 (Calls.spliced_nil ?_)
   have hh:X.A.handled=none:=I1.ok.hd hc
   have hr:IsRange (s1.heap.push { cls:=.type "range",data:=.fields #[.int i t,.int j t',.int 1 s1.toks] }) s1.heap.objs.size i j 1 t t' s1.toks:=IsRange.new ..
   have I2:Inv X pins σ H1 { s1 with heap:=s1.heap.push { cls:=.type "range",data:=.fields #[.int i t,.int j t',.int 1 s1.toks] },toks:=s1.toks+1 }:=I1.kept fun b o e=>Heap.get?_push_of_some _ e
   refine call_list_range (n:=(j-i).toNat) hh hr (small_one b1 b2 b3 b4) (by rw[rangeSize_one];split<;>omega) hz fun h' tk acc c' kp hS hacc=>?_
   refine⟨.ref _,_,I2.laid (t':=tk) (o:=.lst ((Ab (j-i).toNat).map fun(k:Nat)=>V.int (i+(k:Int)))) kp (An _) ?_,rfl,q _ (I2.hok.fresh (An _))⟩
   refine⟨by rw[Ag,Bj,sizeLine_eq];exact hz,acc.toList,c',aM7 hacc,?_⟩
   rw[hS]
end
end L2
namespace L2.Sd
set_option maxRecDepth 100000
open PySem PyProof.Rows
open PySem.Spec hiding Tm
open Pl (Dat Tm Tms Wk Stm Stms Rho Bop Cop Blt Tg SZ flat)
abbrev Rg:=Addr→Prop
def Ext(H H':Hp):Prop:=∀a o,H a=some o→H' a=some o
theorem Ext.refl{H:Hp}:Ext H H:=fun _ _ h=>h
theorem Ext.trans{H H1 H2:Hp}(a:Ext H H1)(b:Ext H1 H2):Ext H H2:=fun x o h=>b x o (a x o h)
theorem Ext.new{H:Hp}{a:Addr}{o:HO}(h:H a=none):Ext H (upd H a o):=fun b u e=>by
 rw[aU (fun z=>by rw[z,h]at e;cases e)];exact e
theorem Ext.none{H H':Hp}(e:Ext H H'){a:Addr}(h:H' a=none):H a=none:=by
 cases q:H a with
 |none=>rfl
 |some o=>rw[e a o q]at h;cases h
def aJs(K:Ad)(a:Addr)(xs:List V):Prop:=
 ∃(o:Obj)(its:Array Value)(n:Nat),K.lookup a=some o∧o.cls=.type "tuple"∧o.data=.seq its n∧its.size≤sizeLine∧Vals xs its.toList
section
variable(K:Ad)(fl:List Str)(H:Hp)(S:Rg)
mutual
def Rep:Dat→V→Prop
 |.non,v=>v=.non
 |.bl b,v=>v=.bl b
 |.int i,v=>v=.int i
 |.lst ds,v=>∃a vs,v=.ref a∧S a∧H a=some (.lst vs)∧Reps ds vs
 |.tup ds,v=>∃a vs,v=.ref a∧((S a∧H a=some (.tup vs))∨aJs K a vs)∧Reps ds vs
 |.rcd ds,v=>∃a C dx hf,v=.ref a∧S a∧H a=some (.ins C dx hf)∧Cls K C∧xO C hf ds fl
def Reps:List Dat→List V→Prop
 |[],vs=>vs=[]
 |d::ds,vs=>∃v r,vs=v::r∧Rep d v∧Reps ds r
def xO(C:Addr)(hf:List (Str×V)):List Dat→List Str→Prop
 |[],_=>True
 |d::ds,ns=>∃n r,ns=n::r∧oG K C n∧(∃u,hf.lookup n=some u∧Rep d u)∧xO C hf ds r
end
end
section
variable{K:Ad}{fl:List Str}{H H':Hp}{S S':Rg}
mutual
theorem Rep.mono(hH:∀a o,S a→H a=some o→H' a=some o)(hS:∀a,S a→S' a):∀{d:Dat}{v:V},Rep K fl H S d v→Rep K fl H' S' d v
 |.non,v,h=>by simpa only[Rep]using h
 |.bl b,v,h=>by simpa only[Rep]using h
 |.int i,v,h=>by simpa only[Rep]using h
 |.lst ds,v,h=>by
  simp only[Rep]at h ⊢
  obtain⟨a,vs,e,s,q,r⟩:=h
  exact⟨a,vs,e,hS a s,hH a _ s q,Reps.mono hH hS r⟩
 |.tup ds,v,h=>by
  simp only[Rep]at h ⊢
  obtain⟨a,vs,e,q,r⟩:=h
  exact⟨a,vs,e,q.imp (fun z=>⟨hS a z.1,hH a _ z.1 z.2⟩) id,Reps.mono hH hS r⟩
 |.rcd ds,v,h=>by
  simp only[Rep]at h ⊢
  obtain⟨a,C,dx,hf,e,s,q,c,r⟩:=h
  exact⟨a,C,dx,hf,e,hS a s,hH a _ s q,c,xO.mono hH hS r⟩
theorem Reps.mono(hH:∀a o,S a→H a=some o→H' a=some o)(hS:∀a,S a→S' a):∀{ds:List Dat}{vs:List V},Reps K fl H S ds vs→Reps K fl H' S' ds vs
 |[],vs,h=>by simpa only[Reps]using h
 |d::ds,vs,h=>by
  simp only[Reps]at h ⊢
  obtain⟨v,r,e,a,b⟩:=h
  exact⟨v,r,e,Rep.mono hH hS a,Reps.mono hH hS b⟩
theorem xO.mono(hH:∀a o,S a→H a=some o→H' a=some o)(hS:∀a,S a→S' a){C:Addr}{hf:List (Str×V)}:∀{ds:List Dat}{ns:List Str},xO K fl H S C hf ds ns→xO K fl H' S' C hf ds ns
 |[],vs,h=>by simp only[xO]
 |d::ds,ns,h=>by
  simp only[xO]at h ⊢
  obtain⟨n,r,e,a,⟨u,l,q⟩,b⟩:=h
  exact⟨n,r,e,a,⟨u,l,Rep.mono hH hS q⟩,xO.mono hH hS b⟩
end
theorem Rep.ext(h:Ext H H'){d:Dat}{v:V}(r:Rep K fl H S d v):Rep K fl H' S d v:=r.mono (fun a o _=>h a o) fun _=>id
theorem Reps.ext(h:Ext H H'){d:List Dat}{v:List V}(r:Reps K fl H S d v):Reps K fl H' S d v:=r.mono (fun a o _=>h a o) fun _=>id
theorem Rep.wide(h:∀a,S a→S' a){d:Dat}{v:V}(r:Rep K fl H S d v):Rep K fl H S' d v:=r.mono (fun a o _=>id) h
theorem Reps.wide(h:∀a,S a→S' a){d:List Dat}{v:List V}(r:Reps K fl H S d v):Reps K fl H S' d v:=r.mono (fun a o _=>id) h
theorem Rep.flat{d:Dat}{v:V}(h:flat d=true)(r:Rep K fl H S d v):Rep K fl H' S' d v:=by
 cases d with
 |lst _=>cases h
 |tup _=>cases h
 |rcd _=>cases h
 |_=>simpa only[Rep]using r
theorem Reps.flat:∀{d:List Dat}{v:List V},d.all Pl.flat=true→Reps K fl H S d v→Reps K fl H' S' d v
 |[],v,_,r=>by simpa only[Reps]using r
 |d::ds,v,h,r=>by
  simp only[Bz,Ac]at h
  simp only[Reps]at r ⊢
  obtain⟨w,r',e,a,b⟩:=r
  exact⟨w,r',e,a.flat h.1,Reps.flat h.2 b⟩
theorem Reps.length:∀{d:List Dat}{v:List V},Reps K fl H S d v→d.length=v.length
 |[],v,r=>by simp only[Reps]at r;subst r;rfl
 |d::ds,v,r=>by
  simp only[Reps]at r
  obtain⟨w,r',e,a,b⟩:=r
  subst e
  simp[Reps.length b]
theorem Reps.get:∀{ds:List Dat}{vs:List V}{i:Nat}{d:Dat},Reps K fl H S ds vs→ds[i]?=some d→∃v,vs[i]?=some v∧Rep K fl H S d v
 |[],_,_,_,_,h=>by simp at h
 |d::ds,vs,i,x,r,h=>by
  simp only[Reps]at r
  obtain⟨w,r',e,a,b⟩:=r
  subst e
  cases i with
  |zero=>simp at h;subst h;exact⟨w,rfl,a⟩
  |succ i=>exact Reps.get (i:=i) b (by simpa using h)
theorem Reps.app:∀{ds es:List Dat}{vs us:List V},Reps K fl H S ds vs→Reps K fl H S es us→Reps K fl H S (ds++es) (vs++us)
 |[],_,vs,us,r,q=>by simp only[Reps]at r;subst r;exact q
 |d::ds,es,vs,us,r,q=>by
  simp only[Reps]at r
  obtain⟨w,r',e,a,b⟩:=r
  subst e
  show Reps K fl H S (d::(ds++es)) (w::(r'++us))
  simp only[Reps]
  exact⟨w,_,rfl,a,Reps.app b q⟩
theorem Reps.one{d:Dat}{v:V}(r:Rep K fl H S d v):Reps K fl H S [d] [v]:=by
 simp only[Reps];exact⟨v,[],rfl,r,rfl⟩
theorem Reps.drop:∀{ds:List Dat}{vs:List V}(n:Nat),Reps K fl H S ds vs→Reps K fl H S (ds.drop n) (vs.drop n)
 |ds,vs,0,r=>r
 |[],vs,n+1,r=>by simp only[Reps]at r;subst r;simp[Reps]
 |d::ds,vs,n+1,r=>by
  simp only[Reps]at r
  obtain⟨w,r',e,a,b⟩:=r
  subst e
  exact Reps.drop n b
theorem Reps.take:∀{ds:List Dat}{vs:List V}(n:Nat),Reps K fl H S ds vs→Reps K fl H S (ds.take n) (vs.take n)
 |ds,vs,0,r=>by simp[Reps]
 |[],vs,n+1,r=>by simp only[Reps]at r;subst r;simp[Reps]
 |d::ds,vs,n+1,r=>by
  simp only[Reps]at r
  obtain⟨w,r',e,a,b⟩:=r
  subst e
  simp only[Hv,Reps]
  exact⟨w,_,rfl,a,Reps.take n b⟩
theorem Reps.reverse:∀{ds:List Dat}{vs:List V},Reps K fl H S ds vs→Reps K fl H S ds.reverse vs.reverse
 |[],vs,r=>by simp only[Reps]at r;subst r;simp[Reps]
 |d::ds,vs,r=>by
  simp only[Reps]at r
  obtain⟨w,r',e,a,b⟩:=r
  subst e
  rw[Et,Et]
  exact(Reps.reverse b).app (Reps.one a)
theorem Reps.set{d:Dat}{v:V}(q:Rep K fl H S d v):∀{ds:List Dat}{vs:List V}(i:Nat),Reps K fl H S ds vs→Reps K fl H S (ds.set i d) (vs.set i v)
 |[],vs,i,r=>by simp only[Reps]at r;subst r;simp[Reps]
 |x::ds,vs,i,r=>by
  simp only[Reps]at r
  obtain⟨w,r',e,a,b⟩:=r
  subst e
  cases i with
  |zero=>simp only[Ig,Reps];exact⟨v,_,rfl,q,b⟩
  |succ i=>simp only[Kq,Reps];exact⟨w,_,rfl,a,Reps.set q i b⟩
theorem Reps.intz:∀{ds:List Dat}{vs:List V}{ns:List Int},Reps K fl H S ds vs→Pl.intz ds=some ns→vs=ns.map V.int
 |[],vs,ns,r,h=>by simp only[Reps]at r;subst r;cases h;rfl
 |d::ds,vs,ns,r,h=>by
  simp only[Reps]at r
  obtain⟨w,r',e,a,b⟩:=r
  subst e
  cases d with
  |int i=>
   simp only[Pl.intz,Ae]at h
   obtain⟨m,hm,rfl⟩:=h
   simp only[Rep]at a
   subst a
   rw[Reps.intz b hm];rfl
  |_=>cases h
theorem Reps.bls:∀{ds:List Dat}{vs:List V}{ns:List Bool},Reps K fl H S ds vs→Pl.bls ds=some ns→vs=ns.map V.bl
 |[],vs,ns,r,h=>by simp only[Reps]at r;subst r;cases h;rfl
 |d::ds,vs,ns,r,h=>by
  simp only[Reps]at r
  obtain⟨w,r',e,a,b⟩:=r
  subst e
  cases d with
  |bl i=>
   simp only[Pl.bls,Ae]at h
   obtain⟨m,hm,rfl⟩:=h
   simp only[Rep]at a
   subst a
   rw[Reps.bls b hm];rfl
  |_=>cases h
theorem xO.get{C:Addr}{hf:List (Str×V)}:∀{ds:List Dat}{ns:List Str}{i:Nat}{d:Dat},xO K fl H S C hf ds ns→ds[i]?=some d→∃n u,ns[i]?=some n∧oG K C n∧hf.lookup n=some u∧Rep K fl H S d u
 |[],_,_,_,_,h=>by simp at h
 |d::ds,ns,i,x,r,h=>by
  simp only[xO]at r
  obtain⟨n,r',e,a,⟨u,l,q⟩,b⟩:=r
  subst e
  cases i with
  |zero=>simp at h;subst h;exact⟨n,u,rfl,a,l,q⟩
  |succ i=>exact xO.get (i:=i) b (by simpa using h)
end
structure Nm where
 defs:List Str
 gls:List Str
 fls:List Str
 tabs:List Str:=[]
noncomputable def bCm (sc:Scope) (x:Str):Bool:=match sc.names.lookup x with
 |some .local=>true
 |some .cell=>true
 |some .free=>true
 |_=>false
noncomputable def nI (sc:Scope) (x:Str):Bool:=match sc.names.lookup x with
 |some .globalImplicit=>true
 |_=>false
noncomputable def aZ9 (top:Bool) (sc:Scope) (x:Str):Bool:=match sc.names.lookup x with
 |some .local=>true
 |some .cell=>top
 |_=>false
noncomputable def kS (x:Str):Bool:=!(x==("__debug__":Str))&&!(x==("__classdict__":Str))
noncomputable def bC9:Bop→Operator→Bool
 |.add,.Add=>true|.sub,.Sub=>true|.mul,.Mult=>true|.fdiv,.FloorDiv=>true|.mod,.Mod=>true
 |_,_=>false
noncomputable def bD1:Cop→CmpOp→Bool
 |.eq,.Eq=>true|.ne,.NotEq=>true|.lt,.Lt=>true|.le,.LtE=>true|.gt,.Gt=>true|.ge,.GtE=>true
 |.isN,.Is=>true|.nin,.NotIn=>true
 |_,_=>false
noncomputable def bV:Expr→Bool
 |.Name _ _=>true|.Constant _ _ _=>true|.BinOp _ _ _ _=>true|.UnaryOp _ _ _=>true|.BoolOp _ _ _=>true|.Compare _ _ _ _=>true
 |.IfExp _ _ _ _=>true|.Subscript _ _ _=>true|.Attribute _ _ _=>true|.Call _ _ _ _=>true|.List _ _=>true|.Tuple _ _ _=>true
 |.ListComp _ _ _ _=>true
 |_=>false
noncomputable def aT6:Expr→Bool
 |.UnaryOp .Not _ _=>false|.BoolOp _ _ _=>false|.IfExp _ _ _ _=>false|.Compare _ _ _ _=>false
 |_=>true
noncomputable def bC8:Blt→Str
 |.len=>"len" |.sum=>"sum" |.max=>"max" |.min=>"min" |.abs=>"abs" |.all=>"all" |.any=>"any" |.lrev=>"list" |.lrange=>"list" |.count=>"" |.step2=>""
theorem di{c:Prop}{i:Decidable c}{f:c→Bool}(h:(if q:c then f q else false)=true):∃q,f q=true:=by
 by_cases q:c
 .rw[dif_pos q]at h;exact⟨q,h⟩
 .rw[dif_neg q]at h;cases h
def bDr(e:Expr)(k:PySem.BoolOp→List Expr→Pos→Bool):Bool:=if h:e.ctorIdx=0 then Expr.BoolOp.elim e h k else false
@[elab_as_elim] theorem iBo{e k}{P:Expr→Prop}(h:bDr e k=true)(f:∀x y z,k x y z=true→P (.BoolOp x y z)):P e:=by
 obtain⟨q,h⟩:=di h
 have r:=q
 revert q
 exact Expr.BoolOp.elim e r fun x y z _=>f x y z
def bAg(e:Expr)(k:Expr→Operator→Expr→Pos→Bool):Bool:=if h:e.ctorIdx=2 then Expr.BinOp.elim e h k else false
@[elab_as_elim] theorem bFu{e k}{P:Expr→Prop}(h:bAg e k=true)(f:∀x y z u,k x y z u=true→P (.BinOp x y z u)):P e:=by
 obtain⟨q,h⟩:=di h
 have r:=q
 revert q
 exact Expr.BinOp.elim e r fun x y z u _=>f x y z u
def bDt(e:Expr)(k:PySem.UnaryOp→Expr→Pos→Bool):Bool:=if h:e.ctorIdx=3 then Expr.UnaryOp.elim e h k else false
@[elab_as_elim] theorem iUn{e k}{P:Expr→Prop}(h:bDt e k=true)(f:∀x y z,k x y z=true→P (.UnaryOp x y z)):P e:=by
 obtain⟨q,h⟩:=di h
 have r:=q
 revert q
 exact Expr.UnaryOp.elim e r fun x y z _=>f x y z
def bEz(e:Expr)(k:Expr→Expr→Expr→Pos→Bool):Bool:=if h:e.ctorIdx=5 then Expr.IfExp.elim e h k else false
@[elab_as_elim] theorem iIf{e k}{P:Expr→Prop}(h:bEz e k=true)(f:∀x y z u,k x y z u=true→P (.IfExp x y z u)):P e:=by
 obtain⟨q,h⟩:=di h
 have r:=q
 revert q
 exact Expr.IfExp.elim e r fun x y z u _=>f x y z u
def bCg(e:Expr)(k:Expr→List Comprehension→Scope→Pos→Bool):Bool:=if h:e.ctorIdx=8 then Expr.ListComp.elim e h k else false
@[elab_as_elim] theorem iLc{e k}{P:Expr→Prop}(h:bCg e k=true)(f:∀x y z u,k x y z u=true→P (.ListComp x y z u)):P e:=by
 obtain⟨q,h⟩:=di h
 have r:=q
 revert q
 exact Expr.ListComp.elim e r fun x y z u _=>f x y z u
def bAh(e:Expr)(k:Expr→List CmpOp→List Expr→Pos→Bool):Bool:=if h:e.ctorIdx=15 then Expr.Compare.elim e h k else false
@[elab_as_elim] theorem bFv{e k}{P:Expr→Prop}(h:bAh e k=true)(f:∀x y z u,k x y z u=true→P (.Compare x y z u)):P e:=by
 obtain⟨q,h⟩:=di h
 have r:=q
 revert q
 exact Expr.Compare.elim e r fun x y z u _=>f x y z u
def wY(e:Expr)(k:Expr→List Expr→List Keyword→Pos→Bool):Bool:=if h:e.ctorIdx=16 then Expr.Call.elim e h k else false
@[elab_as_elim] theorem aI6{e k}{P:Expr→Prop}(h:wY e k=true)(f:∀x y z u,k x y z u=true→P (.Call x y z u)):P e:=by
 obtain⟨q,h⟩:=di h
 have r:=q
 revert q
 exact Expr.Call.elim e r fun x y z u _=>f x y z u
def aNz(e:Expr)(k:Const→Nat→Pos→Bool):Bool:=if h:e.ctorIdx=19 then Expr.Constant.elim e h k else false
@[elab_as_elim] theorem bCd{e k}{P:Expr→Prop}(h:aNz e k=true)(f:∀x y z,k x y z=true→P (.Constant x y z)):P e:=by
 obtain⟨q,h⟩:=di h
 have r:=q
 revert q
 exact Expr.Constant.elim e r fun x y z _=>f x y z
def aRl(e:Expr)(k:Expr→Str→Pos→Bool):Bool:=if h:e.ctorIdx=20 then Expr.Attribute.elim e h k else false
@[elab_as_elim] theorem bD7{e k}{P:Expr→Prop}(h:aRl e k=true)(f:∀x y z,k x y z=true→P (.Attribute x y z)):P e:=by
 obtain⟨q,h⟩:=di h
 have r:=q
 revert q
 exact Expr.Attribute.elim e r fun x y z _=>f x y z
def aFl(e:Expr)(k:Expr→Expr→Pos→Bool):Bool:=if h:e.ctorIdx=21 then Expr.Subscript.elim e h k else false
@[elab_as_elim] theorem aXi{e k}{P:Expr→Prop}(h:aFl e k=true)(f:∀x y z,k x y z=true→P (.Subscript x y z)):P e:=by
 obtain⟨q,h⟩:=di h
 have r:=q
 revert q
 exact Expr.Subscript.elim e r fun x y z _=>f x y z
def kR(e:Expr)(k:Str→Pos→Bool):Bool:=if h:e.ctorIdx=23 then Expr.Name.elim e h k else false
@[elab_as_elim] theorem pI{e k}{P:Expr→Prop}(h:kR e k=true)(f:∀x y,k x y=true→P (.Name x y)):P e:=by
 obtain⟨q,h⟩:=di h
 have r:=q
 revert q
 exact Expr.Name.elim e r fun x y _=>f x y
def bAj(e:Expr)(k:List Expr→Pos→Bool):Bool:=if h:e.ctorIdx=24 then Expr.List.elim e h k else false
@[elab_as_elim] theorem bFx{e k}{P:Expr→Prop}(h:bAj e k=true)(f:∀x y,k x y=true→P (.List x y)):P e:=by
 obtain⟨q,h⟩:=di h
 have r:=q
 revert q
 exact Expr.List.elim e r fun x y _=>f x y
def aRm(e:Expr)(k:List Expr→Nat→Pos→Bool):Bool:=if h:e.ctorIdx=25 then Expr.Tuple.elim e h k else false
@[elab_as_elim] theorem aUc{e k}{P:Expr→Prop}(h:aRm e k=true)(f:∀x y z,k x y z=true→P (.Tuple x y z)):P e:=by
 obtain⟨q,h⟩:=di h
 have r:=q
 revert q
 exact Expr.Tuple.elim e r fun x y z _=>f x y z
def aWk(e:Expr)(k:Option Expr→Option Expr→Option Expr→Pos→Bool):Bool:=if h:e.ctorIdx=26 then Expr.Slice.elim e h k else false
@[elab_as_elim] theorem bEw{e k}{P:Expr→Prop}(h:aWk e k=true)(f:∀x y z u,k x y z u=true→P (.Slice x y z u)):P e:=by
 obtain⟨q,h⟩:=di h
 have r:=q
 revert q
 exact Expr.Slice.elim e r fun x y z u _=>f x y z u
def onE{α:Type}(l:List α)(b:Bool):Bool:=l.isEmpty&&b
@[elab_as_elim] theorem iE{α:Type}{l b}{P:List α→Prop}(h:onE l b=true)(f:b=true→P []):P l:=by
 cases l
 .exact f h
 .cases h
def onC{α:Type}(l:List α)(k:α→List α→Bool):Bool:=match l with
 |[]=>false
 |x::r=>k x r
@[elab_as_elim] theorem iC{α:Type}{l k}{P:List α→Prop}(h:onC l k=true)(f:∀x r,k x r=true→P (x::r)):P l:=by
 cases l
 .cases h
 .exact f _ _ h
def on1{α:Type}(l:List α)(k:α→Bool):Bool:=onC l fun x r=>onE r (k x)
@[elab_as_elim] theorem i1{α:Type}{l k}{P:List α→Prop}(h:on1 l k=true)(f:∀x,k x=true→P [x]):P l:=iC h fun x r h=>iE h fun h=>f x h
def on2{α:Type}(l:List α)(k:α→α→Bool):Bool:=onC l fun x r=>on1 r (k x)
@[elab_as_elim] theorem i2{α:Type}{l k}{P:List α→Prop}(h:on2 l k=true)(f:∀x y,k x y=true→P [x,y]):P l:=iC h fun x r h=>i1 h fun y h=>f x y h
def onS{α:Type}(o:Option α)(k:α→Bool):Bool:=match o with
 |none=>false
 |some x=>k x
@[elab_as_elim] theorem iS{α:Type}{o k}{P:Option α→Prop}(h:onS o k=true)(f:∀x,k x=true→P (some x)):P o:=by
 cases o
 .cases h
 .exact f _ h
def aFk(e:Expr)(k:Str→List Expr→Bool):Bool:=wY e fun g l w _=>kR g fun x _=>onE w (k x l)
@[elab_as_elim] theorem iCN{e k}{P:Expr→Prop}(h:aFk e k=true)(f:∀x q l p,k x l=true→P (.Call (.Name x q) l [] p)):P e:=aI6 h fun g l w p h=>pI h fun x q h=>iE h fun h=>f x q l p h
def aWi(e:Expr)(k:Expr→Str→Pos→Bool):Bool:=aRl e fun o n p=>kR o fun x q=>k (.Name x q) n p
@[elab_as_elim] theorem iAN{e k}{P:Expr→Prop}(h:aWi e k=true)(f:∀x q n p,k (.Name x q) n p=true→P (.Attribute (.Name x q) n p)):P e:=bD7 h fun o n p h=>pI h fun x q h=>f x q n p h
def aT0(e:Expr):Str:=if h:e.ctorIdx=23 then Expr.Name.elim e h (fun x _=>x)else ""
def tel(e:Expr):List Expr:=if h:e.ctorIdx=25 then Expr.Tuple.elim e h (fun l _ _=>l)else[]
def bEx(t:Expr)(i:Nat):Str:=aT0 ((tel t)[i]?.getD t)
def aO0(g:Tg)(t:Expr):List (Str×Nat):=match g with
 |.one i=>[(aT0 t,i)]
 |.two i j=>[(bEx t 0,i),(bEx t 1,j)]
def aQ1(top:Bool)(N:List Str)(sc:Scope)(i:Nat)(e:Expr):Bool:=kR e fun x _=>decide (N[i]?=some x)&&aZ9 top sc x
def aXg(top:Bool)(N:List Str)(sc:Scope)(g:Tg)(t:Expr):Bool:=match g with
 |.one i=>aQ1 top N sc i t
 |.two i j=>aRm t fun l _ _=>on2 l fun a b=>aQ1 top N sc i a&&aQ1 top N sc j b&&decide (i≠j)
def aX3(e:Expr):Bool:=kR e (fun _ _=>true)||wY e fun f l _ _=>kR f fun _ _=>onC l fun _ _=>true
def aZ3(e:Expr):Bool:=aNz e fun c _ _=>decide (c=.int 2)
def aZ2(e:Expr):Bool:=aRm e fun _ _ _=>true
section
variable(nm:Nm)(bd:Nat)(N:List Str)
mutual
def chk:Scope→Tm→Expr→Bool
 |sc,.var i,e=>kR e fun x _=>decide (N[i]?=some x)&&bCm sc x&&kS x
 |_,.int z,e=>aNz e fun c _ _=>decide (c=.int z)
 |_,.bl z,e=>aNz e fun c _ _=>decide (c=.bool z)
 |_,.non,e=>aNz e fun c _ _=>decide (c=.none)
 |sc,.glo g,e=>kR e fun x _=>decide (nm.gls[g]?=some x)&&nI sc x&&kS x
 |sc,.bin o a b,e=>bAg e fun x op y _=>bC9 o op&&chk sc a x&&chk sc b y
 |sc,.cmp o a b,e=>bAh e fun x l m _=>on1 l fun op=>on1 m fun y=>bD1 o op&&chk sc a x&&chk sc b y
 |sc,.and_ a b,e=>bDr e fun o l p=>onC l fun x r=>onC r fun y m=>decide (o=.And)&&(chk sc a x&&match m with
  |[]=>chk sc b y
  |z::r=>chk sc b (.BoolOp .And (y::z::r) p))
 |sc,.or_ a b,e=>bDr e fun o l p=>onC l fun x r=>onC r fun y m=>decide (o=.Or)&&(chk sc a x&&match m with
  |[]=>chk sc b y
  |z::r=>chk sc b (.BoolOp .Or (y::z::r) p))
 |sc,.not_ a,e=>bDt e fun o x _=>decide (o=.Not)&&chk sc a x
 |sc,.neg a,e=>bDt e fun o x _=>decide (o=.USub)&&chk sc a x
 |sc,.ite c a b,e=>bEz e fun x y z _=>chk sc c x&&chk sc a y&&chk sc b z
 |sc,.idx a b,e=>aFl e fun x y _=>chk sc a x&&chk sc b y
 |sc,.slc a lo hi,e=>aFl e fun x y _=>aWk y fun l h s _=>decide (s.isNone=true)&&(chk sc a x&&bD0 sc lo l&&bD0 sc hi h)
 |sc,.fld a f,e=>aWi e fun o n _=>chk sc a o&&decide (nm.fls[f]?=some n)
 |sc,.lst l,e=>bAj e fun es _=>chks sc l es
 |sc,.tup l,e=>aRm e fun es _ _=>chks sc l es
 |sc,.call f .nil,e=>aFk e fun x l=>onE l (decide (f<bd)&&decide (nm.defs[f]?=some x)&&nI sc x&&kS x)
 |sc,.call f (.cons a r),e=>wY e fun g l w _=>onC l fun y es=>onE w (kR g (fun x _=>decide (f<bd)&&decide (nm.defs[f]?=some x)&&nI sc x&&kS x&&chk sc a y&&chks sc r es)||aFl g fun g z _=>kR g fun x _=>decide (1000≤f)&&decide (nm.tabs[f-1000]?=some x)&&nI sc x&&kS x&&chk sc a z&&chks sc r (y::es))
 |sc,.blt f l,e=>match f with
  |.lrev=>aFk e fun x m=>on1 m fun c=>aFk c fun y m=>on1 m fun z=>decide (x="list")&&decide (y="reversed")&&nI sc x&&nI sc y&&chks sc l [z]
  |.lrange=>aFk e fun x m=>on1 m fun c=>aFk c fun y m=>on2 m fun z u=>decide (x="list")&&decide (y="range")&&nI sc x&&nI sc y&&chks sc l [z,u]
  |.count=>wY e fun g m w cp=>aRl g fun o n ap=>onE w (on1 m fun y=>decide (n="count")&&aX3 o&&(ap.endLine==cp.line)&&chks sc l [o,y])
  |.step2=>aFl e fun x s _=>aWk s fun lo hi st _=>onS lo fun lo=>onS st fun st=>decide (hi.isNone=true)&&aZ3 st&&chks sc l [x,lo]
  |f=>aFk e fun x es=>decide (x=bC8 f)&&nI sc x&&chks sc l es
 |sc,.lc el tg it c,e=>bCg e fun x l s _=>on1 l fun g=>decide (g.is_async=0)&&bC7 N sc s (aO0 tg g.target)&&aXg false N (bBh s sc) tg g.target&&bCz sc it g.target g.iter&&chk (bBh s sc) el x&&bEo (bBh s sc) c g.ifs
def chks:Scope→Tms→List Expr→Bool
 |_,.nil,es=>es.isEmpty
 |sc,.cons a r,es=>onC es fun e es=>chk sc a e&&chks sc r es
def bD0:Scope→Tms→Option Expr→Bool
 |_,.nil,e=>e.isNone
 |sc,.cons a _,e=>onS e fun e=>chk sc a e
def bEo:Scope→Tms→List Expr→Bool
 |_,.nil,es=>es.isEmpty
 |sc,.cons a _,es=>on1 es fun e=>chk sc a e
def bCz:Scope→Wk→Expr→Expr→Bool
 |sc,.of a,_,e=>chk sc a e
 |sc,.range (.cons a .nil),_,e=>aFk e fun x l=>on1 l fun y=>decide (x="range")&&nI sc x&&chk sc a y
 |sc,.range (.cons a (.cons b .nil)),_,e=>aFk e fun x l=>on2 l fun y z=>decide (x="range")&&nI sc x&&chk sc a y&&chk sc b z
 |sc,.range (.cons a (.cons b (.cons c .nil))),_,e=>aFk e fun x l=>onC l fun y l=>on2 l fun z u=>decide (x="range")&&nI sc x&&chk sc a y&&chk sc b z&&chk sc c u
 |_,.range _,_,_=>false
 |sc,.enum a,t,e=>aFk e fun x l=>on1 l fun y=>decide (x="enumerate")&&nI sc x&&chk sc a y&&aZ2 t
 |sc,.zip a b,t,e=>aFk e fun x l=>on2 l fun y z=>decide (x="zip")&&nI sc x&&chk sc a y&&chk sc b z&&aZ2 t
 |sc,.rev a,_,e=>aFk e fun x l=>on1 l fun y=>decide (x="reversed")&&nI sc x&&chk sc a y
end
end
def Un'(S:Rg)(H:Hp):Rg:=fun a=>S a∨H a=none
def Keep(T:Rg)(H H':Hp):Prop:=∀a o,T a→H a=some o→H' a=some o
section
variable{K:Ad}{fl:List Str}{H H':Hp}{S S':Rg}
mutual
theorem Rep.tr:∀{d:Dat}{v:V},Rep K fl H S d v→Rep K fl H (fun a=>S a∧∃o,H a=some o) d v
 |.non,v,h=>by simpa only[Rep]using h
 |.bl b,v,h=>by simpa only[Rep]using h
 |.int i,v,h=>by simpa only[Rep]using h
 |.lst ds,v,h=>by
  simp only[Rep]at h ⊢
  obtain⟨a,vs,e,s,q,r⟩:=h
  exact⟨a,vs,e,⟨s,_,q⟩,q,Reps.tr r⟩
 |.tup ds,v,h=>by
  simp only[Rep]at h ⊢
  obtain⟨a,vs,e,q,r⟩:=h
  exact⟨a,vs,e,q.imp (fun z=>⟨⟨z.1,_,z.2⟩,z.2⟩) id,Reps.tr r⟩
 |.rcd ds,v,h=>by
  simp only[Rep]at h ⊢
  obtain⟨a,C,dx,hf,e,s,q,c,r⟩:=h
  exact⟨a,C,dx,hf,e,⟨s,_,q⟩,q,c,xO.tr r⟩
theorem Reps.tr:∀{ds:List Dat}{vs:List V},Reps K fl H S ds vs→Reps K fl H (fun a=>S a∧∃o,H a=some o) ds vs
 |[],vs,h=>by simpa only[Reps]using h
 |d::ds,vs,h=>by
  simp only[Reps]at h ⊢
  obtain⟨v,r,e,a,b⟩:=h
  exact⟨v,r,e,Rep.tr a,Reps.tr b⟩
theorem xO.tr{C:Addr}{hf:List (Str×V)}:∀{ds:List Dat}{ns:List Str},xO K fl H S C hf ds ns→xO K fl H (fun a=>S a∧∃o,H a=some o) C hf ds ns
 |[],vs,h=>by simp only[xO]
 |d::ds,ns,h=>by
  simp only[xO]at h ⊢
  obtain⟨n,r,e,a,⟨u,l,q⟩,b⟩:=h
  exact⟨n,r,e,a,⟨u,l,Rep.tr q⟩,xO.tr b⟩
end
structure Renv(K:Ad)(fl:List Str)(H:Hp)(σ:St)(r:Rho):Prop where
 len:σ.length=r.length
 val:∀(i:Nat)(d:Dat),r[i]?=some (some d)→∃v,σ[i]?=some (some v)∧Rep K fl H (fun _=>True) d v
theorem Renv.ext{σ:St}{r:Rho}(h:Renv K fl H σ r)(e:Ext H H'):Renv K fl H' σ r:=⟨h.len,fun i d q=>let ⟨v,a,b⟩:=h.val i d q;⟨v,a,b.ext e⟩⟩
def Rsrc(K:Ad)(fl:List Str)(H:Hp)(σ:St)(r:Rho)(S:Rg)(l:List Nat):Prop:=∀i∈l,∀(d:Dat)(v:V),r[i]?=some (some d)→σ[i]?=some (some v)→Rep K fl H S d v
theorem Rsrc.ext{σ:St}{r:Rho}{l:List Nat}(h:Rsrc K fl H σ r S l)(e:Ext H H'):Rsrc K fl H' σ r S l:=fun i hi d v a b=>(h i hi d v a b).ext e
theorem Rsrc.left{σ:St}{r:Rho}{l m:List Nat}(h:Rsrc K fl H σ r S (l++m)):Rsrc K fl H σ r S l:=fun i hi=>h i (He _ hi)
theorem Rsrc.right{σ:St}{r:Rho}{l m:List Nat}(h:Rsrc K fl H σ r S (l++m)):Rsrc K fl H σ r S m:=fun i hi=>h i (Cw _ hi)
theorem Rsrc.all{σ:St}{r:Rho}{l:List Nat}(h:Renv K fl H σ r):Rsrc K fl H σ r (fun _=>True) l:=fun i _ d v a b=>by
 obtain⟨w,q,z⟩:=h.val i d a
 rw[b]at q;cases q;exact z
def aXf(H:Hp)(d:Dat)(v:V):Prop:=∀ds a,d=.lst ds→v=.ref a→H a=none
end
section
variable(F:Nat→List Dat→Option Dat)(G:Nat→Option Dat)
def tEv(K:Ad)(fl:List Str)(tm:Tm):TE:=fun σ H Q=>∃(r:Rho)(S:Rg)(d:Dat),Renv K fl H σ r∧Pl.ev F G tm r=some d∧Rsrc K fl H σ r S (Pl.src tm) ∧
 ∀v H',Ext H H'→Rep K fl H' (Un' S H) d v→(Pl.tM tm=true→aXf H d v)→Q v H'
def uI(K:Ad)(fl:List Str)(tm:Tms):TA:=fun σ H Q=>∃(r:Rho)(S:Rg)(d:List Dat),Renv K fl H σ r∧Pl.evs F G tm r=some d∧Rsrc K fl H σ r S (Pl.srcs tm) ∧
 ∀v H',Ext H H'→Reps K fl H' (Un' S H) d v→Q v H'
def yI(K:Ad)(fl:List Str)(tm:Tm):TT:=fun σ H Q=>∃(r:Rho)(b:Bool),Renv K fl H σ r∧Pl.tst F G tm r=some b∧∀H',Ext H H'→Q b H'
def aP4(K:Ad)(fl:List Str)(tm:Tms):TT:=fun σ H Q=>∃(r:Rho)(b:Bool),Renv K fl H σ r∧Pl.tsts F G tm r=some b∧∀H',Ext H H'→Q b H'
structure Walk(K:Ad)(fl:List Str)(J:L2.It)(H:Hp)(U:Rg)(ds:List Dat):Prop where
 step:∀H2,Keep U H H2→∀i d,ds[i]?=some d→J.go i H2∧∀x H3,J.yld i H2 x H3→Ext H2 H3∧Rep K fl H3 (Un' U H2) d x
 stop:∀H2,Keep U H H2→J.stop ds.length H2
def aJu(K:Ad)(fl:List Str)(it:Wk):TI:=fun σ H R=>∃(r:Rho)(S:Rg)(ds:List Dat),Renv K fl H σ r∧Pl.items F G it r=some ds∧Rsrc K fl H σ r S (Pl.bBs it) ∧
 ∀J H' U,Ext H H'→(∀a,U a→Un' S H a∧∃o,H' a=some o)→Walk K fl J H' U ds→R J H'
def spM(K:Ad)(fl:List Str)(n:Nat)(m:List Dat→Option Dat):Sp:=fun vs H Q _=>∃ds d,ds.length=n∧m ds=some d∧Reps K fl H (fun _=>True) ds vs ∧
 ∀v H',Ext H H'→Rep K fl H' (fun a=>H a=none) d v→Q v H'
def bC4(nm:Nm)(P:Program)(w:World)(K:Ad)(mg:Str→Option Value)(base:Heap)(k:Nat)(x:Str)(t:Nat):Prop:=∃(a:Addr)(fs:List Addr),mg x=some (.ref a)∧aJs K a (fs.map V.ref) ∧
 ∀(z:Dat)(ds:List Dat)(d:Dat),F (1000+t) (z::ds)=some d→∃(i:Int)(j:Nat)(f:Addr)(fd:FuncData)(ps:List Str)(m:List Dat→Option Dat),z=.int i∧Pl.qE fs.length i=some j∧fs[j]?=some f∧FnOk P w K mg base CX0 k f fd ps (spM K nm.fls ps.length m)∧m ds=some d∧ds.length=ps.length∧Bl K (.ref f)=true∧Binds K fd ps []
structure Ctx(nm:Nm)(bd k:Nat)(X:Cx):Prop where
 calm:X.calm=true
 nd:X.N.Nodup
 room:Room k X.A
 defs:∀g x,g<bd→nm.defs[g]?=some x→(∃ds d,F g ds=some d)→∃f fd ps,FnOk X.prog X.w X.K X.mg X.base CX0 k f fd ps (spM X.K nm.fls ps.length (F g))∧X.mg x=some (.ref f)∧Bl X.K (.ref f)=true∧Binds X.K fd ps []∧∀ds d,F g ds=some d→ds.length=ps.length
 gls:∀g x d,nm.gls[g]?=some x→G g=some d→∃u v,X.mg x=some u∧gX v u∧Rep X.K nm.fls (fun _=>none) (fun _=>False) d v
 blt:∀x∈(["len","sum","max","min","abs","all","any","list","sorted","range","enumerate","zip","reversed"]:List Str),X.mg x=none
 tabs:∀t x,nm.tabs[t]?=some x→bC4 F nm X.prog X.w X.K X.mg X.base k x t
end
theorem PE.imp{X:Cx}{e:Expr}{t t':TE}(h:PE X e t)(f:∀σ H Q,t' σ H Q→t σ H Q):PE X e t':=fun pins s σ H Q I q=>h pins s σ H Q I (f σ H Q q)
theorem PT.imp{X:Cx}{e:Expr}{t t':TT}(h:PT X e t)(f:∀σ H Q,t' σ H Q→t σ H Q):PT X e t':=fun pins s σ H Q I q=>h pins s σ H Q I (f σ H Q q)
theorem PA.imp{X:Cx}{e:List Expr}{t t':TA}(h:PA X e t)(f:∀σ H Q,t' σ H Q→t σ H Q):PA X e t':=fun pos pins s σ H Q I q=>h pos pins s σ H Q I (f σ H Q q)
theorem PI.imp{X:Cx}{g e:Expr}{t t':TI}(h:PI X g e t)(f:∀σ H Q,t' σ H Q→t σ H Q):PI X g e t':=fun pins s σ H Q I q=>h pins s σ H Q I (f σ H Q q)
theorem PI.or{X:Cx}{g e:Expr}{t t':TI}(h:PI X g e t)(h':PI X g e t'):PI X g e (fun σ H Q=>t σ H Q∨t' σ H Q):=fun pins s σ H Q I q=>q.elim (h pins s σ H Q I) (h' pins s σ H Q I)
theorem PE.false{X:Cx}{e:Expr}{t:TE}(f:∀σ H Q,¬t σ H Q):PE X e t:=fun pins s σ H Q I q=>(f σ H Q q).elim
theorem aTh{sc:Scope}{x:Str}(h:bCm sc x=true):Vis sc x:=by
 unfold bCm at h
 unfold Vis
 split at h<;>first|(rename_i e;simp[e])|cases h
theorem eY{X:Cx}{x:Str}(h:nI X.env.scope x=true):Gl X x:=by
 unfold nI at h
 show X.env.scope.names.lookup x=_
 split at h<;>first|assumption|cases h
theorem gS{x:Str}(h:kS x=true):(x==("__debug__":Str))=false∧(x==("__classdict__":Str))=false:=by
 unfold kS at h
 simpa using h
theorem bE{e:Expr}{es:List Expr}{env:Gq}(h:bV e=true):starEach (e::es) env=(false,eval e env)::starEach es env:=by
 cases e<;>first|rfl|cases h
theorem aQe{e:Expr}(h:bV e=true):aJz e:=by
 intro o i
 cases e<;>first|rfl|cases h
theorem aOs{e:Expr}{env:Gq}(h:bV e=true):∀x,foldedSetIterable e env x=pure x:=by
 intro x
 cases e<;>first|rfl|cases h
theorem aMo{e:Expr}(op:CmpOp)(h:bV e=true):behindInMarks op e=false:=by
 cases e<;>first|rfl|cases h
section
variable{F:Nat→List Dat→Option Dat}{G:Nat→Option Dat}{K:Ad}{fl:List Str}
theorem aHr{S:Rg}{H H1:Hp}(e:Ext H H1):∀a,Un' S H1 a→Un' S H a:=fun a h=>h.imp id fun z=>e.none z
theorem two{a b:Tm}{σ:St}{H:Hp}{r:Rho}{S:Rg}{x y:Dat}{R:V→V→Hp→Prop}(hR:Renv K fl H σ r)(hx:Pl.ev F G a r=some x)(hy:Pl.ev F G b r=some y)(hs:Rsrc K fl H σ r S (Pl.src a++Pl.src b))
  (k:∀v w H2,Ext H H2→Rep K fl H2 (Un' S H) x v→Rep K fl H2 (Un' S H) y w→R v w H2):tEv F G K fl a σ H fun v H1=>tEv F G K fl b σ H1 fun w H2=>R v w H2:=
 ⟨r,S,x,hR,hx,hs.left,fun v H1 e1 r1 _=>⟨r,S,y,hR.ext e1,hy,hs.right.ext e1,fun w H2 e2 r2 _=>k v w H2 (e1.trans e2) (r1.ext e2) (r2.wide (aHr e1))⟩⟩
theorem one{a:Tm}{σ:St}{H:Hp}{r:Rho}{x:Dat}{R:V→Hp→Prop}(hR:Renv K fl H σ r)(hx:Pl.ev F G a r=some x)
  (k:∀v H1,Ext H H1→Rep K fl H1 (fun _=>True) x v→R v H1):tEv F G K fl a σ H R:=
 ⟨r,fun _=>True,x,hR,hx,Rsrc.all hR,fun v H1 e1 r1 _=>k v H1 e1 (r1.wide fun _ _=>trivial)⟩
theorem both{a b:Tm}{σ:St}{H:Hp}{r:Rho}{x y:Dat}{R:V→V→Hp→Prop}(hR:Renv K fl H σ r)(hx:Pl.ev F G a r=some x)(hy:Pl.ev F G b r=some y)
  (k:∀v w H2,Ext H H2→Rep K fl H2 (fun _=>True) x v→Rep K fl H2 (fun _=>True) y w→R v w H2):tEv F G K fl a σ H fun v H1=>tEv F G K fl b σ H1 fun w H2=>R v w H2:=
 two hR hx hy (Rsrc.all hR) fun v w H2 e r1 r2=>k v w H2 e (r1.wide fun _ _=>trivial) (r2.wide fun _ _=>trivial)
theorem Rep.toInt{H:Hp}{S:Rg}{i:Int}{v:V}(h:Rep K fl H S (.int i) v):v=.int i:=by simpa only[Rep]using h
theorem Rep.toBl{H:Hp}{S:Rg}{i:Bool}{v:V}(h:Rep K fl H S (.bl i) v):v=.bl i:=by simpa only[Rep]using h
theorem Rep.toLst{H:Hp}{S:Rg}{ds:List Dat}{v:V}(h:Rep K fl H S (.lst ds) v):∃a vs,v=.ref a∧S a∧H a=some (.lst vs)∧Reps K fl H S ds vs:=by simpa only[Rep]using h
theorem Rep.toTup{H:Hp}{S:Rg}{ds:List Dat}{v:V}(h:Rep K fl H S (.tup ds) v):∃a vs,v=.ref a∧((S a∧H a=some (.tup vs))∨aJs K a vs)∧Reps K fl H S ds vs:=by simpa only[Rep]using h
theorem Rep.int{H:Hp}{S:Rg}{i:Int}:Rep K fl H S (.int i) (.int i):=by simp only[Rep]
theorem Rep.bl{H:Hp}{S:Rg}{i:Bool}:Rep K fl H S (.bl i) (.bl i):=by simp only[Rep]
theorem Rep.lst{H:Hp}{S:Rg}{ds:List Dat}{a:Addr}{vs:List V}(s:S a)(h:H a=some (.lst vs))(r:Reps K fl H S ds vs):Rep K fl H S (.lst ds) (.ref a):=by
 simp only[Rep];exact⟨a,vs,rfl,s,h,r⟩
theorem Rep.tup{H:Hp}{S:Rg}{ds:List Dat}{a:Addr}{vs:List V}(s:S a)(h:H a=some (.tup vs))(r:Reps K fl H S ds vs):Rep K fl H S (.tup ds) (.ref a):=by
 simp only[Rep];exact⟨a,vs,rfl,.inl ⟨s,h⟩,r⟩
theorem xH{H:Hp}{S:Rg}{a:Addr}{vs:List V}(h:(S a∧H a=some (.tup vs))∨aJs K a vs):SqT K H a vs:=h.elim (fun z=>SqT.of z.2) fun z=>.inr z
theorem jA{H:Hp}{i:Int}{v:V}:aXf H (.int i) v:=fun _ _ e=>nomatch e
theorem aBc{H:Hp}{i:Bool}{v:V}:aXf H (.bl i) v:=fun _ _ e=>nomatch e
theorem yW{H H2:Hp}{S:Rg}{ds:List Dat}{vs:List V}{p:Addr}(e:Ext H H2)(hp:H2 p=none)(r:Reps K fl H2 (Un' S H) ds vs) :
  Ext H (upd H2 p (.lst vs))∧Rep K fl (upd H2 p (.lst vs)) (Un' S H) (.lst ds) (.ref p)∧aXf H (.lst ds) (.ref p):=
 ⟨e.trans (Ext.new hp),Rep.lst (.inr (e.none hp)) bG (r.ext (Ext.new hp)),fun _ a _ q=>by cases q;exact e.none hp⟩
variable{X:Cx}{x y z:Expr}{pos:Pos}{a b:Tm}
theorem aXd{tm:Tm}{e:Expr}(h:PE X e (tEv F G X.K fl tm))(he:∀whole,isTrue e X.env whole=(do let v ←whole;standAt e.pos;holding [v] (truthy v))):PT X e (yI F G X.K fl tm):=by
 refine PT.imp (aRw h he) fun σ H Q q=>?_
 obtain⟨r,k,hR,ht,hq⟩:=q
 obtain⟨d,hd,ht⟩:=Aa.mp ht
 refine one hR hd fun v H1 e1 r1=>?_
 cases d with
 |bl c=>cases ht;cases r1.toBl;exact⟨_,rfl,hq _ e1⟩
 |int i=>
  cases ht;cases r1.toInt
  refine⟨_,rfl,?_⟩
  have e2:(i != 0)=decide (i≠0):=by by_cases q:i=0<;>simp[q]
  rw[e2]
  exact hq _ e1
 |lst ds=>
  cases ht
  obtain⟨p,vs,rfl,_,hp,rs⟩:=r1.toLst
  refine⟨!vs.isEmpty,.inl ⟨vs,SqL.of hp,rfl⟩,?_⟩
  have e2:vs.isEmpty=ds.isEmpty:=by
   have l:=rs.length
   cases ds<;>cases vs<;>simp at l ⊢
  rw[e2]
  exact hq _ e1
 |_=>cases ht
theorem bFk{o:Bop}{op:Operator}(ho:bC9 o op=true)(ea:PE X x (tEv F G X.K fl a))(eb:PE X y (tEv F G X.K fl b)):PE X (.BinOp x op y pos) (tEv F G X.K fl (.bin o a b)):=by
 have key:∀{r:R2},OpR X (binaryOp op) r→(∀(S:Rg)(dx dy d:Dat)(H H2:Hp)(v w:V)(Q:VK),Pl.bop o dx dy=some d→Ext H H2→Rep X.K fl H2 (Un' S H) dx v→Rep X.K fl H2 (Un' S H) dy w→
   (∀u H',Ext H H'→Rep X.K fl H' (Un' S H) d u→aXf H d u→Q u H')→r v w H2 Q)→PE X (.BinOp x op y pos) (tEv F G X.K fl (.bin o a b)):=by
  intro r hr hk
  refine PE.imp (aRr hr ea eb) fun σ H Q q=>?_
  obtain⟨r,S,d,hR,he,hs,hq⟩:=q
  obtain⟨dx,hx,he⟩:=Aa.mp he
  obtain⟨dy,hy,he⟩:=Aa.mp he
  exact two hR hx hy hs fun v w H2 e r1 r2=>hk S dx dy d H H2 v w Q he e r1 r2 fun u H' e' r' n'=>hq u H' e' r' fun _=>n'
 cases o<;>cases op<;>first|(exfalso;cases ho;done)|skip
 .refine key (aH7.or bAn) fun S dx dy d H H2 v w Q he e r1 r2 hq=>?_
  cases dx<;>cases dy<;>first|(exfalso;cases he;done)|skip
  .cases he;cases r1.toInt;cases r2.toInt
   exact .inl ⟨_,_,rfl,rfl,hq _ _ e Rep.int jA⟩
  .rename_i l m
   obtain⟨p,vs,rfl,_,hp,rs⟩:=r1.toLst
   obtain⟨p',vs',rfl,_,hp',rs'⟩:=r2.toLst
   simp only[Pl.bop]at he
   split at he
   .rename_i hl
    cases he
    refine .inr ⟨p,p',vs,vs',rfl,rfl,hp,hp',?_,fun n hn=>?_⟩
    .rw[←rs.length,←rs'.length,sizeLine_eq];exact hl
    .obtain⟨n1,n2,n3⟩:=yW e hn (rs.app rs')
     exact hq _ _ n1 n2 n3
   .cases he
 .refine key bAs fun S dx dy d H H2 v w Q he e r1 r2 hq=>?_
  obtain⟨_,_,rfl,rfl,he⟩:=Pl.aH5 he
  cases he;cases r1.toInt;cases r2.toInt
  exact⟨_,_,rfl,rfl,hq _ _ e Rep.int jA⟩
 .refine key bAr fun S dx dy d H H2 v w Q he e r1 r2 hq=>?_
  obtain⟨_,_,rfl,rfl,hf⟩:=Pl.aH5 he
  split at hf
  .rename_i hm
   cases hf;cases r1.toInt;cases r2.toInt
   exact⟨_,_,rfl,rfl,by have h2:=dqt hm;unfold aXe;omega,hq _ _ e Rep.int jA⟩
  .cases hf
 .refine key aWl fun S dx dy d H H2 v w Q he e r1 r2 hq=>?_
  obtain⟨_,_,rfl,rfl,hf⟩:=Pl.aH5 he
  split at hf
  .rename_i hm
   cases hf;cases r1.toInt;cases r2.toInt
   exact⟨_,_,rfl,rfl,by have h2:=dqt hm;exact h2,hq _ _ e Rep.int jA⟩
  .cases hf
 .refine key bAq fun S dx dy d H H2 v w Q he e r1 r2 hq=>?_
  obtain⟨_,_,rfl,rfl,hf⟩:=Pl.aH5 he
  split at hf
  .rename_i hm
   cases hf;cases r1.toInt;cases r2.toInt
   exact⟨_,_,rfl,rfl,hm,hq _ _ e Rep.int jA⟩
  .cases hf
def bCp(K:Ad)(fl:List Str)(o:Cop)(r:R2):Prop:=∀(dx dy:Dat)(k:Bool)(H:Hp)(v w:V)(Q:VK),Pl.cop o dx dy=some k→Rep K fl H (fun _=>True) dx v→Rep K fl H (fun _=>True) dy w→Q (.bl k) H→r v w H Q
theorem aGq(i:Int):∀ns:List Int,inV (.int i) (ns.map V.int)=decide (i∈ns)
 |[]=>rfl
 |n::ns=>by
  have ih:=aGq i ns
  unfold inV at ih ⊢
  simp only[Ai,Hh,ih]
  have e:eqV (V.int n) (V.int i)=decide (n=i):=by
   show(n==i)=_
   exact Bool.beq_eq_decide_eq n i
  rw[e]
  by_cases h:n=i
  .simp[h]
  .have h2:¬i=n:=fun z=>h z.symm
   simp[h,h2]
theorem aLq(ns:List Int):(ns.map V.int).all aAe=true:=by
 induction ns with
 |nil=>rfl
 |cons n ns ih=>simp only[Ai,Bz,ih,Ko];rfl
theorem bFn{o:Cop}{op:CmpOp}(ho:bD1 o op=true):∃r,OpR X (compareOp op) r∧bCp X.K fl o r:=by
 cases o<;>cases op<;>first|(exfalso;cases ho;done)|skip
 .refine⟨_,bDu,fun dx dy k H v w Q he r1 r2 q=>?_⟩
  obtain⟨_,_,rfl,rfl,rfl⟩:=Pl.yV he;cases r1.toInt;cases r2.toInt
  refine⟨rfl,?_⟩
  rename_i i j
  have e:decide (V.int i=V.int j)=decide (i=j):=by simp
  rw[e];exact q
 .refine⟨_,bDy,fun dx dy k H v w Q he r1 r2 q=>?_⟩
  obtain⟨_,_,rfl,rfl,rfl⟩:=Pl.yV he;cases r1.toInt;cases r2.toInt
  refine⟨rfl,?_⟩
  rename_i i j
  have e:decide (V.int i=V.int j)=decide (i=j):=by simp
  rw[e];exact q
 .refine⟨_,bAp,fun dx dy k H v w Q he r1 r2 q=>?_⟩
  obtain⟨_,_,rfl,rfl,rfl⟩:=Pl.yV he;cases r1.toInt;cases r2.toInt
  exact⟨_,_,rfl,rfl,q⟩
 .refine⟨_,bDx,fun dx dy k H v w Q he r1 r2 q=>?_⟩
  obtain⟨_,_,rfl,rfl,rfl⟩:=Pl.yV he;cases r1.toInt;cases r2.toInt
  exact⟨_,_,rfl,rfl,q⟩
 .refine⟨_,bDw,fun dx dy k H v w Q he r1 r2 q=>?_⟩
  obtain⟨_,_,rfl,rfl,rfl⟩:=Pl.yV he;cases r1.toInt;cases r2.toInt
  exact⟨_,_,rfl,rfl,q⟩
 .refine⟨_,bDv,fun dx dy k H v w Q he r1 r2 q=>?_⟩
  obtain⟨_,_,rfl,rfl,rfl⟩:=Pl.yV he;cases r1.toInt;cases r2.toInt
  exact⟨_,_,rfl,rfl,q⟩
 .refine⟨_,bAo,fun dx dy k H v w Q he r1 r2 q=>?_⟩
  have hy:dy=.non:=by cases dx<;>cases dy<;>first|rfl|cases he
  subst hy
  have hw:w=.non:=by simpa only[Rep]using r2
  subst hw
  refine⟨rfl,?_⟩
  have e:decide (v=V.non)=k:=by
   cases dx<;>simp only[Rep]at r1<;>first
    |(subst r1;cases he;rfl)
    |(obtain⟨_,_,rfl,_⟩:=r1;cases he;rfl)
    |(obtain⟨_,_,_,_,rfl,_⟩:=r1;cases he;rfl)
  rw[e];exact q
 .refine⟨_,aD6,fun dx dy k H v w Q he r1 r2 q=>?_⟩
  cases dx<;>cases dy<;>first|(exfalso;cases he;done)|skip
  obtain⟨ns,hn,rfl⟩:=Ae.mp he
  cases r1.toInt
  obtain⟨p,vs,rfl,_,hp,rs⟩:=r2.toLst
  have ev:=rs.intz hn
  subst ev
  refine⟨p,_,rfl,.inl (SqL.of hp),rfl,aLq ns,?_⟩
  rw[aGq]
  exact q
end
section
variable{F:Nat→List Dat→Option Dat}{G:Nat→Option Dat}{K:Ad}{fl:List Str}{X:Cx}{x y z:Expr}{pos:Pos}{a b c:Tm}
theorem aZ1{e:Expr}{env:Gq}(h:aT6 e=true) :
  ∀whole,isTrue e env whole=(do let v ←whole;standAt e.pos;holding [v] (truthy v)):=by
 intro whole
 cases e<;>first|rfl|(cases h;done)|skip
 rename_i op _ _
 cases op<;>first|rfl|cases h
theorem bFm{o:Cop}{op:CmpOp}(ho:bD1 o op=true)(py:bV y=true)(ea:PE X x (tEv F G X.K fl a))(eb:PE X y (tEv F G X.K fl b)) :
  PE X (.Compare x [op] [y] pos) (tEv F G X.K fl (.cmp o a b))∧PT X (.Compare x [op] [y] pos) (yI F G X.K fl (.cmp o a b)):=by
 obtain⟨r,hr,hk⟩:=bFn (X:=X) (fl:=fl) ho
 refine⟨PE.imp (aWp hr ea eb (aMo op py)) fun σ H Q q=>?_,PT.imp (aOf hr ea eb (aMo op py)) fun σ H Q q=>?_⟩
 .obtain⟨r,S,d,hR,he,hs,hq⟩:=q
  obtain⟨dx,hx,he⟩:=Aa.mp he
  obtain⟨dy,hy,he⟩:=Aa.mp he
  obtain⟨k,hc,rfl⟩:=Ae.mp he
  exact both hR hx hy fun v w H2 e r1 r2=>hk dx dy k H2 v w Q hc r1 r2 (hq _ _ e Rep.bl fun _=>aBc)
 .obtain⟨r,k,hR,he,hq⟩:=q
  obtain⟨d,he,ht⟩:=Aa.mp he
  obtain⟨dx,hx,he⟩:=Aa.mp he
  obtain⟨dy,hy,he⟩:=Aa.mp he
  obtain⟨k',hc,rfl⟩:=Ae.mp he
  cases ht
  exact both hR hx hy fun v w H2 e r1 r2=>hk dx dy k H2 v w _ hc r1 r2 ⟨k,rfl,hq _ e⟩
theorem bGo(ea:PE X x (tEv F G X.K fl a))(ta:PT X x (yI F G X.K fl a)):PE X (.UnaryOp .Not x pos) (tEv F G X.K fl (.not_ a))∧PT X (.UnaryOp .Not x pos) (yI F G X.K fl (.not_ a)):=by
 refine⟨PE.imp (bAw ea) fun σ H Q q=>?_,PT.imp (bBa ta) fun σ H Q q=>?_⟩
 .obtain⟨r,S,d,hR,he,hs,hq⟩:=q
  obtain⟨dx,hx,he⟩:=Aa.mp he
  cases dx<;>first|(exfalso;cases he;done)|skip
  cases he
  exact one hR hx fun v H2 e r1=>by cases r1.toBl;exact⟨_,rfl,hq _ _ e Rep.bl fun _=>aBc⟩
 .obtain⟨r,k,hR,he,hq⟩:=q
  obtain⟨d,he,ht⟩:=Aa.mp he
  obtain⟨dx,hx,he⟩:=Aa.mp he
  cases dx<;>first|(exfalso;cases he;done)|skip
  rename_i k'
  cases he;cases ht
  exact⟨r,k',hR,by simp only[Pl.tst,hx,Af];rfl,fun H2 e=>hq _ e⟩
theorem bGn(ea:PE X x (tEv F G X.K fl a)):PE X (.UnaryOp .USub x pos) (tEv F G X.K fl (.neg a)):=by
 refine PE.imp (bE2 bBy ea) fun σ H Q q=>?_
 obtain⟨r,S,d,hR,he,hs,hq⟩:=q
 obtain⟨dx,hx,he⟩:=Aa.mp he
 cases dx<;>first|(exfalso;cases he;done)|skip
 cases he
 exact one hR hx fun v H2 e r1=>by cases r1.toInt;exact⟨_,rfl,hq _ _ e Rep.int fun _=>jA⟩
theorem bEm{rest:List Expr}(ea:PE X x (tEv F G X.K fl a))(ta:PT X x (yI F G X.K fl a))(eb:PE X (.BoolOp .And (y::rest) pos) (tEv F G X.K fl b))(tb:PW X (.BoolOp .And (y::rest) pos) (yI F G X.K fl b)) :
  PE X (.BoolOp .And (x::y::rest) pos) (tEv F G X.K fl (.and_ a b))∧PT X (.BoolOp .And (x::y::rest) pos) (yI F G X.K fl (.and_ a b)):=by
 refine⟨PE.imp (bAt ea eb) fun σ H Q q=>?_,PT.imp (bBb ta tb).pt fun σ H Q q=>?_⟩
 .obtain⟨r,S,d,hR,he,hs,hq⟩:=q
  obtain⟨dx,hx,he⟩:=Aa.mp he
  cases dx<;>first|(exfalso;cases he;done)|skip
  rename_i k
  refine one hR hx fun v H2 e r1=>?_
  cases r1.toBl
  refine⟨k,rfl,?_⟩
  cases k with
  |false=>cases he;exact hq _ _ e Rep.bl fun _=>aBc
  |true=>
   obtain⟨dy,hy,he⟩:=Aa.mp he
   cases dy<;>first|(exfalso;cases he;done)|skip
   cases he
   exact one (hR.ext e) hy fun w H3 e3 r3=>by cases r3.toBl;exact hq _ _ (e.trans e3) Rep.bl fun _=>aBc
 .obtain⟨r,k,hR,he,hq⟩:=q
  obtain⟨d,he,ht⟩:=Aa.mp he
  obtain⟨dx,hx,he⟩:=Aa.mp he
  cases dx<;>first|(exfalso;cases he;done)|skip
  rename_i k'
  refine⟨r,k',hR,by simp only[Pl.tst,hx,Af];rfl,fun H2 e=>?_⟩
  cases k' with
  |false=>cases he;cases ht;exact hq _ e
  |true=>
   obtain⟨dy,hy,he⟩:=Aa.mp he
   cases dy<;>first|(exfalso;cases he;done)|skip
   cases he;cases ht
   exact⟨r,k,hR.ext e,by simp only[Pl.tst,hy,Af];rfl,fun H3 e3=>hq _ (e.trans e3)⟩
theorem orE{rest:List Expr}(ea:PE X x (tEv F G X.K fl a))(ta:PT X x (yI F G X.K fl a))(eb:PE X (.BoolOp .Or (y::rest) pos) (tEv F G X.K fl b))(tb:PW X (.BoolOp .Or (y::rest) pos) (yI F G X.K fl b)) :
  PE X (.BoolOp .Or (x::y::rest) pos) (tEv F G X.K fl (.or_ a b))∧PT X (.BoolOp .Or (x::y::rest) pos) (yI F G X.K fl (.or_ a b)):=by
 refine⟨PE.imp (bE1 ea eb) fun σ H Q q=>?_,PT.imp (bE4 ta tb).pt fun σ H Q q=>?_⟩
 .obtain⟨r,S,d,hR,he,hs,hq⟩:=q
  obtain⟨dx,hx,he⟩:=Aa.mp he
  cases dx<;>first|(exfalso;cases he;done)|skip
  rename_i k
  refine one hR hx fun v H2 e r1=>?_
  cases r1.toBl
  refine⟨k,rfl,?_⟩
  cases k with
  |true=>cases he;exact hq _ _ e Rep.bl fun _=>aBc
  |false=>
   obtain⟨dy,hy,he⟩:=Aa.mp he
   cases dy<;>first|(exfalso;cases he;done)|skip
   cases he
   exact one (hR.ext e) hy fun w H3 e3 r3=>by cases r3.toBl;exact hq _ _ (e.trans e3) Rep.bl fun _=>aBc
 .obtain⟨r,k,hR,he,hq⟩:=q
  obtain⟨d,he,ht⟩:=Aa.mp he
  obtain⟨dx,hx,he⟩:=Aa.mp he
  cases dx<;>first|(exfalso;cases he;done)|skip
  rename_i k'
  refine⟨r,k',hR,by simp only[Pl.tst,hx,Af];rfl,fun H2 e=>?_⟩
  cases k' with
  |true=>cases he;cases ht;exact hq _ e
  |false=>
   obtain⟨dy,hy,he⟩:=Aa.mp he
   cases dy<;>first|(exfalso;cases he;done)|skip
   cases he;cases ht
   exact⟨r,k,hR.ext e,by simp only[Pl.tst,hy,Af];rfl,fun H3 e3=>hq _ (e.trans e3)⟩
theorem bG4(tc:PT X z (yI F G X.K fl c))(ea:PE X x (tEv F G X.K fl a))(eb:PE X y (tEv F G X.K fl b)):PE X (.IfExp z x y pos) (tEv F G X.K fl (.ite c a b)):=by
 refine PE.imp (aRp tc ea eb) fun σ H Q q=>?_
 obtain⟨r,S,d,hR,he,hs,hq⟩:=q
 obtain⟨dc,hc,he⟩:=Aa.mp he
 obtain⟨k,hk,he⟩:=Aa.mp he
 refine⟨r,k,hR,by simp only[Pl.tst,hc,Af,hk],fun H1 e1=>?_⟩
 cases k with
 |true=>
  simp only[if_true]at he ⊢
  exact⟨r,S,d,hR.ext e1,he,hs.left.ext e1,fun v H2 e2 r2 _=>hq v H2 (e1.trans e2) (r2.wide (aHr e1)) fun n=>nomatch n⟩
 |false=>
  simp only[Do,if_false]at he ⊢
  exact⟨r,S,d,hR.ext e1,he,hs.right.ext e1,fun v H2 e2 r2 _=>hq v H2 (e1.trans e2) (r2.wide (aHr e1)) fun n=>nomatch n⟩
theorem aGt(n:Nat)(i:Int):Pl.qE n i=ixN n i:=rfl
theorem aSk{H:Hp}{S:Rg}{ds:List Dat}{vs:List V}{i:Int}{d:Dat}(r:Reps K fl H S ds vs)(h:Pl.at_ ds i=some d):∃v,atI vs i=some v∧Rep K fl H S d v:=by
 obtain⟨j,hj,hd⟩:=Aa.mp h
 obtain⟨v,hv,rv⟩:=r.get hd
 refine⟨v,?_,rv⟩
 unfold atI
 rw[←r.length,←aGt,hj]
 exact hv
theorem bG2(py:bV y=true)(ea:PE X x (tEv F G X.K fl a))(eb:PE X y (tEv F G X.K fl b)):PE X (.Subscript x y pos) (tEv F G X.K fl (.idx a b)):=by
 refine PE.imp (aFn (aEq.or aCm) ea eb (aQe py)) fun σ H Q q=>?_
 obtain⟨r,S,d,hR,he,hs,hq⟩:=q
 obtain⟨dx,hx,he⟩:=Aa.mp he
 obtain⟨dy,hy,he⟩:=Aa.mp he
 refine⟨r,S,dx,hR,hx,hs,fun v H1 e1 r1 _=>one (hR.ext e1) hy fun w H2 e2 r2=>?_⟩
 have r1:=r1.ext e2
 cases dx<;>cases dy<;>first|(exfalso;cases he;done)|skip
 .cases r2.toInt
  obtain⟨p,vs,rfl,_,hp,rs⟩:=r1.toLst
  obtain⟨u,hu,ru⟩:=aSk rs he
  exact .inl ⟨p,vs,_,u,rfl,rfl,SqL.of hp,hu,hq _ _ (e1.trans e2) ru fun n=>nomatch n⟩
 .cases r2.toInt
  obtain⟨p,vs,rfl,hp,rs⟩:=r1.toTup
  obtain⟨u,hu,ru⟩:=aSk rs he
  exact .inr ⟨p,vs,_,u,rfl,rfl,xH hp,hu,hq _ _ (e1.trans e2) ru fun n=>nomatch n⟩
theorem bFq{n:Str}{f:Nat}{w:Str}{p:Pos}(hn:fl[f]?=some n)(ea:PE X (.Name w p) (tEv F G X.K fl a)):PE X (.Attribute (.Name w p) n pos) (tEv F G X.K fl (.fld a f)):=by
 refine PE.imp (aH9 ea rfl) fun σ H Q q=>?_
 obtain⟨r,S,d,hR,he,hs,hq⟩:=q
 obtain⟨dx,hx,he⟩:=Aa.mp he
 cases dx<;>first|(exfalso;cases he;done)|skip
 refine⟨r,S,_,hR,hx,hs,fun v H1 e1 r1 _=>?_⟩
 simp only[Rep]at r1
 obtain⟨p,C,dx,hf,rfl,_,hp,cl,rf⟩:=r1
 obtain⟨n',u,hn',na,lu,ru⟩:=rf.get he
 rw[hn]at hn';cases hn'
 exact⟨p,C,dx,hf,u,rfl,hp,cl,na,lu,hq _ _ e1 ru fun n=>nomatch n⟩
theorem bHf{i:Nat}{w:Str}(hN:X.N[i]?=some w)(hv:bCm X.env.scope w=true)(hp:kS w=true):PE X (.Name w pos) (tEv F G X.K fl (.var i)):=by
 refine PE.imp (aO5 hN (aTh hv) (gS hp).1 (gS hp).2) fun σ H Q q=>?_
 obtain⟨r,S,d,hR,he,hs,hq⟩:=q
 have he:r[i]?=some (some d):=by
  have he:(r[i]?).bind id=some d:=he
  cases q:r[i]? with
  |none=>rw[q]at he;cases he
  |some o=>rw[q]at he;exact congrArg some he
 obtain⟨v,hv,rv⟩:=hR.val i d he
 exact⟨v,hv,hq v H Ext.refl ((hs i (by simp[Pl.src]) d v he hv).wide fun _=>.inl) fun n=>nomatch n⟩
theorem jH{es:List Expr}{l:Tms}(px:bV x=true)(ea:PE X x (tEv F G X.K fl a))(el:PA X es (uI F G X.K fl l)):PA X (x::es) (uI F G X.K fl (.cons a l)):=by
 refine PA.imp (lF ea el (bE px)) fun σ H Q q=>?_
 obtain⟨r,S,d,hR,he,hs,hq⟩:=q
 obtain⟨dx,hx,he⟩:=Aa.mp he
 obtain⟨ds,hd,rfl⟩:=Ae.mp he
 refine⟨r,S,dx,hR,hx,hs.left,fun v H1 e1 r1 _=>⟨r,S,ds,hR.ext e1,hd,hs.right.ext e1,fun vs H2 e2 r2=>hq _ _ (e1.trans e2) ?_⟩⟩
 simp only[Reps]
 exact⟨v,vs,rfl,r1.ext e2,r2.wide (aHr e1)⟩
theorem tL:PA X [] (uI F G X.K fl .nil):=PA.imp tG fun σ H Q q=>by
 obtain⟨r,S,d,hR,he,hs,hq⟩:=q
 cases he
 exact hq [] H Ext.refl (by simp only[Reps])
theorem bGi{es:List Expr}{l:Tms}(el:PA X es (uI F G X.K fl l)):PE X (.List es pos) (tEv F G X.K fl (.lst l)):=by
 refine PE.imp (aO4 el) fun σ H Q q=>?_
 obtain⟨r,S,d,hR,he,hs,hq⟩:=q
 obtain⟨ds,hd,he⟩:=Aa.mp he
 split at he
 .rename_i hl
  cases he
  refine⟨r,S,ds,hR,hd,hs,fun vs H1 e1 r1=>⟨by rw[←r1.length,sizeLine_eq];exact hl,fun p hp=>?_⟩⟩
  obtain⟨n1,n2,n3⟩:=yW e1 hp r1
  exact hq _ _ n1 n2 fun _=>n3
 .cases he
theorem bHe{es:List Expr}{l:Tms}{kk:Nat}(el:PA X es (uI F G X.K fl l)):PE X (.Tuple es kk pos) (tEv F G X.K fl (.tup l)):=by
 refine PE.imp (bAx el) fun σ H Q q=>?_
 obtain⟨r,S,d,hR,he,hs,hq⟩:=q
 obtain⟨ds,hd,he⟩:=Aa.mp he
 split at he
 .rename_i hl
  cases he
  refine⟨r,S,ds,hR,hd,hs,fun vs H1 e1 r1=>⟨by rw[←r1.length,sizeLine_eq];exact hl,fun p hp=>?_⟩⟩
  exact hq _ _ (e1.trans (Ext.new hp)) (Rep.tup (.inr (e1.none hp)) bG (r1.ext (Ext.new hp))) fun n=>nomatch n
 .cases he
end
section
variable{F:Nat→List Dat→Option Dat}{G:Nat→Option Dat}{K:Ad}{fl:List Str}{X:Cx}{x y z:Expr}{pos p:Pos}{a b c:Tm}{nm:Nm}{bd k:Nat}
def bBv(F:Nat→List Dat→Option Dat)(G:Nat→Option Dat)(K:Ad)(fl:List Str)(l:Tms):TO:=fun σ H Q=>∃(r:Rho)(ds:List Dat)(o:Option Int),Renv K fl H σ r∧Pl.evs F G l r=some ds∧Pl.part ds=some o∧∀H',Ext H H'→Q o H'
theorem PO.imp{e:Option Expr}{t t':TO}(h:PO X e t)(f:∀σ H Q,t' σ H Q→t σ H Q):PO X e t':=fun pins s σ H Q I q=>h pins s σ H Q I (f σ H Q q)
theorem bB2:PO X none (bBv F G X.K fl .nil):=PO.imp aWw fun σ H Q q=>by
 obtain⟨r,ds,o,hR,he,hp,hq⟩:=q
 cases he;cases hp
 exact hq H Ext.refl
theorem bB3{l:Tms}(ea:PE X x (tEv F G X.K fl a)):PO X (some x) (bBv F G X.K fl (.cons a l)):=PO.imp (aFp ea) fun σ H Q q=>by
 obtain⟨r,ds,o,hR,he,hp,hq⟩:=q
 obtain⟨dx,hx,he⟩:=Aa.mp he
 obtain⟨es,hd,rfl⟩:=Ae.mp he
 refine one hR hx fun v H1 e1 r1=>?_
 cases es with
 |cons _ _=>exfalso;cases dx<;>cases hp
 |nil=>
  cases dx<;>first|(exfalso;cases hp;done)|skip
  cases hp
  cases r1.toInt
  exact⟨_,rfl,hq _ e1⟩
theorem aYc{H:Hp}{S:Rg}{ds:List Dat}{vs:List V}(r:Reps K fl H S ds vs)(lo hi:Option Int):Reps K fl H S (Pl.cut ds lo hi) (aLd vs lo hi):=by
 have e:∀(n d:Nat)(o:Option Int),Pl.sIx n d o=HT.sIx n d o:=fun n d o=>by cases o<;>rfl
 unfold Pl.cut aLd
 rw[e,e,r.length]
 exact(r.drop _).take _
theorem bH3{lo hi:Tms}{l h:Option Expr}{p2:Pos}(ea:PE X x (tEv F G X.K fl a))(el:PO X l (bBv F G X.K fl lo))(eh:PO X h (bBv F G X.K fl hi)):PE X (.Subscript x (.Slice l h none p2) pos) (tEv F G X.K fl (.slc a lo hi)):=by
 refine PE.imp (aHa aOt ea el eh) fun σ H Q q=>?_
 obtain⟨r,S,d,hR,he,hs,hq⟩:=q
 obtain⟨dx,hx,he⟩:=Aa.mp he
 obtain⟨ls,hl,he⟩:=Aa.mp he
 obtain⟨hs',hh,he⟩:=Aa.mp he
 obtain⟨l',pl,he⟩:=Aa.mp he
 obtain⟨h',ph,he⟩:=Aa.mp he
 cases dx<;>first|(exfalso;cases he;done)|skip
 cases he
 refine⟨r,S,_,hR,hx,hs,fun v H1 e1 r1 _=>⟨r,ls,l',hR.ext e1,hl,pl,fun H2 e2=>⟨r,hs',h',(hR.ext e1).ext e2,hh,ph,fun H3 e3=>?_⟩⟩⟩
 obtain⟨p,vs,rfl,_,hp,rs⟩:=(r1.ext (e2.trans e3)).toLst
 refine⟨p,vs,rfl,SqL.of hp,fun n hn=>?_⟩
 obtain⟨n1,n2,n3⟩:=yW ((e1.trans e2).trans e3) hn (aYc rs l' h')
 exact hq _ _ n1 n2 fun _=>n3
theorem bFr{g:Nat}{w:Str}(C:Ctx F G nm bd k X)(hN:nm.gls[g]?=some w)(hg:nI X.env.scope w=true)(hp:kS w=true):PE X (.Name w pos) (tEv F G X.K nm.fls (.glo g)):=by
 cases hG:G g with
 |none=>exact PE.false fun σ H Q q=>by obtain⟨r,S,d,hR,he,_⟩:=q;have he:G g=some d:=he;rw[hG]at he;cases he
 |some d=>
  obtain⟨u,v,hm,ru,rv⟩:=C.gls g w d hN hG
  refine PE.imp (xB (eY hg) hm ru (gS hp).1) fun σ H Q q=>?_
  obtain⟨r,S,d',hR,he,hs,hq⟩:=q
  have he:G g=some d':=he
  rw[hG]at he
  cases he
  exact hq v H Ext.refl (rv.mono (fun _ _ z=>z.elim) fun _ z=>z.elim) fun n=>nomatch n
theorem backs(pos:Pos){env:Gq}:∀{es:List Expr},es.all bV=true→(backTo pos (starEach es env)).any (·.1)=false
 |[],_=>rfl
 |e::es,h=>by
  simp only[Bz,Ac]at h
  rw[bE h.1]
  show(false||(backTo pos (starEach es env)).any (·.1))=false
  rw[backs pos h.2];rfl
theorem aY4{f:Nat}{l:Tms}{w:Str}{es:List Expr}(C:Ctx F G nm bd k X)(hb:f<bd)(hN:nm.defs[f]?=some w)(hg:nI X.env.scope w=true)(hp:kS w=true)(hes:es.all bV=true)(hl:es=[]→l=.nil)(el:PA X es (uI F G X.K nm.fls l)) :
  PE X (.Call (.Name w p) es [] pos) (tEv F G X.K nm.fls (.call f l)):=by
 by_cases hex:∃ds d,F f ds=some d
 case neg=>
  exact PE.false fun σ H Q q=>by
   obtain⟨r,S,d,hR,he,hs,hq⟩:=q
   obtain⟨ds,hd,he⟩:=Aa.mp he
   exact hex ⟨ds,d,he⟩
 obtain⟨fa,fd,ps,ok,hm,hk,bi,ar⟩:=C.defs f w hb hN hex
 have go:∀(σ:St)(H:Hp)(Q:VK),tEv F G X.K nm.fls (.call f l) σ H Q→aP2 (spM X.K nm.fls ps.length (F f)) [] E0 (uI F G X.K nm.fls l) σ H Q:=fun σ H Q q=>by
  obtain⟨r,S,d,hR,he,hs,hq⟩:=q
  obtain⟨ds,hd,he⟩:=Aa.mp he
  have hs2:Rsrc X.K nm.fls H σ r (fun _=>True) (Pl.srcs l):=Rsrc.all hR
  refine⟨r,fun _=>True,ds,hR,hd,hs2,fun vs H1 e1 r1=>?_⟩
  show spM X.K nm.fls ps.length (F f) (vs++[]) H1 Q E0
  rw[Co]
  refine⟨ds,d,ar ds d he,he,r1.wide fun _ _=>trivial,fun v H2 e2 r2=>hq v H2 (e1.trans e2) (r2.wide fun a h=>.inr (e1.none h)) fun _ es a e3 e4=>?_⟩
  subst e3 e4
  obtain⟨a',vs',e5,sa,_⟩:=r2.toLst
  cases e5
  exact e1.none sa
 cases es with
 |nil=>
  have e0:∀(σ:St)(H:Hp)(Q:VK),tEv F G X.K nm.fls (.call f l) σ H Q→aP2 (spM X.K nm.fls ps.length (F f)) [] E0 bCl σ H Q:=fun σ H Q q=>by
   obtain⟨r,S,d,hR,he,hs,hq⟩:=q
   obtain⟨ds,hd,he⟩:=Aa.mp he
   cases hl rfl
   cases hd
   exact⟨[],d,ar _ d he,he,by simp only[Reps];rfl,fun v H2 e2 r2=>hq v H2 e2 (r2.wide fun a h=>.inr h) fun _ es a e3 e4=>by
    subst e3 e4
    obtain⟨a',vs',e5,sa,_⟩:=r2.toLst
    cases e5
    exact sa⟩
  exact PE.imp (aRo ok C.room (eY hg) hm hk bi .nil aJ9 (gS hp).1) e0
 |cons e es=>
  simp only[Bz,Ac]at hes
  exact PE.imp (aFm ok C.room (eY hg) hm hk bi .nil aJ9 el (gS hp).1 (bE hes.1) (backs pos hes.2)) go
theorem aBi{X:Cx}{a b e:Expr}{es:List Expr}{p pos:Pos}{tf:TE}{t:TA}(hf:PE X (.Subscript a b p) tf)(ha:PA X (e::es) t)(he:bV e=true)(hes:es.all bV=true) :
  PE X (.Call (.Subscript a b p) (e::es) [] pos) (fun σ H Q=>tf σ H fun v H1=>∃f fd ps sp k,v=.ref f∧FnOk X.prog X.w X.K X.mg X.base CX0 k f fd ps sp∧Room k X.A∧Bl X.K (.ref f)=true∧Binds X.K fd ps []∧t σ H1 fun vs H2=>sp vs H2 Q E0):=by
 intro pins s σ H Q I h
 refine Call_ (thn (hf pins s σ H _ I h) fun u s1 ⟨v,H1,I1,r1,q⟩=>?_)
 obtain⟨f,fd,ps,sp,k,rfl,ok,room,kp,bi,q⟩:=q
 cases r1
 refine Kn (h₀:=X.base) I1.ok.mod.kin kp (thn (ha pos pins s1 σ H1 _ I1 q) fun us s2 ⟨vs,H2,I2,r2,q2⟩=>⟨I2.kIn,?_⟩) (bE he) (backs pos hes)
 exact aOq ok room bi .nil aJ9 I2 r2 (by rw[Co];exact q2)
theorem bBw{f:Nat}{l:Tms}{w:Str}{v:Expr}{es:List Expr}{p2:Pos}(C:Ctx F G nm bd k X)(hb:1000≤f)(hN:nm.tabs[f-1000]?=some w)(hg:nI X.env.scope w=true)(hp:kS w=true)(py:bV y=true)(pv:bV v=true)(hes:es.all bV=true)
  (ea:PE X y (tEv F G X.K nm.fls a)) (el:PA X (v::es) (uI F G X.K nm.fls l)):PE X (.Call (.Subscript (.Name w p) y p2) (v::es) [] pos) (tEv F G X.K nm.fls (.call f (.cons a l))):=by
 obtain⟨t,rfl⟩:∃t,f=1000+t:=⟨f-1000,by omega⟩
 rw[C4]at hN
 obtain⟨ta,fs,hm,hK,ht⟩:=C.tabs t w hN
 refine PE.imp (aBi (aFn aCm (xB (v:=.ref ta) (eY hg) hm rfl (gS hp).1) ea (aQe py)) el pv hes) fun σ H Q q=>?_
 obtain⟨r,S,d,hR,he,hs,hq⟩:=q
 obtain⟨ds0,hd0,he⟩:=Aa.mp he
 obtain⟨z,hz,hd1⟩:=Aa.mp hd0
 obtain⟨ds,hd,rfl⟩:=Ae.mp hd1
 obtain⟨i,j,fa,fd,ps,m,rfl,hi,hf,ok,hmd,ar,kp,bi⟩:=ht z ds d he
 refine one hR hz fun u H1 e1 r1=>?_
 cases r1.toInt
 have hR1:=hR.ext e1
 refine⟨ta,_,_,.ref fa,rfl,rfl,.inr hK,?_,fa,fd,ps,_,k,rfl,ok,C.room,kp,bi,r,fun _=>True,ds,hR1,hd,Rsrc.all hR1,fun vs H2 e2 r2=>?_⟩
 .unfold atI
  have e3:ixN (fs.map V.ref).length i=some j:=by rw[Ag];exact hi
  rw[e3]
  simp[hf]
 .refine⟨ds,d,ar,hmd,r2.wide fun _ _=>trivial,fun u H3 e3 r3=>hq u H3 ((e1.trans e2).trans e3) (r3.wide fun b n=>.inr ((e1.trans e2).none n)) fun _ es b e4 e5=>?_⟩
  subst e4 e5
  obtain⟨b',vs',e6,sb,_⟩:=r3.toLst
  cases e6
  exact(e1.trans e2).none sb
theorem aL3:bootBuiltins "sum"=some (.builtin "sum"):=by decide +kernel
theorem aL1:bootBuiltins "max"=some (.builtin "max"):=by decide +kernel
theorem aL2:bootBuiltins "min"=some (.builtin "min"):=by decide +kernel
theorem aKx:bootBuiltins "abs"=some (.builtin "abs"):=by decide +kernel
theorem aKy:bootBuiltins "all"=some (.builtin "all"):=by decide +kernel
theorem aKz:bootBuiltins "any"=some (.builtin "any"):=by decide +kernel
theorem aL0:bootBuiltins "len"=some (.builtin "len"):=by decide +kernel
def aC0(K:Ad)(fl:List Str)(f:Blt)(r:List V→Hp→VK→Prop):Prop:=∀(S:Rg)(ds:List Dat)(d:Dat)(H H1:Hp)(vs:List V)(Q:VK),Pl.blt f ds=some d→Ext H H1→Reps K fl H1 (Un' S H) ds vs→
 (∀u H',Ext H H'→Rep K fl H' (Un' S H) d u→aXf H d u→Q u H')→r vs H1 Q
theorem aG5{f:Blt}{ds:List Dat}{d:Dat}(hf:f≠.lrev∧f≠.lrange∧f≠.step2)(h:Pl.blt f ds=some d):flat d=true:=by
 unfold Pl.blt at h
 split at h
 .split at h<;>first|(cases h;rfl)|cases h
 .split at h
  .obtain⟨_,_,rfl⟩:=Ae.mp h;rfl
  .cases h
 .split at h
  .obtain⟨_,_,h⟩:=Aa.mp h
   obtain⟨_,_,rfl⟩:=Ae.mp h;rfl
  .cases h;rfl
  .cases h
 .split at h
  .obtain⟨_,_,h⟩:=Aa.mp h
   obtain⟨_,_,rfl⟩:=Ae.mp h;rfl
  .cases h;rfl
  .cases h
 .split at h
  .cases h;rfl
  .cases h
 .split at h
  .obtain⟨_,_,rfl⟩:=Ae.mp h;rfl
  .cases h
 .split at h
  .obtain⟨_,_,rfl⟩:=Ae.mp h;rfl
  .cases h
 .exact absurd rfl hf.1
 .exact absurd rfl hf.2.1
 .split at h
  .obtain⟨_,_,rfl⟩:=Ae.mp h;rfl
  .obtain⟨_,_,rfl⟩:=Ae.mp h;rfl
  .cases h
 .exact absurd rfl hf.2.2
theorem vH{f:Blt}{l:Tms}{r:List V→Hp→VK→Prop}(h:aC0 K fl f r)(h2:f≠.step2:=by intro q;cases q):∀(σ:St)(H:Hp)(Q:VK),tEv F G K fl (.blt f l) σ H Q→tCB r (uI F G K fl l) σ H Q:=fun σ H Q q=>by
 obtain⟨r,S,d,hR,he,hs,hq⟩:=q
 obtain⟨ds,hd,he⟩:=Aa.mp he
 by_cases hf:f=.lrev∨f=.lrange
 .have hs':Rsrc K fl H σ r S (Pl.srcs l):=by rcases hf with rfl|rfl<;>exact hs
  exact⟨r,S,ds,hR,hd,hs',fun vs H1 e1 r1=>h S ds d H H1 vs Q he e1 r1 fun u H' e' r' n'=>hq u H' e' r' fun _=>n'⟩
 .have hs':Rsrc K fl H σ r (fun _=>True) (Pl.srcs l):=Rsrc.all hR
  exact⟨r,fun _=>True,ds,hR,hd,hs',fun vs H1 e1 r1=>h _ ds d H H1 vs Q he e1 r1 fun u H' e' r' n'=>hq u H' e' (r'.flat (aG5 ⟨fun z=>hf (.inl z),fun z=>hf (.inr z),h2⟩ he)) fun _=>n'⟩
theorem nS{H:Hp}{S:Rg}{d:Dat}{vs:List V}(r:Reps K fl H S [d] vs):∃v,vs=[v]∧Rep K fl H S d v:=by
 simp only[Reps]at r
 obtain⟨v,t,e,r,rfl⟩:=r
 exact⟨v,e,r⟩
theorem aBl{H:Hp}{S:Rg}{d d':Dat}{vs:List V}(r:Reps K fl H S [d,d'] vs):∃v w,vs=[v,w]∧Rep K fl H S d v∧Rep K fl H S d' w:=by
 simp only[Reps]at r
 obtain⟨v,t,e,r,w,t',e',r',rfl⟩:=r
 subst e'
 exact⟨v,w,e,r,r'⟩
theorem bE6{H:Hp}{S:Rg}{d d' d'':Dat}{vs:List V}(r:Reps K fl H S [d,d',d''] vs):∃v w u,vs=[v,w,u]∧Rep K fl H S d v∧Rep K fl H S d' w∧Rep K fl H S d'' u:=by
 simp only[Reps]at r
 obtain⟨v,t,e,r,w,t',e',r',u,t'',e'',r'',rfl⟩:=r
 subst e'';subst e'
 exact⟨v,w,u,e,r,r',r''⟩
theorem pZ:∀(l:List Int)(a m:Int),m∈a::l→(∀y,y∈a::l→y≤m)→l.foldl max a=m
 |[],a,m,h,_=>by simp at h;exact h.symm
 |b::l,a,m,h,g=>by
  show l.foldl max (max a b)=m
  refine pZ l (max a b) m ?_ fun y hy=>?_
  .have ha:=g a (by simp)
   have hb:=g b (by simp)
   simp only[A1]at h ⊢
   rcases h with h|h|h
   .left;omega
   .left;omega
   .exact .inr h
  .simp only[A1]at hy
   rcases hy with h|h
   .have ha:=g a (by simp)
    have hb:=g b (by simp)
    omega
   .exact g y (by simp[h])
theorem qA:∀(l:List Int)(a m:Int),m∈a::l→(∀y,y∈a::l→m≤y)→l.foldl min a=m
 |[],a,m,h,_=>by simp at h;exact h.symm
 |b::l,a,m,h,g=>by
  show l.foldl min (min a b)=m
  refine qA l (min a b) m ?_ fun y hy=>?_
  .have ha:=g a (by simp)
   have hb:=g b (by simp)
   simp only[A1]at h ⊢
   rcases h with h|h|h
   .left;omega
   .left;omega
   .exact .inr h
  .simp only[A1]at hy
   rcases hy with h|h
   .have ha:=g a (by simp)
    have hb:=g b (by simp)
    omega
   .exact g y (by simp[h])
theorem bA9:aC0 X.K fl .len (fun xs H Q=>∃p ys,xs=[.ref p]∧(SqL X.K H p ys∨SqT X.K H p ys)∧Q (.int ys.length) H):=fun S ds d H H1 vs Q he e r q=>by
 simp only[Pl.blt]at he
 split at he
 .cases he
  obtain⟨v,rfl,rv⟩:=nS r
  obtain⟨p,ws,rfl,_,hp,rs⟩:=rv.toLst
  exact⟨p,ws,rfl,.inl (SqL.of hp),by rw[←rs.length];exact q _ _ e Rep.int jA⟩
 .cases he
  obtain⟨v,rfl,rv⟩:=nS r
  obtain⟨p,ws,rfl,hp,rs⟩:=rv.toTup
  exact⟨p,ws,rfl,.inr (xH hp),by rw[←rs.length];exact q _ _ e Rep.int jA⟩
 .cases he
theorem bAd:aC0 X.K fl .sum (bF5 X.K):=fun S ds d H H1 vs Q he e r q=>by
 simp only[Pl.blt]at he
 split at he
 .obtain⟨v,rfl,rv⟩:=nS r
  obtain⟨ns,hn,rfl⟩:=Ae.mp he
  obtain⟨p,ws,rfl,_,hp,rs⟩:=rv.toLst
  cases rs.intz hn
  exact⟨p,ns,rfl,SqL.of hp,q _ _ e Rep.int jA⟩
 .cases he
theorem bAa:aC0 X.K fl .max (fun xs H Q=>bF2 X.K xs H Q∨(fun xs H Q=>∃i j,xs=[V.int i,.int j]∧Q (.int (if j>i then j else i)) H) xs H Q):=fun S ds d H H1 vs Q he e r q=>by
 simp only[Pl.blt]at he
 split at he
 .obtain⟨v,rfl,rv⟩:=nS r
  obtain⟨ns,hn,he⟩:=Aa.mp he
  obtain⟨m,hm,rfl⟩:=Ae.mp he
  obtain⟨p,ws,rfl,_,hp,rs⟩:=rv.toLst
  cases rs.intz hn
  cases ns with
  |nil=>cases hm
  |cons n ns=>
   cases hm
   refine .inl ⟨p,_,rfl,SqL.of hp,by simp,fun m h1 h2=>?_⟩
   rw[←pZ ns n m h1 h2]
   exact q _ _ e Rep.int jA
 .cases he
  obtain⟨v,w,rfl,r1,r2⟩:=aBl r
  cases r1.toInt;cases r2.toInt
  exact .inr ⟨_,_,rfl,q _ _ e Rep.int jA⟩
 .cases he
theorem bAb:aC0 X.K fl .min (fun xs H Q=>bF3 X.K xs H Q∨(fun xs H Q=>∃i j,xs=[V.int i,.int j]∧Q (.int (if j<i then j else i)) H) xs H Q):=fun S ds d H H1 vs Q he e r q=>by
 simp only[Pl.blt]at he
 split at he
 .obtain⟨v,rfl,rv⟩:=nS r
  obtain⟨ns,hn,he⟩:=Aa.mp he
  obtain⟨m,hm,rfl⟩:=Ae.mp he
  obtain⟨p,ws,rfl,_,hp,rs⟩:=rv.toLst
  cases rs.intz hn
  cases ns with
  |nil=>cases hm
  |cons n ns=>
   cases hm
   refine .inl ⟨p,_,rfl,SqL.of hp,by simp,fun m h1 h2=>?_⟩
   rw[←qA ns n m h1 h2]
   exact q _ _ e Rep.int jA
 .cases he
  obtain⟨v,w,rfl,r1,r2⟩:=aBl r
  cases r1.toInt;cases r2.toInt
  exact .inr ⟨_,_,rfl,q _ _ e Rep.int jA⟩
 .cases he
theorem bA5:aC0 X.K fl .abs (fun xs H Q=>∃i,xs=[V.int i]∧Q (.int (if i<0 then -i else i)) H):=fun S ds d H H1 vs Q he e r q=>by
 simp only[Pl.blt]at he
 split at he
 .cases he
  obtain⟨v,rfl,rv⟩:=nS r
  cases rv.toInt
  exact⟨_,rfl,q _ _ e Rep.int jA⟩
 .cases he
theorem bA6:aC0 X.K fl .all (bF0 X.K):=fun S ds d H H1 vs Q he e r q=>by
 simp only[Pl.blt]at he
 split at he
 .obtain⟨v,rfl,rv⟩:=nS r
  obtain⟨ns,hn,rfl⟩:=Ae.mp he
  obtain⟨p,ws,rfl,_,hp,rs⟩:=rv.toLst
  cases rs.bls hn
  exact⟨p,ns,rfl,SqL.of hp,q _ _ e Rep.bl aBc⟩
 .cases he
theorem bA8:aC0 X.K fl .any (bF1 X.K):=fun S ds d H H1 vs Q he e r q=>by
 simp only[Pl.blt]at he
 split at he
 .obtain⟨v,rfl,rv⟩:=nS r
  obtain⟨ns,hn,rfl⟩:=Ae.mp he
  obtain⟨p,ws,rfl,_,hp,rs⟩:=rv.toLst
  cases rs.bls hn
  exact⟨p,ns,rfl,SqL.of hp,q _ _ e Rep.bl aBc⟩
 .cases he
theorem bFl{f:Blt}{l:Tms}{es:List Expr}{e:Expr}(C:Ctx F G nm bd k X)(hf:f≠.lrev∧f≠.lrange∧f≠.count∧f≠.step2)(hg:nI X.env.scope (bC8 f)=true)(he:bV e=true)(hes:es.all bV=true)(el:PA X (e::es) (uI F G X.K nm.fls l)) :
  PE X (.Call (.Name (bC8 f) p) (e::es) [] pos) (tEv F G X.K nm.fls (.blt f l)):=by
 have hb:∀w,w∈(["len","sum","max","min","abs","all","any","list","sorted","range","enumerate","zip","reversed"]:List Str)→X.mg w=none:=C.blt
 cases f with
 |len=>exact PE.imp (jU nD (eY hg) (hb _ (by decide +kernel)) aL0 el (by decide +kernel) (by decide +kernel) (bE he) (backs pos hes)) (vH bA9)
 |sum=>exact PE.imp (jU (aYb C.calm) (eY hg) (hb _ (by decide +kernel)) aL3 el (by decide +kernel) (by decide +kernel) (bE he) (backs pos hes)) (vH bAd)
 |max=>exact PE.imp (jU ((aY9 C.calm).or (aL6 C.calm)) (eY hg) (hb _ (by decide +kernel)) aL1 el (by decide +kernel) (by decide +kernel) (bE he) (backs pos hes)) (vH bAa)
 |min=>exact PE.imp (jU ((aYa C.calm).or (aL7 C.calm)) (eY hg) (hb _ (by decide +kernel)) aL2 el (by decide +kernel) (by decide +kernel) (bE he) (backs pos hes)) (vH bAb)
 |abs=>exact PE.imp (jU aPz (eY hg) (hb _ (by decide +kernel)) aKx el (by decide +kernel) (by decide +kernel) (bE he) (backs pos hes)) (vH bA5)
 |all=>exact PE.imp (jU (aY7 C.calm) (eY hg) (hb _ (by decide +kernel)) aKy el (by decide +kernel) (by decide +kernel) (bE he) (backs pos hes)) (vH bA6)
 |any=>exact PE.imp (jU (aY8 C.calm) (eY hg) (hb _ (by decide +kernel)) aKz el (by decide +kernel) (by decide +kernel) (bE he) (backs pos hes)) (vH bA8)
 |lrev=>exact absurd rfl hf.1
 |lrange=>exact absurd rfl hf.2.1
 |count=>exact absurd rfl hf.2.2.1
 |step2=>exact absurd rfl hf.2.2.2
theorem bDg{l:Tms}{p2 pos2:Pos}(C:Ctx F G nm bd k X)(hg:nI X.env.scope "list"=true)(hg2:nI X.env.scope "reversed"=true)(pz:bV z=true)(el:PA X [z] (uI F G X.K nm.fls l)) :
  PE X (.Call (.Name "list" p) [.Call (.Name "reversed" p2) [z] [] pos2] [] pos) (tEv F G X.K nm.fls (.blt .lrev l)):=by
 refine PE.imp (aWq C.calm (eY hg) (C.blt _ (by decide +kernel)) (eY hg2) (C.blt _ (by decide +kernel)) el (bE pz)) fun σ H Q q=>?_
 obtain⟨r,S,d,hR,he,hs,hq⟩:=q
 obtain⟨ds,hd,he⟩:=Aa.mp he
 simp only[Pl.blt]at he
 split at he
 .cases he
  refine⟨r,S,_,hR,hd,hs,fun vs H1 e1 r1=>?_⟩
  obtain⟨v,rfl,rv⟩:=nS r1
  obtain⟨a,ws,rfl,_,hp,rs⟩:=rv.toLst
  refine⟨a,ws,rfl,hp,fun n hn=>?_⟩
  obtain⟨n1,n2,n3⟩:=yW e1 hn rs.reverse
  exact hq _ _ n1 n2 fun _=>n3
 .cases he
theorem aJd{H:Hp}{S:Rg}(i:Int)(n:Nat):Reps K fl H S (Pl.upTo i n) ((Ab n).map fun(k:Nat)=>V.int (i+(k:Int))):=by
 unfold Pl.upTo
 generalize Ab n=L
 induction L with
 |nil=>simp[Reps]
 |cons k L ih=>simp only[Ai,Reps];exact⟨_,_,rfl,Rep.int,ih⟩
theorem aLo{a b:Tm}{r:Rho}{ds:List Dat}(h:Pl.evs F G (.cons a (.cons b .nil)) r=some ds):∃da db,Pl.ev F G a r=some da∧Pl.ev F G b r=some db∧ds=[da,db]:=by
 have e:Pl.evs F G (.cons a (.cons b .nil)) r=(Pl.ev F G a r).bind fun x=>((Pl.ev F G b r).bind fun y=>some [y]).map (x::·):=Aq rfl rfl
 rw[e]at h
 obtain⟨da,ha,h⟩:=Aa.mp h
 obtain⟨t,ht,rfl⟩:=Ae.mp h
 obtain⟨db,hb,h⟩:=Aa.mp ht
 cases h
 exact⟨da,db,ha,hb,rfl⟩
theorem aOn{i:Int}(h:Pl.aJf i=true):-(2^62)≤i∧i<2^62:=by
 have:=dqt h
 omega
theorem aUl{e1 e2:Expr}{p2 pos2:Pos}(C:Ctx F G nm bd k X)(hg:nI X.env.scope "list"=true)(hg2:nI X.env.scope "range"=true)(p1:bV e1=true)(pz:bV e2=true)(el:PA X [e1,e2] (uI F G X.K nm.fls (.cons a (.cons b .nil)))) :
  PE X (.Call (.Name "list" p) [.Call (.Name "range" p2) [e1,e2] [] pos2] [] pos) (tEv F G X.K nm.fls (.blt .lrange (.cons a (.cons b .nil)))):=by
 have hs2:starEach [e2] X.env=[(false,eval e2 X.env)]:=bE pz
 refine PE.imp (aO3 C.calm (eY hg) (C.blt _ (by decide +kernel)) (eY hg2) (C.blt _ (by decide +kernel)) el (by rw[bE p1,hs2]) hs2) fun σ H Q q=>?_
 obtain⟨r,S,d,hR,he,hs,hq⟩:=q
 obtain⟨ds,hd,he⟩:=Aa.mp he
 obtain⟨da,db,hda,hdb,hds⟩:=aLo hd
 simp only[Pl.blt]at he
 obtain⟨rs,hrs,he⟩:=Aa.mp he
 split at he
 case isFalse=>cases he
 rename_i hz
 cases he
 refine⟨r,S,ds,hR,hd,hs,fun vs H1 e1 r1=>?_⟩
 subst hds
 obtain⟨v,w,rfl,rv,rw'⟩:=aBl r1
 cases da<;>cases db<;>first|(exfalso;cases hrs;done)|skip
 rename_i i j
 have hrs:(if Pl.aJf i&&Pl.aJf j then some (Pl.upTo i (j-i).toNat)else none)=some rs:=hrs
 split at hrs
 case isFalse=>cases hrs
 rename_i hok
 cases hrs
 simp only[Ac]at hok
 cases rv.toInt;cases rw'.toInt
 have h1:=aOn hok.1
 have h2:=aOn hok.2
 refine⟨i,j,rfl,⟨h1.1,h1.2,h2.1,h2.2⟩,?_,fun n hn=>?_⟩
 .have:(Pl.upTo i (j-i).toNat).length=(j-i).toNat:=by unfold Pl.upTo;simp
  rw[this]at hz;exact hz
 .obtain⟨n1,n2,n3⟩:=yW e1 hn (aJd (K:=X.K) (fl:=nm.fls) i (j-i).toNat)
  exact hq _ _ n1 n2 fun _=>n3
theorem aX4{o:Expr}{name:Str}{env:Gq}{w:Sem Value}(h:aX3 o=true):attributeBase o name env w=w:=by
 rcases Bool.or_eq_true_iff.mp h with h|h
 .refine pI h fun _ _ _=>?_
  rfl
 .refine aI6 h fun f l _ _ h=>?_
  refine pI h fun _ _ h=>?_
  refine iC h fun _ _ _=>?_
  rfl
theorem aHh{H:Hp}{S:Rg}:∀{ds:List Dat}{vs:List V}{zs:List (Int×Int)},Reps K fl H S ds vs→Pl.prs ds=some zs→aC2 K H vs zs
 |[],vs,zs,r,h=>by simp only[Reps]at r;subst r;cases h;trivial
 |d::ds,vs,zs,r,h=>by
  simp only[Reps]at r
  obtain⟨v,t,rfl,rv,rt⟩:=r
  unfold Pl.prs at h
  split at h
  .rename_i e;cases e
  .rename_i i j rr e
   cases e
   obtain⟨m,hm,rfl⟩:=Ae.mp h
   obtain⟨b,us,rfl,hb,rus⟩:=rv.toTup
   obtain⟨u,w,rfl,ru,rw'⟩:=aBl rus
   cases ru.toInt;cases rw'.toInt
   exact⟨⟨b,rfl,xH hb⟩,aHh rt hm⟩
  .cases h
theorem aY6{o:Expr}{ap cp:Pos}(C:Ctx F G nm bd k X)(hr:aX3 o=true)(hl:(ap.endLine==cp.line)=true)(py:bV y=true)(ea:PE X o (tEv F G X.K nm.fls a))(eb:PE X y (tEv F G X.K nm.fls b)) :
  PE X (.Call (.Attribute o "count" ap) [y] [] cp) (tEv F G X.K nm.fls (.blt .count (.cons a (.cons b .nil)))):=by
 refine PE.imp (aJa C5 Ja PySem.F.type_list_count (aMq.or (aMr C.room.units)) ea (jH py eb tL) (aX4 hr) (by rw[bE py];rfl) hl (bE py) rfl) fun σ H Q q=>?_
 obtain⟨r,S,d,hR,he,hs,hq⟩:=q
 obtain⟨ds,hd,he⟩:=Aa.mp he
 obtain⟨da,db,ha,hb,rfl⟩:=aLo hd
 have hfl:flat d=true:=aG5 ⟨(by intro q;cases q),(by intro q;cases q),(by intro q;cases q)⟩ he
 simp only[Pl.blt]at he
 refine one hR ha fun v H1 e1 r1=>?_
 have hes:Pl.evs F G (.cons b .nil) r=some [db]:=by
  rw[show Pl.evs F G (.cons b .nil) r=(Pl.ev F G b r).bind fun x=>some [x]from Aq rfl rfl,hb];rfl
 have key:∀l:List Dat,da=.lst l→tyV X.K "list" v H1:=by
  rintro l rfl
  obtain⟨p,vs,rfl,_,hp,_⟩:=r1.toLst
  exact .inl ⟨rfl,vs,SqL.of hp⟩
 split at he
 .rename_i l i e
  cases e
  obtain⟨ns,hns,rfl⟩:=Ae.mp he
  refine⟨key l rfl,r,fun _=>True,[.int i],hR.ext e1,hes,Rsrc.all (hR.ext e1),fun us H2 e2 r2=>?_⟩
  obtain⟨p,vs,rfl,_,hp,rs⟩:=r1.toLst
  obtain⟨w,rfl,rw'⟩:=nS r2
  cases rw'.toInt
  have ev:=rs.intz hns
  subst ev
  exact .inl ⟨p,ns,i,rfl,rfl,SqL.of (e2 _ _ hp),hq _ _ (e1.trans e2) Rep.int fun _=>jA⟩
 .rename_i l i j e
  cases e
  obtain⟨zs,hzs,rfl⟩:=Ae.mp he
  refine⟨key l rfl,r,fun _=>True,[.tup [.int i,.int j]],hR.ext e1,hes,Rsrc.all (hR.ext e1),fun us H2 e2 r2=>?_⟩
  have r1:=r1.ext e2
  obtain⟨p,vs,rfl,_,hp,rs⟩:=r1.toLst
  obtain⟨w,rfl,rw'⟩:=nS r2
  obtain⟨c,cs,rfl,hc,rcs⟩:=rw'.toTup
  obtain⟨u1,u2,rfl,ru1,ru2⟩:=aBl rcs
  cases ru1.toInt;cases ru2.toInt
  exact .inr ⟨p,c,vs,zs,i,j,rfl,rfl,SqL.of hp,aHh rs hzs,xH hc,hq _ _ (e1.trans e2) Rep.int fun _=>jA⟩
 .cases he
theorem aD9(ns:List Int):∀(c s:Nat),(ns.length-s+1)/2=c→s≤ns.length→((Ab c).map fun(k:Nat)=>s+2*k).filterMap (ns[·]?)=Pl.evry (ns.drop s)
 |0,s,h,hs=>by
  have:ns.length=s:=by omega
  rw[Dy (by omega)];rfl
 |c+1,s,h,hs=>by
  have h0:s<ns.length:=by omega
  have er:((Ab (c+1)).map fun(k:Nat)=>s+2*k)=s::((Ab c).map fun(k:Nat)=>s+2+2*k):=by
   rw[Av,Ai,Aj]
   congr 1
   exact Ax fun x _=>by show s+2*(x+1)=_;omega
  rw[er,Dd,Bf h0,Eo h0]
  by_cases h1:s+1<ns.length
  .have ih:=aD9 ns c (s+2) (by omega) (by omega)
   rw[Eo h1]
   show _::_=_::Pl.evry (ns.drop (s+1+1))
   rw[ih]
  .have hc:c=0:=by omega
   subst hc
   rw[Dy (show ns.length≤s+1 by omega)];rfl
theorem aRt(ns:List Int)(i:Nat):aJb (ns.map V.int) i=(Pl.evry (ns.drop i)).map V.int:=by
 unfold aJb
 have e1:sliceRange ((min i (ns.map V.int).length:Nat):Int) ((ns.map V.int).length:Nat) 2=(Ab ((ns.length-min i ns.length+1)/2)).map fun(k:Nat)=>min i ns.length+2*k:=by
  rw[Ag]
  unfold sliceRange
  simp only[show(2:Int)>0 by decide,if_true]
  have ec:(if((min i ns.length:Nat):Int)<(ns.length:Int)then((ns.length:Int)-((min i ns.length:Nat):Int)+2-1)/2 else 0).toNat=(ns.length-min i ns.length+1)/2:=by
   split<;>omega
  rw[ec]
  exact Ax fun k _=>by omega
 rw[e1]
 have e2:=aD9 ns _ (min i ns.length) rfl (by omega)
 have e3:ns.drop (min i ns.length)=ns.drop i:=by
  by_cases h:i≤ns.length
  .rw[Gm h]
  .rw[Hb (by omega),Dy (An _),Dy (by omega)]
 rw[←e3,←e2,List.map_filterMap]
 congr 1
 funext k
 rw[Bb]
theorem aCl{H:Hp}{S:Rg}:∀ns:List Int,Reps K fl H S (ns.map Dat.int) (ns.map V.int)
 |[]=>by simp[Reps]
 |n::ns=>by simp only[Ai,Reps];exact⟨_,_,rfl,Rep.int,aCl ns⟩
theorem bBt{st:Expr}{p2:Pos}(h2:aZ3 st=true)(ea:PE X x (tEv F G X.K fl a))(eb:PE X y (tEv F G X.K fl b)) :
  PE X (.Subscript x (.Slice (some y) none (some st) p2) pos) (tEv F G X.K fl (.blt .step2 (.cons a (.cons b .nil)))):=by
 refine bCd h2 fun c kk pp h2=>?_
 cases dqt h2
 refine PE.imp (aRs ea eb yZ) fun σ H Q q=>?_
 obtain⟨r,S,d,hR,he,hs,hq⟩:=q
 obtain⟨ds,hd,he⟩:=Aa.mp he
 obtain⟨da,db,ha,hb,rfl⟩:=aLo hd
 simp only[Pl.blt]at he
 split at he
 case h_2=>cases he
 rename_i l i e
 cases e
 split at he
 case isFalse=>cases he
 rename_i hi
 obtain⟨ns,hns,rfl⟩:=Ae.mp he
 refine both hR ha hb fun v w H2 e2 r1 r2=>?_
 obtain⟨p,vs,rfl,_,hp,rs⟩:=r1.toLst
 cases r2.toInt
 have ev:=rs.intz hns
 subst ev
 refine⟨p,ns.map V.int,i.toNat,rfl,by rw[Int.toNat_of_nonneg hi],rfl,SqL.of hp,fun n hn=>?_⟩
 rw[aRt]
 obtain⟨n1,n2,n3⟩:=yW (S:=S) (K:=X.K) (fl:=fl) e2 hn (aCl (Pl.evry (ns.drop i.toNat)))
 exact hq _ _ n1 n2 fun _=>n3
end
section
variable{F:Nat→List Dat→Option Dat}{G:Nat→Option Dat}{K:Ad}{fl:List Str}{X:Cx}{x y z t:Expr}{pos p:Pos}{a b c:Tm}{nm:Nm}{bd k:Nat}
abbrev Trk(S:Rg)(H H1:Hp):Rg:=fun b=>Un' S H b∧∃o,H1 b=some o
theorem aDi{S:Rg}{H H1:Hp}:∀a,Trk S H H1 a→Un' S H a∧∃o,H1 a=some o:=fun _ h=>h
theorem aPf{H H1:Hp}{S:Rg}{a:Addr}{vs:List V}{ds:List Dat}(hp:H1 a=some (.lst vs))(sa:Un' S H a)(rs:Reps K fl H1 (Un' S H) ds vs):Walk K fl (Itl K a) H1 (Trk S H H1) ds where
 step:=fun H2 keep i d hd=>by
  have h2:H2 a=some (.lst vs):=keep a _ ⟨sa,_,hp⟩ hp
  obtain⟨v,hv,rv⟩:=rs.tr.get hd
  refine⟨⟨vs,v,SqL.of h2,hv⟩,fun x H3 y=>?_⟩
  obtain⟨rfl,y⟩:=y
  have q:=y vs (SqL.of h2)
  rw[hv]at q;cases q
  exact⟨Ext.refl,rv.mono (fun a o s e=>keep a o s e) fun _=>.inl⟩
 stop:=fun H2 keep=>⟨vs,SqL.of (keep a _ ⟨sa,_,hp⟩ hp),by rw[rs.length];exact An _⟩
theorem aSe{H H1:Hp}{S:Rg}{a:Addr}{vs:List V}{ds:List Dat}(hp:(Un' S H a∧H1 a=some (.tup vs))∨aJs K a vs)(rs:Reps K fl H1 (Un' S H) ds vs):Walk K fl (Itt K a) H1 (Trk S H H1) ds where
 step:=fun H2 keep i d hd=>by
  have h2:SqT K H2 a vs:=hp.elim (fun z=>SqT.of (keep a _ ⟨z.1,_,z.2⟩ z.2)) fun z=>.inr z
  obtain⟨v,hv,rv⟩:=rs.tr.get hd
  refine⟨⟨vs,v,h2,hv⟩,fun x H3 y=>?_⟩
  obtain⟨rfl,y⟩:=y
  have q:=y vs h2
  rw[hv]at q;cases q
  exact⟨Ext.refl,rv.mono (fun a o s e=>keep a o s e) fun _=>.inl⟩
 stop:=fun H2 keep=>⟨vs,hp.elim (fun z=>SqT.of (keep a _ ⟨z.1,_,z.2⟩ z.2)) fun z=>.inr z,by rw[rs.length];exact An _⟩
theorem aX5{α:Type}{l:List α}{i:Nat}(h:i<l.length):l.reverse[i]?=l[l.length-1-i]?:=by
 rw[Jv h]
theorem aSd{H H1:Hp}{S:Rg}{a:Addr}{vs:List V}{ds:List Dat}(hp:H1 a=some (.lst vs))(sa:Un' S H a)(rs:Reps K fl H1 (Un' S H) ds vs):Walk K fl (Itv K a vs.length) H1 (Trk S H H1) ds.reverse where
 step:=fun H2 keep i d hd=>by
  have h2:H2 a=some (.lst vs):=keep a _ ⟨sa,_,hp⟩ hp
  have hi:i<ds.length:=by
   have:=As.mp hd
   obtain⟨h,_⟩:=this
   simpa using h
  rw[aX5 hi,rs.length]at hd
  obtain⟨v,hv,rv⟩:=rs.tr.get hd
  refine⟨⟨by rw[←rs.length];exact hi,vs,v,SqL.of h2,hv⟩,fun x H3 y=>?_⟩
  obtain⟨rfl,y⟩:=y
  have q:=y vs (SqL.of h2)
  rw[hv]at q;cases q
  exact⟨Ext.refl,rv.mono (fun a o s e=>keep a o s e) fun _=>.inl⟩
 stop:=fun H2 keep=>by
  show vs.length≤ds.reverse.length
  rw[Hu,rs.length];exact An _
theorem aGd:∀(ds:List Dat)(n i:Nat),(Pl.eX n ds)[i]?=(ds[i]?).map fun d=>.tup [.int ((n+i:Nat):Int),d]
 |[],n,i=>by simp[Pl.eX]
 |d::ds,n,0=>by simp[Pl.eX]
 |d::ds,n,i+1=>by
  have e:n+1+i=n+(i+1):=by omega
  simp only[Pl.eX,C6,aGd ds (n+1) i,e]
theorem aGe:∀(ds:List Dat)(n:Nat),(Pl.eX n ds).length=ds.length
 |[],n=>rfl
 |d::ds,n=>by simp[Pl.eX,aGe ds (n+1)]
theorem aBm{H:Hp}{S:Rg}{d e:Dat}{v w:V}(h:Rep K fl H S d v)(h':Rep K fl H S e w):Reps K fl H S [d,e] [v,w]:=by
 simp only[Reps]
 exact⟨v,[w],rfl,h,w,[],rfl,h',rfl⟩
theorem aPe{H H1:Hp}{S:Rg}{a:Addr}{vs:List V}{ds:List Dat}(hp:H1 a=some (.lst vs))(sa:Un' S H a)(rs:Reps K fl H1 (Un' S H) ds vs):Walk K fl (Ite K a) H1 (Trk S H H1) (Pl.eX 0 ds) where
 step:=fun H2 keep i d hd=>by
  have h2:H2 a=some (.lst vs):=keep a _ ⟨sa,_,hp⟩ hp
  rw[aGd]at hd
  obtain⟨d0,hd0,rfl⟩:=Ae.mp hd
  obtain⟨v,hv,rv⟩:=rs.tr.get hd0
  refine⟨⟨vs,v,SqL.of h2,hv⟩,fun x H3 y=>?_⟩
  obtain⟨T,w,rfl,hT,rfl,y⟩:=y
  have q:=y vs (SqL.of h2)
  rw[hv]at q;cases q
  rw[Bw]
  exact⟨Ext.new hT,Rep.tup (.inr hT) bG (aBm Rep.int ((rv.mono (fun a o s e=>keep a o s e) fun _=>.inl).ext (Ext.new hT)))⟩
 stop:=fun H2 keep=>⟨vs,SqL.of (keep a _ ⟨sa,_,hp⟩ hp),by rw[aGe,rs.length];exact An _⟩
theorem aPk:∀(l m:List Dat)(i:Nat)(d:Dat),(Pl.aDq l m)[i]?=some d→∃a b,l[i]?=some a∧m[i]?=some b∧d=.tup [a,b]
 |[],m,i,d,h=>by simp[Pl.aDq]at h
 |a::l,[],i,d,h=>by simp[Pl.aDq]at h
 |a::l,b::m,0,d,h=>by simp[Pl.aDq]at h;exact⟨a,b,rfl,rfl,h.symm⟩
 |a::l,b::m,i+1,d,h=>by
  simp only[Pl.aDq,C6]at h
  exact aPk l m i d h
theorem aPl:∀(l m:List Dat),l.length≤(Pl.aDq l m).length∨m.length≤(Pl.aDq l m).length
 |[],m=>by simp
 |a::l,[]=>by simp
 |a::l,b::m=>by
  have:=aPl l m
  simp only[Pl.aDq,Ar]
  omega
theorem aSf{H H1:Hp}{S:Rg}{a b:Addr}{vs us:List V}{ds es:List Dat}(hp:H1 a=some (.lst vs))(hq:H1 b=some (.lst us))(sa:Un' S H a)(sb:Un' S H b)(rs:Reps K fl H1 (Un' S H) ds vs)(rq:Reps K fl H1 (Un' S H) es us) :
  Walk K fl (Itz K a b) H1 (Trk S H H1) (Pl.aDq ds es) where
 step:=fun H2 keep i d hd=>by
  have h2:H2 a=some (.lst vs):=keep a _ ⟨sa,_,hp⟩ hp
  have h3:H2 b=some (.lst us):=keep b _ ⟨sb,_,hq⟩ hq
  obtain⟨d1,d2,hd1,hd2,rfl⟩:=aPk ds es i d hd
  obtain⟨v,hv,rv⟩:=rs.tr.get hd1
  obtain⟨u,hu,ru⟩:=rq.tr.get hd2
  refine⟨⟨vs,us,v,u,SqL.of h2,SqL.of h3,hv,hu⟩,fun x H3 y=>?_⟩
  obtain⟨T,w,w',rfl,hT,rfl,y,y'⟩:=y
  have q:=y vs (SqL.of h2)
  rw[hv]at q;cases q
  have q:=y' us (SqL.of h3)
  rw[hu]at q;cases q
  exact⟨Ext.new hT,Rep.tup (.inr hT) bG (aBm ((rv.mono (fun a o s e=>keep a o s e) fun _=>.inl).ext (Ext.new hT)) ((ru.mono (fun a o s e=>keep a o s e) fun _=>.inl).ext (Ext.new hT)))⟩
 stop:=fun H2 keep=>⟨vs,us,SqL.of (keep a _ ⟨sa,_,hp⟩ hp),SqL.of (keep b _ ⟨sb,_,hq⟩ hq),by rw[←rs.length,←rq.length];exact aPl ds es⟩
theorem bBz{lo:Int}{n i:Nat}{d:Dat}(h:(Pl.upTo lo n)[i]?=some d):i<n∧d=.int (lo+i):=by
 unfold Pl.upTo at h
 rw[Bb]at h
 obtain⟨j,hj,rfl⟩:=Ae.mp h
 obtain⟨h1,h2⟩:=As.mp hj
 simp at h1 h2
 subst h2
 exact⟨h1,rfl⟩
theorem aQ2{lo:Int}{n i:Nat}{d:Dat}(h:(Pl.vP lo n)[i]?=some d):i<n∧d=.int (lo+(i:Nat)*(-1)):=by
 unfold Pl.vP at h
 rw[Bb]at h
 obtain⟨j,hj,rfl⟩:=Ae.mp h
 obtain⟨h1,h2⟩:=As.mp hj
 simp at h1 h2
 subst h2
 exact⟨h1,rfl⟩
theorem aPh{H1:Hp}{lo:Int}{n:Nat}:Walk K fl (Itr lo n) H1 (fun _=>False) (Pl.upTo lo n) where
 step:=fun H2 keep i d hd=>by
  obtain⟨h,rfl⟩:=bBz hd
  refine⟨h,fun x H3 y=>?_⟩
  obtain⟨rfl,rfl⟩:=y
  exact⟨Ext.refl,Rep.int⟩
 stop:=fun H2 keep=>by show n≤_;simp[Pl.upTo]
theorem aPd{H1:Hp}{lo:Int}{n:Nat}:Walk K fl (Itc lo (-1) n) H1 (fun _=>False) (Pl.vP lo n) where
 step:=fun H2 keep i d hd=>by
  obtain⟨h,rfl⟩:=aQ2 hd
  refine⟨h,fun x H3 y=>?_⟩
  obtain⟨rfl,rfl⟩:=y
  exact⟨Ext.refl,Rep.int⟩
 stop:=fun H2 keep=>by show n≤_;simp[Pl.vP]
theorem ofI(ea:PE X x (tEv F G X.K fl a)):PI X t x (aJu F G X.K fl (.of a)):=by
 refine PI.imp (PI.or (aWt ea) (bB0 ea)) fun σ H R q=>?_
 obtain⟨r,S,ds,hR,he,hs,hq⟩:=q
 obtain⟨dx,hx,he⟩:=Aa.mp he
 cases dx<;>first|(exfalso;cases he;done)|skip
 .cases he
  refine .inl ⟨r,S,_,hR,hx,hs,fun v H1 e1 r1 _=>?_⟩
  obtain⟨p,vs,rfl,sp,hp,rs⟩:=r1.toLst
  exact⟨p,rfl,⟨vs,SqL.of hp⟩,hq _ H1 _ e1 aDi (aPf hp sp rs)⟩
 .cases he
  refine .inr ⟨r,S,_,hR,hx,hs,fun v H1 e1 r1 _=>?_⟩
  obtain⟨p,vs,rfl,hp,rs⟩:=r1.toTup
  exact⟨p,rfl,⟨vs,xH hp⟩,hq _ H1 _ e1 aDi (aSe hp rs)⟩
theorem bH2{w:Str}(C:Ctx F G nm bd k X)(hw:w="reversed")(hg:nI X.env.scope w=true)(px:bV x=true)(ea:PE X x (tEv F G X.K nm.fls a)):PI X t (.Call (.Name w p) [x] [] pos) (aJu F G X.K nm.fls (.rev a)):=by
 subst hw
 refine PI.imp (aFo (eY hg) (C.blt _ (by decide +kernel)) (jH px ea tL) (bE px)) fun σ H R q=>?_
 obtain⟨r,S,ds,hR,he,hs,hq⟩:=q
 obtain⟨dx,hx,he⟩:=Aa.mp he
 cases dx<;>first|(exfalso;cases he;done)|skip
 rename_i l
 cases he
 refine⟨r,S,[.lst l],hR,by simp[Pl.evs,hx],by simp only[Pl.srcs,Co];exact hs,fun vs H1 e1 r1=>?_⟩
 obtain⟨v,rfl,rv⟩:=nS r1
 obtain⟨p,vs,rfl,sp,hp,rs⟩:=rv.toLst
 exact⟨p,vs,rfl,SqL.of hp,hq _ H1 _ e1 aDi (aSd hp sp rs)⟩
theorem bD4{w:Str}{el:List Expr}{kk:Nat}{tp:Pos}(C:Ctx F G nm bd k X)(hw:w="enumerate")(hg:nI X.env.scope w=true)(px:bV x=true)(ea:PE X x (tEv F G X.K nm.fls a)):PI X (.Tuple el kk tp) (.Call (.Name w p) [x] [] pos) (aJu F G X.K nm.fls (.enum a)):=by
 subst hw
 refine PI.imp (aWs (eY hg) (C.blt _ (by decide +kernel)) (jH px ea tL) (bE px)) fun σ H R q=>?_
 obtain⟨r,S,ds,hR,he,hs,hq⟩:=q
 obtain⟨dx,hx,he⟩:=Aa.mp he
 cases dx<;>first|(exfalso;cases he;done)|skip
 rename_i l
 cases he
 refine⟨r,S,[.lst l],hR,by simp[Pl.evs,hx],by simp only[Pl.srcs,Co];exact hs,fun vs H1 e1 r1=>?_⟩
 obtain⟨v,rfl,rv⟩:=nS r1
 obtain⟨p,vs,rfl,sp,hp,rs⟩:=rv.toLst
 exact⟨p,vs,rfl,SqL.of hp,hq _ H1 _ e1 aDi (aPe hp sp rs)⟩
theorem bHg{w:Str}{el:List Expr}{kk:Nat}{tp:Pos}(C:Ctx F G nm bd k X)(hw:w="zip")(hg:nI X.env.scope w=true)(px:bV x=true)(py:bV y=true)(ea:PE X x (tEv F G X.K nm.fls a))(eb:PE X y (tEv F G X.K nm.fls b)) :
  PI X (.Tuple el kk tp) (.Call (.Name w p) [x,y] [] pos) (aJu F G X.K nm.fls (.zip a b)):=by
 subst hw
 refine PI.imp (bB1 (eY hg) (C.blt _ (by decide +kernel)) (jH px ea (jH py eb tL)) (bE px) (backs pos (by simp[py]))) fun σ H R q=>?_
 obtain⟨r,S,ds,hR,he,hs,hq⟩:=q
 obtain⟨dx,hx,he1⟩:=Aa.mp he
 obtain⟨dy,hy,he2⟩:=Aa.mp he1
 obtain⟨l,hl,he3⟩:=Aa.mp he2
 obtain⟨m,hm,he4⟩:=Ae.mp he3
 cases dx<;>first|(exfalso;cases hl;done)|skip
 cases dy<;>first|(exfalso;cases hm;done)|skip
 cases hl;cases hm
 subst he4
 refine⟨r,S,[.lst l,.lst m],hR,by simp[Pl.evs,hx,hy],by simp only[Pl.srcs,Co];exact hs,fun vs H1 e1 r1=>?_⟩
 obtain⟨v,w,rfl,rv,rw'⟩:=aBl r1
 obtain⟨p,vs,rfl,sp,hp,rs⟩:=rv.toLst
 obtain⟨p',vs',rfl,sp',hp',rs'⟩:=rw'.toLst
 exact⟨p,p',vs,vs',rfl,SqL.of hp,SqL.of hp',hq _ H1 _ e1 aDi (aSf hp hp' sp sp' rs rs')⟩
theorem yH{i:Int}(h:Pl.aJf i=true):-(2^62)≤i∧i<2^62:=by
 have:=dqt h
 omega
theorem bEq{r:Rho}{ds:List Dat}(h:Pl.evs F G (.cons a .nil) r=some ds):∃x,Pl.ev F G a r=some x∧ds=[x]:=by
 obtain⟨dx,hx,h1⟩:=Aa.mp h
 cases h1
 exact⟨dx,hx,rfl⟩
theorem bEr{r:Rho}{ds:List Dat}(h:Pl.evs F G (.cons a (.cons b .nil)) r=some ds):∃x y,Pl.ev F G a r=some x∧Pl.ev F G b r=some y∧ds=[x,y]:=by
 obtain⟨dx,hx,h1⟩:=Aa.mp h
 obtain⟨e1,h2,h3⟩:=Ae.mp h1
 obtain⟨y,hy,h4⟩:=bEq h2
 subst h4
 exact⟨dx,y,hx,hy,h3.symm⟩
theorem bFp{r:Rho}{ds:List Dat}(h:Pl.evs F G (.cons a (.cons b (.cons c .nil))) r=some ds):∃x y z,Pl.ev F G a r=some x∧Pl.ev F G b r=some y∧Pl.ev F G c r=some z∧ds=[x,y,z]:=by
 obtain⟨dx,hx,h1⟩:=Aa.mp h
 obtain⟨e1,h2,h3⟩:=Ae.mp h1
 obtain⟨y,z,hy,hz,h4⟩:=bEr h2
 subst h4
 exact⟨dx,y,z,hx,hy,hz,h3.symm⟩
theorem aX0{w:Str}(C:Ctx F G nm bd k X)(hw:w="range")(hg:nI X.env.scope w=true)(px:bV x=true)(el:PA X [x] (uI F G X.K nm.fls (.cons a .nil))):PI X t (.Call (.Name w p) [x] [] pos) (aJu F G X.K nm.fls (.range (.cons a .nil))):=by
 subst hw
 refine PI.imp (aO7 (eY hg) (C.blt _ (by decide +kernel)) el (bE px)) fun σ H R q=>?_
 obtain⟨r,S,ds,hR,he,hs,hq⟩:=q
 obtain⟨es,hx,he1⟩:=Aa.mp he
 obtain⟨dx,_,rfl⟩:=bEq hx
 refine⟨r,fun _=>True,[dx],hR,hx,Rsrc.all hR,fun vs H1 e1 r1=>?_⟩
 obtain⟨v,rfl,rv⟩:=nS r1
 cases dx<;>first|(exfalso;cases he1;done)|skip
 simp only[Pl.range]at he1
 split at he1
 .rename_i hg
  cases he1
  cases rv.toInt
  exact⟨_,rfl,(yH hg).1,(yH hg).2,hq _ H1 _ e1 (fun _ z=>z.elim) aPh⟩
 .cases he1
theorem aX1{w:Str}(C:Ctx F G nm bd k X)(hw:w="range")(hg:nI X.env.scope w=true)(px:bV x=true)(py:bV y=true)(el:PA X [x,y] (uI F G X.K nm.fls (.cons a (.cons b .nil)))):PI X t (.Call (.Name w p) [x,y] [] pos) (aJu F G X.K nm.fls (.range (.cons a (.cons b .nil)))):=by
 subst hw
 have h2:starEach [x,y] X.env=[(false,eval x X.env),(false,eval y X.env)]:=by rw[bE px,bE py];rfl
 have h3:starEach [y] X.env=[(false,eval y X.env)]:=by rw[bE py];rfl
 refine PI.imp (aO8 (eY hg) (C.blt _ (by decide +kernel)) el h2 h3) fun σ H R q=>?_
 obtain⟨r,S,ds,hR,he,hs,hq⟩:=q
 obtain⟨es,hx,he1⟩:=Aa.mp he
 obtain⟨dx,dy,_,_,rfl⟩:=bEr hx
 refine⟨r,fun _=>True,[dx,dy],hR,hx,Rsrc.all hR,fun vs H1 e1 r1=>?_⟩
 obtain⟨v,w,rfl,rv,rw'⟩:=aBl r1
 cases dx<;>first|(exfalso;cases he1;done)|skip
 cases dy<;>first|(exfalso;cases he1;done)|skip
 simp only[Pl.range]at he1
 split at he1
 .rename_i hg
  rw[Ac]at hg
  cases he1
  cases rv.toInt;cases rw'.toInt
  exact⟨_,_,rfl,⟨(yH hg.1).1,(yH hg.1).2,(yH hg.2).1,(yH hg.2).2⟩,hq _ H1 _ e1 (fun _ z=>z.elim) aPh⟩
 .cases he1
theorem aX2{w:Str}(C:Ctx F G nm bd k X)(hw:w="range")(hg:nI X.env.scope w=true)(px:bV x=true)(py:bV y=true)(pz:bV z=true)(el:PA X [x,y,z] (uI F G X.K nm.fls (.cons a (.cons b (.cons c .nil))))):PI X t (.Call (.Name w p) [x,y,z] [] pos) (aJu F G X.K nm.fls (.range (.cons a (.cons b (.cons c .nil))))):=by
 subst hw
 have h2:starEach [x,y,z] X.env=[(false,eval x X.env),(false,eval y X.env),(false,eval z X.env)]:=by rw[bE px,bE py,bE pz];rfl
 have h3:starEach [y,z] X.env=[(false,eval y X.env),(false,eval z X.env)]:=by rw[bE py,bE pz];rfl
 refine PI.imp (aO9 (eY hg) (C.blt _ (by decide +kernel)) el (bE px) (backs pos (by simp[py,pz]))) fun σ H R q=>?_
 obtain⟨r,S,ds,hR,he,hs,hq⟩:=q
 obtain⟨es,hx,he1⟩:=Aa.mp he
 obtain⟨dx,dy,dz,_,_,_,rfl⟩:=bFp hx
 refine⟨r,fun _=>True,[dx,dy,dz],hR,hx,Rsrc.all hR,fun vs H1 e1 r1=>?_⟩
 obtain⟨v,w,u,rfl,rv,rw',ru⟩:=bE6 r1
 cases dx<;>first|(exfalso;cases he1;done)|skip
 cases dy<;>first|(exfalso;cases he1;done)|skip
 cases dz<;>first|(exfalso;cases he1;done)|skip
 simp only[Pl.range]at he1
 split at he1
 .rename_i hg
  simp only[Ac,dqe]at hg
  obtain⟨⟨h1,h2⟩,h3⟩:=hg
  cases he1
  cases rv.toInt;cases rw'.toInt;cases ru.toInt
  subst h1
  exact⟨_,_,_,_,rfl,RgC.neg (yH h2).1 (yH h2).2 (yH h3).1 (yH h3).2,hq _ H1 _ e1 (fun _ z=>z.elim) aPd⟩
 .cases he1
def gOf(K:Ad):Tg→TG
 |.one i=>vR i
 |.two i j=>bEu K 2 (aU9 (vR i) (aU9 (vR j) bEs))
noncomputable def slots:Tg→List Nat
 |.one i=>[i]
 |.two i j=>[i,j]
theorem aGu{top:Bool}{sc:Scope}{w:Str}(h:aZ9 top sc w=true):Loc sc w∧(top=true∨sc.names.lookup w=some .local):=by
 unfold aZ9 at h
 unfold Loc
 split at h<;>first|(rename_i e;simp[e,h];done)|cases h
theorem pgN{top:Bool}{i:Nat}{e:Expr}(hN:X.N.Nodup)(hf:top=true→∀w,X.fn w=true)(h:aQ1 top X.N X.env.scope i e=true):PG X e (vR i):=by
 refine pI h fun x p h=>?_
 simp only[Ac,dqe]at h
 obtain⟨h1,h2⟩:=aGu h.2
 exact aO6 hN h.1 h1 (h2.imp (fun z=>hf z _) id)
theorem aCb{top:Bool}{N:List Str}{sc:Scope}{i:Nat}{e:Expr}(h:aQ1 top N sc i e=true):∃w q,e=.Name w q:=by
 refine pI h fun x p _=>?_
 exact⟨_,_,rfl⟩
theorem bE3{top:Bool}{tg:Tg}(hc:X.calm=true)(hN:X.N.Nodup)(hf:top=true→∀w,X.fn w=true)(h:aXg top X.N X.env.scope tg t=true):PG X t (gOf X.K tg):=by
 cases tg with
 |one i=>exact pgN hN hf h
 |two i j=>
  refine aUc h fun l _ _ h=>?_
  refine i2 h fun e1 e2 h=>?_
  simp only[Ac,dqe]at h
  obtain⟨⟨h1,h2⟩,h3⟩:=h
  obtain⟨w1,q1,rfl⟩:=aCb h1
  obtain⟨w2,q2,rfl⟩:=aCb h2
  exact bAz hc (aHb (pgN hN hf h1) (aHb (pgN hN hf h2) aWr))
theorem aO1{top:Bool}{N:List Str}{sc:Scope}{tg:Tg}(h:aXg top N sc tg t=true):(aO0 tg t).map (·.2)=slots tg:=by
 cases tg<;>rfl
theorem aH6{top:Bool}{N:List Str}{sc:Scope}{i j:Nat}(h:aXg top N sc (.two i j) t=true):i≠j:=by
 refine aUc h fun l _ _ h=>?_
 refine i2 h fun e1 e2 h=>?_
 simp only[Ac,dqe]at h
 exact h.2
theorem Renv.wipe1{H:Hp}{σ:St}{r:Rho}(h:Renv K fl H σ r)(i:Nat):Renv K fl H (σ.set i none) (r.set i none) where
 len:=by simp[h.len]
 val:=fun j d q=>by
  rw[F0]at q
  split at q
  .split at q<;>cases q
  .rename_i hij
   rw[Au hij]
   exact h.val j d q
theorem Renv.put{H:Hp}{σ:St}{r:Rho}{d:Dat}{v:V}(h:Renv K fl H σ r)(rv:Rep K fl H (fun _=>True) d v)(i:Nat):Renv K fl H (σ.set i (some v)) (r.set i (some d)) where
 len:=by simp[h.len]
 val:=fun j e q=>by
  rw[F0]at q
  split at q
  .rename_i hij
   subst hij
   split at q
   .rename_i hl
    cases q
    exact⟨v,by rw[Cb (by rw[h.len];exact hl)],rv⟩
   .cases q
  .rename_i hij
   rw[Au hij]
   exact h.val j e q
theorem Rsrc.put{H:Hp}{S:Rg}{σ:St}{r:Rho}{l:List Nat}{d:Dat}{v:V}(h:Rsrc K fl H σ r S l)(rv:Rep K fl H S d v)(hl:σ.length=r.length)(i:Nat):Rsrc K fl H (σ.set i (some v)) (r.set i (some d)) S l:=fun j hj e w q q'=>by
 rw[F0]at q q'
 split at q
 .rename_i hij
  subst hij
  rw[ip rfl]at q'
  split at q
  .cases q
   split at q'
   .cases q';exact rv
   .cases q'
  .cases q
 .rename_i hij
  rw[ig hij]at q'
  exact h j hj e w q q'
theorem Rsrc.wipe1{H:Hp}{S:Rg}{σ:St}{r:Rho}{l:List Nat}(h:Rsrc K fl H σ r S l)(i:Nat):Rsrc K fl H (σ.set i none) (r.set i none) S l:=fun j hj e w q q'=>by
 rw[F0]at q q'
 split at q
 .split at q<;>cases q
 .rename_i hij
  rw[ig hij]at q'
  exact h j hj e w q q'
theorem aY2{tg:Tg}{d:Dat}{r r':Rho}{σ:St}{H:Hp}{v:V}{S:Rg}{l:List Nat}{Q:St→Hp→Prop}(hb:Pl.aHu tg d r=some r')(rv:Rep K fl H S d v)(hR:Renv K fl H σ r)(hs:Rsrc K fl H σ r S l)(hd:∀i j,tg=.two i j→i≠j)
  (q:∀σ2,wipe σ2 (slots tg)=wipe σ (slots tg)→Renv K fl H σ2 r'→Rsrc K fl H σ2 r' S l→Q σ2 H):gOf K tg v (wipe σ (slots tg)) H Q:=by
 cases tg with
 |one i=>
  cases hb
  have e:r.set i (some d)=(r.set i none).set i (some d):=by rw[E1]
  show Q ((σ.set i none).set i (some v)) H
  refine q _ ?_ ?_ ?_
  .show((σ.set i none).set i (some v)).set i none=σ.set i none
   rw[E1,E1]
  .rw[e];exact(hR.wipe1 i).put (rv.wide fun _ _=>trivial) i
  .rw[e];exact(hs.wipe1 i).put rv (by simp[hR.len]) i
 |two i j=>
  have hij:=hd i j rfl
  match d,hb,rv with
  |.tup [d1,d2],hb,rv=>
   cases hb
   obtain⟨T,vs,rfl,hT,rs⟩:=rv.toTup
   obtain⟨v1,v2,rfl,r1,r2⟩:=aBl rs
   refine⟨T,[v1,v2],rfl,xH hT,rfl,v1,[v2],rfl,v2,[],rfl,rfl,?_⟩
   have e:(r.set i (some d1)).set j (some d2)=((((r.set j none).set i none).set i (some d1)).set j (some d2)):=by
    rw[E1,List.set_comm _ _ (Hm hij),E1]
   refine q _ ?_ ?_ ?_
   .show(((((σ.set j none).set i none).set i (some v1)).set j (some v2)).set j none).set i none=(σ.set j none).set i none
    rw[E1,E1,List.set_comm (l:=σ.set j none) (some v1) none hij,E1,E1]
   .rw[e]
    exact(((hR.wipe1 j).wipe1 i).put (r1.wide fun _ _=>trivial) i).put (r2.wide fun _ _=>trivial) j
   .rw[e]
    exact(((hs.wipe1 j).wipe1 i).put r1 (by simp[hR.len]) i).put r2 (by simp[hR.len]) j
theorem Ctx.blk(C:Ctx F G nm bd k X)(s:Shared)(H:Hp)(sc:Scope)(ce:Gq)(fp:List Addr):Ctx F G nm bd k (X.blk s H sc ce fp):=⟨C.calm,C.nd,C.room,C.defs,C.gls,C.blt,C.tabs⟩
theorem lcE{el:Tm}{tg:Tg}{it:Wk}{cs:Tms}{i:Expr}{ifs:List Expr}{sc:Scope}(C:Ctx F G nm bd k X)(ok:bC7 X.N X.env.scope sc (aO0 tg t)=true)(hg:aXg false X.N (bBh sc X.env.scope) tg t=true)(pi:bV i=true)(hi:PI X t i (aJu F G X.K nm.fls it))
  (he:∀(s:Shared)(H:Hp)(D:Addr)(cl:List (Str×Addr))(fp:List Addr),PE (X.blk s H sc (compEnvC sc cl D X.env) fp) x (tEv F G X.K nm.fls el))
  (ht:∀(s:Shared)(H:Hp)(D:Addr)(cl:List (Str×Addr))(fp:List Addr),PTs (X.blk s H sc (compEnvC sc cl D X.env) fp) ifs (aP4 F G X.K nm.fls cs)) :
  PE X (.ListComp x [⟨t,i,ifs,0⟩] sc pos) (tEv F G X.K nm.fls (.lc el tg it cs))∧∀σ H Q,tEv F G X.K nm.fls (.lc el tg it cs) σ H Q→tLc (aJu F G X.K nm.fls it) (gOf X.K tg) (aP4 F G X.K nm.fls cs) (tEv F G X.K nm.fls el) ((aO0 tg t).map (·.2)) σ H Q:=by
 have go:∀σ H Q,tEv F G X.K nm.fls (.lc el tg it cs) σ H Q→tLc (aJu F G X.K nm.fls it) (gOf X.K tg) (aP4 F G X.K nm.fls cs) (tEv F G X.K nm.fls el) ((aO0 tg t).map (·.2)) σ H Q:=by
  intro σ H Q q
  obtain⟨r,S,d,hR,hev,hs,hq⟩:=q
  obtain⟨ds,hit,hev⟩:=Aa.mp hev
  split at hev
  case isFalse=>cases hev
  rename_i hsz
  have hsz:ds.length≤16777216:=hsz
  obtain⟨out,hco,rfl⟩:=Ae.mp hev
  rw[aO1 hg]
  refine⟨r,S,ds,hR,hit,hs.left,fun J H1 U e1 hU wk D hD=>?_⟩
  let T:Rg:=fun a=>Un' S H a∧a≠D
  let W:Nat→Nat→Hp→Prop:=fun i m Hc=>m=ds.length-i∧i≤ds.length∧Ext H1 Hc∧∃(accD:List Dat)(accV:List V)(rest:List Dat),Hc D=some (.lst accV)∧Reps X.K nm.fls Hc T accD accV ∧
   Pl.comp tg (Pl.tsts F G cs) (Pl.ev F G el) r (ds.drop i)=some rest∧accD++rest=out∧accV.length≤i
  refine⟨W,⟨ds.length,rfl,E4 _,Ext.new hD,[],[],out,bG,by simp only[Reps],hco,rfl,An _⟩,?_⟩
  rintro i m Hc ⟨rfl,hile,eHc,accD,accV,rest,hDc,rs,hrest,hout,hlen⟩
  have keep:Keep U H1 Hc:=fun a o _ e=>eHc a o e
  by_cases hi:i<ds.length
  .right
   have hd:ds[i]?=some ds[i]:=Bf hi
   have hdr:ds.drop i=ds[i]::ds.drop (i+1):=Eo hi
   rw[hdr]at hrest
   obtain⟨r',hb,hrest⟩:=Aa.mp hrest
   obtain⟨k',hk,hrest⟩:=Aa.mp hrest
   obtain⟨hgo,hy⟩:=wk.step Hc keep i _ hd
   refine⟨hgo,fun H'=>W (i+1) (ds.length-(i+1)) H',fun H' w=>⟨_,by omega,w⟩,fun v H' yl=>?_⟩
   obtain⟨e3,rv⟩:=hy v H' yl
   have toT:∀{Hx:Hp},Ext Hc Hx→∀a,Hx a=none→T a:=fun ex a z=>by
    have z':=ex.none z
    exact⟨.inr ((e1.trans eHc).none z'),fun q=>by subst q;rw[hDc]at z';cases z'⟩
   have rvT:Rep X.K nm.fls H' T ds[i] v:=rv.wide fun a z=>z.elim (fun u=>⟨(hU a u).1,fun q=>by
    subst q
    obtain⟨o,ho⟩:=(hU a u).2
    rw[hD]at ho;cases ho⟩) (toT Ext.refl a)
   have hR':Renv X.K nm.fls H' σ r:=hR.ext ((e1.trans eHc).trans e3)
   have hs':Rsrc X.K nm.fls H' σ r T (Pl.src el):=fun j hj e w q1 q2=>(((hs.right j hj e w q1 q2).tr.wide (S':=T) fun a z=>⟨.inl z.1,fun q=>by
    subst q
    obtain⟨o,ho⟩:=z.2
    rw[e1.none hD]at ho;cases ho⟩).ext ((e1.trans eHc).trans e3))
   refine aY2 hb rvT hR' hs' (fun i j q=>by subst q;exact aH6 hg) fun σ2 hw hR2 hs2=>⟨hw,r',k',hR2,hk,fun H3 e4=>?_⟩
   have eN:Ext H1 H3:=(eHc.trans e3).trans e4
   cases k' with
   |false=>
    simp only[Do,if_false]at hrest ⊢
    exact⟨rfl,hi,eN,accD,accV,rest,e4 _ _ (e3 _ _ hDc),rs.ext (e3.trans e4),hrest,hout,K4 hlen⟩
   |true=>
    simp only[if_true]at hrest ⊢
    obtain⟨yv,hyv,hrest⟩:=Aa.mp hrest
    obtain⟨rest',hrest',rfl⟩:=Ae.mp hrest
    refine⟨r',T,yv,hR2.ext e4,hyv,hs2.ext e4,fun v5 H4 e5 r5 _=>?_⟩
    have hD4:H4 D=some (.lst accV):=e5 _ _ (e4 _ _ (e3 _ _ hDc))
    refine⟨accV,hD4,by rw[sizeLine_eq];omega,rfl,hi,fun a o e=>?_,accD++[yv],accV++[v5],rest',bG,?_,hrest',by rw[Dj];exact hout,by simp;omega⟩
    .rw[aU (fun q=>by rw[q,hD]at e;cases e)]
     exact e5 _ _ (eN _ _ e)
    .have r5':Rep X.K nm.fls H4 T yv v5:=r5.wide fun a z=>z.elim id (toT (e3.trans e4) a)
     have rs':=(rs.ext ((e3.trans e4).trans e5)).app (Reps.one r5')
     exact rs'.mono (fun a o s e=>by rw[aU s.2];exact e) fun _=>id
  .left
   have e:i=ds.length:=by omega
   subst e
   rw[Lq]at hrest
   cases hrest
   rw[Co]at hout
   subst hout
   exact⟨wk.stop Hc keep,hq _ _ (e1.trans eHc) (Rep.lst (.inr (e1.none hD)) hDc (rs.wide fun _ z=>z.1)) fun _ _ a _ q=>by cases q;exact e1.none hD⟩
 exact⟨PE.imp (bE0 C.calm C.nd hi (aG4 ok) (fun s H D cl fp=>bE3 (X:=X.blk s H sc (compEnvC sc cl D X.env) fp) (top:=false) C.calm C.nd (fun q=>nomatch q) hg) ht he (aOs pi)) go,go⟩
end
section
variable{F:Nat→List Dat→Option Dat}{G:Nat→Option Dat}{nm:Nm}{bd k:Nat}
theorem bBc{X:Cx}{op:PySem.BoolOp}{vs:List Expr}{pos:Pos}{t:TT}(h:PT X (.BoolOp op vs pos) t):PW X (.BoolOp op vs pos) t:=fun whole pins s σ H Q I q=>h pins s σ H Q I q
theorem bG5{X:Cx}{x y z:Expr}{pos:Pos}{c a b:Tm}{fl:List Str}(tc:PT X z (yI F G X.K fl c))(ta:PT X x (yI F G X.K fl a))(tb:PT X y (yI F G X.K fl b)):PT X (.IfExp z x y pos) (yI F G X.K fl (.ite c a b)):=by
 intro pins s σ H Q I q
 obtain⟨r,k',hR,he,hq⟩:=q
 obtain⟨d,he,ht⟩:=Aa.mp he
 obtain⟨dc,hc,he⟩:=Aa.mp he
 obtain⟨k,hk,he⟩:=Aa.mp he
 show wpAny _ _ (do if ←isTrue z X.env (eval z X.env)then isTrue x X.env (eval x X.env)else isTrue y X.env (eval y X.env)) _ _ s
 refine wpAny_bind (thn (tc pins s σ H (fun b H1=>b=k∧Ext H H1) I ⟨r,k,hR,by simp only[Pl.tst,hc,Af,hk],fun H1 e1=>⟨rfl,e1⟩⟩) fun b s1 ⟨H1,I1,hb,e1⟩=>?_)
 subst hb
 cases b with
 |true=>
  simp only[if_true]at he ⊢
  exact ta pins s1 σ H1 Q I1 ⟨r,k',hR.ext e1,by simp only[Pl.tst,he,Af,ht],fun H2 e2=>hq _ (e1.trans e2)⟩
 |false=>
  simp only[Do,if_false]at he ⊢
  exact tb pins s1 σ H1 Q I1 ⟨r,k',hR.ext e1,by simp only[Pl.tst,he,Af,ht],fun H2 e2=>hq _ (e1.trans e2)⟩
def aJx(F:Nat→List Dat→Option Dat)(G:Nat→Option Dat)(nm:Nm)(X:Cx)(tm:Tm)(e:Expr):Prop:=bV e=true∧PE X e (tEv F G X.K nm.fls tm)∧PT X e (yI F G X.K nm.fls tm)
theorem aJx.of{X:Cx}{tm:Tm}{e:Expr}(p:bV e=true)(h:PE X e (tEv F G X.K nm.fls tm))
  (he:aT6 e=true):aJx F G nm X tm e:=⟨p,h,aXd h (aZ1 he)⟩
theorem aDk{sc:Scope}{N:List Str}{l:Tms}{x y:Expr}(h:chks nm bd N sc l [x,y]=true):∃a b,l=.cons a (.cons b .nil)∧chk nm bd N sc a x=true∧chk nm bd N sc b y=true:=by
 cases l with
 |nil=>cases h
 |cons a l=>
  have h:onC [x,y] (fun e es=>chk nm bd N sc a e&&chks nm bd N sc l es)=true:=h
  have h:(chk nm bd N sc a x&&chks nm bd N sc l [y])=true:=h
  rw[Ac]at h
  cases l with
  |nil=>cases h.2
  |cons b l=>
   have h2:(chk nm bd N sc b y&&chks nm bd N sc l [])=true:=h.2
   rw[Ac]at h2
   cases l with
   |nil=>exact⟨a,b,rfl,h.1,h2.1⟩
   |cons c l=>cases h2.2
mutual
theorem sE:∀(tm:Tm)(X:Cx)(e:Expr),Ctx F G nm bd k X→chk nm bd X.N X.env.scope tm e=true→aJx F G nm X tm e
 |.var i,X,e,C,h=>by
  refine pI h fun x p h=>?_
  simp only[Ac,dqe]at h
  exact .of rfl (bHf h.1.1 h.1.2 h.2) rfl
 |.int z,X,e,C,h=>by
  refine bCd h fun c _ _ h=>?_
  cases dqt h
  exact .of rfl (PE.imp yZ fun σ H Q q=>by obtain⟨r,S,d,hR,he,hs,hq⟩:=q;cases he;exact hq _ _ Ext.refl Rep.int fun _=>jA) rfl
 |.bl z,X,e,C,h=>by
  refine bCd h fun c _ _ h=>?_
  cases dqt h
  exact .of rfl (PE.imp bDz fun σ H Q q=>by obtain⟨r,S,d,hR,he,hs,hq⟩:=q;cases he;exact hq _ _ Ext.refl Rep.bl fun _=>aBc) rfl
 |.non,X,e,C,h=>by
  refine bCd h fun c _ _ h=>?_
  cases dqt h
  exact .of rfl (PE.imp bAv fun σ H Q q=>by obtain⟨r,S,d,hR,he,hs,hq⟩:=q;cases he;exact hq _ _ Ext.refl (by simp only[Rep]) fun n=>nomatch n) rfl
 |.glo g,X,e,C,h=>by
  refine pI h fun x p h=>?_
  simp only[Ac,dqe]at h
  exact .of rfl (bFr C h.1.1 h.1.2 h.2) rfl
 |.bin o a b,X,e,C,h=>by
  refine bFu h fun x op y _ h=>?_
  simp only[Ac,dqe]at h
  exact .of rfl (bFk h.1.1 (sE a X _ C h.1.2).2.1 (sE b X _ C h.2).2.1) rfl
 |.cmp o a b,X,e,C,h=>by
  refine bFv h fun x l m _ h=>?_
  refine i1 h fun op h=>?_
  refine i1 h fun y h=>?_
  simp only[Ac,dqe]at h
  have gb:=sE b X _ C h.2
  exact⟨rfl,bFm h.1.1 gb.1 (sE a X _ C h.1.2).2.1 gb.2.1⟩
 |.and_ a b,X,e,C,h=>by
  refine iBo h fun o l p h=>?_
  refine iC h fun x r h=>?_
  refine iC h fun y m h=>?_
  simp only[Ac,dqe]at h
  cases h.1
  have ga:=sE a X _ C h.2.1
  have h:=h.2.2
  cases m with
  |nil=>
   have gb:=sE b X _ C h
   exact⟨rfl,bEm ga.2.1 ga.2.2 (aT3 gb.2.1) (aWz gb.2.2)⟩
  |cons z m=>
   have gb:=sE b X _ C h
   exact⟨rfl,bEm ga.2.1 ga.2.2 gb.2.1 (bBc gb.2.2)⟩
 |.or_ a b,X,e,C,h=>by
  refine iBo h fun o l p h=>?_
  refine iC h fun x r h=>?_
  refine iC h fun y m h=>?_
  simp only[Ac,dqe]at h
  cases h.1
  have ga:=sE a X _ C h.2.1
  have h:=h.2.2
  cases m with
  |nil=>
   have gb:=sE b X _ C h
   exact⟨rfl,orE ga.2.1 ga.2.2 (aT3 gb.2.1) (bBd gb.2.2)⟩
  |cons z m=>
   have gb:=sE b X _ C h
   exact⟨rfl,orE ga.2.1 ga.2.2 gb.2.1 (bBc gb.2.2)⟩
 |.not_ a,X,e,C,h=>by
  refine iUn h fun o x _ h=>?_
  simp only[Ac,dqe]at h
  cases h.1
  have ga:=sE a X _ C h.2
  exact⟨rfl,bGo ga.2.1 ga.2.2⟩
 |.neg a,X,e,C,h=>by
  refine iUn h fun o x _ h=>?_
  simp only[Ac,dqe]at h
  cases h.1
  exact .of rfl (bGn (sE a X _ C h.2).2.1) rfl
 |.ite c a b,X,e,C,h=>by
  refine iIf h fun x y z _ h=>?_
  simp only[Ac,dqe]at h
  have gc:=sE c X _ C h.1.1
  have ga:=sE a X _ C h.1.2
  have gb:=sE b X _ C h.2
  exact⟨rfl,bG4 gc.2.2 ga.2.1 gb.2.1,bG5 gc.2.2 ga.2.2 gb.2.2⟩
 |.idx a b,X,e,C,h=>by
  refine aXi h fun x y _ h=>?_
  simp only[Ac,dqe]at h
  have gb:=sE b X _ C h.2
  exact .of rfl (bG2 gb.1 (sE a X _ C h.1).2.1 gb.2.1) rfl
 |.slc a lo hi,X,e,C,h=>by
  refine aXi h fun x y _ h=>?_
  refine bEw h fun l m s _ h=>?_
  simp only[Ac,dqe]at h
  cases Option.isNone_iff_eq_none.mp h.1
  have h:=h.2
  exact .of rfl (bH3 (sE a X _ C h.1.1).2.1 (sO lo X _ C h.1.2) (sO hi X _ C h.2)) rfl
 |.fld a f,X,e,C,h=>by
  refine iAN h fun _ _ n _ h=>?_
  simp only[Ac,dqe]at h
  exact .of rfl (bFq h.2 (sE a X _ C h.1).2.1) rfl
 |.lst l,X,e,C,h=>by
  refine bFx h fun es _ h=>?_
  exact .of rfl (bGi (sEs l X _ C h).2.1) rfl
 |.tup l,X,e,C,h=>by
  refine aUc h fun es _ _ h=>?_
  exact .of rfl (bHe (sEs l X _ C h).2.1) rfl
 |.call f .nil,X,e,C,h=>by
  refine iCN h fun x _ l _ h=>?_
  refine iE h fun h=>?_
  simp only[Ac,dqe]at h
  exact .of rfl (aY4 C h.1.1.1 h.1.1.2 h.1.2 h.2 rfl (fun _=>rfl) tL) rfl
 |.call f (.cons a r),X,e,C,h=>by
  refine aI6 h fun g l w _ h=>?_
  refine iC h fun y es h=>?_
  refine iE h fun h=>?_
  replace h:=Bool.or_eq_true_iff.mp h;rcases h with h|h
  .refine pI h fun x _ h=>?_
   simp only[Ac,dqe]at h
   obtain⟨⟨⟨⟨⟨h1,h2⟩,h3⟩,h4⟩,ha⟩,hr⟩:=h
   have ga:=sE a X _ C ha
   have gr:=sEs r X _ C hr
   exact .of rfl (aY4 C h1 h2 h3 h4 (by simp only[Bz,ga.1,gr.1,Ej]) (fun q=>nomatch q) (jH ga.1 ga.2.1 gr.2.1)) rfl
  .refine aXi h fun g z _ h=>?_
   refine pI h fun x _ h=>?_
   simp only[Ac,dqe]at h
   obtain⟨⟨⟨⟨⟨h1,h2⟩,h3⟩,h4⟩,ha⟩,hr⟩:=h
   have ga:=sE a X _ C ha
   have gr:=sEs r X _ C hr
   have hal:=gr.1
   simp only[Bz,Ac]at hal
   exact .of rfl (bBw C h1 h2 h3 h4 ga.1 hal.1 hal.2 ga.2.1 gr.2.1) rfl
 |.blt f l,X,e,C,h=>by
  have key:∀(hf:f≠.lrev∧f≠.lrange∧f≠.count∧f≠.step2),(aFk e fun x es=>decide (x=bC8 f)&&nI X.env.scope x&&chks nm bd X.N X.env.scope l es)=true→aJx F G nm X (.blt f l) e:=fun hf j=>by
   clear h;have h:=j;clear j
   refine iCN h fun x _ es _ h=>?_
   simp only[Ac,dqe]at h
   obtain⟨⟨hw,hg⟩,hl⟩:=h
   subst hw
   have gl:=sEs l X _ C hl
   cases es with
   |nil=>
    refine .of rfl (PE.false fun σ H Q q=>?_) rfl
    obtain⟨r,S,d,hR,he,hs,hq⟩:=q
    cases gl.2.2 rfl
    cases f<;>first|(exact absurd rfl hf.1;done)|(exact absurd rfl hf.2.1;done)|(exact absurd rfl hf.2.2.1;done)|(exact absurd rfl hf.2.2.2;done)|(cases he;done)
   |cons x es=>
    have ha:=gl.1
    simp only[Bz,Ac]at ha
    exact .of rfl (bFl C hf hg ha.1 ha.2 gl.2.1) rfl
  cases f with
  |lrev=>
   refine iCN h fun x _ m _ h=>?_
   refine i1 h fun c h=>?_
   refine iCN h fun y _ m _ h=>?_
   refine i1 h fun z h=>?_
   simp only[Ac,dqe]at h
   obtain⟨⟨⟨⟨hw,hy⟩,hg⟩,hg2⟩,hl⟩:=h
   subst hw;subst hy
   have gl:=sEs l X _ C hl
   have ha:=gl.1
   simp only[Bz,Ac]at ha
   exact .of rfl (bDg C hg hg2 ha.1 gl.2.1) rfl
  |lrange=>
   refine iCN h fun x _ m _ h=>?_
   refine i1 h fun c h=>?_
   refine iCN h fun y _ m _ h=>?_
   refine i2 h fun z u h=>?_
   simp only[Ac,dqe]at h
   obtain⟨⟨⟨⟨hw,hy⟩,hg⟩,hg2⟩,hl⟩:=h
   subst hw;subst hy
   have gl:=sEs l X _ C hl
   have ha:=gl.1
   simp only[Bz,Ac]at ha
   obtain⟨a,b,rfl,_⟩:=aDk hl
   exact .of rfl (aUl C hg hg2 ha.1 ha.2.1 gl.2.1) rfl
  |count=>
   refine aI6 h fun g m w cp h=>?_
   refine bD7 h fun o n ap h=>?_
   refine iE h fun h=>?_
   refine i1 h fun y h=>?_
   simp only[Ac,dqe]at h
   obtain⟨⟨⟨hn,hr⟩,hl⟩,hc⟩:=h
   subst hn
   cases l with
   |nil=>cases hc
   |cons a l=>
    cases l with
    |nil=>obtain⟨_,_,e,_⟩:=aDk hc;cases e
    |cons b l=>
     obtain⟨a',b',e,ha,hb⟩:=aDk hc
     cases e
     have ga:=sE a X _ C ha
     have gb:=sE b X _ C hb
     exact .of rfl (aY6 C hr hl gb.1 ga.2.1 gb.2.1) rfl
  |step2=>
   refine aXi h fun x s _ h=>?_
   refine bEw h fun lo hi st _ h=>?_
   refine iS h fun lo h=>?_
   refine iS h fun st h=>?_
   simp only[Ac,dqe]at h
   cases Option.isNone_iff_eq_none.mp h.1.1
   cases l with
   |nil=>cases h.2
   |cons a l=>
    cases l with
    |nil=>obtain⟨_,_,e,_⟩:=aDk h.2;cases e
    |cons b l=>
     obtain⟨a',b',e,ha,hb⟩:=aDk h.2
     cases e
     exact .of rfl (bBt h.1.2 (sE a X _ C ha).2.1 (sE b X _ C hb).2.1) rfl
  |_=>exact key ⟨(by intro q;cases q),(by intro q;cases q),(by intro q;cases q),(by intro q;cases q)⟩ h
 |.lc el tg it c,X,e,C,h=>by
  refine iLc h fun x l s _ h=>?_
  refine i1 h fun g h=>?_
  obtain⟨t,i,ifs,z⟩:=g
  simp only[Ac,dqe]at h
  obtain⟨⟨⟨⟨⟨hz,hb⟩,hg⟩,hi⟩,hx⟩,hc⟩:=h
  subst hz
  have gi:=sI it X t i C hi
  exact .of rfl (lcE C hb hg gi.1 gi.2 (fun s' H D cl fp=>(sE el (X.blk s' H s (compEnvC s cl D X.env) fp) x (C.blk s' H s _ fp) hx).2.1) (fun s' H D cl fp=>sT c (X.blk s' H s (compEnvC s cl D X.env) fp) ifs (C.blk s' H s _ fp) hc)).1 rfl
theorem sEs:∀(l:Tms)(X:Cx)(es:List Expr),Ctx F G nm bd k X→chks nm bd X.N X.env.scope l es=true→es.all bV=true∧PA X es (uI F G X.K nm.fls l)∧(es=[]→l=.nil)
 |.nil,X,es,C,h=>by
  cases List.isEmpty_iff.mp h
  exact⟨rfl,tL,fun _=>rfl⟩
 |.cons a r,X,es,C,h=>by
  refine iC h fun e es h=>?_
  simp only[Ac,dqe]at h
  have ga:=sE a X _ C h.1
  have gr:=sEs r X _ C h.2
  exact⟨by simp only[Bz,ga.1,gr.1,Ej],jH ga.1 ga.2.1 gr.2.1,fun q=>nomatch q⟩
theorem sO:∀(l:Tms)(X:Cx)(e:Option Expr),Ctx F G nm bd k X→bD0 nm bd X.N X.env.scope l e=true→PO X e (bBv F G X.K nm.fls l)
 |.nil,X,e,C,h=>by
  cases Option.isNone_iff_eq_none.mp h
  exact bB2
 |.cons a r,X,e,C,h=>by
  refine iS h fun e h=>?_
  exact bB3 (sE a X _ C h).2.1
theorem sT:∀(l:Tms)(X:Cx)(es:List Expr),Ctx F G nm bd k X→bEo nm bd X.N X.env.scope l es=true→PTs X es (aP4 F G X.K nm.fls l)
 |.nil,X,es,C,h=>by
  cases List.isEmpty_iff.mp h
  intro pins s σ H Q I q
  obtain⟨r,b,hR,he,hq⟩:=q
  cases he
  exact aWx pins s σ H Q I (hq _ Ext.refl)
 |.cons a r,X,es,C,h=>by
  refine i1 h fun e h=>?_
  exact aWy (sE a X _ C h).2.2
theorem sI:∀(it:Wk)(X:Cx)(t i:Expr),Ctx F G nm bd k X→bCz nm bd X.N X.env.scope it t i=true→bV i=true∧PI X t i (aJu F G X.K nm.fls it)
 |.of a,X,t,i,C,h=>by
  have ga:=sE a X _ C h
  exact⟨ga.1,ofI ga.2.1⟩
 |.range .nil,X,t,i,C,h=>nomatch (show false=true from h)
 |.range (.cons a .nil),X,t,i,C,h=>by
  refine iCN h fun x _ l _ h=>?_
  refine i1 h fun y h=>?_
  simp only[Ac,dqe]at h
  obtain⟨⟨hw,hg⟩,ha⟩:=h
  have ga:=sE a X _ C ha
  exact⟨rfl,aX0 C hw hg ga.1 (jH ga.1 ga.2.1 tL)⟩
 |.range (.cons a (.cons b .nil)),X,t,i,C,h=>by
  refine iCN h fun x _ l _ h=>?_
  refine i2 h fun y z h=>?_
  simp only[Ac,dqe]at h
  obtain⟨⟨⟨hw,hg⟩,ha⟩,hb⟩:=h
  have ga:=sE a X _ C ha
  have gb:=sE b X _ C hb
  exact⟨rfl,aX1 C hw hg ga.1 gb.1 (jH ga.1 ga.2.1 (jH gb.1 gb.2.1 tL))⟩
 |.range (.cons a (.cons b (.cons c .nil))),X,t,i,C,h=>by
  refine iCN h fun x _ l _ h=>?_
  refine iC h fun y l h=>?_
  refine i2 h fun z u h=>?_
  simp only[Ac,dqe]at h
  obtain⟨⟨⟨⟨hw,hg⟩,ha⟩,hb⟩,hc⟩:=h
  have ga:=sE a X _ C ha
  have gb:=sE b X _ C hb
  have gc:=sE c X _ C hc
  exact⟨rfl,aX2 C hw hg ga.1 gb.1 gc.1 (jH ga.1 ga.2.1 (jH gb.1 gb.2.1 (jH gc.1 gc.2.1 tL)))⟩
 |.range (.cons a (.cons b (.cons c (.cons d r)))),X,t,i,C,h=>nomatch (show false=true from h)
 |.enum a,X,t,i,C,h=>by
  refine iCN h fun x _ l _ h=>?_
  refine i1 h fun y h=>?_
  simp only[Ac,dqe]at h
  obtain⟨⟨⟨hw,hg⟩,ha⟩,ht⟩:=h
  have ga:=sE a X _ C ha
  refine aUc ht fun _ _ _ _=>?_
  exact⟨rfl,bD4 C hw hg ga.1 ga.2.1⟩
 |.zip a b,X,t,i,C,h=>by
  refine iCN h fun x _ l _ h=>?_
  refine i2 h fun y z h=>?_
  simp only[Ac,dqe]at h
  obtain⟨⟨⟨⟨hw,hg⟩,ha⟩,hb⟩,ht⟩:=h
  have ga:=sE a X _ C ha
  have gb:=sE b X _ C hb
  refine aUc ht fun _ _ _ _=>?_
  exact⟨rfl,bHg C hw hg ga.1 gb.1 ga.2.1 gb.2.1⟩
 |.rev a,X,t,i,C,h=>by
  refine iCN h fun x _ l _ h=>?_
  refine i1 h fun y h=>?_
  simp only[Ac,dqe]at h
  obtain⟨⟨hw,hg⟩,ha⟩:=h
  have ga:=sE a X _ C ha
  exact⟨rfl,bH2 C hw hg ga.1 ga.2.1⟩
end
end
end L2.Sd
namespace L2.Sd
set_option maxRecDepth 100000
open PySem PyProof.Rows
open PySem.Spec hiding Tm
open Pl (Dat Tm Tms Wk Stm Stms Rho Bop Cop Blt Tg SZ flat owned rho)
def Bd(env:Pl.Env)(σ:St):Rg:=fun a=>∃i,owned env i=true∧σ[i]?=some (some (.ref a))
structure RepE(K:Ad)(fl:List Str)(H0 H:Hp)(σ:St)(env:Pl.Env):Prop where
 len:σ.length=env.length
 grow:Ext H0 H
 free:∀(i:Nat)(d:Dat),env[i]?=some (some (d,false))→∃v,σ[i]?=some (some v)∧Rep K fl H (fun a=>¬Bd env σ a) d v
 own:∀(i:Nat)(d:Dat),env[i]?=some (some (d,true))→∃a vs ds,σ[i]?=some (some (.ref a))∧d=.lst ds∧H a=some (.lst vs)∧ds.all flat=true∧Reps K fl H (fun _=>True) ds vs∧H0 a=none
 dist:∀(i j:Nat)(a:Addr),owned env i=true→owned env j=true→σ[i]?=some (some (.ref a))→σ[j]?=some (some (.ref a))→i=j
section
variable{K:Ad}{fl:List Str}{H0 H H1:Hp}{σ:St}{env:Pl.Env}
theorem cV{env:Pl.Env}{i:Nat}:owned env i=true↔∃d,env[i]?=some (some (d,true)):=by
 unfold owned
 constructor
 .intro h
  split at h
  .rename_i d o e
   subst h
   exact⟨d,e⟩
  .cases h
 .rintro⟨d,e⟩
  rw[e]
theorem RepE.bd(R:RepE K fl H0 H σ env){a:Addr}(h:Bd env σ a):(∃vs,H a=some (.lst vs))∧H0 a=none:=by
 obtain⟨i,ho,hs⟩:=h
 obtain⟨d,hd⟩:=cV.mp ho
 obtain⟨a',vs,ds,hs',_,ha,_,_,h0⟩:=R.own i d hd
 rw[hs]at hs';cases hs'
 exact⟨⟨vs,ha⟩,h0⟩
theorem RepE.bdn(R:RepE K fl H0 H σ env){a:Addr}(h:H a=none):¬Bd env σ a:=fun q=>by
 obtain⟨⟨vs,e⟩,_⟩:=R.bd q
 rw[h]at e;cases e
theorem RepE.ext(R:RepE K fl H0 H σ env)(e:Ext H H1):RepE K fl H0 H1 σ env:=
 ⟨R.len,R.grow.trans e,fun i d q=>let ⟨v,a,b⟩:=R.free i d q;⟨v,a,b.ext e⟩,fun i d q=>let ⟨a,vs,ds,h1,h2,h3,h4,h5,h6⟩:=R.own i d q;⟨a,vs,ds,h1,h2,e _ _ h3,h4,h5.ext e,h6⟩,R.dist⟩
theorem aFv{env:Pl.Env}{i:Nat}{d:Dat}(h:(rho env)[i]?=some (some d)):∃o,env[i]?=some (some (d,o)):=by
 unfold rho at h
 rw[Bb]at h
 obtain⟨s,hs,h⟩:=Ae.mp h
 obtain⟨p,hp,h⟩:=Ae.mp h
 subst hp
 obtain⟨d',o⟩:=p
 cases h
 exact⟨o,hs⟩
theorem RepE.slot(R:RepE K fl H0 H σ env){i:Nat}{d:Dat}{o:Bool}(h:env[i]?=some (some (d,o))):∃v,σ[i]?=some (some v)∧Rep K fl H (fun _=>True) d v:=by
 cases o with
 |false=>
  obtain⟨v,h1,h2⟩:=R.free i d h
  exact⟨v,h1,h2.wide fun _ _=>trivial⟩
 |true=>
  obtain⟨a,vs,ds,h1,rfl,h3,h4,h5,h6⟩:=R.own i d h
  exact⟨_,h1,Rep.lst trivial h3 h5⟩
theorem RepE.renv(R:RepE K fl H0 H σ env):Renv K fl H σ (rho env) where
 len:=by simp[rho,R.len]
 val:=fun i d h=>let ⟨o,q⟩:=aFv h;R.slot q
theorem RepE.rsrc(R:RepE K fl H0 H σ env){l:List Nat}(h:l.all (fun j=>!owned env j)=true):Rsrc K fl H σ (rho env) (fun a=>¬Bd env σ a) l:=fun i hi d v h1 h2=>by
 obtain⟨o,q⟩:=aFv h1
 have ho:owned env i=false:=by simpa using Bc.mp h i hi
 cases o with
 |true=>rw[cV.mpr ⟨d,q⟩]at ho;cases ho
 |false=>
  obtain⟨v',e1,e2⟩:=R.free i d q
  rw[h2]at e1;cases e1
  exact e2
theorem RepE.rmine(R:RepE K fl H0 H σ env){l:List Nat}(h:l.all (Pl.mine env)=true):Rsrc K fl H σ (rho env) (fun a=>H0 a=none) l:=fun i hi d v h1 h2=>by
 obtain⟨o,q⟩:=aFv h1
 have hm:Pl.mine env i=true:=Bc.mp h i hi
 unfold Pl.mine at hm
 rw[q]at hm
 simp only[Eu]at hm
 cases o with
 |false=>
  obtain⟨v',e1,e2⟩:=R.free i d q
  rw[h2]at e1;cases e1
  rcases hm with hm|hm
  .exact e2.flat hm
  .cases hm
 |true=>
  obtain⟨a,vs,ds,e1,rfl,e3,e4,e5,e6⟩:=R.own i d q
  rw[h2]at e1;cases e1
  exact Rep.lst e6 e3 (e5.flat e4)
structure Step(K:Ad)(fl:List Str)(H0:Hp)(H:Hp)(σ:St)(env:Pl.Env)(H':Hp)(σ':St)(env':Pl.Env):Prop where
 rep:RepE K fl H0 H' σ' env'
 keep:Keep (fun a=>¬Bd env σ a) H H'
 bd:∀a,Bd env' σ' a→Bd env σ a∨H a=none
theorem Step.refl(R:RepE K fl H0 H σ env):Step K fl H0 H σ env H σ env:=⟨R,fun _ _ _ e=>e,fun _ b=>.inl b⟩
theorem Step.ext(R:RepE K fl H0 H σ env)(e:Ext H H1):Step K fl H0 H σ env H1 σ env:=⟨R.ext e,fun a o _ q=>e a o q,fun _ b=>.inl b⟩
theorem Step.trans{H2:Hp}{σ1 σ2:St}{env1 env2:Pl.Env}(a:Step K fl H0 H σ env H1 σ1 env1)(b:Step K fl H0 H1 σ1 env1 H2 σ2 env2):Step K fl H0 H σ env H2 σ2 env2 where
 rep:=b.rep
 keep:=fun x o n e=>b.keep x o (fun q=>(a.bd x q).elim n fun z=>by rw[e]at z;cases z) (a.keep x o n e)
 bd:=fun x q=>by
  rcases b.bd x q with q|q
  .exact a.bd x q
  .by_cases z:Bd env σ x
   .exact .inl z
   .right
    cases e:H x with
    |none=>rfl
    |some o=>rw[a.keep x o z e]at q;cases q
theorem lD{α:Type}{l:List α}{i j:Nat}{x y:α}(h:(l.set i x)[j]?=some y):(i=j∧x=y∧i<l.length)∨(i≠j∧l[j]?=some y):=by
 rw[F0]at h
 split at h
 .rename_i hij
  split at h
  .rename_i hl
   cases h
   exact .inl ⟨hij,rfl,hl⟩
  .cases h
 .rename_i hij
  exact .inr ⟨hij,h⟩
theorem Step.set(R:RepE K fl H0 H σ env){d:Dat}{v:V}(e:Ext H H1)(rv:Rep K fl H1 (fun a=>¬Bd env σ a) d v)(i:Nat):Step K fl H0 H σ env H1 (σ.set i (some v)) (env.set i (some (d,false))):=by
 have ow:∀{j},owned (env.set i (some (d,false))) j=true→i≠j∧owned env j=true:=fun{j}h=>by
  obtain⟨d',h⟩:=cV.mp h
  rcases lD h with⟨_,q,_⟩|⟨h1,h2⟩
  .cases q
  .exact⟨h1,cV.mpr ⟨d',h2⟩⟩
 have bd:∀a,Bd (env.set i (some (d,false))) (σ.set i (some v)) a→Bd env σ a:=fun a ⟨j,h1,h2⟩=>by
  obtain⟨n,o⟩:=ow h1
  rw[Au n]at h2
  exact⟨j,o,h2⟩
 have R1:=R.ext e
 refine⟨⟨by simp[R.len],R1.grow,fun j d' h=>?_,fun j d' h=>?_,fun j k a h1 h2 h3 h4=>?_⟩,fun a o _ q=>e a o q,fun a b=>.inl (bd a b)⟩
 .rcases lD h with⟨rfl,q,hl⟩|⟨h1,h2⟩
  .cases q
   exact⟨v,by rw[Cb (by rw[R.len];exact hl)],rv.wide fun a n q=>n (bd a q)⟩
  .obtain⟨w,e1,e2⟩:=R1.free j d' h2
   exact⟨w,by rw[Au h1];exact e1,e2.wide fun a n q=>n (bd a q)⟩
 .rcases lD h with⟨_,q,_⟩|⟨h1,h2⟩
  .cases q
  .obtain⟨a,vs,ds,e1,e2⟩:=R1.own j d' h2
   exact⟨a,vs,ds,by rw[Au h1];exact e1,e2⟩
 .obtain⟨n1,o1⟩:=ow h1
  obtain⟨n2,o2⟩:=ow h2
  rw[Au n1]at h3
  rw[Au n2]at h4
  exact R.dist j k a o1 o2 h3 h4
theorem Step.setO(R:RepE K fl H0 H σ env){ds:List Dat}{vs:List V}{p:Addr}(e:Ext H H1)(hp:H p=none)(h1:H1 p=some (.lst vs))(rv:Reps K fl H1 (fun _=>True) ds vs)(hf:ds.all flat=true)(i:Nat) :
  Step K fl H0 H σ env H1 (σ.set i (some (.ref p))) (env.set i (some (.lst ds,true))):=by
 have ow:∀{j},owned (env.set i (some (.lst ds,true))) j=true→(i=j∧i<env.length)∨(i≠j∧owned env j=true):=fun{j}h=>by
  obtain⟨d',h⟩:=cV.mp h
  rcases lD h with⟨q,_,l⟩|⟨h1,h2⟩
  .exact .inl ⟨q,l⟩
  .exact .inr ⟨h1,cV.mpr ⟨d',h2⟩⟩
 have R1:=R.ext e
 have sl:∀{j a},owned env j=true→σ[j]?=some (some (.ref a))→a≠p:=fun{j a}o s q=>by
  subst q
  obtain⟨⟨_,z⟩,_⟩:=R.bd (a:=a) ⟨j,o,s⟩
  rw[hp]at z;cases z
 have at_i:∀{a},i<env.length→(σ.set i (some (V.ref p)))[i]?=some (some (.ref a))→a=p:=fun{a}l s=>by
  rw[Cb (by rw[R.len];exact l)]at s
  cases s;rfl
 have bd:∀a,Bd (env.set i (some (.lst ds,true))) (σ.set i (some (.ref p))) a→Bd env σ a∨a=p:=fun a ⟨j,h1,h2⟩=>by
  rcases ow h1 with⟨rfl,l⟩|⟨n,o⟩
  .exact .inr (at_i l h2)
  .rw[Au n]at h2
   exact .inl ⟨j,o,h2⟩
 refine⟨⟨by simp[R.len],R1.grow,fun j d' h=>?_,fun j d' h=>?_,fun j k a h1 h2 h3 h4=>?_⟩,fun a o _ q=>e a o q,fun a b=>(bd a b).imp id fun q=>by rw[q];exact hp⟩
 .rcases lD h with⟨_,q,_⟩|⟨h1,h2⟩
  .cases q
  .obtain⟨w,e1,e2⟩:=R.free j d' h2
   refine⟨w,by rw[Au h1];exact e1,(e2.tr.ext e).wide fun a n q=>?_⟩
   rcases bd a q with q|q
   .exact n.1 q
   .subst q
    obtain⟨_,o,z⟩:=n
    rw[hp]at z;cases z
 .rcases lD h with⟨rfl,q,l⟩|⟨h1',h2⟩
  .cases q
   refine⟨p,vs,ds,by rw[Cb (by rw[R.len];exact l)],rfl,h1,hf,rv,R.grow.none hp⟩
  .obtain⟨a,vs',ds',e1,e2⟩:=R1.own j d' h2
   exact⟨a,vs',ds',by rw[Au h1'];exact e1,e2⟩
 .rcases ow h1 with⟨rfl,l1⟩|⟨n1,o1⟩<;>rcases ow h2 with⟨q,l2⟩|⟨n2,o2⟩
  .exact q
  .have:=at_i l1 h3
   subst this
   rw[Au n2]at h4
   exact absurd rfl (sl o2 h4)
  .subst q
   have:=at_i l2 h4
   subst this
   rw[Au n1]at h3
   exact absurd rfl (sl o1 h3)
  .rw[Au n1]at h3
   rw[Au n2]at h4
   exact R.dist j k a o1 o2 h3 h4
theorem Step.chg(R:RepE K fl H0 H σ env){ds es:List Dat}{us:List V}{a:Addr}{i:Nat}(hi:env[i]?=some (some (.lst ds,true)))(hs:σ[i]?=some (some (.ref a)))(e:Ext H H1)(rv:Reps K fl H1 (fun _=>True) es us)(hf:es.all flat=true) :
  Step K fl H0 H σ env (upd H1 a (.lst us)) σ (env.set i (some (.lst es,true))):=by
 have R1:=R.ext e
 have oi:owned env i=true:=cV.mpr ⟨_,hi⟩
 have hl:i<env.length:=(As.mp hi).1
 have ow:∀{j},owned (env.set i (some (.lst es,true))) j=true↔owned env j=true:=fun{j}=>by
  constructor
  .intro h
   obtain⟨d',h⟩:=cV.mp h
   rcases lD h with⟨rfl,_,_⟩|⟨_,h2⟩
   .exact oi
   .exact cV.mpr ⟨d',h2⟩
  .intro h
   obtain⟨d',h⟩:=cV.mp h
   by_cases q:i=j
   .subst q
    exact cV.mpr ⟨_,Cb hl⟩
   .exact cV.mpr ⟨d',by rw[Au q];exact h⟩
 have bd:∀b,Bd (env.set i (some (.lst es,true))) σ b↔Bd env σ b:=fun b=>⟨fun⟨j,h1,h2⟩=>⟨j,ow.mp h1,h2⟩,fun⟨j,h1,h2⟩=>⟨j,ow.mpr h1,h2⟩⟩
 have ba:Bd env σ a:=⟨i,oi,hs⟩
 have a0:H0 a=none:=(R.bd ba).2
 have out:∀b o,¬Bd env σ b→H1 b=some o→upd H1 a (.lst us) b=some o:=fun b o n q=>by
  rw[aU (fun z=>by subst z;exact n ba)];exact q
 refine⟨⟨by simp[R.len],fun b o q=>?_,fun j d' h=>?_,fun j d' h=>?_,fun j k b h1 h2 h3 h4=>R.dist j k b (ow.mp h1) (ow.mp h2) h3 h4⟩,fun b o n q=>out b o n (e b o q),fun b q=>.inl ((bd b).mp q)⟩
 .rw[aU (fun z=>by rw[z,a0]at q;cases q)]
  exact R1.grow b o q
 .rcases lD h with⟨_,q,_⟩|⟨h1,h2⟩
  .cases q
  .obtain⟨w,e1,e2⟩:=R1.free j d' h2
   exact⟨w,e1,e2.mono (fun b o n q=>out b o n q) fun b n q=>n ((bd b).mp q)⟩
 .rcases lD h with⟨rfl,q,l⟩|⟨h1',h2⟩
  .cases q
   exact⟨a,us,es,hs,rfl,bG,hf,rv.flat hf,a0⟩
  .obtain⟨b,vs',ds',e1,e2,e3,e4,e5,e6⟩:=R1.own j d' h2
   have nb:b≠a:=fun z=>by
    subst z
    exact h1' (R.dist i j b oi (cV.mpr ⟨d',h2⟩) hs e1)
   exact⟨b,vs',ds',e1,e2,by rw[aU nb];exact e3,e4,e5.flat e4,e6⟩
end
def bAk(e:Stmt)(k:Option Expr→Pos→Bool):Bool:=if h:e.ctorIdx=3 then Stmt.Return.elim e h k else false
@[elab_as_elim] theorem bFy{e k}{P:Stmt→Prop}(h:bAk e k=true)(f:∀x y,k x y=true→P (.Return x y)):P e:=by
 obtain⟨q,h⟩:=di h
 have r:=q
 revert q
 exact Stmt.Return.elim e r fun x y _=>f x y
def bAe(e:Stmt)(k:List Expr→Expr→Pos→Bool):Bool:=if h:e.ctorIdx=5 then Stmt.Assign.elim e h k else false
@[elab_as_elim] theorem bFs{e k}{P:Stmt→Prop}(h:bAe e k=true)(f:∀x y z,k x y z=true→P (.Assign x y z)):P e:=by
 obtain⟨q,h⟩:=di h
 have r:=q
 revert q
 exact Stmt.Assign.elim e r fun x y z _=>f x y z
def bAf(e:Stmt)(k:Expr→Operator→Expr→Pos→Bool):Bool:=if h:e.ctorIdx=7 then Stmt.AugAssign.elim e h k else false
@[elab_as_elim] theorem bFt{e k}{P:Stmt→Prop}(h:bAf e k=true)(f:∀x y z u,k x y z u=true→P (.AugAssign x y z u)):P e:=by
 obtain⟨q,h⟩:=di h
 have r:=q
 revert q
 exact Stmt.AugAssign.elim e r fun x y z u _=>f x y z u
def bAi(e:Stmt)(k:Expr→Expr→List Stmt→List Stmt→Pos→Bool):Bool:=if h:e.ctorIdx=9 then Stmt.For.elim e h k else false
@[elab_as_elim] theorem bFw{e k}{P:Stmt→Prop}(h:bAi e k=true)(f:∀x y z u v,k x y z u v=true→P (.For x y z u v)):P e:=by
 obtain⟨q,h⟩:=di h
 have r:=q
 revert q
 exact Stmt.For.elim e r fun x y z u v _=>f x y z u v
def bAl(e:Stmt)(k:Expr→List Stmt→List Stmt→Pos→Bool):Bool:=if h:e.ctorIdx=11 then Stmt.While.elim e h k else false
@[elab_as_elim] theorem bG0{e k}{P:Stmt→Prop}(h:bAl e k=true)(f:∀x y z u,k x y z u=true→P (.While x y z u)):P e:=by
 obtain⟨q,h⟩:=di h
 have r:=q
 revert q
 exact Stmt.While.elim e r fun x y z u _=>f x y z u
def aWj(e:Stmt)(k:Expr→List Stmt→List Stmt→Pos→Bool):Bool:=if h:e.ctorIdx=12 then Stmt.If.elim e h k else false
@[elab_as_elim] theorem bEv{e k}{P:Stmt→Prop}(h:aWj e k=true)(f:∀x y z u,k x y z u=true→P (.If x y z u)):P e:=by
 obtain⟨q,h⟩:=di h
 have r:=q
 revert q
 exact Stmt.If.elim e r fun x y z u _=>f x y z u
def bEy(e:Stmt)(k:Expr→Pos→Bool):Bool:=if h:e.ctorIdx=24 then Stmt.Expr.elim e h k else false
@[elab_as_elim] theorem iEx{e k}{P:Stmt→Prop}(h:bEy e k=true)(f:∀x y,k x y=true→P (.Expr x y)):P e:=by
 obtain⟨q,h⟩:=di h
 have r:=q
 revert q
 exact Stmt.Expr.elim e r fun x y _=>f x y
def aXk(s:Stmt)(k:Expr→Expr→Bool):Bool:=bAe s fun l v _=>on1 l fun n=>k n v
@[elab_as_elim] theorem iA1{s k}{P:Stmt→Prop}(h:aXk s k=true)(f:∀n v p,k n v=true→P (.Assign [n] v p)):P s:=bFs h fun l v p h=>i1 h fun n h=>f n v p h
def onR(s:Stmt)(k:Expr→Bool):Bool:=bAk s fun v _=>onS v k
@[elab_as_elim] theorem iR{s k}{P:Stmt→Prop}(h:onR s k=true)(f:∀v p,k v=true→P (.Return (some v) p)):P s:=bFy h fun o p h=>iS h fun v h=>f v p h
def bAm(s:Stmt)(k:Expr→Str→Pos→List Expr→Pos→Bool):Bool:=bEy s fun c _=>wY c fun f l w q=>aRl f fun o m p=>onE w (k o m p l q)
@[elab_as_elim] theorem iXC{s k}{P:Stmt→Prop}(h:bAm s k=true)(f:∀o m p l q r,k o m p l q=true→P (.Expr (.Call (.Attribute o m p) l [] q) r)):P s:=iEx h fun c r h=>aI6 h fun g l w q h=>bD7 h fun o m p h=>iE h fun h=>f o m p l q r h
section
variable(nm:Nm)(bd:Nat)(N:List Str)(sc:Scope)
def aZ0(e:Expr):Bool:=bCg e fun _ _ _ _=>true
def swB(x:Str)(p:Pos)(e:Expr):Bool:=!aZ0 e||bCg e fun _ _ s pos=>decide (sc.names.lookup x=some .cell)||(decide (sc.names.lookup x=some .local)&&(p.line==pos.line)&&!(s.names.any fun(n,k)=>n==x&&(k==.local||k==.cell)))
mutual
def bEn:Stm→Stmt→Bool
 |.set i _ e,s=>aXk s fun n v=>kR n fun x p=>aQ1 true N sc i (.Name x p)&&chk nm bd N sc e v&&swB sc x p v
 |.aug i o e,s=>bAf s fun n op v _=>kR n fun x p=>aQ1 true N sc i (.Name x p)&&bC9 o op&&chk nm bd N sc e v
 |.app i e,s=>bAm s fun n m ap l cp=>on1 l fun v=>decide (m="append")&&chk nm bd N sc (.var i) n&&chk nm bd N sc e v&&(ap.endLine==cp.line)
 |.ext i e,s=>bAm s fun n m ap l cp=>on1 l fun v=>decide (m="extend")&&chk nm bd N sc (.var i) n&&chk nm bd N sc e v&&(ap.endLine==cp.line)
 |.ite c a b,s=>aWj s fun t x y _=>chk nm bd N sc c t&&aA7 a x&&aA7 b y
 |.whl c b,s=>bAl s fun t x y _=>onE y (chk nm bd N sc c t&&aA7 b x)
 |.for_ tg it b,s=>bAi s fun t i x y _=>onE y (aXg true N sc tg t&&bCz nm bd N sc it t i&&aA7 b x)
 |.ret e,s=>onR s fun v=>chk nm bd N sc e v
def aA7:Stms→List Stmt→Bool
 |.nil,ss=>ss.isEmpty
 |.cons a r,ss=>onC ss fun s ss=>bEn a s&&aA7 r ss
end
end
section
variable(F:Nat→List Dat→Option Dat)(G:Nat→Option Dat)(fuel:Nat)
def Done(K:Ad)(fl:List Str)(H0 H:Hp)(σ:St)(env:Pl.Env)(D:Ends):Pl.Flow→Prop
 |.nxt e=>∀σ' H',Step K fl H0 H σ env H' σ' e→D.nx σ' H'
 |.ret d=>∀v H',Ext H0 H'→Rep K fl H' (fun a=>H0 a=none) d v→D.rt v H'
def aBy(K:Ad)(fl:List Str)(H0:Hp)(s:Stm):TS:=fun D σ H=>∃env f,RepE K fl H0 H σ env∧Pl.mQ F G fuel s env=some f∧Done K fl H0 H σ env D f
def aXn(K:Ad)(fl:List Str)(H0:Hp)(s:Stms):TS:=fun D σ H=>∃env f,RepE K fl H0 H σ env∧Pl.run F G fuel s env=some f∧Done K fl H0 H σ env D f
end
theorem PS.imp{X:Cx}{e:Stmt}{t t':TS}(h:PS X e t)(f:∀D σ H,t' D σ H→t D σ H):PS X e t':=fun pins s σ H D I q=>h pins s σ H D I (f D σ H q)
theorem PSs.imp{X:Cx}{e:List Stmt}{t t':TS}(h:PSs X e t)(f:∀D σ H,t' D σ H→t D σ H):PSs X e t':=fun pins s σ H D I q=>h pins s σ H D I (f D σ H q)
section
variable{F:Nat→List Dat→Option Dat}{G:Nat→Option Dat}{fuel:Nat}{nm:Nm}{bd k:Nat}{X:Cx}{H0:Hp}{K:Ad}{fl:List Str}
theorem Done.mono{H H1:Hp}{σ σ1:St}{env env1:Pl.Env}{D:Ends}{f:Pl.Flow}(s:Step K fl H0 H σ env H1 σ1 env1)(h:Done K fl H0 H σ env D f):Done K fl H0 H1 σ1 env1 D f:=by
 cases f with
 |nxt e=>exact fun σ' H' q=>h σ' H' (s.trans q)
 |ret d=>exact h
theorem bC0{H H1:Hp}{σ:St}{env:Pl.Env}{e:Tm}{d:Dat}{v:V}{Q:V→Hp→Prop}(R:RepE K fl H0 H σ env)(he:Pl.ev F G e (rho env)=some d)(hf:(flat d||(Pl.src e).all (fun j=>!owned env j))=true)
  (q:∀v H1,Ext H H1→Rep K fl H1 (fun a=>¬Bd env σ a) d v→Q v H1):tEv F G K fl e σ H Q:=by
 rw[Eu]at hf
 rcases hf with hf|hf
 .exact one R.renv he fun v H1 e1 r1=>q v H1 e1 (r1.flat hf)
 .exact⟨rho env,_,d,R.renv,he,R.rsrc hf,fun v H1 e1 r1 _=>q v H1 e1 (r1.wide fun a z=>z.elim id fun n=>R.bdn n)⟩
theorem aOp{e:Tm}{i:Nat}{o:Bool}{D:Ends}{σ:St}{H:Hp}(h:aBy F G fuel K fl H0 (.set i o e) D σ H):aXl (tEv F G K fl e) (vR i) D σ H:=by
 obtain⟨env,f,R,hr,hd⟩:=h
 cases o with
 |true=>
  obtain⟨d,he,hr⟩:=Aa.mp hr
  split at hr
  .rename_i hc
   rw[Ac]at hc
   cases hr
   cases d<;>first|(exfalso;cases hc.2;done)|skip
   rename_i ds
   refine⟨rho env,fun _=>True,.lst ds,R.renv,he,Rsrc.all R.renv,fun v H1 e1 r1 n1=>?_⟩
   obtain⟨p,vs,rfl,_,hp,rs⟩:=r1.toLst
   have hn:=n1 hc.1 ds p rfl rfl
   exact hd _ _ (Step.setO R e1 hn hp (rs.wide fun _ _=>trivial) hc.2 i)
  .cases hr
 |false=>
  obtain⟨d,he,hr⟩:=Aa.mp hr
  split at hr
  .rename_i hc
   cases hr
   exact bC0 (H1:=H) (v:=.non) R he hc fun v H1 e1 r1=>hd _ _ (Step.set R e1 r1 i)
  .cases hr
theorem swF{e:Expr}{t:Option Expr}{l:Nat}{env:Gq}(h:aZ0 e=false)(he:bV e=true):swapsWith e t l env=pure false:=by
 cases e<;>first|rfl|(cases h;done)|(cases he;done)
theorem bG3{o:Bop}{op:Operator}(ho:bC9 o op=true):∃r:R2,OpR X (inplaceOp op) r∧∀(x z:Int)(d:Dat)(H:Hp)(Q:VK),Pl.bop o (.int x) (.int z)=some d→(∀u,d=.int u→Q (.int u) H)→(∃u,d=.int u)∧r (.int x) (.int z) H Q:=by
 cases o<;>cases op<;>first|(exfalso;cases ho;done)|skip
 .exact⟨_,aUg,fun x z d H Q h q=>by cases h;exact⟨⟨_,rfl⟩,_,_,rfl,rfl,q _ rfl⟩⟩
 .exact⟨_,aUj,fun x z d H Q h q=>by cases h;exact⟨⟨_,rfl⟩,_,_,rfl,rfl,q _ rfl⟩⟩
 .refine⟨_,aUi,fun x z d H Q h q=>?_⟩
  simp only[Pl.bop,Pl.n2]at h
  split at h
  .rename_i hm
   cases h
   exact⟨⟨_,rfl⟩,_,_,rfl,rfl,by have h2:=dqt hm;unfold aXe;omega,q _ rfl⟩
  .cases h
 .refine⟨_,aQd,fun x z d H Q h q=>?_⟩
  simp only[Pl.bop,Pl.n2]at h
  split at h
  .rename_i hm
   cases h
   exact⟨⟨_,rfl⟩,_,_,rfl,rfl,by have h2:=dqt hm;exact h2,q _ rfl⟩
  .cases h
 .refine⟨_,aUh,fun x z d H Q h q=>?_⟩
  simp only[Pl.bop,Pl.n2]at h
  split at h
  .rename_i hm
   cases h
   exact⟨⟨_,rfl⟩,_,_,rfl,rfl,hm,q _ rfl⟩
  .cases h
theorem bBk{o:Bop}{op:Operator}{e:Tm}{i:Nat}{r:R2}{D:Ends}{σ:St}{H:Hp}(hk:∀(x z:Int)(d:Dat)(H:Hp)(Q:VK),Pl.bop o (.int x) (.int z)=some d→(∀u,d=.int u→Q (.int u) H)→(∃u,d=.int u)∧r (.int x) (.int z) H Q)
  (h:aBy F G fuel K fl H0 (.aug i o e) D σ H):bF7 i (tEv F G K fl e) r D σ H:=by
 obtain⟨env,f,R,hr,hd⟩:=h
 simp only[Pl.mQ]at hr
 split at hr
 .rename_i x ow hi
  obtain⟨y,he,hr1⟩:=Aa.mp hr
  cases y<;>first|(exfalso;cases hr1;done)|skip
  rename_i z
  obtain⟨d,hb,rfl⟩:=Ae.mp hr1
  obtain⟨v,hv,rv⟩:=R.slot hi
  cases rv.toInt
  refine⟨_,hv,one R.renv he fun w H1 e1 r1=>?_⟩
  cases r1.toInt
  refine(hk x z d H1 _ hb fun u hu=>?_).2
  subst hu
  exact hd _ _ (Step.set R e1 Rep.int i)
 .cases hr
theorem bBj{e:Tm}{i:Nat}{D:Ends}{σ:St}{H:Hp}(h:aBy F G fuel K fl H0 (.app i e) D σ H):aP3 (tBM K "list" aFs (aJl i) (uI F G K fl (.cons e .nil))) D σ H:=by
 obtain⟨env,f,R,hr,hd⟩:=h
 simp only[Pl.mQ]at hr
 split at hr
 .rename_i l hi
  obtain⟨d,he,hr1⟩:=Aa.mp hr
  split at hr1
  .rename_i hc
   rw[Ac,dqe]at hc
   cases hr1
   obtain⟨a,vs,ds,hs,hd',ha,hfl,rs,h0⟩:=R.own i _ hi
   cases hd'
   have hev:Pl.evs F G (.cons e .nil) (rho env)=some [d]:=by simp[Pl.evs,he]
   refine⟨_,hs,.inl ⟨rfl,vs,SqL.of ha⟩,rho env,fun _=>True,[d],R.renv,hev,Rsrc.all R.renv,fun us H1 e1 r1=>?_⟩
   obtain⟨w,rfl,rw'⟩:=nS r1
   refine⟨a,vs,w,rfl,rfl,e1 _ _ ha,by rw[←rs.length,sizeLine_eq];exact hc.2,?_⟩
   refine hd _ _ (Step.chg R hi hs e1 ((rs.ext e1).app (Reps.one (rw'.flat hc.1))) ?_)
   simp only[Fo,hfl,Bz,hc.1,List.all_nil,Ej]
  .cases hr1
 .cases hr
theorem bBl{e:Tm}{i:Nat}{D:Ends}{σ:St}{H:Hp}(h:aBy F G fuel K fl H0 (.ext i e) D σ H):aP3 (tBM K "list" aOi (aJl i) (uI F G K fl (.cons e .nil))) D σ H:=by
 obtain⟨env,f,R,hr,hd⟩:=h
 simp only[Pl.mQ]at hr
 split at hr
 .rename_i l hi
  obtain⟨d,he,hr1⟩:=Aa.mp hr
  cases d<;>first|(exfalso;cases hr1;done)|skip
  rename_i m
  simp only[]at hr1
  split at hr1
  .rename_i hc
   rw[Ac,dqe]at hc
   cases hr1
   obtain⟨a,vs,ds,hs,hd',ha,hfl,rs,h0⟩:=R.own i _ hi
   cases hd'
   have hev:Pl.evs F G (.cons e .nil) (rho env)=some [.lst m]:=by simp[Pl.evs,he]
   refine⟨_,hs,.inl ⟨rfl,vs,SqL.of ha⟩,rho env,fun _=>True,[.lst m],R.renv,hev,Rsrc.all R.renv,fun us H1 e1 r1=>?_⟩
   obtain⟨w,rfl,rw'⟩:=nS r1
   obtain⟨b,zs,rfl,_,hb,rz⟩:=rw'.toLst
   refine⟨a,b,vs,zs,rfl,rfl,e1 _ _ ha,hb,by rw[←rs.length,←rz.length,sizeLine_eq];exact hc.2,?_⟩
   refine hd _ _ (Step.chg R hi hs e1 ((rs.ext e1).app (rz.flat hc.1)) ?_)
   simp only[Fo,hfl,hc.1,Ej]
  .cases hr1
 .cases hr
theorem bBo{e:Tm}{D:Ends}{σ:St}{H:Hp}(h:aBy F G fuel K fl H0 (.ret e) D σ H):aXm (tEv F G K fl e) D σ H:=by
 obtain⟨env,f,R,hr,hd⟩:=h
 obtain⟨d,he,hr1⟩:=Aa.mp hr
 split at hr1
 .rename_i hc
  cases hr1
  rw[Eu,Eu]at hc
  rcases hc with(hc|hc)|hc
  .exact one R.renv he fun v H1 e1 r1=>hd v H1 (R.grow.trans e1) (r1.flat hc)
  .rw[Ac]at hc
   cases d<;>first|(exfalso;cases hc.2;done)|skip
   rename_i ds
   refine⟨rho env,fun _=>True,.lst ds,R.renv,he,Rsrc.all R.renv,fun v H1 e1 r1 n1=>?_⟩
   obtain⟨p,vs,rfl,_,hp,rs⟩:=r1.toLst
   exact hd _ H1 (R.grow.trans e1) (Rep.lst (R.grow.none (n1 hc.1 ds p rfl rfl)) hp (rs.flat hc.2))
  .exact⟨rho env,_,d,R.renv,he,R.rmine hc,fun v H1 e1 r1 _=>hd v H1 (R.grow.trans e1) (r1.wide fun a z=>z.elim id fun n=>R.grow.none n)⟩
 .cases hr1
theorem aTd{c:Tm}{env:Pl.Env}{b:Bool}{σ:St}{H:Hp}{Q:Bool→Hp→Prop}(R:RepE K fl H0 H σ env)(h:Pl.tst F G c (rho env)=some b)(q:∀H1,Ext H H1→Q b H1):yI F G K fl c σ H Q:=⟨rho env,b,R.renv,h,q⟩
theorem bBn{c:Tm}{a b:Stms}{D:Ends}{σ:St}{H:Hp}(h:aBy F G fuel K fl H0 (.ite c a b) D σ H):bE9 (yI F G K fl c) (aXn F G fuel K fl H0 a) (aXn F G fuel K fl H0 b) D σ H:=by
 obtain⟨env,f,R,hr,hd⟩:=h
 obtain⟨k,hk,hr1⟩:=Aa.mp hr
 refine aTd R hk fun H1 e1=>?_
 have s1:=Step.ext R e1
 cases k with
 |true=>simp only[if_true]at hr1 ⊢;exact⟨env,f,s1.rep,hr1,hd.mono s1⟩
 |false=>simp only[Do,if_false]at hr1 ⊢;exact⟨env,f,s1.rep,hr1,hd.mono s1⟩
theorem bBp{c:Tm}{b:Stms}{D:Ends}{σ:St}{H:Hp}(h:aBy F G fuel K fl H0 (.whl c b) D σ H):aTc (yI F G K fl c) (aXn F G fuel K fl H0 b) D σ H:=by
 obtain⟨env,f,R,hr,hd⟩:=h
 refine⟨fun m σ' H'=>∃env',RepE K fl H0 H' σ' env'∧Pl.lE (fun e=>Pl.tst F G c (rho e)) (fun e=>Pl.run F G fuel b e) m env'=some f∧Done K fl H0 H' σ' env' D f,⟨fuel,env,R,hr,hd⟩,?_⟩
 rintro m σ1 H1 ⟨env1,R1,hr1,hd1⟩
 cases m with
 |zero=>cases hr1
 |succ m=>
  obtain⟨k,hk,hr2⟩:=Aa.mp hr1
  refine aTd R1 hk fun H2 e2=>?_
  have s2:=Step.ext R1 e2
  cases k with
  |false=>
   simp only[Do,if_false]at hr2 ⊢
   cases hr2
   exact(hd1.mono s2) σ1 H2 (Step.refl s2.rep)
  |true=>
   simp only[if_true]at hr2 ⊢
   obtain⟨g,hg,hr3⟩:=Aa.mp hr2
   refine⟨fun σ' H'=>∃env',RepE K fl H0 H' σ' env'∧Pl.lE (fun e=>Pl.tst F G c (rho e)) (fun e=>Pl.run F G fuel b e) m env'=some f∧Done K fl H0 H' σ' env' D f,fun σ' H' q=>⟨m,Fb m,q⟩,env1,g,s2.rep,hg,?_⟩
   have hd2:=hd1.mono s2
   cases g with
   |nxt e'=>exact fun σ' H' q=>⟨e',q.rep,hr3,hd2.mono q⟩
   |ret d=>cases hr3;exact hd2
theorem aTt{tg:Tg}{d:Dat}{env env':Pl.Env}{σ:St}{H:Hp}{v:V}{Q:St→Hp→Prop}(hb:Pl.aPs tg d env=some env')(R:RepE K fl H0 H σ env)(rv:Rep K fl H (fun a=>¬Bd env σ a) d v)(hd:∀i j,tg=.two i j→i≠j)
  (q:∀σ2,Step K fl H0 H σ env H σ2 env'→Q σ2 H):gOf K tg v σ H Q:=by
 cases tg with
 |one i=>
  cases hb
  exact q _ (Step.set R Ext.refl rv i)
 |two i j=>
  match d,hb,rv with
  |.tup [d1,d2],hb,rv=>
   cases hb
   obtain⟨T,vs,rfl,hT,rs⟩:=rv.toTup
   obtain⟨v1,v2,rfl,r1,r2⟩:=aBl rs
   refine⟨T,[v1,v2],rfl,xH (S:=fun a=>¬Bd env σ a) hT,rfl,v1,[v2],rfl,v2,[],rfl,rfl,?_⟩
   have s1:=Step.set R Ext.refl r1 i
   refine q _ (s1.trans (Step.set s1.rep Ext.refl ?_ j))
   exact r2.tr.wide fun a n b=>(s1.bd a b).elim n.1 fun z=>by obtain⟨_,o,e⟩:=n;rw[z]at e;cases e
theorem bBm{tg:Tg}{it:Wk}{b:Stms}{D:Ends}{σ:St}{H:Hp}(hdt:∀i j,tg=.two i j→i≠j)(h:aBy F G fuel K fl H0 (.for_ tg it b) D σ H):bF9 (aJu F G K fl it) (gOf K tg) (aXn F G fuel K fl H0 b) D σ H:=by
 obtain⟨env,f,R,hr,hd⟩:=h
 obtain⟨ds,hit,hr1⟩:=Aa.mp hr
 split at hr1
 .rename_i hc
  refine⟨rho env,_,ds,R.renv,hit,R.rsrc hc,fun J H1 U e1 hU wk=>?_⟩
  have s1:=Step.ext R e1
  let W:Nat→Nat→St→Hp→Prop:=fun i m σ' H'=>m=ds.length-i∧i≤ds.length∧∃env',Step K fl H0 H1 σ env H' σ' env'∧Pl.lN tg (fun e=>Pl.run F G fuel b e) (ds.drop i) env'=some f
  refine⟨W,⟨ds.length,rfl,E4 _,env,Step.refl s1.rep,hr1⟩,?_⟩
  rintro i m σ2 H2 ⟨rfl,hile,env2,s2,hr2⟩
  have nU:∀a,U a→¬Bd env σ a:=fun a u=>(hU a u).1.elim id fun n=>R.bdn n
  have keep:Keep U H1 H2:=fun a o u e=>s2.keep a o (nU a u) e
  by_cases hi:i<ds.length
  .right
   have hdi:ds[i]?=some ds[i]:=Bf hi
   have hdr:ds.drop i=ds[i]::ds.drop (i+1):=Eo hi
   rw[hdr]at hr2
   obtain⟨env3,hb,hr3⟩:=Aa.mp hr2
   obtain⟨g,hg,hr4⟩:=Aa.mp hr3
   obtain⟨hgo,hy⟩:=wk.step H2 keep i _ hdi
   refine⟨hgo,fun σ' H'=>W (i+1) (ds.length-(i+1)) σ' H',fun σ' H' w=>⟨_,by omega,w⟩,fun v H3 yl=>?_⟩
   obtain⟨e3,rv⟩:=hy v H3 yl
   have s3:=s2.trans (Step.ext s2.rep e3)
   have rv':Rep K fl H3 (fun a=>¬Bd env2 σ2 a) ds[i] v:=rv.wide fun a z bd=>z.elim (fun u=>(s2.bd a bd).elim (nU a u) fun n=>by
    obtain⟨o,e⟩:=(hU a u).2
    rw[n]at e;cases e) fun n=>s2.rep.bdn n bd
   refine aTt hb s3.rep rv' hdt fun σ4 s4=>?_
   have s5:=s3.trans s4
   refine⟨env3,g,s5.rep,hg,?_⟩
   have hd5:=(hd.mono s1).mono s5
   cases g with
   |nxt e'=>exact fun σ' H' q=>⟨rfl,hi,e',s5.trans q,hr4⟩
   |ret d=>cases hr4;exact hd5
  .left
   have e:i=ds.length:=by omega
   subst e
   rw[Lq]at hr2
   cases hr2
   exact⟨wk.stop H2 keep,(hd.mono s1) σ2 H2 s2⟩
 .cases hr1
end
section
variable{F:Nat→List Dat→Option Dat}{G:Nat→Option Dat}{fuel:Nat}{nm:Nm}{bd k:Nat}{X:Cx}{H0:Hp}
theorem aS4{elt:Expr}{gs:List Comprehension}{scope:Scope}{pos py:Pos}{y:Str}{l:Nat}{env:Gq}(hy:env.scope.names.lookup y=some .cell):swapsWith (.ListComp elt gs scope pos) (some (.Name y py)) l env=pure false:=by
 have ky:env.kindOf y=some .cell:=hy
 have kz:(env.kindOf y==some .local)=false:=by rw[ky];rfl
 unfold swapsWith
 simp only[kz,Mn,Mb]
theorem aEg{top:Bool}{N:List Str}{sc:Scope}{i:Nat}{w:Str}{p:Pos}(h:aQ1 top N sc i (.Name w p)=true):N[i]?=some w∧aZ9 top sc w=true:=by
 have h:(decide (N[i]?=some w)&&aZ9 top sc w)=true:=h
 rw[Ac,dqe]at h
 exact h
theorem aPb{i:Nat}{e:Expr}(h:chk nm bd X.N X.env.scope (.var i) e=true):(∃x p,e=.Name x p)∧PE X e (aJl i):=by
 refine pI h fun x p h=>?_
 simp only[Ac,dqe]at h
 exact⟨⟨_,_,rfl⟩,aO5 h.1.1 (aTh h.1.2) (gS h.2).1 (gS h.2).2⟩
theorem bDf{N:List Str}{sc s:Scope}{e:Tm}{x:Expr}{l:List Comprehension}{p:Pos}(h:chk nm bd N sc e (.ListComp x l s p)=true):∃el tg it cs,e=.lc el tg it cs:=by
 cases e with
 |lc el tg it cs=>exact⟨_,_,_,_,rfl⟩
 |call f r=>cases r<;>cases h
 |blt f l=>cases f<;>cases h
 |_=>cases h
mutual
theorem sS(hf:∀w,X.fn w=true)(hx:X.xe=fun _ _=>False)(hk:X.env.scope.kind=.function)(C:Ctx F G nm bd k X):∀(s:Stm)(st:Stmt),bEn nm bd X.N X.env.scope s st=true→PS X st (aBy F G fuel X.K nm.fls H0 s)
 |.set i o e,st,h=>by
  refine iA1 h fun n v pos h=>?_
  refine pI h fun w p h=>?_
  simp only[Ac]at h
  obtain⟨⟨hn,he⟩,hs⟩:=h
  have ge:=sE e X v C he
  have hn:=aEg hn
  obtain⟨hl,hl2⟩:=aGu hn.2
  have g:PG X (.Name w p) (vR i):=aO6 C.nd hn.1 hl (.inl (hf w))
  cases hlc:aZ0 v with
  |false=>exact PS.imp (qY C.nd hn.1 hl ge.2.1 (swF hlc ge.1) (.inl (hf w))) fun D σ H q=>aOp q
  |true=>
   unfold swB at hs
   rw[hlc]at hs
   revert he ge hlc
   refine iLc hs fun elt gens sc lpos hs=>?_
   intro he ge _
   simp only[Eu,Ac,dqe,Gz]at hs
   rcases hs with hs|hs
   case inl=>exact PS.imp (qY C.nd hn.1 hl ge.2.1 (aS4 hs) (.inl (hf w))) fun D σ H q=>aOp q
   obtain⟨el,tg,it,cs,rfl⟩:=bDf he
   replace he:on1 gens _=true:=he
   refine i1 he fun g he=>?_
   obtain⟨t,i',ifs,z⟩:=g
   simp only[Ac,dqe]at he
   obtain⟨⟨⟨⟨⟨hz,hb⟩,hg⟩,hi⟩,hx'⟩,hc⟩:=he
   subst hz
   have gi:=sI it X t i' C hi
   have el1:∀(s1:Shared)(H:Hp)(D:Addr)(cl:List (Str×Addr))(fp:List Addr),PE (X.blk s1 H sc (compEnvC sc cl D X.env) fp) elt (tEv F G X.K nm.fls el):=fun s1 H D cl fp=>(sE el (X.blk s1 H sc (compEnvC sc cl D X.env) fp) elt (C.blk s1 H sc _ fp) hx').2.1
   have el2:∀(s1:Shared)(H:Hp)(D:Addr)(cl:List (Str×Addr))(fp:List Addr),PTs (X.blk s1 H sc (compEnvC sc cl D X.env) fp) ifs (aP4 F G X.K nm.fls cs):=fun s1 H D cl fp=>sT cs (X.blk s1 H sc (compEnvC sc cl D X.env) fp) ifs (C.blk s1 H sc _ fp) hc
   have core:=(lcE (pos:=lpos) C hb hg gi.1 gi.2 el1 el2).2
   refine PS.imp (aRv C.calm C.nd hn.1 hs.1.1 (aXa hk hs.1.1 hs.1.2 hs.2) gi.2 (aG4 hb) (fun s1 H D cl fp=>bE3 (X:=X.blk s1 H sc (compEnvC sc cl D X.env) fp) (top:=false) C.calm C.nd (fun q=>nomatch q) hg) el2 el1 (aOs gi.1)) fun D σ H q=>core σ H _ (aOp q)
 |.aug i o e,st,h=>by
  refine bFt h fun n op v _ h=>?_
  refine pI h fun w p h=>?_
  simp only[Ac,dqe]at h
  obtain⟨⟨hn,ho⟩,he⟩:=h
  have hn:=aEg hn
  obtain⟨hl,hl2⟩:=aGu hn.2
  obtain⟨r,hr,hk'⟩:=bG3 (X:=X) ho
  exact PS.imp (bB6 C.nd hn.1 hl (sE e X _ C he).2.1 hr (.inl (hf _))) fun D σ H q=>bBk (op:=.Add) hk' q
 |.app i e,st,h=>by
  refine iXC h fun n m ap l cp _ h=>?_
  refine i1 h fun v h=>?_
  simp only[Ac,dqe]at h
  obtain⟨⟨⟨hm,hv⟩,he⟩,hl⟩:=h
  subst hm
  have ge:=sE e X v C he
  obtain⟨⟨_,_,rfl⟩,hv⟩:=aPb hv
  exact PS.imp (sP (aJa C5 Gd Ge wJ hv (jH ge.1 ge.2.1 tL) rfl (by rw[bE ge.1];rfl) hl (bE ge.1) rfl)) fun D σ H q=>bBj q
 |.ext i e,st,h=>by
  refine iXC h fun n m ap l cp _ h=>?_
  refine i1 h fun v h=>?_
  simp only[Ac,dqe]at h
  obtain⟨⟨⟨hm,hv⟩,he⟩,hl⟩:=h
  subst hm
  have ge:=sE e X v C he
  obtain⟨⟨_,_,rfl⟩,hv⟩:=aPb hv
  exact PS.imp (sP (aJa C5 Iq Ir aCp hv (jH ge.1 ge.2.1 tL) rfl (by rw[bE ge.1];rfl) hl (bE ge.1) rfl)) fun D σ H q=>bBl q
 |.ite c a b,st,h=>by
  refine bEv h fun t x y _ h=>?_
  simp only[Ac]at h
  exact PS.imp (bB8 (sE c X _ C h.1.1).2.2 (sSs hf hx hk C a _ h.1.2) (sSs hf hx hk C b _ h.2)) fun D σ H q=>bBn q
 |.whl c b,st,h=>by
  refine bG0 h fun t x y _ h=>?_
  refine iE h fun h=>?_
  simp only[Ac]at h
  exact PS.imp (aHe (by rw[hx];exact PassesOwn.never) (sE c X _ C h.1).2.2 (sSs hf hx hk C b _ h.2)) fun D σ H q=>bBp q
 |.for_ tg it b,st,h=>by
  refine bFw h fun t i x y _ h=>?_
  refine iE h fun h=>?_
  simp only[Ac]at h
  have gi:=sI it X _ _ C h.1.2
  exact PS.imp (bB7 (by rw[hx];exact PassesOwn.never) C.calm gi.2 (bE3 (top:=true) C.calm C.nd (fun _=>hf) h.1.1) (sSs hf hx hk C b _ h.2) (aOs gi.1)) fun D σ H q=>bBm (fun i j z=>by subst z;exact aH6 h.1.1) q
 |.ret e,st,h=>by
  refine iR h fun v _ h=>?_
  exact PS.imp (zB (sE e X _ C h).2.1) fun D σ H q=>bBo q
theorem sSs(hf:∀w,X.fn w=true)(hx:X.xe=fun _ _=>False)(hk:X.env.scope.kind=.function)(C:Ctx F G nm bd k X):∀(s:Stms)(st:List Stmt),aA7 nm bd X.N X.env.scope s st=true→PSs X st (aXn F G fuel X.K nm.fls H0 s)
 |.nil,st,h=>by
  cases List.isEmpty_iff.mp h
  exact PSs.imp aOe fun D σ H q=>by obtain⟨env,f,R,hr,hd⟩:=q;cases hr;exact hd σ H (Step.refl R)
 |.cons a r,st,h=>by
  refine iC h fun s ss h=>?_
  simp only[Ac]at h
  refine PSs.imp (gT (sS hf hx hk C a _ h.1) (sSs hf hx hk C r _ h.2)) fun D σ H q=>?_
  obtain⟨env,f,R,hr,hd⟩:=q
  obtain⟨g,hg,hr1⟩:=Aa.mp hr
  refine⟨env,g,R,hg,?_⟩
  cases g with
  |nxt e'=>exact fun σ' H' s1=>⟨e',f,s1.rep,hr1,hd.mono s1⟩
  |ret d=>cases hr1;exact hd
end
end
section
variable{F:Nat→List Dat→Option Dat}{G:Nat→Option Dat}{nm:Nm}{P:Program}{w:World}{K:Ad}{mg:Str→Option Value}{base:Heap}
structure DefOk(F:Nat→List Dat→Option Dat)(nm:Nm)(P:Program)(w:World)(K:Ad)(mg:Str→Option Value)(base:Heap)(g:Nat)(f:Addr)(fd:FuncData)(ps:List Str):Prop where
 ok:FnOk P w K mg base CX0 (g+1) f fd ps (spM K nm.fls ps.length (F g))
 mg:∀x,nm.defs[g]?=some x→mg x=some (.ref f)
 kp:Bl K (.ref f)=true
 bi:Binds K fd ps []
 ar:∀ds d,F g ds=some d→ds.length=ps.length
structure Base(G:Nat→Option Dat)(nm:Nm)(K:Ad)(mg:Str→Option Value):Prop where
 gls:∀g x d,nm.gls[g]?=some x→G g=some d→∃u v,mg x=some u∧gX v u∧Rep K nm.fls (fun _=>none) (fun _=>False) d v
 blt:∀x∈(["len","sum","max","min","abs","all","any","list","sorted","range","enumerate","zip","reversed"]:List Str),mg x=none
noncomputable def pY (N ps:List Str) (sc:Scope):Bool:=
 decide (sc.kind=.function)&&decide (sc.isCoroutine=false)&&decide (sc.isGenerator=false)&&decide N.Nodup&&decide (N.take ps.length=ps) &&
  (ps.all fun x=>match sc.names.lookup x with|some .local=>true|some .cell=>true|_=>false)&&(sc.names.all fun y=>decide (y.2≠.free))
theorem nX{N ps:List Str}{sc:Scope}(h:pY N ps sc=true):FnScope N ps sc:=by
 unfold pY at h
 simp only[Ac,dqe,Bc]at h
 obtain⟨⟨⟨⟨⟨⟨h1,h2⟩,h3⟩,h4⟩,h5⟩,h6⟩,h7⟩:=h
 refine⟨h1,h2,h3,h4,h5,fun x hx=>?_,h7⟩
 have q:=h6 x hx
 split at q
 .left;assumption
 .right;assumption
 .cases q
theorem aOm{H:Hp}{N:List Str}{vs:List V}{ds:List Dat}{n:Nat}(hn:N.length=n)(hl:ds.length≤n)(r:Reps K nm.fls H (fun _=>True) ds vs):RepE K nm.fls H H (L2.start N vs) (Pl.start n ds):=by
 have no:∀i,owned (Pl.start n ds) i=false:=fun i=>by
  cases h:owned (Pl.start n ds) i with
  |false=>rfl
  |true=>
   obtain⟨d,q⟩:=cV.mp h
   unfold Pl.start at q
   rcases Ed.mp (Du q)with z|z
   .obtain⟨_,_,z⟩:=Cd.mp z
    cases z
   .cases(Ih.mp z).2
 have nb:∀σ a,¬Bd (Pl.start n ds) σ a:=fun σ a ⟨i,h,_⟩=>by rw[no i]at h;cases h
 refine⟨?_,Ext.refl,fun i d q=>?_,fun i d q=>?_,fun i j a h=>by rw[no i]at h;cases h⟩
 .unfold L2.start Pl.start
  simp[hn,←r.length]
 .have hi:ds[i]?=some d:=by
   unfold Pl.start at q
   by_cases h:i<ds.length
   .rw[Cz (by simpa using h),Bb]at q
    obtain⟨d',h1,h2⟩:=Ae.mp q
    cases h2
    exact h1
   .exfalso
    rw[Dx (by simpa using Lr h)]at q
    cases(Ih.mp (Du q)).2
  obtain⟨v,hv,rv⟩:=r.get hi
  refine⟨v,?_,rv.wide fun a _=>nb _ a⟩
  unfold L2.start
  have h:=(As.mp hv).1
  rw[Cz (by simpa using h),Bb,hv]
  rfl
 .have h:=cV.mpr ⟨d,q⟩
  rw[no i]at h;cases h
theorem aSn{g n:Nat}{x qual:Str}{st:Stmt}{f:Addr}{fd:FuncData}{N ps:List Str}{b:Stms}(B:Base G nm K mg)
  (prev:∀g',g'<g→(∃ds d,F g' ds=some d)→∃f fd ps,DefOk F nm P w K mg base g' f fd ps) (hm:∀y,nm.defs[g]?=some y→mg y=some (.ref f)) (Fn:Fun K x qual st f fd) (hs:pY N ps (bL st)=true) (hb:Binds K fd ps []) (hc:aA7 nm g N (bL st) b (fS st)=true)
  (hT:∀t y,nm.tabs[t]?=some y→bC4 F nm P w K mg base g y t) (hn:N.length=n) (ar:∀ds d,F g ds=some d→ds.length=ps.length) (hp:Pl.Computes F G n b (F g)):DefOk F nm P w K mg base g f fd ps:=by
 refine⟨?_,hm,Fn.kp,hb,ar⟩
 have S:=nX hs
 refine Fn.ok S (fun vs H Q E h=>?_) fun cdv A outer s H vs Q E hr h=>?_
 .obtain⟨ds,d,hl,_,r,_⟩:=h
  rw[←hl,r.length]
 .obtain⟨ds,d,hl,hd,r,q⟩:=h
  obtain⟨hle,fuel,hrun⟩:=hp ds d hd
  have C:Ctx F G nm g g (aPm CX0 P w K mg base N qual (bL st) f cdv A outer s H E).nox:=
   ⟨rfl,S.nd,hr,fun g' y hg' hy hex=>by
    obtain⟨f',fd',ps',D⟩:=prev g' hg' hex
    exact⟨f',fd',ps',D.ok.mono hg',D.mg y hy,D.kp,D.bi,D.ar⟩,B.gls,B.blt,hT⟩
  refine⟨aXn F G fuel K nm.fls H b,sSs (X:=(aPm CX0 P w K mg base N qual (bL st) f cdv A outer s H E).nox) (fun _=>rfl) rfl S.kind C b _ hc,?_⟩
  exact⟨Pl.start n ds,.ret d,aOm hn hle r,hrun,fun v H' e r'=>q v H' e r'⟩
end
end L2.Sd
namespace L2.Sd
set_option maxRecDepth 100000
open PySem PyProof.Rows
open PySem.Spec hiding Tm
open Pl (Dat Tm Tms Wk Stm Stms Rho Bop Cop Blt Tg SZ flat flats OStm OStms OFlow obj oP)
noncomputable def hfs (p:Int) (sa:Addr):List (Str×V):=[("prime",.int p),("steps",.ref sa)]
theorem bB9:¬("prime":Str)="steps":=by decide +kernel
theorem aM2{p:Int}{sa:Addr}:(hfs p sa).lookup ("prime":Str)=some (V.int p):=by
 have e:(("prime":Str) == "prime")=true:=by decide +kernel
 simp only[hfs,E3,e]
theorem qD{p:Int}{sa:Addr}:(hfs p sa).lookup ("steps":Str)=some (V.ref sa):=by
 have e:(("steps":Str) == "prime")=false:=by decide +kernel
 have e2:(("steps":Str) == "steps")=true:=by decide +kernel
 simp only[hfs,E3,e,e2]
theorem aOg{p q:Int}{sa:Addr}:uG "prime" (.int q) (hfs p sa)=hfs q sa:=by
 simp only[hfs,uG,ip]
theorem aOh{p:Int}{sa sb:Addr}:uG "steps" (.ref sb) (hfs p sa)=hfs p sb:=by
 simp only[hfs,uG,ig bB9,ip]
noncomputable abbrev fl2:List Str:=["steps","prime"]
structure WayAt(K:Ad)(C:Addr)(H:Hp)(wa sa:Addr)(l:List Dat)(p:Int):Prop where
 ins:∃dx,H wa=some (.ins C dx (hfs p sa))
 lst:∃vs,H sa=some (.lst vs)∧Reps K fl2 H (fun _=>True) l vs
 fl:l.all flat=true
structure ClsOk(K:Ad)(C:Addr):Prop where
 cl:Cls K C
 n0:oG K C "steps"
 n1:oG K C "prime"
section
variable{K:Ad}{C:Addr}{H H':Hp}{wa sa:Addr}{l:List Dat}{p:Int}
theorem WayAt.ne(W:WayAt K C H wa sa l p):sa≠wa:=fun e=>by
 obtain⟨dx,h1⟩:=W.ins
 obtain⟨vs,h2,_⟩:=W.lst
 rw[e,h1]at h2;cases h2
theorem WayAt.keep(W:WayAt K C H wa sa l p)(h1:∀o,H wa=some o→H' wa=some o)(h2:∀o,H sa=some o→H' sa=some o):WayAt K C H' wa sa l p:=
 ⟨let ⟨dx,e⟩:=W.ins;⟨dx,h1 _ e⟩,let ⟨vs,e,r⟩:=W.lst;⟨vs,h2 _ e,r.flat W.fl⟩,W.fl⟩
theorem WayAt.ext(W:WayAt K C H wa sa l p)(e:Ext H H'):WayAt K C H' wa sa l p:=W.keep (fun o=>e wa o) fun o=>e sa o
theorem WayAt.rep(T:ClsOk K C)(W:WayAt K C H wa sa l p):Rep K fl2 H (fun _=>True) (.rcd [.lst l,.int p]) (.ref wa):=by
 obtain⟨dx,h1⟩:=W.ins
 obtain⟨vs,h2,r⟩:=W.lst
 simp only[Rep]
 refine⟨wa,C,dx,hfs p sa,rfl,trivial,h1,T.cl,?_⟩
 simp only[xO]
 refine⟨_,_,rfl,T.n0,⟨_,qD,?_⟩,_,_,rfl,T.n1,⟨_,aM2,?_⟩,trivial⟩
 .exact Rep.lst trivial h2 r
 .exact Rep.int
end
def spO(K:Ad)(C:Addr)(n:Nat)(m:List Dat→Int→List Dat→Option (Dat×List Dat×Int)):Sp:=fun vs H Q _=>∃wa sa l p avs args z,vs=V.ref wa::avs∧args.length+1=n∧WayAt K C H wa sa l p ∧
 Reps K fl2 H (fun a=>a≠wa∧a≠sa) args avs∧m l p args=some z ∧
 ∀v H' sb,WayAt K C H' wa sb z.2.1 z.2.2→(∀a o,H a=some o→a≠wa→a≠sa→H' a=some o)→(sb=sa∨H sb=none)→(∃o,H' sa=some o)→Rep K fl2 H' (fun a=>H a=none∧a≠sb) z.1 v→Q v H'
structure RepO(K:Ad)(C:Addr)(H0:Hp)(wa s0:Addr)(H:Hp)(σ:St)(r:Rho)(sa:Addr)(l:List Dat)(p:Int):Prop where
 len:σ.length=r.length
 sg:σ[0]?=some (some (.ref wa))
 rh:r[0]?=some (some (.rcd [.lst l,.int p]))
 way:WayAt K C H wa sa l p
 oth:∀(i:Nat)(d:Dat),i≠0→r[i]?=some (some d)→∃v,σ[i]?=some (some v)∧Rep K fl2 H (fun a=>a≠wa∧a≠sa) d v
 fr:∀a o,H0 a=some o→a≠wa→a≠s0→H a=some o
 sn:sa=s0∨H0 sa=none
 al:∃o,H s0=some o
 in0:∃o,H0 wa=some o
section
variable{K:Ad}{C:Addr}{H0 H H1:Hp}{wa s0 sa:Addr}{σ:St}{r:Rho}{l:List Dat}{p:Int}
theorem RepO.obj(R:RepO K C H0 wa s0 H σ r sa l p){w:List Dat×Int}(h:Pl.obj r=some w):w=(l,p):=by
 unfold Pl.obj at h
 rw[R.rh]at h
 exact(A0 h).symm
theorem RepO.ext(R:RepO K C H0 wa s0 H σ r sa l p)(e:Ext H H1):RepO K C H0 wa s0 H1 σ r sa l p:=
 ⟨R.len,R.sg,R.rh,R.way.ext e,fun i d hi h=>let ⟨v,a,b⟩:=R.oth i d hi h;⟨v,a,b.ext e⟩,fun a o h1 h2 h3=>e a o (R.fr a o h1 h2 h3),R.sn,let ⟨o,h⟩:=R.al;⟨o,e _ _ h⟩,R.in0⟩
theorem RepO.renv(T:ClsOk K C)(R:RepO K C H0 wa s0 H σ r sa l p):Renv K fl2 H σ r where
 len:=R.len
 val:=fun i d h=>by
  by_cases hi:i=0
  .subst hi
   rw[R.rh]at h;cases h
   exact⟨_,R.sg,R.way.rep T⟩
  .obtain⟨v,a,b⟩:=R.oth i d hi h
   exact⟨v,a,b.wide fun _ _=>trivial⟩
theorem RepO.frsh(R:RepO K C H0 wa s0 H σ r sa l p){a:Addr}(h:H a=none):H0 a=none∧a≠sa∧a≠wa:=by
 have h1:a≠wa:=fun e=>by
  obtain⟨dx,q⟩:=R.way.ins
  rw[e,q]at h;cases h
 have h2:a≠sa:=fun e=>by
  obtain⟨vs,q,_⟩:=R.way.lst
  rw[e,q]at h;cases h
 have h3:a≠s0:=fun e=>by
  obtain⟨o,q⟩:=R.al
  rw[e,q]at h;cases h
 refine⟨?_,h2,h1⟩
 cases q:H0 a with
 |none=>rfl
 |some o=>rw[R.fr a o q h1 h3]at h;cases h
theorem RepO.set(R:RepO K C H0 wa s0 H σ r sa l p){d:Dat}{v:V}{i:Nat}(hi:i≠0)(hf:flat d=true)(rv:Rep K fl2 H (fun _=>True) d v):RepO K C H0 wa s0 H (σ.set i (some v)) (r.set i (some d)) sa l p:=by
 refine⟨by simp[R.len],by rw[Au hi];exact R.sg,by rw[Au hi];exact R.rh,R.way,fun j e hj h=>?_,R.fr,R.sn,R.al,R.in0⟩
 rcases lD h with⟨rfl,q,hl⟩|⟨h1,h2⟩
 .cases q
  exact⟨v,by rw[Cb (by rw[R.len];exact hl)],rv.flat hf⟩
 .obtain⟨w,a,b⟩:=R.oth j e hj h2
  exact⟨w,by rw[Au h1];exact a,b⟩
theorem rput{r:Rho}{l m:List Dat}{p q:Int}(h:r[0]?=some (some (.rcd [.lst l,.int p]))):(oP r m q)[0]?=some (some (.rcd [.lst m,.int q])):=by
 unfold oP
 rw[Cb (As.mp h).1]
theorem aFw{r:Rho}{m:List Dat}{q:Int}{i:Nat}(h:i≠0):(oP r m q)[i]?=r[i]?:=by
 unfold oP
 rw[Au (Hm h)]
theorem RepO.onum(R:RepO K C H0 wa s0 H σ r sa l p){dx:Addr}{q:Int}(hw:H wa=some (.ins C dx (hfs p sa))):RepO K C H0 wa s0 (upd H wa (.ins C dx (hfs q sa))) σ (oP r l q) sa l q:=by
 have ne:=R.way.ne
 refine⟨by simp[oP,R.len],R.sg,rput R.rh,⟨⟨dx,bG⟩,?_,R.way.fl⟩,fun i d hi h=>?_,fun a o h1 h2 h3=>by rw[aU h2];exact R.fr a o h1 h2 h3,R.sn,?_,R.in0⟩
 .obtain⟨vs,h1,h2⟩:=R.way.lst
  exact⟨vs,by rw[aU ne];exact h1,h2.flat R.way.fl⟩
 .rw[aFw hi]at h
  obtain⟨v,h1,h2⟩:=R.oth i d hi h
  exact⟨v,h1,h2.mono (fun a o s e=>by rw[aU s.1];exact e) fun _=>id⟩
 .obtain⟨o,h⟩:=R.al
  by_cases e:s0=wa
  .exact⟨_,by rw[e];exact bG⟩
  .exact⟨o,by rw[aU e];exact h⟩
theorem RepO.ochg(R:RepO K C H0 wa s0 H σ r sa l p){m:List Dat}{vs:List V}(rv:Reps K fl2 H (fun _=>True) m vs)(hf:m.all flat=true):RepO K C H0 wa s0 (upd H sa (.lst vs)) σ (oP r m p) sa m p:=by
 have ne:=R.way.ne
 refine⟨by simp[oP,R.len],R.sg,rput R.rh,⟨?_,⟨vs,bG,rv.flat hf⟩,hf⟩,fun i d hi h=>?_,fun a o h1 h2 h3=>?_,R.sn,?_,R.in0⟩
 .obtain⟨dx,h1⟩:=R.way.ins
  exact⟨dx,by rw[aU (Hm ne)];exact h1⟩
 .rw[aFw hi]at h
  obtain⟨v,h1,h2⟩:=R.oth i d hi h
  exact⟨v,h1,h2.mono (fun a o s e=>by rw[aU s.2];exact e) fun _=>id⟩
 .have z:a≠sa:=fun e=>by
   subst e
   rcases R.sn with q|q
   .exact h3 q
   .rw[h1]at q;cases q
  rw[aU z];exact R.fr a o h1 h2 h3
 .obtain⟨o,h⟩:=R.al
  by_cases e:s0=sa
  .exact⟨_,by rw[e];exact bG⟩
  .exact⟨o,by rw[aU e];exact h⟩
theorem RepO.olst(R:RepO K C H0 wa s0 H σ r sa l p)(e:Ext H H1){dx:Addr}{m:List Dat}{vs:List V}{sb:Addr}(hb:H sb=none)(hv:H1 sb=some (.lst vs))(rv:Reps K fl2 H1 (fun _=>True) m vs)(hf:m.all flat=true)(hw:H1 wa=some (.ins C dx (hfs p sa))) :
  RepO K C H0 wa s0 (upd H1 wa (.ins C dx (hfs p sb))) σ (oP r m p) sb m p:=by
 obtain⟨n0,n1,n2⟩:=R.frsh hb
 have R1:=R.ext e
 refine⟨by simp[oP,R.len],R.sg,rput R.rh,⟨⟨dx,bG⟩,⟨vs,by rw[aU n2];exact hv,rv.flat hf⟩,hf⟩,fun i d hi h=>?_,fun a o h1 h2 h3=>by rw[aU h2];exact R1.fr a o h1 h2 h3,.inr n0,?_,R.in0⟩
 .rw[aFw hi]at h
  obtain⟨v,h1,h2⟩:=R.oth i d hi h
  refine⟨v,h1,(h2.tr.ext e).mono (fun a o s q=>by rw[aU s.1.1];exact q) fun a s=>⟨s.1.1,fun z=>?_⟩⟩
  subst z
  obtain⟨o,q⟩:=s.2
  rw[hb]at q;cases q
 .obtain⟨o,h⟩:=R1.al
  by_cases q:s0=wa
  .exact⟨_,by rw[q];exact bG⟩
  .exact⟨o,by rw[aU q];exact h⟩
end
structure Tb where
 tabs:List Str
def bDs(s:Stmt)(k:Str→Expr→Expr→List Expr→Bool):Bool:=onR s fun c=>wY c fun f a w _=>aFl f fun f y _=>kR f fun x _=>onE w (onC a fun z es=>k x y z es)
@[elab_as_elim] theorem iRT{s k}{P:Stmt→Prop}(h:bDs s k=true)(f:∀x p y q z es r t,k x y z es=true→P (.Return (some (.Call (.Subscript (.Name x p) y q) (z::es) [] r)) t)):P s:=iR h fun c t h=>aI6 h fun g a w r h=>aXi h fun g y q h=>pI h fun x p h=>iE h fun h=>iC h fun z es h=>f x p y q z es r t h
section
variable(nm:Nm)(tb:Tb)(bd:Nat)(N:List Str)(sc:Scope)
mutual
def aY5:OStm→Stmt→Bool
 |.set i e,s=>aXk s fun n v=>kR n fun x p=>aQ1 true N sc i (.Name x p)&&chk nm bd N sc e v&&!aZ0 v
 |.onum e,s=>aXk s fun a v=>aWi a fun o n _=>decide (n="prime")&&chk nm bd N sc (.var 0) o&&chk nm bd N sc e v
 |.olst e,s=>aXk s fun a v=>aWi a fun o n _=>decide (n="steps")&&chk nm bd N sc (.var 0) o&&chk nm bd N sc e v
 |.oapp e,s=>bAm s fun a m ap l cp=>aWi a fun o n _=>on1 l fun v=>decide (n="steps")&&decide (m="append")&&chk nm bd N sc (.var 0) o&&chk nm bd N sc e v&&(ap.endLine==cp.line)
 |.opop,s=>bAm s fun a m ap l cp=>aWi a fun o n _=>onE l (decide (n="steps")&&decide (m="pop")&&chk nm bd N sc (.var 0) o&&(ap.endLine==cp.line))
 |.oput k e,s=>aXk s fun b v=>aFl b fun a y _=>aWi a fun o n _=>decide (n="steps")&&chk nm bd N sc (.var 0) o&&chk nm bd N sc k y&&chk nm bd N sc e v&&!aZ0 v
 |.ite c a b,s=>aWj s fun t x y _=>chk nm bd N sc c t&&aEh a x&&aEh b y
 |.ret e,s=>onR s fun v=>chk nm bd N sc e v
 |.retE g l,s=>onR s fun c=>aFk c fun x a=>onC a fun w es=>decide (g<bd)&&decide (nm.defs[g]?=some x)&&nI sc x&&kS x&&chk nm bd N sc (.var 0) w&&chks nm bd N sc l es
 |.retTE t ix l,s=>bDs s fun x y w es=>decide (tb.tabs[t]?=some x)&&nI sc x&&kS x&&chk nm bd N sc ix y&&chk nm bd N sc (.var 0) w&&chks nm bd N sc l es
 |.retTP t ix l,s=>bDs s fun x y w es=>decide (tb.tabs[t]?=some x)&&nI sc x&&kS x&&chk nm bd N sc ix y&&chks nm bd N sc l (w::es)
def aEh:OStms→List Stmt→Bool
 |.nil,ss=>ss.isEmpty
 |.cons a r,ss=>onC ss fun s ss=>aY5 a s&&aEh r ss
end
end
section
variable(F:Nat→List Dat→Option Dat)(G:Nat→Option Dat)(E:Nat→List Dat→Int→List Dat→Option (Dat×List Dat×Int))(T:Nat→List Nat)
structure OCtx(nm:Nm)(tb:Tb)(C:Addr)(bd k:Nat)(X:Cx):Prop where
 ctx:Ctx F G nm bd k X
 fls:nm.fls=fl2
 cls:ClsOk X.K C
 eds:∀g x,g<bd→nm.defs[g]?=some x→(∃l p ds z,E g l p ds=some z)→∃f fd ps,FnOk X.prog X.w X.K X.mg X.base CX0 k f fd ps (spO X.K C ps.length (E g))∧X.mg x=some (.ref f)∧Bl X.K (.ref f)=true∧Binds X.K fd ps []∧∀l p ds z,E g l p ds=some z→ds.length+1=ps.length
 tab:∀t x,tb.tabs[t]?=some x→∃(a:Addr)(fs:List Addr),X.mg x=some (.ref a)∧aJs X.K a (fs.map V.ref)∧fs.length=(T t).length∧∀(j:Nat)(f:Addr)(g:Nat),fs[j]?=some f→(T t)[j]?=some g→
  ((∃ds d,F g ds=some d)→∃fd ps,FnOk X.prog X.w X.K X.mg X.base CX0 k f fd ps (spM X.K nm.fls ps.length (F g))∧Bl X.K (.ref f)=true∧Binds X.K fd ps []∧∀ds d,F g ds=some d→ds.length=ps.length) ∧
  ((∃l p ds z,E g l p ds=some z)→∃fd ps,FnOk X.prog X.w X.K X.mg X.base CX0 k f fd ps (spO X.K C ps.length (E g))∧Bl X.K (.ref f)=true∧Binds X.K fd ps []∧∀l p ds z,E g l p ds=some z→ds.length+1=ps.length)
def bEg(K:Ad)(C:Addr)(H0:Hp)(wa s0:Addr)(d:Dat)(l:List Dat)(p:Int)(Q:VK):Prop:=
 ∀v H' sb,WayAt K C H' wa sb l p→(∀a o,H0 a=some o→a≠wa→a≠s0→H' a=some o)→(sb=s0∨H0 sb=none)→(∃o,H' s0=some o)→Rep K fl2 H' (fun a=>H0 a=none∧a≠sb) d v→Q v H'
def aXt(K:Ad)(C:Addr)(H0:Hp)(wa s0:Addr)(D:Ends):OFlow→Prop
 |.nxt r=>∀σ' H' sa l p,RepO K C H0 wa s0 H' σ' r sa l p→D.nx σ' H'
 |.ret d l p=>bEg K C H0 wa s0 d l p D.rt
def tO1(K:Ad)(C:Addr)(H0:Hp)(wa s0:Addr)(s:OStm):TS:=fun D σ H=>∃r f sa l p,RepO K C H0 wa s0 H σ r sa l p∧Pl.gR F G E T s r=some f∧aXt K C H0 wa s0 D f
def tO(K:Ad)(C:Addr)(H0:Hp)(wa s0:Addr)(s:OStms):TS:=fun D σ H=>∃r f sa l p,RepO K C H0 wa s0 H σ r sa l p∧Pl.orun F G E T s r=some f∧aXt K C H0 wa s0 D f
end
section
variable{F:Nat→List Dat→Option Dat}{G:Nat→Option Dat}{E:Nat→List Dat→Int→List Dat→Option (Dat×List Dat×Int)}{T:Nat→List Nat}{nm:Nm}{tb:Tb}{C:Addr}{bd k:Nat}{X:Cx}{H0:Hp}{wa s0:Addr}
theorem swA{e:Expr}{o:Expr}{n:Str}{p:Pos}{l:Nat}{env:Gq}(he:bV e=true):swapsWith e (some (.Attribute o n p)) l env=pure false:=by
 cases e<;>first|rfl|(cases he;done)
theorem aTp{i:Expr}{w n:Str}{p q pos:Pos}{env:Gq}(h:bV i=true):∀v,assign (.Subscript (.Attribute (.Name w p) n q) i pos) env v=(do
   let ov ←holding [v] (eval (.Attribute (.Name w p) n q) env)
   let iv ←holding [v,ov] (eval i env)
   standAt pos
   holding [v,ov,iv] (setItem ov iv v)
   release [v,ov,iv] []):=by
 intro v
 cases i<;>first|rfl|(cases h;done)
end
section
variable{F:Nat→List Dat→Option Dat}{G:Nat→Option Dat}{E:Nat→List Dat→Int→List Dat→Option (Dat×List Dat×Int)}{T:Nat→List Nat}{K:Ad}{C:Addr}{H0 H:Hp}{wa s0:Addr}{D:Ends}{σ:St}
theorem Reps.dropLast{fl:List Str}{S:Rg}{ds:List Dat}{vs:List V}(r:Reps K fl H S ds vs):Reps K fl H S ds.dropLast vs.dropLast:=by
 rw[G7,G7,r.length]
 exact r.take _
theorem bGw{e:Tm}{i:Nat}(hC:ClsOk K C)(h:tO1 F G E T K C H0 wa s0 (.set i e) D σ H):aXl (tEv F G K fl2 e) (vR i) D σ H:=by
 obtain⟨r,f,sa,l,p,R,hr,hd⟩:=h
 obtain⟨d,he,hr⟩:=Aa.mp hr
 split at hr
 .rename_i hc
  rw[Ac,dqe]at hc
  cases hr
  exact one (R.renv hC) he fun v H1 e1 r1=>hd _ _ _ _ _ ((R.ext e1).set hc.2 hc.1 r1)
 .cases hr
theorem aM1{p:Int}{sa:Addr}:(hfs p sa).length<1000:=by show 2<1000;decide
theorem bGs{e:Tm}(hC:ClsOk K C)(h:tO1 F G E T K C H0 wa s0 (.onum e) D σ H):bE7 K (aJl 0) (tEv F G K fl2 e) "prime" D σ H:=by
 obtain⟨r,f,sa,l,p,R,hr,hd⟩:=h
 obtain⟨w,hw,hr⟩:=Aa.mp hr
 cases R.obj hw
 obtain⟨d,he,hr⟩:=Aa.mp hr
 cases d<;>first|(exfalso;cases hr;done)|skip
 cases hr
 refine one (R.renv hC) he fun v H1 e1 r1=>?_
 cases r1.toInt
 have R1:=R.ext e1
 obtain⟨dx,hi⟩:=R1.way.ins
 refine⟨_,R.sg,wa,C,dx,_,rfl,hi,hC.cl,hC.n1,aM1,?_⟩
 rw[aOg]
 exact hd _ _ _ _ _ (R1.onum hi)
theorem bGr{e:Tm}(hC:ClsOk K C)(h:tO1 F G E T K C H0 wa s0 (.olst e) D σ H):bE7 K (aJl 0) (tEv F G K fl2 e) "steps" D σ H:=by
 obtain⟨r,f,sa,l,p,R,hr,hd⟩:=h
 obtain⟨w,hw,hr⟩:=Aa.mp hr
 cases R.obj hw
 obtain⟨d,he,hr⟩:=Aa.mp hr
 cases d<;>first|(exfalso;cases hr;done)|skip
 rename_i m
 simp only[]at hr
 split at hr
 .rename_i hc
  rw[Ac]at hc
  cases hr
  have rn:=R.renv hC
  refine⟨r,fun _=>True,.lst m,rn,he,Rsrc.all rn,fun v H1 e1 r1 n1=>?_⟩
  obtain⟨sb,vs,rfl,_,hv,rs⟩:=r1.toLst
  have R1:=R.ext e1
  obtain⟨dx,hi⟩:=R1.way.ins
  refine⟨_,R.sg,wa,C,dx,_,rfl,hi,hC.cl,hC.n0,aM1,?_⟩
  rw[aOh]
  exact hd _ _ _ _ _ (R.olst e1 (n1 hc.1 m sb rfl rfl) hv (rs.wide fun _ _=>trivial) hc.2 hi)
 .cases hr
theorem bGp{e:Tm}(hC:ClsOk K C)(h:tO1 F G E T K C H0 wa s0 (.oapp e) D σ H):aP3 (tBM K "list" aFs (bCk K (aJl 0) "steps") (uI F G K fl2 (.cons e .nil))) D σ H:=by
 obtain⟨r,f,sa,l,p,R,hr,hd⟩:=h
 obtain⟨w,hw,hr⟩:=Aa.mp hr
 cases R.obj hw
 obtain⟨d,he,hr⟩:=Aa.mp hr
 split at hr
 .rename_i hc
  rw[Ac,dqe]at hc
  cases hr
  have rn:=R.renv hC
  obtain⟨dx,hi⟩:=R.way.ins
  obtain⟨vs,hv,rs⟩:=R.way.lst
  have hev:Pl.evs F G (.cons e .nil) r=some [d]:=by simp[Pl.evs,he]
  refine⟨_,R.sg,wa,C,dx,_,_,rfl,hi,hC.cl,hC.n0,qD,.inl ⟨rfl,vs,SqL.of hv⟩,r,fun _=>True,[d],rn,hev,Rsrc.all rn,fun us H1 e1 r1=>?_⟩
  obtain⟨u,rfl,ru⟩:=nS r1
  refine⟨sa,vs,u,rfl,rfl,e1 _ _ hv,by rw[←rs.length,sizeLine_eq];exact hc.2,?_⟩
  refine hd _ _ _ _ _ ((R.ext e1).ochg ((rs.ext e1).app (Reps.one (ru.flat hc.1))) ?_)
  simp only[Fo,R.way.fl,Bz,hc.1,List.all_nil,Ej]
 .cases hr
theorem bGt(hC:ClsOk K C)(h:tO1 F G E T K C H0 wa s0 .opop D σ H):aP3 (bF8 K "list" bF4 (bCk K (aJl 0) "steps")) D σ H:=by
 obtain⟨r,f,sa,l,p,R,hr,hd⟩:=h
 obtain⟨w,hw,hr⟩:=Aa.mp hr
 cases R.obj hw
 simp only[]at hr
 split at hr
 .cases hr
 .rename_i hc
  cases hr
  obtain⟨dx,hi⟩:=R.way.ins
  obtain⟨vs,hv,rs⟩:=R.way.lst
  have hl:0<l.length:=by cases l with|nil=>exact absurd rfl hc|cons _ _=>simp
  have hl2:vs.length-1<vs.length:=by rw[←rs.length];omega
  refine⟨_,R.sg,wa,C,dx,_,_,rfl,hi,hC.cl,hC.n0,qD,.inl ⟨rfl,vs,SqL.of hv⟩,sa,vs,vs[vs.length-1],rfl,rfl,hv,Bf hl2,?_⟩
  refine hd _ _ _ _ _ (R.ochg rs.dropLast ?_)
  rw[Bc]
  intro x hx
  exact Bc.mp R.way.fl x ((List.dropLast_sublist _).subset hx)
theorem bGu{c e:Tm}(hC:ClsOk K C)(h:tO1 F G E T K C H0 wa s0 (.oput c e) D σ H):aXl (tEv F G K fl2 e) (bEt (bCk K (aJl 0) "steps") (tEv F G K fl2 c) bBe) D σ H:=by
 obtain⟨r,f,sa,l,p,R,hr,hd⟩:=h
 obtain⟨w,hw,hr⟩:=Aa.mp hr
 cases R.obj hw
 obtain⟨d,he,hr⟩:=Aa.mp hr
 obtain⟨z,hz,hr⟩:=Aa.mp hr
 cases z<;>first|(exfalso;cases hr;done)|skip
 rename_i z
 simp only[]at hr
 split at hr
 .rename_i hc
  obtain⟨j,hj,rfl⟩:=Ae.mp hr
  have rn:=R.renv hC
  refine one rn he fun v H1 e1 r1=>?_
  have R1:=R.ext e1
  obtain⟨dx,hi⟩:=R1.way.ins
  obtain⟨vs,hv,rs⟩:=R1.way.lst
  refine⟨_,R.sg,wa,C,dx,_,_,rfl,hi,hC.cl,hC.n0,qD,one (R1.renv hC) hz fun u H2 e2 r2=>?_⟩
  cases r2.toInt
  refine⟨sa,vs,z,j,rfl,rfl,e2 _ _ hv,by rw[←rs.length];exact hj,?_⟩
  refine hd _ _ _ _ _ ((R1.ext e2).ochg (Reps.set (r1.flat hc) j (rs.ext e2)) ?_)
  have hfl:=R.way.fl
  rw[Bc]at hfl ⊢
  intro x hx
  rcases List.mem_or_eq_of_mem_set hx with q|q
  .exact hfl x q
  .rw[q];exact hc
 .cases hr
theorem bGq{c:Tm}{a b:OStms}(hC:ClsOk K C)(h:tO1 F G E T K C H0 wa s0 (.ite c a b) D σ H):bE9 (yI F G K fl2 c) (tO F G E T K C H0 wa s0 a) (tO F G E T K C H0 wa s0 b) D σ H:=by
 obtain⟨r,f,sa,l,p,R,hr,hd⟩:=h
 obtain⟨k,hk,hr⟩:=Aa.mp hr
 refine⟨r,k,R.renv hC,hk,fun H1 e1=>?_⟩
 cases k with
 |true=>simp only[if_true]at hr ⊢;exact⟨r,f,sa,l,p,R.ext e1,hr,hd⟩
 |false=>simp only[Do,if_false]at hr ⊢;exact⟨r,f,sa,l,p,R.ext e1,hr,hd⟩
theorem bGv{e:Tm}(hC:ClsOk K C)(h:tO1 F G E T K C H0 wa s0 (.ret e) D σ H):aXm (tEv F G K fl2 e) D σ H:=by
 obtain⟨r,f,sa,l,p,R,hr,hd⟩:=h
 obtain⟨w,hw,hr⟩:=Aa.mp hr
 cases R.obj hw
 obtain⟨d,he,hr⟩:=Aa.mp hr
 split at hr
 .rename_i hc
  rw[Ac]at hc
  obtain⟨ds,rfl⟩:∃ds,d=.lst ds:=by
   cases d<;>first|exact⟨_,rfl⟩|(exfalso;cases hc.2;done)
  cases hr
  have rn:=R.renv hC
  refine⟨r,fun _=>True,.lst ds,rn,he,Rsrc.all rn,fun v H1 e1 r1 n1=>?_⟩
  obtain⟨q,vs,rfl,_,hv,rs⟩:=r1.toLst
  have R1:=R.ext e1
  obtain⟨f0,f1,_⟩:=R.frsh (n1 hc.1 ds q rfl rfl)
  exact hd _ H1 sa R1.way R1.fr R1.sn R1.al (Rep.lst ⟨f0,f1⟩ hv (rs.flat hc.2))
 .cases hr
theorem aZz{ls:Tms}{r:Rho}{sa:Addr}{l ds:List Dat}{p:Int}{Q:List V→Hp→Prop}(hC:ClsOk K C)(R:RepO K C H0 wa s0 H σ r sa l p)(hev:Pl.evs F G ls r=some ds)(hs:(Pl.srcs ls).all (fun j=>decide (j≠0))=true)
  (q:∀vs H1,RepO K C H0 wa s0 H1 σ r sa l p→Reps K fl2 H1 (fun a=>a≠wa∧a≠sa) ds vs→Q vs H1):uI F G K fl2 ls σ H Q:=by
 refine⟨r,fun a=>a≠wa∧a≠sa,ds,R.renv hC,hev,fun i hi d v h1 h2=>?_,fun vs H1 e1 r1=>q vs H1 (R.ext e1) (r1.wide fun a z=>z.elim id fun n=>⟨(R.frsh n).2.2,(R.frsh n).2.1⟩)⟩
 have hne:i≠0:=dqt (Bc.mp hs i hi)
 obtain⟨w,e1,e2⟩:=R.oth i d hne h1
 rw[h2]at e1;cases e1
 exact e2
theorem bA0{r:Rho}{sa:Addr}{l ds:List Dat}{p:Int}{vs:List V}{n:Nat}{m:List Dat→Int→List Dat→Option (Dat×List Dat×Int)}{z:Dat×List Dat×Int}{Q:VK}(R:RepO K C H0 wa s0 H σ r sa l p)(rs:Reps K fl2 H (fun a=>a≠wa∧a≠sa) ds vs)(hm:m l p ds=some z)(hn:ds.length+1=n)
  (hd:bEg K C H0 wa s0 z.1 z.2.1 z.2.2 Q):spO K C n m (.ref wa::vs) H Q E0:=by
 refine⟨wa,sa,l,p,vs,ds,z,rfl,hn,R.way,rs,hm,fun v H' sb w' fr sn al rv=>hd v H' sb w' (fun a o h1 h2 h3=>fr a o (R.fr a o h1 h2 h3) h2 fun e=>?_) ?_ ?_ (rv.wide fun a q=>⟨(R.frsh q.1).1,q.2⟩)⟩
 .subst e
  rcases R.sn with q|q
  .exact h3 q
  .rw[h1]at q;cases q
 .rcases sn with q|q
  .rw[q];exact R.sn
  .exact .inr (R.frsh q).1
 .by_cases e:s0=sa
  .rw[e];exact al
  .by_cases e2:s0=wa
   .rw[e2]
    obtain⟨dx,q⟩:=w'.ins
    exact⟨_,q⟩
   .obtain⟨o,q⟩:=R.al
    exact⟨o,fr s0 o q e2 e⟩
theorem bDj{g:Nat}{ls:Tms}{ps:List Str}(hC:ClsOk K C)(ar:∀l p ds z,E g l p ds=some z→ds.length+1=ps.length)(h:tO1 F G E T K C H0 wa s0 (.retE g ls) D σ H):aXm (aP2 (spO K C ps.length (E g)) [] E0 (aXb (aJl 0) (uI F G K fl2 ls))) D σ H:=by
 obtain⟨r,f,sa,l,p,R,hr,hd⟩:=h
 obtain⟨w,hw,hr⟩:=Aa.mp hr
 cases R.obj hw
 obtain⟨ds,hev,hr⟩:=Aa.mp hr
 split at hr
 .rename_i hc
  obtain⟨z,hz,rfl⟩:=Ae.mp hr
  refine⟨_,R.sg,aZz hC R hev hc fun vs H1 R1 rs=>?_⟩
  show spO K C ps.length (E g) ((.ref wa::vs)++[]) H1 D.rt E0
  rw[Co]
  exact bA0 R1 rs hz (ar _ _ _ _ hz) hd
 .cases hr
theorem bA1{t:Nat}{ix:Tm}{ls:Tms}{a:Addr}{fs:List Addr}{X:Cx}{k:Nat}(hC:ClsOk X.K C)(hroom:Room k X.A)(hK:aJs X.K a (fs.map V.ref))(hl:fs.length=(T t).length)
  (ht:∀(j:Nat)(f:Addr)(g:Nat),fs[j]?=some f→(T t)[j]?=some g→(∃l p ds z,E g l p ds=some z)→∃fd ps,FnOk X.prog X.w X.K X.mg X.base CX0 k f fd ps (spO X.K C ps.length (E g))∧Bl X.K (.ref f)=true∧Binds X.K fd ps []∧∀l p ds z,E g l p ds=some z→ds.length+1=ps.length)
  (h:tO1 F G E T X.K C H0 wa s0 (.retTE t ix ls) D σ H):aXm (fun σ H Q=>tOp (bE5 X.K) (tC (.ref a)) (tEv F G X.K fl2 ix) σ H fun v H1=>∃f fd ps sp k,v=.ref f∧FnOk X.prog X.w X.K X.mg X.base CX0 k f fd ps sp∧Room k X.A∧Bl X.K (.ref f)=true∧Binds X.K fd ps []∧aXb (aJl 0) (uI F G X.K fl2 ls) σ H1 fun vs H2=>sp vs H2 Q E0) D σ H:=by
 obtain⟨r,f,sa,l,p,R,hr,hd⟩:=h
 obtain⟨w,hw,hr⟩:=Aa.mp hr
 cases R.obj hw
 obtain⟨i,hi,hr⟩:=Aa.mp hr
 obtain⟨ds,hev,hr⟩:=Aa.mp hr
 cases i<;>first|(exfalso;cases hr;done)|skip
 rename_i i
 simp only[]at hr
 split at hr
 .rename_i hc
  obtain⟨j,hj,hr⟩:=Aa.mp hr
  obtain⟨g,hg,hr⟩:=Aa.mp hr
  obtain⟨z,hz,rfl⟩:=Ae.mp hr
  have hjl:j<fs.length:=by rw[hl];exact(As.mp hg).1
  obtain⟨fd,ps,ok,kp,bi,ar⟩:=ht j fs[j] g (Bf hjl) hg ⟨_,_,_,_,hz⟩
  refine one (R.renv hC) hi fun v H1 e1 r1=>?_
  cases r1.toInt
  have R1:=R.ext e1
  refine⟨a,_,_,.ref fs[j],rfl,rfl,.inr hK,?_,fs[j],fd,ps,_,k,rfl,ok,hroom,kp,bi,_,R.sg,aZz hC R1 hev hc fun vs H2 R2 rs=>bA0 R2 rs hz (ar _ _ _ _ hz) hd⟩
  unfold atI
  rw[Ag,hl,←aGt,hj]
  simp[hjl]
 .cases hr
theorem bA2{t:Nat}{ix:Tm}{ls:Tms}{a:Addr}{fs:List Addr}{X:Cx}{k:Nat}(hC:ClsOk X.K C)(hroom:Room k X.A)(hK:aJs X.K a (fs.map V.ref))(hl:fs.length=(T t).length)
  (ht:∀(j:Nat)(f:Addr)(g:Nat),fs[j]?=some f→(T t)[j]?=some g→(∃ds d,F g ds=some d)→∃fd ps,FnOk X.prog X.w X.K X.mg X.base CX0 k f fd ps (spM X.K fl2 ps.length (F g))∧Bl X.K (.ref f)=true∧Binds X.K fd ps []∧∀ds d,F g ds=some d→ds.length=ps.length)
  (h:tO1 F G E T X.K C H0 wa s0 (.retTP t ix ls) D σ H):aXm (fun σ H Q=>tOp (bE5 X.K) (tC (.ref a)) (tEv F G X.K fl2 ix) σ H fun v H1=>∃f fd ps sp k,v=.ref f∧FnOk X.prog X.w X.K X.mg X.base CX0 k f fd ps sp∧Room k X.A∧Bl X.K (.ref f)=true∧Binds X.K fd ps []∧uI F G X.K fl2 ls σ H1 fun vs H2=>sp vs H2 Q E0) D σ H:=by
 obtain⟨r,f,sa,l,p,R,hr,hd⟩:=h
 obtain⟨w,hw,hr⟩:=Aa.mp hr
 cases R.obj hw
 obtain⟨i,hi,hr⟩:=Aa.mp hr
 obtain⟨ds,hev,hr⟩:=Aa.mp hr
 cases i<;>first|(exfalso;cases hr;done)|skip
 rename_i i
 obtain⟨j,hj,hr⟩:=Aa.mp hr
 obtain⟨g,hg,hr⟩:=Aa.mp hr
 obtain⟨d,hz,hr⟩:=Aa.mp hr
 split at hr
 .cases hr
  have hjl:j<fs.length:=by rw[hl];exact(As.mp hg).1
  obtain⟨fd,ps,ok,kp,bi,ar⟩:=ht j fs[j] g (Bf hjl) hg ⟨_,_,hz⟩
  refine one (R.renv hC) hi fun v H1 e1 r1=>?_
  cases r1.toInt
  have R1:=R.ext e1
  have rn:=R1.renv hC
  refine⟨a,_,_,.ref fs[j],rfl,rfl,.inr hK,?_,fs[j],fd,ps,_,k,rfl,ok,hroom,kp,bi,r,fun _=>True,ds,rn,hev,Rsrc.all rn,fun vs H2 e2 rs=>?_⟩
  .unfold atI
   rw[Ag,hl,←aGt,hj]
   simp[hjl]
  .have R2:=R1.ext e2
   refine⟨ds,d,ar _ _ hz,hz,rs.wide fun _ _=>trivial,fun v H3 e3 rv=>?_⟩
   have R3:=R2.ext e3
   exact hd v H3 sa R3.way R3.fr R3.sn R3.al (rv.wide fun b n=>⟨(R2.frsh n).1,(R2.frsh n).2.1⟩)
 .cases hr
variable{nm:Nm}{tb:Tb}{bd k:Nat}{X:Cx}
theorem geO(O:OCtx F G E T nm tb C bd k X){e:Tm}{v:Expr}(h:chk nm bd X.N X.env.scope e v=true):bV v=true∧PE X v (tEv F G X.K fl2 e)∧PT X v (yI F G X.K fl2 e):=by
 have g:=sE e X v O.ctx h
 have e:=O.fls
 unfold aJx at g
 rw[e]at g
 exact g
theorem bD6(O:OCtx F G E T nm tb C bd k X){l:Tms}{es:List Expr}(h:chks nm bd X.N X.env.scope l es=true):es.all bV=true∧PA X es (uI F G X.K fl2 l):=by
 have g:=sEs l X es O.ctx h
 rw[O.fls]at g
 exact⟨g.1,g.2.1⟩
theorem v0{w:Expr}(h:chk nm bd X.N X.env.scope (.var 0) w=true):bV w=true∧PE X w (aJl 0):=by
 obtain⟨⟨_,_,rfl⟩,hv⟩:=aPb h
 exact⟨rfl,hv⟩
mutual
theorem oS1(hf:∀w,X.fn w=true)(O:OCtx F G E T nm tb C bd k X):∀(s:OStm)(st:Stmt),aY5 nm tb bd X.N X.env.scope s st=true→PS X st (tO1 F G E T X.K C H0 wa s0 s)
 |.set i e,st,h=>by
  refine iA1 h fun n v _ h=>?_
  refine pI h fun w p h=>?_
  simp only[Ac,Gz]at h
  obtain⟨⟨hn,he⟩,hlc⟩:=h
  have ge:=geO O he
  have hn:=aEg hn
  obtain⟨hl,hl2⟩:=aGu hn.2
  exact PS.imp (qY O.ctx.nd hn.1 hl ge.2.1 (swF hlc ge.1) (.inl (hf _))) fun D σ H q=>bGw O.cls q
 |.onum e,st,h=>by
  refine iA1 h fun a v _ h=>?_
  refine iAN h fun w p n _ h=>?_
  simp only[Ac,dqe]at h
  obtain⟨⟨hn,hv⟩,he⟩:=h
  subst hn
  have ge:=geO O he
  exact PS.imp (aHd (v0 hv).2 ge.2.1 (swA ge.1)) fun D σ H q=>bGs O.cls q
 |.olst e,st,h=>by
  refine iA1 h fun a v _ h=>?_
  refine iAN h fun w p n _ h=>?_
  simp only[Ac,dqe]at h
  obtain⟨⟨hn,hv⟩,he⟩:=h
  subst hn
  have ge:=geO O he
  exact PS.imp (aHd (v0 hv).2 ge.2.1 (swA ge.1)) fun D σ H q=>bGr O.cls q
 |.oapp e,st,h=>by
  refine iXC h fun a m ap l cp _ h=>?_
  refine iAN h fun w p n _ h=>?_
  refine i1 h fun v h=>?_
  simp only[Ac,dqe]at h
  obtain⟨⟨⟨⟨hn,hm⟩,hv⟩,he⟩,hl⟩:=h
  subst hn;subst hm
  have ge:=geO O he
  exact PS.imp (sP (aJa C5 Gd Ge wJ (aH9 (v0 hv).2 rfl) (jH ge.1 ge.2.1 tL) rfl (by rw[bE ge.1];rfl) hl (bE ge.1) rfl)) fun D σ H q=>bGp O.cls q
 |.opop,st,h=>by
  refine iXC h fun a m ap l cp _ h=>?_
  refine iAN h fun w p n _ h=>?_
  refine iE h fun h=>?_
  simp only[Ac,dqe]at h
  obtain⟨⟨⟨hn,hm⟩,hv⟩,hl⟩:=h
  subst hn;subst hm
  exact PS.imp (sP (bAu C5 PySem.F.slot_list_pop PySem.F.type_list_pop aZd (aH9 (v0 hv).2 rfl) rfl hl)) fun D σ H q=>bGt O.cls q
 |.oput c e,st,h=>by
  refine iA1 h fun b v _ h=>?_
  refine aXi h fun a y _ h=>?_
  refine iAN h fun w p n _ h=>?_
  simp only[Ac,dqe,Gz]at h
  obtain⟨⟨⟨⟨hn,hv⟩,hc⟩,he⟩,hlc⟩:=h
  subst hn
  have ge:=geO O he
  have gc:=geO O hc
  refine PS.imp (bB5 ge.2.1 (bAy (aH9 (v0 hv).2 rfl) gc.2.1 aS3 (aTp gc.1)) (by unfold swapsWithSole;exact swF hlc ge.1) ?_) fun D σ H q=>bGu O.cls q
  unfold swappedStores
  rfl
 |.ite c a b,st,h=>by
  refine bEv h fun t x y _ h=>?_
  simp only[Ac]at h
  exact PS.imp (bB8 (geO O h.1.1).2.2 (oSs hf O a _ h.1.2) (oSs hf O b _ h.2)) fun D σ H q=>bGq O.cls q
 |.ret e,st,h=>by
  refine iR h fun v _ h=>?_
  exact PS.imp (zB (geO O h).2.1) fun D σ H q=>bGv O.cls q
 |.retE g l,st,h=>by
  refine iR h fun c _ h=>?_
  refine iCN h fun x _ a _ h=>?_
  refine iC h fun w es h=>?_
  simp only[Ac,dqe]at h
  obtain⟨⟨⟨⟨⟨hb,hn⟩,hg⟩,hp⟩,hv⟩,hl⟩:=h
  have gl:=bD6 O hl
  have gv:=v0 hv
  by_cases hex:∃l p ds z,E g l p ds=some z
  .obtain⟨f,fd,ps,ok,hm,hk,bi,ar⟩:=O.eds g _ hb hn hex
   exact PS.imp (zB (aFm ok O.ctx.room (eY hg) hm hk bi .nil aJ9 (lF gv.2 gl.2 (bE gv.1)) (gS hp).1 (bE gv.1) (backs _ gl.1))) fun D σ H q=>bDj O.cls ar q
  .intro pins s σ H D I q
   obtain⟨r,f,sa,l,p,R,hr,hd⟩:=q
   obtain⟨w,hw,hr⟩:=Aa.mp hr
   obtain⟨ds,hev,hr⟩:=Aa.mp hr
   split at hr
   .obtain⟨z,hz,_⟩:=Ae.mp hr
    exact absurd ⟨_,_,_,_,hz⟩ hex
   .cases hr
 |.retTE t ix l,st,h=>by
  refine iRT h fun x _ y _ w es _ _ h=>?_
  simp only[Ac,dqe]at h
  obtain⟨⟨⟨⟨⟨hn,hg⟩,hp⟩,hi⟩,hv⟩,hl⟩:=h
  have gl:=bD6 O hl
  have gv:=v0 hv
  have gi:=geO O hi
  obtain⟨a,fs,hm,hK,hlen,ht⟩:=O.tab t _ hn
  exact PS.imp (zB (aBi (aFn aCm (xB (v:=.ref a) (eY hg) hm rfl (gS hp).1) gi.2.1 (aQe gi.1)) (lF gv.2 gl.2 (bE gv.1)) gv.1 gl.1)) fun D σ H q=>bA1 O.cls O.ctx.room hK hlen (fun j f g h1 h2=>(ht j f g h1 h2).2) q
 |.retTP t ix l,st,h=>by
  refine iRT h fun x _ y _ w es _ _ h=>?_
  simp only[Ac,dqe]at h
  obtain⟨⟨⟨⟨hn,hg⟩,hp⟩,hi⟩,hl⟩:=h
  have gl:=bD6 O hl
  have gi:=geO O hi
  obtain⟨a,fs,hm,hK,hlen,ht⟩:=O.tab t _ hn
  have ha:=gl.1
  simp only[Bz,Ac]at ha
  refine PS.imp (zB (aBi (aFn aCm (xB (v:=.ref a) (eY hg) hm rfl (gS hp).1) gi.2.1 (aQe gi.1)) gl.2 ha.1 ha.2)) fun D σ H q=>bA2 O.cls O.ctx.room hK hlen (fun j f g h1 h2 h3=>?_) q
  have z:=(ht j f g h1 h2).1 h3
  rw[O.fls]at z
  exact z
theorem oSs(hf:∀w,X.fn w=true)(O:OCtx F G E T nm tb C bd k X):∀(s:OStms)(st:List Stmt),aEh nm tb bd X.N X.env.scope s st=true→PSs X st (tO F G E T X.K C H0 wa s0 s)
 |.nil,st,h=>by
  cases List.isEmpty_iff.mp h
  exact PSs.imp aOe fun D σ H q=>by obtain⟨r,f,sa,l,p,R,hr,hd⟩:=q;cases hr;exact hd σ H sa l p R
 |.cons a r,st,h=>by
  refine iC h fun s ss h=>?_
  simp only[Ac]at h
  refine PSs.imp (gT (oS1 hf O a _ h.1) (oSs hf O r _ h.2)) fun D σ H q=>?_
  obtain⟨ρ,f,sa,l,p,R,hr,hd⟩:=q
  obtain⟨g,hg,hr1⟩:=Aa.mp hr
  refine⟨ρ,g,sa,l,p,R,hg,?_⟩
  cases g with
  |nxt e'=>exact fun σ' H' sa' l' p' R'=>⟨e',f,sa',l',p',R',hr1,hd⟩
  |ret d l' p'=>cases hr1;exact hd
end
end
section
variable{F:Nat→List Dat→Option Dat}{G:Nat→Option Dat}{E:Nat→List Dat→Int→List Dat→Option (Dat×List Dat×Int)}{T:Nat→List Nat}{nm:Nm}{tb:Tb}{C:Addr}{P:Program}{w:World}{K:Ad}{mg:Str→Option Value}{base:Heap}
structure DefOkO(E:Nat→List Dat→Int→List Dat→Option (Dat×List Dat×Int))(nm:Nm)(C:Addr)(P:Program)(w:World)(K:Ad)(mg:Str→Option Value)(base:Heap)(g:Nat)(f:Addr)(fd:FuncData)(ps:List Str):Prop where
 ok:FnOk P w K mg base CX0 (g+1) f fd ps (spO K C ps.length (E g))
 mg:∀x,nm.defs[g]?=some x→mg x=some (.ref f)
 kp:Bl K (.ref f)=true
 bi:Binds K fd ps []
 ar:∀l p ds z,E g l p ds=some z→ds.length+1=ps.length
def aXu(F:Nat→List Dat→Option Dat)(E:Nat→List Dat→Int→List Dat→Option (Dat×List Dat×Int))(nm:Nm)(C:Addr)(P:Program)(w:World)(K:Ad)(mg:Str→Option Value)(base:Heap)(k:Nat)(x:Str)(gs:List Nat):Prop:=
 ∃(a:Addr)(fs:List Addr),mg x=some (.ref a)∧aJs K a (fs.map V.ref)∧fs.length=gs.length∧∀(j:Nat)(f:Addr)(g:Nat),fs[j]?=some f→gs[j]?=some g→
  ((∃ds d,F g ds=some d)→∃fd ps,FnOk P w K mg base CX0 k f fd ps (spM K nm.fls ps.length (F g))∧Bl K (.ref f)=true∧Binds K fd ps []∧∀ds d,F g ds=some d→ds.length=ps.length) ∧
  ((∃l p ds z,E g l p ds=some z)→∃fd ps,FnOk P w K mg base CX0 k f fd ps (spO K C ps.length (E g))∧Bl K (.ref f)=true∧Binds K fd ps []∧∀l p ds z,E g l p ds=some z→ds.length+1=ps.length)
theorem aJe{H:Hp}{N:List Str}{wa sa:Addr}{avs:List V}{args l:List Dat}{p:Int}{n:Nat}(hn:N.length=n)(hl:args.length+1≤n)(W:WayAt K C H wa sa l p)(r:Reps K fl2 H (fun a=>a≠wa∧a≠sa) args avs):RepO K C H wa sa H (L2.start N (.ref wa::avs)) (Pl.ostart n l p args) sa l p:=by
 have hlen:=r.length
 refine⟨?_,rfl,rfl,W,fun i d hi q=>?_,fun a o h _ _=>h,.inl rfl,let ⟨vs,h,_⟩:=W.lst;⟨_,h⟩,let ⟨dx,h⟩:=W.ins;⟨_,h⟩⟩
 .unfold L2.start Pl.ostart
  simp[hn,←hlen]
  omega
 .obtain⟨i,rfl⟩:∃j,i=j+1:=⟨i-1,by omega⟩
  have hd:args[i]?=some d:=by
   unfold Pl.ostart at q
   rw[C6]at q
   by_cases h:i<args.length
   .rw[Cz (by simpa using h),Bb]at q
    obtain⟨d',h1,h2⟩:=Ae.mp q
    cases h2
    exact h1
   .exfalso
    rw[Dx (by simpa using Lr h)]at q
    cases(Ih.mp (Du q)).2
  obtain⟨v,hv,rv⟩:=r.get hd
  refine⟨v,?_,rv⟩
  unfold L2.start
  have h:=(As.mp hv).1
  show(some (V.ref wa)::(avs.map some++_))[i+1]?=_
  rw[C6,Cz (by simpa using h),Bb,hv]
  rfl
theorem aNc{g n:Nat}{x qual:Str}{st:Stmt}{f:Addr}{fd:FuncData}{N ps:List Str}{b:OStms}(B:Base G nm K mg)(hC:ClsOk K C)(hfl:nm.fls=fl2)
  (prev:∀g',g'<g→(∃ds d,F g' ds=some d)→∃f fd ps,DefOk F nm P w K mg base g' f fd ps) (prevO:∀g',g'<g→(∃l p ds z,E g' l p ds=some z)→∃f fd ps,DefOkO E nm C P w K mg base g' f fd ps)
  (hT:∀t x,tb.tabs[t]?=some x→aXu F E nm C P w K mg base g x (T t)) (hTp:∀t y,nm.tabs[t]?=some y→bC4 F nm P w K mg base g y t) (hm:∀y,nm.defs[g]?=some y→mg y=some (.ref f)) (Fn:Fun K x qual st f fd) (hs:pY N ps (bL st)=true) (hb:Binds K fd ps []) (hc:aEh nm tb g N (bL st) b (fS st)=true)
  (hn:N.length=n) (ar:∀l p ds z,E g l p ds=some z→ds.length+1=ps.length) (hp:Pl.cN F G E T n b (E g)):DefOkO E nm C P w K mg base g f fd ps:=by
 refine⟨?_,hm,Fn.kp,hb,ar⟩
 have S:=nX hs
 refine Fn.ok S (fun vs H Q E h=>?_) fun cdv A outer s H vs Q E' hr h=>?_
 .obtain⟨wa,sa,l,p,avs,args,z,rfl,hl,_,r,_⟩:=h
  rw[←hl,Ar,r.length]
 .obtain⟨wa,sa,l,p,avs,args,z,rfl,hl,W,r,hz,q⟩:=h
  obtain⟨hle,hrun⟩:=hp l p args z hz
  have O:OCtx F G E T nm tb C g g (aPm CX0 P w K mg base N qual (bL st) f cdv A outer s H E').nox:=
   ⟨⟨rfl,S.nd,hr,fun g' y hg' hy hex=>by
    obtain⟨f',fd',ps',D⟩:=prev g' hg' hex
    exact⟨f',fd',ps',D.ok.mono hg',D.mg y hy,D.kp,D.bi,D.ar⟩,B.gls,B.blt,hTp⟩,hfl,hC,fun g' y hg' hy hex=>by
    obtain⟨f',fd',ps',D⟩:=prevO g' hg' hex
    exact⟨f',fd',ps',D.ok.mono hg',D.mg y hy,D.kp,D.bi,D.ar⟩,hT⟩
  refine⟨tO F G E T K C H wa sa b,oSs (X:=(aPm CX0 P w K mg base N qual (bL st) f cdv A outer s H E').nox) (fun _=>rfl) O b _ hc,?_⟩
  exact⟨Pl.ostart n l p args,.ret z.1 z.2.1 z.2.2,sa,l,p,aJe hn hle W r,hrun,fun v H' sb w' fr sn al rv=>q v H' sb w' fr sn al rv⟩
end
end L2.Sd
namespace Px
set_option maxRecDepth 100000
open PySem L2 L2.Sd
noncomputable def top (i:Nat):Stmt:=Df.main.body.getD i (.Pass ⟨0,0,0,0⟩)
noncomputable def nm0:Nm:=⟨((["counted","yes_or_no","in_two","in_three","digits_of","cross_sum","carry_places","carry_count","ways_to","row_of","often_at","spared_of","left_at","avoiding_row","ways_avoiding","often_in_row","divides_whole","divides_none","choose","times","rowoften","spared","whole","none","most","first","rows","bare","middle","below","just_so_often","is_prime","primes_up_to","often_in","prime_parts","pair_carries","digits","cross","carries","carriedat","three","divides","onemore","pairswith","mostcarries","like","fromdigits","without","places_behind","rights_of","told_as","steps_told","number_of","steps_numbered","told_with_things","steps_by_exchanges","choice","between","meet","sharing","having","all_choices","rights","gray","thingsum","waysof","standing","begin","change_prime","down","up","turn","mirror","go","go_on","go_back","product_of","often_in_product","left_of_product","product","productoften","rest_of","leastof","noughts","span","gaps","notsquare","twice","parts","jumps","divisor_of_two","greatest_divisor","least_multiple","greatest_of","isnt_inside","three_around","others_around","multiplied","primes_dividing","shares_just","at","greatest","least","upto","shared","star","starproduct","hermite","dividing","great","places","even","fewest","sum_to","squares","stick","ways_here","divided_rows","here","number","often","left","divided","avoid","clean","turnsto","together","behind","best","told","left_in_row","leftat","rowleft","counts","nextplace","odd","odds","joined","sumleft","turnsleft","same","by","which","under","answer_of_prime","answer_call","answers"]:List String).map Str.ofString),((["NO_THING","NONE_THERE","NOT_BEGUN","WRONG","FULL","NO_SUCH","MILLION","THOUSAND_MILLIONS","TOLD_BOUND_byprime","ROW_BOUND_byprime","ROWS_BOUND","MIDDLE_BOUND","FIRST_WITH_OTHERS_byprime","PRIME_BOUND","LIKE_BOUND","LIKE_REACH","PAIRS_BOUND","EXCHANGE_BOUND","MOST_STEPS","PRODUCT_BOUND","LEAST_BOUND","LEAST_REACH","SMALL_BOUND","BASE_LEAST","BASE_BOUND","LAST_ROW","FIRST_WITH_OTHERS_rowsdivided","LEAST_SOUGHT","TOLD_BOUND_whatsleft","COUNTS_BOUND","ROW_BOUND_whatsleft","NEXT_BOUND","UNDER_BOUND","JOINED_BOUND","TWO","BEGIN","FIRST_VIEW","FIRST_CARRIED","FIRST_PRODUCT","FIRST_BYPRIME","FIRST_LEFT","FIRST_DIVIDED","FIRST_ORDERED"]:List String).map Str.ofString),["steps","prime"],[]⟩
noncomputable def nm1:Nm:={ nm0 with tabs:=["BYPRIME","CARRIED","INORDER","MOVES","PRODUCTS","ROWSDIVIDED","VIEWS","WHATSLEFT"] }
noncomputable def tb:Tb:=⟨["BYPRIME","CARRIED","INORDER","MOVES","PRODUCTS","ROWSDIVIDED","VIEWS","WHATSLEFT"]⟩
noncomputable def tb0:Tb:=⟨[]⟩
end Px
namespace L2.Sd
set_option maxRecDepth 100000
open PySem PyProof.Rows
open PySem.Spec hiding Tm
open Pl (Dat Tm Tms Wk Stm Stms Rho Bop Cop Blt Tg SZ flat flats OStm OStms OFlow obj oP)
def aT8(C:Addr):Sp:=fun vs H Q _=>∃(p dx:Addr),vs=[.ref p]∧H p=some (.ins C dx [])∧∀(H':Hp)(sa:Addr),H' p=some (.ins C dx (hfs 0 sa))→H' sa=some (.lst [])→H sa=none→(∀b o,H b=some o→b≠p→H' b=some o)→Q .non H'
noncomputable abbrev aDe:Stmt:=aUf (Px.top 97) 0
section
variable{P:Program}{w:World}{K:Ad}{mg:Str→Option Value}{base:Heap}
theorem scI:FnScope ["self"] ["self"] (bL aDe):=nX (by decide +kernel)
theorem aW4{f C:Addr}{fd:FuncData}(Fn:Fun K "__init__" "Way.__init__" aDe f fd)(T:ClsOk K C):FnOk P w K mg base CX0 1 f fd ["self"] (aT8 C):=by
 refine Fn.ok scI (fun vs H Q E h=>?_) (fun cdv A outer s H vs Q E hr h=>?_)
 .obtain⟨p,dx,rfl,_⟩:=h
  rfl
 .obtain⟨p,dx,rfl,hp,k⟩:=h
  refine⟨_,gT (aHd (pv 0) yZ rfl) (aFr (aHd (pv 0) (aO4 tG) rfl)),?_⟩
  refine⟨_,rfl,p,C,dx,[],rfl,hp,T.cl,T.n1,(by show 0<1000;decide),E4 _,fun sa hsa=>⟨_,rfl,p,C,dx,uG "prime" (V.int 0) [],rfl,?_,T.cl,T.n0,?_,?_⟩⟩
  .rw[aU (cZ bG hsa)];exact bG
  .show 1<1000;decide
  .have nsp:p≠sa:=cZ bG hsa
   have e:uG "steps" (V.ref sa) (uG "prime" (V.int 0) [])=hfs 0 sa:=by
    simp only[uG,ig bB9,hfs]
   have hsa0:H sa=none:=by rw[←hsa,aU nsp.symm]
   refine k _ sa ?_ ?_ hsa0 fun b o eb hb=>?_
   .rw[bG,e]
   .rw[aU nsp.symm];exact bG
   .have hbs:b≠sa:=fun z=>by rw[z,hsa0]at eb;cases eb
    rw[aU hb,aU hbs,aU hb];exact eb
end
def aloop(E:List Dat→Int→List Dat→Option (Dat×List Dat×Int))(ar:List Nat)(ns:List Int):Nat→Nat→List Dat→Int→List Dat→Option (List Dat)
 |0,_,_,_,_=>none
 |f+1,i,l,p,acc=>if ns.length≤i then some acc else
  (ns[i]?).bind fun c=>(Pl.qE ar.length c).bind fun j=>(ar[j]?).bind fun n=>
   (E l p [.int c,.lst (((ns.drop (i+1)).take n).map .int)]).bind fun z=>match z.1 with
    |.lst ds=>if ds.all flat&&decide (acc.length+1+ds.length≤SZ)then aloop E ar ns f (i+1+n) z.2.1 z.2.2 (acc++.int ds.length::ds)else none
    |_=>none
theorem aU1(xs:List V)(s n:Nat):aLd xs (some ((s:Nat):Int)) (some ((s+n:Nat):Int))=(xs.drop s).take n:=by
 unfold aLd
 rw[HT.aOr,HT.aOr]
 by_cases h:s≤xs.length
 .rw[Gm h]
  by_cases h2:s+n≤xs.length
  .rw[Gm h2,C4]
  .rw[Hb (by omega),Gu (by simp),Gu (by simp;omega)]
 .rw[Hb (by omega),Hb (by omega),Dy (An _),Dy (by omega)]
  simp
def aX8(K:Ad)(E:List Dat→Int→List Dat→Option (Dat×List Dat×Int))(ar:List Nat):Sp:=fun vs H Q _=>∃(a:Addr)(ns:List Int)(out:List Dat)(fu:Nat),vs=[.ref a]∧SqL K H a (ns.map V.int)∧aloop E ar ns fu 0 [] 0 []=some out ∧
 ∀(H':Hp)(p:Addr)(us:List V),H' p=some (.lst us)→Reps K fl2 H' (fun _=>True) out us→Q (.ref p) H'
abbrev bF6:Stmt:=Px.top 212
section
variable{P:Program}{w:World}{K:Ad}{mg:Str→Option Value}{base:Heap}
theorem scA:FnScope ["calls","way","answered","start","end","answer"] ["calls"] (bL bF6):=nX (by decide +kernel)
theorem Ext.seq{H H':Hp}{a:Addr}{xs:List V}(e:Ext H H')(h:SqL K H a xs):SqL K H' a xs:=Same.seq (fun b o q=>e b o q) h
theorem bA7{f C fI fC aA:Addr}{fd fdI fdC:FuncData}{E:List Dat→Int→List Dat→Option (Dat×List Dat×Int)}{ar:List Nat}{k:Nat}(Fn:Fun K "answers" "answers" bF6 f fd)(T:ClsOk K C)(M:Mk K C fI)(FI:Fun K "__init__" "Way.__init__" aDe fI fdI)(bI:Binds K fdI ["self"] [])
  (GC:FnOk P w K mg base CX0 (k+2) fC fdC ["way","call","given"] (spO K C 3 E)) (bC:Binds K fdC ["way","call","given"] []) (kC:Bl K (.ref fC)=true) (mC:mg "answer_call"=some (.ref fC)) (mW:mg "Way"=some (.ref C)) (mA:mg "ARGUMENTS"=some (.ref aA)) (hA:aJs K aA (ar.map fun n=>V.int (n:Nat)))
  (mL:mg "len"=none):FnOk P w K mg base CX0 (k+3) f fd ["calls"] (aX8 K E ar):=by
 have GI:FnOk P w K mg base CX0 1 fI fdI ["self"] (aT8 C):=aW4 FI T
 refine Fn.ok scA (fun vs H Q E h=>?_) (fun cdv A outer s H vs Q E' hr h=>?_)
 .obtain⟨a,ns,out,fu,rfl,_⟩:=h
  rfl
 .obtain⟨a,ns,out,fu,rfl,hS,hlo,q⟩:=h
  have hr2:Room (1+1) _:=hr.mono (by omega)
  refine⟨_,gT (qY (i:=1) scA.nd rfl (Lx rfl) (aRq M GI hr2 rfl mW bI .nil aJ9))
   (gT (qY (i:=2) scA.nd rfl (Lx rfl) (aO4 tG))
   (gT (qY (i:=3) scA.nd rfl (Lx rfl) yZ)
   (gT (aHe PassesOwn.never (aOf bAp (pv 3) (jU nD (by rfl) mL Mv (lF (pv 0) tG)) (nomark _))
    (gT (qY (i:=4) scA.nd rfl (Lx rfl) (aRr aH7 (aRr aH7 (pv 3) yZ) (aFn aCm (xB (v:=.ref aA) rfl mA rfl) (aFn aEq (pv 0) (pv 3) (fun _ _=>rfl)) (fun _ _=>rfl))))
    (gT (qY (i:=5) scA.nd rfl (Lx rfl) (aFm GC hr rfl mC kC bC .nil aJ9 (lF (pv 1) (lF (aFn aEq (pv 0) (pv 3) (fun _ _=>rfl)) (lF (aHa aOt (pv 0) (aFp (aRr aH7 (pv 3) yZ)) (aFp (pv 4))) tG)))))
    (gT (sP (aJa C5 Gd Ge wJ (pv 2) (lF (jU nD (by rfl) mL Mv (lF (pv 5) tG)) tG)))
    (gT (sP (aJa C5 Iq Ir aCp (pv 2) (lF (pv 5) tG)))
    (aFr (qY (i:=3) scA.nd rfl (Lx rfl) (pv 4))))))))
   (aFr (zB (pv 2)))))),?_⟩
  intro wa dx nw ndx nex
  refine⟨wa,dx,rfl,bG,fun H1 sa h1 h2 h3 h4=>⟨rfl,?_⟩⟩
  have e1:Ext H H1:=fun b o eb=>by
   have b1:b≠wa:=fun z=>by rw[z,nw]at eb;cases eb
   have b2:b≠dx:=fun z=>by rw[z,ndx]at eb;cases eb
   exact h4 b o (by rw[aU b1,aU b2];exact eb) b1
  have nsw:sa≠wa:=fun z=>by rw[z,bG]at h3;cases h3
  have nsa:H sa=none:=by
   rw[aU nsw]at h3
   by_cases z:sa=dx
   .rw[z];exact ndx
   .rw[aU z]at h3;exact h3
  refine⟨E4 _,fun q0 hq0=>?_⟩
  have e2:Ext H1 (upd H1 q0 (.lst [])):=Ext.new hq0
  have nq0:H q0=none:=e1.none hq0
  have w0:WayAt K C (upd H1 q0 (.lst [])) wa sa [] 0:=(WayAt.mk ⟨dx,h1⟩ ⟨[],h2,by simp only[Reps]⟩ rfl).ext e2
  let W:Nat→St→Hp→Prop:=fun m σ H'=>∃(i:Nat)(l:List Dat)(p:Int)(sb:Addr)(acc:List Dat)(accV:List V)(v4 v5:Option V),σ=[some (.ref a),some (.ref wa),some (.ref q0),some (.int (i:Int)),v4,v5]∧Ext H H'∧WayAt K C H' wa sb l p∧H sb=none∧q0≠sb ∧
   H' q0=some (.lst accV)∧Reps K fl2 H' (fun _=>True) acc accV∧acc.all flat=true∧aloop E ar ns m i l p acc=some out
  refine⟨W,⟨fu,0,[],0,sa,[],[],none,none,rfl,e1.trans e2,w0,nsa,(fun z=>by rw[z,h2]at hq0;cases hq0),bG,by simp only[Reps],rfl,hlo⟩,?_⟩
  rintro m σ H2 ⟨i,l,p,sb,acc,accV,v4,v5,rfl,eH,wy,nsb,q0sb,hq,rs,hfl,hl⟩
  have hS2:=eH.seq hS
  refine⟨_,rfl,_,rfl,a,_,rfl,.inl hS2,_,_,rfl,rfl,_,rfl,?_⟩
  rw[Ag]
  cases m with
  |zero=>cases hl
  |succ m=>
  simp only[aloop]at hl
  by_cases hlen:ns.length≤i
  .rw[ip hlen]at hl
   cases hl
   rw[ig (by simp;omega)]
   exact⟨_,rfl,q H2 q0 accV hq rs⟩
  .rw[ig hlen]at hl
   rw[ip (by simp;omega)]
   obtain⟨c,hc,hl⟩:=Aa.mp hl
   obtain⟨j,hj,hl⟩:=Aa.mp hl
   obtain⟨n,hn,hl⟩:=Aa.mp hl
   obtain⟨z,hz,hl⟩:=Aa.mp hl
   obtain⟨zd,zl,zp⟩:=z
   cases zd<;>first|(exfalso;cases hl;done)|skip
   rename_i ds
   simp only[]at hl
   split at hl
   case isFalse=>cases hl
   rename_i hcond
   rw[Ac,dqe]at hcond
   have hat:atI (ns.map V.int) (i:Int)=some (.int c):=aTq (by rw[Bb,hc];rfl)
   have hat2:atI (ar.map fun n=>V.int (n:Nat)) c=some (.int (n:Nat)):=by
    unfold atI
    rw[Ag,←aGt,hj]
    simp[hn]
   have nwH:∀{b:Addr}{o:HO},H b=some o→b≠wa:=fun{b o}eb z=>by rw[z,nw]at eb;cases eb
   have hwa2:∃o,H2 wa=some o:=let ⟨d,e⟩:=wy.ins;⟨_,e⟩
   have hsb2:∃o,H2 sb=some o:=let ⟨d,e,_⟩:=wy.lst;⟨_,e⟩
   have q0wa:q0≠wa:=fun z=>by
    obtain⟨d,e⟩:=wy.ins
    rw[z,e]at hq;cases hq
   refine⟨fun σ H'=>W m σ H',fun σ' H' w'=>⟨m,Fb m,w'⟩,?_⟩

   refine⟨_,rfl,_,_,rfl,rfl,_,rfl,_,rfl,a,_,_,_,rfl,rfl,hS2,hat,aA,_,_,_,rfl,rfl,.inr hA,hat2,_,_,rfl,rfl,?_⟩

   refine⟨_,rfl,_,rfl,_,rfl,a,_,_,_,rfl,rfl,hS2,hat,_,rfl,_,rfl,_,_,rfl,rfl,_,rfl,_,rfl,_,rfl,a,_,rfl,hS2,fun g hg=>?_⟩
   have ecut:aLd (ns.map V.int) (some ((i:Int)+1)) (some ((i:Int)+1+(n:Nat)))=((ns.drop (i+1)).take n).map V.int:=by
    have e1:((i:Int)+1)=((i+1:Nat):Int):=by omega
    have e2:((i:Int)+1+(n:Nat))=((i+1+n:Nat):Int):=by omega
    rw[e2,e1,aU1,←Kr,←Fy]
   have eg:Ext H2 (upd H2 g (.lst (aLd (ns.map V.int) (some ((i:Int)+1)) (some ((i:Int)+1+(n:Nat)))))):=Ext.new hg
   have gwa:g≠wa:=fun z=>by
    obtain⟨o,e⟩:=hwa2
    rw[z,e]at hg;cases hg
   have gsb:g≠sb:=fun z=>by
    obtain⟨o,e⟩:=hsb2
    rw[z,e]at hg;cases hg
   have gq:g≠q0:=fun z=>by rw[z,hq]at hg;cases hg
   have rargs:∀(Hx:Hp)(S:Rg)(ms:List Int),Reps K fl2 Hx S (ms.map Dat.int) (ms.map V.int):=fun Hx S ms=>by
    induction ms with
    |nil=>simp only[G4,Reps]
    |cons x ms ih=>simp only[Ai,Reps];exact⟨_,_,rfl,Rep.int,ih⟩
   refine⟨wa,sb,l,p,[.int c,.ref g],[.int c,.lst (((ns.drop (i+1)).take n).map .int)],(.lst ds,zl,zp),rfl,rfl,wy.ext eg,?_,hz,fun v H' sc w' fr sn al rv=>?_⟩
   .refine aBm Rep.int (Rep.lst ⟨gwa,gsb⟩ bG ?_)
    rw[ecut]
    exact rargs _ _ _
   obtain⟨r,dv,rfl,⟨nr,rsc⟩,hr',rd⟩:=rv.toLst
   have hqc:upd H2 g (.lst (aLd (ns.map V.int) (some ((i:Int)+1)) (some ((i:Int)+1+(n:Nat))))) q0=some (.lst accV):=eg _ _ hq
   have hq':H' q0=some (.lst accV):=fr q0 _ hqc q0wa q0sb
   have eH':Ext H H':=fun b o eb=>fr b o (eg _ _ (eH _ _ eb)) (nwH eb) fun z=>by rw[z,nsb]at eb;cases eb
   have rq:r≠q0:=fun z=>by rw[z,hqc]at nr;cases nr
   have scq:q0≠sc:=fun z=>by
    rcases sn with y|y
    .exact q0sb (z.trans y)
    .rw[←z,hqc]at y;cases y
   have nsc:H sc=none:=by
    rcases sn with y|y
    .rw[y];exact nsb
    .exact(eH.trans eg).none y
   have ld:ds.length=dv.length:=rd.length
   have la:acc.length=accV.length:=rs.length
   have hsz:accV.length+1+dv.length≤16777216:=by
    have h5:acc.length+1+ds.length≤16777216:=hcond.2
    omega

   refine⟨_,rfl,.inl ⟨rfl,accV,SqL.of hq'⟩,_,rfl,r,dv,rfl,.inl (SqL.of hr'),q0,accV,_,rfl,rfl,hq',by rw[sizeLine_eq];omega,?_⟩

   refine⟨_,rfl,.inl ⟨rfl,_,SqL.of bG⟩,_,rfl,q0,r,_,dv,rfl,rfl,bG,by rw[aU rq];exact hr',by rw[sizeLine_eq,A6];simp;omega,?_⟩

   refine⟨_,rfl,i+1+n,zl,zp,sc,acc++.int ds.length::ds,accV++[.int dv.length]++dv,some (.int ((i:Int)+1+(n:Nat))),some (.ref r),?_,fun b o eb=>?_,?_,nsc,scq,bG,?_,?_,hl⟩
   .have e5:((i:Int)+1+(n:Nat))=((i+1+n:Nat):Int):=by omega
    rw[←e5]
    rfl
   .have bq:b≠q0:=fun z=>by rw[z,nq0]at eb;cases eb
    rw[aU bq,aU bq]
    exact eH' b o eb
   .refine w'.keep (fun o e=>?_) fun o e=>?_
    .rw[aU q0wa.symm,aU q0wa.symm];exact e
    .rw[aU scq.symm,aU scq.symm];exact e
   .have e6:accV++[V.int dv.length]++dv=accV++(V.int dv.length::dv):=by simp
    rw[e6]
    refine(rs.flat hfl).app ?_
    simp only[Reps]
    exact⟨_,_,rfl,by rw[ld];exact Rep.int,rd.flat hcond.1⟩
   .simp only[Fo,hfl,Bz,hcond.1,Pl.flat,Ej]
end
end L2.Sd
namespace Px
open Pl Tx
noncomputable def gv:List Int:=[-2,-6,-11,-22,-28,-33,1000000,1000000000,60,200,100,500000,2,100,1000,2000,60,10,24,20,600,700,60,2,100,40,2,2,60,100,200,500,1000,1000,2,0,9,21,33,44,57,70,86]
def G(g:Nat):Option Dat:=(gv[g]?).map Dat.int
noncomputable def Tl:List (List Nat):=[[18,19,20,21,22,23,24,25,26,27,28,29,30],[36,37,38,39,40,41,42,43,44,45,46,47],[56,57,58,59,60,61,62,63,64,65],[67,68,69,70,71,72,73,74,75],[79,80,81,82,83,84,85,86,87,88,89],[100,101,102,103,104,105,106,107,108,109,110,111,112,113,114,115],[118,119,120,121,122,123,124,125,126,127,128,129],[131,132,133,134,135,136,137,138,139,140,141,142,143]]
def T(t:Nat):List Nat:=Tl.getD t []
noncomputable def ar:List Nat:=[1,1,1,0,1,0,2,0,0,0,0,0,0,0,2,0,1,1,1,0,0,1,1,2,2,3,1,1,2,1,1,4,2,1,1,1,1,2,2,1,1,2,1,1,2,2,1,1,1,1,1,1,1,1,1,1,2,2,1,1,2,2,1,4,1,1,2,2,2,2,1,0,0,0,2,1,1,1,1,1,1,0,0,1,0,1,2,1,1,1,1,0,0,2,0,1]
section
variable(F:Nat→List Dat→Option Dat)(G:Nat→Option Dat)
noncomputable def m0:List Dat→Option Dat
 |[.int n,.int p]=>if 0≤n∧n<16777216∧2≤p∧p<100 then some (.lst ((D4 p.toNat n.toNat).map N))else none
 |_=>none
theorem aEj(f:Nat)(n:Int)(p:Nat)(hp:2≤p)(hp':p<100):∀(fuel r k:Nat)(acc:List Dat),r<2^k→k<fuel→acc.length+k<SZ→
  lE (fun e=>tst F G (.cmp .gt (.var 3) (.int 0)) (rho e)) (fun e=>run F G f (.cons (.app 2 (.bin .mod (.var 3) (.var 1))) (.cons (.set 3 false (.bin .fdiv (.var 3) (.var 1))) .nil)) e) fuel
   [I n,I p,some (.lst acc,true),I r]=some (.nxt [I n,I p,some (.lst (acc++(A2 p k r).map N),true),I 0]):=by
 intro fuel
 induction fuel with
 |zero=>intro r k acc _ h;omega
 |succ fuel ih=>
  intro r k acc hr hk hl
  by_cases h0:r=0
  .subst h0
   have:A2 p k 0=[]:=by cases k<;>simp[A2]
   rw[iY (by simp),this];simp
  .cases k with
   |zero=>simp at hr;omega
   |succ k=>
   have h3:r/p<2^k:=by
    refine Hg ?_
    rw[Cm]at hr
    calc r<2^k*2:=hr
     _≤p*2^k:=by rw[Ek];exact D7 _ hp
   rw[fT (e':=[I n,I p,some (.lst (acc++[N (r%p)]),true),I (r/p:Nat)]) (by simp;omega)
    (by rw[aM (yG (l:=acc) (d:=N (r%p)) rfl (by simp;exact cG (by omega)) rfl (by omega)),
       aM (aI (z:=(r/p:Nat)) (by simp;exact bT (by omega) (by omega)))];rfl),
    ih (r/p) k _ h3 (by omega) (by simp;omega)]
   simp[A2,h0]
theorem ok0:Computes F G 4 oT m0:=by
 intro args d h
 unfold m0 at h
 split at h
 .rename_i n p
  split at h
  .rename_i hh
   obtain⟨h1,h2,h3,h4⟩:=hh
   cases h
   obtain⟨n,rfl⟩:=Cg h1
   obtain⟨p,rfl⟩:=Cg (show 0≤p by omega)
   refine⟨by simp,25,?_⟩
   unfold oT
   rw[aM (aBj (d:=.lst []) rfl rfl rfl),aM (aI (z:=n) rfl),aM (by rw[aBk];exact aEj F G 25 n p (by omega) (by omega) 25 n 24 [] (by omega) (by omega) (by decide)),aF (xC (d:=.lst _) rfl rfl)]
   rfl
  .cases h
 .cases h
end
section
variable{F:Nat→List Dat→Option Dat}{G:Nat→Option Dat}
noncomputable def bW:List Dat→Option Dat
 |[.int a,.int b,.int p]=>if 0≤a∧a<16777216∧0≤b∧b<16777216∧2≤p∧p<100 then some (.lst ((A9 p.toNat a.toNat b.toNat).map N))else none
 |_=>none
theorem kF{r p k:Nat}(hp:2≤p)(hr:r<2^(k+1)):r/p<2^k:=by
 refine Hg ?_
 rw[Cm]at hr
 calc r<2^k*2:=hr
  _≤p*2^k:=by rw[Ek];exact D7 _ hp
theorem aHy(f p:Nat)(hp:2≤p)(hp':p<100):∀(fuel k a b i c:Nat)(acc:List Dat),a<2^k→b<2^k→k<fuel→acc.length+k<SZ→c≤1→∃c' i',
  lE (fun e=>tst F G (.or_ (.cmp .gt (.var 0) (.int 0)) (.cmp .gt (.var 1) (.int 0))) (rho e)) (fun e=>run F G f (.cons (.set 5 false (.bin .fdiv (.bin .add (.bin .add (.bin .mod (.var 0) (.var 2)) (.bin .mod (.var 1) (.var 2))) (.var 5)) (.var 2))) (.cons (.ite (.cmp .eq (.var 5) (.int 1)) (.cons (.app 3 (.var 4)) .nil) .nil) (.cons (.set 0 false (.bin .fdiv (.var 0) (.var 2))) (.cons (.set 1 false (.bin .fdiv (.var 1) (.var 2))) (.cons (.aug 4 .add (.int 1)) .nil))))) e) fuel
   [I a,I b,I p,some (.lst acc,true),I i,I c]=some (.nxt [I 0,I 0,I p,some (.lst (acc++(Dc p k i c a b).map N),true),I i',I c']):=by
 intro fuel
 induction fuel with
 |zero=>intro k a b i c acc _ _ h;omega
 |succ fuel ih=>
  intro k a b i c acc ha hb hk hl hc
  by_cases h0:a=0∧b=0
  .obtain⟨rfl,rfl⟩:=h0
   refine⟨c,i,?_⟩
   rw[iY (by rw[pQ,rV (k:=false) (by simp) (by simp)];rfl)]
   have:Dc p k i c 0 0=[]:=by cases k<;>simp[Dc]
   rw[this];simp
  .cases k with
   |zero=>simp at ha hb;omega
   |succ k=>
   have test:tst F G (.or_ (.cmp .gt (.var 0) (.int 0)) (.cmp .gt (.var 1) (.int 0))) (rho [I a,I b,I p,some (.lst acc,true),I i,I c])=some true:=by
    by_cases h1:a=0
    .rw[pQ,rV (k:=true) (by simp[h1]) (by simp;omega)];rfl
    .rw[pQ,vQ (by simp;omega)];rfl
   have hs:(a%p+b%p+c)/p≤1:=by
    have h1:=Bx a (show 0<p by omega)
    have h2:=Bx b (show 0<p by omega)
    have:a%p+b%p+c<2*p:=by omega
    have:=Hg (show a%p+b%p+c<p*2 by omega)
    omega
   have e5:ev F G (.bin .fdiv (.bin .add (.bin .add (.bin .mod (.var 0) (.var 2)) (.bin .mod (.var 1) (.var 2))) (.var 5)) (.var 2)) (rho [I a,I b,I p,some (.lst acc,true),I i,I c])=some (.int (((a%p+b%p+c)/p:Nat):Int)):=by
    simp only[aSt,aLm,aHi,aOo,C6,Jb,Bt,Af,id,cG (show 0<p by omega),fB]
    exact bT (by omega) (by omega)
   by_cases hcar:p≤a%p+b%p+c
   .have e1:(a%p+b%p+c)/p=1:=by
     have:=Kj hcar (by omega)
     omega
    obtain⟨c',i',hx⟩:=ih k (a/p) (b/p) (i+1) 1 (acc++[N i]) (kF hp ha) (kF hp hb) (by omega) (by simp;omega) (by omega)
    refine⟨c',i',?_⟩
    rw[e1]at e5
    rw[fT (e':=[I (a/p:Nat),I (b/p:Nat),I p,some (.lst (acc++[N i]),true),I ((i+1:Nat):Int),I ((1:Nat):Int)]) test
     (by rw[aM (aI e5),aM (by rw[aOk (by simp)];exact aM (yG (l:=acc) (d:=N i) rfl (by simp) rfl (by omega))),
        aM (aI (z:=(a/p:Nat)) (by simp;exact bT (by omega) (by omega))),aM (aI (z:=(b/p:Nat)) (by simp;exact bT (by omega) (by omega))),
        aM (qZ (x:=i) (z:=1) rfl rfl rfl)];rfl),hx]
    simp only[Dc,ig h0,ip hcar]
    simp
   .have e1:(a%p+b%p+c)/p=0:=Dv (by omega)
    obtain⟨c',i',hx⟩:=ih k (a/p) (b/p) (i+1) 0 acc (kF hp ha) (kF hp hb) (by omega) (by omega) (by omega)
    refine⟨c',i',?_⟩
    rw[e1]at e5
    rw[fT (e':=[I (a/p:Nat),I (b/p:Nat),I p,some (.lst acc,true),I ((i+1:Nat):Int),I ((0:Nat):Int)]) test
     (by rw[aM (aI e5),aM (by rw[aOj (by simp)];rfl),
        aM (aI (z:=(a/p:Nat)) (by simp;exact bT (by omega) (by omega))),aM (aI (z:=(b/p:Nat)) (by simp;exact bT (by omega) (by omega))),
        aM (qZ (x:=i) (z:=1) rfl rfl rfl)];rfl),hx]
    simp only[Dc,ig h0,ig hcar]
theorem wP:Computes F G 6 kT bW:=by
 intro args d h
 unfold bW at h
 split at h
 case h_2=>cases h
 rename_i a b p
 split at h
 case isFalse=>cases h
 rename_i hh
 obtain⟨h1,h2,h3,h4,h5,h6⟩:=hh
 cases h
 obtain⟨a,rfl⟩:=Cg h1
 obtain⟨b,rfl⟩:=Cg h3
 obtain⟨p,rfl⟩:=Cg (show 0≤p by omega)
 refine⟨by simp,25,?_⟩
 obtain⟨c',i',hx⟩:=aHy (F:=F) (G:=G) 25 p (by omega) (by omega) 25 24 a b 0 0 [] (by omega) (by omega) (by omega) (by decide) (by omega)
 unfold kT
 rw[aM (aBj (d:=.lst []) rfl rfl rfl),aM (aI (z:=0) rfl),aM (aI (z:=0) rfl),aM (by rw[aBk];exact hx),aF (xC (d:=.lst _) rfl rfl)]
 rfl
end
section
open Pl Tx Ma
section
variable{F:Nat→List Dat→Option Dat}{G:Nat→Option Dat}
noncomputable def eJ:List Dat→Option Dat
 |[.int n,.int p]=>if 0≤n∧n<16777216∧2≤p∧p<100 then some (.lst ((D4 p.toNat n.toNat).map N))else none
 |_=>none
noncomputable def cK:List Dat→Option Dat
 |[.int n,.int p]=>if 0≤n∧n<16777216∧2≤p∧p<100 then some (.int (Cr p.toNat n.toNat:Nat))else none
 |_=>none
theorem nF:∀(l:List Nat)(a:Nat),l.foldl (fun(a d:Nat)=>a+d) a=a+l.sum
 |[],a=>by simp
 |x::l,a=>by rw[Cp,nF l,Dr];omega
theorem aBw:∀l:List Nat,(l.map fun(x:Nat)=>(x:Int)).sum=((l.sum:Nat):Int)
 |[]=>rfl
 |x::l=>by rw[Ai,Dr,aBw l,Dr];omega
theorem aCv(h0:F dL=eJ):Computes F G 2 oS cK:=by
 intro args d h
 unfold cK at h
 split at h
 case h_2=>cases h
 rename_i n p
 split at h
 case isFalse=>cases h
 rename_i hh
 cases h
 refine⟨by simp,0,?_⟩
 unfold oS
 rw[aF (eB (d:=.int (Cr p.toNat n.toNat:Nat)) ?_ rfl)]
 have e:F dL [.int n,.int p]=some (.lst ((D4 p.toNat n.toNat).map N)):=by rw[h0];simp only[eJ];rw[ip hh]
 simp only[start,Ka,Co,Iw,A8,aHi,aOo,aSu,aGi,aE,aLl,aLm,Jd,Cq,Jb,C6,Af,Bt,id,e,aEf,vV,aBw]
 simp only[Cr,Kp266.sum,nF,Bw]
noncomputable def bN:List Dat→Option Dat
 |[.int a,.int b,.int p]=>if 0≤a∧a<16777216∧0≤b∧b<16777216∧2≤p∧p<100 then some (.int ((A9 p.toNat a.toNat b.toNat).length:Nat))else none
 |_=>none
theorem xW(h0:F eR=bW):Computes F G 3 lT bN:=by
 intro args d h
 unfold bN at h
 split at h
 case h_2=>cases h
 rename_i a b p
 split at h
 case isFalse=>cases h
 rename_i hh
 cases h
 refine⟨by simp,0,?_⟩
 unfold lT
 have e:F eR [.int a,.int b,.int p]=some (.lst ((A9 p.toNat a.toNat b.toNat).map N)):=by rw[h0];simp only[bW];rw[ip hh]
 rw[aF (eB (d:=.int ((A9 p.toNat a.toNat b.toNat).length:Nat)) ?_ rfl)]
 simp[start,e]
def bO:List Dat→Option Dat
 |[.lst l]=>if l.all flat=true∧l.length<SZ then some (.lst (.int l.length::l))else none
 |_=>none
theorem aIp:Computes F G 1 uM bO:=by
 intro args d h
 unfold bO at h
 split at h
 case h_2=>cases h
 rename_i l
 split at h
 case isFalse=>cases h
 rename_i hh
 cases h
 refine⟨by simp,0,?_⟩
 unfold uM
 rw[aF (fK (d:=.lst (.int l.length::l)) ?_ rfl ?_)]
 .have hz:l.length<16777216:=hh.2
  simp[start,SZ]
  omega
 .simp[flats,hh.1]
noncomputable def cM:List Dat→Option Dat
 |[.bl b]=>some (.int (if b then 1 else 0))
 |_=>none
theorem aD4:Computes F G 1 pC cM:=by
 intro args d h
 unfold cM at h
 split at h
 case h_2=>cases h
 rename_i b
 cases h
 refine⟨by simp,0,?_⟩
 unfold pC
 cases b<;>rfl
noncomputable def aO:List Dat→Option Dat
 |[.int n,.int k]=>if 0≤n∧n<1000000∧0≤k then some (.int (C n.toNat k.toNat:Nat))else none
 |_=>none
theorem aPi(f n k:Nat)(hk:k≤n)(hn:n<1000000):∀(j i:Nat)(v:Slot),i+j=k→
  lN (.one 3) (fun e=>run F G f (.cons (.set 2 false (.bin .fdiv (.bin .mul (.var 2) (.bin .add (.bin .sub (.var 0) (.var 1)) (.var 3))) (.var 3))) .nil) e) ((Ab j).map fun t=>N (i+1+t)) [I n,I k,I (C (n-k+i) i:Nat),v]=some (.nxt [I n,I k,I (C n k:Nat),if j=0 then v else I k]):=by
 intro j
 induction j with
 |zero=>
  intro i v h
  have e:n-k+i=n:=by omega
  rw[e]
  simp[pH,show i=k by omega]
 |succ j ih=>
  intro i v h
  rw[Av,Ai,Aj]
  have e2:(fun t=>N (i+1+t))∘G3=fun t=>N (i+1+1+t):=by
   funext t;simp only[E6];congr 1;omega
  rw[e2]
  have hd:=bCo (n-k) i
  rw[bH (e1:=[I n,I k,I (C (n-k+i) i:Nat),I ((i+1:Nat):Int)]) (e':=[I n,I k,I (C (n-k+(i+1)) (i+1):Nat),I ((i+1:Nat):Int)]) rfl ?_]
  .rw[ih (i+1) _ (by omega)]
   by_cases hj:j=0
   .subst hj
    have:i+1=k:=by omega
    simp[this]
   .simp[hj]
  .have e3:(n:Int)-(k:Int)+((i+1:Nat):Int)=((n-k+(i+1):Nat):Int):=by omega
   have e4:bop .add (.int ((n:Int)-(k:Int))) (.int ((i+1:Nat):Int))=some (.int ((n-k+(i+1):Nat):Int)):=by rw[fB,e3]
   have e5:bop .fdiv (.int ((C (n-k+i) i*(n-k+(i+1)):Nat):Int)) (.int ((i+1:Nat):Int))=some (.int ((C (n-k+(i+1)) (i+1):Nat):Int)):=by rw[bT (by omega) (by omega),hd]
   rw[aM (aI (z:=(C (n-k+(i+1)) (i+1):Nat)) (jL (jL (aV rfl) (jL (jL (aV rfl) (aV rfl) hJ) (aV rfl) e4) (dO (.inr (by omega)))) (aV rfl) e5))]
   rfl
theorem aJ6:Computes F G 4 vD aO:=by
 intro args d h
 unfold aO at h
 split at h
 case h_2=>cases h
 rename_i n k
 split at h
 case isFalse=>cases h
 rename_i hh
 obtain⟨h1,h2,h3⟩:=hh
 cases h
 obtain⟨n,rfl⟩:=Cg h1
 obtain⟨k,rfl⟩:=Cg h3
 refine⟨by simp,0,?_⟩
 unfold vD
 by_cases hk:n<k
 .rw[aF (d:=.int 0) (by rw[aOk (by simp[start];omega),aF (eB (d:=.int 0) rfl rfl)])]
  simp[aTj n k hk]
 .rw[aM (s':=[I n,I k,none,none]) (by rw[aOj (by simp[start];omega)];rfl),aM (s':=[I n,I k,I 1,none]) (aI (z:=1) rfl)]
  have e4:range [Dat.int 1,Dat.int ((k:Int)+1)]=some ((Ab k).map fun t=>N (0+1+t)):=(oQ (i:=1) (j:=k+1) (by omega) (by omega)).trans (by rw[Cu])
  have e5:evs F G (.cons (.int 1) (.cons (.bin .add (.var 1) (.int 1)) .nil)) (rho [I n,I k,I 1,none])=some [Dat.int 1,Dat.int ((k:Int)+1)]:=aG bJ (aG (jL (aV rfl) bJ fB) aE)
  have hi:items F G (.range (.cons (.int 1) (.cons (.bin .add (.var 1) (.int 1)) .nil))) (rho [I n,I k,I 1,none])=some ((Ab k).map fun t=>N (0+1+t)):=by
   rw[vW,e5,Af,e4]
  have hw:=aPi (F:=F) (G:=G) 0 n k (by omega) (by omega) k 0 none (by omega)
  simp only[Fl,aC1]at hw
  rw[aM (by rw[aRx hi rfl];exact hw),aF (eB (d:=.int (C n k:Nat)) (by simp) rfl)]
  simp
end
end
theorem bFo{F:Nat→List Dat→Option Dat}{G:Nat→Option Dat}{a b:Tm}{r:Rho}{x y:Bool}(ha:ev F G a r=some (.bl x))(hb:x=false→ev F G b r=some (.bl y)):ev F G (.or_ a b) r=some (.bl (x||y)):=by
 cases x
 .exact rV ha (hb rfl)
 .exact vQ ha
theorem pX{F:Nat→List Dat→Option Dat}{G:Nat→Option Dat}{g:Nat}{r:Rho}{d:Dat}(h:G g=some d):ev F G (.glo g) r=some d:=by rw[aYk];exact h
theorem aYf{F:Nat→List Dat→Option Dat}{G:Nat→Option Dat}{a:Tm}{r:Rho}{k:Bool}(h:ev F G a r=some (.bl k)):ev F G (.not_ a) r=some (.bl (!k)):=by rw[aYp,h];rfl
theorem eQ{F:Nat→List Dat→Option Dat}{G:Nat→Option Dat}{f:Nat}{c:Tm}{a b:Stms}{s:Env}{x:Option Flow}(h:ev F G c (rho s)=some (.bl true))(h2:run F G f a s=x):mQ F G f (.ite c a b) s=x:=(aOk h).trans h2
theorem eF{F:Nat→List Dat→Option Dat}{G:Nat→Option Dat}{f:Nat}{c:Tm}{a b:Stms}{s:Env}{x:Option Flow}(h:ev F G c (rho s)=some (.bl false))(h2:run F G f b s=x):mQ F G f (.ite c a b) s=x:=(aOj h).trans h2
theorem jG{F:Nat→List Dat→Option Dat}{G:Nat→Option Dat}{f:Nat}{tg:Tg}{it:Wk}{b:Stms}{s:Env}{ds:List Dat}{x:Option Flow}(h:items F G it (rho s)=some ds)(ho:(bBs it).all (fun j=>!owned s j)=true)(h2:lN tg (fun e=>run F G f b e) ds s=x):mQ F G f (.for_ tg it b) s=x:=(aRx h ho).trans h2
theorem aD{F:Nat→List Dat→Option Dat}{G:Nat→Option Dat}{f:Nat}{a:Stm}{r:Stms}{s s':Env}{x:Option Flow}(h:mQ F G f a s=some (.nxt s'))(h2:run F G f r s'=x):run F G f (.cons a r) s=x:=(aM h).trans h2
theorem cE{F:Nat→List Dat→Option Dat}{G:Nat→Option Dat}{l:Tms}{r:Rho}{ds z:List Dat}(h:evs F G l r=some ds)(h2:Pl.range ds=some z):items F G (.range l) r=some z:=by rw[vW,h,Af,h2]
theorem aGp{F:Nat→List Dat→Option Dat}{G:Nat→Option Dat}{a:Tm}{r:Rho}{l:List Dat}(h:ev F G a r=some (.lst l)):items F G (.of a) r=some l:=by rw[aGr,h];rfl
theorem vU{F:Nat→List Dat→Option Dat}{G:Nat→Option Dat}{a:Tm}{r:Rho}{l:List Dat}(h:ev F G a r=some (.lst l)):items F G (.enum a) r=some (eX 0 l):=by rw[aI9,h];rfl
theorem aYv{F:Nat→List Dat→Option Dat}{G:Nat→Option Dat}{a:Tm}{r:Rho}{l:List Dat}(h:ev F G a r=some (.lst l)):items F G (.rev a) r=some l.reverse:=by rw[vX,h];rfl
theorem aUd{F:Nat→List Dat→Option Dat}{G:Nat→Option Dat}{a b:Tm}{r:Rho}{l m:List Dat}(h:ev F G a r=some (.lst l))(h2:ev F G b r=some (.lst m)):items F G (.zip a b) r=some (aDq l m):=by rw[aM8,h,h2];rfl
theorem aS5{F:Nat→List Dat→Option Dat}{G:Nat→Option Dat}{a:Tm}{r:Rho}{k:Bool}(h:ev F G a r=some (.bl k)):tst F G a r=some k:=by rw[pQ,h];rfl
theorem aCj{F:Nat→List Dat→Option Dat}{G:Nat→Option Dat}{α:Type}{e:Tm}{tg:Tg}{it:Wk}{r:Rho}(q g:α→Dat)(l:List α)(hi:items F G it r=some (l.map q))(hl:l.length≤SZ)(h:∀a∈l,∃r',aHu tg (q a) r=some r'∧ev F G e r'=some (g a)):ev F G (.lc e tg it .nil) r=some (.lst (l.map g)):=by
 rw[aYm,hi,Af,Ag,ip hl,aG8 q g l (fun a ha=>?_)]
 .rfl
 .obtain⟨r',h1,h2⟩:=h a ha
  exact⟨r',h1,aS8,h2⟩
theorem rT{F:Nat→List Dat→Option Dat}{G:Nat→Option Dat}{α:Type}{e c:Tm}{tg:Tg}{it:Wk}{r:Rho}(q:α→Dat)(p:α→Bool)(g:α→Dat)(l:List α)(hi:items F G it r=some (l.map q))(hl:l.length≤SZ)(h:∀a∈l,∃r',aHu tg (q a) r=some r'∧ev F G c r'=some (.bl (p a))∧(p a=true→ev F G e r'=some (g a))):ev F G (.lc e tg it (.cons c .nil)) r=some (.lst ((l.filter p).map g)):=by
 rw[aYm,hi,Af,Ag,ip hl,vN q p g l (fun a ha=>?_)]
 .rfl
 .obtain⟨r',h1,h2,h3⟩:=h a ha
  exact⟨r',h1,by rw[aS9,h2];rfl,h3⟩
theorem aYw{d:Dat}{l:List Dat}:idx (.lst (d::l)) (.int 0)=some d:=nJ.trans bFg
theorem aYx{d e:Dat}{l:List Dat}:idx (.lst (d::e::l)) (.int 1)=some e:=nJ.trans bFh
theorem aYy{d e a:Dat}{l:List Dat}:idx (.lst (d::e::a::l)) (.int 2)=some a:=nJ.trans bFi
theorem aYz{d e a b:Dat}{l:List Dat}:idx (.lst (d::e::a::b::l)) (.int 3)=some b:=nJ.trans bFj
theorem aBq{F:Nat→List Dat→Option Dat}{G:Nat→Option Dat}{f:Nat}{l:Tms}{s:Env}{ds:List Dat}(h:evs F G l (rho s)=some ds)(hl:ds.length≤SZ)(hf:ds.all flat=true):mQ F G f (.ret (.lst l)) s=some (.ret (.lst ds)):=fK (kG h hl) rfl hf
noncomputable def ai (num:Int) (nums:List Int):Dat:=.lst ((num::nums).map Dat.int)
local macro_rules|`(tactic| w_fin)=>`(tactic| repeat' first
 |with_reducible first
  |exact bJ|exact aU6|exact oJ|exact aE
  |exact fB|exact hJ|exact yM|exact yO|exact aGa|exact aG9|exact yN|exact vO
  |exact aA5|exact aYw|exact aYx|exact aYy|exact aYz|assumption
  |apply jL|apply lH|apply aG|apply cA|apply cP|apply aYe|apply pX|apply aYf
 |exact aV rfl|exact fB|exact yM|assumption|exact bJ|exact hJ|exact yO|exact aGa|exact aG9|exact yN|exact vO)
theorem ap{F:Nat→List Dat→Option Dat}{g:Nat}{m:List Dat→Option Dat}{x:List Dat}{v:Option Dat}(h:F g=m)(e:m x=v):F g x=v:=by rw[h];exact e
noncomputable abbrev L1 (a:Nat):Slot:=some (.lst [N a],false)
noncomputable abbrev L2 (a b:Nat):Slot:=some (.lst [N a,N b],false)
noncomputable abbrev L4 (a b c d:Nat):Slot:=some (.lst [N a,N b,N c,N d],false)
noncomputable def nats:List Dat→Option (List Nat)
 |[]=>some []
 |.int (.ofNat n)::r=>(nats r).map (n::·)
 |_::_=>none
theorem tF:∀l:List Nat,nats (l.map N)=some l
 |[]=>rfl
 |n::l=>by
  show(nats (l.map N)).map (n::·)=_
  rw[tF l];rfl
theorem aBb:∀{ds:List Dat}{l:List Nat},nats ds=some l→ds=l.map N
 |[],l,h=>by cases h;rfl
 |.int (.ofNat n)::r,l,h=>by
  simp only[nats,Ae]at h
  obtain⟨m,hm,rfl⟩:=h
  rw[aBb hm];rfl
 |.int (.negSucc n)::r,l,h=>by cases h
 |.non::r,l,h=>by cases h
 |.bl _::r,l,h=>by cases h
 |.lst _::r,l,h=>by cases h
 |.tup _::r,l,h=>by cases h
 |.rcd _::r,l,h=>by cases h
theorem nj{l m:List Nat}(h:l.map N=m.map N):l=m:=A0 ((tF l).symm.trans ((congrArg nats h).trans (tF m)))
open Classical in
def wo{A:Type}(e:A→List Dat)(P:A→Prop)(v:A→Dat)(ds:List Dat):Option Dat:=if h:∃a,e a=ds∧P a then some (v (Classical.choose h))else none
theorem gU{A:Type}{e:A→List Dat}{P:A→Prop}{v:A→Dat}{a:A}(i:∀b,P b→e b=e a→b=a)(h:P a):wo e P v (e a)=some (v a):=by
 have k:∃b,e b=e a∧P b:=⟨a,rfl,h⟩
 unfold wo
 rw[dif_pos k,i _ (Classical.choose_spec k).2 (Classical.choose_spec k).1]
theorem gC{A:Type}{e:A→List Dat}{P:A→Prop}{v:A→Dat}{ds:List Dat}{d:Dat}(h:wo e P v ds=some d):∃a,e a=ds∧P a∧v a=d:=by
 unfold wo at h
 by_cases k:∃a,e a=ds∧P a
 .rw[dif_pos k]at h
  exact⟨_,(Classical.choose_spec k).1,(Classical.choose_spec k).2,A0 h⟩
 .rw[dif_neg k]at h;cases h
theorem gW{A:Type}{e:A→List Dat}{P:A→Prop}{v:A→Dat}{n:Nat}(H:∀a,(e a).length=n):∀ds d,wo e P v ds=some d→ds.length=n:=by
 intro ds d h
 obtain⟨a,rfl,_⟩:=gC h
 exact H a
def nn1(P:Nat→Prop)(v:Nat→Dat):List Dat→Option Dat:=wo (fun n=>[N n]) P v
def nn2(P:Nat→Nat→Prop)(v:Nat→Nat→Dat):List Dat→Option Dat:=wo (fun z:Nat×Nat=>[N z.1,N z.2]) (fun z=>P z.1 z.2) fun z=>v z.1 z.2
def nn3(P:Nat→Nat→Nat→Prop)(v:Nat→Nat→Nat→Dat):List Dat→Option Dat:=wo (fun z:Nat×Nat×Nat=>[N z.1,N z.2.1,N z.2.2]) (fun z=>P z.1 z.2.1 z.2.2) fun z=>v z.1 z.2.1 z.2.2
theorem gQ{P v}{n:Nat}(h:P n):nn1 P v [N n]=some (v n):=gU (a:=n) (fun b _ h=>by cases nj (l:=[b]) (m:=[n]) h;rfl) h
theorem dN{P v}{n k:Nat}(h:P n k):nn2 P v [N n,N k]=some (v n k):=gU (a:=(n,k)) (fun b _ h=>by obtain⟨x,y⟩:=b;cases nj (l:=[x,y]) (m:=[n,k]) h;rfl) h
theorem sF{P v}{n k p:Nat}(h:P n k p):nn3 P v [N n,N k,N p]=some (v n k p):=gU (a:=(n,k,p)) (fun b _ h=>by obtain⟨x,y,z⟩:=b;cases nj (l:=[x,y,z]) (m:=[n,k,p]) h;rfl) h
theorem aVd{P v}:∀ds d,nn1 P v ds=some d→ds.length=1:=gW fun _=>rfl
theorem aVe{P v}:∀ds d,nn2 P v ds=some d→ds.length=2:=gW fun _=>rfl
theorem aVf{P v}:∀ds d,nn3 P v ds=some d→ds.length=3:=gW fun _=>rfl
abbrev B32:Nat:=4294967296
abbrev eD(z:Nat×List Nat):List Dat:=[N z.1,.lst (z.2.map N)]
theorem aU4{P:Nat×List Nat→Prop}{a:Nat×List Nat}(b:Nat×List Nat)(_:P b)(h:eD b=eD a):b=a:=by
 obtain⟨x,l⟩:=b
 obtain⟨y,m⟩:=a
 have h2:Dat.lst (l.map N)=.lst (m.map N):=(Dk.inj (Dk.inj h).2).1
 cases nj (Dat.lst.inj h2)
 cases nj (l:=[x]) (m:=[y]) (congrArg (fun d=>[d]) (Dk.inj h).1)
 rfl
def nd1(v:Nat→Nat→Dat):List Dat→Option Dat:=wo eD (fun z=>Ba z.1=true∧∃a,z.2=[a]∧a<B32) fun z=>v z.1 (z.2.getD 0 0)
def nd2(v:Nat→Nat→Nat→Dat):List Dat→Option Dat:=wo eD (fun z=>Ba z.1=true∧∃a b,z.2=[a,b]∧a<B32∧b<B32) fun z=>v z.1 (z.2.getD 0 0) (z.2.getD 1 0)
def nd3(v:Nat→Nat→Nat→Nat→Dat):List Dat→Option Dat:=wo eD (fun z=>Ba z.1=true∧∃a b c,z.2=[a,b,c]∧a<B32∧b<B32∧c<B32) fun z=>v z.1 (z.2.getD 0 0) (z.2.getD 1 0) (z.2.getD 2 0)
def nd4(v:Nat→Nat→Nat→Nat→Nat→Dat):List Dat→Option Dat:=wo eD (fun z=>Ba z.1=true∧∃a b c d,z.2=[a,b,c,d]∧a<B32∧b<B32∧c<B32∧d<B32) fun z=>v z.1 (z.2.getD 0 0) (z.2.getD 1 0) (z.2.getD 2 0) (z.2.getD 3 0)
theorem bY{v}{p a:Nat}(h:Ba p=true∧a<B32):nd1 v [N p,.lst [N a]]=some (v p a):=gU (a:=(p,[a])) aU4 ⟨h.1,_,rfl,h.2⟩
theorem eV{v}{p a b:Nat}(h:Ba p=true∧a<B32∧b<B32):nd2 v [N p,.lst [N a,N b]]=some (v p a b):=gU (a:=(p,[a,b])) aU4 ⟨h.1,_,_,rfl,h.2⟩
theorem aV9{v}{p a b c:Nat}(h:Ba p=true∧a<B32∧b<B32∧c<B32):nd3 v [N p,.lst [N a,N b,N c]]=some (v p a b c):=gU (a:=(p,[a,b,c])) aU4 ⟨h.1,_,_,_,rfl,h.2⟩
theorem aN8{v}{p a b c d:Nat}(h:Ba p=true∧a<B32∧b<B32∧c<B32∧d<B32):nd4 v [N p,.lst [N a,N b,N c,N d]]=some (v p a b c d):=gU (a:=(p,[a,b,c,d])) aU4 ⟨h.1,_,_,_,_,rfl,h.2⟩
theorem nQ{p:Nat}(h:Ba p=true):2≤p∧p<100:=by
 unfold Ba Bh at h
 simp only[Ac,dqe]at h
 exact⟨h.2.1,h.1⟩
section
variable{F:Nat→List Dat→Option Dat}{G:Nat→Option Dat}
theorem cd1{v s b}(hs:2≤s)(h:∀p a:Nat,Ba p=true→2≤p∧p<100→a<B32→∃fuel,run F G fuel b (I p::some (.lst [N a],false)::A8 (s-2) none)=some (.ret (v p a))):Computes F G s b (nd1 v):=by
 intro args d e
 obtain⟨⟨p,l⟩,rfl,⟨hp,x,rfl,hx⟩,rfl⟩:=gC e
 exact⟨hs,h _ _ hp (nQ hp) hx⟩
theorem cd2{v s b}(hs:2≤s)(h:∀p a c:Nat,Ba p=true→2≤p∧p<100→a<B32→c<B32→∃fuel,run F G fuel b (I p::some (.lst [N a,N c],false)::A8 (s-2) none)=some (.ret (v p a c))):Computes F G s b (nd2 v):=by
 intro args d e
 obtain⟨⟨p,l⟩,rfl,⟨hp,x,y,rfl,hx,hy⟩,rfl⟩:=gC e
 exact⟨hs,h _ _ _ hp (nQ hp) hx hy⟩
theorem cd3{v s b}(hs:2≤s)(h:∀p x y z:Nat,Ba p=true→2≤p∧p<100→x<B32→y<B32→z<B32→∃fuel,run F G fuel b (I p::some (.lst [N x,N y,N z],false)::A8 (s-2) none)=some (.ret (v p x y z))):Computes F G s b (nd3 v):=by
 intro args d e
 obtain⟨⟨p,l⟩,rfl,⟨hp,x,y,z,rfl,hx,hy,hz⟩,rfl⟩:=gC e
 exact⟨hs,h _ _ _ _ hp (nQ hp) hx hy hz⟩
theorem cd4{v s b}(hs:2≤s)(h:∀p x y z w:Nat,Ba p=true→2≤p∧p<100→x<B32→y<B32→z<B32→w<B32→∃fuel,run F G fuel b (I p::some (.lst [N x,N y,N z,N w],false)::A8 (s-2) none)=some (.ret (v p x y z w))):Computes F G s b (nd4 v):=by
 intro args d e
 obtain⟨⟨p,l⟩,rfl,⟨hp,x,y,z,w,rfl,hx,hy,hz,hw⟩,rfl⟩:=gC e
 exact⟨hs,h _ _ _ _ _ hp (nQ hp) hx hy hz hw⟩
theorem aCc{P v s b}(hs:1≤s)(h:∀n:Nat,P n→∃fuel,run F G fuel b (I n::A8 (s-1) none)=some (.ret (v n))):Computes F G s b (nn1 P v):=by
 intro args d e
 obtain⟨z,rfl,hp,rfl⟩:=gC e
 exact⟨hs,h _ hp⟩
theorem pF{P v s b}(hs:2≤s)(h:∀n k:Nat,P n k→∃fuel,run F G fuel b (I n::I k::A8 (s-2) none)=some (.ret (v n k))):Computes F G s b (nn2 P v):=by
 intro args d e
 obtain⟨z,rfl,hp,rfl⟩:=gC e
 exact⟨hs,h _ _ hp⟩
theorem aLa{P v s b}(hs:3≤s)(h:∀n k p:Nat,P n k p→∃fuel,run F G fuel b (I n::I k::I p::A8 (s-3) none)=some (.ret (v n k p))):Computes F G s b (nn3 P v):=by
 intro args d e
 obtain⟨z,rfl,hp,rfl⟩:=gC e
 exact⟨hs,h _ _ _ hp⟩
end
section
open Pl Tx Ma
section
variable{F:Nat→List Dat→Option Dat}{G:Nat→Option Dat}
theorem dB{a b p:Nat}(ha:a<16777216)(hb:b<16777216)(hp:2≤p∧p<100):bN [N a,N b,N p]=some (N (A9 p a b).length):=by
 simp only[bN,B8];rw[ip (by omega)]
theorem uJ{n p:Nat}(hn:n<16777216)(hp:2≤p∧p<100):eJ [N n,N p]=some (.lst ((D4 p n).map N)):=by
 simp only[eJ,B8];rw[ip (by omega)]
def dU:=nn3 (fun n k p=>k≤n∧n<16777216∧2≤p∧p<100) fun n k p=>N (Ao p n k)
theorem aFe(h0:F aL=bN):Computes F G 3 rM dU:=by
 refine aLa (by decide) fun n k p h=>⟨0,?_⟩
 have e:F aL [N k,.int ((n:Int)-k),N p]=some (N (Ao p n k)):=by
  rw[h0,←D1 h.1];exact dB (by omega) (by omega) h.2.2
 unfold rM
 exact aF (eB (by w_fin) rfl)
theorem xG(f:Nat):∀(l:List Nat)(a n p:Nat)(v:Slot),(∀d∈l,d<100)→∃w,
  lN (.one 3) (fun e=>run F G f (.cons (.set 2 false (.bin .mul (.var 2) (.bin .add (.var 3) (.int 1)))) .nil) e) (l.map N) [I n,I p,I a,v]=some (.nxt [I n,I p,I ((l.foldl (fun(a d:Nat)=>a*(d+1)) a:Nat):Int),w])
 |[],a,n,p,v,_=>⟨v,rfl⟩
 |d::l,a,n,p,v,h=>by
  obtain⟨w,hw⟩:=xG f l (a*(d+1)) n p (I d) fun x hx=>h x (by simp[hx])
  refine⟨w,?_⟩
  have hd:=h d (by simp)
  have e4:bop .mul (N a) (.int ((d:Int)+1))=some (N (a*(d+1))):=dO (m:=a) (n:=d+1) (.inr (by omega))
  rw[Ai,bH (e1:=[I n,I p,I a,I d]) (e':=[I n,I p,I (a*(d+1):Nat),I d]) rfl (aM (aI (z:=(a*(d+1):Nat)) (by w_fin))),hw]
  rfl
theorem aAb{p:Nat}(hp:0<p):∀(f n:Nat),∀d∈A2 p f n,d<p:=by
 intro f
 induction f with
 |zero=>intro n d h;simp[A2]at h
 |succ f ih=>
  intro n d h
  unfold A2 at h
  split at h
  .simp at h
  .rcases A1.mp h with rfl|h
   .exact Bx _ hp
   .exact ih _ _ h
def eL:=nn2 (fun n p=>n<16777216∧2≤p∧p<100) fun n p=>N (Bv p n)
theorem aD1(h0:F dL=eJ):Computes F G 4 oZ eL:=by
 refine pF (by decide) fun n p h=>⟨0,?_⟩
 have e:F dL [N n,N p]=some (.lst ((D4 p n).map N)):=by rw[h0];exact uJ h.1 h.2
 unfold oZ
 obtain⟨w,hw⟩:=xG (F:=F) (G:=G) 0 (D4 p n) 1 n p none fun d hd=>Nat.lt_trans (aAb (by omega) _ _ _ hd) h.2.2
 have e2:ev F G (.call dL (.cons (.var 0) (.cons (.var 1) .nil))) (rho [I n,I p,I 1,none])=some (.lst ((D4 p n).map N)):=by w_fin
 rw[aM (s':=[I n,I p,I 1,none]) (aI (z:=1) bJ),aM (by rw[aRx (by rw[aGr,e2];rfl) rfl];exact hw)]
 exact aF (eB (by w_fin) rfl)
theorem aVw(f p:Nat)(hp:2≤p)(hp':p<100):∀(fuel k a c n:Nat),0<a→a<2^k→k<fuel→∃w,
  lE (fun e=>tst F G (.cmp .eq (.bin .mod (.var 2) (.var 1)) (.int 0)) (rho e)) (fun e=>run F G f (.cons (.set 2 false (.bin .fdiv (.var 2) (.var 1))) (.cons (.aug 3 .add (.int 1)) .nil)) e) fuel
   [I n,I p,I a,I c]=some (.nxt [I n,I p,w,I ((c+Ds p k a:Nat):Int)]):=by
 intro fuel
 induction fuel with
 |zero=>intro k a c n _ _ h;omega
 |succ fuel ih=>
  intro k a c n h0 ha hk
  have e1:bop .mod (N a) (N p)=some (N (a%p)):=cG (by omega)
  have e2:bop .fdiv (N a) (N p)=some (N (a/p)):=bT (by omega) (by omega)
  cases k with
  |zero=>simp at ha;omega
  |succ k=>
  have test:tst F G (.cmp .eq (.bin .mod (.var 2) (.var 1)) (.int 0)) (rho [I n,I p,I a,I c])=some (decide (((a%p:Nat):Int)=0)):=by
   rw[pQ,show ev F G (.cmp .eq (.bin .mod (.var 2) (.var 1)) (.int 0)) (rho [I n,I p,I a,I c])=some (.bl (decide (((a%p:Nat):Int)=0))) by w_fin];rfl
  by_cases hz:a%p=0
  .have hq:0<a/p:=Kj (Hj h0 (Ff hz)) (by omega)
   obtain⟨w,hw⟩:=ih k (a/p) (c+1) n hq (kF hp ha) (by omega)
   refine⟨w,?_⟩
   rw[hz]at test
   rw[fT (e':=[I n,I p,I (a/p:Nat),I (c+1:Nat)]) test (by rw[aM (aI (z:=(a/p:Nat)) (by w_fin)),aM (qZ (x:=c) (z:=1) rfl bJ fB)];rfl),hw]
   simp only[Ds,ig (show a≠0 by omega),ip hz]
   have:c+1+Ds p k (a/p)=c+(Ds p k (a/p)+1):=by omega
   rw[this]
  .rw[def_ (by omega)]at test
   exact⟨I a,by rw[iY test];simp only[Ds,ig (show a≠0 by omega),ig hz,Fl]⟩
def iF:=nn2 (fun n p=>0<n∧n<16777216∧2≤p∧p<100) fun n p=>N (Ep p n)
theorem aFf:Computes F G 4 rN iF:=by
 refine pF (by decide) fun n p h=>⟨25,?_⟩
 unfold rN
 obtain⟨w,hw⟩:=aVw (F:=F) (G:=G) 25 p h.2.2.1 h.2.2.2 25 24 n 0 n h.1 h.2.1 (by omega)
 rw[aM (s':=[I n,I p,I n,none]) (aI (z:=n) (aV rfl)),aM (s':=[I n,I p,I n,I 0]) (aI (z:=0) bJ),aM (by rw[aBk];exact hw)]
 rw[Bw]
 exact aF (eB (aV rfl) rfl)
theorem aWm(f p:Nat)(hp:2≤p)(hp':p<100):∀(fuel k a c n:Nat),a<2^k→k<fuel→
  lE (fun e=>tst F G (.cmp .gt (.var 3) (.int 0)) (rho e)) (fun e=>run F G f (.cons (.aug 2 .add (.var 3)) (.cons (.set 3 false (.bin .fdiv (.var 3) (.var 1))) .nil)) e) fuel
   [I n,I p,I c,I a]=some (.nxt [I n,I p,I ((c+(a+Bi p k a):Nat):Int),I 0]):=by
 intro fuel
 induction fuel with
 |zero=>intro k a c n _ h;omega
 |succ fuel ih=>
  intro k a c n ha hk
  have e2:bop .fdiv (N a) (N p)=some (N (a/p)):=bT (by omega) (by omega)
  have test:tst F G (.cmp .gt (.var 3) (.int 0)) (rho [I n,I p,I c,I a])=some (decide ((0:Int)<a)):=by
   rw[pQ,show ev F G (.cmp .gt (.var 3) (.int 0)) (rho [I n,I p,I c,I a])=some (.bl (decide ((0:Int)<a))) by w_fin];rfl
  by_cases hz:a=0
  .subst hz
   have:Bi p k 0=0:=by cases k<;>simp[Bi]
   rw[iY (test.trans rfl),this];rfl
  .cases k with
   |zero=>simp at ha;omega
   |succ k=>
   rw[det (by omega)]at test
   rw[fT (e':=[I n,I p,I (c+a:Nat),I (a/p:Nat)]) test (by rw[aM (qZ (x:=c) (z:=a) rfl (aV rfl) fB),aM (aI (z:=(a/p:Nat)) (by w_fin))];rfl),ih k (a/p) (c+a) n (kF hp ha) (by omega)]
   simp only[Bi,ig hz]
   rw[Gk]
def aY:=nn2 (fun n p=>n<16777216∧2≤p∧p<100) fun n p=>N (Ah p n)
theorem pM:Computes F G 4 gF aY:=by
 refine pF (by decide) fun n p h=>⟨25,?_⟩
 unfold gF
 have e2:bop .fdiv (N n) (N p)=some (N (n/p)):=bT (by omega) (by omega)
 have hw:=aWm (F:=F) (G:=G) 25 p h.2.1 h.2.2 25 23 (n/p) 0 n (kF h.2.1 h.1) (by omega)
 rw[aM (s':=[I n,I p,I 0,none]) (aI (z:=0) bJ),aM (s':=[I n,I p,I 0,I (n/p:Nat)]) (aI (z:=(n/p:Nat)) (by w_fin)),aM (by rw[aBk];exact hw)]
 have e3:0+(n/p+Bi p 23 (n/p))=Ah p n:=by
  have e4:Ah p n=if n=0 then 0 else n/p+Bi p 23 (n/p):=rfl
  rw[e4,Bw]
  split
  .rename_i h0;subst h0;simp[Bi]
  .rfl
 rw[e3]
 exact aF (eB (aV rfl) rfl)
theorem aWv(f n:Nat):∀(j i:Nat)(v:Slot),i+j<4000→∃w,
  lN (.one 2) (fun e=>run F G f (.cons (.set 1 false (.bin .mul (.var 1) (.var 2))) .nil) e) ((Ab j).map fun t=>N (i+1+t)) [I n,I (By i:Nat),v]=some (.nxt [I n,I (By (i+j):Nat),w]):=by
 intro j
 induction j with
 |zero=>intro i v _;exact⟨v,rfl⟩
 |succ j ih=>
  intro i v h
  rw[Av,Ai,Aj]
  have e2:(fun t=>N (i+1+t))∘G3=fun t=>N (i+1+1+t):=by
   funext t;simp only[E6];congr 1;omega
  rw[e2]
  have e3:bop .mul (N (By i)) (N (i+1))=some (N (By (i+1))):=by
   rw[dO (.inr (by omega)),Ek];rfl
  obtain⟨w,hw⟩:=ih (i+1) (I (i+1:Nat)) (by omega)
  refine⟨w,?_⟩
  rw[bH (e1:=[I n,I (By i:Nat),I ((i+1:Nat):Int)]) (e':=[I n,I (By (i+1):Nat),I ((i+1:Nat):Int)]) rfl (aM (aI (z:=(By (i+1):Nat)) (by w_fin))),hw,show i+1+j=i+(j+1) by omega]
def gB:=nn1 (fun n=>n<1000) fun n=>N (By n)
theorem aBg:Computes F G 3 mY gB:=by
 refine aCc (by decide) fun n h=>⟨0,?_⟩
 unfold mY
 have e4:Pl.range [Dat.int 2,Dat.int ((n:Int)+1)]=some ((Ab (n+1-2)).map fun t=>N (2+t)):=oQ (i:=2) (j:=n+1) (by omega) (by omega)
 have e5:evs F G (.cons (.int 2) (.cons (.bin .add (.var 0) (.int 1)) .nil)) (rho [I n,I 1,none])=some [Dat.int 2,Dat.int ((n:Int)+1)]:=by w_fin
 obtain⟨w,hw⟩:=aWv (F:=F) (G:=G) 0 n (n-1) 1 none (by omega)
 rw[aM (s':=[I n,I 1,none]) (aI (z:=1) bJ),aM (by rw[aRx (cE e5 e4) rfl];exact hw)]
 have:By (1+(n-1))=By n:=by
  rcases n with _|n
  .rfl
  .rw[show 1+(n+1-1)=n+1 by omega]
 rw[this]
 exact aF (eB (aV rfl) rfl)
theorem fD{a b:Tm}{r:Rho}{x y:Bool}(ha:ev F G a r=some (.bl x))(hb:ev F G b r=some (.bl y)):ev F G (.or_ a b) r=some (.bl (x||y)):=bFo ha fun _=>hb
def iB:=nn1 (fun n=>n<4294967296) fun n=>.bl (Ba n)
theorem aOl{n:Nat}(h:2≤n)(f:Nat→Bool):(Ab n).all (fun d=>decide (d<2)||f d)=((Ab (n-2)).map fun k=>f (2+k)).all id:=by
 obtain⟨m,rfl⟩:∃m,n=2+m:=⟨n-2,by omega⟩
 rw[D9,Fo,C4]
 have:(Ab 2).all (fun d=>decide (d<2)||f d)=true:=by simp[B5]
 rw[this,Fw,Jp,Jp]
 congr 1
 funext k
 simp only[E6,id]
 rw[def_ (by omega),Bool.false_or]
theorem aFd(hG:G mF=some (.int 100)):Computes F G 2 rL iB:=by
 refine aCc (by decide) fun n h=>⟨0,?_⟩
 unfold rL
 have t0:ev F G (.or_ (.cmp .lt (.var 0) (.int 2)) (.cmp .ge (.var 0) (.glo mF))) (rho [I n,none])=some (.bl (decide ((n:Int)<2)||decide ((100:Int)≤n))):=fD (by w_fin) (by w_fin)
 by_cases hn:n<2∨100≤n
 .have:Ba n=false:=by
   unfold Ba Bh
   rcases hn with h|h
   .rw[def_ (show ¬2≤n by omega)];simp
   .rw[def_ (show ¬n<100 by omega)];simp
  have e:(decide ((n:Int)<2)||decide ((100:Int)≤n))=true:=by
   simp;omega
  rw[e]at t0
  rw[this]
  exact aF (eQ t0 (aF (eB aU6 rfl)))
 .have e:(decide ((n:Int)<2)||decide ((100:Int)≤n))=false:=by
   simp;omega
  rw[e]at t0
  refine aD (s':=[I n,none]) (eF t0 aR) ?_
  have e4:Pl.range [Dat.int 2,N n]=some ((Ab (n-2)).map fun t=>N (2+t)):=oQ (i:=2) (j:=n) (by omega) (by omega)
  have e5:evs F G (.cons (.int 2) (.cons (.var 0) .nil)) (rho [I n,none])=some [Dat.int 2,N n]:=by w_fin
  have e6:ev F G (.lc (.cmp .gt (.bin .mod (.var 0) (.var 1)) (.int 0)) (.one 1) (.range (.cons (.int 2) (.cons (.var 0) .nil))) .nil) (rho [I n,none])=some (.lst ((Ab (n-2)).map fun t=>Dat.bl (n%(2+t) != 0))):=by
   refine aCj (fun t=>N (2+t)) _ _ (cE e5 e4) (by simp[SZ];omega) fun t ht=>⟨[some (N n),some (N (2+t))],rfl,?_⟩
   have e7:bop .mod (N n) (N (2+t))=some (N (n%(2+t))):=cG (by omega)
   have e8:decide ((0:Int)<(n%(2+t):Nat))=(n%(2+t) != 0):=by
    by_cases hz:n%(2+t)=0
    .rw[hz];rfl
    .rw[det (by omega)];simp[hz]
   rw[←e8]
   w_fin
  have e9:blt .all [Dat.lst ((Ab (n-2)).map fun t=>Dat.bl (n%(2+t) != 0))]=some (.bl (Ba n)):=by
   have:((Ab (n-2)).map fun t=>Dat.bl (n%(2+t) != 0))=((Ab (n-2)).map fun t=>(n%(2+t) != 0)).map Dat.bl:=by rw[Aj];rfl
   rw[this,aKu,aEe,Bt]
   unfold Ba Bh
   rw[det (show n<100 by omega),det (show 2≤n by omega),Fw,Fw,aOl (by omega)]
  exact aF (eB (by w_fin) rfl)
def dJ:=nn1 (fun n=>n≤100) fun n=>.lst ((Bn n).map N)
theorem aNe{q:Nat}(h:q≤100):Ba q=Bh q:=by
 unfold Ba
 by_cases hq:q<100
 .rw[det hq,Fw]
 .have:q=100:=by omega
  subst this;decide
theorem aOd(n:Nat):Bn n=((Ab (n+1-2)).map (2+·)).filter Bh:=by
 unfold Bn
 match n with
 |0=>decide
 |n+1=>
  rw[show n+1+1=2+n by omega,D9,El,C4]
  have:(Ab 2).filter Bh=[]:=by decide
  rw[this,Cq]
theorem wV(h0:F cX=iB):Computes F G 2 lA dJ:=by
 refine aCc (by decide) fun n h=>⟨0,?_⟩
 unfold lA
 have e4:Pl.range [Dat.int 2,Dat.int ((n:Int)+1)]=some ((Ab (n+1-2)).map fun t=>N (2+t)):=oQ (i:=2) (j:=n+1) (by omega) (by omega)
 have e5:evs F G (.cons (.int 2) (.cons (.bin .add (.var 0) (.int 1)) .nil)) (rho [I n,none])=some [Dat.int 2,Dat.int ((n:Int)+1)]:=by w_fin
 have e6:ev F G (.lc (.var 1) (.one 1) (.range (.cons (.int 2) (.cons (.bin .add (.var 0) (.int 1)) .nil))) (.cons (.call cX (.cons (.var 1) .nil)) .nil)) (rho [I n,none])=some (.lst (((Ab (n+1-2)).filter fun t=>Bh (2+t)).map fun t=>N (2+t))):=by
  refine rT (fun t=>N (2+t)) (fun t=>Bh (2+t)) _ _ (cE e5 e4) (by simp[SZ];omega) fun t ht=>⟨[some (N n),some (N (2+t))],rfl,?_,fun _=>by w_fin⟩
  have ht':=Ak.mp ht
  have e:F cX [N (2+t)]=some (.bl (Bh (2+t))):=by rw[h0,←aNe (by omega)];exact gQ (show 2+t<4294967296 by omega)
  w_fin
 have e7:(((Ab (n+1-2)).filter fun t=>Bh (2+t)).map fun t=>N (2+t))=(Bn n).map N:=by
  rw[aOd,Gp,Aj];rfl
 rw[e7]at e6
 exact aF (fK e6 rfl mE)
def a6(r:Kp266.Ans):Dat:=ai r.num r.nums
def a7(r:Kp267.Ans):Dat:=ai r.num r.nums
def a8(r:Kp268.Ans):Dat:=ai r.num r.nums
theorem xE{f:Nat}{s:Env}(hG:G aH=some (.int (-22))):run F G f (.cons (.ret (.lst (.cons (.glo aH) .nil))) .nil) s=some (.ret (ai (-22) [])):=
 aF (aBq (ds:=[.int (-22)]) (by w_fin) (show 1≤16777216 by omega) rfl)
theorem oC{f:Nat}{s:Env}(hG:G aP=some (.int (-33))):run F G f (.cons (.ret (.lst (.cons (.glo aP) .nil))) .nil) s=some (.ret (ai (-33) [])):=
 aF (aBq (ds:=[.int (-33)]) (by w_fin) (show 1≤16777216 by omega) rfl)
theorem aS{f:Nat}{c:Tm}{r:Stms}{s:Env}{x:Dat}{P:Prop}[Decidable P](hG:G aH=some (.int (-22)))(t:ev F G c (rho s)=some (.bl (decide P)))(h1:P→x=ai (-22) [])(h2:¬P→run F G f r s=some (.ret x)):run F G f (.cons (.ite c (.cons (.ret (.lst (.cons (.glo aH) .nil))) .nil) .nil) r) s=some (.ret x):=by
 by_cases h:P
 .rw[det h]at t
  rw[h1 h]
  exact aF (eQ t (xE hG))
 .rw[def_ h]at t
  exact aD (eF t aR) (h2 h)
theorem pO{f:Nat}{a:Tm}{s:Env}{l:List Nat}(h1:F aN=bO)(h:ev F G a (rho s)=some (.lst (l.map N)))(hl:l.length<16777216):run F G f (.cons (.ret (.call aN (.cons a .nil))) .nil) s=some (.ret (ai (l.length:Int) (Kp266.ints l))):=by
 have e2:F aN [.lst (l.map N)]=some (ai (l.length:Int) (Kp266.ints l)):=by
  rw[h1]
  have e:ai (l.length:Int) (Kp266.ints l)=.lst (N (l.map N).length::l.map N):=by
   unfold ai Kp266.ints;rw[Ai,Aj,Ag];rfl
  rw[e]
  exact ip ⟨by simp,by rw[Ag];exact hl⟩
 refine aF (fK (cA (aG h aE) e2) rfl ?_)
 unfold ai;exact gH
def uB:=nd1 fun p n=>a6 (Ce (some p) (.digits n)).2
theorem aU2(p:Nat):∀f n,(A2 p f n).length≤f:=by
 intro f
 induction f with
 |zero=>intro n;simp[A2]
 |succ f ih=>intro n;unfold A2;split<;>simp;exact ih _
theorem aNj(hG:G aK=some (.int 1000000))(hW:G aH=some (.int (-22)))(h0:F dL=eJ)(h1:F aN=bO):Computes F G 2 zP uB:=by
 refine cd1 (by decide) fun p a hp hb ha=>⟨0,?_⟩
 unfold zP
 refine aS (P:=(1000000:Int)<a) hW (by w_fin) (fun h=>?_) fun h=>?_
 .exact congrArg a6 (ip (show B6<a from by unfold B6;omega))
 .have e1:F dL [N a,N p]=some (.lst ((D4 p a).map N)):=by rw[h0];exact uJ (by omega) hb
  rw[show(Ce (some p) (.digits a)).2=Ks (D4 p a)from ig (by unfold B6;omega)]
  exact pO (l:=D4 p a) h1 (by w_fin) (B9 (aU2 _ _ _) (by omega))
theorem jW{n p:Nat}(hn:n<16777216)(hp:2≤p∧p<100):cK [N n,N p]=some (N (Cr p n)):=by
 simp only[cK,B8];rw[ip (by omega)]
theorem fA{f:Nat}{a:Tm}{s:Env}{i:Int}(h:ev F G a (rho s)=some (.int i)):run F G f (.cons (.ret (.lst (.cons a .nil))) .nil) s=some (.ret (ai i [])):=
 aF (aBq (ds:=[.int i]) (aG h aE) (show 1≤16777216 by omega) rfl)
theorem mU{f:Nat}{a b:Tm}{s:Env}{i j:Int}(h:ev F G a (rho s)=some (.int i))(h2:ev F G b (rho s)=some (.int j)):run F G f (.cons (.ret (.lst (.cons a (.cons b .nil)))) .nil) s=some (.ret (ai i [j])):=
 aF (aBq (ds:=[.int i,.int j]) (aG h (aG h2 aE)) (show 2≤16777216 by omega) rfl)
theorem sQ{f:Nat}{a b c:Tm}{s:Env}{i j k:Int}(h:ev F G a (rho s)=some (.int i))(h2:ev F G b (rho s)=some (.int j))(h3:ev F G c (rho s)=some (.int k)):run F G f (.cons (.ret (.lst (.cons a (.cons b (.cons c .nil))))) .nil) s=some (.ret (ai i [j,k])):=
 aF (aBq (ds:=[.int i,.int j,.int k]) (aG h (aG h2 (aG h3 aE))) (show 3≤16777216 by omega) rfl)
def aAp:=nd1 fun p n=>a6 (Ce (some p) (.cross n)).2
theorem aR6(hG:G aK=some (.int 1000000))(hW:G aH=some (.int (-22)))(h0:F bF=cK):Computes F G 2 aDx aAp:=by
 refine cd1 (by decide) fun p a hp hb ha=>⟨0,?_⟩
 unfold aDx
 refine aS (P:=(1000000:Int)<a) hW (by w_fin) (fun h=>?_) fun h=>?_
 .exact congrArg a6 (ip (show B6<a from by unfold B6;omega))
 .have e1:F bF [N a,N p]=some (N (Cr p a)):=by rw[h0];exact jW (by omega) hb
  rw[show(Ce (some p) (.cross a)).2=Jy (Cr p a:Int)from ig (by unfold B6;omega)]
  exact fA (by w_fin)
theorem cmax(a b:Nat):max (a:Int) (b:Int)=((max a b:Nat):Int):=by omega
theorem aZb{a b:Nat}:blt .max [.lst [N a,N b]]=some (N (max a b)):=by
 have:intz [N a,N b]=some [(a:Int),(b:Int)]:=rfl
 rw[aA6,this,Af]
 simp only[aIf,Nj,Bt]
 congr 2;omega
theorem bGj{a b c:Nat}:blt .max [.lst [N a,N b,N c]]=some (N (max (max a b) c)):=by
 have:intz [N a,N b,N c]=some [(a:Int),(b:Int),(c:Int)]:=rfl
 rw[aA6,this,Af]
 simp only[aIf,Nj,Bt]
 congr 2;omega
theorem bGk{a b c d:Nat}:blt .max [.lst [N a,N b,N c,N d]]=some (N (max (max (max a b) c) d)):=by
 have:intz [N a,N b,N c,N d]=some [(a:Int),(b:Int),(c:Int),(d:Int)]:=rfl
 rw[aA6,this,Af]
 simp only[aIf,Nj,Bt,cmax]
noncomputable def qH:=nd2 fun p a b=>a6 (Ce (some p) (.carries a b)).2
theorem aIo(hG:G aK=some (.int 1000000))(hW:G aH=some (.int (-22)))(h0:F aL=bN):Computes F G 2 uL qH:=by
 refine cd2 (by decide) fun p a b hp hb ha hb'=>⟨0,?_⟩
 unfold uL
 have e0:=aZb (a:=a) (b:=b)
 refine aS (P:=(1000000:Int)<(max a b:Nat)) hW (by w_fin) (fun h=>?_) fun h=>?_
 .exact congrArg a6 (ip (show B6<a∨B6<b from by unfold B6;omega))
 .have e1:F aL [N a,N b,N p]=some (N (A9 p a b).length):=by rw[h0];exact dB (by omega) (by omega) hb
  rw[show(Ce (some p) (.carries a b)).2=Jy ((A9 p a b).length:Int)from ig (by unfold B6;omega)]
  exact fA (by w_fin)
theorem xP{a b p:Nat}(ha:a<16777216)(hb:b<16777216)(hp:2≤p∧p<100):bW [N a,N b,N p]=some (.lst ((A9 p a b).map N)):=by
 simp only[bW,B8];rw[ip (by omega)]
theorem aJc(p:Nat):∀f i c a b,(Dc p f i c a b).length≤f:=by
 intro f
 induction f with
 |zero=>intro i c a b;simp[Dc]
 |succ f ih=>
  intro i c a b
  unfold Dc
  split
  .simp
  .simp only[]
   split
   .simp only[Ar];exact Nat.succ_le_succ (ih _ _ _ _)
   .exact K4 (ih _ _ _ _)
def mH:=nd2 fun p a b=>a6 (Ce (some p) (.places a b)).2
theorem aCu(hG:G aK=some (.int 1000000))(hW:G aH=some (.int (-22)))(h0:F eR=bW)(h1:F aN=bO):Computes F G 2 oR mH:=by
 refine cd2 (by decide) fun p a b hp hb ha hb'=>⟨0,?_⟩
 unfold oR
 have e0:=aZb (a:=a) (b:=b)
 refine aS (P:=(1000000:Int)<(max a b:Nat)) hW (by w_fin) (fun h=>?_) fun h=>?_
 .exact congrArg a6 (ip (show B6<a∨B6<b from by unfold B6;omega))
 .have e1:F eR [N a,N b,N p]=some (.lst ((A9 p a b).map N)):=by rw[h0];exact xP (by omega) (by omega) hb
  rw[show(Ce (some p) (.places a b)).2=Ks (A9 p a b)from ig (by unfold B6;omega)]
  exact pO h1 (by w_fin) (B9 (aJc _ _ _ _ _ _) (by omega))
noncomputable def aB0:=nd3 fun p a b c=>a6 (Ce (some p) (.three a b c)).2
theorem aRf(hG:G aK=some (.int 1000000))(hW:G aH=some (.int (-22)))(h0:F aL=bN):Computes F G 6 aE6 aB0:=by
 refine cd3 (by decide) fun p a b c hp hb ha hb' hc=>⟨0,?_⟩
 unfold aE6
 have e0:=bGj (a:=a) (b:=b) (c:=c)
 refine aS (P:=(1000000:Int)<(max (max a b) c:Nat)) hW (by w_fin) (fun h=>?_) fun h=>?_
 .exact congrArg a6 (ip (show B6<a∨B6<b∨B6<c from by unfold B6;omega))
 .have e1:F aL [N a,N b,N p]=some (N (A9 p a b).length):=by rw[h0];exact dB (by omega) (by omega) hb
  have e2:F aL [.int ((a:Int)+b),N c,N p]=some (N (A9 p (a+b) c).length):=by rw[h0];exact dB (a:=a+b) (by omega) (by omega) hb
  have e3:F aL [N b,N c,N p]=some (N (A9 p b c).length):=by rw[h0];exact dB (by omega) (by omega) hb
  rw[show(Ce (some p) (.three a b c)).2=⟨((A9 p a b).length+(A9 p (a+b) c).length:Nat),Kp266.ints [(A9 p a b).length,(A9 p b c).length]⟩from ig (by unfold B6;omega)]
  refine aD (aI (z:=a) (by w_fin)) (aD (aI (z:=b) (by w_fin)) (aD (aI (z:=c) (by w_fin)) (aD (aI (z:=(A9 p a b).length) (by w_fin)) ?_)))
  exact sQ (by w_fin) (by w_fin) (by w_fin)
theorem rG{n p:Nat}(h0:0<n)(h:n<16777216)(hp:2≤p∧p<100):iF [N n,N p]=some (N (Ep p n)):=dN ⟨h0,h,hp⟩
def qI:=nd1 fun p n=>a6 (Ce (some p) (.times n)).2
theorem aIr(hG:G aK=some (.int 1000000))(hW:G aH=some (.int (-22)))(h0:F cH=iF):Computes F G 2 uO qI:=by
 refine cd1 (by decide) fun p a hp hb ha=>⟨0,?_⟩
 unfold uO
 refine aS (P:=(1000000:Int)<a∨(a:Int)=0) hW ?_ (fun h=>?_) fun h=>?_
 .rw[Bo];exact fD (by w_fin) (by w_fin)
 .exact congrArg a6 (ip (show a=0∨B6<a from by unfold B6;omega))
 .have e1:F cH [N a,N p]=some (N (Ep p a)):=by rw[h0];exact rG (by omega) (by omega) hb
  rw[show(Ce (some p) (.times a)).2=Jy (Ep p a:Int)from ig (by unfold B6;omega)]
  exact fA (by w_fin)
noncomputable def qM:=nd1 fun p n=>a6 (Ce (some p) (.next n)).2
theorem aIx(hG:G aK=some (.int 1000000))(hW:G aH=some (.int (-22)))(h0:F bF=cK)(h1:F aL=bN):Computes F G 2 uU qM:=by
 refine cd1 (by decide) fun p a hp hb ha=>⟨0,?_⟩
 unfold uU
 refine aS (P:=(1000000:Int)≤a) hW (by w_fin) (fun h=>?_) fun h=>?_
 .exact congrArg a6 (ip (show B6≤a from by unfold B6;omega))
 .have e1:F bF [.int ((a:Int)+1),N p]=some (N (Cr p (a+1))):=by rw[h0];exact jW (n:=a+1) (by omega) hb
  have e2:F aL [N a,.int 1,N p]=some (N (A9 p a 1).length):=by rw[h1];exact dB (b:=1) (by omega) (by omega) hb
  rw[show(Ce (some p) (.next a)).2=⟨(Cr p (a+1):Int),Kp266.ints [(A9 p a 1).length]⟩from ig (by unfold B6;omega)]
  exact mU (by w_fin) (by w_fin)
def qR:=nd2 fun p a b=>a6 (Ce (some p) (.without a b)).2
theorem aJ7(hG:G aK=some (.int 1000000))(hW:G aH=some (.int (-22)))(hN:G aP=some (.int (-33)))(h1:F aL=bN):Computes F G 4 vE qR:=by
 refine cd2 (by decide) fun p a b hp hb ha hb'=>⟨0,?_⟩
 unfold vE
 have e0:=aZb (a:=a) (b:=b)
 refine aS (P:=(1000000:Int)<(max a b:Nat)) hW (by w_fin) (fun h=>?_) fun h=>?_
 .exact congrArg a6 (ip (show B6<a∨B6<b from by unfold B6;omega))
 .refine aD (aI (z:=a) (by w_fin)) (aD (aI (z:=b) (by w_fin)) ?_)
  have t0:ev F G (.cmp .lt (.var 2) (.var 3)) (rho [I p,some (.lst [N a,N b],false),I a,I b])=some (.bl (decide ((a:Int)<b))):=by w_fin
  rw[show(Ce (some p) (.without a b)).2=if a<b then Jy (-33)else⟨((a-b:Nat):Int),Kp266.ints [(A9 p (a-b) b).length]⟩from ig (by unfold B6;omega)]
  by_cases hl:a<b
  .rw[det (by omega)]at t0
   rw[ip hl]
   exact aF (eQ t0 (oC hN))
  .rw[def_ (by omega)]at t0
   rw[ig hl]
   have e2:F aL [.int ((a:Int)-b),N b,N p]=some (N (A9 p (a-b) b).length):=by rw[h1,←D1 (by omega)];exact dB (by omega) (by omega) hb
   refine aD (eF t0 aR) ?_
   rw[D1 (show b≤a by omega)]
   exact mU (by w_fin) (by w_fin)
def iO:=nn2 (fun n p=>n≤60∧2≤p∧p<100) fun n p=>.lst (((Ab (n+1)).map fun a=>(A9 p a (n-a)).length).map N)
theorem wU(h0:F aL=bN):Computes F G 3 kZ iO:=by
 refine pF (by decide) fun n p h=>⟨0,?_⟩
 unfold kZ
 have e4:Pl.range [Dat.int ((n:Int)+1)]=some ((Ab (n+1)).map N):=jJ (j:=n+1) (by omega)
 have e5:evs F G (.cons (.bin .add (.var 0) (.int 1)) .nil) (rho [I n,I p,none])=some [Dat.int ((n:Int)+1)]:=by w_fin
 refine aF (fK (aCj N (fun a=>N (A9 p a (n-a)).length) (Ab (n+1)) (cE e5 e4) (by simp[SZ];omega) fun a ha=>⟨[some (N n),some (N p),some (N a)],rfl,?_⟩) rfl ?_ |>.trans (by rw[Aj];rfl))
 .have:=Ak.mp ha
  have e2:F aL [N a,.int ((n:Int)-a),N p]=some (N (A9 p a (n-a)).length):=by rw[h0,←D1 (by omega)];exact dB (by omega) (by omega) h.2
  w_fin
 .simp[flats]
theorem jV(f:Nat→Dat):∀(m k:Nat),eX k ((Ab m).map f)=(Ab m).map fun i=>.tup [N (k+i),f i]:=by
 intro m
 induction m generalizing f with
 |zero=>intro k;rfl
 |succ m ih=>
  intro k
  rw[Av,Ai,Ai,Aj,Aj,eX,ih]
  congr 1
  refine Ax fun i _=>?_
  simp only[E6]
  congr 3
  omega
theorem jF{a b:Nat}:decide ((a:Int)=(b:Int))=(a==b):=by
 by_cases h:a=b
 .subst h;simp
 .rw[def_ (by omega)];simp[h]
noncomputable def mM:=nd2 fun p n c=>a6 (Ce (some p) (.ways n c)).2
theorem aCz(hG:G jM=some (.int 60))(hW:G aH=some (.int (-22)))(h0:F dM=iO)(h1:F aN=bO):Computes F G 5 oX mM:=by
 refine cd2 (by decide) fun p n c hp hb hn hc=>⟨0,?_⟩
 unfold oX
 refine aD (s':=[I p,some (.lst [N n,N c],false),I n,none,none]) (aI (z:=n) (by w_fin)) ?_
 refine aS (P:=(60:Int)<n) hW (by w_fin) (fun h=>?_) fun h=>?_
 .exact congrArg a6 (ip (by omega))
 .have e1:F dM [N n,N p]=some (.lst (((Ab (n+1)).map fun a=>(A9 p a (n-a)).length).map N)):=by rw[h0];exact dN ⟨by omega,hb⟩
  rw[Aj]at e1
  rw[show(Ce (some p) (.ways n c)).2=Ks (Nk p n c)from ig (by omega)]
  have e2:ev F G (.call dM (.cons (.var 2) (.cons (.var 0) .nil))) (rho [I p,some (.lst [N n,N c],false),I n,none,none])=some (.lst ((Ab (n+1)).map (N∘fun a=>(A9 p a (n-a)).length))):=by w_fin
  have e3:=vU e2
  rw[jV]at e3
  refine pO (l:=Nk p n c) h1 ?_ ?_
  .refine rT _ (fun a=>(A9 p a (n-a)).length==c) N _ e3 (by simp[SZ];omega) fun a ha=>⟨[some (N p),some (.lst [N n,N c]),some (N n),some (N (0+a)),some (N (A9 p a (n-a)).length)],rfl,?_,fun _=>?_⟩
   .rw[←jF];w_fin
   .rw[Bw];w_fin
  .unfold Nk;exact B9 (Br _ _) (by rw[Bj];omega)
theorem pZ:∀(l:List Nat)(a:Nat),(l.map fun(x:Nat)=>(x:Int)).foldl max (a:Int)=((l.foldl (fun(m v:Nat)=>max m v) a:Nat):Int)
 |[],a=>rfl
 |x::l,a=>by
  rw[Ai,Cp,Cp,←pZ l]
  congr 1;omega
theorem aZc{l:List Nat}(h:l≠[]):blt .max [.lst (l.map N)]=some (N (l.foldl (fun(m v:Nat)=>max m v) 0)):=by
 cases l with
 |nil=>exact absurd rfl h
 |cons a l=>
  rw[aA6,vV,Af,Ai,aIf,Bt,pZ,Cp,Nat.zero_max]
def jQ:=nd1 fun p n=>a6 (Ce (some p) (.most n)).2
theorem yA(hG:G jM=some (.int 60))(hW:G aH=some (.int (-22)))(h0:F dM=iO):Computes F G 2 lX jQ:=by
 refine cd1 (by decide) fun p n hp hb hn=>⟨0,?_⟩
 unfold lX
 refine aS (P:=(60:Int)<n) hW (by w_fin) (fun h=>?_) fun h=>?_
 .exact congrArg a6 (ip (by omega))
 .have e1:F dM [N n,N p]=some (.lst (((Ab (n+1)).map fun a=>(A9 p a (n-a)).length).map N)):=by rw[h0];exact dN ⟨by omega,hb⟩
  rw[show(Ce (some p) (.most n)).2=Jy (Kp266.mostCarries p n:Int)from ig (by omega)]
  have e2:=aZc (l:=(Ab (n+1)).map fun a=>(A9 p a (n-a)).length) (by simp[B5])
  rw[Kg]at e2
  exact fA (by w_fin)
theorem aCn(f p n w:Nat)(g:Slot)(hb:2≤p∧p<100)(h0:F bF=cK):∀(l:List Nat)(v:Slot),(∀m∈l,m<16777216)→
  (match l.find? fun m=>Cr p m==w with
   |some m=>lN (.one 4) (fun e=>run F G f (.cons (.ite (.cmp .eq (.call bF (.cons (.var 4) (.cons (.var 0) .nil))) (.var 3)) (.cons (.ret (.lst (.cons (.var 4) .nil))) .nil) .nil) .nil) e) (l.map N) [I p,g,I n,I w,v]=some (.ret (ai m []))
   |none=>∃v',lN (.one 4) (fun e=>run F G f (.cons (.ite (.cmp .eq (.call bF (.cons (.var 4) (.cons (.var 0) .nil))) (.var 3)) (.cons (.ret (.lst (.cons (.var 4) .nil))) .nil) .nil) .nil) e) (l.map N) [I p,g,I n,I w,v]=some (.nxt [I p,g,I n,I w,v']))
 |[],v,_=>⟨v,rfl⟩
 |m::l,v,h=>by
  have hm:=h m (by simp)
  have e1:F bF [N m,N p]=some (N (Cr p m)):=by rw[h0];exact jW hm hb
  have t0:ev F G (.cmp .eq (.call bF (.cons (.var 4) (.cons (.var 0) .nil))) (.var 3)) (rho [I p,g,I n,I w,I m])=some (.bl (decide ((Cr p m:Int)=(w:Int)))):=by w_fin
  rw[jF]at t0
  rw[Fs]
  cases hc:(Cr p m==w)with
  |true=>
   rw[hc]at t0
   simp only[]
   rw[Ai]
   exact aAg rfl (aF (eQ t0 (fA (by w_fin))))
  |false=>
   rw[hc]at t0
   simp only[]
   have ih:=aCn f p n w g hb h0 l (I m) fun x hx=>h x (by simp[hx])
   rw[Ai,bH (e1:=[I p,g,I n,I w,I m]) (e':=[I p,g,I n,I w,I m]) rfl (aD (eF t0 aR) aR)]
   exact ih
noncomputable def aGx:=nd1 fun p n=>a6 (Ce (some p) (.like n)).2
theorem aW6(hG:G tD=some (.int 1000))(hG2:G nG=some (.int 2000))(hW:G aH=some (.int (-22)))(hN:G aP=some (.int (-33)))(h0:F bF=cK):Computes F G 5 aKh aGx:=by
 refine cd1 (by decide) fun p n hp hb hn=>⟨0,?_⟩
 unfold aKh
 refine aD (s':=[I p,some (.lst [N n],false),I n,none,none]) (aI (z:=n) (by w_fin)) ?_
 refine aS (P:=(1000:Int)<n) hW (by w_fin) (fun h=>?_) fun h=>?_
 .have hl:1000<n:=by omega
  simp only[Ce]
  rw[ip hl];rfl
 .have e1:F bF [N n,N p]=some (N (Cr p n)):=by rw[h0];exact jW (by omega) hb
  have hl:¬1000<n:=by omega
  simp only[Ce]
  rw[ig hl]
  refine aD (s':=[I p,some (.lst [N n],false),I n,I (Cr p n:Nat),none]) (aI (z:=(Cr p n:Nat)) (by w_fin)) ?_
  have e4:Pl.range [Dat.int ((n:Int)+1),Dat.int ((n:Int)+2000+1)]=some ((Ab (n+2000+1-(n+1))).map fun t=>N (n+1+t)):=oQ (i:=n+1) (j:=n+2000+1) (by omega) (by omega)
  rw[show n+2000+1-(n+1)=2000 by omega]at e4
  have e5:evs F G (.cons (.bin .add (.var 2) (.int 1)) (.cons (.bin .add (.bin .add (.var 2) (.glo nG)) (.int 1)) .nil)) (rho [I p,some (.lst [N n],false),I n,I (Cr p n:Nat),none])=some [Dat.int ((n:Int)+1),Dat.int ((n:Int)+2000+1)]:=by w_fin
  have hlen:∀i∈Ab 2000,i<2000:=fun i hi=>Ak.mp hi
  have e6:=cE e5 e4
  unfold Kp266.likeAfter
  generalize Ab 2000=R at hlen e6 ⊢
  have hl:=aCn (F:=F) (G:=G) 0 p n (Cr p n) (some (.lst [N n],false)) hb h0 (R.map fun i=>n+1+i) none (by
   intro m hm
   obtain⟨i,hi,rfl⟩:=Cd.mp hm
   have:=hlen i hi
   omega)
  rw[Aj]at hl
  cases hc:(R.map fun i=>n+1+i).find? fun m=>Cr p m==Cr p n with
  |some m=>
   rw[hc]at hl
   exact aF (jG e6 rfl hl)
  |none=>
   rw[hc]at hl
   obtain⟨v,hv⟩:=hl
   exact aD (jG e6 rfl hv) (oC hN)
noncomputable def kP:=nd4 fun p a b c d=>a6 (Ce (some p) (.from_ a b c d)).2
theorem aBe(hW:G aH=some (.int (-22))):Computes F G 4 mV kP:=by
 refine cd4 (by decide) fun p x y z w hp hb hx hy hz hw=>⟨0,?_⟩
 unfold mV
 have e0:=bGk (a:=x) (b:=y) (c:=z) (d:=w)
 refine aS (P:=(p:Int)≤(max (max (max x y) z) w:Nat)) hW (by w_fin) (fun h=>?_) fun h=>?_
 .exact congrArg a6 (ip (by omega))
 .rw[show(Ce (some p) (.from_ x y z w)).2=Jy ((x+p*(y+p*(z+p*w)):Nat):Int)from ig (by omega)]
  refine aD (s':=[I p,some (.lst [N x,N y,N z,N w],false),I 0,none]) (aI (z:=0) bJ) ?_
  have e2:ev F G (.var 1) (rho [I p,some (.lst [N x,N y,N z,N w],false),I 0,none])=some (.lst [N x,N y,N z,N w]):=by w_fin
  have st:∀(a d:Nat)(v:Slot)(g:Slot)(l:List Dat),lN (.one 3) (fun e=>run F G 0 (.cons (.set 2 false (.bin .add (.bin .mul (.var 2) (.var 0)) (.var 3))) .nil) e) (N d::l) [I p,g,I a,v]=lN (.one 3) (fun e=>run F G 0 (.cons (.set 2 false (.bin .add (.bin .mul (.var 2) (.var 0)) (.var 3))) .nil) e) l [I p,g,I (a*p+d:Nat),I d]:=by
   intro a d v g l
   have e3:bop .mul (N a) (N p)=some (N (a*p)):=dO (.inr (by omega))
   exact bH (e1:=[I p,g,I a,I d]) rfl (aM (aI (z:=(a*p+d:Nat)) (by w_fin)))
  have e6:=aYv e2
  refine aD (s':=[I p,some (.lst [N x,N y,N z,N w],false),I ((((0*p+w)*p+z)*p+y)*p+x:Nat),I x]) (jG e6 rfl ?_) ?_
  .simp only[Et,List.reverse_nil,Cq,Jd]
   exact(st 0 w _ _ _).trans (by rw[st,st,st];rfl)
  .have:(((0*p+w)*p+z)*p+y)*p+x=x+p*(y+p*(z+p*w)):=by
    rw[Jt,Bw,Ek w p,Fq (p*w) z,Ek _ p,Fq _ y,Ek _ p,Fq _ x]
   rw[this]
   exact fA (by w_fin)
theorem aT{n k:Nat}(hn:n<1000000):aO [N n,N k]=some (N (C n k)):=by
 simp only[aO,B8];rw[ip (by omega)]
def jP:=nn1 (fun _=>True) fun n=>.lst [N (n/1000000000),N (n%1000000000)]
theorem aNm(hG:G bR=some (.int 1000000000)):Computes F G 1 zS jP:=by
 refine aCc (by decide) fun n _=>⟨0,?_⟩
 unfold zS
 have e2:bop .fdiv (N n) (.int 1000000000)=some (N (n/1000000000)):=bT (n:=1000000000) (by omega) (by omega)
 have e3:bop .mod (N n) (.int 1000000000)=some (N (n%1000000000)):=cG (n:=1000000000) (by omega)
 exact aF (aBq (ds:=[N (n/1000000000),N (n%1000000000)]) (by w_fin) (show 2≤16777216 by omega) rfl)
def iA:=nn1 (fun _=>True) fun n=>.lst [N (n/1000000000/1000000000),N (n/1000000000%1000000000),N (n%1000000000)]
theorem aFc(hG:G bR=some (.int 1000000000))(h0:F dG=jP):Computes F G 1 rK iA:=by
 refine aCc (by decide) fun n _=>⟨0,?_⟩
 unfold rK
 have e2:bop .fdiv (N n) (.int 1000000000)=some (N (n/1000000000)):=bT (n:=1000000000) (by omega) (by omega)
 have e3:bop .mod (N n) (.int 1000000000)=some (N (n%1000000000)):=cG (n:=1000000000) (by omega)
 have e4:F dG [N (n/1000000000)]=some (.lst [N (n/1000000000/1000000000),N (n/1000000000%1000000000)]):=by rw[h0];exact gQ trivial
 have e5:bop .add (.lst [N (n/1000000000/1000000000),N (n/1000000000%1000000000)]) (.lst [N (n%1000000000)])=some (.lst [N (n/1000000000/1000000000),N (n/1000000000%1000000000),N (n%1000000000)]):=by
  rw[nB];exact ip (show 3≤16777216 by omega)
 have e6:ev F G (.lst (.cons (.bin .mod (.var 0) (.glo bR)) .nil)) (rho [I n])=some (.lst [N (n%1000000000)]):=kG (by w_fin) (show 1≤16777216 by omega)
 exact aF (fK (jL (cA (by w_fin) e4) e6 e5) rfl rfl)
theorem aS1{f:Nat}{a:Tm}{s:Env}{v:Nat}(h1:F dG=jP)(h:ev F G a (rho s)=some (N v)):run F G f (.cons (.ret (.call dG (.cons a .nil))) .nil) s=some (.ret (ai ((v/1000000000:Nat):Int) (Kp266.ints [v%1000000000]))):=by
 have e4:F dG [N v]=some (.lst [N (v/1000000000),N (v%1000000000)]):=by rw[h1];exact gQ trivial
 exact aF (fK (cA (aG h aE) e4) rfl rfl)
theorem aS2{f:Nat}{a:Tm}{s:Env}{v:Nat}(h1:F dY=iA)(h:ev F G a (rho s)=some (N v)):run F G f (.cons (.ret (.call dY (.cons a .nil))) .nil) s=some (.ret (ai ((v/1000000000000000000:Nat):Int) (Kp266.ints [v/1000000000%1000000000,v%1000000000]))):=by
 have e4:F dY [N v]=some (.lst [N (v/1000000000/1000000000),N (v/1000000000%1000000000),N (v%1000000000)]):=by rw[h1];exact gQ trivial
 rw[C0]at e4
 exact aF (fK (cA (aG h aE) e4) rfl rfl)
noncomputable def tZ:=nd2 fun p n k=>a8 (Cf (some p) (.choose n k)).2
theorem aNh(hG:G dP=some (.int 60))(hW:G aH=some (.int (-22)))(h0:F aB=aO)(h1:F dG=jP):Computes F G 4 zN tZ:=by
 refine cd2 (by decide) fun p n k hp hb hn hk=>⟨0,?_⟩
 unfold zN
 refine aD (s':=[I p,some (.lst [N n,N k],false),I n,none]) (aI (z:=n) (by w_fin)) (aD (s':=[I p,some (.lst [N n,N k],false),I n,I k]) (aI (z:=k) (by w_fin)) ?_)
 refine aS (P:=(60:Int)<n∨(n:Int)<k) hW ?_ (fun h=>?_) fun h=>?_
 .rw[Bo];exact fD (by w_fin) (by w_fin)
 .exact congrArg a8 (ip (show 60<n∨n<k from by omega))
 .rw[show(Cf (some p) (.choose n k)).2=Kp268.tellBig (Di n k)from ig (show ¬(60<n∨n<k)from by omega),bB]
  have e1:F aB [N n,N k]=some (N (C n k)):=by rw[h0];exact aT (by omega)
  exact aS1 h1 (by w_fin)
theorem fZ{n k p:Nat}(hk:k≤n)(hn:n<16777216)(hp:2≤p∧p<100):dU [N n,N k,N p]=some (N (Ao p n k)):=sF ⟨hk,hn,hp⟩
def aB1:=nd2 fun p n k=>a8 (Cf (some p) (.times n k)).2
theorem aRg(hG:G aK=some (.int 1000000))(hW:G aH=some (.int (-22)))(h0:F bA=dU):Computes F G 4 aE7 aB1:=by
 refine cd2 (by decide) fun p n k hp hb hn hk=>⟨0,?_⟩
 unfold aE7
 refine aD (s':=[I p,some (.lst [N n,N k],false),I n,none]) (aI (z:=n) (by w_fin)) (aD (s':=[I p,some (.lst [N n,N k],false),I n,I k]) (aI (z:=k) (by w_fin)) ?_)
 refine aS (P:=(1000000:Int)<n∨(n:Int)<k) hW ?_ (fun h=>?_) fun h=>?_
 .rw[Bo];exact fD (by w_fin) (by w_fin)
 .exact congrArg a8 (ip (show Ey<n∨n<k from by unfold Ey;omega))
 .rw[show(Cf (some p) (.times n k)).2=Hw (Ao p n k:Int)from ig (show ¬(Ey<n∨n<k)from by unfold Ey;omega)]
  have e1:F bA [N n,N k,N p]=some (N (Ao p n k)):=by rw[h0];exact fZ (by omega) (by omega) hb
  exact fA (by w_fin)
def dI:=nn2 (fun n p=>n≤1000∧2≤p∧p<100) fun n p=>.lst (((Ab (n+1)).map (Ao p n)).map N)
theorem wT(h0:F bA=dU):Computes F G 3 kY dI:=by
 refine pF (by decide) fun n p h=>⟨0,?_⟩
 unfold kY
 have e4:Pl.range [Dat.int ((n:Int)+1)]=some ((Ab (n+1)).map N):=jJ (j:=n+1) (by omega)
 have e5:evs F G (.cons (.bin .add (.var 0) (.int 1)) .nil) (rho [I n,I p,none])=some [Dat.int ((n:Int)+1)]:=by w_fin
 refine aF (fK ?_ rfl mE)
 rw[Aj]
 refine aCj N _ (Ab (n+1)) (cE e5 e4) (by simp[SZ];omega) fun a ha=>⟨[some (N n),some (N p),some (N a)],rfl,?_⟩
 have:=Ak.mp ha
 have e1:F bA [N n,N a,N p]=some (N (Ao p n a)):=by rw[h0];exact fZ (by omega) (by omega) h.2
 exact cA (by w_fin) e1
theorem aPn{n p:Nat}(hn:n≤1000)(hp:2≤p∧p<100):dI [N n,N p]=some (.lst (((Ab (n+1)).map (Ao p n)).map N)):=dN ⟨hn,hp⟩
def nZ:=nd1 fun p n=>a8 (Cf (some p) (.row n)).2
theorem aFg(hG:G dP=some (.int 60))(hW:G aH=some (.int (-22)))(h0:F cC=dI)(h1:F aN=bO):Computes F G 2 rO nZ:=by
 refine cd1 (by decide) fun p n hp hb hn=>⟨0,?_⟩
 unfold rO
 refine aS (P:=(60:Int)<n) hW (by w_fin) (fun h=>?_) fun h=>?_
 .exact congrArg a8 (ip (show 60<n from by omega))
 .rw[show(Cf (some p) (.row n)).2=Kt ((Ab (n+1)).map (Ao p n))from ig (show ¬60<n from by omega)]
  have e1:=ap h0 (aPn (n:=n) (p:=p) (by omega) hb)
  exact pO (l:=(Ab (n+1)).map (Ao p n)) h1 (by w_fin) (by rw[Ag,Bj];omega)
theorem gY{n p:Nat}(hn:n<16777216)(hp:2≤p∧p<100):eL [N n,N p]=some (N (Bv p n)):=dN ⟨hn,hp⟩
theorem aAf:∀(l:List Nat)(a:Nat),l.foldl (fun(a d:Nat)=>a*(d+1)) a=a*l.foldl (fun(a d:Nat)=>a*(d+1)) 1
 |[],a=>by simp
 |d::l,a=>by
  rw[Cp,Cp,aAf l,aAf l (1*(d+1)),Fk,Iy]
theorem aOv(p:Nat)(hp:2≤p):∀(f n:Nat),(A2 p f n).foldl (fun(a d:Nat)=>a*(d+1)) 1≤n+1:=by
 intro f
 induction f with
 |zero=>intro n;simp[A2]
 |succ f ih=>
  intro n
  unfold A2
  split
  .simp
  .rw[Cp,aAf,Fk]
   have h1:=ih (n/p)
   have h2:=Ee n p
   have h3:=Bx n (show 0<p by omega)
   calc (n%p+1)*_≤(n%p+1)*(n/p+1):=Hq _ h1
    _=(n%p+1)*(n/p)+(n%p+1):=by rw[Fj,Gy]
    _≤p*(n/p)+(n%p+1):=Nat.add_le_add_right (D7 _ (by omega)) _
    _=n+1:=by omega
def uE:=nd1 fun p n=>a8 (Cf (some p) (.spared n)).2
theorem aNw(hG:G aK=some (.int 1000000))(hW:G aH=some (.int (-22)))(h0:F bS=eL):Computes F G 4 aA2 uE:=by
 refine cd1 (by decide) fun p n hp hb hn=>⟨0,?_⟩
 unfold aA2
 refine aD (s':=[I p,some (.lst [N n],false),I n,none]) (aI (z:=n) (by w_fin)) ?_
 refine aS (P:=(1000000:Int)<n) hW (by w_fin) (fun h=>?_) fun h=>?_
 .exact congrArg a8 (ip (show Ey<n from by unfold Ey;omega))
 .rw[show(Cf (some p) (.spared n)).2=⟨(Bv p n:Int),Kp268.ints [n+1-Bv p n]⟩from ig (show ¬Ey<n from by unfold Ey;omega)]
  have e1:F bS [N n,N p]=some (N (Bv p n)):=by rw[h0];exact gY (by omega) hb
  refine aD (s':=[I p,some (.lst [N n],false),I n,I (Bv p n:Nat)]) (aI (z:=(Bv p n:Nat)) (by w_fin)) ?_
  have hle:Bv p n≤n+1:=aOv p hb.1 24 n
  have e2:((n+1-Bv p n:Nat):Int)=(n:Int)+1-(Bv p n:Nat):=D1 hle
  unfold Kp268.ints
  rw[Ai,G4,e2]
  exact mU (by w_fin) (by w_fin)
noncomputable def qN:=nd1 fun p n=>a7 (Ci (some p) (.prod n)).2
theorem aIy(hG:G nH=some (.int 20))(hW:G aH=some (.int (-22)))(h0:F eE=gB):Computes F G 2 uV qN:=by
 refine cd1 (by decide) fun p n hp hb hn=>⟨0,?_⟩
 unfold uV
 refine aS (P:=(20:Int)<n) hW (by w_fin) (fun h=>?_) fun h=>?_
 .exact congrArg a7 (ip (show 20<n from by omega))
 .rw[show(Ci (some p) (.prod n)).2=Jz (By n:Int)from ig (show ¬20<n from by omega)]
  have e1:F eE [N n]=some (N (By n)):=by rw[h0];exact gQ (show n<1000 by omega)
  exact fA (by w_fin)
theorem xQ{n p:Nat}(hn:n<16777216)(hp:2≤p∧p<100):aY [N n,N p]=some (N (Ah p n)):=dN ⟨hn,hp⟩
def iP:=nd1 fun p n=>a7 (Ci (some p) (.times n)).2
theorem wW(hG:G aK=some (.int 1000000))(hW:G aH=some (.int (-22)))(h0:F aC=aY):Computes F G 2 lB iP:=by
 refine cd1 (by decide) fun p n hp hb hn=>⟨0,?_⟩
 unfold lB
 refine aS (P:=(1000000:Int)<n) hW (by w_fin) (fun h=>?_) fun h=>?_
 .exact congrArg a7 (ip (show Cs<n from by unfold Cs;omega))
 .rw[show(Ci (some p) (.times n)).2=Jz (Ah p n:Int)from ig (show ¬Cs<n from by unfold Cs;omega)]
  have e1:F aC [N n,N p]=some (N (Ah p n)):=by rw[h0];exact xQ (by omega) hb
  exact fA (by w_fin)
theorem zC(p:Nat):∀(f:Nat){n m:Nat},n≤m→Bi p f n≤Bi p f m:=by
 intro f
 induction f with
 |zero=>intro n m _;simp[Bi]
 |succ f ih=>
  intro n m h
  unfold Bi
  by_cases h0:n=0
  .rw[ip h0];omega
  .rw[ig h0,ig (by omega)]
   exact Nat.add_le_add (Hf h) (ih (Hf h))
def aH3:=nd2 fun p a b=>a7 (Ci (some p) (.span a b)).2
theorem aWd(hG:G aK=some (.int 1000000))(hW:G aH=some (.int (-22)))(h0:F aC=aY):Computes F G 4 aKo aH3:=by
 refine cd2 (by decide) fun p a b hp hb ha hb'=>⟨0,?_⟩
 unfold aKo
 refine aD (s':=[I p,some (.lst [N a,N b],false),I a,none]) (aI (z:=a) (by w_fin)) (aD (s':=[I p,some (.lst [N a,N b],false),I a,I b]) (aI (z:=b) (by w_fin)) ?_)
 refine aS (P:=(1000000:Int)<b∨(a:Int)=0∨(b:Int)<a) hW ?_ (fun h=>?_) fun h=>?_
 .rw[Bo,Bo];exact fD (by w_fin) (fD (by w_fin) (by w_fin))
 .exact congrArg a7 (ip (show a=0∨Cs<b∨b<a from by unfold Cs;omega))
 .rw[show(Ci (some p) (.span a b)).2=Jz (Kp267.span p a b:Int)from ig (show ¬(a=0∨Cs<b∨b<a)from by unfold Cs;omega)]
  have e1:F aC [N b,N p]=some (N (Ah p b)):=by rw[h0];exact xQ (by omega) hb
  have e2:F aC [.int ((a:Int)-1),N p]=some (N (Ah p (a-1))):=by
   rw[h0,show(a:Int)-1=((a-1:Nat):Int) by omega];exact xQ (by omega) hb
  unfold Kp267.span
  rw[D1 (show Ah p (a-1)≤Ah p b from zC p 24 (by omega))]
  exact fA (by w_fin)
def aAt:=nd1 fun p n=>a7 (Ci (some p) (.jumps n)).2
theorem aRa(hG:G aK=some (.int 1000000))(hW:G aH=some (.int (-22)))(h0:F aC=aY):Computes F G 5 aE1 aAt:=by
 refine cd1 (by decide) fun p n hp hb hn=>⟨0,?_⟩
 unfold aE1
 refine aD (s':=[I p,some (.lst [N n],false),I n,none,none]) (aI (z:=n) (by w_fin)) ?_
 refine aS (P:=(1000000:Int)<n∨(n:Int)=0) hW ?_ (fun h=>?_) fun h=>?_
 .rw[Bo];exact fD (by w_fin) (by w_fin)
 .exact congrArg a7 (ip (show n=0∨Cs<n from by unfold Cs;omega))
 .rw[show(Ci (some p) (.jumps n)).2=⟨((Ah p n-Ah p (n-1):Nat):Int),Kp267.ints [Ah p (n-1),Ah p n]⟩from ig (show ¬(n=0∨Cs<n)from by unfold Cs;omega)]
  have e1:F aC [N n,N p]=some (N (Ah p n)):=by rw[h0];exact xQ (by omega) hb
  have e2:F aC [.int ((n:Int)-1),N p]=some (N (Ah p (n-1))):=by
   rw[h0,show(n:Int)-1=((n-1:Nat):Int) by omega];exact xQ (by omega) hb
  refine aD (s':=[I p,some (.lst [N n],false),I n,I (Ah p (n-1):Nat),none]) (aI (z:=(Ah p (n-1):Nat)) (by w_fin)) (aD (s':=[I p,some (.lst [N n],false),I n,I (Ah p (n-1):Nat),I (Ah p n:Nat)]) (aI (z:=(Ah p n:Nat)) (by w_fin)) ?_)
  rw[D1 (show Ah p (n-1)≤Ah p n from zC p 24 (by omega))]
  exact sQ (by w_fin) (by w_fin) (by w_fin)
theorem aQ4{l:Tms}{r:Rho}{ds:List Dat}(h:evs F G l r=some ds)(hl:ds.length≤SZ):ev F G (.tup l) r=some (.tup ds):=by rw[aYs,h];simp only[Af,ip hl]
noncomputable abbrev P2 (z:Nat×Nat):Dat:=.tup [N z.1,N z.2]
def jR:=nn1 (fun n=>0<n∧n≤100) fun n=>.lst ((Bk n).map P2)
theorem tV{n:Nat}(h:n≤100):dJ [N n]=some (.lst ((Bn n).map N)):=gQ h
theorem aIg{n q:Nat}(h:q∈Bn n):q≤n∧Bh q=true:=by
 unfold Bn at h
 obtain⟨h1,h2⟩:=Es.mp h
 have:=Ak.mp h1
 exact⟨by omega,h2⟩
theorem qX{n q:Nat}(hn:n≤100)(h:q∈Bn n):2≤q∧q<100:=by
 obtain⟨h1,h2⟩:=aIg h
 exact nQ ((aNe (by omega)).trans h2)
theorem lM(n:Nat):(Bn n).length≤n+1:=by
 unfold Bn;exact B7 (Br _ _) (by rw[Bj];exact An _)
theorem yB(h0:F aZ=dJ)(h1:F cH=iF):Computes F G 2 lY jR:=by
 refine aCc (by decide) fun n h=>⟨0,?_⟩
 unfold lY
 have e1:F aZ [N n]=some (.lst ((Bn n).map N)):=by rw[h0];exact tV h.2
 have e2:ev F G (.call aZ (.cons (.var 0) .nil)) (rho [I n,none])=some (.lst ((Bn n).map N)):=by w_fin
 have e3:ev F G (.lc (.tup (.cons (.var 1) (.cons (.call cH (.cons (.var 0) (.cons (.var 1) .nil))) .nil))) (.one 1) (.of (.call aZ (.cons (.var 0) .nil))) (.cons (.cmp .eq (.bin .mod (.var 0) (.var 1)) (.int 0)) .nil)) (rho [I n,none])=some (.lst (((Bn n).filter fun q=>n%q==0).map fun q=>P2 (q,Ep q n))):=by
  refine rT N (fun q=>n%q==0) _ (Bn n) (aGp e2) (by have:=lM n;simp only[SZ];omega) fun q hq=>⟨[some (N n),some (N q)],rfl,?_,fun _=>?_⟩
  .have:=qX h.2 hq
   have e4:bop .mod (N n) (N q)=some (N (n%q)):=cG (by omega)
   rw[←jF];w_fin
  .have hq':=qX h.2 hq
   have e4:F cH [N n,N q]=some (N (Ep q n)):=by rw[h1];exact rG h.1 (by omega) hq'
   exact aQ4 (by w_fin) (show 2≤16777216 by omega)
 have e5:(((Bn n).filter fun q=>n%q==0).map fun q=>P2 (q,Ep q n))=(Bk n).map P2:=by
  unfold Bk Bn
  rw[List.filter_filter,Aj]
  congr 1
  refine Eb fun q _=>?_
  rw[Bool.and_comm]
 rw[e5]at e3
 exact aF (xC e3 rfl)
theorem aD8(n:Nat):(Bk n).length≤n+1:=by
 unfold Bk;rw[Ag];exact B7 (Br _ _) (by rw[Bj];exact An _)
theorem yY(f:Nat)(a b c d:Slot):∀(l:List (Nat×Nat))(acc:List Dat)(v w:Slot),acc.length+2*l.length≤SZ→∃v' w',
  lN (.two 5 6) (fun e=>run F G f (.cons (.ext 4 (.lst (.cons (.var 5) (.cons (.var 6) .nil)))) .nil) e) (l.map P2) [a,b,c,d,some (.lst acc,true),v,w]=some (.nxt [a,b,c,d,some (.lst (acc++(l.flatMap fun z=>[z.1,z.2]).map N),true),v',w'])
 |[],acc,v,w,_=>⟨v,w,by simp[pH]⟩
 |z::l,acc,v,w,h=>by
  simp only[Ar]at h
  obtain⟨v',w',hh⟩:=yY f a b c d l (acc++[N z.1,N z.2]) (I z.1) (I z.2) (by simp only[A6,Ar,Gj];omega)
  refine⟨v',w',?_⟩
  rw[Ai,bH (e1:=[a,b,c,d,some (.lst acc,true),I z.1,I z.2]) (e':=[a,b,c,d,some (.lst (acc++[N z.1,N z.2]),true),I z.1,I z.2]) rfl
   (aD (bBf (l:=acc) (m:=[N z.1,N z.2]) rfl (kG (by w_fin) (show 2≤16777216 by omega)) rfl (by simp only[Ar,Gj];omega)) aR),hh]
  simp
noncomputable def aAv:=nd1 fun p n=>a7 (Ci (some p) (.parts n)).2
theorem aRd(hG:G kL=some (.int 2))(hG2:G kK=some (.int 100))(hW:G aH=some (.int (-22)))(h0:F eM=jR):Computes F G 7 aE4 aAv:=by
 refine cd1 (by decide) fun p n hp hb hn=>⟨0,?_⟩
 unfold aE4
 refine aD (s':=[I p,some (.lst [N n],false),I n,none,none,none,none]) (aI (z:=n) (by w_fin)) ?_
 refine aS (P:=(n:Int)<2∨(100:Int)<n) hW ?_ (fun h=>?_) fun h=>?_
 .rw[Bo];exact fD (by w_fin) (by w_fin)
 .exact congrArg a7 (ip (show n<2∨100<n from by omega))
 .rw[show(Ci (some p) (.parts n)).2=⟨((Bk n).length:Int),Kp267.ints ((Bk n).flatMap fun z=>[z.1,z.2])⟩from ig (show ¬(n<2∨100<n)from by omega)]
  have e1:F eM [N n]=some (.lst ((Bk n).map P2)):=by rw[h0];exact gQ (P:=fun n=>0<n∧n≤100) ⟨by omega,by omega⟩
  have hl:=aD8 n
  refine aD (s':=[I p,some (.lst [N n],false),I n,some (.lst ((Bk n).map P2),false),none,none,none]) (iL (d:=.lst ((Bk n).map P2)) (by w_fin) rfl) ?_
  have e2:blt .len [.lst ((Bk n).map P2)]=some (N (Bk n).length):=by rw[aA5,Ag]
  refine aD (s':=[I p,some (.lst [N n],false),I n,some (.lst ((Bk n).map P2),false),some (.lst [N (Bk n).length],true),none,none]) (aBj (d:=.lst [N (Bk n).length]) (kG (aG (cP (by w_fin) e2) aE) (show 1≤16777216 by omega)) rfl rfl) ?_
  obtain⟨v',w',hh⟩:=yY (F:=F) (G:=G) 0 (I p) (some (.lst [N n],false)) (I n) (some (.lst ((Bk n).map P2),false)) (Bk n) [N (Bk n).length] none none (by simp only[SZ,Ar,Gj];omega)
  refine aD (jG (aGp (by w_fin)) rfl hh) ?_
  refine(aF (xC (aV rfl) rfl)).trans ?_
  unfold a7 ai Kp267.ints
  simp only[Ai,Aj,Jd,Cq]
  rfl
def mK:=nd1 fun p n=>a7 (Ci (some p) (.square n)).2
theorem aCx(hG:G fN=some (.int 60))(hW:G aH=some (.int (-22)))(h0:F aZ=dJ)(h1:F aC=aY)(h2:F aN=bO):Computes F G 4 oV mK:=by
 refine cd1 (by decide) fun p n hp hb hn=>⟨0,?_⟩
 unfold oV
 refine aD (s':=[I p,some (.lst [N n],false),I n,none]) (aI (z:=n) (by w_fin)) ?_
 refine aS (P:=(60:Int)<n) hW (by w_fin) (fun h=>?_) fun h=>?_
 .exact congrArg a7 (ip (show 60<n from by omega))
 .rw[show(Ci (some p) (.square n)).2=N5 ((Bn n).filter fun q=>Ah q n%2 != 0)from ig (show ¬60<n from by omega)]
  have e1:F aZ [N n]=some (.lst ((Bn n).map N)):=by rw[h0];exact tV (by omega)
  have hl:=lM n
  refine pO (l:=(Bn n).filter fun q=>Ah q n%2 != 0) h2 ?_ (B9 (Br _ _) (by omega))
  refine rT N (fun q=>Ah q n%2 != 0) N (Bn n) (aGp (by w_fin)) (by simp only[SZ];omega) fun q hq=>⟨[some (N p),some (.lst [N n]),some (N n),some (N q)],rfl,?_,fun _=>by w_fin⟩
  have hq':=qX (show n≤100 by omega) hq
  have e2:F aC [N n,N q]=some (N (Ah q n)):=by rw[h1];exact xQ (by omega) hq'
  have e3:bop .mod (N (Ah q n)) (.int 2)=some (N (Ah q n%2)):=cG (n:=2) (by omega)
  have e4:decide (((Ah q n%2:Nat):Int)=1)=(Ah q n%2 != 0):=by
   rcases Nat.mod_two_eq_zero_or_one (Ah q n)with h|h<;>rw[h]<;>rfl
  rw[←e4]
  w_fin
noncomputable def aB2:=nd2 fun p n m=>a7 (Ci (some p) (.twice n m)).2
theorem aRh(hG:G aK=some (.int 1000000))(hG2:G fN=some (.int 60))(hW:G aH=some (.int (-22)))(h0:F aZ=dJ)(h1:F aC=aY)(h2:F cB=cM):Computes F G 6 aE8 aB2:=by
 refine cd2 (by decide) fun p n m hp hb hn hm=>⟨0,?_⟩
 unfold aE8
 refine aD (s':=[I p,some (.lst [N n,N m],false),I n,none,none,none]) (aI (z:=n) (by w_fin)) (aD (s':=[I p,some (.lst [N n,N m],false),I n,I m,none,none]) (aI (z:=m) (by w_fin)) ?_)
 refine aS (P:=(1000000:Int)<n∨(60:Int)<m) hW ?_ (fun h=>?_) fun h=>?_
 .rw[Bo];exact fD (by w_fin) (by w_fin)
 .exact congrArg a7 (ip (show Cs<n∨60<m from by unfold Cs;omega))
 .rw[show(Ci (some p) (.twice n m)).2=Jz (if(Bn m).all (fun q=>decide (2*Ah q m≤Ah q n))then 1 else 0)from ig (show ¬(Cs<n∨60<m)from by unfold Cs;omega)]
  have e1:F aZ [N m]=some (.lst ((Bn m).map N)):=by rw[h0];exact tV (by omega)
  have hl:=lM m
  let b:List Bool:=(Bn m).map fun q=>decide (2*Ah q m≤Ah q n)
  refine aD (s':=[I p,some (.lst [N n,N m],false),I n,I m,some (.lst (b.map Dat.bl),false),none]) (iL (d:=.lst (b.map Dat.bl)) ?_ rfl) ?_
  .rw[Aj]
   refine aCj N _ (Bn m) (aGp (by w_fin)) (by simp only[SZ];omega) fun q hq=>⟨[some (N p),some (.lst [N n,N m]),some (N n),some (N m),none,some (N q)],rfl,?_⟩
   have hq':=qX (show m≤100 by omega) hq
   have e2:F aC [N n,N q]=some (N (Ah q n)):=by rw[h1];exact xQ (by omega) hq'
   have e3:F aC [N m,N q]=some (N (Ah q m)):=by rw[h1];exact xQ (by omega) hq'
   have e4:bop .mul (.int 2) (N (Ah q m))=some (N (2*Ah q m)):=dO (m:=2) (.inl (by omega))
   have e5:decide (2*Ah q m≤Ah q n)=decide (((2*Ah q m:Nat):Int)≤(Ah q n:Nat)):=by
    simp only[Int.ofNat_le]
   simp only[E6]
   rw[e5]
   w_fin
  .have e6:blt .all [.lst (b.map Dat.bl)]=some (.bl (b.all id)):=by rw[aKu,aEe];rfl
   have e7:F cB [.bl (b.all id)]=some (.int (if b.all id then 1 else 0)):=by rw[h2];rfl
   have e8:b.all id=(Bn m).all fun q=>decide (2*Ah q m≤Ah q n):=by rw[Jp];rfl
   rw[←e8]
   exact fA (by w_fin)
end
theorem aU0{i:Int}{l:List Dat}:cop .nin (.int i) (.lst l)=(intz l).map fun ns=>!decide (i∈ns):=Aq rfl rfl
section
variable{F:Nat→List Dat→Option Dat}{G:Nat→Option Dat}
def aGw:=nd1 fun p n=>a7 (Ci (some p) (.gaps n)).2
theorem aUe{f:Nat→Dat}{n k:Nat}(h:k<n):idx (.lst ((Ab n).map f)) (N k)=some (f k):=by
 rw[nJ,yL,Bb,E7 h];rfl
theorem aS6(p:Nat)(hp:2≤p):∀f n,Bi p f n≤n:=by
 intro f
 induction f with
 |zero=>intro n;simp[Bi]
 |succ f ih=>
  intro n
  unfold Bi
  split
  .omega
  .have h1:=ih (n/p)
   have h2:n/p≤n/2:=Nat.div_le_div_left hp (by omega)
   omega
theorem aW1(hG:G fN=some (.int 60))(hW:G aH=some (.int (-22)))(h1:F aC=aY)(h2:F aN=bO):Computes F G 6 aKd aGw:=by
 refine cd1 (by decide) fun p n hp hb hn=>⟨0,?_⟩
 unfold aKd
 refine aD (s':=[I p,some (.lst [N n],false),I n,none,none,none]) (aI (z:=n) (by w_fin)) ?_
 refine aS (P:=(60:Int)<n) hW (by w_fin) (fun h=>?_) fun h=>?_
 .exact congrArg a7 (ip (show 60<n from by omega))
 .rw[show(Ci (some p) (.gaps n)).2=N5 (Np p n)from ig (show ¬60<n from by omega)]
  have e4:Pl.range [Dat.int ((n:Int)+1)]=some ((Ab (n+1)).map N):=jJ (j:=n+1) (by omega)
  have e5:evs F G (.cons (.bin .add (.var 2) (.int 1)) .nil) (rho [I p,some (.lst [N n],false),I n,none,none,none])=some [Dat.int ((n:Int)+1)]:=by w_fin
  refine aD (s':=[I p,some (.lst [N n],false),I n,some (.lst ((Ab (n+1)).map fun m=>N (Ah p m)),false),none,none]) (iL (d:=.lst ((Ab (n+1)).map fun m=>N (Ah p m))) ?_ rfl) ?_
  .refine aCj N _ (Ab (n+1)) (cE e5 e4) (by simp[SZ];omega) fun a ha=>⟨[some (N p),some (.lst [N n]),some (N n),none,some (N a),none],rfl,?_⟩
   have:=Ak.mp ha
   have e1:F aC [N a,N p]=some (N (Ah p a)):=by rw[h1];exact xQ (by omega) hb
   exact cA (by w_fin) e1
  .have e6:idx (.lst ((Ab (n+1)).map fun m=>N (Ah p m))) (N n)=some (N (Ah p n)):=aUe (by omega)
   have ht:Ah p n≤n:=aS6 p hb.1 24 n
   have e7:Pl.range [N (Ah p n)]=some ((Ab (Ah p n)).map N):=jJ (by omega)
   have e8:Np p n=(Ab (Ah p n)).filter fun(k:Nat)=>!decide ((k:Int)∈((Ab (n+1)).map (Ah p)).map fun(x:Nat)=>(x:Int)):=by
    unfold Np
    rw[show Ab (Ah p n+1)=Ab (Ah p n)++[Ah p n]from B5,El]
    have:([Ah p n].filter fun k=>!(Ab (n+1)).any fun m=>Ah p m==k)=[]:=by
     rw[List.filter_cons_of_neg]
     .rfl
     .simp only[Gz,Bool.not_eq_false,F6,Ak,beq_iff_eq]
      exact⟨n,by omega,rfl⟩
    rw[this,Co]
    refine Eb fun k _=>congrArg not ?_
    rw[C8]
    simp only[F6,Ak,beq_iff_eq,dqe,Cd]
    constructor
    .rintro⟨m,h1,h2⟩;exact⟨_,⟨m,h1,rfl⟩,by omega⟩
    .rintro⟨_,⟨m,h1,rfl⟩,h2⟩;exact⟨m,h1,by omega⟩
   rw[e8]
   refine pO h2 ?_ (B9 (Br _ _) (by rw[Bj];omega))
   refine rT N _ N (Ab (Ah p n)) (cE (by w_fin) e7) (by simp only[Bj,SZ];omega) fun k hk=>⟨[some (N p),some (.lst [N n]),some (N n),some (.lst ((Ab (n+1)).map fun m=>N (Ah p m))),none,some (N k)],rfl,?_,fun _=>by w_fin⟩
   have e9:cop .nin (N k) (.lst ((Ab (n+1)).map fun m=>N (Ah p m)))=some (!decide ((k:Int)∈((Ab (n+1)).map (Ah p)).map fun(x:Nat)=>(x:Int))):=by
    have:((Ab (n+1)).map fun m=>N (Ah p m))=((Ab (n+1)).map (Ah p)).map N:=by rw[Aj];rfl
    rw[this,aU0,vV];rfl
   exact lH (aV rfl) (aV rfl) e9
theorem qA:∀(l:List Nat)(a:Nat),(l.map fun(x:Nat)=>(x:Int)).foldl min (a:Int)=((l.foldl (fun(m v:Nat)=>min m v) a:Nat):Int)
 |[],a=>rfl
 |x::l,a=>by
  rw[Ai,Cp,Cp,←qA l]
  congr 1;omega
theorem aOu{b:Nat}(h:2≤b)(h':b≤100):Bk b≠[]:=by
 have h1:∀b<101,2≤b→∃q∈[2,3,5,7,11,13,17,19,23,29,31,37,41,43,47,53,59,61,67,71,73,79,83,89,97],b%q=0:=by decide
 have h2:∀q∈[2,3,5,7,11,13,17,19,23,29,31,37,41,43,47,53,59,61,67,71,73,79,83,89,97],Bh q=true:=by decide +kernel
 obtain⟨q,hq,hd⟩:=h1 b (by omega) h
 have hle:q≤b:=Hj (by omega) (Ff hd)
 have:(q,Ep q b)∈Bk b:=by
  unfold Bk
  refine Cd.mpr ⟨q,Es.mpr ⟨Ak.mpr (by omega),?_⟩,rfl⟩
  rw[h2 q hq,hd];rfl
 intro hn
 rw[hn]at this
 cases this
theorem aRn{b:Nat}(hb:0<b){z:Nat×Nat}(h:z∈Bk b):0<z.2∧z.2≤24:=by
 unfold Bk at h
 obtain⟨q,hq,rfl⟩:=Cd.mp h
 obtain⟨_,h2⟩:=Es.mp hq
 simp only[Ac,beq_iff_eq]at h2
 have hle:∀f n,Ds q f n≤f:=by
  intro f
  induction f with
  |zero=>intro n;simp[Ds]
  |succ f ih=>
   intro n;unfold Ds
   split
   .omega
   .split
    .have:=ih (n/q);omega
    .omega
 refine⟨?_,hle 24 b⟩
 show 0<Ds q (23+1) b
 unfold Ds
 rw[ig (by omega),ip h2.2]
 omega
theorem aJ8{b:Nat}(hb:b≤100){z:Nat×Nat}(h:z∈Bk b):2≤z.1∧z.1<100:=by
 unfold Bk at h
 obtain⟨q,hq,rfl⟩:=Cd.mp h
 obtain⟨h1,h2⟩:=Es.mp hq
 have:=Ak.mp h1
 simp only[Ac,beq_iff_eq]at h2
 exact nQ ((aNe (by omega)).trans h2.1)
noncomputable def qL:=nd2 fun p b n=>a7 (Ci (some p) (.noughts b n)).2
theorem aIw(hG:G kL=some (.int 2))(hG2:G kK=some (.int 100))(hG3:G aK=some (.int 1000000))(hW:G aH=some (.int (-22)))(h0:F eM=jR)(h1:F aC=aY):Computes F G 6 uT qL:=by
 refine cd2 (by decide) fun p b n hp hb hb' hn=>⟨0,?_⟩
 unfold uT
 refine aD (s':=[I p,some (.lst [N b,N n],false),I b,none,none,none]) (aI (z:=b) (by w_fin)) (aD (s':=[I p,some (.lst [N b,N n],false),I b,I n,none,none]) (aI (z:=n) (by w_fin)) ?_)
 refine aS (P:=(b:Int)<2∨(100:Int)<b∨(1000000:Int)<n) hW ?_ (fun h=>?_) fun h=>?_
 .rw[Bo,Bo];exact fD (by w_fin) (fD (by w_fin) (by w_fin))
 .exact congrArg a7 (ip (show b<2∨100<b∨Cs<n from by unfold Cs;omega))
 .rw[show(Ci (some p) (.noughts b n)).2=Jz (Ku b n:Int)from ig (show ¬(b<2∨100<b∨Cs<n)from by unfold Cs;omega)]
  have e1:F eM [N b]=some (.lst ((Bk b).map P2)):=by rw[h0];exact gQ (P:=fun n=>0<n∧n≤100) ⟨by omega,by omega⟩
  have hl:=aD8 b
  have e2:ev F G (.lc (.bin .fdiv (.call aC (.cons (.var 3) (.cons (.var 4) .nil))) (.var 5)) (.two 4 5) (.of (.call eM (.cons (.var 2) .nil))) .nil) (rho [I p,some (.lst [N b,N n],false),I b,I n,none,none])=some (.lst ((Bk b).map fun z=>N (Ah z.1 n/z.2))):=by
   refine aCj P2 _ (Bk b) (aGp (by w_fin)) (by simp only[SZ];omega) fun z hz=>⟨[some (N p),some (.lst [N b,N n]),some (N b),some (N n),some (N z.1),some (N z.2)],rfl,?_⟩
   have h3:=aRn (by omega) hz
   have e2:F aC [N n,N z.1]=some (N (Ah z.1 n)):=by rw[h1];exact xQ (by omega) (aJ8 (by omega) hz)
   have e3:bop .fdiv (N (Ah z.1 n)) (N z.2)=some (N (Ah z.1 n/z.2)):=bT (by omega) (by omega)
   exact jL (cA (by w_fin) e2) (aV rfl) e3
  have e4:blt .min [.lst ((Bk b).map fun z=>N (Ah z.1 n/z.2))]=some (N (Ku b n)):=by
   have:((Bk b).map fun z=>N (Ah z.1 n/z.2))=((Bk b).map fun z=>Ah z.1 n/z.2).map N:=by rw[Aj];rfl
   rw[this]
   unfold Ku
   cases hc:(Bk b).map fun z=>Ah z.1 n/z.2 with
   |nil=>exact absurd (List.map_eq_nil_iff.mp hc) (aOu (by omega) (by omega))
   |cons a l=>rw[aTw,vV,Af,Ai,aUn,Bt,qA]
  exact fA (cP (aG e2 aE) e4)
theorem aP1(p f:Nat):Bi p f 0=0:=by cases f<;>simp[Bi]
theorem legendre(p:Nat)(hp:2≤p):∀(f n:Nat),n+1<2^f→Bi p f (n+1)=Bi p f n+Ds p f (n+1):=by
 intro f
 induction f with
 |zero=>intro n h;simp at h
 |succ f ih=>
  intro n h
  rw[Bi,Bi,Ds,ig (by omega),ig (show n+1≠0 by omega)]
  have hd:=Nat.succ_div (a:=n) (b:=p)
  by_cases hm:(n+1)%p=0
  .rw[ip hm]
   rw[ip (Ff hm)]at hd
   have hn:n≠0:=by
    intro h0;subst h0
    rw[Aw (by omega)]at hm;omega
   rw[ig hn,hd,ih (n/p) (by rw[←hd];exact kF hp h)]
   omega
  .rw[ig hm]
   rw[ig fun h=>hm (Fe h)]at hd
   have hd':(n+1)/p=n/p:=hd
   rw[hd']
   by_cases hn:n=0
   .subst hn;rw[Lh,aP1];simp
   .rw[ig hn];omega
theorem aIa(f p k:Nat)(g:Slot)(hp:2≤p∧p<100)(hG:G eG=some (.int 700))(hN:G aP=some (.int (-33)))(h0:F cH=iF)(L:Option Nat)(hL:Hy p k=L):∀(fuel n:Nat),n<700→700<fuel+n→(∀m<n,¬k≤Ah p m)→
  (match L with
   |some r=>lE (fun e=>tst F G (.cmp .lt (.var 4) (.var 2)) (rho e)) (fun e=>run F G f (.cons (.aug 3 .add (.int 1)) (.cons (.ite (.cmp .eq (.var 3) (.glo eG)) (.cons (.ret (.lst (.cons (.glo aP) .nil))) .nil) .nil) (.cons (.aug 4 .add (.call cH (.cons (.var 3) (.cons (.var 0) .nil)))) .nil))) e) fuel [I p,g,I k,I n,I (Ah p n:Nat)]=some (.nxt [I p,g,I k,I r,I (Ah p r:Nat)])
   |none=>lE (fun e=>tst F G (.cmp .lt (.var 4) (.var 2)) (rho e)) (fun e=>run F G f (.cons (.aug 3 .add (.int 1)) (.cons (.ite (.cmp .eq (.var 3) (.glo eG)) (.cons (.ret (.lst (.cons (.glo aP) .nil))) .nil) .nil) (.cons (.aug 4 .add (.call cH (.cons (.var 3) (.cons (.var 0) .nil)))) .nil))) e) fuel [I p,g,I k,I n,I (Ah p n:Nat)]=some (.ret (ai (-33) []))):=by
 intro fuel
 induction fuel with
 |zero=>intro n h1 h2;exact absurd h2 (by omega)
 |succ fuel ih=>
  intro n h1 h2 h3
  have test:tst F G (.cmp .lt (.var 4) (.var 2)) (rho [I p,g,I k,I n,I (Ah p n:Nat)])=some (decide ((Ah p n:Int)<k)):=aS5 (by w_fin)
  by_cases hk:k≤Ah p n
  .have:Hy p k=some n:=by
    unfold Hy
    rw[List.find?_range_eq_some]
    exact⟨det hk,Ak.mpr h1,fun j hj=>by simp only[def_ (h3 j hj),Bool.not_false]⟩
   rw[hL]at this;subst this
   rw[def_ (by omega)]at test
   exact iY test
  .rw[det (by omega)]at test
   have t1:ev F G (.cmp .eq (.var 3) (.glo eG)) (rho [I p,g,I k,I ((n:Int)+1),I (Ah p n:Nat)])=some (.bl (decide ((n:Int)+1=700))):=by w_fin
   by_cases h7:n+1=700
   .have:Hy p k=none:=by
     unfold Hy
     rw[Kv]
     intro m hm
     have:=Ak.mp hm
     by_cases hmn:m=n
     .subst hmn;simpa using hk
     .simpa using h3 m (by omega)
    rw[hL]at this;subst this
    rw[det (by omega)]at t1
    exact aQg test (aD (qZ (x:=n) (z:=1) rfl bJ fB) (aF (eQ t1 (oC hN))))
   .rw[def_ (by omega)]at t1
    have e1:F cH [.int ((n:Int)+1),N p]=some (N (Ep p (n+1))):=by rw[h0];exact rG (n:=n+1) (by omega) (by omega) hp
    have e2:Ah p (n+1)=Ah p n+Ep p (n+1):=legendre p hp.1 24 n (by omega)
    have hi:=ih (n+1) (by omega) (by omega) (by
     intro m hm
     by_cases hmn:m=n
     .subst hmn;exact hk
     .exact h3 m (by omega))
    have hs:run F G f (.cons (.aug 3 .add (.int 1)) (.cons (.ite (.cmp .eq (.var 3) (.glo eG)) (.cons (.ret (.lst (.cons (.glo aP) .nil))) .nil) .nil) (.cons (.aug 4 .add (.call cH (.cons (.var 3) (.cons (.var 0) .nil)))) .nil))) [I p,g,I k,I n,I (Ah p n:Nat)]=some (.nxt [I p,g,I k,I (n+1:Nat),I (Ah p (n+1):Nat)]):=by
     rw[e2]
     exact aD (qZ (x:=n) (z:=1) rfl bJ fB) (aD (eF t1 aR) (aD (qZ (x:=(Ah p n:Nat)) (z:=(Ep p (n+1):Nat)) rfl (by w_fin) fB) aR))
    rw[fT test hs]
    exact hi
def qJ:=nd1 fun p n=>a7 (Ci (some p) (.least n)).2
theorem aIu(hG0:G qB=some (.int 600))(hG:G eG=some (.int 700))(hW:G aH=some (.int (-22)))(hN:G aP=some (.int (-33)))(h0:F cH=iF):Computes F G 5 uR qJ:=by
 refine cd1 (by decide) fun p k hp hb hk=>⟨701,?_⟩
 unfold uR
 refine aD (s':=[I p,some (.lst [N k],false),I k,none,none]) (aI (z:=k) (by w_fin)) ?_
 refine aS (P:=(600:Int)<k) hW (by w_fin) (fun h=>?_) fun h=>?_
 .have hl:600<k:=by omega
  simp only[Ci]
  rw[ip hl];rfl
 .have hl:¬600<k:=by omega
  simp only[Ci]
  rw[ig hl]
  refine aD (s':=[I p,some (.lst [N k],false),I k,I 0,none]) (aI (z:=0) bJ) (aD (s':=[I p,some (.lst [N k],false),I k,I 0,I 0]) (aI (z:=0) bJ) ?_)
  generalize hL:Hy p k=L
  have hh:=aIa (F:=F) (G:=G) 701 p k (some (.lst [N k],false)) hb hG hN h0 L hL 701 0 (by omega) (by omega) (by omega)
  have hz:Ah p 0=0:=aP1 p 24
  rw[hz]at hh
  cases L with
  |some r=>
   exact aD (aBk.trans hh) (mU (by w_fin) (by w_fin))
  |none=>
   exact aF (aBk.trans hh)
def gK:=nn2 (fun n p=>n<16777216∧2≤p∧p<100) fun n p=>.bl (Fm p n)
theorem tQ(h0:F bS=eL):Computes F G 2 jX gK:=by
 refine pF (by decide) fun n p h=>⟨0,?_⟩
 unfold jX
 have e1:=ap h0 (gY (n:=n) (p:=p) h.1 h.2)
 rw[aSg h.2.1 h.1,show decide (Bv p n≤2)=decide ((Bv p n:Int)≤2) by congr 1;exact propext ⟨fun h=>by omega,fun h=>by omega⟩]
 exact aF (eB (by w_fin) rfl)
def iN:=nn2 (fun n p=>n<16777216∧2≤p∧p<100) fun n p=>.bl (Fp p n)
theorem wS(h0:F bS=eL):Computes F G 2 kX iN:=by
 refine pF (by decide) fun n p h=>⟨0,?_⟩
 unfold kX
 have e1:=ap h0 (gY (n:=n) (p:=p) h.1 h.2)
 rw[aVg h.2.1 h.1,show decide (Bv p n=n+1)=decide ((Bv p n:Int)=(n:Int)+1) by congr 1;exact propext ⟨fun h=>by omega,fun h=>by omega⟩]
 exact aF (eB (by w_fin) rfl)
theorem aK1(b:Bool):cM [.bl b]=some (.int (if b then 1 else 0)):=rfl
noncomputable def aB6:=nd1 fun p n=>a8 (Cf (some p) (.whole n)).2
theorem aRk(hG:G aW=some (.int 200))(hW:G aH=some (.int (-22)))(h0:F dX=gK)(h1:F cB=cM):Computes F G 2 aEb aB6:=by
 refine cd1 (by decide) fun p n hp hb hn=>⟨0,?_⟩
 unfold aEb
 refine aS (P:=(200:Int)<n) hW (by w_fin) (fun h=>?_) fun h=>?_
 .exact congrArg a8 (ip (show 200<n from by omega))
 .rw[show(Cf (some p) (.whole n)).2=Hw (if Fm p n then 1 else 0)from ig (show ¬200<n from by omega)]
  have e1:F dX [N n,N p]=some (.bl (Fm p n)):=ap h0 (dN ⟨by omega,hb⟩)
  have e2:=ap h1 (aK1 (Fm p n))
  exact fA (by w_fin)
def aGz:=nd1 fun p n=>a8 (Cf (some p) (.none_ n)).2
theorem aW9(hG:G aW=some (.int 200))(hW:G aH=some (.int (-22)))(h0:F eT=iN)(h1:F cB=cM):Computes F G 2 aKk aGz:=by
 refine cd1 (by decide) fun p n hp hb hn=>⟨0,?_⟩
 unfold aKk
 refine aS (P:=(200:Int)<n) hW (by w_fin) (fun h=>?_) fun h=>?_
 .exact congrArg a8 (ip (show 200<n from by omega))
 .rw[show(Cf (some p) (.none_ n)).2=Hw (if Fp p n then 1 else 0)from ig (show ¬200<n from by omega)]
  have e1:F eT [N n,N p]=some (.bl (Fp p n)):=ap h0 (dN ⟨by omega,hb⟩)
  have e2:=ap h1 (aK1 (Fp p n))
  exact fA (by w_fin)
def aGy:=nd1 fun p n=>a8 (Cf (some p) (.most n)).2
theorem aW8(hG:G aW=some (.int 200))(hW:G aH=some (.int (-22)))(h0:F cC=dI):Computes F G 2 aKj aGy:=by
 refine cd1 (by decide) fun p n hp hb hn=>⟨0,?_⟩
 unfold aKj
 refine aS (P:=(200:Int)<n) hW (by w_fin) (fun h=>?_) fun h=>?_
 .exact congrArg a8 (ip (show 200<n from by omega))
 .rw[show(Cf (some p) (.most n)).2=Hw (Kp268.most p n:Int)from ig (show ¬200<n from by omega)]
  have e1:=ap h0 (aPn (n:=n) (p:=p) (by omega) hb)
  have e2:=aZc (l:=(Ab (n+1)).map (Ao p n)) (by simp[B5])
  rw[Kg]at e2
  exact fA (by w_fin)
theorem yS(f p n:Nat)(g:Slot):∀(l:List Nat)(v w:Slot),
  (match l.find? fun k=>Ao p n k != 0 with
   |some k=>lN (.two 2 3) (fun e=>run F G f (.cons (.ite (.cmp .gt (.var 3) (.int 0)) (.cons (.ret (.lst (.cons (.var 2) (.cons (.var 3) .nil)))) .nil) .nil) .nil) e) (l.map fun k=>.tup [N k,N (Ao p n k)]) [I p,g,v,w]=some (.ret (ai k [(Ao p n k:Int)]))
   |none=>∃v' w',lN (.two 2 3) (fun e=>run F G f (.cons (.ite (.cmp .gt (.var 3) (.int 0)) (.cons (.ret (.lst (.cons (.var 2) (.cons (.var 3) .nil)))) .nil) .nil) .nil) e) (l.map fun k=>.tup [N k,N (Ao p n k)]) [I p,g,v,w]=some (.nxt [I p,g,v',w']))
 |[],v,w=>⟨v,w,rfl⟩
 |k::l,v,w=>by
  have t0:ev F G (.cmp .gt (.var 3) (.int 0)) (rho [I p,g,I k,I (Ao p n k:Nat)])=some (.bl (decide ((0:Int)<(Ao p n k:Nat)))):=by w_fin
  rw[show decide ((0:Int)<(Ao p n k:Nat))=(Ao p n k != 0) by rw[C8];simp;omega]at t0
  rw[Fs]
  cases hc:(Ao p n k != 0)with
  |true=>
   rw[hc]at t0
   simp only[]
   rw[Ai]
   exact aAg rfl (aF (eQ t0 (mU (by w_fin) (by w_fin))))
  |false=>
   rw[hc]at t0
   simp only[]
   have ih:=yS f p n g l (I k) (I (Ao p n k:Nat))
   rw[Ai,bH (e1:=[I p,g,I k,I (Ao p n k:Nat)]) (e':=[I p,g,I k,I (Ao p n k:Nat)]) rfl (aD (eF t0 aR) aR)]
   exact ih
def aAr:=nd1 fun p n=>a8 (Cf (some p) (.first n)).2
theorem aR7(hG:G aW=some (.int 200))(hW:G aH=some (.int (-22)))(hN:G aP=some (.int (-33)))(h0:F cC=dI):Computes F G 4 aDy aAr:=by
 refine cd1 (by decide) fun p n hp hb hn=>⟨0,?_⟩
 unfold aDy
 refine aS (P:=(200:Int)<n) hW (by w_fin) (fun h=>?_) fun h=>?_
 .exact congrArg a8 (ip (show 200<n from by omega))
 .rw[show(Cf (some p) (.first n)).2=(match(Ab (n+1)).find? fun k=>Ao p n k != 0 with
     |some k=>(⟨(k:Int),Kp268.ints [Ao p n k]⟩:Kp268.Ans)
     |none=>Hw (-33))from ig (show ¬200<n from by omega)]
  have e1:=ap h0 (aPn (n:=n) (p:=p) (by omega) hb)
  have e2:ev F G (.call cC (.cons (.idx (.var 1) (.int 0)) (.cons (.var 0) .nil))) (rho [I p,L1 n,none,none])=some (.lst (((Ab (n+1)).map (Ao p n)).map N)):=by w_fin
  have e3:=vU e2
  rw[Aj,jV]at e3
  have e4:((Ab (n+1)).map fun i=>Dat.tup [N (0+i),(N∘Ao p n) i])=(Ab (n+1)).map fun k=>.tup [N k,N (Ao p n k)]:=Ax fun i _=>by rw[Bw];rfl
  rw[e4]at e3
  have hl:=yS (F:=F) (G:=G) 0 p n (L1 n) (Ab (n+1)) none none
  cases hc:(Ab (n+1)).find? fun k=>Ao p n k != 0 with
  |some m=>
   rw[hc]at hl
   exact aF (jG e3 rfl hl)
  |none=>
   rw[hc]at hl
   obtain⟨v,w,hv⟩:=hl
   exact aD (jG e3 rfl hv) (oC hN)
theorem aFu(n:Nat)(q:Nat→Bool):((Ab (n+1)).filter fun m=>decide (2≤m)&&q m)=((Ab (n+1-2)).map fun k=>2+k).filter q:=by
 cases n with
 |zero=>simp[B5]
 |succ n=>
  have e:Ab (n+1+1)=[0,1]++(Ab n).map fun k=>2+k:=by
   have:=D9 (n:=2) (m:=n)
   rw[show n+1+1=2+n by omega,this];rfl
  rw[e,El,show n+1+1-2=n by omega]
  have e2:List.filter (fun m=>decide (2≤m)&&q m) [0,1]=[]:=by simp
  rw[e2,Cq]
  refine Eb fun x hx=>?_
  obtain⟨i,_,rfl⟩:=Cd.mp hx
  simp
def aH1:=nd1 fun p n=>a8 (Cf (some p) (.rows n)).2
theorem aWb(hG:G gA=some (.int 100))(hG2:G cU=some (.int 2))(hW:G aH=some (.int (-22)))(h0:F dX=gK)(h1:F aN=bO):Computes F G 3 aKm aH1:=by
 refine cd1 (by decide) fun p n hp hb hn=>⟨0,?_⟩
 unfold aKm
 refine aS (P:=(100:Int)<n) hW (by w_fin) (fun h=>?_) fun h=>?_
 .exact congrArg a8 (ip (show 100<n from by omega))
 .rw[show(Cf (some p) (.rows n)).2=Kt ((Ab (n+1)).filter fun m=>decide (2≤m)&&Fm p m)from ig (show ¬100<n from by omega),aFu]
  have e4:Pl.range [Dat.int 2,Dat.int ((n:Int)+1)]=some ((Ab (n+1-2)).map fun k=>N (2+k)):=oQ (i:=2) (j:=n+1) (by omega) (by omega)
  have e5:evs F G (.cons (.glo cU) (.cons (.bin .add (.idx (.var 1) (.int 0)) (.int 1)) .nil)) (rho [I p,L1 n,none])=some [Dat.int 2,Dat.int ((n:Int)+1)]:=by w_fin
  have e6:=cE e5 e4
  rw[show(Ka (fun k=>N (2+k)) (Ab (n+1-2)))=((Ab (n+1-2)).map fun k=>2+k).map N by rw[Aj];rfl]at e6
  refine pO h1 (rT N (Fm p) N _ e6 (by simp[SZ];omega) fun a ha=>⟨[some (N p),some (.lst [N n]),some (N a)],rfl,?_,fun _=>by w_fin⟩) ?_
  .obtain⟨i,hi,rfl⟩:=Cd.mp ha
   have:=Ak.mp hi
   have e1:F dX [N (2+i),N p]=some (.bl (Fm p (2+i))):=ap h0 (dN ⟨by omega,hb⟩)
   w_fin
  .exact B9 (Br _ _) (by simp;omega)
noncomputable def aGv:=nd1 fun p n=>a8 (Cf (some p) (.bare n)).2
theorem aVx(hG:G gA=some (.int 100))(hW:G aH=some (.int (-22)))(h0:F eT=iN)(h1:F aN=bO):Computes F G 3 aK9 aGv:=by
 refine cd1 (by decide) fun p n hp hb hn=>⟨0,?_⟩
 unfold aK9
 refine aS (P:=(100:Int)<n) hW (by w_fin) (fun h=>?_) fun h=>?_
 .exact congrArg a8 (ip (show 100<n from by omega))
 .rw[show(Cf (some p) (.bare n)).2=Kt ((Ab (n+1)).filter (Fp p))from ig (show ¬100<n from by omega)]
  have e4:Pl.range [Dat.int ((n:Int)+1)]=some ((Ab (n+1)).map N):=jJ (j:=n+1) (by omega)
  have e5:evs F G (.cons (.bin .add (.idx (.var 1) (.int 0)) (.int 1)) .nil) (rho [I p,L1 n,none])=some [Dat.int ((n:Int)+1)]:=by w_fin
  refine pO h1 (rT N (Fp p) N _ (cE e5 e4) (by simp[SZ];omega) fun a ha=>⟨[some (N p),some (.lst [N n]),some (N a)],rfl,?_,fun _=>by w_fin⟩) ?_
  .have:=Ak.mp ha
   have e1:F eT [N a,N p]=some (.bl (Fp p a)):=ap h0 (dN ⟨by omega,hb⟩)
   w_fin
  .exact B9 (Br _ _) (by simp;omega)
def uD:=nd1 fun p n=>a8 (Cf (some p) (.middle n)).2
theorem aNp(hG:G oO=some (.int 500000))(hW:G aH=some (.int (-22)))(h0:F bA=dU):Computes F G 3 zV uD:=by
 refine cd1 (by decide) fun p n hp hb hn=>⟨0,?_⟩
 unfold zV
 refine aD (s':=[I p,L1 n,I n]) (aI (z:=n) (by w_fin)) ?_
 refine aS (P:=(500000:Int)<n) hW (by w_fin) (fun h=>?_) fun h=>?_
 .exact congrArg a8 (ip (show Ey<2*n from by unfold Ey;omega))
 .rw[show(Cf (some p) (.middle n)).2=Hw (Ao p (2*n) n:Int)from ig (show ¬Ey<2*n from by unfold Ey;omega)]
  have e1:=ap h0 (fZ (n:=2*n) (k:=n) (p:=p) (by omega) (by omega) hb)
  have e2:bop .mul (.int 2) (N n)=some (N (2*n)):=dO (m:=2) (.inl (by omega))
  exact fA (by w_fin)
theorem aBx{l:List Nat}:blt .sum [.lst (l.map N)]=some (N l.sum):=by
 rw[aEf,vV,Bt,aBw]
theorem aLr{α:Type}(g:α→Nat)(l:List α):l.foldl (fun(a:Nat)(m:α)=>a+g m) 0=(l.map g).sum:=by
 have:=nF (l.map g) 0
 rw[Kg,Bw]at this
 exact this
def aAn:=nd1 fun p n=>a8 (Cf (some p) (.below n)).2
theorem aR4(hG:G gA=some (.int 100))(hW:G aH=some (.int (-22)))(h0:F bS=eL):Computes F G 3 aDv aAn:=by
 refine cd1 (by decide) fun p n hp hb hn=>⟨0,?_⟩
 unfold aDv
 refine aS (P:=(100:Int)<n) hW (by w_fin) (fun h=>?_) fun h=>?_
 .exact congrArg a8 (ip (show 100<n from by omega))
 .rw[show(Cf (some p) (.below n)).2=Hw (((Ab (n+1)).foldl (fun(a m:Nat)=>a+Bv p m) 0:Nat):Int)from ig (show ¬100<n from by omega),aLr]
  have e4:Pl.range [Dat.int ((n:Int)+1)]=some ((Ab (n+1)).map N):=jJ (j:=n+1) (by omega)
  have e5:evs F G (.cons (.bin .add (.idx (.var 1) (.int 0)) (.int 1)) .nil) (rho [I p,L1 n,none])=some [Dat.int ((n:Int)+1)]:=by w_fin
  have e6:ev F G (.lc (.call bS (.cons (.var 2) (.cons (.var 0) .nil))) (.one 2) (.range (.cons (.bin .add (.idx (.var 1) (.int 0)) (.int 1)) .nil)) .nil) (rho [I p,L1 n,none])=some (.lst (((Ab (n+1)).map (Bv p)).map N)):=by
   rw[Aj]
   refine aCj N _ _ (cE e5 e4) (by simp[SZ];omega) fun a ha=>⟨[some (N p),some (.lst [N n]),some (N a)],rfl,?_⟩
   have:=Ak.mp ha
   have e1:=ap h0 (gY (n:=a) (p:=p) (by omega) hb)
   exact cA (by w_fin) e1
  have e7:=aBx (l:=(Ab (n+1)).map (Bv p))
  exact fA (cP (aG e6 aE) e7)
theorem aI0(l:List Nat)(c:Nat):(l.map fun(x:Nat)=>(x:Int)).count (c:Int)=(l.filter fun x=>x==c).length:=by
 rw[←Fh,Nr,Jr]
 refine Fv fun x _=>?_
 simp only[E6,beq_iff_eq]
 omega
theorem aAa{l:List Nat}{c:Nat}:blt .count [.lst (l.map N),N c]=some (N (l.filter fun x=>x==c).length):=by
 rw[aKv,vV,Bt,aI0]
noncomputable def gM:=nd2 fun p n c=>a8 (Cf (some p) (.with_ n c)).2
theorem tR(hG:G aW=some (.int 200))(hW:G aH=some (.int (-22)))(h0:F cC=dI):Computes F G 2 jY gM:=by
 refine cd2 (by decide) fun p n c hp hb hn hc=>⟨0,?_⟩
 unfold jY
 refine aS (P:=(200:Int)<n) hW (by w_fin) (fun h=>?_) fun h=>?_
 .exact congrArg a8 (ip (show 200<n from by omega))
 .rw[show(Cf (some p) (.with_ n c)).2=Hw (((Ab (n+1)).filter fun k=>Ao p n k==c).length:Int)from ig (show ¬200<n from by omega)]
  have e1:=ap h0 (aPn (n:=n) (p:=p) (by omega) hb)
  have e2:=aAa (l:=(Ab (n+1)).map (Ao p n)) (c:=c)
  rw[Gp,Ag]at e2
  exact fA (cP (by w_fin) e2)
def a9(r:Kp269.Ans):Dat:=ai r.num r.nums
theorem mm(a c l p:Nat):a*c%p*l%p=a*(c%p*l%p)%p:=by
 rw[L3,Iy,L3,J0]
theorem aMb(f p:Nat)(hp:2≤p)(hp':p<100)(h0:F aB=aO):∀(fuel k r q a:Nat),q<2^k→k<fuel→a<p→∃r',
  lE (fun e=>tst F G (.cmp .gt (.var 1) (.int 0)) (rho e)) (fun e=>run F G f (.cons (.set 3 false (.bin .mod (.bin .mul (.var 3) (.call aB (.cons (.bin .mod (.var 0) (.var 2)) (.cons (.bin .mod (.var 1) (.var 2)) .nil)))) (.var 2))) (.cons (.set 0 false (.bin .fdiv (.var 0) (.var 2))) (.cons (.set 1 false (.bin .fdiv (.var 1) (.var 2))) .nil))) e) fuel
   [I r,I q,I p,I a]=some (.nxt [I r',I 0,I p,I (a*D2 p k r q%p:Nat)]):=by
 intro fuel
 induction fuel with
 |zero=>intro k r q a _ h;omega
 |succ fuel ih=>
  intro k r q a hq hk ha
  by_cases hz:q=0
  .subst hz
   refine⟨r,?_⟩
   have t0:tst F G (.cmp .gt (.var 1) (.int 0)) (rho [I r,I 0,I p,I a])=some false:=aS5 (by w_fin)
   rw[qF p hp,Gy,Aw ha]
   exact iY t0
  .cases k with
   |zero=>simp at hq;omega
   |succ k=>
    have t0:tst F G (.cmp .gt (.var 1) (.int 0)) (rho [I r,I q,I p,I a])=some true:=by
     have:ev F G (.cmp .gt (.var 1) (.int 0)) (rho [I r,I q,I p,I a])=some (.bl (decide ((0:Int)<q))):=by w_fin
     rw[det (by omega)]at this
     exact aS5 this
    have e1:bop .mod (N r) (N p)=some (N (r%p)):=cG (by omega)
    have e2:bop .mod (N q) (N p)=some (N (q%p)):=cG (by omega)
    have e3:=ap h0 (aT (n:=r%p) (k:=q%p) (by have:=Bx r (show 0<p by omega);omega))
    have e4:bop .mul (N a) (N (C (r%p) (q%p)))=some (N (a*C (r%p) (q%p))):=dO (.inl (by omega))
    have e5:bop .mod (N (a*C (r%p) (q%p))) (N p)=some (N (a*C (r%p) (q%p)%p)):=cG (by omega)
    have e6:bop .fdiv (N r) (N p)=some (N (r/p)):=bT (by omega) (by omega)
    have e7:bop .fdiv (N q) (N p)=some (N (q/p)):=bT (by omega) (by omega)
    obtain⟨r',hx⟩:=ih k (r/p) (q/p) (a*C (r%p) (q%p)%p) (kF hp hq) (by omega) (Bx _ (by omega))
    refine⟨r',?_⟩
    rw[fT (e':=[I (r/p:Nat),I (q/p:Nat),I p,I (a*C (r%p) (q%p)%p:Nat)]) t0
     (aD (s':=[I r,I q,I p,I (a*C (r%p) (q%p)%p:Nat)]) (aI (z:=(a*C (r%p) (q%p)%p:Nat)) (by w_fin))
      (aD (s':=[I (r/p:Nat),I q,I p,I (a*C (r%p) (q%p)%p:Nat)]) (aI (z:=(r/p:Nat)) (by w_fin))
       (aD (s':=[I (r/p:Nat),I (q/p:Nat),I p,I (a*C (r%p) (q%p)%p:Nat)]) (aI (z:=(q/p:Nat)) (by w_fin)) aR))),hx]
    rw[hZ p (by omega),ig (fun h=>hz h.2)]
    rw[mm]
def gN:=nn3 (fun n k p=>n<16777216∧k<16777216∧2≤p∧p<100) fun n k p=>N (Ap p n k)
theorem aIv(h0:F aB=aO):Computes F G 4 uS gN:=by
 refine aLa (by decide) fun n k p h=>⟨25,?_⟩
 unfold uS
 obtain⟨r',hx⟩:=aMb (F:=F) (G:=G) 25 p h.2.2.1 h.2.2.2 h0 25 24 n k 1 h.2.1 (by omega) (by omega)
 rw[Fk,Aw (qG p (by omega) _ _ _)]at hx
 refine aD (s':=[I n,I k,I p,I 1]) (aI (z:=1) bJ) (aD (aBk.trans hx) ?_)
 exact aF (eB (by w_fin) rfl)
theorem gD{n k p:Nat}(hn:n<16777216)(hk:k<16777216)(hp:2≤p∧p<100):gN [N n,N k,N p]=some (N (Ap p n k)):=sF ⟨hn,hk,hp⟩
def cQ:=nn2 (fun n p=>n≤1000∧2≤p∧p<100) fun n p=>.lst ((Ca p n).map N)
theorem xZ(h0:F bQ=gN):Computes F G 3 lW cQ:=by
 refine pF (by decide) fun n p h=>⟨0,?_⟩
 unfold lW
 have e4:Pl.range [Dat.int ((n:Int)+1)]=some ((Ab (n+1)).map N):=jJ (j:=n+1) (by omega)
 have e5:evs F G (.cons (.bin .add (.var 0) (.int 1)) .nil) (rho [I n,I p,none])=some [Dat.int ((n:Int)+1)]:=by w_fin
 refine aF (fK ?_ rfl mE)
 unfold Ca
 rw[Aj]
 refine aCj N _ (Ab (n+1)) (cE e5 e4) (by simp[SZ];omega) fun a ha=>⟨[some (N n),some (N p),some (N a)],rfl,?_⟩
 have:=Ak.mp ha
 have e1:=ap h0 (gD (n:=n) (k:=a) (p:=p) (by omega) (by omega) h.2)
 exact cA (by w_fin) e1
theorem aDr{n p:Nat}(hn:n≤1000)(hp:2≤p∧p<100):cQ [N n,N p]=some (.lst ((Ca p n).map N)):=dN ⟨hn,hp⟩
theorem aQi(p n:Nat):(Ca p n).length=n+1:=by unfold Ca;simp
def qK:=nd2 fun p n k=>a9 (B1 (some p) (.left n k)).2
theorem aNo(hG:G aK=some (.int 1000000))(hW:G aH=some (.int (-22)))(h0:F bQ=gN):Computes F G 4 zU qK:=by
 refine cd2 (by decide) fun p n k hp hb hn hk=>⟨0,?_⟩
 unfold zU
 refine aD (s':=[I p,L2 n k,I n,none]) (aI (z:=n) (by w_fin)) (aD (s':=[I p,L2 n k,I n,I k]) (aI (z:=k) (by w_fin)) ?_)
 refine aS (P:=(1000000:Int)<n∨(n:Int)<k) hW ?_ (fun h=>?_) fun h=>?_
 .rw[Bo];exact fD (by w_fin) (by w_fin)
 .exact congrArg a9 (ip (show F3<n∨n<k from by unfold F3;omega))
 .rw[show(B1 (some p) (.left n k)).2=Hz (Ap p n k:Int)from ig (show ¬(F3<n∨n<k)from by unfold F3;omega)]
  have e1:=ap h0 (gD (n:=n) (k:=k) (p:=p) (by omega) (by omega) hb)
  exact fA (by w_fin)
def qP:=nd1 fun p n=>a9 (B1 (some p) (.row n)).2
theorem aJ0(hG:G bP=some (.int 60))(hW:G aH=some (.int (-22)))(h0:F aX=cQ)(h1:F aN=bO):Computes F G 2 uX qP:=by
 refine cd1 (by decide) fun p n hp hb hn=>⟨0,?_⟩
 unfold uX
 refine aS (P:=(60:Int)<n) hW (by w_fin) (fun h=>?_) fun h=>?_
 .exact congrArg a9 (ip (show 60<n from by omega))
 .rw[show(B1 (some p) (.row n)).2=Hk (Ca p n)from ig (show ¬60<n from by omega)]
  have e1:=ap h0 (aDr (n:=n) (p:=p) (by omega) hb)
  exact pO (l:=Ca p n) h1 (by w_fin) (by rw[aQi];omega)
noncomputable def uA:=nd1 fun p n=>a9 (B1 (some p) (.counts n)).2
theorem aNi(hG:G oK=some (.int 100))(hW:G aH=some (.int (-22)))(h0:F aX=cQ):Computes F G 4 zO uA:=by
 refine cd1 (by decide) fun p n hp hb hn=>⟨0,?_⟩
 unfold zO
 refine aS (P:=(100:Int)<n) hW (by w_fin) (fun h=>?_) fun h=>?_
 .exact congrArg a9 (ip (show 100<n from by omega))
 .rw[show(B1 (some p) (.counts n)).2=Hk (E2 p n)from ig (show ¬100<n from by omega)]
  have e1:=ap h0 (aDr (n:=n) (p:=p) (by omega) hb)
  refine aD (s':=[I p,L1 n,some (.lst ((Ca p n).map N),false),none]) (iL (d:=.lst ((Ca p n).map N)) (by w_fin) rfl) ?_
  have e4:Pl.range [N p]=some ((Ab p).map N):=jJ (j:=p) (by omega)
  have e5:evs F G (.cons (.var 0) .nil) (rho [I p,L1 n,some (.lst ((Ca p n).map N),false),none])=some [N p]:=by w_fin
  have e6:ev F G (.lc (.blt .count (.cons (.var 2) (.cons (.var 3) .nil))) (.one 3) (.range (.cons (.var 0) .nil)) .nil) (rho [I p,L1 n,some (.lst ((Ca p n).map N),false),none])=some (.lst ((E2 p n).map N)):=by
   unfold E2
   simp only[]
   rw[Aj]
   refine aCj N _ (Ab p) (cE e5 e4) (by simp[SZ];omega) fun r hr=>⟨[some (N p),some (.lst [N n]),some (.lst ((Ca p n).map N)),some (N r)],rfl,?_⟩
   exact cP (by w_fin) aAa
  have e7:(E2 p n).length=p:=by unfold E2;simp
  have e8:bop .add (.lst [N p]) (.lst ((E2 p n).map N))=some (ai (p:Int) (Kp266.ints (E2 p n))):=by
   rw[nB,ip (by rw[Ag,e7];simp[SZ];omega)]
   unfold ai Kp266.ints
   rw[Ai,Aj];rfl
  have e9:ev F G (.lst (.cons (.var 0) .nil)) (rho [I p,L1 n,some (.lst ((Ca p n).map N),false),none])=some (.lst [N p]):=kG (by w_fin) (show 1≤16777216 by omega)
  have e10:a9 (Hk (E2 p n))=ai (p:Int) (Kp266.ints (E2 p n)):=by unfold a9 Hk;rw[e7];rfl
  rw[e10]
  exact aF (fK (jL e9 e6 e8) rfl gH)
theorem aCr(f p n k:Nat)(g:Slot)(hb:2≤p∧p<100)(hn:n<16777216)(h0:F bQ=gN):∀(l:List Nat)(v w:Slot),(∀j∈l,j<16777216)→
  (match l.find? fun j=>Ap p n j != 0 with
   |some j=>lN (.one 4) (fun e=>run F G f (.cons (.set 5 false (.call bQ (.cons (.var 2) (.cons (.var 4) (.cons (.var 0) .nil))))) (.cons (.ite (.cmp .gt (.var 5) (.int 0)) (.cons (.ret (.lst (.cons (.var 4) (.cons (.var 5) .nil)))) .nil) .nil) .nil)) e) (l.map N) [I p,g,I n,I k,v,w]=some (.ret (ai j [(Ap p n j:Int)]))
   |none=>∃v' w',lN (.one 4) (fun e=>run F G f (.cons (.set 5 false (.call bQ (.cons (.var 2) (.cons (.var 4) (.cons (.var 0) .nil))))) (.cons (.ite (.cmp .gt (.var 5) (.int 0)) (.cons (.ret (.lst (.cons (.var 4) (.cons (.var 5) .nil)))) .nil) .nil) .nil)) e) (l.map N) [I p,g,I n,I k,v,w]=some (.nxt [I p,g,I n,I k,v',w']))
 |[],v,w,_=>⟨v,w,rfl⟩
 |j::l,v,w,h=>by
  have e1:=ap h0 (gD (n:=n) (k:=j) (p:=p) hn (h j (by simp)) hb)
  have t0:ev F G (.cmp .gt (.var 5) (.int 0)) (rho [I p,g,I n,I k,I j,I (Ap p n j:Nat)])=some (.bl (decide ((0:Int)<(Ap p n j:Nat)))):=by w_fin
  rw[show decide ((0:Int)<(Ap p n j:Nat))=(Ap p n j != 0) by rw[C8];simp;omega]at t0
  rw[Fs]
  cases hc:(Ap p n j != 0)with
  |true=>
   rw[hc]at t0
   simp only[]
   rw[Ai]
   exact aAg (e1:=[I p,g,I n,I k,I j,w]) rfl (aD (s':=[I p,g,I n,I k,I j,I (Ap p n j:Nat)]) (aI (z:=(Ap p n j:Nat)) (by w_fin)) (aF (eQ t0 (mU (by w_fin) (by w_fin)))))
  |false=>
   rw[hc]at t0
   simp only[]
   have ih:=aCr f p n k g hb hn h0 l (I j) (I (Ap p n j:Nat)) fun x hx=>h x (by simp[hx])
   rw[Ai,bH (e1:=[I p,g,I n,I k,I j,w]) (e':=[I p,g,I n,I k,I j,I (Ap p n j:Nat)]) rfl (aD (s':=[I p,g,I n,I k,I j,I (Ap p n j:Nat)]) (aI (z:=(Ap p n j:Nat)) (by w_fin)) (aD (eF t0 aR) aR))]
   exact ih
theorem aFt{n k:Nat}(h:k≤n):((Ab (n+1)).filter fun j=>decide (k<j))=(Ab (n+1-(k+1))).map fun t=>k+1+t:=by
 have e:n+1=(k+1)+(n+1-(k+1)):=by omega
 rw[e,D9,El,C4]
 have e1:(Ab (k+1)).filter (fun j=>decide (k<j))=[]:=by
  rw[Jh];intro a ha;have:=Ak.mp ha;simp;omega
 rw[e1,Cq,List.filter_eq_self]
 intro a ha
 obtain⟨t,_,rfl⟩:=Cd.mp ha
 simp;omega
noncomputable def mI:=nd2 fun p n k=>a9 (B1 (some p) (.next n k)).2
theorem aCw(hG:G tE=some (.int 500))(hW:G aH=some (.int (-22)))(hN:G aP=some (.int (-33)))(h0:F bQ=gN):Computes F G 6 oU mI:=by
 refine cd2 (by decide) fun p n k hp hb hn hk=>⟨0,?_⟩
 unfold oU
 refine aD (s':=[I p,L2 n k,I n,none,none,none]) (aI (z:=n) (by w_fin)) (aD (s':=[I p,L2 n k,I n,I k,none,none]) (aI (z:=k) (by w_fin)) ?_)
 refine aS (P:=(500:Int)<n∨(n:Int)<k) hW ?_ (fun h=>?_) fun h=>?_
 .rw[Bo];exact fD (by w_fin) (by w_fin)
 .exact congrArg a9 (ip (show 500<n∨n<k from by omega))
 .rw[show(B1 (some p) (.next n k)).2=(match Kp269.nextOf p n k with
     |some j=>(⟨(j:Int),Kp269.ints [Ap p n j]⟩:Kp269.Ans)
     |none=>Hz (-33))from ig (show ¬(500<n∨n<k)from by omega)]
  have e4:Pl.range [Dat.int ((k:Int)+1),Dat.int ((n:Int)+1)]=some ((Ab (n+1-(k+1))).map fun t=>N (k+1+t)):=oQ (i:=k+1) (j:=n+1) (by omega) (by omega)
  have e5:evs F G (.cons (.bin .add (.var 3) (.int 1)) (.cons (.bin .add (.var 2) (.int 1)) .nil)) (rho [I p,L2 n k,I n,I k,none,none])=some [Dat.int ((k:Int)+1),Dat.int ((n:Int)+1)]:=by w_fin
  have e6:=cE e5 e4
  rw[show((Ab (n+1-(k+1))).map fun t=>N (k+1+t))=((Ab (n+1-(k+1))).map fun t=>k+1+t).map N by rw[Aj];rfl]at e6
  unfold Kp269.nextOf
  rw[aFt (by omega)]
  have hl:=aCr (F:=F) (G:=G) 0 p n k (L2 n k) hb (by omega) h0 ((Ab (n+1-(k+1))).map fun t=>k+1+t) none none (by
   intro j hj
   obtain⟨t,ht,rfl⟩:=Cd.mp hj
   have:=Ak.mp ht
   omega)
  cases hc:((Ab (n+1-(k+1))).map fun t=>k+1+t).find? fun j=>Ap p n j != 0 with
  |some m=>
   rw[hc]at hl
   exact aF (jG e6 rfl hl)
  |none=>
   rw[hc]at hl
   obtain⟨v,w,hv⟩:=hl
   exact aD (jG e6 rfl hv) (oC hN)
theorem aHn:∀f n k,k<2^f→(sub 2 f n k=true↔Lu n k=k)
 |0,n,k,h=>by
  have:k=0:=by simp at h;exact h
  subst this
  simp[sub]
 |f+1,n,k,h=>by
  have ih:=aHn f (n/2) (k/2) (by rw[Cm]at h;omega)
  simp only[sub,Ac,dqe,ih]
  have e1:Lu n k/2=Lu (n/2) (k/2):=Nat.and_div_two
  have e2:Lu n k%2=1↔n%2=1∧k%2=1:=Nat.and_mod_two_eq_one
  rw[←e1]
  omega
theorem aQf{n k:Nat}(hk:k<16777216):(Ap 2 n k:Int)=if Oz n k then 1 else 0:=by
 have h1:=aAi (p:=2) (by decide) (by omega) 24 n k
 have h2:=qG 2 (by omega) 24 n k
 have h3:=aHn 24 n k hk
 unfold Ap Oz
 by_cases h:Lu n k=k
 .rw[ip (beq_iff_eq.mpr h)]
  have:D2 2 24 n k≠0:=fun q=>by rw[h3.mpr h]at h1;simp[q]at h1
  omega
 .rw[ig (fun q=>h (beq_iff_eq.mp q))]
  have:sub 2 24 n k=false:=by
   cases hs:sub 2 24 n k with
   |false=>rfl
   |true=>exact absurd (h3.mp hs) h
  rw[h1.mpr this];rfl
noncomputable def aQj:=nd2 fun p n k=>a9 (B1 (some p) (.odd n k)).2
theorem bAc(hG:G aLs=some (.int 2))(h0:F uF=qK):Computes F G 2 aTs aQj:=by
 refine cd2 (by decide) fun p n k hp hb hn hk=>⟨0,?_⟩
 unfold aTs
 have e1:F uF [.int 2,.lst [N n,N k]]=some (a9 (B1 (some 2) (.left n k)).2):=ap h0 (eV (p:=2) ⟨by decide,hn,hk⟩)
 have e2:a9 (B1 (some 2) (.left n k)).2=a9 (B1 (some p) (.odd n k)).2:=by
  by_cases h:F3<n∨n<k
  .exact(congrArg a9 (ip h)).trans (congrArg a9 (ip h)).symm
  .rw[show(B1 (some 2) (.left n k)).2=Hz (Ap 2 n k:Int)from ig h,show(B1 (some p) (.odd n k)).2=Hz (if Oz n k then 1 else 0)from ig h,aQf (by unfold F3 at h;omega)]
 rw[←e2]
 exact aF (fK (cA (by w_fin) e1) rfl gH)
theorem aDc:∀l:List Nat,(∀d∈l,d<2)→yF l=2^l.sum
 |[],_=>rfl
 |d::l,h=>by
  rw[zA,aDc l fun x hx=>h x (by simp[hx]),Dr,I0]
  have:=h d (by simp)
  have:d=0∨d=1:=by omega
  rcases this with rfl|rfl<;>simp
theorem aJi(n:Nat):Bv 2 n=2^K6 n:=by
 have:Bv 2 n=yF (D4 2 n):=rfl
 rw[this,aDc (D4 2 n) (fun d hd=>aAb (by omega) 24 n d hd)]
 unfold K6 Cr Kp266.sum
 rw[nF,Bw]
noncomputable def aH0:=nd1 fun p n=>a9 (B1 (some p) (.odds n)).2
theorem aWa(hG:G aK=some (.int 1000000))(hG2:G aLs=some (.int 2))(hW:G aH=some (.int (-22)))(h0:F bS=eL)(h1:F bF=cK):Computes F G 3 aKl aH0:=by
 refine cd1 (by decide) fun p n hp hb hn=>⟨0,?_⟩
 unfold aKl
 refine aD (s':=[I p,L1 n,I n]) (aI (z:=n) (by w_fin)) ?_
 refine aS (P:=(1000000:Int)<n) hW (by w_fin) (fun h=>?_) fun h=>?_
 .exact congrArg a9 (ip (show F3<n from by unfold F3;omega))
 .rw[show(B1 (some p) (.odds n)).2=⟨((2^K6 n:Nat):Int),Kp269.ints [K6 n]⟩from ig (show ¬F3<n from by unfold F3;omega),←aJi]
  have e1:F bS [N n,.int 2]=some (N (Bv 2 n)):=ap h0 (gY (n:=n) (p:=2) (by omega) (by omega))
  have e2:F bF [N n,.int 2]=some (N (Cr 2 n)):=ap h1 (jW (n:=n) (p:=2) (by omega) (by omega))
  exact mU (by w_fin) (by w_fin)
theorem aIb{p c d:Nat}(hp:2≤p)(hc:c<p)(hd:d<p):Ap p c d=(Dn p c).getD d 0:=by
 unfold Ap
 rw[hZ p (by omega),rB p (by omega)]
 by_cases h:c=0∧d=0
 .rw[ip h,h.1,h.2];rfl
 .rw[ig h,Aw hc,Aw hd,Dv hd,qF p hp,Gy,Ht]
noncomputable def uC:=nd4 fun p a b c d=>a9 (B1 (some p) (.joined a b c d)).2
theorem aNn(hG:G oM=some (.int 1000))(hW:G aH=some (.int (-22)))(h0:F bQ=gN):Computes F G 7 zT uC:=by
 refine cd4 (by decide) fun p a b c d hp hb ha hb' hc hd=>⟨0,?_⟩
 unfold zT
 refine aD (s':=[I p,L4 a b c d,I a,none,none,none,none]) (aI (z:=a) (by w_fin)) (aD (s':=[I p,L4 a b c d,I a,I b,none,none,none]) (aI (z:=b) (by w_fin)) (aD (s':=[I p,L4 a b c d,I a,I b,I c,none,none]) (aI (z:=c) (by w_fin)) (aD (s':=[I p,L4 a b c d,I a,I b,I c,I d,none]) (aI (z:=d) (by w_fin)) ?_)))
 refine aS (P:=(1000:Int)<a∨(a:Int)<b∨(p:Int)≤c∨(p:Int)≤d) hW ?_ (fun h=>?_) fun h=>?_
 .rw[Bo,Bo,Bo];exact fD (by w_fin) (fD (by w_fin) (fD (by w_fin) (by w_fin)))
 .exact congrArg a9 (ip (show 1000<a∨a<b∨p≤c∨p≤d from by omega))
 .rw[show(B1 (some p) (.joined a b c d)).2=⟨(Kp269.joined p a b c d:Int),Kp269.ints [Ap p a b,(Dn p c).getD d 0]⟩from ig (show ¬(1000<a∨a<b∨p≤c∨p≤d)from by omega),←aIb hb.1 (by omega) (by omega)]
  have b1:a*p≤1000*100:=Nat.mul_le_mul (by omega) (by omega)
  have b2:b*p≤1000*100:=Nat.mul_le_mul (by omega) (by omega)
  have m1:bop .mul (N a) (N p)=some (N (a*p)):=dO (.inr (by omega))
  have m2:bop .mul (N b) (N p)=some (N (b*p)):=dO (.inr (by omega))
  have e1:F bQ [.int ((a*p:Nat)+(c:Int)),.int ((b*p:Nat)+(d:Int)),N p]=some (N (Ap p (a*p+c) (b*p+d))):=ap h0 (gD (n:=a*p+c) (k:=b*p+d) (p:=p) (by omega) (by omega) hb)
  have e2:=ap h0 (gD (n:=a) (k:=b) (p:=p) (by omega) (by omega) hb)
  have e3:=ap h0 (gD (n:=c) (k:=d) (p:=p) (by omega) (by omega) hb)
  refine aD (s':=[I p,L4 a b c d,I a,I b,I c,I d,I (Ap p (a*p+c) (b*p+d):Nat)]) (aI (z:=(Ap p (a*p+c) (b*p+d):Nat)) (by w_fin)) ?_
  exact sQ (by w_fin) (by w_fin) (by w_fin)
theorem aGl(p:Nat)(hp:0<p):∀(l:List Nat)(a:Nat),a<p→l.foldl (fun(a v:Nat)=>(a+v)%p) a=(a+l.sum)%p
 |[],a,h=>by simp[Aw h]
 |x::l,a,h=>by
  rw[Cp,aGl p hp l _ (Bx _ hp),Dr,Nat.mod_add_mod,Gk]
def qQ:=nd1 fun p n=>a9 (B1 (some p) (.sum n)).2
theorem aJ3(hG:G bU=some (.int 200))(hW:G aH=some (.int (-22)))(h0:F aX=cQ):Computes F G 2 vA qQ:=by
 refine cd1 (by decide) fun p n hp hb hn=>⟨0,?_⟩
 unfold vA
 refine aS (P:=(200:Int)<n) hW (by w_fin) (fun h=>?_) fun h=>?_
 .exact congrArg a9 (ip (show 200<n from by omega))
 .rw[show(B1 (some p) (.sum n)).2=Hz (Kp269.sumRow p n:Int)from ig (show ¬200<n from by omega)]
  have e1:=ap h0 (aDr (n:=n) (p:=p) (by omega) hb)
  have e2:=aBx (l:=Ca p n)
  have e3:bop .mod (N (Ca p n).sum) (N p)=some (N ((Ca p n).sum%p)):=cG (by omega)
  unfold Kp269.sumRow
  rw[aGl p (by omega) _ 0 (by omega),Bw]
  exact fA (by w_fin)
noncomputable def alt:List Int→Int
 |[]=>0
 |a::l=>a-alt l
theorem aLn(a:Int)(l:List Int):(evry (a::l)).sum=a+(evry (l.drop 1)).sum:=by
 cases l with
 |nil=>simp[evry]
 |cons b r=>simp[evry]
theorem aGh:∀l:List Int,(evry l).sum-(evry (l.drop 1)).sum=alt l
 |[]=>by simp[evry,alt]
 |a::l=>by
  have ih:=aGh l
  rw[aLn]
  simp only[List.drop_one,Mx]at ih ⊢
  unfold alt
  omega
theorem aG3:∀(l:List Int)(x:Int),alt (l++[x])=alt l+if l.length%2=0 then x else -x
 |[],x=>by simp[alt]
 |a::l,x=>by
  show a-alt (l++[x])=a-alt l+_
  rw[aG3 l x,Ar]
  by_cases h:l.length%2=0
  .rw[ip h,ig (by omega)];omega
  .rw[ig h,ip (by omega)];omega
theorem zE(p:Nat)(hp:0<p)(g:Nat→Nat)(hg:∀k,g k<p):∀n,(((Ab n).foldl (fun(a k:Nat)=>if k%2=0 then(a+g k)%p else(a+(p-g k))%p) 0:Nat):Int)%p=alt (((Ab n).map g).map fun(x:Nat)=>(x:Int))%p
 |0=>by simp[alt]
 |n+1=>by
  have ih:=zE p hp g hg n
  rw[B5,Iu,A7,A7,Dq,Dq,aG3,Ag,Ag,Bj,Cp,List.foldl_nil]
  generalize (Ab n).foldl (fun(a k:Nat)=>if k%2=0 then(a+g k)%p else(a+(p-g k))%p) 0=A at ih ⊢
  generalize alt (((Ab n).map g).map fun(x:Nat)=>(x:Int))=B at ih ⊢
  by_cases h:n%2=0
  .rw[ip h,ip h,Je,Int.emod_emod,Ei,J1,ih,←J1]
  .rw[ig h,ig h,Je,Int.emod_emod,Ei,D1 (Ji (hg n))]
   rw[show(A:Int)+((p:Int)-(g n:Int))=(A:Int)+-(g n:Int)+p by omega,Int.add_emod_right,J1,ih,←J1]
theorem aOy{l:List Nat}{i:Nat}:blt .step2 [.lst (l.map N),N i]=some (.lst ((evry ((l.map fun(x:Nat)=>(x:Int)).drop i)).map Dat.int)):=by
 rw[aKw,ip (by omega),vV,Bt,B8]
theorem aP0{l:List Int}:blt .sum [.lst (l.map Dat.int)]=some (.int l.sum):=by
 rw[aEf,aQc,Bt]
def mO:=nd1 fun p n=>a9 (B1 (some p) (.turns n)).2
theorem aD2(hG:G bU=some (.int 200))(hW:G aH=some (.int (-22)))(h0:F aX=cQ):Computes F G 3 pA mO:=by
 refine cd1 (by decide) fun p n hp hb hn=>⟨0,?_⟩
 unfold pA
 refine aS (P:=(200:Int)<n) hW (by w_fin) (fun h=>?_) fun h=>?_
 .exact congrArg a9 (ip (show 200<n from by omega))
 .rw[show(B1 (some p) (.turns n)).2=Hz (L5 p n:Int)from ig (show ¬200<n from by omega)]
  have e1:=ap h0 (aDr (n:=n) (p:=p) (by omega) hb)
  refine aD (s':=[I p,L1 n,some (.lst ((Ca p n).map N),false)]) (iL (d:=.lst ((Ca p n).map N)) (by w_fin) rfl) ?_
  have e2:blt .step2 [.lst ((Ca p n).map N),.int 0]=_:=aOy (l:=Ca p n) (i:=0)
  have e3:blt .step2 [.lst ((Ca p n).map N),.int 1]=_:=aOy (l:=Ca p n) (i:=1)
  rw[List.drop_zero]at e2
  have e4:=aP0 (l:=evry ((Ca p n).map fun(x:Nat)=>(x:Int)))
  have e5:=aP0 (l:=evry (((Ca p n).map fun(x:Nat)=>(x:Int)).drop 1))
  have e6:((L5 p n:Nat):Int)=((evry ((Ca p n).map fun(x:Nat)=>(x:Int))).sum-(evry (((Ca p n).map fun(x:Nat)=>(x:Int)).drop 1)).sum)%(p:Int):=by
   rw[aGh]
   unfold L5 Ca
   rw[Je,zE p (by omega) (Ap p n) (fun k=>qG p (by omega) _ _ _)]
  rw[e6]
  refine fA (jL (jL (cP (aG (cP (by w_fin) e2) aE) e4) (cP (aG (cP (by w_fin) e3) aE) e5) hJ) (by w_fin) (aL5 (by omega)))
theorem xN(f g:Nat→Dat):∀(a b:Nat),aDq ((Ab a).map f) ((Ab b).map g)=(Ab (min a b)).map fun k=>.tup [f k,g k]:=by
 intro a
 induction a generalizing f g with
 |zero=>intro b;simp[aDq]
 |succ a ih=>
  intro b
  cases b with
  |zero=>simp[aDq]
  |succ b=>
   rw[Av,Av,K7,Av]
   simp only[Ai,Aj,aDq,ih]
   rfl
theorem xF(f p:Nat)(g:Slot)(x y:Nat→Nat):∀(l:List Nat)(a:Nat)(v w:Slot),∃v' w',
  lN (.two 3 4) (fun e=>run F G f (.cons (.ite (.cmp .eq (.var 3) (.var 4)) (.cons (.aug 2 .add (.int 1)) .nil) .nil) .nil) e) (l.map fun k=>.tup [N (x k),N (y k)]) [I p,g,I a,v,w]=some (.nxt [I p,g,I (a+(l.filter fun k=>x k==y k).length:Nat),v',w'])
 |[],a,v,w=>⟨v,w,rfl⟩
 |k::l,a,v,w=>by
  have t0:ev F G (.cmp .eq (.var 3) (.var 4)) (rho [I p,g,I a,I (x k),I (y k)])=some (.bl (decide ((x k:Int)=(y k:Int)))):=by w_fin
  rw[jF]at t0
  cases hc:(x k==y k)with
  |true=>
   rw[hc]at t0
   obtain⟨v',w',ih⟩:=xF f p g x y l (a+1) (I (x k)) (I (y k))
   refine⟨v',w',?_⟩
   rw[Ai,bH (e1:=[I p,g,I a,I (x k),I (y k)]) (e':=[I p,g,I ((a+1:Nat):Int),I (x k),I (y k)]) rfl (aD (eQ t0 (aM (qZ (x:=a) (z:=1) rfl bJ fB))) aR),ih,D6,hc,ip rfl,Ar]
   rw[Gk,Fq 1]
  |false=>
   rw[hc]at t0
   obtain⟨v',w',ih⟩:=xF f p g x y l a (I (x k)) (I (y k))
   refine⟨v',w',?_⟩
   rw[Ai,bH (e1:=[I p,g,I a,I (x k),I (y k)]) (e':=[I p,g,I a,I (x k),I (y k)]) rfl (aD (eF t0 aR) aR),ih,D6,hc]
   rfl
def aH2:=nd2 fun p n m=>a9 (B1 (some p) (.same n m)).2
theorem aWc(hG:G bP=some (.int 60))(hW:G aH=some (.int (-22)))(h0:F aX=cQ):Computes F G 5 aKn aH2:=by
 refine cd2 (by decide) fun p n m hp hb hn hm=>⟨0,?_⟩
 unfold aKn
 have e0:=aZb (a:=n) (b:=m)
 refine aS (P:=(60:Int)<(max n m:Nat)) hW (by w_fin) (fun h=>?_) fun h=>?_
 .exact congrArg a9 (ip (show 60<n∨60<m from by omega))
 .rw[show(B1 (some p) (.same n m)).2=Hz (((Ab (min n m+1)).filter fun k=>Ap p n k==Ap p m k).length:Int)from ig (show ¬(60<n∨60<m)from by omega)]
  have e1:=ap h0 (aDr (n:=n) (p:=p) (by omega) hb)
  have e2:=ap h0 (aDr (n:=m) (p:=p) (by omega) hb)
  refine aD (s':=[I p,L2 n m,I 0,none,none]) (aI (z:=0) bJ) ?_
  have e3:items F G (.zip (.call aX (.cons (.idx (.var 1) (.int 0)) (.cons (.var 0) .nil))) (.call aX (.cons (.idx (.var 1) (.int 1)) (.cons (.var 0) .nil)))) (rho [I p,L2 n m,I 0,none,none])=_:=aUd (l:=(Ca p n).map N) (m:=(Ca p m).map N) (by w_fin) (by w_fin)
  unfold Ca at e3
  rw[Aj,Aj,xN,K7]at e3
  obtain⟨v,w,hl⟩:=xF (F:=F) (G:=G) 0 p (L2 n m) (Ap p n) (Ap p m) (Ab (min n m+1)) 0 none none
  rw[Bw]at hl
  refine aD (jG e3 rfl hl) (fA (by w_fin))
noncomputable def bCf:=nd2 fun p n q=>a9 (B1 (some p) (.by_ n q)).2
theorem rF{n:Nat}(h:n<4294967296):iB [N n]=some (.bl (Ba n)):=gQ h
theorem lK{q:Nat}(h:Ba q=true):Bh q=true:=by
 unfold Ba at h;simp only[Ac]at h;exact h.2
theorem bDo(hG:G bU=some (.int 200))(hW:G aH=some (.int (-22)))(h0:F cX=iB)(h1:F bS=eL):Computes F G 4 bCv bCf:=by
 refine cd2 (by decide) fun p n q hp hb hn hq=>⟨0,?_⟩
 unfold bCv
 refine aD (s':=[I p,L2 n q,I n,none]) (aI (z:=n) (by w_fin)) (aD (s':=[I p,L2 n q,I n,I q]) (aI (z:=q) (by w_fin)) ?_)
 have e0:=ap h0 (rF hq)
 refine aS (P:=(200:Int)<n∨Ba q=false) hW ?_ (fun h=>?_) fun h=>?_
 .rw[Bo,show decide (Ba q=false)=!Ba q by cases Ba q<;>rfl];exact fD (by w_fin) (by w_fin)
 .exact congrArg a9 (ip (show 200<n∨Ba q=false from h.imp (fun h=>by omega) id))
 .have hh:¬(200<n∨Ba q=false):=fun q=>h (q.imp (fun h=>by omega) id)
  rw[show(B1 (some p) (.by_ n q)).2=Hz (((Ab (n+1)).filter fun k=>Ap q n k != 0).length:Int)from ig hh]
  have hq':Ba q=true:=by cases hc:Ba q with
   |true=>rfl
   |false=>exact absurd (.inr hc) hh
  have hb':=nQ hq'
  have e1:=ap h1 (gY (n:=n) (p:=q) (by omega) hb')
  rw[aI1 (lK hq') hb'.1 (by omega)]
  exact fA (by w_fin)
noncomputable def aB5:=nd2 fun p n r=>a9 (B1 (some p) (.which n r)).2
theorem aRj(hG:G bP=some (.int 60))(hW:G aH=some (.int (-22)))(h0:F aX=cQ)(h1:F aN=bO):Computes F G 6 aEa aB5:=by
 refine cd2 (by decide) fun p n r hp hb hn hr=>⟨0,?_⟩
 unfold aEa
 refine aD (s':=[I p,L2 n r,I n,none,none,none]) (aI (z:=n) (by w_fin)) (aD (s':=[I p,L2 n r,I n,I r,none,none]) (aI (z:=r) (by w_fin)) ?_)
 refine aS (P:=(60:Int)<n∨(p:Int)≤r) hW ?_ (fun h=>?_) fun h=>?_
 .rw[Bo];exact fD (by w_fin) (by w_fin)
 .exact congrArg a9 (ip (show 60<n∨p≤r from by omega))
 .rw[show(B1 (some p) (.which n r)).2=Hk ((Ab (n+1)).filter fun k=>Ap p n k==r)from ig (show ¬(60<n∨p≤r)from by omega)]
  have e1:=ap h0 (aDr (n:=n) (p:=p) (by omega) hb)
  have e2:ev F G (.call aX (.cons (.var 2) (.cons (.var 0) .nil))) (rho [I p,L2 n r,I n,I r,none,none])=some (.lst ((Ca p n).map N)):=by w_fin
  have e3:=vU e2
  unfold Ca at e3
  rw[Aj,jV]at e3
  refine pO (l:=(Ab (n+1)).filter fun k=>Ap p n k==r) h1 ?_ ?_
  .refine rT _ (fun k=>Ap p n k==r) N _ e3 (by simp[SZ];omega) fun k hk=>⟨[some (N p),some (.lst [N n,N r]),some (N n),some (N r),some (N (0+k)),some (N (Ap p n k))],rfl,?_,fun _=>?_⟩
   .rw[←jF];w_fin
   .rw[Bw];w_fin
  .exact B9 (Br _ _) (by rw[Bj];omega)
def aB3:=nd2 fun p n k=>a9 (B1 (some p) (.down n k)).2
theorem aRi(hG:G qC=some (.int 1000))(hW:G aH=some (.int (-22)))(h0:F bQ=gN):Computes F G 4 aE9 aB3:=by
 refine cd2 (by decide) fun p n k hp hb hn hk=>⟨0,?_⟩
 unfold aE9
 refine aD (s':=[I p,L2 n k,I n,none]) (aI (z:=n) (by w_fin)) (aD (s':=[I p,L2 n k,I n,I k]) (aI (z:=k) (by w_fin)) ?_)
 refine aS (P:=(1000:Int)<n∨(n:Int)<k) hW ?_ (fun h=>?_) fun h=>?_
 .rw[Bo];exact fD (by w_fin) (by w_fin)
 .exact congrArg a9 (ip (show 1000<n∨n<k from by omega))
 .rw[show(B1 (some p) (.down n k)).2=⟨(Ap p (n+1) k:Int),Kp269.ints [Ap p (n+1) (k+1),Ap p (n+2) (k+1)]⟩from ig (show ¬(1000<n∨n<k)from by omega)]
  have e1:F bQ [.int ((n:Int)+1),N k,N p]=some (N (Ap p (n+1) k)):=ap h0 (gD (n:=n+1) (k:=k) (p:=p) (by omega) (by omega) hb)
  have e2:F bQ [.int ((n:Int)+1),.int ((k:Int)+1),N p]=some (N (Ap p (n+1) (k+1))):=ap h0 (gD (n:=n+1) (k:=k+1) (p:=p) (by omega) (by omega) hb)
  have e3:F bQ [.int ((n:Int)+2),.int ((k:Int)+1),N p]=some (N (Ap p (n+2) (k+1))):=ap h0 (gD (n:=n+2) (k:=k+1) (p:=p) (by omega) (by omega) hb)
  exact sQ (by w_fin) (by w_fin) (by w_fin)
end
def nr0(v:Nat→Dat):List Dat→Option Dat:=wo eD (fun z=>z.1≤24∧z.2=[]) fun z=>v z.1
def nr1(v:Nat→Nat→Dat):List Dat→Option Dat:=wo eD (fun z=>z.1≤24∧∃a,z.2=[a]∧a<B32) fun z=>v z.1 (z.2.getD 0 0)
def nr2(v:Nat→Nat→Nat→Dat):List Dat→Option Dat:=wo eD (fun z=>z.1≤24∧∃a b,z.2=[a,b]∧a<B32∧b<B32) fun z=>v z.1 (z.2.getD 0 0) (z.2.getD 1 0)
theorem sG{v}{n:Nat}(h:n≤24):nr0 v [N n,.lst []]=some (v n):=gU (a:=(n,[])) aU4 ⟨h,rfl⟩
theorem mP{v}{n a:Nat}(h:n≤24∧a<B32):nr1 v [N n,.lst [N a]]=some (v n a):=gU (a:=(n,[a])) aU4 ⟨h.1,_,rfl,h.2⟩
theorem aVj{v}{n a b:Nat}(h:n≤24∧a<B32∧b<B32):nr2 v [N n,.lst [N a,N b]]=some (v n a b):=gU (a:=(n,[a,b])) aU4 ⟨h.1,_,_,rfl,h.2⟩
def nl(P:List Nat→Prop)(v:List Nat→Dat):List Dat→Option Dat:=wo (fun l=>[.lst (l.map N)]) P v
theorem aCs{P v}{l:List Nat}(h:P l):nl P v [.lst (l.map N)]=some (v l):=gU (a:=l) (fun b _ h=>nj (Dat.lst.inj (Dk.inj h).1)) h
section
variable{F:Nat→List Dat→Option Dat}{G:Nat→Option Dat}
theorem cr0{v s b}(hs:2≤s)(h:∀n:Nat,n≤24→∃fuel,run F G fuel b (I n::some (.lst [],false)::A8 (s-2) none)=some (.ret (v n))):Computes F G s b (nr0 v):=by
 intro args d e
 obtain⟨⟨n,l⟩,rfl,⟨hp,rfl⟩,rfl⟩:=gC e
 exact⟨hs,h _ hp⟩
theorem cr1{v s b}(hs:2≤s)(h:∀n a:Nat,n≤24→a<B32→∃fuel,run F G fuel b (I n::L1 a::A8 (s-2) none)=some (.ret (v n a))):Computes F G s b (nr1 v):=by
 intro args d e
 obtain⟨⟨n,l⟩,rfl,⟨hp,x,rfl,hx⟩,rfl⟩:=gC e
 exact⟨hs,h _ _ hp hx⟩
theorem cr2{v s b}(hs:2≤s)(h:∀n a c:Nat,n≤24→a<B32→c<B32→∃fuel,run F G fuel b (I n::L2 a c::A8 (s-2) none)=some (.ret (v n a c))):Computes F G s b (nr2 v):=by
 intro args d e
 obtain⟨⟨n,l⟩,rfl,⟨hp,x,y,rfl,hx,hy⟩,rfl⟩:=gC e
 exact⟨hs,h _ _ _ hp hx hy⟩
theorem cl{P v s b}(hs:1≤s)(h:∀l:List Nat,P l→∃fuel,run F G fuel b (some (.lst (l.map N),false)::A8 (s-1) none)=some (.ret (v l))):Computes F G s b (nl P v):=by
 intro args d e
 obtain⟨l,rfl,hp,rfl⟩:=gC e
 exact⟨hs,h _ hp⟩
theorem aQ3{a:Tm}{lo hi:Tms}{r:Rho}{l x y:List Dat}{lo' hi':Option Int}(ha:ev F G a r=some (.lst l))(hl:evs F G lo r=some x)(hh:evs F G hi r=some y)(pl:part x=some lo')(ph:part y=some hi'):ev F G (.slc a lo hi) r=some (.lst (cut l lo' hi')):=by
 rw[aYr,ha,hl,hh,Af,Af,Af,pl,ph];rfl
theorem yP{r:Rho}:ev F G (.neg (.int 1)) r=some (.int (-1)):=by rw[aYo,bJ];rfl
theorem aCg{l:List Dat}{k:Nat}(hk:k≤l.length)(h1:1≤l.length):cut l (some (k:Int)) (some (-1))=(l.drop k).take (l.length-1-k):=by
 have e1:sIx l.length 0 (some (k:Int))=k:=by
  show(if(k:Int)<0 then((k:Int)+l.length).toNat else min (k:Int).toNat l.length)=k
  rw[ig (by omega),B8];omega
 have e2:sIx l.length l.length (some (-1))=l.length-1:=by
  show(if(-1:Int)<0 then((-1:Int)+l.length).toNat else min (-1:Int).toNat l.length)=_
  rw[ip (by omega)];omega
 unfold cut;rw[e1,e2]
theorem aSl{l:List Dat}{k:Nat}(hk:k≤l.length):cut l none (some (k:Int))=l.take k:=by
 have e1:sIx l.length 0 none=0:=rfl
 have e2:sIx l.length l.length (some (k:Int))=k:=by
  show(if(k:Int)<0 then((k:Int)+l.length).toNat else min (k:Int).toNat l.length)=k
  rw[ig (by omega),B8];omega
 unfold cut;rw[e1,e2];rfl
def iQ:=nn1 (fun n=>n≤1000) fun n=>.lst (((Ab (n+1)).map (C n)).map N)
theorem aNu(h0:F aB=aO):Computes F G 2 aA0 iQ:=by
 refine aCc (by decide) fun n h=>⟨0,?_⟩
 unfold aA0
 have e4:Pl.range [Dat.int ((n:Int)+1)]=some ((Ab (n+1)).map N):=jJ (j:=n+1) (by omega)
 have e5:evs F G (.cons (.bin .add (.var 0) (.int 1)) .nil) (rho [I n,none])=some [Dat.int ((n:Int)+1)]:=by w_fin
 refine aF (fK ?_ rfl mE)
 rw[Aj]
 refine aCj N _ (Ab (n+1)) (cE e5 e4) (by simp[SZ];omega) fun a ha=>⟨[some (N n),some (N a)],rfl,?_⟩
 have e1:=ap h0 (aT (n:=n) (k:=a) (by omega))
 exact cA (by w_fin) e1
theorem lP{n:Nat}(h:n≤1000):iQ [N n]=some (.lst (((Ab (n+1)).map (C n)).map N)):=gQ h
theorem aQ7(f:Nat):∀(fuel a b:Nat)(v:Slot),b<fuel→∃v',
  lE (fun e=>tst F G (.cmp .gt (.var 1) (.int 0)) (rho e)) (fun e=>run F G f (.cons (.set 2 false (.bin .mod (.var 0) (.var 1))) (.cons (.set 0 false (.var 1)) (.cons (.set 1 false (.var 2)) .nil))) e) fuel [I a,I b,v]=some (.nxt [I (B3 a b:Nat),I 0,v']):=by
 intro fuel
 induction fuel with
 |zero=>intro a b v h;omega
 |succ fuel ih=>
  intro a b v h
  by_cases hz:b=0
  .subst hz
   refine⟨v,?_⟩
   have t0:tst F G (.cmp .gt (.var 1) (.int 0)) (rho [I a,I 0,v])=some false:=aS5 (by w_fin)
   rw[Nat.gcd_zero_right]
   exact iY t0
  .have t0:tst F G (.cmp .gt (.var 1) (.int 0)) (rho [I a,I b,v])=some true:=by
    have:ev F G (.cmp .gt (.var 1) (.int 0)) (rho [I a,I b,v])=some (.bl (decide ((0:Int)<b))):=by w_fin
    rw[det (by omega)]at this
    exact aS5 this
   have e1:bop .mod (N a) (N b)=some (N (a%b)):=cG (by omega)
   have hm:=Bx a (show 0<b by omega)
   obtain⟨v',hx⟩:=ih b (a%b) (I (a%b:Nat)) (by omega)
   refine⟨v',?_⟩
   rw[fT (e':=[I b,I (a%b:Nat),I (a%b:Nat)]) t0
    (aD (s':=[I a,I b,I (a%b:Nat)]) (aI (z:=(a%b:Nat)) (by w_fin)) (aD (s':=[I b,I b,I (a%b:Nat)]) (aI (z:=b) (by w_fin)) (aD (s':=[I b,I (a%b:Nat),I (a%b:Nat)]) (aI (z:=(a%b:Nat)) (by w_fin)) aR))),hx,
    J2 a b,Nat.gcd_rec b a,J2]
def bK:=nn2 (fun _ _=>True) fun a b=>N (B3 a b)
theorem sJ:Computes F G 3 jC bK:=by
 refine pF (by decide) fun a b _=>⟨b+1,?_⟩
 unfold jC
 obtain⟨v,hx⟩:=aQ7 (F:=F) (G:=G) (b+1) (b+1) a b none (by omega)
 exact aD (aBk.trans hx) (aF (eB (by w_fin) rfl))
theorem aK0{a b:Nat}:bK [N a,N b]=some (N (B3 a b)):=dN trivial
theorem aLt(f:Nat)(g:Slot)(h0:F aQ=bK):∀(l:List Nat)(a:Nat)(v:Slot),∃v',
  lN (.one 2) (fun e=>run F G f (.cons (.set 1 false (.call aQ (.cons (.var 2) (.cons (.var 1) .nil)))) .nil) e) (l.map N) [g,I a,v]=some (.nxt [g,I (l.foldl (fun(a b:Nat)=>B3 a b) a:Nat),v'])
 |[],a,v=>⟨v,rfl⟩
 |x::l,a,v=>by
  obtain⟨v',ih⟩:=aLt f g h0 l (B3 a x) (I x)
  refine⟨v',?_⟩
  have e1:=ap h0 (aK0 (a:=x) (b:=a))
  rw[J2]at e1
  rw[Ai,bH (e1:=[g,I a,I x]) (e':=[g,I (B3 a x:Nat),I x]) rfl (aM (aI (z:=(B3 a x:Nat)) (by w_fin))),ih]
  rfl
def dC:=nl (fun _=>True) fun l=>N (Kp270.gcdAll l)
theorem pL(h0:F aQ=bK):Computes F G 3 gE dC:=by
 refine cl (by decide) fun l _=>⟨0,?_⟩
 unfold gE
 obtain⟨v,hl⟩:=aLt (F:=F) (G:=G) 0 (some (.lst (l.map N),false)) h0 l 0 none
 have e1:ev F G (.var 0) (rho [some (.lst (l.map N),false),I 0,none])=some (.lst (l.map N)):=by w_fin
 exact aD (s':=[some (.lst (l.map N),false),I 0,none]) (aI (z:=0) bJ) (aD (jG (aGp e1) rfl hl) (aF (eB (by w_fin) rfl)))
theorem bCr{l:List Nat}:dC [.lst (l.map N)]=some (N (Kp270.gcdAll l)):=aCs trivial
theorem aUk(a x:Nat)(hx:0<x):a/B3 a x*x=K8 a x:=by
 unfold K8
 have hg:0<B3 a x:=Gf _ hx
 obtain⟨t,ht⟩:=Ha a x
 generalize hG:B3 a x=g at hg ht
 subst ht
 rw[E5 _ hg,Iy,E5 _ hg]
theorem aMd(f:Nat)(g:Slot)(h0:F aQ=bK):∀(l:List Nat)(a:Nat)(v:Slot),(∀x∈l,0<x∧x<1073741824)→∃v',
  lN (.one 2) (fun e=>run F G f (.cons (.set 1 false (.bin .mul (.bin .fdiv (.var 1) (.call aQ (.cons (.var 2) (.cons (.var 1) .nil)))) (.var 2))) .nil) e) (l.map N) [g,I a,v]=some (.nxt [g,I (l.foldl (fun(a b:Nat)=>K8 a b) a:Nat),v'])
 |[],a,v,_=>⟨v,rfl⟩
 |x::l,a,v,h=>by
  obtain⟨v',ih⟩:=aMd f g h0 l (K8 a x) (I x) fun y hy=>h y (by simp[hy])
  refine⟨v',?_⟩
  have hx:=h x (by simp)
  have e1:=ap h0 (aK0 (a:=x) (b:=a))
  rw[J2]at e1
  have hg:0<B3 a x:=Gf _ hx.1
  have hg2:B3 a x≤x:=Hj hx.1 (K3 a x)
  have e2:bop .fdiv (N a) (N (B3 a x))=some (N (a/B3 a x)):=bT hg (by omega)
  have e3:bop .mul (N (a/B3 a x)) (N x)=some (N (K8 a x)):=by rw[←aUk a x hx.1];exact dO (.inr (by omega))
  rw[Ai,bH (e1:=[g,I a,I x]) (e':=[g,I (K8 a x:Nat),I x]) rfl (aM (aI (z:=(K8 a x:Nat)) (by w_fin))),ih]
  rfl
def fW:=nl (fun l=>∀x∈l,0<x∧x<1073741824) fun l=>N (Lj l)
theorem sK(h0:F aQ=bK):Computes F G 3 jD fW:=by
 refine cl (by decide) fun l h=>⟨0,?_⟩
 unfold jD
 obtain⟨v,hl⟩:=aMd (F:=F) (G:=G) 0 (some (.lst (l.map N),false)) h0 l 1 none h
 have e1:ev F G (.var 0) (rho [some (.lst (l.map N),false),I 1,none])=some (.lst (l.map N)):=by w_fin
 exact aD (s':=[some (.lst (l.map N),false),I 1,none]) (aI (z:=1) bJ) (aD (jG (aGp e1) rfl hl) (aF (eB (by w_fin) rfl)))
theorem aMp(f:Nat)(g:Slot):∀(l:List Nat)(a:Nat)(v:Slot),(∀x∈l,x<1073741824)→∃v',
  lN (.one 2) (fun e=>run F G f (.cons (.set 1 false (.bin .mul (.var 1) (.var 2))) .nil) e) (l.map N) [g,I a,v]=some (.nxt [g,I (l.foldl (fun(a b:Nat)=>a*b) a:Nat),v'])
 |[],a,v,_=>⟨v,rfl⟩
 |x::l,a,v,h=>by
  obtain⟨v',ih⟩:=aMp f g l (a*x) (I x) fun y hy=>h y (by simp[hy])
  refine⟨v',?_⟩
  have hx:=h x (by simp)
  have e3:bop .mul (N a) (N x)=some (N (a*x)):=dO (.inr (by omega))
  rw[Ai,bH (e1:=[g,I a,I x]) (e':=[g,I (a*x:Nat),I x]) rfl (aM (aI (z:=(a*x:Nat)) (by w_fin))),ih]
  rfl
def nN:=nl (fun l=>∀x∈l,x<1073741824) fun l=>N (l.foldl (fun(a b:Nat)=>a*b) 1)
theorem aBf:Computes F G 3 mX nN:=by
 refine cl (by decide) fun l h=>⟨0,?_⟩
 unfold mX
 obtain⟨v,hl⟩:=aMp (F:=F) (G:=G) 0 (some (.lst (l.map N),false)) l 1 none h
 have e1:ev F G (.var 0) (rho [some (.lst (l.map N),false),I 1,none])=some (.lst (l.map N)):=by w_fin
 exact aD (s':=[some (.lst (l.map N),false),I 1,none]) (aI (z:=1) bJ) (aD (jG (aGp e1) rfl hl) (aF (eB (by w_fin) rfl)))
def jO:=nn1 (fun n=>2≤n∧n≤24) fun n=>N (C3 n)
theorem aQb{n:Nat}(h:2≤n):Kk n=(((Ab (n+1)).map (C n)).drop 1).take (n+1-1-1):=by
 unfold Kk
 rw[aHj,G7]
 congr 1
 simp
theorem xX(h0:F cJ=iQ)(h1:F dF=dC):Computes F G 1 lU jO:=by
 refine aCc (by decide) fun n h=>⟨0,?_⟩
 unfold lU
 have e1:=ap h0 (lP (n:=n) (by omega))
 have e2:ev F G (.call cJ (.cons (.var 0) .nil)) (rho [I n])=some (.lst (((Ab (n+1)).map (C n)).map N)):=by w_fin
 have e3:ev F G (.slc (.call cJ (.cons (.var 0) .nil)) (.cons (.int 1) .nil) (.cons (.neg (.int 1)) .nil)) (rho [I n])=some (.lst ((Kk n).map N)):=by
  have:=aQ3 e2 (aG bJ aE) (aG yP aE) (oB (i:=1)) (oB (i:=-1))
  rw[this,aQb h.1]
  have c:=aCg (l:=((Ab (n+1)).map (C n)).map N) (k:=1) (by simp) (by simp)
  rw[show((1:Nat):Int)=1 from rfl]at c
  rw[c,Ag,Ag,Bj,←Kr,←Fy]
 have e4:=ap h1 (bCr (l:=Kk n))
 exact aF (eB (cA (aG e3 aE) e4) rfl)
def gL:=nn2 (fun _ _=>True) fun n k=>.bl (decide (k=0∨n≤k))
theorem xY:Computes F G 2 lV gL:=by
 refine pF (by decide) fun n k _=>⟨0,?_⟩
 unfold lV
 rw[show decide (k=0∨n≤k)=(decide ((k:Int)<1)||decide ((n:Int)≤k)) by rw[←Bo];congr 1;exact propext ⟨fun h=>by omega,fun h=>by omega⟩]
 exact aF (eB (fD (by w_fin) (by w_fin)) rfl)
def iT:=nn2 (fun n k=>1≤k∧k<n∧n≤24) fun n k=>.lst ([C (n-1) (k-1),C n (k+1),C (n+1) k].map N)
theorem wX(h0:F aB=aO):Computes F G 2 lC iT:=by
 refine pF (by decide) fun n k h=>⟨0,?_⟩
 unfold lC
 have e1:F aB [.int ((n:Int)-1),.int ((k:Int)-1)]=some (N (C (n-1) (k-1))):=by
  rw[show(n:Int)-1=((n-1:Nat):Int) by omega,show(k:Int)-1=((k-1:Nat):Int) by omega];exact ap h0 (aT (by omega))
 have e2:F aB [N n,.int ((k:Int)+1)]=some (N (C n (k+1))):=ap h0 (aT (n:=n) (k:=k+1) (by omega))
 have e3:F aB [.int ((n:Int)+1),N k]=some (N (C (n+1) k)):=ap h0 (aT (n:=n+1) (k:=k) (by omega))
 exact aF (aBq (ds:=[N (C (n-1) (k-1)),N (C n (k+1)),N (C (n+1) k)]) (by w_fin) (show 3≤16777216 by omega) rfl)
def gO:=nn2 (fun n k=>1≤k∧k<n∧n≤24) fun n k=>.lst ([C (n-1) k,C (n+1) (k+1),C n (k-1)].map N)
theorem tS(h0:F aB=aO):Computes F G 2 jZ gO:=by
 refine pF (by decide) fun n k h=>⟨0,?_⟩
 unfold jZ
 have e1:F aB [.int ((n:Int)-1),N k]=some (N (C (n-1) k)):=by
  rw[show(n:Int)-1=((n-1:Nat):Int) by omega];exact ap h0 (aT (by omega))
 have e2:F aB [.int ((n:Int)+1),.int ((k:Int)+1)]=some (N (C (n+1) (k+1))):=ap h0 (aT (n:=n+1) (k:=k+1) (by omega))
 have e3:F aB [N n,.int ((k:Int)-1)]=some (N (C n (k-1))):=by
  rw[show(k:Int)-1=((k-1:Nat):Int) by omega];exact ap h0 (aT (by omega))
 exact aF (aBq (ds:=[N (C (n-1) k),N (C (n+1) (k+1)),N (C n (k-1))]) (by w_fin) (show 3≤16777216 by omega) rfl)
def fO:=nn2 (fun n k=>n≤24) fun n k=>.lst ((Ea n k).map N)
theorem qW(h0:F aB=aO)(h1:F aZ=dJ):Computes F G 4 hE fO:=by
 refine pF (by decide) fun n k h=>⟨0,?_⟩
 unfold hE
 have e1:=ap h0 (aT (n:=n) (k:=k) (by omega))
 have e2:=ap h1 (tV (n:=n) (by omega))
 refine aD (s':=[I n,I k,I (C n k:Nat),none]) (aI (z:=(C n k:Nat)) (by w_fin)) ?_
 have e3:ev F G (.call aZ (.cons (.var 0) .nil)) (rho [I n,I k,I (C n k:Nat),none])=some (.lst ((Bn n).map N)):=by w_fin
 refine aF (fK ?_ rfl mE)
 unfold Ea
 rw[bB]
 refine rT N (fun q=>C n k%q==0) N (Bn n) (aGp e3) (by have:=lM n;simp only[SZ];omega) fun q hq=>⟨[some (N n),some (N k),some (N (C n k)),some (N q)],rfl,?_,fun _=>by w_fin⟩
 have:=qX (show n≤100 by omega) hq
 have e4:bop .mod (N (C n k)) (N q)=some (N (C n k%q)):=cG (by omega)
 rw[←jF];w_fin
def a70(r:Kp270.Ans):Dat:=ai r.num r.nums
noncomputable def bDh:=nr1 fun n k=>a70 (B2 (some n) (.at_ k)).2
theorem bDn(hW:G aH=some (.int (-22)))(h0:F aB=aO)(h1:F dG=jP):Computes F G 2 bCu bDh:=by
 refine cr1 (by decide) fun n k hn hk=>⟨0,?_⟩
 unfold bCu
 refine aS (P:=(n:Int)<k) hW (by w_fin) (fun h=>?_) fun h=>?_
 .exact congrArg a70 (ip (show n<k from by omega))
 .rw[show(B2 (some n) (.at_ k)).2=Hl (Di n k)from ig (show ¬n<k from by omega),bB]
  have e1:=ap h0 (aT (n:=n) (k:=k) (by omega))
  exact aS1 h1 (by w_fin)
theorem xD{f:Nat}{c:Tm}{r:Stms}{s:Env}{x:Dat}{P:Prop}[Decidable P](hG:G aP=some (.int (-33)))(t:ev F G c (rho s)=some (.bl (decide P)))(h1:P→x=ai (-33) [])(h2:¬P→run F G f r s=some (.ret x)):run F G f (.cons (.ite c (.cons (.ret (.lst (.cons (.glo aP) .nil))) .nil) .nil) r) s=some (.ret x):=by
 by_cases h:P
 .rw[det h]at t
  rw[h1 h]
  exact aF (eQ t (oC hG))
 .rw[def_ h]at t
  exact aD (eF t aR) (h2 h)
noncomputable def rZ:=nr0 fun n=>a70 (B2 (some n) .greatest).2
theorem aFb(hG:G bM=some (.int 2))(hN:G aP=some (.int (-33)))(h0:F fP=jO):Computes F G 2 rJ rZ:=by
 refine cr0 (by decide) fun n hn=>⟨0,?_⟩
 unfold rJ
 refine xD (P:=(n:Int)<2) hN (by w_fin) (fun h=>?_) fun h=>?_
 .exact congrArg a70 (ip (show n<2 from by omega))
 .rw[show(B2 (some n) .greatest).2=Kw (C3 n:Int)from ig (show ¬n<2 from by omega)]
  have e1:F fP [N n]=some (N (C3 n)):=ap h0 (gQ ⟨by omega,hn⟩)
  exact fA (by w_fin)
theorem C24{n:Nat}(hn:n≤25)(k:Nat):C n k<1073741824:=B9 (zG n k) (B9 (Kc (by omega) hn) (by decide))
noncomputable def aEw:=nr0 fun n=>a70 (B2 (some n) .least).2
theorem aRb(h0:F cJ=iQ)(h1:F cY=fW)(h2:F dY=iA):Computes F G 2 aE2 aEw:=by
 refine cr0 (by decide) fun n hn=>⟨0,?_⟩
 unfold aE2
 have e1:=ap h0 (lP (n:=n) (by omega))
 have e2:F cY [.lst (((Ab (n+1)).map (C n)).map N)]=some (N (Lj ((Ab (n+1)).map (C n)))):=ap h1 (aCs (by
  intro x hx
  obtain⟨k,hk,rfl⟩:=Cd.mp hx
  have:=Ak.mp hk
  exact⟨aXr n k (by omega),C24 (by omega) k⟩))
 rw[←aHj]at e1 e2
 exact aS2 h2 (by w_fin)
def aMn:=nr0 fun n=>a70 (B2 (some n) .upTo).2
theorem aWh(h1:F cY=fW)(h2:F dY=iA):Computes F G 2 aKs aMn:=by
 refine cr0 (by decide) fun n hn=>⟨0,?_⟩
 unfold aKs
 have e4:Pl.range [Dat.int 1,Dat.int ((n:Int)+2)]=some ((Ab (n+2-1)).map fun k=>N (1+k)):=oQ (i:=1) (j:=n+2) (by omega) (by omega)
 have e5:blt .lrange [Dat.int 1,Dat.int ((n:Int)+2)]=some (.lst (((Ab (n+1)).map fun i=>i+1).map N)):=by
  rw[aHw,e4,Af,ip (by simp[SZ];omega),show n+2-1=n+1 by omega,Aj]
  refine congrArg some (congrArg Dat.lst (Ax fun i _=>?_))
  rw[Fq];rfl
 have e2:F cY [.lst (((Ab (n+1)).map fun i=>i+1).map N)]=some (N (Lj ((Ab (n+1)).map fun i=>i+1))):=ap h1 (aCs (by
  intro x hx
  obtain⟨k,hk,rfl⟩:=Cd.mp hx
  have:=Ak.mp hk
  omega))
 exact aS2 h2 (cA (aG (cP (by w_fin) e5) aE) e2)
noncomputable def aAy:=nr2 fun n j k=>a70 (B2 (some n) (.shared j k)).2
theorem aNv(hW:G aH=some (.int (-22)))(h0:F aB=aO)(h1:F aQ=bK)(h2:F dG=jP):Computes F G 2 aA1 aAy:=by
 refine cr2 (by decide) fun n j k hn hj hk=>⟨0,?_⟩
 unfold aA1
 have e0:=aZb (a:=j) (b:=k)
 refine aS (P:=(n:Int)<(max j k:Nat)) hW (by w_fin) (fun h=>?_) fun h=>?_
 .exact congrArg a70 (ip (show n<j∨n<k from by omega))
 .rw[show(B2 (some n) (.shared j k)).2=Hl (Gh n j k)from ig (show ¬(n<j∨n<k)from by omega)]
  unfold Gh
  rw[bB,bB]
  have e1:=ap h0 (aT (n:=n) (k:=k) (by omega))
  have e2:=ap h0 (aT (n:=n) (k:=j) (by omega))
  have e3:=ap h1 (aK0 (a:=C n j) (b:=C n k))
  exact aS1 h2 (by w_fin)
def aMl:=nr1 fun n k=>a70 (B2 (some n) (.star k)).2
theorem aG2{n k:Nat}:gL [N n,N k]=some (.bl (decide (k=0∨n≤k))):=dN trivial
theorem aWe(hW:G aH=some (.int (-22)))(h0:F jT=gL)(h1:F dF=dC)(h2:F eU=iT)(h3:F dZ=gO):Computes F G 3 aKp aMl:=by
 refine cr1 (by decide) fun n k hn hk=>⟨0,?_⟩
 unfold aKp
 refine aD (s':=[I n,L1 k,I k]) (aI (z:=k) (by w_fin)) ?_
 have e0:=ap h0 (aG2 (n:=n) (k:=k))
 refine aS (P:=k=0∨n≤k) hW (by w_fin) (fun h=>?_) fun h=>?_
 .exact congrArg a70 (ip h)
 .rw[show(B2 (some n) (.star k)).2=⟨(((Nt n k).1:Nat):Int),Kp270.ints [(Nt n k).2]⟩from ig h]
  have e1:F eU [N n,N k]=some (.lst ([C (n-1) (k-1),C n (k+1),C (n+1) k].map N)):=ap h2 (dN (by omega))
  have e2:F dZ [N n,N k]=some (.lst ([C (n-1) k,C (n+1) (k+1),C n (k-1)].map N)):=ap h3 (dN (by omega))
  have e3:=ap h1 (bCr (l:=[C (n-1) (k-1),C n (k+1),C (n+1) k]))
  have e4:=ap h1 (bCr (l:=[C (n-1) k,C (n+1) (k+1),C n (k-1)]))
  unfold Nt
  simp only[bB]
  exact mU (by w_fin) (by w_fin)
noncomputable def mN:=nr1 fun n k=>a70 (B2 (some n) (.product k)).2
theorem yD(hW:G aH=some (.int (-22)))(h0:F jT=gL)(h1:F iZ=nN)(h2:F eU=iT)(h3:F dZ=gO)(h4:F cB=cM):Computes F G 3 lZ mN:=by
 refine cr1 (by decide) fun n k hn hk=>⟨0,?_⟩
 unfold lZ
 refine aD (s':=[I n,L1 k,I k]) (aI (z:=k) (by w_fin)) ?_
 have e0:=ap h0 (aG2 (n:=n) (k:=k))
 refine aS (P:=k=0∨n≤k) hW (by w_fin) (fun h=>?_) fun h=>?_
 .exact congrArg a70 (ip h)
 .rw[show(B2 (some n) (.product k)).2=Kw (if(Iv n k).1=(Iv n k).2 then 1 else 0)from ig h]
  have e1:F eU [N n,N k]=some (.lst ([C (n-1) (k-1),C n (k+1),C (n+1) k].map N)):=ap h2 (dN (by omega))
  have e2:F dZ [N n,N k]=some (.lst ([C (n-1) k,C (n+1) (k+1),C n (k-1)].map N)):=ap h3 (dN (by omega))
  have e3:F iZ [.lst ([C (n-1) (k-1),C n (k+1),C (n+1) k].map N)]=some (N (1*C (n-1) (k-1)*C n (k+1)*C (n+1) k)):=ap h1 (aCs (by
   intro x hx;simp only[A1,Ls,or_false]at hx;rcases hx with rfl|rfl|rfl<;>exact C24 (by omega) _))
  have e4:F iZ [.lst ([C (n-1) k,C (n+1) (k+1),C n (k-1)].map N)]=some (N (1*C (n-1) k*C (n+1) (k+1)*C n (k-1))):=ap h1 (aCs (by
   intro x hx;simp only[A1,Ls,or_false]at hx;rcases hx with rfl|rfl|rfl<;>exact C24 (by omega) _))
  rw[Fk]at e3 e4
  unfold Iv
  simp only[bB]
  have e5:=ap h4 (aK1 (decide (((C (n-1) (k-1)*C n (k+1)*C (n+1) k:Nat):Int)=((C (n-1) k*C (n+1) (k+1)*C n (k-1):Nat):Int))))
  have e6:(if(decide (((C (n-1) (k-1)*C n (k+1)*C (n+1) k:Nat):Int)=((C (n-1) k*C (n+1) (k+1)*C n (k-1):Nat):Int)))=true then(1:Int)else 0)=if C (n-1) (k-1)*C n (k+1)*C (n+1) k=C (n-1) k*C (n+1) (k+1)*C n (k-1)then 1 else 0:=by
   rw[jF];simp only[beq_iff_eq]
  rw[e6]at e5
  exact fA (by w_fin)
def wF:=nr1 fun n k=>a70 (B2 (some n) (.hermite k)).2
theorem aIt(hW:G aH=some (.int (-22)))(h0:F aB=aO)(h1:F aQ=bK)(h2:F dG=jP):Computes F G 4 uQ wF:=by
 refine cr1 (by decide) fun n k hn hk=>⟨0,?_⟩
 unfold uQ
 refine aD (s':=[I n,L1 k,I k,none]) (aI (z:=k) (by w_fin)) ?_
 refine aS (P:=(k:Int)=0∨(n:Int)<k) hW ?_ (fun h=>?_) fun h=>?_
 .rw[Bo];exact fD (by w_fin) (by w_fin)
 .exact congrArg a70 (ip (show k=0∨n<k from by omega))
 .rw[show(B2 (some n) (.hermite k)).2=⟨((n/B3 n k:Nat):Int),(Hl (Di n k*B3 n k/n)).num::(Hl (Di n k*B3 n k/n)).nums⟩from ig (show ¬(k=0∨n<k)from by omega),bB]
  have hk0:0<k:=by omega
  have hg:0<B3 n k:=Gf _ hk0
  have hgn:B3 n k≤n:=Hj (by omega) (Ha n k)
  have hpart:0<n/B3 n k:=Kj hgn hg
  have hle:n/B3 n k≤n:=Nat.div_le_self _ _
  have e1:=ap h0 (aT (n:=n) (k:=k) (by omega))
  have e2:=ap h1 (aK0 (a:=n) (b:=k))
  have e3:bop .fdiv (N n) (N (B3 n k))=some (N (n/B3 n k)):=bT hg (by omega)
  have e4:bop .fdiv (N (C n k)) (N (n/B3 n k))=some (N (C n k/(n/B3 n k))):=bT hpart (by omega)
  have e5:C n k/(n/B3 n k)=C n k*B3 n k/n:=by
   obtain⟨t,ht⟩:=Ha n k
   generalize hG:B3 n k=g at *
   have:n/g=t:=by rw[ht,E5 _ hg]
   rw[this]
   generalize C n k=c
   rw[ht,Ek c g,Nat.mul_div_mul_left _ _ hg]
  rw[e5]at e4
  generalize C n k*B3 n k/n=w at e4 ⊢
  have e6:F dG [N w]=some (.lst [N (w/1000000000),N (w%1000000000)]):=ap h2 (gQ trivial)
  refine aD (s':=[I n,L1 k,I k,I (n/B3 n k:Nat)]) (aI (z:=(n/B3 n k:Nat)) (by w_fin)) ?_
  have e7:bop .add (.lst [N (n/B3 n k)]) (.lst [N (w/1000000000),N (w%1000000000)])=some (.lst [N (n/B3 n k),N (w/1000000000),N (w%1000000000)]):=by
   rw[nB];exact ip (show 3≤16777216 by omega)
  exact aF (fK (jL (kG (ds:=[N (n/B3 n k)]) (by w_fin) (show 1≤16777216 by omega)) (by w_fin) e7) rfl rfl)
theorem aCh(n k:Nat):(Ea n k).length≤n+1:=by
 unfold Ea
 exact B7 (Br _ _) (lM n)
def rY:=nr1 fun n k=>a70 (B2 (some n) (.dividing k)).2
theorem aFa(hW:G aH=some (.int (-22)))(h0:F cS=fO)(h1:F aN=bO):Computes F G 2 rH rY:=by
 refine cr1 (by decide) fun n k hn hk=>⟨0,?_⟩
 unfold rH
 refine aS (P:=(n:Int)<k) hW (by w_fin) (fun h=>?_) fun h=>?_
 .exact congrArg a70 (ip (show n<k from by omega))
 .rw[show(B2 (some n) (.dividing k)).2=N9 (Ea n k)from ig (show ¬n<k from by omega)]
  have e1:F cS [N n,N k]=some (.lst ((Ea n k).map N)):=ap h0 (dN hn)
  exact pO h1 (by w_fin) (by have:=aCh n k;omega)
def aEv:=nr1 fun n k=>a70 (B2 (some n) (.great k)).2
theorem aR9(hW:G aH=some (.int (-22)))(hN:G aP=some (.int (-33)))(h0:F cS=fO)(h1:F cB=cM):Computes F G 4 aE0 aEv:=by
 refine cr1 (by decide) fun n k hn hk=>⟨0,?_⟩
 unfold aE0
 refine aD (s':=[I n,L1 k,I k,none]) (aI (z:=k) (by w_fin)) ?_
 refine aS (P:=(n:Int)<k) hW (by w_fin) (fun h=>?_) fun h=>?_
 .exact congrArg a70 (ip (show n<k from by omega))
 .rw[show(B2 (some n) (.great k)).2=(match(Ea n k).getLast? with
     |some q=>(⟨(q:Int),Kp270.ints [if k<q then 1 else 0]⟩:Kp270.Ans)
     |none=>Kw (-33))from ig (show ¬n<k from by omega)]
  have e1:F cS [N n,N k]=some (.lst ((Ea n k).map N)):=ap h0 (dN hn)
  generalize Ea n k=l at e1 ⊢
  refine aD (s':=[I n,L1 k,I k,some (.lst (l.map N),false)]) (iL (d:=.lst (l.map N)) (by w_fin) rfl) ?_
  have t0:ev F G (.cmp .eq (.blt .len (.cons (.var 3) .nil)) (.int 0)) (rho [I n,L1 k,I k,some (.lst (l.map N),false)])=some (.bl (decide (((l.map N).length:Int)=0))):=by w_fin
  refine xD (P:=l=[]) hN ?_ (fun h=>?_) fun h=>?_
  .rw[t0];congr 2;rw[Ag]
   cases l with
   |nil=>rfl
   |cons a l=>
    rw[def_ (by simp;omega),def_ (by simp)]
  .subst h;rfl
  .obtain⟨l',q,rfl⟩:∃l' q,l=l'++[q]:=⟨l.dropLast,l.getLast h,(List.dropLast_concat_getLast h).symm⟩
   have e2:idx (.lst ((l'++[q]).map N)) (.int (-1))=some (N q):=by rw[nJ,A7];exact aK7
   have e3:=yP (F:=F) (G:=G) (r:=rho [I n,L1 k,I k,some (.lst ((l'++[q]).map N),false)])
   have e4:=ap h1 (aK1 (decide ((k:Int)<q)))
   rw[List.getLast?_append,List.getLast?_singleton]
   have e5:((if decide ((k:Int)<q)=true then 1 else 0:Int))=((if k<q then 1 else 0:Nat):Int):=by
    by_cases h:k<q
    .rw[ip h,ip (by simp;omega)];rfl
    .rw[ig h,ig (by simp;omega)];rfl
   rw[e5]at e4
   exact mU (by w_fin) (by w_fin)
theorem xR{l:List Nat}{k:Nat}{v:Nat}(h:l[k]?=some v):idx (.lst (l.map N)) (N k)=some (N v):=by
 rw[nJ,yL,Bb,h];rfl
theorem bCj{n k:Nat}(h:k≤n):((Ab (n+1)).map (C n))[k]?=some (C n k):=by
 rw[Bb,E7 (by omega)];rfl
theorem aWu(f n v row:Nat)(hn:n<1000000)(g:Slot)(h0:F aB=aO):∀(l:List Nat)(a:Nat)(acc:List Dat)(w:Slot),acc.length+2*l.length≤16777216→∃w',
  lN (.one 6) (fun e=>run F G f (.cons (.ite (.cmp .eq (.call aB (.cons (.var 5) (.cons (.var 6) .nil))) (.var 2)) (.cons (.aug 3 .add (.int 1)) (.cons (.ext 4 (.lst (.cons (.var 5) (.cons (.var 6) .nil)))) .nil)) .nil) .nil) e) (l.map N) [I row,g,I v,I a,some (.lst acc,true),I n,w] =
   some (.nxt [I row,g,I v,I (a+(l.filter fun k=>C n k==v).length:Nat),some (.lst (acc++(((l.filter fun k=>C n k==v).map fun k=>(n,k)).flatMap fun z=>[N z.1,N z.2])),true),I n,w'])
 |[],a,acc,w,_=>⟨w,by simp[pH]⟩
 |k::l,a,acc,w,h=>by
  have e1:=ap h0 (aT (n:=n) (k:=k) hn)
  have t0:ev F G (.cmp .eq (.call aB (.cons (.var 5) (.cons (.var 6) .nil))) (.var 2)) (rho [I row,g,I v,I a,some (.lst acc,true),I n,I k])=some (.bl (decide ((C n k:Int)=(v:Int)))):=by w_fin
  rw[jF]at t0
  rw[Ar]at h
  cases hc:(C n k==v)with
  |true=>
   rw[hc]at t0
   obtain⟨w',ih⟩:=aWu f n v row hn g h0 l (a+1) (acc++[N n,N k]) (I k) (by simp;omega)
   refine⟨w',?_⟩
   have e2:ev F G (.lst (.cons (.var 5) (.cons (.var 6) .nil))) (rho [I row,g,I v,I ((a:Int)+1),some (.lst acc,true),I n,I k])=some (.lst [N n,N k]):=kG (by w_fin) (show 2≤16777216 by omega)
   rw[Ai,bH (e1:=[I row,g,I v,I a,some (.lst acc,true),I n,I k]) (e':=[I row,g,I v,I ((a+1:Nat):Int),some (.lst (acc++[N n,N k]),true),I n,I k]) rfl
    (aD (eQ t0 (aD (s':=[I row,g,I v,I ((a:Int)+1),some (.lst acc,true),I n,I k]) (qZ (x:=a) (z:=1) rfl bJ fB) (aM (bBf (l:=acc) (m:=[N n,N k]) rfl e2 rfl (by simp only[Ar,Gj,SZ];omega))))) aR),ih,D6,hc,ip rfl,Ar,Ai,D0]
   rw[Gk,Fq 1,Dj]
  |false=>
   rw[hc]at t0
   obtain⟨w',ih⟩:=aWu f n v row hn g h0 l a acc (I k) (by omega)
   refine⟨w',?_⟩
   rw[Ai,bH (e1:=[I row,g,I v,I a,some (.lst acc,true),I n,I k]) (e':=[I row,g,I v,I a,some (.lst acc,true),I n,I k]) rfl (aD (eF t0 aR) aR),ih,D6,hc]
   rfl
noncomputable def plc (v n:Nat):List (Nat×Nat):=((Ab (n+1)).filter fun k=>C n k==v).map fun k=>(n,k)
theorem aOb(v n:Nat):(plc v n).length≤n+1:=by
 unfold plc;rw[Ag];exact B7 (Br _ _) (by rw[Bj];exact An _)
theorem aT5(f v row:Nat)(g:Slot)(h0:F aB=aO):∀(l:List Nat)(a:Nat)(acc:List Dat)(u w:Slot),(∀n∈l,n<41)→acc.length+100*l.length≤16777216→∃u' w',
  lN (.one 5) (fun e=>run F G f (.cons (.for_ (.one 6) (.range (.cons (.bin .add (.var 5) (.int 1)) .nil)) (.cons (.ite (.cmp .eq (.call aB (.cons (.var 5) (.cons (.var 6) .nil))) (.var 2)) (.cons (.aug 3 .add (.int 1)) (.cons (.ext 4 (.lst (.cons (.var 5) (.cons (.var 6) .nil)))) .nil)) .nil) .nil)) .nil) e) (l.map N) [I row,g,I v,I a,some (.lst acc,true),u,w] =
   some (.nxt [I row,g,I v,I (a+(l.flatMap (plc v)).length:Nat),some (.lst (acc++((l.flatMap (plc v)).flatMap fun z=>[N z.1,N z.2])),true),u',w'])
 |[],a,acc,u,w,_,_=>⟨u,w,by simp[pH]⟩
 |n::l,a,acc,u,w,hm,h=>by
  have hn:=hm n (by simp)
  rw[Ar]at h
  have e4:Pl.range [Dat.int ((n:Int)+1)]=some ((Ab (n+1)).map N):=jJ (j:=n+1) (by omega)
  have e5:evs F G (.cons (.bin .add (.var 5) (.int 1)) .nil) (rho [I row,g,I v,I a,some (.lst acc,true),I n,w])=some [Dat.int ((n:Int)+1)]:=by w_fin
  obtain⟨w1,h1⟩:=aWu (F:=F) (G:=G) f n v row (by omega) g h0 (Ab (n+1)) a acc w (by simp;omega)
  have e6:(((Ab (n+1)).filter fun k=>C n k==v).length)=(plc v n).length:=by unfold plc;rw[Ag]
  rw[e6,show(((Ab (n+1)).filter fun k=>C n k==v).map fun k=>(n,k))=plc v n from rfl]at h1
  have hl:=aOb v n
  have hf:∀z:List (Nat×Nat),(z.flatMap fun z=>[N z.1,N z.2]).length=2*z.length:=by
   intro z;induction z with
   |nil=>rfl
   |cons x z ih=>rw[D0,A6,ih,Ar];simp;omega
  obtain⟨u',w',ih⟩:=aT5 f v row g h0 l (a+(plc v n).length) (acc++((plc v n).flatMap fun z=>[N z.1,N z.2])) (I n) w1 (fun x hx=>hm x (by simp[hx])) (by rw[A6,hf];omega)
  refine⟨u',w',?_⟩
  rw[Ai,bH (e1:=[I row,g,I v,I a,some (.lst acc,true),I n,w]) rfl (aD (jG (cE e5 e4) rfl h1) aR),ih,D0,A6,List.flatMap_append,Dj,Gk]
noncomputable def aAw:=nr1 fun n v=>a70 (B2 (some n) (.places v)).2
theorem aOa(v:Nat):J3 v=(Ab 41).flatMap (plc v):=by
 unfold J3 plc
 simp only[bB];rfl
theorem aNs(hG:G oN=some (.int 2))(hM:G aK=some (.int 1000000))(hL:G rW=some (.int 40))(hW:G aH=some (.int (-22)))(h0:F aB=aO):Computes F G 7 zY aAw:=by
 refine cr1 (by decide) fun n v hn hv=>⟨0,?_⟩
 unfold zY
 refine aD (s':=[I n,L1 v,I v,none,none,none,none]) (aI (z:=v) (by w_fin)) ?_
 refine aS (P:=(v:Int)<2∨(1000000:Int)<v) hW ?_ (fun h=>?_) fun h=>?_
 .rw[Bo];exact fD (by w_fin) (by w_fin)
 .exact congrArg a70 (ip (show v<2∨1000000<v from by omega))
 .rw[show(B2 (some n) (.places v)).2=⟨((J3 v).length:Int),Kp270.ints ((J3 v).flatMap fun z=>[z.1,z.2])⟩from ig (show ¬(v<2∨1000000<v)from by omega),aOa]
  have e4:Pl.range [Dat.int (40+1)]=some ((Ab 41).map N):=jJ (j:=41) (by omega)
  have e5:evs F G (.cons (.bin .add (.glo rW) (.int 1)) .nil) (rho [I n,L1 v,I v,I 0,some (.lst [],true),none,none])=some [Dat.int (40+1)]:=by w_fin
  have e6:=cE e5 e4
  have hlen:∀i∈Ab 41,i<41:=fun i hi=>Ak.mp hi
  have hl2:(Ab 41).length=41:=Bj
  refine aD (s':=[I n,L1 v,I v,I 0,none,none,none]) (aI (z:=0) bJ) (aD (s':=[I n,L1 v,I v,I 0,some (.lst [],true),none,none]) (aBj (d:=.lst []) (kG aE (show 0≤16777216 by omega)) rfl rfl) ?_)
  generalize Ab 41=R at e6 hlen hl2 ⊢
  obtain⟨u,w,hl⟩:=aT5 (F:=F) (G:=G) 0 v n (L1 v) h0 R 0 [] none none hlen (by simp[hl2])
  rw[Bw,Cq]at hl
  refine aD (jG e6 rfl hl) ?_
  have hb:(R.flatMap (plc v)).length≤41*41:=by
   have:∀l:List Nat,(∀n∈l,n<41)→(l.flatMap (plc v)).length≤41*l.length:=by
    intro l
    induction l with
    |nil=>intro _;simp
    |cons x l ih=>
     intro h
     have:=aOb v x
     have:=h x (by simp)
     have:=ih fun y hy=>h y (by simp[hy])
     rw[D0,A6,Ar];omega
   have:=this R hlen
   omega
  generalize R.flatMap (plc v)=Z at hb ⊢
  have hf:∀z:List (Nat×Nat),(z.flatMap fun z=>[N z.1,N z.2])=(z.flatMap fun z=>[z.1,z.2]).map N:=by
   intro z;induction z with
   |nil=>rfl
   |cons x z ih=>rw[D0,ih,D0,A7];rfl
  have hg:∀z:List (Nat×Nat),(z.flatMap fun z=>[z.1,z.2]).length=2*z.length:=by
   intro z;induction z with
   |nil=>rfl
   |cons x z ih=>rw[D0,A6,ih,Ar];simp;omega
  rw[hf]
  have e8:bop .add (.lst [N Z.length]) (.lst ((Z.flatMap fun z=>[z.1,z.2]).map N))=some (ai (Z.length:Int) (Kp266.ints (Z.flatMap fun z=>[z.1,z.2]))):=by
   rw[nB,ip (by rw[Ag,hg];simp[SZ];omega)]
   unfold ai Kp266.ints
   rw[Ai,Aj];rfl
  exact aF (fK (jL (kG (ds:=[N Z.length]) (by w_fin) (show 1≤16777216 by omega)) (aV rfl) e8) rfl gH)
def aMg:=nr0 fun n=>a70 (B2 (some n) .even).2
theorem aRy{n:Nat}(hn:n<1000):Pl.range [Dat.int ((n:Int)-1)]=some ((Ab (n-1)).map N):=by
 cases n with
 |zero=>unfold Pl.range;rfl
 |succ n=>rw[show((n+1:Nat):Int)-1=(n:Nat) by omega];exact jJ (by omega)
theorem aU7(n:Nat):J4 n=(Ab (n-1)).filter fun k=>C n k+C n (k+2)==2*C n (k+1):=by
 unfold J4
 simp only[bB]
 have e:n+1=(n-1)+(n+1-(n-1)):=by omega
 conv=>lhs;rw[e,D9,El]
 have e2:List.filter (fun k=>decide (k+2≤n)&&C n k+C n (k+2)==2*C n (k+1)) (Ka (fun x=>n-1+x) (Ab (n+1-(n-1))))=[]:=by
  rw[Jh]
  intro a ha
  obtain⟨x,_,rfl⟩:=Cd.mp ha
  rw[def_ (by omega)];simp
 rw[e2,Co]
 refine Eb fun k hk=>?_
 have:=Ak.mp hk
 rw[det (by omega),Fw]
theorem aW0(h0:F cJ=iQ)(h1:F aN=bO):Computes F G 4 aKc aMg:=by
 refine cr0 (by decide) fun n hn=>⟨0,?_⟩
 unfold aKc
 rw[show(B2 (some n) .even).2=N9 (J4 n)from rfl,aU7]
 have e1:=ap h0 (lP (n:=n) (by omega))
 generalize hR:(Ab (n+1)).map (C n)=R at e1
 refine aD (s':=[I n,some (.lst [],false),some (.lst (R.map N),false),none]) (iL (d:=.lst (R.map N)) (by w_fin) rfl) ?_
 have e4:=aRy (n:=n) (by omega)
 have e5:evs F G (.cons (.bin .sub (.var 0) (.int 1)) .nil) (rho [I n,some (.lst [],false),some (.lst (R.map N),false),none])=some [Dat.int ((n:Int)-1)]:=by w_fin
 refine pO h1 (rT N _ N _ (cE e5 e4) (by simp[SZ];omega) fun k hk=>⟨[some (N n),some (.lst []),some (.lst (R.map N)),some (N k)],rfl,?_,fun _=>by w_fin⟩) ?_
 .have:=Ak.mp hk
  have i0:idx (.lst (R.map N)) (N k)=some (N (C n k)):=xR (by rw[←hR];exact bCj (by omega))
  have i1:idx (.lst (R.map N)) (.int ((k:Int)+1))=some (N (C n (k+1))):=xR (k:=k+1) (by rw[←hR];exact bCj (by omega))
  have i2:idx (.lst (R.map N)) (.int ((k:Int)+2))=some (N (C n (k+2))):=xR (k:=k+2) (by rw[←hR];exact bCj (by omega))
  have m1:bop .mul (.int 2) (N (C n (k+1)))=some (N (2*C n (k+1))):=dO (m:=2) (.inl (by omega))
  rw[←jF,Ei];w_fin
 .exact B9 (Br _ _) (by rw[Bj];omega)
open Classical in
noncomputable def dD:List Dat→Option Dat
 |[.lst ds,.int (.ofNat k),.int (.ofNat w)]=>(nats ds).bind fun l=>if k+1<l.length∧l.length≤1000 then some (.bl (((l.drop (k+1)).take (l.length-1-(k+1))).any fun b=>B3 (l.getD k 0) b==w))else none
 |_=>none
theorem aPo{l:List Nat}{k w:Nat}(h:k+1<l.length∧l.length≤1000):dD [.lst (l.map N),N k,N w]=some (.bl (((l.drop (k+1)).take (l.length-1-(k+1))).any fun b=>B3 (l.getD k 0) b==w)):=by
 show(nats (l.map N)).bind _=_
 rw[tF,Af];exact ip h
theorem yC(h0:F aQ=bK):Computes F G 4 jK dD:=by
 intro args d e
 unfold dD at e;split at e
 case h_2=>cases e
 rename_i ds k w
 obtain⟨l,hl,e⟩:=Aa.mp e
 split at e
 case isFalse=>cases e
 rename_i hh
 cases e
 rw[aBb hl]
 refine⟨show 3≤4 by omega,0,?_⟩
 show run F G 0 jK [some (.lst (l.map N),false),I k,I w,none]=_
 unfold jK
 have e1:ev F G (.slc (.var 0) (.cons (.bin .add (.var 1) (.int 1)) .nil) (.cons (.neg (.int 1)) .nil)) (rho [some (.lst (l.map N),false),I k,I w,none])=some (.lst (((l.drop (k+1)).take (l.length-1-(k+1))).map N)):=by
  have:=aQ3 (F:=F) (G:=G) (a:=.var 0) (lo:=.cons (.bin .add (.var 1) (.int 1)) .nil) (hi:=.cons (.neg (.int 1)) .nil) (r:=rho [some (.lst (l.map N),false),I k,I w,none]) (l:=l.map N) (x:=[.int ((k:Int)+1)]) (by w_fin) (by w_fin) (aG yP aE) oB oB
  rw[this,show(k:Int)+1=((k+1:Nat):Int) by omega,aCg (by rw[Ag];omega) (by rw[Ag];omega),Ag,←Kr,←Fy]
 generalize hB:(l.drop (k+1)).take (l.length-1-(k+1))=B at e1
 have hBl:B.length≤1000:=by rw[←hB,F4,Jc];omega
 have e2:ev F G (.lc (.cmp .eq (.call aQ (.cons (.idx (.var 0) (.var 1)) (.cons (.var 3) .nil))) (.var 2)) (.one 3) (.of (.slc (.var 0) (.cons (.bin .add (.var 1) (.int 1)) .nil) (.cons (.neg (.int 1)) .nil))) .nil) (rho [some (.lst (l.map N),false),I k,I w,none])=some (.lst ((B.map fun b=>(B3 (l.getD k 0) b==w)).map Dat.bl)):=by
  rw[Aj]
  refine aCj N _ B (aGp e1) (by simp only[SZ];omega) fun b _=>⟨[some (.lst (l.map N)),some (N k),some (N w),some (N b)],rfl,?_⟩
  have i0:idx (.lst (l.map N)) (N k)=some (N (l.getD k 0)):=xR (by rw[B4,Bf (by omega)];rfl)
  have e3:=ap h0 (aK0 (a:=l.getD k 0) (b:=b))
  show _=some (Dat.bl (B3 (l.getD k 0) b==w))
  rw[←jF];w_fin
 have e4:blt .any [.lst ((B.map fun b=>(B3 (l.getD k 0) b==w)).map Dat.bl)]=some (.bl (B.any fun b=>B3 (l.getD k 0) b==w)):=by
  rw[aTv,aEe,Bt,List.any_map];rfl
 exact aF (eB (cP (aG e2 aE) e4) rfl)
theorem aGk(f n w:Nat)(g:Slot)(R:List Nat)(hR:R.length≤1000)(h0:F fQ=dD):∀(l:List Nat)(v:Slot),(∀k∈l,k+1<R.length)→
  (match l.find? fun k=>((R.drop (k+1)).take (R.length-1-(k+1))).any fun b=>B3 (R.getD k 0) b==w with
   |some k=>lN (.one 4) (fun e=>run F G f (.cons (.ite (.call fQ (.cons (.var 2) (.cons (.var 4) (.cons (.var 3) .nil)))) (.cons (.ret (.lst (.cons (.var 4) .nil))) .nil) .nil) .nil) e) (l.map N) [I n,g,some (.lst (R.map N),false),I w,v]=some (.ret (ai k []))
   |none=>∃v',lN (.one 4) (fun e=>run F G f (.cons (.ite (.call fQ (.cons (.var 2) (.cons (.var 4) (.cons (.var 3) .nil)))) (.cons (.ret (.lst (.cons (.var 4) .nil))) .nil) .nil) .nil) e) (l.map N) [I n,g,some (.lst (R.map N),false),I w,v]=some (.nxt [I n,g,some (.lst (R.map N),false),I w,v']))
 |[],v,_=>⟨v,rfl⟩
 |k::l,v,h=>by
  have e1:=ap h0 (aPo (l:=R) (k:=k) (w:=w) ⟨h k (by simp),hR⟩)
  have t0:ev F G (.call fQ (.cons (.var 2) (.cons (.var 4) (.cons (.var 3) .nil)))) (rho [I n,g,some (.lst (R.map N),false),I w,I k])=some (.bl (((R.drop (k+1)).take (R.length-1-(k+1))).any fun b=>B3 (R.getD k 0) b==w)):=by w_fin
  rw[Fs]
  cases hc:(((R.drop (k+1)).take (R.length-1-(k+1))).any fun b=>B3 (R.getD k 0) b==w)with
  |true=>
   rw[hc]at t0
   simp only[]
   rw[Ai]
   exact aAg rfl (aF (eQ t0 (fA (by w_fin))))
  |false=>
   rw[hc]at t0
   simp only[]
   have ih:=aGk f n w g R hR h0 l (I k) fun x hx=>h x (by simp[hx])
   rw[Ai,bH (e1:=[I n,g,some (.lst (R.map N),false),I w,I k]) (e':=[I n,g,some (.lst (R.map N),false),I w,I k]) rfl (aD (eF t0 aR) aR)]
   exact ih
theorem aQ6{n j w:Nat}(hj:j<n):((((Ab (n+1)).map (C n)).drop (j+1)).take (((Ab (n+1)).map (C n)).length-1-(j+1))).any (fun b=>B3 (((Ab (n+1)).map (C n)).getD j 0) b==w)=(Ab (n+1)).any fun k=>decide (j<k)&&decide (k<n)&&Gh n j k==w:=by
 have e0:((Ab (n+1)).map (C n)).getD j 0=C n j:=by rw[B4,bCj (by omega)];rfl
 rw[e0,C8,F6,F6]
 unfold Gh
 simp only[bB,Ac,dqe,beq_iff_eq,Ag,Bj]
 constructor
 .rintro⟨b,hb,hg⟩
  obtain⟨i,hi,rfl⟩:=List.getElem_of_mem hb
  simp only[F4,Jc,Ag,Bj]at hi
  refine⟨j+1+i,Ak.mpr (by omega),⟨by omega,by omega⟩,?_⟩
  rw[←hg];congr 1
  simp
 .rintro⟨k,hk,⟨h1,h2⟩,hg⟩
  refine⟨C n k,?_,hg⟩
  have hk':=Ak.mp hk
  rw[List.mem_iff_getElem]
  refine⟨k-(j+1),by simp;omega,?_⟩
  simp
  congr 1;omega
def aAq:=nr0 fun n=>a70 (B2 (some n) .fewest).2
theorem yR{α:Type}{p q:α→Bool}:∀{l:List α},(∀a∈l,p a=q a)→l.find? p=l.find? q
 |[],_=>rfl
 |a::l,h=>by rw[Fs,Fs,h a (by simp),yR fun x hx=>h x (by simp[hx])]
theorem aNk(hG:G bM=some (.int 2))(hN:G aP=some (.int (-33)))(hT:G kN=some (.int (-6)))(h0:F cJ=iQ)(h1:F fP=jO)(h2:F fQ=dD):Computes F G 5 zQ aAq:=by
 refine cr0 (by decide) fun n hn=>⟨0,?_⟩
 unfold zQ
 refine xD (P:=(n:Int)<2) hN (by w_fin) (fun h=>?_) fun h=>?_
 .exact congrArg a70 (ip (show n<2 from by omega))
 .rw[show(B2 (some n) .fewest).2=(match((Ab (n+1)).drop 1).find? (fun j=>(Ab (n+1)).any fun k=>decide (j<k)&&decide (k<n)&&Gh n j k==C3 n)with
     |some j=>Kw (j:Int)
     |none=>Kw (-6))from ig (show ¬n<2 from by omega)]
  have e1:=ap h0 (lP (n:=n) (by omega))
  have e2:F fP [N n]=some (N (C3 n)):=ap h1 (gQ ⟨by omega,hn⟩)
  have hRl:((Ab (n+1)).map (C n)).length=n+1:=by simp
  have hd:((Ab (n+1)).drop 1).find? (fun j=>(Ab (n+1)).any fun k=>decide (j<k)&&decide (k<n)&&Gh n j k==C3 n)=((Ab (n-1)).map fun t=>1+t).find? fun j=>((((Ab (n+1)).map (C n)).drop (j+1)).take (((Ab (n+1)).map (C n)).length-1-(j+1))).any (fun b=>B3 (((Ab (n+1)).map (C n)).getD j 0) b==C3 n):=by
   have ed:(Ab (n+1)).drop 1=((Ab (n-1)).map fun t=>1+t)++[n]:=by
    rw[Av,List.drop_one,Mx]
    obtain⟨m,rfl⟩:∃m,n=m+1:=⟨n-1,by omega⟩
    rw[B5,A7,Cu]
    congr 1
    refine Ax fun x _=>by omega
   rw[ed,List.find?_append]
   have en:List.find? (fun j=>(Ab (n+1)).any fun k=>decide (j<k)&&decide (k<n)&&Gh n j k==C3 n) [n]=none:=by
    rw[Kv]
    intro x hx
    rw[List.mem_singleton.mp hx,F6]
    rintro⟨k,_,hk⟩
    simp only[Ac,dqe]at hk
    omega
   rw[en,Option.or_none]
   refine yR fun j hj=>?_
   obtain⟨t,ht,rfl⟩:=Cd.mp hj
   have:=Ak.mp ht
   exact(aQ6 (by omega)).symm
  rw[hd]
  have e4:Pl.range [Dat.int 1,N n]=some ((Ab (n-1)).map fun t=>N (1+t)):=oQ (i:=1) (j:=n) (by omega) (by omega)
  generalize (Ab (n+1)).map (C n)=R at e1 hRl ⊢
  refine aD (s':=[I n,some (.lst [],false),some (.lst (R.map N),false),none,none]) (iL (d:=.lst (R.map N)) (by w_fin) rfl) (aD (s':=[I n,some (.lst [],false),some (.lst (R.map N),false),I (C3 n:Nat),none]) (aI (z:=(C3 n:Nat)) (by w_fin)) ?_)
  have e5:evs F G (.cons (.int 1) (.cons (.var 0) .nil)) (rho [I n,some (.lst [],false),some (.lst (R.map N),false),I (C3 n:Nat),none])=some [Dat.int 1,N n]:=by w_fin
  have e6:=cE e5 e4
  rw[show((Ab (n-1)).map fun t=>N (1+t))=((Ab (n-1)).map fun t=>1+t).map N by rw[Aj];rfl]at e6
  have hl:=aGk (F:=F) (G:=G) 0 n (C3 n) (some (.lst [],false)) R (by omega) h2 ((Ab (n-1)).map fun t=>1+t) none (by
   intro j hj
   obtain⟨t,ht,rfl⟩:=Cd.mp hj
   have:=Ak.mp ht
   omega)
  revert hl
  cases((Ab (n-1)).map fun t=>1+t).find? fun k=>((R.drop (k+1)).take (R.length-1-(k+1))).any fun b=>B3 (R.getD k 0) b==C3 n with
  |some m=>
   intro hl
   exact aF (jG e6 rfl hl)
  |none=>
   rintro⟨v,hv⟩
   exact aD (jG e6 rfl hv) (fA (i:=-6) (by w_fin))
theorem nY(l:List Nat):l.foldl (fun(a b:Nat)=>a+b) 0=l.sum:=by rw[nF,Bw]
def aAz:=nr1 fun n k=>a70 (B2 (some n) (.sum k)).2
theorem aNx(hW:G aH=some (.int (-22)))(h0:F cJ=iQ)(h1:F dY=iA):Computes F G 2 aA3 aAz:=by
 refine cr1 (by decide) fun n k hn hk=>⟨0,?_⟩
 unfold aA3
 refine aS (P:=(n:Int)<k) hW (by w_fin) (fun h=>?_) fun h=>?_
 .exact congrArg a70 (ip (show n<k from by omega))
 .rw[show(B2 (some n) (.sum k)).2=My (((Ab (k+1)).map (Di n)).foldl (fun(a b:Nat)=>a+b) 0)from ig (show ¬n<k from by omega),nY]
  have e1:=ap h0 (lP (n:=n) (by omega))
  have e2:ev F G (.slc (.call cJ (.cons (.var 0) .nil)) .nil (.cons (.bin .add (.idx (.var 1) (.int 0)) (.int 1)) .nil)) (rho [I n,L1 k])=some (.lst (((Ab (k+1)).map (Di n)).map N)):=by
   have:=aQ3 (F:=F) (G:=G) (a:=.call cJ (.cons (.var 0) .nil)) (lo:=.nil) (hi:=.cons (.bin .add (.idx (.var 1) (.int 0)) (.int 1)) .nil) (r:=rho [I n,L1 k]) (y:=[.int ((k:Int)+1)]) (by w_fin) aE (by w_fin) aH8 oB
   rw[this,show(k:Int)+1=((k+1:Nat):Int) by omega,aSl (by simp;omega),←Fy,←Fy,L0,Gm (by omega)]
   congr 3
   exact Ax fun x _=>(bB n x).symm
  have e3:=aBx (l:=(Ab (k+1)).map (Di n))
  exact aS2 h1 (cP (aG e2 aE) e3)
def wH:=nr0 fun n=>a70 (B2 (some n) .squares).2
theorem aJ2(h0:F cJ=iQ)(h1:F dY=iA):Computes F G 3 uZ wH:=by
 refine cr0 (by decide) fun n hn=>⟨0,?_⟩
 unfold uZ
 rw[show(B2 (some n) .squares).2=My (((G5 n).map fun v=>v*v).foldl (fun(a b:Nat)=>a+b) 0)from rfl,nY,aHj]
 have e1:=ap h0 (lP (n:=n) (by omega))
 have hm:∀x∈(Ab (n+1)).map (C n),x<1073741824:=by
  intro x hx
  obtain⟨k,_,rfl⟩:=Cd.mp hx
  exact C24 (by omega) k
 have hl:((Ab (n+1)).map (C n)).length=n+1:=by simp
 generalize (Ab (n+1)).map (C n)=R at e1 hm hl ⊢
 have e2:ev F G (.call cJ (.cons (.var 0) .nil)) (rho [I n,some (.lst [],false),none])=some (.lst (R.map N)):=by w_fin
 have e3:ev F G (.lc (.bin .mul (.var 2) (.var 2)) (.one 2) (.of (.call cJ (.cons (.var 0) .nil))) .nil) (rho [I n,some (.lst [],false),none])=some (.lst ((R.map fun v=>v*v).map N)):=by
  rw[Aj]
  refine aCj N _ R (aGp e2) (by simp only[SZ];omega) fun x hx=>⟨[some (N n),some (.lst []),some (N x)],rfl,?_⟩
  have:=hm x hx
  have m1:bop .mul (N x) (N x)=some (N (x*x)):=dO (.inl (by omega))
  show _=some (N (x*x))
  w_fin
 exact aS2 h1 (cP (aG e3 aE) aBx)
def aEy:=nr1 fun n k=>a70 (B2 (some n) (.stick k)).2
theorem aRe(hW:G aH=some (.int (-22)))(h0:F aB=aO)(h1:F dG=jP):Computes F G 3 aE5 aEy:=by
 refine cr1 (by decide) fun n k hn hk=>⟨0,?_⟩
 unfold aE5
 refine aS (P:=(n:Int)<k) hW (by w_fin) (fun h=>?_) fun h=>?_
 .exact congrArg a70 (ip (show n<k from by omega))
 .rw[show(B2 (some n) (.stick k)).2=Hl (((Ab (n+1)).map fun m=>Di m k).foldl (fun(a b:Nat)=>a+b) 0)from ig (show ¬n<k from by omega),nY]
  have e4:Pl.range [Dat.int ((n:Int)+1)]=some ((Ab (n+1)).map N):=jJ (j:=n+1) (by omega)
  have e5:evs F G (.cons (.bin .add (.var 0) (.int 1)) .nil) (rho [I n,L1 k,none])=some [Dat.int ((n:Int)+1)]:=by w_fin
  have e3:ev F G (.lc (.call aB (.cons (.var 2) (.cons (.idx (.var 1) (.int 0)) .nil))) (.one 2) (.range (.cons (.bin .add (.var 0) (.int 1)) .nil)) .nil) (rho [I n,L1 k,none])=some (.lst (((Ab (n+1)).map fun m=>Di m k).map N)):=by
   rw[Aj]
   refine aCj N _ _ (cE e5 e4) (by simp[SZ];omega) fun m hm=>⟨[some (N n),some (.lst [N k]),some (N m)],rfl,?_⟩
   have:=Ak.mp hm
   have e1:=ap h0 (aT (n:=m) (k:=k) (by omega))
   show _=some (N (Di m k))
   rw[bB]
   exact cA (by w_fin) e1
  exact aS1 h1 (cP (aG e3 aE) aBx)
end
theorem aBu(p:Nat):∀d,F8 p d=By d%p
 |0=>rfl
 |d+1=>by
  show(d+1)*F8 p d%p=(d+1)*By d%p
  rw[aBu p d,J0]
theorem aFq{p:Nat}(hp:Bh p=true)(h2:2≤p):∀d,d<p→By d%p≠0
 |0,_=>by show 1%p≠0;rw[Aw (by omega)];omega
 |d+1,h=>by
  intro q
  rcases(lL hp).mp (show(d+1)*By d%p=0 from q)with r|r
  .rw[Aw h]at r;omega
  .exact aFq hp h2 d (by omega) r
theorem aVc{p a s:Nat}(ha:a<p)(hr:a*s%p≠0):(p-a)*s%p=p-a*s%p:=by
 have hp:0<p:=by omega
 have h1:=Ee (a*s) p
 have h2:=Bx (a*s) hp
 generalize hq:a*s/p=q at h1
 generalize a*s%p=r at *
 have h3:a*s≤p*s:=D7 _ (by omega)
 have h4:q<s:=by
  apply Ik (a:=p)
  omega
 obtain⟨t,ht⟩:∃t,s=q+1+t:=⟨s-(q+1),by omega⟩
 have h5:(p-a)*s=p*t+(p-r):=by
  rw[Nat.sub_mul]
  have:p*s=p*q+p+p*t:=by rw[ht,Fj,Fj,Gy]
  omega
 rw[h5,Hr,Aw (by omega)]
def rf(p:Nat)(l:List Nat)(a:Nat):Nat:=l.foldl (fun(a d:Nat)=>a*F8 p d%p) a
theorem bBi{p:Nat}(hp:Bh p=true)(h2:2≤p):∀(l:List Nat)(a:Nat),(∀d∈l,d<p)→0<a→a<p→0<rf p l a∧rf p l a<p∧rf p l (p-a)=p-rf p l a
 |[],a,_,h1,h3=>⟨h1,h3,rfl⟩
 |d::l,a,hl,h1,h3=>by
  have hd:=hl d (by simp)
  have hnz:a*F8 p d%p≠0:=by
   intro q
   rcases(lL hp).mp q with r|r
   .rw[Aw h3]at r;omega
   .rw[aBu,Ht]at r;exact aFq hp h2 d hd r
  have ih:=bBi hp h2 l (a*F8 p d%p) (fun x hx=>hl x (by simp[hx])) (by omega) (Bx _ (by omega))
  refine⟨ih.1,ih.2.1,?_⟩
  show rf p l ((p-a)*F8 p d%p)=p-rf p l (a*F8 p d%p)
  rw[aVc h3 hnz,ih.2.2]
noncomputable def rr (p f u a:Nat):Nat:=if Bi p f u%2=0 then rf p (A2 p f u) a else(p-rf p (A2 p f u) a)%p
theorem aX7{p f u a:Nat}(hp:Bh p=true)(h2:2≤p)(hu:u≠0)(h1:0<a)(h3:a<p):0<a*By (u%p)%p∧rr p (f+1) u a=if u/p%2=1 then rr p f (u/p) (p-a*By (u%p)%p)else rr p f (u/p) (a*By (u%p)%p):=by
 have hd:=Bx u (show 0<p by omega)
 have hnz:a*By (u%p)%p≠0:=by
  intro q
  rcases(lL hp).mp q with r|r
  .rw[Aw h3]at r;omega
  .exact aFq hp h2 _ hd r
 refine⟨by omega,?_⟩
 have hlt:=Bx (a*By (u%p)) (show 0<p by omega)
 unfold rr
 have e1:Bi p (f+1) u=u/p+Bi p f (u/p):=by
  show(if u=0 then 0 else u/p+Bi p f (u/p))=_
  rw[ig hu]
 have e2:A2 p (f+1) u=u%p::A2 p f (u/p):=by
  show(if u=0 then[]else u%p::A2 p f (u/p))=_
  rw[ig hu]
 have e3:rf p (u%p::A2 p f (u/p)) a=rf p (A2 p f (u/p)) (a*By (u%p)%p):=by
  show rf p _ (a*F8 p (u%p)%p)=_
  rw[aBu,J0]
 rw[e1,e2,e3]
 have hr:=bBi hp h2 (A2 p f (u/p)) (a*By (u%p)%p) (fun d hd=>aAb (by omega) _ _ _ hd) (by omega) hlt
 rw[hr.2.2]
 generalize rf p (A2 p f (u/p)) (a*By (u%p)%p)=X at hr ⊢
 generalize u/p=w
 generalize Bi p f w=T
 have m1:(p-X)%p=p-X:=Aw (by omega)
 have m2:(p-(p-X))%p=X:=by rw[show p-(p-X)=X by omega];exact Aw hr.2.1
 by_cases hw:w%2=1
 .rw[ip hw]
  by_cases ht:T%2=0
  .rw[ip ht,ig (by omega),m1]
  .rw[ig ht,ip (by omega),m2]
 .rw[ig hw]
  by_cases ht:T%2=0
  .rw[ip ht,ip (by omega)]
  .rw[ig ht,ig (by omega)]
section
variable{F:Nat→List Dat→Option Dat}{G:Nat→Option Dat}
theorem aC3{n:Nat}(h:n<1000):gB [N n]=some (N (By n)):=gQ h
theorem aQh(f p n:Nat)(hp:Bh p=true)(h2:2≤p)(hp':p<100)(h0:F eE=gB):∀(fuel k u a:Nat),u<2^k→k<fuel→0<a→a<p→
  lE (fun e=>tst F G (.cmp .gt (.var 3) (.int 0)) (rho e)) (fun e=>run F G f (.cons (.set 2 false (.bin .mod (.bin .mul (.var 2) (.call eE (.cons (.bin .mod (.var 3) (.var 1)) .nil))) (.var 1))) (.cons (.ite (.cmp .eq (.bin .mod (.bin .fdiv (.var 3) (.var 1)) (.int 2)) (.int 1)) (.cons (.set 2 false (.bin .sub (.var 1) (.var 2))) .nil) .nil) (.cons (.set 3 false (.bin .fdiv (.var 3) (.var 1))) .nil))) e) fuel
   [I n,I p,I a,I u]=some (.nxt [I n,I p,I (rr p k u a:Nat),I 0]):=by
 intro fuel
 induction fuel with
 |zero=>intro k u a _ h;omega
 |succ fuel ih=>
  intro k u a hu hk h1 h3
  by_cases hz:u=0
  .subst hz
   have t0:tst F G (.cmp .gt (.var 3) (.int 0)) (rho [I n,I p,I a,I 0])=some false:=aS5 (by w_fin)
   have:rr p k 0 a=a:=by
    unfold rr
    have e1:Bi p k 0=0:=by cases k<;>simp[Bi]
    have e2:A2 p k 0=[]:=by cases k<;>simp[A2]
    rw[e1,e2];rfl
   rw[this]
   exact iY t0
  .cases k with
   |zero=>simp at hu;omega
   |succ k=>
    have t0:tst F G (.cmp .gt (.var 3) (.int 0)) (rho [I n,I p,I a,I u])=some true:=by
     have:ev F G (.cmp .gt (.var 3) (.int 0)) (rho [I n,I p,I a,I u])=some (.bl (decide ((0:Int)<u))):=by w_fin
     rw[det (by omega)]at this
     exact aS5 this
    obtain⟨hpos,hrr⟩:=aX7 (f:=k) hp h2 hz h1 h3
    have hlt:=Bx (a*By (u%p)) (show 0<p by omega)
    have e1:bop .mod (N u) (N p)=some (N (u%p)):=cG (by omega)
    have e2:=ap h0 (aC3 (n:=u%p) (by have:=Bx u (show 0<p by omega);omega))
    have e3:bop .mul (N a) (N (By (u%p)))=some (N (a*By (u%p))):=dO (.inl (by omega))
    have e4:bop .mod (N (a*By (u%p))) (N p)=some (N (a*By (u%p)%p)):=cG (by omega)
    have e5:bop .fdiv (N u) (N p)=some (N (u/p)):=bT (by omega) (by omega)
    have e6:bop .mod (N (u/p)) (.int 2)=some (N (u/p%2)):=cG (n:=2) (by omega)
    generalize hA:a*By (u%p)%p=A at *
    have s1:mQ F G f (.set 2 false (.bin .mod (.bin .mul (.var 2) (.call eE (.cons (.bin .mod (.var 3) (.var 1)) .nil))) (.var 1))) [I n,I p,I a,I u]=some (.nxt [I n,I p,I A,I u]):=aI (z:=A) (by w_fin)
    have t1:ev F G (.cmp .eq (.bin .mod (.bin .fdiv (.var 3) (.var 1)) (.int 2)) (.int 1)) (rho [I n,I p,I A,I u])=some (.bl (decide (((u/p%2:Nat):Int)=1))):=by w_fin
    by_cases hw:u/p%2=1
    .rw[det (by omega)]at t1
     rw[ip hw]at hrr
     have s2:mQ F G f (.set 2 false (.bin .sub (.var 1) (.var 2))) [I n,I p,I A,I u]=some (.nxt [I n,I p,I (p-A:Nat),I u]):=aI (z:=(p-A:Nat)) (by rw[D1 (by omega)];w_fin)
     rw[fT (e':=[I n,I p,I (p-A:Nat),I (u/p:Nat)]) t0 (aD s1 (aD (eQ t1 (aM s2)) (aD (aI (z:=(u/p:Nat)) (by w_fin)) aR))),ih k (u/p) (p-A) (kF h2 hu) (by omega) (by omega) (by omega),hrr]
    .rw[def_ (by omega)]at t1
     rw[ig hw]at hrr
     rw[fT (e':=[I n,I p,I A,I (u/p:Nat)]) t0 (aD s1 (aD (eF t1 aR) (aD (aI (z:=(u/p:Nat)) (by w_fin)) aR))),ih k (u/p) A (kF h2 hu) (by omega) (by omega) hlt,hrr]
def iD:=nn2 (fun n p=>n<16777216∧Ba p=true) fun n p=>N (Kb p n)
theorem qV(h0:F eE=gB):Computes F G 4 gZ iD:=by
 refine pF (by decide) fun n p h=>⟨25,?_⟩
 unfold gZ
 have hb:=nQ h.2
 have hx:=aQh (F:=F) (G:=G) 25 p n (lK h.2) hb.1 hb.2 h0 25 24 n 1 h.1 (by omega) (by omega) (by omega)
 have e:rr p 24 n 1=Kb p n:=by
  unfold rr Kb
  simp only[Aw (show 1<p by omega)]
  rfl
 rw[e]at hx
 refine aD (s':=[I n,I p,I 1,none]) (aI (z:=1) bJ) (aD (s':=[I n,I p,I 1,I n]) (aI (z:=n) (by w_fin)) (aD (aBk.trans hx) ?_))
 exact aF (eB (by w_fin) rfl)
def qO:=nd1 fun p n=>a7 (Ci (some p) (.rest n)).2
theorem aIz(hG:G aK=some (.int 1000000))(hW:G aH=some (.int (-22)))(h0:F iJ=iD):Computes F G 2 uW qO:=by
 refine cd1 (by decide) fun p n hp hb hn=>⟨0,?_⟩
 unfold uW
 refine aS (P:=(1000000:Int)<n) hW (by w_fin) (fun h=>?_) fun h=>?_
 .exact congrArg a7 (ip (show Cs<n from by unfold Cs;omega))
 .rw[show(Ci (some p) (.rest n)).2=Jz (Kb p n:Int)from ig (show ¬Cs<n from by unfold Cs;omega)]
  have e1:F iJ [N n,N p]=some (N (Kb p n)):=ap h0 (dN ⟨by omega,hp⟩)
  exact fA (by w_fin)
noncomputable def av (p r:Nat) (l:List Nat):List Nat:=(Ab (r+1)).map fun k=>if Ap p r k=0 then 0 else(if k=0 then 0 else l.getD (k-1) 0)+l.getD k 0
theorem pU(p n:Nat):C9 p (n+1)=av p (n+1) (C9 p n):=rfl
theorem sX(p:Nat):∀n,(C9 p n).length=n+1
 |0=>rfl
 |n+1=>by rw[pU];unfold av;simp
open Classical in
noncomputable def cR:List Dat→Option Dat
 |[.int (.ofNat r),.lst ds,.int (.ofNat p)]=>(nats ds).bind fun l=>if l.length=r∧r≤1000∧Ba p=true then some (.lst ((av p r l).map N))else none
 |_=>none
theorem aHs{r p:Nat}{l:List Nat}(h:l.length=r∧r≤1000∧Ba p=true):cR [N r,.lst (l.map N),N p]=some (.lst ((av p r l).map N)):=by
 show(nats (l.map N)).bind _=_
 rw[tF,Af];exact ip h
theorem aK8(f r p:Nat)(g R L:Slot)(l:List Nat)(hr:l.length=r)(hr2:r≤1000)(hp:Ba p=true)(h0:F bA=dU):∀(m k:Nat)(acc:List Dat)(v:Slot),k+m=r+1→acc.length=k→∃v',
  lN (.one 6) (fun e=>run F G f (.cons (.ite (.cmp .gt (.call bA (.cons (.var 0) (.cons (.var 6) (.cons (.var 2) .nil)))) (.int 0)) (.cons (.app 5 (.int 0)) .nil) (.cons (.app 5 (.bin .add (.idx (.var 3) (.var 6)) (.idx (.var 4) (.var 6)))) .nil)) .nil) e) ((Ab m).map fun t=>N (k+t)) [I r,g,I p,some (.lst ((0::l).map N),false),some (.lst ((l++[0]).map N),false),some (.lst acc,true),v] =
   some (.nxt [I r,g,I p,some (.lst ((0::l).map N),false),some (.lst ((l++[0]).map N),false),some (.lst (acc++((Ab m).map fun t=>N (if Ap p r (k+t)=0 then 0 else(if k+t=0 then 0 else l.getD (k+t-1) 0)+l.getD (k+t) 0))),true),v'])
 |0,k,acc,v,_,_=>⟨v,by simp[pH]⟩
 |m+1,k,acc,v,hk,ha=>by
  have hb:=nQ hp
  have e1:=ap h0 (fZ (n:=r) (k:=k) (p:=p) (by omega) (by omega) hb)
  have t0:ev F G (.cmp .gt (.call bA (.cons (.var 0) (.cons (.var 6) (.cons (.var 2) .nil)))) (.int 0)) (rho [I r,g,I p,some (.lst ((0::l).map N),false),some (.lst ((l++[0]).map N),false),some (.lst acc,true),I k])=some (.bl (decide ((0:Int)<(Ao p r k:Nat)))):=by w_fin
  have hlt:=rX (n:=r) (k:=k) (lK hp) hb.1 (by omega)
  have er:((Ab (m+1)).map fun t=>N (k+t))=N k::(Ab m).map fun t=>N (k+1+t):=by
   rw[Av,Ai,Aj]
   congr 1
   exact Ax fun x _=>by show N (k+(x+1))=_;rw[show k+(x+1)=k+1+x by omega]
  have er2:∀q:Nat→Nat,((Ab (m+1)).map fun t=>N (q (k+t)))=N (q k)::(Ab m).map fun t=>N (q (k+1+t)):=by
   intro q
   rw[Av,Ai,Aj]
   congr 1
   exact Ax fun x _=>by show N (q (k+(x+1)))=_;rw[show k+(x+1)=k+1+x by omega]
  rw[er,er2 fun k=>if Ap p r k=0 then 0 else(if k=0 then 0 else l.getD (k-1) 0)+l.getD k 0]
  have fin:∀w:Nat,(if Ap p r k=0 then 0 else(if k=0 then 0 else l.getD (k-1) 0)+l.getD k 0)=w→run F G f (.cons (.ite (.cmp .gt (.call bA (.cons (.var 0) (.cons (.var 6) (.cons (.var 2) .nil)))) (.int 0)) (.cons (.app 5 (.int 0)) .nil) (.cons (.app 5 (.bin .add (.idx (.var 3) (.var 6)) (.idx (.var 4) (.var 6)))) .nil)) .nil) [I r,g,I p,some (.lst ((0::l).map N),false),some (.lst ((l++[0]).map N),false),some (.lst acc,true),I k]=some (.nxt [I r,g,I p,some (.lst ((0::l).map N),false),some (.lst ((l++[0]).map N),false),some (.lst (acc++[N w]),true),I k]):=by
   intro w hw
   by_cases hz:Ao p r k=0
   .have:Ap p r k≠0:=fun q=>by rw[q,hz]at hlt;cases hlt
    rw[ig this]at hw
    rw[hz]at t0
    have i0:idx (.lst ((0::l).map N)) (N k)=some (N (if k=0 then 0 else l.getD (k-1) 0)):=xR (by
     cases k with
     |zero=>rfl
     |succ k=>rw[ig (by omega),C6,Cu,B4,Bf (by omega)];rfl)
    have i1:idx (.lst ((l++[0]).map N)) (N k)=some (N (l.getD k 0)):=xR (by
     rw[B4]
     by_cases hkl:k<l.length
     .rw[Cz hkl,Bf hkl];rfl
     .have:k=l.length:=by omega
      subst this
      rw[Dx (An _),Nat.sub_self,Dh (An _)];rfl)
    rw[←hw]
    exact aD (eF t0 (aM (yG (l:=acc) (d:=N ((if k=0 then 0 else l.getD (k-1) 0)+l.getD k 0)) rfl (by rw[show N ((if k=0 then 0 else l.getD (k-1) 0)+l.getD k 0)=Dat.int (((if k=0 then 0 else l.getD (k-1) 0:Nat):Int)+(l.getD k 0:Nat))from rfl];w_fin) rfl (by show acc.length<16777216;omega)))) aR
   .have:Ap p r k=0:=by
     rw[show(Ao p r k==0)=false by simp[hz]]at hlt;simpa using hlt
    rw[ip this]at hw
    rw[det (by omega)]at t0
    rw[←hw]
    exact aD (eQ t0 (aM (yG (l:=acc) (d:=.int 0) rfl bJ rfl (by show acc.length<16777216;omega)))) aR
  obtain⟨v',ih⟩:=aK8 f r p g R L l hr hr2 hp h0 m (k+1) (acc++[N (if Ap p r k=0 then 0 else(if k=0 then 0 else l.getD (k-1) 0)+l.getD k 0)]) (I k) (by omega) (by simp[ha])
  refine⟨v',?_⟩
  have hf:=fin _ rfl
  clear fin
  refine Aq (bH (e1:=[I r,g,I p,some (.lst ((0::l).map N),false),some (.lst ((l++[0]).map N),false),some (.lst acc,true),I k]) rfl (by with_reducible exact hf)) ?_
  rw[ih,Dj]
  rfl
theorem wO(h0:F bA=dU):Computes F G 7 iM cR:=by
 intro args d e
 unfold cR at e;split at e
 case h_2=>cases e
 rename_i r ds p
 obtain⟨l,hl,e⟩:=Aa.mp e
 split at e
 case isFalse=>cases e
 rename_i hh
 cases e
 rw[aBb hl]
 refine⟨show 3≤7 by omega,0,?_⟩
 show run F G 0 iM [I r,some (.lst (l.map N),false),I p,none,none,none,none]=_
 unfold iM
 have c1:bop .add (.lst [N 0]) (.lst (l.map N))=some (.lst ((0::l).map N)):=by
  rw[nB,ip (by rw[Ag];simp[SZ];omega)];rfl
 have c2:bop .add (.lst (l.map N)) (.lst [N 0])=some (.lst ((l++[0]).map N)):=by
  rw[nB,ip (by rw[Ag];simp[SZ];omega),A7];rfl
 have l1:∀ρ,ev F G (.lst (.cons (.int 0) .nil)) ρ=some (.lst [N 0]):=fun ρ=>kG (aG bJ aE) (show 1≤16777216 by omega)
 refine aD (s':=[I r,some (.lst (l.map N),false),I p,some (.lst ((0::l).map N),false),none,none,none]) (iL (d:=.lst ((0::l).map N)) (jL (l1 _) (aV rfl) c1) rfl) ?_
 refine aD (s':=[I r,some (.lst (l.map N),false),I p,some (.lst ((0::l).map N),false),some (.lst ((l++[0]).map N),false),none,none]) (iL (d:=.lst ((l++[0]).map N)) (jL (aV rfl) (l1 _) c2) rfl) ?_
 refine aD (s':=[I r,some (.lst (l.map N),false),I p,some (.lst ((0::l).map N),false),some (.lst ((l++[0]).map N),false),some (.lst [],true),none]) (aBj (d:=.lst []) (kG aE (show 0≤16777216 by omega)) rfl rfl) ?_
 have e4:Pl.range [Dat.int ((r:Int)+1)]=some ((Ab (r+1)).map N):=jJ (j:=r+1) (by omega)
 have e5:evs F G (.cons (.bin .add (.var 0) (.int 1)) .nil) (rho [I r,some (.lst (l.map N),false),I p,some (.lst ((0::l).map N),false),some (.lst ((l++[0]).map N),false),some (.lst [],true),none])=some [Dat.int ((r:Int)+1)]:=by w_fin
 obtain⟨v,hv⟩:=aK8 (F:=F) (G:=G) 0 r p (some (.lst (l.map N),false)) none none l hh.1 hh.2.1 hh.2.2 h0 (r+1) 0 [] none (by omega) rfl
 simp only[Bw,Cq]at hv
 refine aD (jG (cE e5 e4) rfl hv) ?_
 have:((Ab (r+1)).map fun t=>N (if Ap p r t=0 then 0 else(if t=0 then 0 else l.getD (t-1) 0)+l.getD t 0))=(av p r l).map N:=by
  unfold av;rw[Aj];rfl
 rw[this]
 exact aF (xC (aV rfl) rfl)
theorem aPc(f row place p:Nat)(hp:Ba p=true)(h0:F iU=cR):∀(m k:Nat)(v:Slot),k+m≤1000→∃v',
  lN (.one 4) (fun e=>run F G f (.cons (.set 3 false (.call iU (.cons (.var 4) (.cons (.var 3) (.cons (.var 2) .nil))))) .nil) e) ((Ab m).map fun t=>N (k+1+t)) [I row,I place,I p,some (.lst ((C9 p k).map N),false),v] =
   some (.nxt [I row,I place,I p,some (.lst ((C9 p (k+m)).map N),false),v'])
 |0,k,v,_=>⟨v,rfl⟩
 |m+1,k,v,h=>by
  have er:((Ab (m+1)).map fun t=>N (k+1+t))=N (k+1)::(Ab m).map fun t=>N (k+1+1+t):=by
   rw[Av,Ai,Aj]
   congr 1
   exact Ax fun x _=>by show N (k+1+(x+1))=_;rw[show k+1+(x+1)=k+1+1+x by omega]
  obtain⟨v',ih⟩:=aPc f row place p hp h0 m (k+1) (I (k+1:Nat)) (by omega)
  refine⟨v',?_⟩
  have e1:=ap h0 (aHs (r:=k+1) (p:=p) (l:=C9 p k) ⟨sX p k,by omega,hp⟩)
  rw[←pU]at e1
  rw[er,bH (e1:=[I row,I place,I p,some (.lst ((C9 p k).map N),false),I (k+1:Nat)]) (e':=[I row,I place,I p,some (.lst ((C9 p (k+1)).map N),false),I (k+1:Nat)]) rfl (aM (iL (d:=.lst ((C9 p (k+1)).map N)) (by w_fin) rfl)),ih,show k+1+m=k+(m+1) by omega]
def gP:=nn3 (fun n k p=>n≤24∧k≤n∧Ba p=true) fun n k p=>N (Ft p n k)
theorem tU(h0:F iU=cR):Computes F G 5 kE gP:=by
 refine aLa (by decide) fun n k p h=>⟨0,?_⟩
 unfold kE
 refine aD (s':=[I n,I k,I p,some (.lst ((C9 p 0).map N),false),none]) (iL (d:=.lst [.int 1]) (kG (aG bJ aE) (show 1≤16777216 by omega)) rfl) ?_
 have e4:Pl.range [Dat.int 1,Dat.int ((n:Int)+1)]=some ((Ab (n+1-1)).map fun t=>N (1+t)):=oQ (i:=1) (j:=n+1) (by omega) (by omega)
 have e5:evs F G (.cons (.int 1) (.cons (.bin .add (.var 0) (.int 1)) .nil)) (rho [I n,I k,I p,some (.lst ((C9 p 0).map N),false),none])=some [Dat.int 1,Dat.int ((n:Int)+1)]:=by w_fin
 obtain⟨v,hv⟩:=aPc (F:=F) (G:=G) 0 n k p h.2.2 h0 n 0 none (by omega)
 simp only[Bw]at hv
 rw[Cu]at e4
 refine aD (jG (cE e5 e4) rfl hv) ?_
 have i0:idx (.lst ((C9 p n).map N)) (N k)=some (N (Ft p n k)):=xR (by
  unfold Ft
  rw[B4,Bf (by rw[sX];omega)];rfl)
 exact aF (eB (by w_fin) rfl)
end
noncomputable abbrev BL (n m:Nat):Dat:=.lst ((bits n m).map N)
abbrev BS(n m:Nat):Slot:=some (BL n m,false)
theorem bCn{n m a b:Nat}(h:m<2^n)(g:b<2^a)(e:BL n m=BL a b):n=a∧m=b:=by
 have e1:=nj (Dat.lst.inj e)
 have e2:=congrArg Iw e1
 rw[cF,cF]at e2
 have e3:=congrArg val e1
 rw[oE n m h,oE a b g]at e3
 exact⟨e2,e3⟩
abbrev eS(z:(Nat×Nat)×List Nat):List Dat:=[BL z.1.1 z.1.2,.lst (z.2.map N)]
def SOk(z:Nat×Nat):Prop:=z.1≤24∧z.2<2^z.1
theorem bD2{a:(Nat×Nat)×List Nat}(ha:SOk a.1)(b:(Nat×Nat)×List Nat)(hb:SOk b.1)(h:eS b=eS a):b=a:=by
 obtain⟨⟨n,m⟩,l⟩:=b
 obtain⟨⟨n',m'⟩,l'⟩:=a
 have h2:Dat.lst (l.map N)=.lst (l'.map N):=(Dk.inj (Dk.inj h).2).1
 cases nj (Dat.lst.inj h2)
 obtain⟨e1,e2⟩:=bCn hb.2 ha.2 (Dk.inj h).1
 cases e1
 cases e2
 rfl
def ns(v:Nat→Nat→Dat):List Dat→Option Dat:=wo (fun z:Nat×Nat=>[BL z.1 z.2]) SOk fun z=>v z.1 z.2
def ns0(v:Nat→Nat→Dat):List Dat→Option Dat:=wo eS (fun z=>SOk z.1∧z.2=[]) fun z=>v z.1.1 z.1.2
def ns1(v:Nat→Nat→Nat→Dat):List Dat→Option Dat:=wo eS (fun z=>SOk z.1∧∃a,z.2=[a]∧a<B32) fun z=>v z.1.1 z.1.2 (z.2.getD 0 0)
def ns2(v:Nat→Nat→Nat→Nat→Dat):List Dat→Option Dat:=wo eS (fun z=>SOk z.1∧∃a b,z.2=[a,b]∧a<B32∧b<B32) fun z=>v z.1.1 z.1.2 (z.2.getD 0 0) (z.2.getD 1 0)
theorem aCt{v}{n m:Nat}(hn:n≤24)(hm:m<2^n):ns v [BL n m]=some (v n m):=gU (a:=(n,m)) (fun b hb h=>by
 obtain⟨x,y⟩:=b
 obtain⟨e1,e2⟩:=bCn hb.2 hm (Dk.inj h).1
 cases e1
 cases e2
 rfl) ⟨hn,hm⟩
theorem aF6{v}{n m:Nat}(hn:n≤24)(hm:m<2^n):ns0 v [BL n m,.lst []]=some (v n m):=gU (a:=((n,m),[])) (fun b hb=>bD2 ⟨hn,hm⟩ b hb.1) ⟨⟨hn,hm⟩,rfl⟩
theorem wM{v}{n m a:Nat}(hn:n≤24)(hm:m<2^n)(ha:a<B32):ns1 v [BL n m,.lst [N a]]=some (v n m a):=gU (a:=((n,m),[a])) (fun b hb=>bD2 ⟨hn,hm⟩ b hb.1) ⟨⟨hn,hm⟩,_,rfl,ha⟩
theorem aNa{v}{n m a b:Nat}(hn:n≤24)(hm:m<2^n)(ha:a<B32)(hb:b<B32):ns2 v [BL n m,.lst [N a,N b]]=some (v n m a b):=gU (a:=((n,m),[a,b])) (fun b hb=>bD2 ⟨hn,hm⟩ b hb.1) ⟨⟨hn,hm⟩,_,_,rfl,ha,hb⟩
section
variable{F:Nat→List Dat→Option Dat}{G:Nat→Option Dat}
theorem cs{v s b}(hs:1≤s)(h:∀n m:Nat,n≤24→m<2^n→∃fuel,run F G fuel b (BS n m::A8 (s-1) none)=some (.ret (v n m))):Computes F G s b (ns v):=by
 intro args d e
 obtain⟨⟨n,m⟩,rfl,hp,rfl⟩:=gC e
 exact⟨hs,h _ _ hp.1 hp.2⟩
theorem cs0{v s b}(hs:2≤s)(h:∀n m:Nat,n≤24→m<2^n→∃fuel,run F G fuel b (BS n m::some (.lst [],false)::A8 (s-2) none)=some (.ret (v n m))):Computes F G s b (ns0 v):=by
 intro args d e
 obtain⟨⟨⟨n,m⟩,l⟩,rfl,⟨hp,rfl⟩,rfl⟩:=gC e
 exact⟨hs,h _ _ hp.1 hp.2⟩
theorem cs1{v s b}(hs:2≤s)(h:∀n m a:Nat,n≤24→m<2^n→a<B32→∃fuel,run F G fuel b (BS n m::L1 a::A8 (s-2) none)=some (.ret (v n m a))):Computes F G s b (ns1 v):=by
 intro args d e
 obtain⟨⟨⟨n,m⟩,l⟩,rfl,⟨hp,x,rfl,hx⟩,rfl⟩:=gC e
 exact⟨hs,h _ _ _ hp.1 hp.2 hx⟩
theorem cs2{v s b}(hs:2≤s)(h:∀n m a c:Nat,n≤24→m<2^n→a<B32→c<B32→∃fuel,run F G fuel b (BS n m::L2 a c::A8 (s-2) none)=some (.ret (v n m a c))):Computes F G s b (ns2 v):=by
 intro args d e
 obtain⟨⟨⟨n,m⟩,l⟩,rfl,⟨hp,x,y,rfl,hx,hy⟩,rfl⟩:=gC e
 exact⟨hs,h _ _ _ _ hp.1 hp.2 hx hy⟩
theorem rA(m:Nat)(q:Nat→Dat)(k:Nat):((Ab (m+1)).map fun t=>q (k+t))=q k::(Ab m).map fun t=>q (k+1+t):=by
 rw[Av,Ai,Aj]
 congr 1
 exact Ax fun x _=>by show q (k+(x+1))=_;rw[show k+(x+1)=k+1+x by omega]
theorem aPw(n m:Nat):(bits n m).map N=(Ab n).map fun t=>N (m/2^(0+t)%2):=by
 unfold bits;rw[Aj]
 exact Ax fun x _=>by rw[Bw];rfl
noncomputable def pbl (n m:Nat):List Nat:=(Ab (n+1)).map fun i=>pc i m
theorem aO2(f n m:Nat)(g:Slot):∀(r i:Nat)(v:Slot),i+r≤24→∃v',
  lN (.one 2) (fun e=>run F G f (.cons (.app 1 (.bin .add (.idx (.var 1) (.neg (.int 1))) (.var 2))) .nil) e) ((Ab r).map fun t=>N (m/2^(i+t)%2)) [g,some (.lst ((pbl i m).map N),true),v]=some (.nxt [g,some (.lst ((pbl (i+r) m).map N),true),v'])
 |0,i,v,_=>⟨v,rfl⟩
 |r+1,i,v,h=>by
  obtain⟨v',ih⟩:=aO2 f n m g r (i+1) (I (m/2^i%2:Nat)) (by omega)
  refine⟨v',?_⟩
  have e1:(pbl i m).map N=((Ab i).map fun i=>N (pc i m))++[N (pc i m)]:=by
   unfold pbl;rw[B5,A7,A7,Aj];rfl
  have e2:idx (.lst ((pbl i m).map N)) (.int (-1))=some (N (pc i m)):=by rw[nJ,e1];exact aK7
  have e3:(pbl (i+1) m).map N=(pbl i m).map N++[.int ((pc i m:Int)+(m/2^i%2:Nat))]:=by
   unfold pbl;rw[B5 (n:=i+1),A7,A7,Dq,Dq,sM];rfl
  have e4:((pbl i m).map N).length<16777216:=by unfold pbl;simp;omega
  have hn:=yP (F:=F) (G:=G) (r:=rho [g,some (.lst ((pbl i m).map N),true),I (m/2^i%2:Nat)])
  rw[rA r (fun t=>N (m/2^t%2)),bH (e1:=[g,some (.lst ((pbl i m).map N),true),I (m/2^i%2:Nat)]) (e':=[g,some (.lst ((pbl (i+1) m).map N),true),I (m/2^i%2:Nat)]) rfl
   (by rw[e3];exact aM (yG (l:=(pbl i m).map N) (d:=.int ((pc i m:Int)+(m/2^i%2:Nat))) rfl (by w_fin) rfl e4)),ih,show i+1+r=i+(r+1) by omega]
noncomputable def dW:=ns fun n m=>.lst ((pbl n m).map N)
theorem tT:Computes F G 3 kD dW:=by
 refine cs (by decide) fun n m hn hm=>⟨0,?_⟩
 unfold kD
 have e1:ev F G (.var 0) (rho [BS n m,some (.lst ((pbl 0 m).map N),true),none])=some (.lst ((bits n m).map N)):=by w_fin
 obtain⟨v,hv⟩:=aO2 (F:=F) (G:=G) 0 n m (BS n m) n 0 none (by omega)
 rw[←aPw,Bw]at hv
 exact aD (s':=[BS n m,some (.lst ((pbl 0 m).map N),true),none]) (aBj (d:=.lst [.int 0]) (kG (aG bJ aE) (show 1≤16777216 by omega)) rfl rfl) (aD (jG (aGp e1) rfl hv) (aF (xC (aV rfl) rfl)))
theorem aXv{n m:Nat}(hn:n≤24)(hm:m<2^n):dW [BL n m]=some (.lst ((pbl n m).map N)):=aCt hn hm
noncomputable def fY:=ns fun n m=>.lst ((Ay n m).map N)
theorem aD0:Computes F G 3 oY fY:=by
 refine cs (by decide) fun n m hn hm=>⟨0,?_⟩
 unfold oY
 have e1:ev F G (.var 0) (rho [BS n m,none,none])=some (.lst ((bits n m).map N)):=by w_fin
 have e2:=vU e1
 unfold bits at e2
 rw[Aj,jV]at e2
 refine aF (fK ?_ rfl mE)
 unfold Ay
 refine rT _ (fun i=>Ef m i) N _ e2 (by simp[SZ];omega) fun i hi=>⟨[some (BL n m),some (N (0+i)),some (N (m/2^i%2))],rfl,?_,fun _=>by rw[Bw];w_fin⟩
 rw[dA,←jF];w_fin
theorem tW{n m:Nat}(hn:n≤24)(hm:m<2^n):fY [BL n m]=some (.lst ((Ay n m).map N)):=aCt hn hm
theorem aP5(f:Nat)(g:Slot):∀(l:List Nat)(a:Nat)(v:Slot),∃v',
  lN (.one 2) (fun e=>run F G f (.cons (.set 1 false (.bin .add (.bin .mul (.int 2) (.var 1)) (.var 2))) .nil) e) (l.map N) [g,I a,v]=some (.nxt [g,I (l.foldl (fun(a b:Nat)=>2*a+b) a:Nat),v'])
 |[],a,v=>⟨v,rfl⟩
 |x::l,a,v=>by
  obtain⟨v',ih⟩:=aP5 f g l (2*a+x) (I x)
  refine⟨v',?_⟩
  have e3:bop .mul (.int 2) (N a)=some (N (2*a)):=dO (m:=2) (.inl (by omega))
  rw[Ai,bH (e1:=[g,I a,I x]) (e':=[g,I (2*a+x:Nat),I x]) rfl (aM (aI (z:=(2*a+x:Nat)) (by rw[Ei];w_fin))),ih]
  rfl
theorem aGm:∀l:List Nat,l.reverse.foldl (fun(a b:Nat)=>2*a+b) 0=val l
 |[]=>rfl
 |b::l=>by rw[Et,Iu,aGm l];show 2*val l+b=b+2*val l;omega
noncomputable def nO:=ns fun n m=>N m
theorem aJ4:Computes F G 3 vB nO:=by
 refine cs (by decide) fun n m hn hm=>⟨0,?_⟩
 unfold vB
 have e1:ev F G (.var 0) (rho [BS n m,I 0,none])=some (.lst ((bits n m).map N)):=by w_fin
 have e2:=aYv e1
 rw[←Jf]at e2
 obtain⟨v,hv⟩:=aP5 (F:=F) (G:=G) 0 (BS n m) (bits n m).reverse 0 none
 rw[aGm,oE n m hm]at hv
 exact aD (s':=[BS n m,I 0,none]) (aI (z:=0) bJ) (aD (jG e2 rfl hv) (aF (eB (by w_fin) rfl)))
theorem aSi{n m:Nat}(hn:n≤24)(hm:m<2^n):nO [BL n m]=some (N m):=aCt hn hm
theorem aOx(f a n:Nat):∀(r i:Nat)(v:Slot),i+r≤24→∃v',
  lN (.one 4) (fun e=>run F G f (.cons (.app 2 (.bin .mod (.var 3) (.int 2))) (.cons (.set 3 false (.bin .fdiv (.var 3) (.int 2))) .nil)) e) ((Ab r).map fun t=>N (i+t)) [I a,I n,some (.lst ((bits i a).map N),true),I (a/2^i:Nat),v]=some (.nxt [I a,I n,some (.lst ((bits (i+r) a).map N),true),I (a/2^(i+r):Nat),v'])
 |0,i,v,_=>⟨v,rfl⟩
 |r+1,i,v,h=>by
  obtain⟨v',ih⟩:=aOx f a n r (i+1) (I i) (by omega)
  refine⟨v',?_⟩
  have e1:bop .mod (N (a/2^i)) (.int 2)=some (N (a/2^i%2)):=cG (n:=2) (by omega)
  have e2:bop .fdiv (N (a/2^i)) (.int 2)=some (N (a/2^(i+1))):=by rw[Cm,←C0];exact bT (n:=2) (by omega) (by omega)
  have e3:(bits (i+1) a).map N=(bits i a).map N++[N (a/2^i%2)]:=by rw[pV,A7];rfl
  have e4:((bits i a).map N).length<16777216:=by rw[Ag,cF];omega
  rw[rA r N,bH (e1:=[I a,I n,some (.lst ((bits i a).map N),true),I (a/2^i:Nat),I i]) (e':=[I a,I n,some (.lst ((bits (i+1) a).map N),true),I (a/2^(i+1):Nat),I i]) rfl
   (by rw[e3];exact aD (yG (l:=(bits i a).map N) (d:=N (a/2^i%2)) rfl (by w_fin) rfl e4) (aD (aI (z:=(a/2^(i+1):Nat)) (by w_fin)) aR)),ih,show i+1+r=i+(r+1) by omega]
def fG:=nn2 (fun a n=>n≤24) fun a n=>if a<2^n then BL n a else .non
theorem aBh:Computes F G 5 mZ fG:=by
 refine pF (by decide) fun a n hn=>⟨0,?_⟩
 unfold mZ
 refine aD (s':=[I a,I n,some (.lst [],true),none,none]) (aBj (d:=.lst []) (kG aE (show 0≤16777216 by omega)) rfl rfl) ?_
 refine aD (s':=[I a,I n,some (.lst [],true),I a,none]) (aI (z:=a) (by w_fin)) ?_
 have e4:Pl.range [N n]=some ((Ab n).map N):=jJ (j:=n) (by omega)
 have e5:evs F G (.cons (.var 1) .nil) (rho [I a,I n,some (.lst [],true),I a,none])=some [N n]:=by w_fin
 obtain⟨v,hv⟩:=aOx (F:=F) (G:=G) 0 a n n 0 none (by omega)
 simp only[Bw,Li,Lz]at hv
 refine aD (jG (cE e5 e4) rfl hv) ?_
 have t0:ev F G (.cmp .eq (.var 3) (.int 0)) (rho [I a,I n,some (.lst ((bits n a).map N),true),I (a/2^n:Nat),v])=some (.bl (decide (((a/2^n:Nat):Int)=0))):=by w_fin
 by_cases h:a<2^n
 .rw[ip h]
  rw[Dv h]at t0 ⊢
  refine aF (xC (d:=BL n a) ?_ rfl)
  rw[aSw,t0]
  rfl
 .rw[ig h]
  have:0<a/2^n:=Kj (by omega) (D3 n)
  rw[def_ (by omega)]at t0
  refine aF (eB (d:=.non) ?_ rfl)
  rw[aSw,t0]
  rfl
theorem bC5{a n:Nat}(hn:n≤24):fG [N a,N n]=some (if a<2^n then BL n a else .non):=dN hn
theorem qT(x:Nat):∀(l:List Nat)(k:Nat),Il (l++[x]) k=Il l k+C x (k+l.length)
 |[],k=>by
  show Cy x k+0=0+C x k
  unfold Cy;rw[bB];omega
 |y::l,k=>by
  show Cy y k+Il (l++[x]) (k+1)=Cy y k+Il l (k+1)+_
  rw[qT x l,Ar,show k+1+l.length=k+(l.length+1) by omega];omega
theorem aF7(n m:Nat):A3 (n+1) m=A3 n m+if m/2^n%2=1 then C n (pc n m+1)else 0:=by
 unfold A3
 rw[mR]
 by_cases h:m/2^n%2=1
 .rw[ip h,ip h,qT,Fq 1];rfl
 .rw[ig h,ig h,Co];rfl
theorem aN9(f m:Nat)(g:Slot)(h0:F aB=aO):∀(r i:Nat)(v w:Slot),i+r≤24→∃v' w',
  lN (.two 3 4) (fun e=>run F G f (.cons (.ite (.cmp .eq (.var 4) (.int 1)) (.cons (.aug 2 .add (.int 1)) (.cons (.aug 1 .add (.call aB (.cons (.var 3) (.cons (.var 2) .nil)))) .nil)) .nil) .nil) e) ((Ab r).map fun t=>.tup [N (i+t),N (m/2^(i+t)%2)]) [g,I (A3 i m:Nat),I (pc i m:Nat),v,w]=some (.nxt [g,I (A3 (i+r) m:Nat),I (pc (i+r) m:Nat),v',w'])
 |0,i,v,w,_=>⟨v,w,rfl⟩
 |r+1,i,v,w,h=>by
  obtain⟨v',w',ih⟩:=aN9 f m g h0 r (i+1) (I i) (I (m/2^i%2:Nat)) (by omega)
  refine⟨v',w',?_⟩
  have e1:F aB [N i,.int ((pc i m:Nat)+1)]=some (N (C i (pc i m+1))):=ap h0 (aT (n:=i) (k:=pc i m+1) (by omega))
  have t0:ev F G (.cmp .eq (.var 4) (.int 1)) (rho [g,I (A3 i m:Nat),I (pc i m:Nat),I i,I (m/2^i%2:Nat)])=some (.bl (decide (((m/2^i%2:Nat):Int)=1))):=by w_fin
  rw[rA r (fun t=>.tup [N t,N (m/2^t%2)])]
  have hs:run F G f (.cons (.ite (.cmp .eq (.var 4) (.int 1)) (.cons (.aug 2 .add (.int 1)) (.cons (.aug 1 .add (.call aB (.cons (.var 3) (.cons (.var 2) .nil)))) .nil)) .nil) .nil) [g,I (A3 i m:Nat),I (pc i m:Nat),I i,I (m/2^i%2:Nat)]=some (.nxt [g,I (A3 (i+1) m:Nat),I (pc (i+1) m:Nat),I i,I (m/2^i%2:Nat)]):=by
   rw[aF7,sM]
   by_cases hb:m/2^i%2=1
   .rw[det (by omega)]at t0
    rw[ip hb]
    rw[hb]at t0 ⊢
    refine aD (eQ t0 (aD (s':=[g,I (A3 i m:Nat),I ((pc i m:Nat)+1),I i,I (1:Nat)]) (qZ (x:=(pc i m:Nat)) (z:=1) rfl bJ fB) (aD (qZ (x:=(A3 i m:Nat)) (z:=(C i (pc i m+1):Nat)) rfl (by w_fin) fB) aR))) aR
   .rw[def_ (by omega)]at t0
    rw[ig hb,show pc i m+m/2^i%2=pc i m by omega]
    exact aD (eF t0 aR) aR
  rw[bH (e1:=[g,I (A3 i m:Nat),I (pc i m:Nat),I i,I (m/2^i%2:Nat)]) rfl hs,ih,show i+1+r=i+(r+1) by omega]
noncomputable def eK:=ns fun n m=>N (A3 n m)
theorem aCy(h0:F aB=aO):Computes F G 5 oW eK:=by
 refine cs (by decide) fun n m hn hm=>⟨0,?_⟩
 unfold oW
 have e1:ev F G (.var 0) (rho [BS n m,I 0,I 0,none,none])=some (.lst ((bits n m).map N)):=by w_fin
 have e2:=vU e1
 unfold bits at e2
 rw[Aj,jV]at e2
 obtain⟨v,w,hv⟩:=aN9 (F:=F) (G:=G) 0 m (BS n m) h0 n 0 none none (by omega)
 rw[show((Ab n).map fun t=>Dat.tup [N (0+t),N (m/2^(0+t)%2)])=(Ab n).map fun i=>Dat.tup [N (0+i),(N∘fun i=>m/2^i%2) i]from Ax fun x _=>by rw[Bw];rfl,Bw]at hv
 exact aD (s':=[BS n m,I 0,none,none,none]) (aI (z:=0) bJ) (aD (s':=[BS n m,I 0,I 0,none,none]) (aI (z:=0) bJ) (aD (jG e2 rfl hv) (aF (eB (by w_fin) rfl))))
theorem lO{n m:Nat}(hn:n≤24)(hm:m<2^n):eK [BL n m]=some (N (A3 n m)):=aCt hn hm
noncomputable def dn (n:Nat):List Nat:=(Ab n).map fun t=>n-1-t
theorem aLh(n:Nat):dn (n+1)=n::dn n:=by
 unfold dn
 rw[Av,Ai,Aj]
 congr 1
 exact Ax fun x _=>by show n+1-1-(x+1)=n-1-x;omega
theorem aHf{n:Nat}(hn:n≤1000):Pl.range [.int ((n:Int)-1),.int (-1),.int (-1)]=some ((dn n).map N):=by
 have h1:aJf ((n:Int)-1)=true:=det ⟨by omega,by omega⟩
 unfold Pl.range
 show(if(decide ((-1:Int)=-1)&&aJf ((n:Int)-1)&&aJf (-1))=true then some (vP ((n:Int)-1) ((n:Int)-1 - -1).toNat)else none)=_
 rw[h1,ip (by decide)]
 rw[show((n:Int)-1 - -1).toNat=n by omega]
 unfold vP dn
 rw[Aj]
 congr 1
 refine Ax fun k hk=>?_
 have:=Ak.mp hk
 show Dat.int ((n:Int)-1+(k:Int)*(-1))=Dat.int ((n-1-k:Nat):Int)
 congr 1
 omega
theorem aFy(f a b c:Nat)(h0:F aB=aO):∀(n k r:Nat)(acc:List Dat)(v w:Slot),n+acc.length≤1000→r<C n k→∃k' r' v' w',
  lN (.one 6) (fun e=>run F G f (.cons (.set 7 false (.call aB (.cons (.var 6) (.cons (.var 4) .nil)))) (.cons (.ite (.cmp .ge (.var 5) (.var 7)) (.cons (.app 3 (.int 1)) (.cons (.aug 5 .sub (.var 7)) (.cons (.aug 4 .sub (.int 1)) .nil))) (.cons (.app 3 (.int 0)) .nil)) .nil)) e) ((dn n).map N) [I a,I b,I c,some (.lst acc,true),I k,I r,v,w]=some (.nxt [I a,I b,I c,some (.lst (acc++((bits n (chv n k r)).reverse.map N)),true),k',r',v',w'])
 |0,k,r,acc,v,w,_,_=>⟨I k,I r,v,w,by rw[show bits 0 (chv 0 k r)=[]from rfl];simp[dn,pH]⟩
 |n+1,k,r,acc,v,w,hl,hr=>by
  have e1:=ap h0 (aT (n:=n) (k:=k) (by omega))
  have s1:mQ F G f (.set 7 false (.call aB (.cons (.var 6) (.cons (.var 4) .nil)))) [I a,I b,I c,some (.lst acc,true),I k,I r,I n,w]=some (.nxt [I a,I b,I c,some (.lst acc,true),I k,I r,I n,I (C n k:Nat)]):=aI (z:=(C n k:Nat)) (by w_fin)
  have t0:ev F G (.cmp .ge (.var 5) (.var 7)) (rho [I a,I b,I c,some (.lst acc,true),I k,I r,I n,I (C n k:Nat)])=some (.bl (decide ((C n k:Int)≤r))):=by w_fin
  rw[aLh,Ai,aPu]
  by_cases hc:r<C n k
  .rw[def_ (by omega)]at t0
   obtain⟨k',r',v',w',ih⟩:=aFy f a b c h0 n k r (acc++[.int 0]) (I n) (I (C n k:Nat)) (by simp;omega) hc
   refine⟨k',r',v',w',?_⟩
   rw[ip hc,F9,bH (e1:=[I a,I b,I c,some (.lst acc,true),I k,I r,I n,w]) (e':=[I a,I b,I c,some (.lst (acc++[.int 0]),true),I k,I r,I n,I (C n k:Nat)]) rfl
    (aD s1 (aD (eF t0 (aM (yG (l:=acc) (d:=.int 0) rfl bJ rfl (by show acc.length<16777216;omega)))) aR)),ih,Dj]
   rfl
  .rw[det (by omega)]at t0
   cases k with
   |zero=>simp at hr hc;omega
   |succ k=>
    rw[iW]at hr
    obtain⟨k',r',v',w',ih⟩:=aFy f a b c h0 n k (r-C n (k+1)) (acc++[.int 1]) (I n) (I (C n (k+1):Nat)) (by simp;omega) (by omega)
    refine⟨k',r',v',w',?_⟩
    have z1:(r:Int)-(C n (k+1):Nat)=(r-C n (k+1):Nat):=by omega
    have z2:((k+1:Nat):Int)-1=(k:Nat):=by omega
    rw[ig hc,F9,Cu,bH (e1:=[I a,I b,I c,some (.lst acc,true),I (k+1:Nat),I r,I n,w]) (e':=[I a,I b,I c,some (.lst (acc++[.int 1]),true),I k,I (r-C n (k+1):Nat),I n,I (C n (k+1):Nat)]) rfl
     (aD s1 (aD (eQ t0 (aD (s':=[I a,I b,I c,some (.lst (acc++[.int 1]),true),I (k+1:Nat),I r,I n,I (C n (k+1):Nat)]) (yG (l:=acc) (d:=.int 1) rfl bJ rfl (by show acc.length<16777216;omega)) (aD (s':=[I a,I b,I c,some (.lst (acc++[.int 1]),true),I (k+1:Nat),I (r-C n (k+1):Nat),I n,I (C n (k+1):Nat)]) (by rw[←z1];exact qZ (x:=r) (z:=(C n (k+1):Nat)) rfl (by w_fin) hJ) (aD (s':=[I a,I b,I c,some (.lst (acc++[.int 1]),true),I k,I (r-C n (k+1):Nat),I n,I (C n (k+1):Nat)]) (by rw[←z2];exact qZ (x:=(k+1:Nat)) (z:=1) rfl bJ hJ) aR)))) aR)),ih,Dj]
    rfl
def eO:=nn3 (fun n k r=>n≤24∧r<C n k) fun n k r=>BL n (chv n k r)
theorem sL(h0:F aB=aO):Computes F G 8 jE eO:=by
 refine aLa (by decide) fun n k r h=>⟨0,?_⟩
 unfold jE
 refine aD (s':=[I n,I k,I r,some (.lst [],true),none,none,none,none]) (aBj (d:=.lst []) (kG aE (show 0≤16777216 by omega)) rfl rfl) ?_
 refine aD (s':=[I n,I k,I r,some (.lst [],true),I k,none,none,none]) (aI (z:=k) (by w_fin)) (aD (s':=[I n,I k,I r,some (.lst [],true),I k,I r,none,none]) (aI (z:=r) (by w_fin)) ?_)
 have hn:=yP (F:=F) (G:=G) (r:=rho [I n,I k,I r,some (.lst [],true),I k,I r,none,none])
 have e5:evs F G (.cons (.bin .sub (.var 0) (.int 1)) (.cons (.neg (.int 1)) (.cons (.neg (.int 1)) .nil))) (rho [I n,I k,I r,some (.lst [],true),I k,I r,none,none])=some [.int ((n:Int)-1),.int (-1),.int (-1)]:=by w_fin
 obtain⟨k',r',v',w',hv⟩:=aFy (F:=F) (G:=G) 0 n k r h0 n k r [] none none (by simp;omega) h.2
 rw[Cq]at hv
 refine aD (jG (cE e5 (aHf (by omega))) rfl hv) ?_
 have e6:blt .lrev [.lst ((bits n (chv n k r)).reverse.map N)]=some (BL n (chv n k r)):=by rw[aG6,←Jf,Kd]
 exact aF (fK (cP (aG (aV rfl) aE) e6) rfl mE)
theorem bEl{n k r:Nat}(hn:n≤24)(hr:r<C n k):eO [N n,N k,N r]=some (BL n (chv n k r)):=sF ⟨hn,hr⟩
theorem aFx(f a b c:Nat)(h0:F aB=aO):∀(n k r:Nat)(acc:List Dat)(v w:Slot),n+acc.length≤1000→r<C n k→∃k' r' v' w',
  lN (.one 6) (fun e=>run F G f (.cons (.set 7 false (.call aB (.cons (.var 6) (.cons (.var 4) .nil)))) (.cons (.ite (.cmp .lt (.var 5) (.var 7)) (.cons (.app 3 (.int 0)) .nil) (.cons (.app 3 (.int 1)) (.cons (.aug 4 .sub (.int 1)) (.cons (.set 5 false (.bin .sub (.bin .sub (.call aB (.cons (.var 6) (.cons (.var 4) .nil))) (.int 1)) (.bin .sub (.var 5) (.var 7)))) .nil)))) .nil)) e) ((dn n).map N) [I a,I b,I c,some (.lst acc,true),I k,I r,v,w]=some (.nxt [I a,I b,I c,some (.lst (acc++((bits n (exv n k r)).reverse.map N)),true),k',r',v',w'])
 |0,k,r,acc,v,w,_,_=>⟨I k,I r,v,w,by rw[show bits 0 (exv 0 k r)=[]from rfl];simp[dn,pH]⟩
 |n+1,k,r,acc,v,w,hl,hr=>by
  have e1:=ap h0 (aT (n:=n) (k:=k) (by omega))
  have s1:mQ F G f (.set 7 false (.call aB (.cons (.var 6) (.cons (.var 4) .nil)))) [I a,I b,I c,some (.lst acc,true),I k,I r,I n,w]=some (.nxt [I a,I b,I c,some (.lst acc,true),I k,I r,I n,I (C n k:Nat)]):=aI (z:=(C n k:Nat)) (by w_fin)
  have t0:ev F G (.cmp .lt (.var 5) (.var 7)) (rho [I a,I b,I c,some (.lst acc,true),I k,I r,I n,I (C n k:Nat)])=some (.bl (decide ((r:Int)<(C n k:Nat)))):=by w_fin
  rw[aLh,Ai,aPv]
  by_cases hc:r<C n k
  .rw[det (by omega)]at t0
   obtain⟨k',r',v',w',ih⟩:=aFx f a b c h0 n k r (acc++[.int 0]) (I n) (I (C n k:Nat)) (by simp;omega) hc
   refine⟨k',r',v',w',?_⟩
   rw[ip hc,F9,bH (e1:=[I a,I b,I c,some (.lst acc,true),I k,I r,I n,w]) (e':=[I a,I b,I c,some (.lst (acc++[.int 0]),true),I k,I r,I n,I (C n k:Nat)]) rfl
    (aD s1 (aD (eQ t0 (aM (yG (l:=acc) (d:=.int 0) rfl bJ rfl (by show acc.length<16777216;omega)))) aR)),ih,Dj]
   rfl
  .rw[def_ (by omega)]at t0
   cases k with
   |zero=>simp at hr hc;omega
   |succ k=>
    rw[iW]at hr
    have e2:=ap h0 (aT (n:=n) (k:=k) (by omega))
    obtain⟨k',r',v',w',ih⟩:=aFx f a b c h0 n k (C n k-1-(r-C n (k+1))) (acc++[.int 1]) (I n) (I (C n (k+1):Nat)) (by simp;omega) (by omega)
    refine⟨k',r',v',w',?_⟩
    have z1:((C n k:Nat):Int)-1-((r:Int)-(C n (k+1):Nat))=(C n k-1-(r-C n (k+1)):Nat):=by omega
    have z2:((k+1:Nat):Int)-1=(k:Nat):=by omega
    rw[ig hc,F9,Cu,bH (e1:=[I a,I b,I c,some (.lst acc,true),I (k+1:Nat),I r,I n,w]) (e':=[I a,I b,I c,some (.lst (acc++[.int 1]),true),I k,I (C n k-1-(r-C n (k+1)):Nat),I n,I (C n (k+1):Nat)]) rfl
     (aD s1 (aD (eF t0 (aD (s':=[I a,I b,I c,some (.lst (acc++[.int 1]),true),I (k+1:Nat),I r,I n,I (C n (k+1):Nat)]) (yG (l:=acc) (d:=.int 1) rfl bJ rfl (by show acc.length<16777216;omega)) (aD (s':=[I a,I b,I c,some (.lst (acc++[.int 1]),true),I k,I r,I n,I (C n (k+1):Nat)]) (by rw[←z2];exact qZ (x:=(k+1:Nat)) (z:=1) rfl bJ hJ) (aD (s':=[I a,I b,I c,some (.lst (acc++[.int 1]),true),I k,I (C n k-1-(r-C n (k+1)):Nat),I n,I (C n (k+1):Nat)]) (by rw[←z1];exact aI (by w_fin)) aR)))) aR)),ih,Dj]
    rfl
def dQ:=nn3 (fun n k r=>n≤24∧r<C n k) fun n k r=>BL n (exv n k r)
theorem nR(h0:F aB=aO):Computes F G 8 fR dQ:=by
 refine aLa (by decide) fun n k r h=>⟨0,?_⟩
 unfold fR
 refine aD (s':=[I n,I k,I r,some (.lst [],true),none,none,none,none]) (aBj (d:=.lst []) (kG aE (show 0≤16777216 by omega)) rfl rfl) ?_
 refine aD (s':=[I n,I k,I r,some (.lst [],true),I k,none,none,none]) (aI (z:=k) (by w_fin)) (aD (s':=[I n,I k,I r,some (.lst [],true),I k,I r,none,none]) (aI (z:=r) (by w_fin)) ?_)
 have hn:=yP (F:=F) (G:=G) (r:=rho [I n,I k,I r,some (.lst [],true),I k,I r,none,none])
 have e5:evs F G (.cons (.bin .sub (.var 0) (.int 1)) (.cons (.neg (.int 1)) (.cons (.neg (.int 1)) .nil))) (rho [I n,I k,I r,some (.lst [],true),I k,I r,none,none])=some [.int ((n:Int)-1),.int (-1),.int (-1)]:=by w_fin
 obtain⟨k',r',v',w',hv⟩:=aFx (F:=F) (G:=G) 0 n k r h0 n k r [] none none (by simp;omega) h.2
 rw[Cq]at hv
 refine aD (jG (cE e5 (aHf (by omega))) rfl hv) ?_
 have e6:blt .lrev [.lst ((bits n (exv n k r)).reverse.map N)]=some (BL n (exv n k r)):=by rw[aG6,←Jf,Kd]
 exact aF (fK (cP (aG (aV rfl) aE) e6) rfl mE)
theorem bFb{n k r:Nat}(hn:n≤24)(hr:r<C n k):dQ [N n,N k,N r]=some (BL n (exv n k r)):=sF ⟨hn,hr⟩
theorem sU(n m:Nat):(Ay n m).length≤n:=yE n m
noncomputable def dE:=ns fun n m=>ai (m:Int) (Kp266.ints (Ay n m))
theorem pN(h0:F qS=nO)(h1:F fH=fY):Computes F G 1 gG dE:=by
 refine cs (by decide) fun n m hn hm=>⟨0,?_⟩
 unfold gG
 have e1:=ap h0 (aSi hn hm)
 have e2:=ap h1 (tW hn hm)
 have e8:bop .add (.lst [N m]) (.lst ((Ay n m).map N))=some (ai (m:Int) (Kp266.ints (Ay n m))):=by
  have:=sU n m
  rw[nB,ip (by rw[Ag];simp[SZ];omega)]
  unfold ai Kp266.ints
  rw[Ai,Aj];rfl
 exact aF (fK (jL (kG (ds:=[N m]) (by w_fin) (show 1≤16777216 by omega)) (by w_fin) e8) rfl gH)
theorem aXw{n m:Nat}(hn:n≤24)(hm:m<2^n):dE [BL n m]=some (ai (m:Int) (Kp266.ints (Ay n m))):=aCt hn hm
def a71(r:O3):Dat:=ai r.num r.nums
theorem jN(n m:Nat):blt .len [BL n m]=some (N n):=by rw[aA5,Ag,cF]
theorem nT(n m:Nat):blt .sum [BL n m]=some (N (pc n m)):=by rw[aBx,kJ]
noncomputable def aAo:=ns2 fun n m k r=>a71 (Dl (some ⟨n,m⟩) (.choice k r)).2
theorem aNg(hN:G aP=some (.int (-33)))(h0:F aB=aO)(h1:F eZ=dE)(h2:F fX=eO):Computes F G 4 zM aAo:=by
 refine cs2 (by decide) fun n m k r hn hm hk hr=>⟨0,?_⟩
 unfold zM
 refine aD (s':=[BS n m,L2 k r,I k,none]) (aI (z:=k) (by w_fin)) (aD (s':=[BS n m,L2 k r,I k,I r]) (aI (z:=r) (by w_fin)) ?_)
 have e0:=jN n m
 have e1:=ap h0 (aT (n:=n) (k:=k) (by omega))
 rw[show(Dl (some ⟨n,m⟩) (.choice k r)).2=(match Jw n k r with
     |some m=>(⟨(m:Int),Kp271.ints (Ay n m)⟩:O3)
     |none=>Ia (-33))from rfl,vL]
 refine xD (P:=(C n k:Int)≤r) hN (lH (aV rfl) (cA (aG (cP (aG (aV rfl) aE) e0) (aG (aV rfl) aE)) e1) vO) (fun h=>?_) fun h=>?_
 .rw[ig (by omega)];rfl
 .rw[ip (by omega)]
  have e2:=ap h2 (bEl (n:=n) (k:=k) (r:=r) hn (by omega))
  have e3:=ap h1 (aXw hn (vM n k r))
  exact aF (fK (cA (aG (cA (aG (cP (aG (aV rfl) aE) e0) (aG (aV rfl) (aG (aV rfl) aE))) e2) aE) e3) rfl gH)
noncomputable def aAx:=ns0 fun n m=>a71 (Dl (some ⟨n,m⟩) .place).2
theorem aNt(h0:F fH=fY)(h1:F aN=bO):Computes F G 2 zZ aAx:=by
 refine cs0 (by decide) fun n m hn hm=>⟨0,?_⟩
 unfold zZ
 have e1:=ap h0 (tW hn hm)
 have:=sU n m
 exact pO (l:=Ay n m) h1 (by w_fin) (by omega)
noncomputable def sA:=ns0 fun n m=>a71 (Dl (some ⟨n,m⟩) .sum).2
theorem aFi(h0:F fH=fY):Computes F G 2 rQ sA:=by
 refine cs0 (by decide) fun n m hn hm=>⟨0,?_⟩
 unfold rQ
 have e1:=ap h0 (tW hn hm)
 have e2:=aBx (l:=Ay n m)
 rw[show(Dl (some ⟨n,m⟩) .sum).2=Ia (Ga (Ay n m):Int)from rfl]
 unfold Ga
 rw[nY]
 exact fA (by w_fin)
noncomputable def mG:=ns0 fun n m=>a71 (Dl (some ⟨n,m⟩) .all).2
theorem xU(h0:F cJ=iQ):Computes F G 2 lS mG:=by
 refine cs0 (by decide) fun n m hn hm=>⟨0,?_⟩
 unfold lS
 have e0:=jN n m
 have e1:=ap h0 (lP (n:=n) (by omega))
 have e2:=aBx (l:=(Ab (n+1)).map (C n))
 rw[aX6]at e2
 exact fA (cP (aG (cA (aG (cP (aG (aV rfl) aE) e0) aE) e1) aE) e2)
noncomputable def aAs:=ns1 fun n m i=>a71 (Dl (some ⟨n,m⟩) (.with_ i)).2
theorem aNl(hG:G yT=some (.int (-2)))(h0:F aB=aO):Computes F G 3 zR aAs:=by
 refine cs1 (by decide) fun n m i hn hm hi=>⟨0,?_⟩
 unfold zR
 have e0:=jN n m
 have e9:=nT n m
 have t0:ev F G (.cmp .ge (.idx (.var 1) (.int 0)) (.blt .len (.cons (.var 0) .nil))) (rho [BS n m,L1 i,none])=some (.bl (decide ((n:Int)≤i))):=lH (by w_fin) (cP (aG (aV rfl) aE) e0) vO
 rw[show(Dl (some ⟨n,m⟩) (.with_ i)).2=(if n≤i then Ia (-2)else⟨((if pc n m=0 then 0 else Cy (n-1) (pc n m-1):Nat):Int),Kp271.ints [Cy (n-1) (pc n m)]⟩)from rfl]
 by_cases h:n≤i
 .rw[det (by omega)]at t0
  rw[ip h]
  exact aF (eQ t0 (fA (i:=-2) (by w_fin)))
 .rw[def_ (by omega)]at t0
  rw[ig h]
  refine aD (eF t0 aR) ?_
  have e1:F aB [.int ((n:Int)-1),N (pc n m)]=some (N (C (n-1) (pc n m))):=by
   rw[show(n:Int)-1=((n-1:Nat):Int) by omega];exact ap h0 (aT (by omega))
  have e2:=ap h0 (aT (n:=n) (k:=pc n m) (by omega))
  refine aD (s':=[BS n m,L1 i,I (C (n-1) (pc n m):Nat)]) (aI (z:=(C (n-1) (pc n m):Nat)) (cA (aG (jL (cP (aG (aV rfl) aE) e0) bJ hJ) (aG (cP (aG (aV rfl) aE) e9) aE)) e1)) ?_
  have e3:((if pc n m=0 then 0 else Cy (n-1) (pc n m-1):Nat):Int)=(C n (pc n m):Nat)-(C (n-1) (pc n m):Nat):=by
   unfold Cy
   rw[bB]
   obtain⟨t,ht⟩:∃t,n=t+1:=⟨n-1,by omega⟩
   rw[ht,Cu]
   cases pc (t+1) m with
   |zero=>simp
   |succ q=>rw[ig (by omega),Cu,iW];omega
  rw[e3]
  show run F G 0 _ _=some (.ret (ai _ [((Cy (n-1) (pc n m):Nat):Int)]))
  unfold Cy
  rw[bB]
  exact mU (jL (cA (aG (cP (aG (aV rfl) aE) e0) (aG (cP (aG (aV rfl) aE) e9) aE)) e2) (aV rfl) hJ) (aV rfl)
noncomputable def wG:=ns1 fun n m j=>a71 (Dl (some ⟨n,m⟩) (.sharing j)).2
theorem aJ1(hW:G aH=some (.int (-22)))(h0:F aB=aO):Computes F G 4 uY wG:=by
 refine cs1 (by decide) fun n m j hn hm hj=>⟨0,?_⟩
 unfold uY
 have e0:=jN n m
 have e9:=nT n m
 have hp:=yE n m
 refine aD (s':=[BS n m,L1 j,I j,none]) (aI (z:=j) (by w_fin)) (aD (s':=[BS n m,L1 j,I j,I (pc n m:Nat)]) (aI (z:=(pc n m:Nat)) (cP (aG (aV rfl) aE) e9)) ?_)
 refine aS (P:=(pc n m:Int)<j) hW (by w_fin) (fun h=>?_) fun h=>?_
 .exact congrArg a71 (ip (show pc n m<j by omega))
 .rw[show(Dl (some ⟨n,m⟩) (.sharing j)).2=Ia (Ob n m j:Int)from ig (show ¬pc n m<j by omega)]
  have e1:=ap h0 (aT (n:=pc n m) (k:=j) (by omega))
  have e2:F aB [.int ((n:Int)-(pc n m:Nat)),.int ((pc n m:Nat)-(j:Int))]=some (N (C (n-pc n m) (pc n m-j))):=by
   rw[←D1 hp,←D1 (show j≤pc n m by omega)];exact ap h0 (aT (by omega))
  have hb:=C24 (n:=pc n m) (by omega) j
  have e3:bop .mul (N (C (pc n m) j)) (N (C (n-pc n m) (pc n m-j)))=some (N (C (pc n m) j*C (n-pc n m) (pc n m-j))):=dO (.inl (by omega))
  unfold Ob Cy
  rw[bB,bB]
  exact fA (jL (by w_fin) (cA (aG (jL (cP (aG (aV rfl) aE) e0) (aV rfl) hJ) (by w_fin)) e2) e3)
noncomputable def aMh:=ns2 fun n m k r=>a71 (Dl (some ⟨n,m⟩) (.gray k r)).2
theorem aW2(hG:G fV=some (.int 10))(hW:G aH=some (.int (-22)))(hN:G aP=some (.int (-33)))(h0:F aB=aO)(h1:F eZ=dE)(h2:F jI=dQ):Computes F G 4 aKe aMh:=by
 refine cs2 (by decide) fun n m k r hn hm hk hr=>⟨0,?_⟩
 unfold aKe
 refine aD (s':=[BS n m,L2 k r,I k,none]) (aI (z:=k) (by w_fin)) (aD (s':=[BS n m,L2 k r,I k,I r]) (aI (z:=r) (by w_fin)) ?_)
 have e0:=jN n m
 have e1:=ap h0 (aT (n:=n) (k:=k) (by omega))
 refine aS (P:=(10:Int)<n) hW (lH (cP (aG (aV rfl) aE) e0) (pX hG) yN) (fun h=>?_) fun h=>?_
 .exact congrArg a71 (ip (show 10<n by omega))
 rw[show(Dl (some ⟨n,m⟩) (.gray k r)).2=(match(Ew n k)[r]? with
     |some m=>(⟨(m:Int),Kp271.ints (Ay n m)⟩:O3)
     |none=>Ia (-33))from ig (show ¬10<n by omega)]
 refine xD (P:=(C n k:Int)≤r) hN (lH (aV rfl) (cA (aG (cP (aG (aV rfl) aE) e0) (aG (aV rfl) aE)) e1) vO) (fun h=>?_) fun h=>?_
 .rw[Dh (by rw[tB];omega)];rfl
 .rw[aLp n k r (by omega)]
  have e2:=ap h2 (bFb (n:=n) (k:=k) (r:=r) hn (by omega))
  have e3:=ap h1 (aXw hn (aCk n k r))
  exact aF (fK (cA (aG (cA (aG (cP (aG (aV rfl) aE) e0) (aG (aV rfl) (aG (aV rfl) aE))) e2) aE) e3) rfl gH)
end
theorem aA8{l:List Dat}:cop .isN (.lst l) .non=some false:=rfl
theorem aA9:cop .isN .non .non=some true:=rfl
theorem aT7:∀l:List (Nat×Nat),prs (l.map P2)=some (l.map fun z=>((z.1:Int),(z.2:Int)))
 |[]=>rfl
 |z::l=>by
  show(prs (l.map P2)).map _=_
  rw[aT7 l];rfl
section
variable{F:Nat→List Dat→Option Dat}{G:Nat→Option Dat}
noncomputable def wD:=ns1 fun n m a=>a71 (Dl (some ⟨n,m⟩) (.between a)).2
theorem aIn(hW:G aH=some (.int (-22)))(h0:F bZ=fG)(h1:F bX=eK):Computes F G 3 uK wD:=by
 refine cs1 (by decide) fun n m a hn hm ha=>⟨0,?_⟩
 unfold uK
 have e0:=jN n m
 have e9:=nT n m
 have e1:=ap h0 (bC5 (a:=a) hn)
 have e2:ev F G (.call bZ (.cons (.idx (.var 1) (.int 0)) (.cons (.blt .len (.cons (.var 0) .nil)) .nil))) (rho [BS n m,L1 a,none])=some (if a<2^n then BL n a else .non):=cA (aG (by w_fin) (aG (cP (aG (aV rfl) aE) e0) aE)) e1
 rw[show(Dl (some ⟨n,m⟩) (.between a)).2=(if 2^n≤a∨pc n a≠pc n m then Ia (-22)else⟨0,[(A3 n a:Int)-(A3 n m:Int)]⟩)from rfl]
 by_cases h:a<2^n
 .rw[ip h]at e2
  refine aD (s':=[BS n m,L1 a,BS n a]) (iL (d:=BL n a) e2 rfl) ?_
  have e8:=nT n a
  have t0:ev F G (.or_ (.cmp .isN (.var 2) .non) (.cmp .ne (.blt .sum (.cons (.var 2) .nil)) (.blt .sum (.cons (.var 0) .nil)))) (rho [BS n m,L1 a,BS n a])=some (.bl (!decide ((pc n a:Int)=(pc n m:Int)))):=rV (lH (aV rfl) oJ aA8) (lH (cP (aG (aV rfl) aE) e8) (cP (aG (aV rfl) aE) e9) yO)
  refine aS (P:=pc n a≠pc n m) hW ?_ (fun q=>?_) fun q=>?_
  .rw[t0];congr 2
   by_cases q:pc n a=pc n m
   .rw[det (by omega),def_ (by omega)];rfl
   .rw[def_ (by omega),det q];rfl
  .rw[ip (.inr q)];rfl
  .rw[ig (by omega)]
   have e3:=ap h1 (lO hn h)
   have e4:=ap h1 (lO hn hm)
   exact mU (by w_fin) (by w_fin)
 .rw[ig h]at e2
  rw[ip (.inl (by omega))]
  refine aD (s':=[BS n m,L1 a,some (.non,false)]) (iL (d:=.non) e2 rfl) ?_
  have t0:ev F G (.or_ (.cmp .isN (.var 2) .non) (.cmp .ne (.blt .sum (.cons (.var 2) .nil)) (.blt .sum (.cons (.var 0) .nil)))) (rho [BS n m,L1 a,some (.non,false)])=some (.bl true):=vQ (lH (aV rfl) oJ aA9)
  exact aF (eQ t0 (xE hW))
theorem bC6(m i:Nat):m/2^i%2=if Ef m i then 1 else 0:=by
 rw[dA]
 by_cases h:m/2^i%2=1
 .simp[h]
 .have:m/2^i%2=0:=by omega
  simp[this]
noncomputable def aMk:=ns1 fun n m a=>a71 (Dl (some ⟨n,m⟩) (.meet a)).2
theorem aW7(hW:G aH=some (.int (-22)))(h0:F bZ=fG):Computes F G 6 aKi aMk:=by
 refine cs1 (by decide) fun n m a hn hm ha=>⟨0,?_⟩
 unfold aKi
 have e0:=jN n m
 have e1:=ap h0 (bC5 (a:=a) hn)
 have e2:ev F G (.call bZ (.cons (.idx (.var 1) (.int 0)) (.cons (.blt .len (.cons (.var 0) .nil)) .nil))) (rho [BS n m,L1 a,none,none,none,none])=some (if a<2^n then BL n a else .non):=cA (aG (by w_fin) (aG (cP (aG (aV rfl) aE) e0) aE)) e1
 rw[show(Dl (some ⟨n,m⟩) (.meet a)).2=(if 2^n≤a then Ia (-22)else⟨(Nv n m a:Int),Kp271.ints [(Ay n (Nat.xor m a)).length]⟩)from rfl]
 by_cases h:a<2^n
 .rw[ip h]at e2
  rw[ig (by omega)]
  refine aD (s':=[BS n m,L1 a,BS n a,none,none,none]) (iL (d:=BL n a) e2 rfl) ?_
  have t0:ev F G (.cmp .isN (.var 2) .non) (rho [BS n m,L1 a,BS n a,none,none,none])=some (.bl false):=lH (aV rfl) oJ aA8
  refine aD (eF t0 aR) ?_
  have e3:items F G (.zip (.var 0) (.var 2)) (rho [BS n m,L1 a,BS n a,none,none,none])=_:=aUd (l:=(bits n m).map N) (m:=(bits n a).map N) (aV rfl) (aV rfl)
  unfold bits at e3
  rw[Aj,Aj,xN,Nat.min_self]at e3
  have e4:ev F G (.lc (.bin .add (.var 4) (.var 5)) (.two 4 5) (.zip (.var 0) (.var 2)) .nil) (rho [BS n m,L1 a,BS n a,none,none,none])=some (.lst (((Ab n).map fun i=>m/2^i%2+a/2^i%2).map N)):=by
   rw[Aj]
   refine aCj _ _ (Ab n) e3 (by simp[SZ];omega) fun i hi=>⟨[some (BL n m),some (.lst [N a]),some (BL n a),none,some (N (m/2^i%2)),some (N (a/2^i%2))],rfl,?_⟩
   show _=some (Dat.int ((m/2^i%2+a/2^i%2:Nat):Int))
   rw[Ei];w_fin
  generalize hR:(Ab n).map (fun i=>m/2^i%2+a/2^i%2)=R at e4
  refine aD (s':=[BS n m,L1 a,BS n a,some (.lst (R.map N),false),none,none]) (iL (d:=.lst (R.map N)) e4 rfl) ?_
  have c2:blt .count [.lst (R.map N),.int 2]=some (N (R.filter fun x=>x==2).length):=aAa (c:=2)
  have c1:blt .count [.lst (R.map N),.int 1]=some (N (R.filter fun x=>x==1).length):=aAa (c:=1)
  have f2:(R.filter fun x=>x==2).length=Nv n m a:=by
   rw[←hR,Gp,Ag]
   unfold Nv Ay
   congr 1
   refine Eb fun i _=>?_
   show(m/2^i%2+a/2^i%2==2)=(m &&& a).testBit i
   rw[Nat.testBit_and,bC6,bC6]
   cases m.testBit i<;>cases a.testBit i<;>rfl
  have f1:(R.filter fun x=>x==1).length=(Ay n (Nat.xor m a)).length:=by
   rw[←hR,Gp,Ag]
   unfold Ay
   congr 1
   refine Eb fun i _=>?_
   show(m/2^i%2+a/2^i%2==1)=(m ^^^ a).testBit i
   rw[Nat.testBit_xor,bC6,bC6]
   cases m.testBit i<;>cases a.testBit i<;>rfl
  rw[f2]at c2
  rw[f1]at c1
  exact mU (cP (aG (aV rfl) (aG bJ aE)) c2) (cP (aG (aV rfl) (aG bJ aE)) c1)
 .rw[ig h]at e2
  rw[ip (by omega)]
  refine aD (s':=[BS n m,L1 a,some (.non,false),none,none,none]) (iL (d:=.non) e2 rfl) ?_
  have t0:ev F G (.cmp .isN (.var 2) .non) (rho [BS n m,L1 a,some (.non,false),none,none,none])=some (.bl true):=lH (aV rfl) oJ aA9
  exact aF (eQ t0 (xE hW))
noncomputable def wl:Nat→List (Nat×Nat)
 |0=>[(0,0)]
 |j+1=>wl j++(wl j).map fun z=>(z.1+1,z.2+j)
theorem aTi:∀j,(wl j).length=2^j
 |0=>rfl
 |j+1=>by rw[wl,A6,Ag,aTi j,Cm];omega
theorem aJk(l:List Nat)(x:Nat):Ga (l++[x])=Ga l+x:=by
 unfold Ga;rw[Iu];rfl
theorem bC3:∀j,wl j=(Ab (2^j)).map fun m=>(pc j m,Ga (Ay j m))
 |0=>rfl
 |j+1=>by
  rw[wl,bC3 j,Cm,Nat.mul_two,D9,A7,Aj,Aj]
  congr 1
  .refine Ax fun m hm=>?_
   have hm:=Ak.mp hm
   rw[sM,mR,Dv hm,ig (by decide),Co]
   rfl
  .refine Ax fun m hm=>?_
   have hm:=Ak.mp hm
   show(pc j m+1,Ga (Ay j m)+j)=(pc (j+1) (2^j+m),Ga (Ay (j+1) (2^j+m)))
   have hd:(2^j+m)/2^j=1:=by rw[Nat.add_div_left _ (D3 j),Dv hm]
   have hth:Ay j (2^j+m)=Ay j m:=tI (by rw[Nat.add_mod_left])
   have hpc:pc j (2^j+m)=pc j m:=by unfold pc;rw[hth]
   rw[sM,mR,hd,ip (by decide),hth,hpc,aJk]
theorem aPj(f n m a:Nat):∀(r i:Nat)(u:Slot),i+r≤10→∃u',
  lN (.one 3) (fun e=>run F G f (.cons (.set 2 false (.bin .add (.var 2) (.lc (.tup (.cons (.bin .add (.var 4) (.int 1)) (.cons (.bin .add (.var 5) (.var 3)) .nil))) (.two 4 5) (.of (.var 2)) .nil))) .nil) e) ((Ab r).map fun t=>N (i+t)) [BS n m,L1 a,some (.lst ((wl i).map P2),false),u,none,none]=some (.nxt [BS n m,L1 a,some (.lst ((wl (i+r)).map P2),false),u',none,none])
 |0,i,u,_=>⟨u,rfl⟩
 |r+1,i,u,h=>by
  obtain⟨u',ih⟩:=aPj f n m a r (i+1) (I i) (by omega)
  refine⟨u',?_⟩
  have hl:(wl i).length≤1024:=by rw[aTi];exact Kc (n:=2) (by omega) (show i≤10 by omega)
  have e1:ev F G (.lc (.tup (.cons (.bin .add (.var 4) (.int 1)) (.cons (.bin .add (.var 5) (.var 3)) .nil))) (.two 4 5) (.of (.var 2)) .nil) (rho [BS n m,L1 a,some (.lst ((wl i).map P2),false),I i,none,none])=some (.lst (((wl i).map fun z=>(z.1+1,z.2+i)).map P2)):=by
   rw[Aj]
   refine aCj P2 _ (wl i) (aGp (aV rfl)) (by simp only[SZ];omega) fun z hz=>⟨[some (BL n m),some (.lst [N a]),some (.lst ((wl i).map P2)),some (N i),some (N z.1),some (N z.2)],rfl,?_⟩
   show _=some (Dat.tup [.int ((z.1+1:Nat):Int),.int ((z.2+i:Nat):Int)])
   rw[Ei,Ei]
   exact aQ4 (by w_fin) (show 2≤16777216 by omega)
  have e2:bop .add (.lst ((wl i).map P2)) (.lst (((wl i).map fun z=>(z.1+1,z.2+i)).map P2))=some (.lst ((wl (i+1)).map P2)):=by
   rw[nB,ip (by rw[Ag,Ag,Ag];simp only[SZ];omega),←A7];rfl
  rw[rA r N,bH (e1:=[BS n m,L1 a,some (.lst ((wl i).map P2),false),I i,none,none]) (e':=[BS n m,L1 a,some (.lst ((wl (i+1)).map P2),false),I i,none,none]) rfl
   (aM (iL (d:=.lst ((wl (i+1)).map P2)) (jL (aV rfl) e1 e2) rfl)),ih,show i+1+r=i+(r+1) by omega]
noncomputable def aB4:=ns1 fun n m s=>a71 (Dl (some ⟨n,m⟩) (.ways s)).2
theorem aNy(hG:G fV=some (.int 10))(hW:G aH=some (.int (-22))):Computes F G 6 aA4 aB4:=by
 refine cs1 (by decide) fun n m s hn hm hs=>⟨0,?_⟩
 unfold aA4
 have e0:=jN n m
 have e9:=nT n m
 refine aS (P:=(10:Int)<n) hW (lH (cP (aG (aV rfl) aE) e0) (pX hG) yN) (fun h=>?_) fun h=>?_
 .exact congrArg a71 (ip (show 10<n by omega))
 rw[show(Dl (some ⟨n,m⟩) (.ways s)).2=Ia (J5 n (pc n m) s:Int)from ig (show ¬10<n by omega)]
 have l0:ev F G (.lst (.cons (.tup (.cons (.int 0) (.cons (.int 0) .nil))) .nil)) (rho [BS n m,L1 s,none,none,none,none])=some (.lst ((wl 0).map P2)):=kG (aG (aQ4 (ds:=[.int 0,.int 0]) (by w_fin) (show 2≤16777216 by omega)) aE) (show 1≤16777216 by omega)
 refine aD (s':=[BS n m,L1 s,some (.lst ((wl 0).map P2),false),none,none,none]) (iL (d:=.lst ((wl 0).map P2)) l0 rfl) ?_
 have e4:Pl.range [N n]=some ((Ab n).map N):=jJ (j:=n) (by omega)
 have e5:evs F G (.cons (.blt .len (.cons (.var 0) .nil)) .nil) (rho [BS n m,L1 s,some (.lst ((wl 0).map P2),false),none,none,none])=some [N n]:=aG (cP (aG (aV rfl) aE) e0) aE
 obtain⟨u,hv⟩:=aPj (F:=F) (G:=G) 0 n m s n 0 none (by omega)
 simp only[Bw]at hv
 refine aD (jG (cE e5 e4) rfl hv) ?_
 have c:blt .count [.lst ((wl n).map P2),.tup [N (pc n m),N s]]=some (N (J5 n (pc n m) s)):=by
  rw[aHv,aT7,Bt]
  have:Nr ((pc n m:Int),(s:Int)) ((wl n).map fun z=>((z.1:Int),(z.2:Int)))=J5 n (pc n m) s:=by
   rw[bC3,Aj,Nr,Jr]
   unfold J5
   rw[←Fh]
   refine Fv fun x _=>?_
   simp only[E6,beq_iff_eq,Prod.mk.injEq,Ac]
   show(_∧_)↔(pc n x=pc n m∧_)
   omega
  rw[this]
 exact fA (cP (aG (aV rfl) (aG (aQ4 (ds:=[N (pc n m),N s]) (aG (cP (aG (aV rfl) aE) e9) (aG (by w_fin) aE)) (show 2≤16777216 by omega)) aE)) c)
end
theorem aPx{i:Int}:blt .abs [.int i]=some (N i.natAbs):=by
 rw[aTu];congr 2;split<;>omega
noncomputable abbrev WD (n m p:Nat):Dat:=.rcd [BL n m,N p]
noncomputable abbrev WS (n m p:Nat):Slot:=some (WD n m p,false)
def WOk(n m p:Nat):Prop:=n≤24∧m<2^n∧Ba p=true
def wok(z:Nat×Nat×Nat):Prop:=WOk z.1 z.2.1 z.2.2
theorem bEj{a b:Nat×Nat×Nat}(ha:wok a)(hb:wok b)(h:WD b.1 b.2.1 b.2.2=WD a.1 a.2.1 a.2.2):b=a:=by
 obtain⟨n,m,p⟩:=b
 obtain⟨n',m',p'⟩:=a
 have h1:=Dat.rcd.inj h
 obtain⟨e1,e2⟩:=bCn hb.2.1 ha.2.1 (Dk.inj h1).1
 cases e1
 cases e2
 cases nj (l:=[p]) (m:=[p']) (Dk.inj h1).2
 rfl
abbrev eW(z:(Nat×Nat×Nat)×List Nat):List Dat:=[WD z.1.1 z.1.2.1 z.1.2.2,.lst (z.2.map N)]
theorem bD3{a:(Nat×Nat×Nat)×List Nat}(ha:wok a.1)(b:(Nat×Nat×Nat)×List Nat)(hb:wok b.1)(h:eW b=eW a):b=a:=by
 obtain⟨z,l⟩:=b
 obtain⟨z',l'⟩:=a
 have h2:Dat.lst (l.map N)=.lst (l'.map N):=(Dk.inj (Dk.inj h).2).1
 cases nj (Dat.lst.inj h2)
 cases bEj ha hb (Dk.inj h).1
 rfl
def nv(v:Nat→Nat→Nat→Dat):List Dat→Option Dat:=wo (fun z:Nat×Nat×Nat=>[WD z.1 z.2.1 z.2.2]) wok fun z=>v z.1 z.2.1 z.2.2
def nv0(v:Nat→Nat→Nat→Dat):List Dat→Option Dat:=wo eW (fun z=>wok z.1∧z.2=[]) fun z=>v z.1.1 z.1.2.1 z.1.2.2
def nv1(v:Nat→Nat→Nat→Nat→Dat):List Dat→Option Dat:=wo eW (fun z=>wok z.1∧∃a,z.2=[a]∧a<B32) fun z=>v z.1.1 z.1.2.1 z.1.2.2 (z.2.getD 0 0)
def nv2(v:Nat→Nat→Nat→Nat→Nat→Dat):List Dat→Option Dat:=wo eW (fun z=>wok z.1∧∃a b,z.2=[a,b]∧a<B32∧b<B32) fun z=>v z.1.1 z.1.2.1 z.1.2.2 (z.2.getD 0 0) (z.2.getD 1 0)
theorem aNb{v}{n m p:Nat}(h:WOk n m p):nv v [WD n m p]=some (v n m p):=gU (a:=(n,m,p)) (fun b hb e=>bEj h hb (Dk.inj e).1) h
theorem nP{v}{n m p:Nat}(h:WOk n m p):nv0 v [WD n m p,.lst []]=some (v n m p):=gU (a:=((n,m,p),[])) (fun b hb=>bD3 (a:=((n,m,p),_)) h b hb.1) ⟨h,rfl⟩
theorem aF8{v}{n m p a:Nat}(h:WOk n m p)(ha:a<B32):nv1 v [WD n m p,.lst [N a]]=some (v n m p a):=gU (a:=((n,m,p),[a])) (fun b hb=>bD3 (a:=((n,m,p),_)) h b hb.1) ⟨h,_,rfl,ha⟩
theorem aVq{v}{n m p a b:Nat}(h:WOk n m p)(ha:a<B32)(hb:b<B32):nv2 v [WD n m p,.lst [N a,N b]]=some (v n m p a b):=gU (a:=((n,m,p),[a,b])) (fun b hb=>bD3 (a:=((n,m,p),_)) h b hb.1) ⟨h,_,_,rfl,ha,hb⟩
section
variable{F:Nat→List Dat→Option Dat}{G:Nat→Option Dat}
theorem cv{v s b}(hs:1≤s)(h:∀n m p:Nat,WOk n m p→∃fuel,run F G fuel b (WS n m p::A8 (s-1) none)=some (.ret (v n m p))):Computes F G s b (nv v):=by
 intro args d e
 obtain⟨⟨n,m,p⟩,rfl,hp,rfl⟩:=gC e
 exact⟨hs,h _ _ _ hp⟩
theorem cv0{v s b}(hs:2≤s)(h:∀n m p:Nat,WOk n m p→∃fuel,run F G fuel b (WS n m p::some (.lst [],false)::A8 (s-2) none)=some (.ret (v n m p))):Computes F G s b (nv0 v):=by
 intro args d e
 obtain⟨⟨⟨n,m,p⟩,l⟩,rfl,⟨hp,rfl⟩,rfl⟩:=gC e
 exact⟨hs,h _ _ _ hp⟩
theorem cv1{v s b}(hs:2≤s)(h:∀n m p a:Nat,WOk n m p→a<B32→∃fuel,run F G fuel b (WS n m p::L1 a::A8 (s-2) none)=some (.ret (v n m p a))):Computes F G s b (nv1 v):=by
 intro args d e
 obtain⟨⟨⟨n,m,p⟩,l⟩,rfl,⟨hp,x,rfl,hx⟩,rfl⟩:=gC e
 exact⟨hs,h _ _ _ _ hp hx⟩
theorem cv2{v s b}(hs:2≤s)(h:∀n m p a c:Nat,WOk n m p→a<B32→c<B32→∃fuel,run F G fuel b (WS n m p::L2 a c::A8 (s-2) none)=some (.ret (v n m p a c))):Computes F G s b (nv2 v):=by
 intro args d e
 obtain⟨⟨⟨n,m,p⟩,l⟩,rfl,⟨hp,x,y,rfl,hx,hy⟩,rfl⟩:=gC e
 exact⟨hs,h _ _ _ _ _ hp hx hy⟩
theorem aSp{r:Rho}{x y:Dat}(h:r[0]?=some (some (.rcd [x,y]))):ev F G (.fld (.var 0) aJ) r=some x:=by rw[aSv,aV h];rfl
theorem aXh{r:Rho}{x y:Dat}(h:r[0]?=some (some (.rcd [x,y]))):ev F G (.fld (.var 0) fE) r=some y:=by rw[aSv,aV h];rfl
end
local macro_rules|`(tactic| w_left)=>`(tactic| repeat' first
 |with_reducible first
  |assumption|exact bJ|exact aU6|exact oJ|exact aE
  |exact fB|exact hJ|exact yM|exact yO|exact aGa|exact aG9|exact yN|exact vO
  |exact aYw|exact aYx|exact aYy|exact aYz
  |apply jL|apply lH|apply aG|apply cA|apply cP|apply aYe|apply pX|apply aYf
 |exact aSp rfl|exact aXh rfl|exact aV rfl|exact fB|exact yM|assumption|exact bJ|exact hJ|exact yO|exact aGa|exact aG9|exact yN|exact vO)
section
variable{F:Nat→List Dat→Option Dat}{G:Nat→Option Dat}
def a72(r:Kp272.Ans):Dat:=ai r.num r.nums
noncomputable def lJ:=nv fun n m _=>.lst [N n,N (pc n m)]
theorem aFh:Computes F G 1 rP lJ:=by
 refine cv (by decide) fun n m p h=>⟨0,?_⟩
 unfold rP
 have e0:=jN n m
 have e9:=nT n m
 exact aF (aBq (ds:=[N n,N (pc n m)]) (by w_left) (show 2≤16777216 by omega) rfl)
noncomputable def iG:=nv fun n m _=>N (C n (pc n m))
theorem aD3(h0:F aB=aO):Computes F G 1 pB iG:=by
 refine cv (by decide) fun n m p h=>⟨0,?_⟩
 have hn:=h.1
 unfold pB
 have e0:=jN n m
 have e9:=nT n m
 have e1:=ap h0 (aT (n:=n) (k:=pc n m) (by omega))
 exact aF (eB (by w_left) rfl)
theorem bCs{n m p:Nat}(h:WOk n m p):iG [WD n m p]=some (N (C n (pc n m))):=aNb h
theorem aGf(n m:Nat):eX 0 ((pbl n m).map N)=(Ab (n+1)).map fun i=>.tup [N i,N (pc i m)]:=by
 unfold pbl
 rw[Aj,jV]
 exact Ax fun i _=>by rw[Bw];rfl
noncomputable def fU:=nv fun n m p=>.lst ((Em ⟨p,n,m⟩).map N)
theorem wR(h0:F bD=dW)(h1:F bA=dU):Computes F G 4 kW fU:=by
 refine cv (by decide) fun n m p h=>⟨0,?_⟩
 have hn:=h.1
 have hb:=nQ h.2.2
 unfold kW
 have e1:=ap h0 (aXv h.1 h.2.1)
 refine aD (s':=[WS n m p,some (.lst ((pbl n m).map N),false),none,none]) (iL (d:=.lst ((pbl n m).map N)) (by w_left) rfl) ?_
 have e2:ev F G (.var 1) (rho [WS n m p,some (.lst ((pbl n m).map N),false),none,none])=some (.lst ((pbl n m).map N)):=aV rfl
 have e3:=vU e2
 rw[aGf]at e3
 refine aF (fK ?_ rfl mE)
 unfold Em
 refine rT _ (fun i=>Ap p i (G6 m i)==0) N _ e3 (by simp[SZ];omega) fun i hi=>⟨[some (WD n m p),some (.lst ((pbl n m).map N)),some (N i),some (N (pc i m))],rfl,?_,fun _=>aV rfl⟩
 have:i<n+1:=Ak.mp hi
 have e4:=ap h1 (fZ (n:=i) (k:=pc i m) (p:=p) (yE i m) (by omega) hb)
 rw[aPr,rX (lK h.2.2) hb.1 (yE i m),show(!(Ao p i (pc i m)==0))=decide ((0:Int)<(Ao p i (pc i m):Nat)) by rw[C8];simp;omega]
 w_left
theorem bEk{n m p:Nat}(h:WOk n m p):fU [WD n m p]=some (.lst ((Em ⟨p,n,m⟩).map N)):=aNb h
theorem aEk(w:Cj):(Em w).length≤w.n+1:=by
 unfold Em;exact B7 (Br _ _) (by rw[Bj];exact An _)
noncomputable def aMi:=nv0 fun n m p=>a72 (Al (some ⟨p,n,m⟩) .here).2
theorem aW3(h0:F iK=iG):Computes F G 2 aKf aMi:=by
 refine cv0 (by decide) fun n m p h=>⟨0,?_⟩
 unfold aKf
 have e0:=jN n m
 have e9:=nT n m
 have e1:=ap h0 (bCs h)
 show run F G 0 _ _=some (.ret (ai (n:Int) [(pc n m:Int),(Di n (pc n m):Int)]))
 rw[bB]
 exact sQ (by w_left) (by w_left) (by w_left)
noncomputable def aAu:=nv0 fun n m p=>a72 (Al (some ⟨p,n,m⟩) .number).2
theorem aNr(h0:F iK=iG)(h1:F bX=eK):Computes F G 2 zX aAu:=by
 refine cv0 (by decide) fun n m p h=>⟨0,?_⟩
 unfold zX
 have e1:=ap h0 (bCs h)
 have e2:=ap h1 (lO h.1 h.2.1)
 show run F G 0 _ _=some (.ret (ai (A3 n m:Int) [(Di n (pc n m):Int)]))
 rw[bB]
 exact mU (by w_left) (by w_left)
noncomputable def aEx:=nv0 fun n m p=>a72 (Al (some ⟨p,n,m⟩) .times).2
theorem aRc(h0:F bA=dU):Computes F G 2 aE3 aEx:=by
 refine cv0 (by decide) fun n m p h=>⟨0,?_⟩
 have hn:=h.1
 unfold aE3
 have e0:=jN n m
 have e9:=nT n m
 have e1:=ap h0 (fZ (n:=n) (k:=pc n m) (p:=p) (yE n m) (by omega) (nQ h.2.2))
 show run F G 0 _ _=some (.ret (ai (Ao p n (pc n m):Int) []))
 exact fA (by w_left)
noncomputable def aMj:=nv0 fun n m p=>a72 (Al (some ⟨p,n,m⟩) .left).2
theorem aW5(h0:F iK=iG):Computes F G 2 aKg aMj:=by
 refine cv0 (by decide) fun n m p h=>⟨0,?_⟩
 have hb:=nQ h.2.2
 unfold aKg
 have e1:=ap h0 (bCs h)
 have e2:bop .mod (N (C n (pc n m))) (N p)=some (N (C n (pc n m)%p)):=cG (by omega)
 rw[lucas (lK h.2.2) hb.1 h.1 (yE n m)]at e2
 show run F G 0 _ _=some (.ret (ai (Ap p n (pc n m):Int) []))
 exact fA (by w_left)
noncomputable def wE:=nv0 fun n m p=>a72 (Al (some ⟨p,n,m⟩) .divided).2
theorem aIq(h0:F iV=fU)(h1:F aN=bO):Computes F G 2 uN wE:=by
 refine cv0 (by decide) fun n m p h=>⟨0,?_⟩
 have hn:=h.1
 unfold uN
 have e1:=ap h0 (bEk h)
 have:=aEk ⟨p,n,m⟩
 exact pO (l:=Em ⟨p,n,m⟩) h1 (by w_left) (by have:(Em ⟨p,n,m⟩).length≤n+1:=this;omega)
noncomputable def aEt:=nv2 fun n m p a b=>a72 (Al (some ⟨p,n,m⟩) (.avoid a b)).2
theorem aR2(hG:G iX=some (.int 24))(hW:G aH=some (.int (-22)))(h0:F eA=gP)(h1:F aB=aO):Computes F G 4 aDt aEt:=by
 refine cv2 (by decide) fun n m p a b h ha hb=>⟨0,?_⟩
 unfold aDt
 refine aD (s':=[WS n m p,L2 a b,I a,none]) (aI (z:=a) (by w_fin)) (aD (s':=[WS n m p,L2 a b,I a,I b]) (aI (z:=b) (by w_fin)) ?_)
 refine aS (P:=(24:Int)<a∨(a:Int)<b) hW ?_ (fun q=>?_) fun q=>?_
 .rw[Bo];exact fD (by w_fin) (by w_fin)
 .exact congrArg a72 (ip (show Gi<a∨a<b from by unfold Gi;omega))
 .rw[show(Al (some ⟨p,n,m⟩) (.avoid a b)).2=⟨(Ft p a b:Int),Kp272.ints [Di a b]⟩from ig (show ¬(Gi<a∨a<b)from by unfold Gi;omega),bB]
  have e1:F eA [N a,N b,N p]=some (N (Ft p a b)):=ap h0 (sF ⟨by omega,by omega,h.2.2⟩)
  have e2:=ap h1 (aT (n:=a) (k:=b) (by omega))
  exact mU (by w_left) (by w_left)
noncomputable def aEu:=nv0 fun n m p=>a72 (Al (some ⟨p,n,m⟩) .clean).2
theorem aR5(h0:F eA=gP)(h1:F iV=fU)(h2:F cB=cM):Computes F G 3 aDw aEu:=by
 refine cv0 (by decide) fun n m p h=>⟨0,?_⟩
 unfold aDw
 have e0:=jN n m
 have e9:=nT n m
 have e1:F eA [N n,N (pc n m),N p]=some (N (Ft p n (pc n m))):=ap h0 (sF ⟨h.1,yE n m,h.2.2⟩)
 refine aD (s':=[WS n m p,some (.lst [],false),I (Ft p n (pc n m):Nat)]) (aI (z:=(Ft p n (pc n m):Nat)) (by w_left)) ?_
 have e2:=ap h1 (bEk h)
 show run F G 0 _ _=some (.ret (ai (if Em ⟨p,n,m⟩=[]then 1 else 0) [(Ft p n (pc n m):Int)]))
 generalize Em ⟨p,n,m⟩=D at e2 ⊢
 have e3:blt .len [.lst (D.map N)]=some (N D.length):=by rw[aA5,Ag]
 have e4:=ap h2 (aK1 (decide ((D.length:Int)=0)))
 have e5:(if decide ((D.length:Int)=0)=true then(1:Int)else 0)=if D=[]then 1 else 0:=by
  cases D with
  |nil=>rfl
  |cons a l=>rw[ig (by simp;omega),ig (by simp)]
 rw[e5]at e4
 exact mU (by w_left) (by w_left)
noncomputable def wI:=nv1 fun n m p a=>a72 (Al (some ⟨p,n,m⟩) (.turnsTo a)).2
theorem aJ5(hW:G aH=some (.int (-22)))(h0:F bZ=fG)(h1:F bD=dW):Computes F G 5 vC wI:=by
 refine cv1 (by decide) fun n m p a h ha=>⟨0,?_⟩
 have hn:=h.1
 unfold vC
 have e0:=jN n m
 have e9:=nT n m
 have e1:=ap h0 (bC5 (a:=a) hn)
 have e2:ev F G (.call bZ (.cons (.idx (.var 1) (.int 0)) (.cons (.blt .len (.cons (.fld (.var 0) aJ) .nil)) .nil))) (rho [WS n m p,L1 a,none,none,none])=some (if a<2^n then BL n a else .non):=by w_left
 rw[show(Al (some ⟨p,n,m⟩) (.turnsTo a)).2=(if 2^n≤a∨pc n a≠pc n m then Ck (-22)else Ck (Kp ⟨p,n,m⟩ a:Int))from rfl]
 by_cases q:a<2^n
 .rw[ip q]at e2
  refine aD (s':=[WS n m p,L1 a,BS n a,none,none]) (iL (d:=BL n a) e2 rfl) ?_
  have e8:=nT n a
  have t0:ev F G (.or_ (.cmp .isN (.var 2) .non) (.cmp .ne (.blt .sum (.cons (.var 2) .nil)) (.blt .sum (.cons (.fld (.var 0) aJ) .nil)))) (rho [WS n m p,L1 a,BS n a,none,none])=some (.bl (!decide ((pc n a:Int)=(pc n m:Int)))):=rV (lH (aV rfl) oJ aA8) (lH (cP (aG (aV rfl) aE) e8) (cP (aG (aSp rfl) aE) e9) yO)
  refine aS (P:=pc n a≠pc n m) hW ?_ (fun z=>?_) fun z=>?_
  .rw[t0];congr 2
   by_cases z:pc n a=pc n m
   .rw[det (by omega),def_ (by omega)];rfl
   .rw[def_ (by omega),det z];rfl
  .rw[ip (.inr z)];rfl
  .rw[ig (by omega),aSc (by omega)]
   have e3:=ap h1 (aXv hn h.2.1)
   have e4:=ap h1 (aXv hn q)
   have e5:items F G (.zip (.call bD (.cons (.fld (.var 0) aJ) .nil)) (.call bD (.cons (.var 2) .nil))) (rho [WS n m p,L1 a,BS n a,none,none])=_:=aUd (l:=(pbl n m).map N) (m:=(pbl n a).map N) (by w_left) (by w_left)
   unfold pbl at e5
   rw[Aj,Aj,xN,Nat.min_self]at e5
   have e6:ev F G (.lc (.blt .abs (.cons (.bin .sub (.var 3) (.var 4)) .nil)) (.two 3 4) (.zip (.call bD (.cons (.fld (.var 0) aJ) .nil)) (.call bD (.cons (.var 2) .nil))) .nil) (rho [WS n m p,L1 a,BS n a,none,none])=some (.lst (((Ab (n+1)).map fun i=>((pc i m:Int)-(pc i a:Int)).natAbs).map N)):=by
    rw[Aj]
    refine aCj _ _ (Ab (n+1)) e5 (by simp[SZ];omega) fun i hi=>⟨[some (WD n m p),some (.lst [N a]),some (BL n a),some (N (pc i m)),some (N (pc i a))],rfl,?_⟩
    exact cP (aG (jL (aV rfl) (aV rfl) hJ) aE) aPx
   exact fA (cP (aG e6 aE) aBx)
 .rw[ig q]at e2
  rw[ip (.inl (by omega))]
  refine aD (s':=[WS n m p,L1 a,some (.non,false),none,none]) (iL (d:=.non) e2 rfl) ?_
  have t0:ev F G (.or_ (.cmp .isN (.var 2) .non) (.cmp .ne (.blt .sum (.cons (.var 2) .nil)) (.blt .sum (.cons (.fld (.var 0) aJ) .nil)))) (rho [WS n m p,L1 a,some (.non,false),none,none])=some (.bl true):=vQ (lH (aV rfl) oJ aA9)
  exact aF (eQ t0 (xE hW))
noncomputable def sB:=nv1 fun n m p a=>a72 (Al (some ⟨p,n,m⟩) (.together a)).2
theorem aFj(hW:G aH=some (.int (-22)))(h0:F bZ=fG)(h1:F bD=dW)(h2:F aN=bO):Computes F G 7 rR sB:=by
 refine cv1 (by decide) fun n m p a h ha=>⟨0,?_⟩
 have hn:=h.1
 unfold rR
 have e0:=jN n m
 have e1:=ap h0 (bC5 (a:=a) hn)
 have e2:ev F G (.call bZ (.cons (.idx (.var 1) (.int 0)) (.cons (.blt .len (.cons (.fld (.var 0) aJ) .nil)) .nil))) (rho [WS n m p,L1 a,none,none,none,none,none])=some (if a<2^n then BL n a else .non):=by w_left
 rw[show(Al (some ⟨p,n,m⟩) (.together a)).2=(if 2^n≤a then Ck (-22)else Oc (Im ⟨p,n,m⟩ a))from rfl]
 by_cases q:a<2^n
 .rw[ip q]at e2
  rw[ig (by omega)]
  refine aD (s':=[WS n m p,L1 a,BS n a,none,none,none,none]) (iL (d:=BL n a) e2 rfl) ?_
  have t0:ev F G (.cmp .isN (.var 2) .non) (rho [WS n m p,L1 a,BS n a,none,none,none,none])=some (.bl false):=lH (aV rfl) oJ aA8
  refine aD (eF t0 aR) ?_
  have e3:=ap h1 (aXv hn h.2.1)
  have e4:=ap h1 (aXv hn q)
  refine aD (s':=[WS n m p,L1 a,BS n a,some (.lst ((pbl n m).map N),false),none,none,none]) (iL (d:=.lst ((pbl n m).map N)) (by w_left) rfl) ?_
  refine aD (s':=[WS n m p,L1 a,BS n a,some (.lst ((pbl n m).map N),false),some (.lst ((pbl n a).map N),false),none,none]) (iL (d:=.lst ((pbl n a).map N)) (by w_left) rfl) ?_
  have e5:ev F G (.var 3) (rho [WS n m p,L1 a,BS n a,some (.lst ((pbl n m).map N),false),some (.lst ((pbl n a).map N),false),none,none])=some (.lst ((pbl n m).map N)):=aV rfl
  have e6:=vU e5
  rw[aGf]at e6
  refine pO (l:=Im ⟨p,n,m⟩ a) h2 ?_ ?_
  .unfold Im
   refine rT _ (fun i=>G6 m i==G6 a i) N _ e6 (by simp[SZ];omega) fun i hi=>⟨[some (WD n m p),some (.lst [N a]),some (BL n a),some (.lst ((pbl n m).map N)),some (.lst ((pbl n a).map N)),some (N i),some (N (pc i m))],rfl,?_,fun _=>aV rfl⟩
   have:i<n+1:=Ak.mp hi
   have i0:idx (.lst ((pbl n a).map N)) (N i)=some (N (pc i a)):=xR (by unfold pbl;rw[Bb,E7 (by omega)];rfl)
   rw[aPr,aPr,Bool.beq_comm,←jF]
   w_left
  .unfold Im;exact B9 (Br _ _) (by rw[Bj];show n+1<_;omega)
 .rw[ig q]at e2
  rw[ip (by omega)]
  refine aD (s':=[WS n m p,L1 a,some (.non,false),none,none,none,none]) (iL (d:=.non) e2 rfl) ?_
  have t0:ev F G (.cmp .isN (.var 2) .non) (rho [WS n m p,L1 a,some (.non,false),none,none,none,none])=some (.bl true):=lH (aV rfl) oJ aA9
  exact aF (eQ t0 (xE hW))
noncomputable def aAm:=nv1 fun n m p a=>a72 (Al (some ⟨p,n,m⟩) (.behind a)).2
theorem aNf(hW:G aH=some (.int (-22)))(h0:F aB=aO):Computes F G 4 zL aAm:=by
 refine cv1 (by decide) fun n m p a h ha=>⟨0,?_⟩
 have hn:=h.1
 have hb:=nQ h.2.2
 unfold zL
 have e0:=jN n m
 refine aD (s':=[WS n m p,L1 a,I a,none]) (aI (z:=a) (by w_fin)) ?_
 refine aS (P:=(n:Int)<a) hW (by w_left) (fun q=>?_) fun q=>?_
 .exact congrArg a72 (ip (show n<a by omega))
 .rw[show(Al (some ⟨p,n,m⟩) (.behind a)).2=⟨(G6 m a:Int),Kp272.ints [Ap p a (G6 m a)]⟩from ig (show ¬n<a by omega),aPr]
  have e1:ev F G (.slc (.fld (.var 0) aJ) .nil (.cons (.var 2) .nil)) (rho [WS n m p,L1 a,I a,none])=some (BL a m):=by
   have:=aQ3 (F:=F) (G:=G) (a:=.fld (.var 0) aJ) (lo:=.nil) (hi:=.cons (.var 2) .nil) (r:=rho [WS n m p,L1 a,I a,none]) (l:=(bits n m).map N) (y:=[N a]) (aSp rfl) aE (by w_fin) aH8 oB
   rw[this,aSl (by rw[Ag,cF];omega),←Fy,vG (by omega)]
  have e2:=nT a m
  refine aD (s':=[WS n m p,L1 a,I a,I (pc a m:Nat)]) (aI (z:=(pc a m:Nat)) (cP (aG e1 aE) e2)) ?_
  have e3:=ap h0 (aT (n:=a) (k:=pc a m) (by omega))
  have e4:bop .mod (N (C a (pc a m))) (N p)=some (N (C a (pc a m)%p)):=cG (by omega)
  rw[lucas (lK h.2.2) hb.1 (by omega) (yE a m)]at e4
  exact mU (by w_left) (by w_left)
noncomputable def aMf:=nv0 fun n m p=>a72 (Al (some ⟨p,n,m⟩) .best).2
theorem aVy(h0:F bA=dU):Computes F G 6 aKa aMf:=by
 refine cv0 (by decide) fun n m p h=>⟨0,?_⟩
 have hn:=h.1
 have hb:=nQ h.2.2
 have hp:=yE n m
 unfold aKa
 have e0:=jN n m
 have e9:=nT n m
 have e1:=ap h0 (fZ (n:=n+1) (k:=pc n m) (p:=p) (by omega) (by omega) hb)
 have e2:F bA [N (n+1),.int ((pc n m:Nat)+1),N p]=some (N (Ao p (n+1) (pc n m+1))):=ap h0 (fZ (n:=n+1) (k:=pc n m+1) (p:=p) (by omega) (by omega) hb)
 generalize hA:Ao p (n+1) (pc n m)=A at e1
 generalize hB:Ao p (n+1) (pc n m+1)=B at e2
 have hv:a72 (Al (some ⟨p,n,m⟩) .best).2=if B<A then ai 1 [(B:Int)]else ai 0 [(A:Int)]:=by
  show a72 ⟨((Nw ⟨p,n,m⟩).1:Int),Kp272.ints [(Nw ⟨p,n,m⟩).2]⟩=_
  have:Nw ⟨p,n,m⟩=if B<A then(1,B)else(0,A):=by
   rw[←hA,←hB];rfl
  rw[this]
  split<;>rfl
 rw[hv]
 refine aD (s':=[WS n m p,some (.lst [],false),I (n+1:Nat),none,none,none]) (aI (z:=(n+1:Nat)) (by rw[Ei];exact jL (cP (aG (aSp rfl) aE) e0) bJ fB)) ?_
 refine aD (s':=[WS n m p,some (.lst [],false),I (n+1:Nat),I (pc n m:Nat),none,none]) (aI (z:=(pc n m:Nat)) (by w_left)) ?_
 refine aD (s':=[WS n m p,some (.lst [],false),I (n+1:Nat),I (pc n m:Nat),I A,none]) (aI (z:=A) (by w_left)) ?_
 refine aD (s':=[WS n m p,some (.lst [],false),I (n+1:Nat),I (pc n m:Nat),I A,I B]) (aI (z:=B) (by w_left)) ?_
 have t0:ev F G (.cmp .lt (.var 5) (.var 4)) (rho [WS n m p,some (.lst [],false),I (n+1:Nat),I (pc n m:Nat),I A,I B])=some (.bl (decide ((B:Int)<A))):=by w_fin
 by_cases q:B<A
 .rw[ip q]
  rw[det (by omega)]at t0
  exact aF (eQ t0 (mU (by w_fin) (by w_fin)))
 .rw[ig q]
  rw[def_ (by omega)]at t0
  exact aD (eF t0 aR) (mU (by w_fin) (by w_fin))
noncomputable def aMm:=nv0 fun n m p=>a72 (Al (some ⟨p,n,m⟩) .told).2
theorem aWf(h0:F qS=nO):Computes F G 2 aKq aMm:=by
 refine cv0 (by decide) fun n m p h=>⟨0,?_⟩
 unfold aKq
 have e0:=jN n m
 have e1:=ap h0 (aSi h.1 h.2.1)
 exact sQ (by w_left) (by w_left) (by w_left)
end
def Good:Dt→Prop
 |none=>True
 |some w=>WOk w.n w.m w.prime
noncomputable def sv:Dt→List Dat×Int
 |none=>([],0)
 |some w=>((bits w.n w.m).map N,(w.prime:Int))
open Classical in
def aJj(ds:List Dat)(p:Int):Option Dt:=
 if h:∃s,Good s∧sv s=(ds,p)then some h.choose else none
theorem bBu{s t:Dt}(hs:Good s)(ht:Good t)(h:sv s=sv t):s=t:=by
 cases s with
 |none=>
  cases t with
  |none=>rfl
  |some w=>
   have:=congrArg Od h
   have h2:=nQ ht.2.2
   simp[sv]at this;omega
 |some v=>
  cases t with
  |none=>
   have:=congrArg Od h
   have h2:=nQ hs.2.2
   simp[sv]at this;omega
  |some w=>
   have e1:=congrArg Prod.fst h
   have e2:(v.prime:Int)=w.prime:=congrArg Od h
   have e3:(bits v.n v.m).map N=(bits w.n w.m).map N:=e1
   have e4:bits v.n v.m=bits w.n w.m:=by
    have:=congrArg nats e3
    rw[tF,tF]at this
    exact A0 this
   have e5:v.n=w.n:=by have:=congrArg Iw e4;rwa [cF,cF]at this
   have e6:v.m=w.m:=by
    have:=congrArg val e4
    rwa [oE _ _ hs.2.1,oE _ _ ht.2.1]at this
   obtain⟨a,b,c⟩:=v
   obtain⟨a',b',c'⟩:=w
   simp only at e2 e5 e6
   have e7:a=a':=by omega
   subst e5 e6 e7;rfl
theorem xI{s:Dt}(h:Good s):aJj (sv s).1 (sv s).2=some s:=by
 unfold aJj
 have hx:∃t,Good t∧sv t=((sv s).1,(sv s).2):=⟨s,h,rfl⟩
 rw[dif_pos hx]
 exact congrArg some (bBu hx.choose_spec.1 h hx.choose_spec.2)
theorem wN{ds:List Dat}{p:Int}{s:Dt}(h:aJj ds p=some s):Good s∧ds=(sv s).1∧p=(sv s).2:=by
 unfold aJj at h
 split at h
 .rename_i hx
  cases h
  have:=hx.choose_spec
  exact⟨this.1,(congrArg Prod.fst this.2).symm,(congrArg Od this.2).symm⟩
 .cases h
noncomputable def res (s:Dt) (x:C7):Dat×List Dat×Int:=(a72 (Al s x).2,(sv (Al s x).1).1,(sv (Al s x).1).2)
abbrev EF:=List Dat→Int→List Dat→Option (Dat×List Dat×Int)
open Classical in
def eb(x:Nat→C7):EF
 |ds,p,[.lst [.int (.ofNat a)]]=>(aJj ds p).bind fun s=>if a<B32 then some (res s (x a))else none
 |_,_,_=>none
def wOf(s:Dt):Option Cj:=s
open Classical in
def eo0(x:C7):EF
 |ds,p,[.lst []]=>(aJj ds p).bind fun s=>(wOf s).map fun w=>res (some w) x
 |_,_,_=>none
open Classical in
def eo1(x:Nat→C7):EF
 |ds,p,[.lst [.int (.ofNat a)]]=>(aJj ds p).bind fun s=>(wOf s).bind fun w=>if a<B32 then some (res (some w) (x a))else none
 |_,_,_=>none
open Classical in
def eo2(x:Nat→Nat→C7):EF
 |ds,p,[.lst [.int (.ofNat a),.int (.ofNat b)]]=>(aJj ds p).bind fun s=>(wOf s).map fun w=>res (some w) (x a b)
 |_,_,_=>none
theorem aYg{x:Nat→C7}{s:Dt}{a:Nat}(h:Good s)(ha:a<B32):eb x (sv s).1 (sv s).2 [.lst [N a]]=some (res s (x a)):=by
 show(aJj (sv s).1 (sv s).2).bind _=_
 rw[xI h,Af];exact ip ha
theorem aAc{x:C7}{w:Cj}(h:Good (some w)):eo0 x (sv (some w)).1 (sv (some w)).2 [.lst []]=some (res (some w) x):=by
 show(aJj (sv (some w)).1 (sv (some w)).2).bind _=_
 rw[xI h];rfl
theorem aEl{x:Nat→C7}{w:Cj}{a:Nat}(h:Good (some w))(ha:a<B32):eo1 x (sv (some w)).1 (sv (some w)).2 [.lst [N a]]=some (res (some w) (x a)):=by
 show(aJj (sv (some w)).1 (sv (some w)).2).bind _=_
 rw[xI h];exact ip ha
theorem aEn{x:Nat→Nat→C7}{w:Cj}{a b:Nat}(h:Good (some w)):eo2 x (sv (some w)).1 (sv (some w)).2 [.lst [N a,N b]]=some (res (some w) (x a b)):=by
 show(aJj (sv (some w)).1 (sv (some w)).2).bind _=_
 rw[xI h];rfl
section
variable{F:Nat→List Dat→Option Dat}{G:Nat→Option Dat}{E:Nat→EF}{T:Nat→List Nat}
theorem aT1{a:OStm}{t:OStms}{r:Rho}:orun F G E T (.cons a t) r=(gR F G E T a r).bind fun f=>match f with
  |.nxt r'=>orun F G E T t r'
  |.ret d l p=>some (.ret d l p):=Aq rfl rfl
theorem eP{a:OStm}{t:OStms}{r r':Rho}{x:Option OFlow}(h:gR F G E T a r=some (.nxt r'))(h2:orun F G E T t r'=x):orun F G E T (.cons a t) r=x:=by rw[aT1,h];exact h2
theorem jB{a:OStm}{t:OStms}{r:Rho}{d:Dat}{l:List Dat}{p:Int}(h:gR F G E T a r=some (.ret d l p)):orun F G E T (.cons a t) r=some (.ret d l p):=by rw[aT1,h];rfl
theorem kH{r:Rho}:orun F G E T .nil r=some (.nxt r):=Aq rfl rfl
theorem kQ{c:Tm}{a b:OStms}{r:Rho}{x:Option OFlow}(h:ev F G c r=some (.bl true))(h2:orun F G E T a r=x):gR F G E T (.ite c a b) r=x:=by
 rw[show gR F G E T (.ite c a b) r=(tst F G c r).bind fun k=>if k then orun F G E T a r else orun F G E T b r from Aq rfl rfl,aS5 h];exact h2
theorem fJ{c:Tm}{a b:OStms}{r:Rho}{x:Option OFlow}(h:ev F G c r=some (.bl false))(h2:orun F G E T b r=x):gR F G E T (.ite c a b) r=x:=by
 rw[show gR F G E T (.ite c a b) r=(tst F G c r).bind fun k=>if k then orun F G E T a r else orun F G E T b r from Aq rfl rfl,aS5 h];exact h2
theorem aIm{i:Nat}{e:Tm}{r:Rho}{d:Dat}(h:ev F G e r=some d)(hf:(flat d&&decide (i≠0))=true):gR F G E T (.set i e) r=some (.nxt (r.set i (some d))):=by
 rw[show gR F G E T (.set i e) r=(ev F G e r).bind fun d=>if flat d&&decide (i≠0)then some (.nxt (r.set i (some d)))else none from Aq rfl rfl,h];exact ip hf
theorem bA3{e:Tm}{r:Rho}{w:List Dat×Int}{z:Int}(ho:obj r=some w)(h:ev F G e r=some (.int z)):gR F G E T (.onum e) r=some (.nxt (oP r w.1 z)):=by
 rw[show gR F G E T (.onum e) r=(obj r).bind fun w=>(ev F G e r).bind fun d=>match d with
  |.int z=>some (.nxt (oP r w.1 z))
  |_=>none from Aq rfl rfl,ho,h];rfl
theorem aVs{e:Tm}{r:Rho}{w:List Dat×Int}{l:List Dat}(ho:obj r=some w)(h:ev F G e r=some (.lst l))(hf:(tM e&&l.all flat)=true):gR F G E T (.olst e) r=some (.nxt (oP r l w.2)):=by
 rw[show gR F G E T (.olst e) r=(obj r).bind fun w=>(ev F G e r).bind fun d=>match d with
  |.lst l=>if tM e&&l.all flat then some (.nxt (oP r l w.2))else none
  |_=>none from Aq rfl rfl,ho,h];exact ip hf
theorem bDk{e:Tm}{r:Rho}{w:List Dat×Int}{d:Dat}(ho:obj r=some w)(h:ev F G e r=some d)(hf:(flat d&&decide (w.1.length<SZ))=true):gR F G E T (.oapp e) r=some (.nxt (oP r (w.1++[d]) w.2)):=by
 rw[show gR F G E T (.oapp e) r=(obj r).bind fun w=>(ev F G e r).bind fun d=>if flat d&&decide (w.1.length<SZ)then some (.nxt (oP r (w.1++[d]) w.2))else none from Aq rfl rfl,ho,h];exact ip hf
theorem bDl{r:Rho}{w:List Dat×Int}(ho:obj r=some w)(h:¬w.1.isEmpty=true):gR F G E T .opop r=some (.nxt (oP r w.1.dropLast w.2)):=by
 rw[show gR F G E T .opop r=(obj r).bind fun w=>if w.1.isEmpty then none else some (.nxt (oP r w.1.dropLast w.2))from Aq rfl rfl,ho];exact ig h
theorem bA4{k e:Tm}{r:Rho}{w:List Dat×Int}{d:Dat}{j:Nat}(ho:obj r=some w)(h:ev F G e r=some d)(hk:ev F G k r=some (N j))(hf:flat d=true)(hj:j<w.1.length):gR F G E T (.oput k e) r=some (.nxt (oP r (w.1.set j d) w.2)):=by
 have e0:gR F G E T (.oput k e) r=(obj r).bind fun w=>(ev F G e r).bind fun d=>(ev F G k r).bind fun z=>match z with
  |.int z=>if flat d then(qE w.1.length z).map fun j=>.nxt (oP r (w.1.set j d) w.2)else none
  |_=>none:=Aq rfl rfl
 have e1:qE w.1.length (j:Int)=some j:=by
  unfold qE;rw[ip (by omega),ip (by omega),B8]
 rw[e0,ho,h,hk]
 show(if flat d then(qE w.1.length (j:Int)).map (fun j=>OFlow.nxt (oP r (w.1.set j d) w.2))else none)=_
 rw[ip hf,e1];rfl
theorem yX{e:Tm}{r:Rho}{w:List Dat×Int}{d:Dat}(ho:obj r=some w)(h:ev F G e r=some d)(hf:(tM e&&flats d)=true):gR F G E T (.ret e) r=some (.ret d w.1 w.2):=by
 rw[show gR F G E T (.ret e) r=(obj r).bind fun w=>(ev F G e r).bind fun d=>if tM e&&flats d then some (.ret d w.1 w.2)else none from Aq rfl rfl,ho,h];exact ip hf
theorem aT2{g:Nat}{l:Tms}{r:Rho}{w:List Dat×Int}{ds:List Dat}{z:Dat×List Dat×Int}(ho:obj r=some w)(h:evs F G l r=some ds)(hs:((srcs l).all fun j=>decide (j≠0))=true)(he:E g w.1 w.2 ds=some z):gR F G E T (.retE g l) r=some (.ret z.1 z.2.1 z.2.2):=by
 have e0:gR F G E T (.retE g l) r=(obj r).bind fun w=>(evs F G l r).bind fun ds=>if(srcs l).all (fun j=>decide (j≠0))then(E g w.1 w.2 ds).map fun z=>.ret z.1 z.2.1 z.2.2 else none:=Aq rfl rfl
 rw[e0,ho,h,Af,Af,ip hs,he];rfl
theorem sH{a:Tm}{t:OStms}{r:Rho}{w:List Dat×Int}{i:Int}(ho:obj r=some w)(h:ev F G a r=some (.int i)):orun F G E T (.cons (.ret (.lst (.cons a .nil))) t) r=some (.ret (ai i []) w.1 w.2):=
 jB (yX (d:=.lst [.int i]) ho (kG (aG h aE) (show 1≤16777216 by omega)) rfl)
theorem bDm{a b:Tm}{t:OStms}{r:Rho}{w:List Dat×Int}{i j:Int}(ho:obj r=some w)(h:ev F G a r=some (.int i))(h2:ev F G b r=some (.int j)):orun F G E T (.cons (.ret (.lst (.cons a (.cons b .nil)))) t) r=some (.ret (ai i [j]) w.1 w.2):=
 jB (yX (d:=.lst [.int i,.int j]) ho (kG (aG h (aG h2 aE)) (show 2≤16777216 by omega)) rfl)
theorem cob{x:Nat→C7}{s b}(hs:2≤s)(h:∀(t:Dt)(a:Nat),Good t→a<B32→orun F G E T b (some (.rcd [.lst (sv t).1,.int (sv t).2])::some (.lst [N a])::A8 (s-2) none)=some (.ret (res t (x a)).1 (res t (x a)).2.1 (res t (x a)).2.2)):cN F G E T s b (eb x):=by
 intro l p args z e;unfold eb at e;split at e
 .obtain⟨t,ht,e⟩:=Aa.mp e
  split at e
  case isFalse=>cases e
  rename_i ha
  cases e
  obtain⟨g,rfl,rfl⟩:=wN ht
  exact⟨hs,h _ _ g ha⟩
 .cases e
theorem co0{x:C7}{s b}(hs:2≤s)(h:∀n m p:Nat,WOk n m p→orun F G E T b (some (WD n m p)::some (.lst [])::A8 (s-2) none)=some (.ret (res (some ⟨p,n,m⟩) x).1 (res (some ⟨p,n,m⟩) x).2.1 (res (some ⟨p,n,m⟩) x).2.2)):cN F G E T s b (eo0 x):=by
 intro l p args z e;unfold eo0 at e;split at e
 .obtain⟨t,ht,e⟩:=Aa.mp e
  cases t with
  |none=>cases e
  |some w=>
   cases e
   obtain⟨g,rfl,rfl⟩:=wN ht
   exact⟨hs,h _ _ _ g⟩
 .cases e
theorem co1{x:Nat→C7}{s b}(hs:2≤s)(h:∀n m p a:Nat,WOk n m p→a<B32→orun F G E T b (some (WD n m p)::some (.lst [N a])::A8 (s-2) none)=some (.ret (res (some ⟨p,n,m⟩) (x a)).1 (res (some ⟨p,n,m⟩) (x a)).2.1 (res (some ⟨p,n,m⟩) (x a)).2.2)):cN F G E T s b (eo1 x):=by
 intro l p args z e;unfold eo1 at e;split at e
 .obtain⟨t,ht,e⟩:=Aa.mp e
  cases t with
  |none=>cases e
  |some w=>
   replace e:=e
   simp only[wOf,Af]at e
   split at e
   case isFalse=>cases e
   rename_i ha
   cases e
   obtain⟨g,rfl,rfl⟩:=wN ht
   exact⟨hs,h _ _ _ _ g ha⟩
 .cases e
theorem co2{x:Nat→Nat→C7}{s b}(hs:2≤s)(h:∀n m p a c:Nat,WOk n m p→orun F G E T b (some (WD n m p)::some (.lst [N a,N c])::A8 (s-2) none)=some (.ret (res (some ⟨p,n,m⟩) (x a c)).1 (res (some ⟨p,n,m⟩) (x a c)).2.1 (res (some ⟨p,n,m⟩) (x a c)).2.2)):cN F G E T s b (eo2 x):=by
 intro l p args z e;unfold eo2 at e;split at e
 .obtain⟨t,ht,e⟩:=Aa.mp e
  cases t with
  |none=>cases e
  |some w=>
   cases e
   obtain⟨g,rfl,rfl⟩:=wN ht
   exact⟨hs,h _ _ _ _ _ g⟩
 .cases e
def aLj:EF:=eb .begin_
theorem aR3(hW:G aH=some (.int (-22)))(h0:F cX=iB):cN F G E T 2 aDu aLj:=by
 refine cob (by decide) fun t a ht ha=>?_
 unfold aDu
 have e1:=ap h0 (rF ha)
 have t0:ev F G (.not_ (.call cX (.cons (.idx (.var 1) (.int 0)) .nil))) [some (.rcd [.lst (sv t).1,.int (sv t).2]),some (.lst [N a])]=some (.bl (!Ba a)):=by w_fin
 unfold res
 rw[show Al t (.begin_ a)=(if Ba a then(some ⟨a,0,0⟩,Ck (a:Int))else(t,Ck (-22)))from rfl]
 cases hc:Ba a with
 |false=>
  rw[hc]at t0
  exact jB (kQ t0 (sH (w:=sv t) rfl (pX hW)))
 |true=>
  rw[hc]at t0
  refine eP (fJ t0 kH) ?_
  refine eP (r':=[some (.rcd [.lst (sv t).1,N a]),some (.lst [N a])]) (bA3 (w:=sv t) rfl (by w_fin)) ?_
  refine eP (r':=[some (.rcd [.lst [],N a]),some (.lst [N a])]) (aVs (w:=((sv t).1,(a:Int))) rfl (kG aE (show 0≤16777216 by omega)) rfl) ?_
  exact sH (w:=([],(a:Int))) rfl (aXh rfl)
def oI:EF:=eo1 .prime
theorem wQ(hW:G aH=some (.int (-22)))(h0:F cX=iB):cN F G E T 3 kU oI:=by
 refine co1 (by decide) fun n m p a h ha=>?_
 unfold kU
 have e1:=ap h0 (rF ha)
 have t0:ev F G (.not_ (.call cX (.cons (.idx (.var 1) (.int 0)) .nil))) [some (WD n m p),some (.lst [N a]),none]=some (.bl (!Ba a)):=by w_fin
 unfold res
 rw[show Al (some ⟨p,n,m⟩) (.prime a)=(if Ba a then(some ⟨a,n,m⟩,Ck (p:Int))else(some ⟨p,n,m⟩,Ck (-22)))from rfl]
 cases hc:Ba a with
 |false=>
  rw[hc]at t0
  exact jB (kQ t0 (sH (w:=((bits n m).map N,(p:Int))) rfl (pX hW)))
 |true=>
  rw[hc]at t0
  refine eP (fJ t0 kH) ?_
  refine eP (r':=[some (WD n m p),some (.lst [N a]),some (N p)]) (aIm (d:=N p) (aXh rfl) rfl) ?_
  refine eP (r':=[some (WD n m a),some (.lst [N a]),some (N p)]) (bA3 (w:=((bits n m).map N,(p:Int))) rfl (by w_fin)) ?_
  exact sH (w:=((bits n m).map N,(a:Int))) rfl (aV rfl)
theorem yJ{n m p:Nat}(h:WOk n m p):lJ [WD n m p]=some (.lst [N n,N (pc n m)]):=aNb h
def aSo:EF:=eo1 .down
theorem WOk.down{n m p r:Nat}(h:WOk n m p)(hn:n<24)(hr:r≤1):WOk (n+1) (m+r*2^n) p:=by
 refine⟨by omega,?_,h.2.2⟩
 have:=h.2.1
 have h2:r*2^n≤1*2^n:=D7 _ hr
 rw[Cm];omega
theorem aWo{n m r:Nat}(hm:m<2^n)(hr:r≤1):pc (n+1) (m+r*2^n)=pc n m+r:=by
 rw[←kJ,nV hm (by omega),Eg,kJ];simp
theorem aVz(hW:G aH=some (.int (-22)))(hF:G aSy=some (.int (-28)))(hM:G iX=some (.int 24))(h0:F oA=lJ):cN F G E T 2 aKb aSo:=by
 refine co1 (by decide) fun n m p a h ha=>?_
 have hn:=h.1
 unfold aKb
 have e0:=jN n m
 unfold res
 rw[show Al (some ⟨p,n,m⟩) (.down a)=(if 1<a then(some ⟨p,n,m⟩,Ck (-22))else if Gi≤n then(some ⟨p,n,m⟩,Ck (-28))else(some ⟨p,n+1,m+a*2^n⟩,⟨(n+1:Nat),Kp272.ints [pc n m+a]⟩))from rfl]
 have t0:ev F G (.cmp .gt (.idx (.var 1) (.int 0)) (.int 1)) [some (WD n m p),some (.lst [N a])]=some (.bl (decide ((1:Int)<a))):=by w_fin
 have t1:ev F G (.cmp .eq (.blt .len (.cons (.fld (.var 0) aJ) .nil)) (.glo iX)) [some (WD n m p),some (.lst [N a])]=some (.bl (decide ((n:Int)=24))):=by w_left
 by_cases q:1<a
 .rw[ip q]
  rw[det (by omega)]at t0
  exact jB (kQ t0 (sH (w:=((bits n m).map N,(p:Int))) rfl (pX hW)))
 .rw[ig q]
  rw[def_ (by omega)]at t0
  refine eP (fJ t0 kH) ?_
  by_cases q2:n=24
  .rw[ip (by unfold Gi;omega)]
   rw[det (by omega)]at t1
   exact jB (kQ t1 (sH (w:=((bits n m).map N,(p:Int))) rfl (pX hF)))
  .rw[ig (by unfold Gi;omega)]
   rw[def_ (by omega)]at t1
   refine eP (fJ t1 kH) ?_
   have hb:(bits n m).map N++[N a]=(bits (n+1) (m+a*2^n)).map N:=by rw[nV h.2.1 (by omega),A7];rfl
   refine eP (r':=[some (WD (n+1) (m+a*2^n) p),some (.lst [N a])]) ?_ ?_
   .have:=bDk (F:=F) (G:=G) (E:=E) (T:=T) (e:=.idx (.var 1) (.int 0)) (r:=[some (WD n m p),some (.lst [N a])]) (w:=((bits n m).map N,(p:Int))) (d:=N a) rfl (by w_fin) (by
     show(true&&decide (((bits n m).map N).length<SZ))=true
     rw[Ag,cF,det (show n<16777216 by omega)];rfl)
    refine this.trans ?_
    show some (OFlow.nxt (oP _ ((bits n m).map N++[N a]) _))=_
    rw[hb];rfl
   .have e2:=ap h0 (yJ (h.down (by omega) (show a≤1 by omega)))
    rw[aWo h.2.1 (by omega)]at e2
    exact jB (yX (d:=.lst [N (n+1),N (pc n m+a)]) (w:=((bits (n+1) (m+a*2^n)).map N,(p:Int))) rfl (cA (aG (aV rfl) aE) e2) rfl)
def bEp:EF:=eo0 .up
theorem WOk.up{n m p:Nat}(h:WOk (n+1) m p):WOk n (m%2^n) p:=⟨by have:=h.1;omega,Bx _ (D3 n),h.2.2⟩
theorem bDq(hT:G kN=some (.int (-6)))(h0:F oA=lJ):cN F G E T 2 bCx bEp:=by
 refine co0 (by decide) fun n m p h=>?_
 unfold bCx
 have e0:=jN n m
 unfold res
 rw[show Al (some ⟨p,n,m⟩) .up=(if n=0 then(some ⟨p,n,m⟩,Ck (-6))else(some ⟨p,n-1,m%2^(n-1)⟩,⟨(n-1:Nat),Kp272.ints [G6 m (n-1)]⟩))from rfl]
 have t0:ev F G (.cmp .eq (.blt .len (.cons (.fld (.var 0) aJ) .nil)) (.int 0)) [some (WD n m p),some (.lst [])]=some (.bl (decide ((n:Int)=0))):=by w_left
 by_cases q:n=0
 .rw[ip q]
  rw[det (by omega)]at t0
  exact jB (kQ t0 (sH (w:=((bits n m).map N,(p:Int))) rfl (pX hT)))
 .rw[ig q]
  rw[def_ (by omega)]at t0
  refine eP (fJ t0 kH) ?_
  obtain⟨k,rfl⟩:∃k,n=k+1:=⟨n-1,by omega⟩
  rw[Cu]
  have hb:((bits (k+1) m).map N).dropLast=(bits k (m%2^k)).map N:=by
   rw[pV,A7,show Ka N [m/2^k%2]=[N (m/2^k%2)]from rfl,List.dropLast_concat,lG (Ht m (2^k)).symm]
  refine eP (r':=[some (WD k (m%2^k) p),some (.lst [])]) ?_ ?_
  .have:=bDl (F:=F) (G:=G) (E:=E) (T:=T) (r:=[some (WD (k+1) m p),some (.lst [])]) (w:=((bits (k+1) m).map N,(p:Int))) rfl (by
    show ¬((bits (k+1) m).map N).isEmpty=true
    rw[nA];simp)
   refine this.trans ?_
   show some (OFlow.nxt (oP _ ((bits (k+1) m).map N).dropLast _))=_
   rw[hb];rfl
  .have e2:=ap h0 (yJ h.up)
   exact jB (yX (d:=.lst [N k,N (pc k (m%2^k))]) (w:=((bits k (m%2^k)).map N,(p:Int))) rfl (cA (aG (aV rfl) aE) e2) rfl)
end
theorem rS{n m i:Nat}(h:i+1<n):bits n m=bits i m++(m/2^i%2::(m/2^i/2%2)::bits (n-i-2) (m/2^i/4)):=by
 have e:n=i+((n-i-2)+1+1):=by omega
 conv=>lhs;rw[e]
 rw[aPt,nA,nA,C0 (m/2^i) 2 2]
theorem aH4{m i k:Nat}(hk:k=m+2^i∨(2^i≤m∧k=m-2^i)):k%2^i=m%2^i:=by
 rcases hk with rfl|⟨h,rfl⟩
 .rw[La]
 .have:=La (m-2^i) (2^i)
  rw[show m-2^i+2^i=m by omega]at this
  exact this.symm
theorem aP7{n m i:Nat}(h:i+1<n)(hd:m/2^i%2≠m/2^i/2%2) :
  ((bits n m).set i (1-m/2^i%2)).set (i+1) (1-m/2^i/2%2)=bits n (if Ef m i then m+2^i else m-2^i):=by
 have hp:=D3 i
 have hset:((bits n m).set i (1-m/2^i%2)).set (i+1) (1-m/2^i/2%2)=bits i m++((1-m/2^i%2)::(1-m/2^i/2%2)::bits (n-i-2) (m/2^i/4)):=by
  rw[rS h,J6 _ _ (by rw[cF];omega),cF,Nat.sub_self,Ig,J6 _ _ (by rw[cF];omega),cF,C4,Kq,Ig]
 rw[hset,dA]
 generalize ht:m/2^i=t at *
 by_cases h1:t%2=1
 .rw[ip (by simp[h1])]
  have hk:(m+2^i)/2^i=t+1:=by rw[Lb _ hp,ht]
  rw[rS (m:=m+2^i) h,hk,lG (aH4 (.inl rfl))]
  have e1:(t+1)%2=1-t%2:=by omega
  have e2:(t+1)/2%2=1-t/2%2:=by omega
  have e3:(t+1)/4=t/4:=by omega
  rw[e1,e2,e3]
 .rw[ig (by simp[h1])]
  have h0:t%2=0:=by omega
  have ht1:1≤t:=by omega
  have hle:2^i≤m:=by
   have:=Nat.div_mul_le_self m (2^i)
   rw[ht]at this
   have h3:1*2^i≤t*2^i:=D7 _ ht1
   omega
  have hk:(m-2^i)/2^i=t-1:=by
   have:=Lb (m-2^i) hp
   rw[show m-2^i+2^i=m by omega,ht]at this
   omega
  rw[rS (m:=m-2^i) h,hk,lG (aH4 (.inr ⟨hle,rfl⟩))]
  have e1:(t-1)%2=1-t%2:=by omega
  have e2:(t-1)/2%2=1-t/2%2:=by omega
  have e3:(t-1)/4=t/4:=by omega
  rw[e1,e2,e3]
theorem aPa{n m i:Nat}(hm:m<2^n)(h:i+1<n)(hd:m/2^i%2≠m/2^i/2%2):(if Ef m i then m+2^i else m-2^i)<2^n:=by
 by_cases h1:Ef m i=true
 .rw[ip h1]
  rw[dA]at h1
  have h1:m/2^i%2=1:=by simpa using h1
  have hp:=D3 i
  have e:2^n=2^i*(4*2^(n-i-2)):=by
   rw[show(4:Nat)=2^2 from rfl,←I0,←I0];congr 1;omega
  have hdm:=Ee m (2^i)
  have hlt:=Bx m hp
  generalize ht:m/2^i=t at *
  generalize m%2^i=r at *
  generalize 2^(n-i-2)=u at e
  have h3:t<4*u:=by
   apply Ik (a:=2^i)
   rw[←e];omega
  have h4:t+2≤4*u:=by omega
  have h5:2^i*(t+2)≤2^i*(4*u):=Hq _ h4
  rw[Fj]at h5
  rw[e]
  omega
 .rw[ig h1];exact B9 (Nat.sub_le _ _) hm
theorem aLb{n m:Nat}(hm:m<2^n):(bits n m).map (fun b=>1-b)=bits n (2^n-1-m):=by
 unfold bits
 rw[Aj]
 refine Ax fun i hi=>?_
 have hi:=Ak.mp hi
 show 1-m/2^i%2=(2^n-1-m)/2^i%2
 have h:=Nat.testBit_two_pow_sub_succ hm i
 rw[show 2^n-(m+1)=2^n-1-m by omega,dA,dA,det hi,Fw]at h
 have a1:m/2^i%2<2:=Bx _ (by omega)
 have a2:(2^n-1-m)/2^i%2<2:=Bx _ (by omega)
 generalize m/2^i%2=x at *
 generalize (2^n-1-m)/2^i%2=y at *
 have hx:x=0∨x=1:=by omega
 have hy:y=0∨y=1:=by omega
 rcases hx with rfl|rfl<;>rcases hy with rfl|rfl<;>simp at h ⊢
section
variable{F:Nat→List Dat→Option Dat}{G:Nat→Option Dat}{E:Nat→EF}{T:Nat→List Nat}
theorem aKt{n m i:Nat}(h:i<n):idx (BL n m) (N i)=some (N (m/2^i%2)):=xR (tY h)
def aSq:EF:=eo1 .turn
theorem aBs(l:List Nat)(i v:Nat):(l.map N).set i (N v)=(l.set i v).map N:=by rw[List.map_set]
theorem aDj(n m p a:Nat):Lk ⟨p,n,m⟩ a=if a+1<n∧m/2^a%2≠m/2^a/2%2 then some ⟨p,n,if Ef m a then m+2^a else m-2^a⟩else none:=by
 have e:(Ef m a≠Ef m (a+1))↔m/2^a%2≠m/2^a/2%2:=by
  rw[dA,dA,Cm,←C0]
  generalize m/2^a=t
  have h1:t%2=0∨t%2=1:=by omega
  have h2:t/2%2=0∨t/2%2=1:=by omega
  rcases h1 with h1|h1<;>rcases h2 with h2|h2<;>simp[h1,h2]
 show(if a+1<n∧Ef m a≠Ef m (a+1)then some _ else none)=_
 by_cases q:a+1<n∧m/2^a%2≠m/2^a/2%2
 .rw[ip q,ip ⟨q.1,e.mpr q.2⟩]
 .rw[ig q,ig (fun z=>q ⟨z.1,e.mp z.2⟩)]
theorem aWg(hN:G aP=some (.int (-33)))(h0:F bX=eK):cN F G E T 3 aKr aSq:=by
 refine co1 (by decide) fun n m p a h ha=>?_
 have hn:=h.1
 unfold aKr
 have e0:=jN n m
 unfold res
 rw[show Al (some ⟨p,n,m⟩) (.turn a)=(match Lk ⟨p,n,m⟩ a with
    |some d=>(some d,Ck (J7 d:Int))
    |none=>(some ⟨p,n,m⟩,Ck (-33)))from rfl,aDj]
 refine eP (r':=[some (WD n m p),some (.lst [N a]),some (N a)]) (aIm (d:=N a) (by w_fin) rfl) ?_
 have t1:ev F G (.cmp .ge (.bin .add (.var 2) (.int 1)) (.blt .len (.cons (.fld (.var 0) aJ) .nil))) [some (WD n m p),some (.lst [N a]),some (N a)]=some (.bl (decide ((n:Int)≤(a:Int)+1))):=by w_left
 by_cases q1:a+1<n
 .have i0:=aKt (m:=m) (show a<n by omega)
  have i1:idx (BL n m) (.int ((a:Int)+1))=some (N (m/2^a/2%2)):=by
   have:=aKt (m:=m) q1
   rw[Cm,←C0]at this
   exact this
  rw[def_ (by omega)]at t1
  have t2:ev F G (.cmp .eq (.idx (.fld (.var 0) aJ) (.var 2)) (.idx (.fld (.var 0) aJ) (.bin .add (.var 2) (.int 1)))) [some (WD n m p),some (.lst [N a]),some (N a)]=some (.bl (decide (((m/2^a%2:Nat):Int)=((m/2^a/2%2:Nat):Int)))):=by w_left
  have t0:=rV t1 t2
  by_cases q2:m/2^a%2=m/2^a/2%2
  .rw[det (by omega)]at t0
   rw[ig (fun z=>z.2 q2)]
   exact jB (kQ t0 (sH (w:=((bits n m).map N,(p:Int))) rfl (pX hN)))
  .rw[def_ (by omega)]at t0
   rw[ip ⟨q1,q2⟩]
   refine eP (fJ t0 kH) ?_
   have hlt:=aPa h.2.1 q1 q2
   have hb:=aP7 q1 q2
   generalize hM:(if Ef m a then m+2^a else m-2^a)=M at hlt hb ⊢
   have b0:m/2^a%2<2:=Bx _ (by omega)
   have b1:m/2^a/2%2<2:=Bx _ (by omega)
   have hs0:(1:Int)-(m/2^a%2:Nat)=((1-m/2^a%2:Nat):Int):=by omega
   have hs1:(1:Int)-(m/2^a/2%2:Nat)=((1-m/2^a/2%2:Nat):Int):=by omega
   generalize hX:(bits n m).set a (1-m/2^a%2)=Xs at hb
   have hXl:Xs.length=n:=by rw[←hX,Jn,cF]
   refine eP (r':=[some (.rcd [.lst (Xs.map N),N p]),some (.lst [N a]),some (N a)]) ?_ ?_
   .have:=bA4 (F:=F) (G:=G) (E:=E) (T:=T) (k:=.var 2) (e:=.bin .sub (.int 1) (.idx (.fld (.var 0) aJ) (.var 2))) (r:=[some (WD n m p),some (.lst [N a]),some (N a)]) (w:=((bits n m).map N,(p:Int))) (d:=N (1-m/2^a%2)) (j:=a) rfl (by show _=some (Dat.int ((1-m/2^a%2:Nat):Int));rw[←hs0];w_left) (aV rfl) rfl (by show a<((bits n m).map N).length;rw[Ag,cF];omega)
    refine this.trans ?_
    show some (OFlow.nxt (oP _ (((bits n m).map N).set a (N (1-m/2^a%2))) _))=_
    rw[aBs,hX];rfl
   .have i2:idx (.lst (Xs.map N)) (.int ((a:Int)+1))=some (N (m/2^a/2%2)):=by
     refine xR (k:=a+1) ?_
     rw[←hX,Au (by omega),tY q1,Cm,←C0]
    refine eP (r':=[some (WD n M p),some (.lst [N a]),some (N a)]) ?_ ?_
    .have:=bA4 (F:=F) (G:=G) (E:=E) (T:=T) (k:=.bin .add (.var 2) (.int 1)) (e:=.bin .sub (.int 1) (.idx (.fld (.var 0) aJ) (.bin .add (.var 2) (.int 1)))) (r:=[some (.rcd [.lst (Xs.map N),N p]),some (.lst [N a]),some (N a)]) (w:=(Xs.map N,(p:Int))) (d:=N (1-m/2^a/2%2)) (j:=a+1) rfl (by show _=some (Dat.int ((1-m/2^a/2%2:Nat):Int));rw[←hs1];w_left) (by rw[show N (a+1)=Dat.int ((a:Int)+1)from rfl];w_fin) rfl (by show a+1<(Xs.map N).length;rw[Ag,hXl];omega)
     refine this.trans ?_
     show some (OFlow.nxt (oP _ ((Xs.map N).set (a+1) (N (1-m/2^a/2%2))) _))=_
     rw[aBs,hb];rfl
    .have e2:=ap h0 (lO hn hlt)
     exact sH (w:=((bits n M).map N,(p:Int))) rfl (by w_left)
 .rw[det (by omega)]at t1
  rw[ig (fun z=>q1 z.1)]
  exact jB (kQ (vQ t1) (sH (w:=((bits n m).map N,(p:Int))) rfl (pX hN)))
def aGc:EF:=eo0 .mirror
theorem aNq(h0:F bX=eK):cN F G E T 3 zW aGc:=by
 refine co0 (by decide) fun n m p h=>?_
 have hn:=h.1
 unfold zW
 unfold res
 rw[show Al (some ⟨p,n,m⟩) .mirror=(some ⟨p,n,2^n-1-m⟩,⟨(pc n (2^n-1-m):Int),Kp272.ints [A3 n (2^n-1-m)]⟩)from rfl]
 have hlt:2^n-1-m<2^n:=by have:=D3 n;omega
 have hc:=aLb h.2.1
 generalize hM:2^n-1-m=M at hlt hc ⊢
 have e1:ev F G (.lc (.bin .sub (.int 1) (.var 2)) (.one 2) (.of (.fld (.var 0) aJ)) .nil) [some (WD n m p),some (.lst []),none]=some (BL n M):=by
  show _=some (Dat.lst ((bits n M).map N))
  rw[←hc,Aj]
  refine aCj N _ (bits n m) (aGp (aSp rfl)) (by rw[cF];simp[SZ];omega) fun b hb=>⟨[some (WD n m p),some (.lst []),some (N b)],rfl,?_⟩
  have:=aEc hb
  show _=some (Dat.int ((1-b:Nat):Int))
  rw[show((1-b:Nat):Int)=1-(b:Int) by omega];w_fin
 refine eP (r':=[some (WD n M p),some (.lst []),none]) (aVs (w:=((bits n m).map N,(p:Int))) rfl e1 (by
  show(true&&((bits n M).map N).all flat)=true
  simp)) ?_
 have e9:=nT n M
 have e2:=ap h0 (lO hn hlt)
 exact bDm (w:=((bits n M).map N,(p:Int))) rfl (by w_left) (by w_left)
def bCa:EF:=eo2 .go
theorem aLv(n m p k r:Nat):Al (some ⟨p,n,m⟩) (.go k r)=(match Jw n k r with
    |some d=>(some ⟨p,n,d⟩,Oc (Ay n d))
    |none=>(some ⟨p,n,m⟩,Ck (-33))):=rfl
theorem bDp(hN:G aP=some (.int (-33)))(h0:F aB=aO)(h1:F fX=eO)(h2:F fH=fY)(h3:F aN=bO):cN F G E T 5 bCw bCa:=by
 refine co2 (by decide) fun n m p k r h=>?_
 have hn:=h.1
 unfold bCw
 unfold res
 rw[aLv,vL]
 have e0:=jN n m
 have e1:=ap h0 (aT (n:=n) (k:=k) (by omega))
 refine eP (r':=[some (WD n m p),some (.lst [N k,N r]),some (N k),none,none]) (aIm (d:=N k) (by w_fin) rfl) ?_
 refine eP (r':=[some (WD n m p),some (.lst [N k,N r]),some (N k),some (N r),none]) (aIm (d:=N r) (by w_fin) rfl) ?_
 refine eP (r':=[some (WD n m p),some (.lst [N k,N r]),some (N k),some (N r),some (N n)]) (aIm (d:=N n) (by w_left) rfl) ?_
 have t0:ev F G (.cmp .ge (.var 3) (.call aB (.cons (.var 4) (.cons (.var 2) .nil)))) [some (WD n m p),some (.lst [N k,N r]),some (N k),some (N r),some (N n)]=some (.bl (decide ((C n k:Int)≤r))):=by w_fin
 by_cases q:r<C n k
 .rw[ip q]
  rw[def_ (by omega)]at t0
  refine eP (fJ t0 kH) ?_
  have e2:=ap h1 (bEl (n:=n) (k:=k) (r:=r) hn q)
  refine eP (r':=[some (WD n (chv n k r) p),some (.lst [N k,N r]),some (N k),some (N r),some (N n)]) (aVs (w:=((bits n m).map N,(p:Int))) (l:=(bits n (chv n k r)).map N) rfl (by w_fin) (by
   show(true&&((bits n (chv n k r)).map N).all flat)=true
   simp)) ?_
  have e3:=ap h2 (tW hn (vM n k r))
  have hl:=sU n (chv n k r)
  have e4:F aN [.lst ((Ay n (chv n k r)).map N)]=some (ai ((Ay n (chv n k r)).length:Int) (Kp266.ints (Ay n (chv n k r)))):=by
   rw[h3]
   generalize Ay n (chv n k r)=l at hl
   have e:ai (l.length:Int) (Kp266.ints l)=.lst (N (l.map N).length::l.map N):=by
    unfold ai Kp266.ints;rw[Ai,Aj,Ag];rfl
   rw[e]
   exact ip ⟨by simp,by rw[Ag];show l.length<16777216;omega⟩
  refine jB (yX (w:=((bits n (chv n k r)).map N,(p:Int))) rfl (cA (aG (cA (aG (aSp rfl) aE) e3) aE) e4) ?_)
  show(true&&flats (ai _ _))=true
  unfold ai;rw[gH];rfl
 .rw[ig q]
  rw[det (by omega)]at t0
  exact jB (kQ t0 (sH (w:=((bits n m).map N,(p:Int))) rfl (pX hN)))
def aLk:EF:=eo0 .next
theorem aR8(h0:F bX=eK)(h1:E aXj=bCa):cN F G E T 2 aDz aLk:=by
 refine co0 (by decide) fun n m p h=>?_
 have hn:=h.1
 unfold aDz
 have e9:=nT n m
 have e1:=ap h0 (lO hn h.2.1)
 have e2:ev F G (.lst (.cons (.blt .sum (.cons (.fld (.var 0) aJ) .nil)) (.cons (.bin .add (.call bX (.cons (.fld (.var 0) aJ) .nil)) (.int 1)) .nil))) [some (WD n m p),some (.lst [])]=some (.lst [N (pc n m),.int ((A3 n m:Nat)+1)]):=kG (by w_left) (show 2≤16777216 by omega)
 have e3:E aXj ((bits n m).map N) (p:Int) [.lst [N (pc n m),.int ((A3 n m:Nat)+1)]]=some (res (some ⟨p,n,m⟩) (.go (pc n m) (A3 n m+1))):=by
  rw[h1];exact aEn (w:=⟨p,n,m⟩) h
 exact jB (aT2 (w:=((bits n m).map N,(p:Int))) rfl (aG e2 aE) rfl e3)
def aCi:EF:=eo0 .back
theorem aIs(hN:G aP=some (.int (-33)))(h0:F bX=eK)(h1:E aXj=bCa):cN F G E T 3 uP aCi:=by
 refine co0 (by decide) fun n m p h=>?_
 have hn:=h.1
 unfold uP
 have e9:=nT n m
 have e1:=ap h0 (lO hn h.2.1)
 unfold res
 rw[show Al (some ⟨p,n,m⟩) .back=(if A3 n m=0 then(some ⟨p,n,m⟩,Ck (-33))else Al (some ⟨p,n,m⟩) (.go (pc n m) (A3 n m-1)))from rfl]
 refine eP (r':=[some (WD n m p),some (.lst []),some (N (A3 n m))]) (aIm (d:=N (A3 n m)) (by w_left) rfl) ?_
 have t0:ev F G (.cmp .eq (.var 2) (.int 0)) [some (WD n m p),some (.lst []),some (N (A3 n m))]=some (.bl (decide (((A3 n m:Nat):Int)=0))):=by w_fin
 by_cases q:A3 n m=0
 .rw[ip q]
  rw[det (by omega)]at t0
  exact jB (kQ t0 (sH (w:=((bits n m).map N,(p:Int))) rfl (pX hN)))
 .rw[ig q]
  rw[def_ (by omega)]at t0
  refine eP (fJ t0 kH) ?_
  have z:((A3 n m:Nat):Int)-1=((A3 n m-1:Nat):Int):=by omega
  have e2:ev F G (.lst (.cons (.blt .sum (.cons (.fld (.var 0) aJ) .nil)) (.cons (.bin .sub (.var 2) (.int 1)) .nil))) [some (WD n m p),some (.lst []),some (N (A3 n m))]=some (.lst [N (pc n m),N (A3 n m-1)]):=kG (by rw[show N (A3 n m-1)=Dat.int (((A3 n m:Nat):Int)-1) by rw[z]];w_left) (show 2≤16777216 by omega)
  have e3:E aXj ((bits n m).map N) (p:Int) [.lst [N (pc n m),N (A3 n m-1)]]=some (res (some ⟨p,n,m⟩) (.go (pc n m) (A3 n m-1))):=by
   rw[h1];exact aEn (w:=⟨p,n,m⟩) h
  exact jB (aT2 (w:=((bits n m).map N,(p:Int))) rfl (aG e2 aE) rfl e3)
end
theorem aV7{v}:∀ds d,nd1 v ds=some d→ds.length=2:=gW fun _=>rfl
theorem aV8{v}:∀ds d,nd2 v ds=some d→ds.length=2:=gW fun _=>rfl
theorem aVa{v}:∀ds d,nd3 v ds=some d→ds.length=2:=gW fun _=>rfl
theorem aVb{v}:∀ds d,nd4 v ds=some d→ds.length=2:=gW fun _=>rfl
theorem aVh{v}:∀ds d,nr0 v ds=some d→ds.length=2:=gW fun _=>rfl
theorem aVi{v}:∀ds d,nr1 v ds=some d→ds.length=2:=gW fun _=>rfl
theorem aVk{v}:∀ds d,nr2 v ds=some d→ds.length=2:=gW fun _=>rfl
theorem aZw{P v}:∀ds d,nl P v ds=some d→ds.length=1:=gW fun _=>rfl
theorem aZx{v}:∀ds d,ns v ds=some d→ds.length=1:=gW fun _=>rfl
theorem aVl{v}:∀ds d,ns0 v ds=some d→ds.length=2:=gW fun _=>rfl
theorem aVm{v}:∀ds d,ns1 v ds=some d→ds.length=2:=gW fun _=>rfl
theorem aVn{v}:∀ds d,ns2 v ds=some d→ds.length=2:=gW fun _=>rfl
theorem aZy{v}:∀ds d,nv v ds=some d→ds.length=1:=gW fun _=>rfl
theorem aVo{v}:∀ds d,nv0 v ds=some d→ds.length=2:=gW fun _=>rfl
theorem aVp{v}:∀ds d,nv1 v ds=some d→ds.length=2:=gW fun _=>rfl
theorem aVr{v}:∀ds d,nv2 v ds=some d→ds.length=2:=gW fun _=>rfl
theorem aYh{x}:∀l p ds z,eb x l p ds=some z→ds.length+1=2:=by
 intro l p ds z h;unfold eb at h;split at h
 .rfl
 .cases h
theorem aAd{x}:∀l p ds z,eo0 x l p ds=some z→ds.length+1=2:=by
 intro l p ds z h;unfold eo0 at h;split at h
 .rfl
 .cases h
theorem aEm{x}:∀l p ds z,eo1 x l p ds=some z→ds.length+1=2:=by
 intro l p ds z h;unfold eo1 at h;split at h
 .rfl
 .cases h
theorem aU5{x}:∀l p ds z,eo2 x l p ds=some z→ds.length+1=2:=by
 intro l p ds z h;unfold eo2 at h;split at h
 .rfl
 .cases h
noncomputable def tcall (l:List (List Dat→Option Dat)):List Dat→Option Dat
 |.int (.ofNat i)::ds=>(l[i]?).bind fun f=>f ds
 |_=>none
theorem rD{l:List (List Dat→Option Dat)}{z:Dat}{ds:List Dat}{d:Dat}(h:tcall l (z::ds)=some d):∃j:Nat,z=N j∧∃f,l[j]?=some f∧f ds=some d:=by
 unfold tcall at h
 split at h
 .rename_i i ds' e
  cases e
  obtain⟨f,hf,h⟩:=Aa.mp h
  exact⟨_,rfl,f,hf,h⟩
 .cases h
noncomputable def tcar:List (List Dat→Option Dat):=[uB,aAp,qH,mH,aB0,qI,qM,mM,jQ,aGx,kP,qR]
noncomputable def tpro:List (List Dat→Option Dat):=[qN,iP,qO,qJ,qL,aH3,aGw,mK,aB2,aAv,aAt]
noncomputable def tby:List (List Dat→Option Dat):=[tZ,aB1,nZ,uE,aB6,aGz,aGy,aAr,aH1,aGv,uD,aAn,gM]
noncomputable def tlef:List (List Dat→Option Dat):=[qK,qP,uA,mI,aQj,aH0,uC,qQ,mO,aH2,bCf,aB5,aB3]
noncomputable def arN:List Nat:=[1,1,1,0,1,0,2,0,0,0,0,0,0,0,2,0,1,1,1,0,0,1,1,2,2,3,1,1,2,1,1,4,2,1,1,1,1,2,2,1,1,2,1,1,2,2,1,1,1,1,1,1,1,1,1,1,2,2,1,1,2,2,1,4,1,1,2,2,2,2,1,0,0,0,2,1,1,1,1,1,1,0,0,1,0,1,2,1,1,1,1,0,0,2,0,1]
noncomputable def dS:List Dat→Option Dat
 |[q,.int (.ofNat c),g]=>if 21≤c∧c<33 then tcall tcar [N (c-21),q,g]else if 33≤c∧c<44 then tcall tpro [N (c-33),q,g]else if 44≤c∧c<57 then tcall tby [N (c-44),q,g]else if 57≤c∧c<70 then tcall tlef [N (c-57),q,g]else none
 |_=>none
open Classical in
def fM:EF
 |l,p,[.int (.ofNat c),.lst gs]=>(nats gs).bind fun g=>(aJj l p).bind fun s=>if c<96∧g.length=arN.getD c 0∧∀a∈g,a<B32 then(De [(c:Int)::g.map fun(a:Nat)=>(a:Int)]).map fun x=>res s x else none
 |_,_,_=>none
theorem pJ:∀ds d,dS ds=some d→ds.length=3:=by
 intro ds d h;unfold dS at h;split at h
 .rfl
 .cases h
theorem tK:∀l p ds z,fM l p ds=some z→ds.length+1=3:=by
 intro l p ds z h;unfold fM at h;split at h
 .rfl
 .cases h
theorem aXx{s:Dt}{c:Nat}{g:List Nat}{x:C7}(hs:Good s)(hc:c<96)(hl:g.length=arN.getD c 0)(hg:∀a∈g,a<B32)(hx:De [(c:Int)::g.map fun(a:Nat)=>(a:Int)]=some x):fM (sv s).1 (sv s).2 [N c,.lst (g.map N)]=some (res s x):=by
 show(nats (g.map N)).bind _=_
 rw[tF,Af,xI hs,Af,ip ⟨hc,hl,hg⟩,hx];rfl
theorem aEr:∀ds d,bO ds=some d→ds.length=1:=by
 intro ds d h;unfold bO at h;split at h
 .rfl
 .cases h
theorem aAl:∀ds d,cM ds=some d→ds.length=1:=by
 intro ds d h;unfold cM at h;split at h
 .rfl
 .cases h
theorem aAk:∀ds d,eJ ds=some d→ds.length=2:=by
 intro ds d h;unfold eJ at h;split at h
 .rfl
 .cases h
theorem aAj:∀ds d,cK ds=some d→ds.length=2:=by
 intro ds d h;unfold cK at h;split at h
 .rfl
 .cases h
theorem tP:∀ds d,bW ds=some d→ds.length=3:=by
 intro ds d h;unfold bW at h;split at h
 .rfl
 .cases h
theorem vZ:∀ds d,bN ds=some d→ds.length=3:=by
 intro ds d h;unfold bN at h;split at h
 .rfl
 .cases h
theorem aEs:∀ds d,aO ds=some d→ds.length=2:=by
 intro ds d h;unfold aO at h;split at h
 .rfl
 .cases h
theorem tN:∀ds d,cR ds=some d→ds.length=3:=by
 intro ds d h;unfold cR at h;split at h
 .rfl
 .cases h
theorem wA:∀ds d,dD ds=some d→ds.length=3:=by
 intro ds d h;unfold dD at h;split at h
 .rfl
 .cases h
section
variable{F:Nat→List Dat→Option Dat}{G:Nat→Option Dat}{E:Nat→EF}{T:Nat→List Nat}
theorem qU(h1:G gJ=some (.int 33))(h2:G cD=some (.int 21))(h3:G gI=some (.int 44))(h4:G kM=some (.int 57))(t1:F xK=tcall tcar)(t2:F sR=tcall tpro)(t3:F xJ=tcall tby)(t4:F pP=tcall tlef):Computes F G 3 fL dS:=by
 intro args d e
 unfold dS at e;split at e
 case h_2=>cases e
 rename_i q c g
 refine⟨show 3≤3 by omega,0,?_⟩
 show run F G 0 fL [some (q,false),I c,some (g,false)]=_
 unfold fL
 have k1:ev F G (.cmp .lt (.var 1) (.glo gJ)) (rho [some (q,false),I c,some (g,false)])=some (.bl (decide ((c:Int)<33))):=by w_fin
 have k2:ev F G (.cmp .lt (.var 1) (.glo gI)) (rho [some (q,false),I c,some (g,false)])=some (.bl (decide ((c:Int)<44))):=by w_fin
 have k3:ev F G (.cmp .lt (.var 1) (.glo kM)) (rho [some (q,false),I c,some (g,false)])=some (.bl (decide ((c:Int)<57))):=by w_fin
 split at e
 .rename_i hc
  rw[det (by omega)]at k1
  have e':F xK [.int ((c:Int)-21),q,g]=some d:=by rw[t1,show(c:Int)-21=((c-21:Nat):Int) by omega];exact e
  exact aF (eQ k1 (aF (xC (cA (by w_fin) e') rfl)))
 .split at e
  .rename_i hc
   rw[def_ (by omega)]at k1
   rw[det (by omega)]at k2
   have e':F sR [.int ((c:Int)-33),q,g]=some d:=by rw[t2,show(c:Int)-33=((c-33:Nat):Int) by omega];exact e
   exact aD (eF k1 aR) (aF (eQ k2 (aF (xC (cA (by w_fin) e') rfl))))
  .split at e
   .rename_i hc
    rw[def_ (by omega)]at k1 k2
    rw[det (by omega)]at k3
    have e':F xJ [.int ((c:Int)-44),q,g]=some d:=by rw[t3,show(c:Int)-44=((c-44:Nat):Int) by omega];exact e
    exact aD (eF k1 aR) (aD (eF k2 aR) (aF (eQ k3 (aF (xC (cA (by w_fin) e') rfl)))))
   .split at e
    .rename_i hc
     rw[def_ (by omega)]at k1 k2 k3
     have e':F pP [.int ((c:Int)-57),q,g]=some d:=by rw[t4,show(c:Int)-57=((c-57:Nat):Int) by omega];exact e
     exact aD (eF k1 aR) (aD (eF k2 aR) (aD (eF k3 aR) (aF (xC (cA (by w_fin) e') rfl))))
    .cases e
theorem aVt{t g j:Nat}{ix:Tm}{l:Tms}{r:Rho}{w:List Dat×Int}{ds:List Dat}{z:Dat×List Dat×Int}(ho:obj r=some w)(hi:ev F G ix r=some (N j))(h:evs F G l r=some ds)(hs:((srcs l).all fun j=>decide (j≠0))=true)(hT:(T t)[j]?=some g)(he:E g w.1 w.2 ds=some z):gR F G E T (.retTE t ix l) r=some (.ret z.1 z.2.1 z.2.2):=by
 have e0:gR F G E T (.retTE t ix l) r=(obj r).bind fun w=>(ev F G ix r).bind fun i=>(evs F G l r).bind fun ds=>match i with
  |.int i=>if(srcs l).all (fun j=>decide (j≠0))then(qE (T t).length i).bind fun j=>((T t)[j]?).bind fun g=>(E g w.1 w.2 ds).map fun z=>.ret z.1 z.2.1 z.2.2 else none
  |_=>none:=Aq rfl rfl
 have hj:j<(T t).length:=(As.mp hT).1
 have e1:qE (T t).length (j:Int)=some j:=by
  unfold qE;rw[ip (by omega),ip (by omega),B8]
 rw[e0,ho,hi,h]
 show(if(srcs l).all (fun j=>decide (j≠0))then(qE (T t).length (j:Int)).bind (fun j=>((T t)[j]?).bind fun g=>(E g w.1 w.2 ds).map fun z=>OFlow.ret z.1 z.2.1 z.2.2)else none)=_
 rw[ip hs,e1,Af,hT,Af,he];rfl
theorem aF9{t g j:Nat}{ix:Tm}{l:Tms}{r:Rho}{w:List Dat×Int}{ds:List Dat}{d:Dat}(ho:obj r=some w)(hi:ev F G ix r=some (N j))(h:evs F G l r=some ds)(hT:(T t)[j]?=some g)(he:F g ds=some d)(hf:flats d=true):gR F G E T (.retTP t ix l) r=some (.ret d w.1 w.2):=by
 have e0:gR F G E T (.retTP t ix l) r=(obj r).bind fun w=>(ev F G ix r).bind fun i=>(evs F G l r).bind fun ds=>match i with
  |.int i=>(qE (T t).length i).bind fun j=>((T t)[j]?).bind fun g=>(F g ds).bind fun d=>if flats d then some (.ret d w.1 w.2)else none
  |_=>none:=Aq rfl rfl
 have hj:j<(T t).length:=(As.mp hT).1
 have e1:qE (T t).length (j:Int)=some j:=by
  unfold qE;rw[ip (by omega),ip (by omega),B8]
 rw[e0,ho,hi,h]
 show(qE (T t).length (j:Int)).bind (fun j=>((T t)[j]?).bind fun g=>(F g ds).bind fun d=>if flats d then some (OFlow.ret d w.1 w.2)else none)=_
 rw[e1,Af,hT,Af,he,Af,ip hf]
theorem nW{x:Int}{l:List Int}:flats (ai x l)=true:=gH
structure GOk(G:Nat→Option Dat):Prop where
 b:G vS=some (.int 0)
 nb:G vT=some (.int (-11))
 fv:G eC=some (.int 9)
 fc:G cD=some (.int 21)
 fd:G dR=some (.int 70)
 fo:G fF=some (.int 86)
abbrev AC(F:Nat→List Dat→Option Dat)(G:Nat→Option Dat)(E:Nat→EF)(T:Nat→List Nat)(l:List Dat)(p:Int)(c:Nat)(gs:List Dat)(z:Dat×List Dat×Int):Prop:=orun F G E T cO [some (.rcd [.lst l,.int p]),some (N c),some (.lst gs)]=some (.ret z.1 z.2.1 z.2.2)
theorem pT{l:List Dat}{p:Int}{c:Nat}{gs:List Dat}(H:GOk G)(h:c=0∨p≠0):ev F G (.and_ (.cmp .ne (.var 1) (.glo vS)) (.cmp .eq (.fld (.var 0) fE) (.int 0))) [some (.rcd [.lst l,.int p]),some (N c),some (.lst gs)]=some (.bl false):=by
 have hb:=H.b
 have k1:ev F G (.cmp .ne (.var 1) (.glo vS)) [some (.rcd [.lst l,.int p]),some (N c),some (.lst gs)]=some (.bl (!decide ((c:Int)=0))):=by w_fin
 have k2:ev F G (.cmp .eq (.fld (.var 0) fE) (.int 0)) [some (.rcd [.lst l,.int p]),some (N c),some (.lst gs)]=some (.bl (decide (p=0))):=lH (aXh rfl) bJ yM
 by_cases hc:c=0
 .rw[det (by omega)]at k1
  exact aQ5 k1
 .rw[def_ (by omega)]at k1
  rw[def_ (h.resolve_left hc)]at k2
  exact aGg k1 k2
theorem aC4{c:Nat}{gs:List Dat}(H:GOk G)(h:c≠0):AC F G E T [] 0 c gs (ai (-11) [],[],0):=by
 have hb:=H.b
 unfold AC cO
 have k1:ev F G (.cmp .ne (.var 1) (.glo vS)) [some (.rcd [.lst [],.int 0]),some (N c),some (.lst gs)]=some (.bl (!decide ((c:Int)=0))):=by w_fin
 have k2:ev F G (.cmp .eq (.fld (.var 0) fE) (.int 0)) [some (.rcd [.lst [],.int 0]),some (N c),some (.lst gs)]=some (.bl true):=lH (aXh rfl) bJ yM
 rw[def_ (by omega)]at k1
 exact jB (kQ (aGg k1 k2) (sH (w:=([],0)) rfl (pX H.nb)))
theorem lQ{l:List Dat}{p:Int}{c g:Nat}{gs:List Dat}{z:Dat×List Dat×Int}(H:GOk G)(h:c=0∨p≠0)(hc:c<9)(hT:(T 3)[c]?=some g)(he:E g l p [.lst gs]=some z):AC F G E T l p c gs z:=by
 have hv:=H.fv
 unfold AC cO
 have k1:ev F G (.cmp .lt (.var 1) (.glo eC)) [some (.rcd [.lst l,.int p]),some (N c),some (.lst gs)]=some (.bl (decide ((c:Int)<9))):=by w_fin
 rw[det (by omega)]at k1
 exact eP (fJ (pT H h) kH) (jB (kQ k1 (jB (aVt (w:=(l,p)) rfl (aV rfl) (aG (aV rfl) aE) rfl hT he))))
theorem aTm{l:List Dat}{p:Int}{c g:Nat}{gs:List Dat}{d:Dat}(H:GOk G)(h:p≠0)(hc:9≤c∧c<21)(hT:(T 6)[c-9]?=some g)(he:F g [.rcd [.lst l,.int p],.lst gs]=some d)(hf:flats d=true):AC F G E T l p c gs (d,l,p):=by
 have hv:=H.fv
 have hv2:=H.fc
 unfold AC cO
 have k1:ev F G (.cmp .lt (.var 1) (.glo eC)) [some (.rcd [.lst l,.int p]),some (N c),some (.lst gs)]=some (.bl (decide ((c:Int)<9))):=by w_fin
 rw[def_ (by omega)]at k1
 have k2:ev F G (.cmp .lt (.var 1) (.glo cD)) [some (.rcd [.lst l,.int p]),some (N c),some (.lst gs)]=some (.bl (decide ((c:Int)<21))):=by w_fin
 rw[det (by omega)]at k2
 have z:N (c-9)=Dat.int ((c:Int)-9):=by show Dat.int ((c-9:Nat):Int)=_;rw[show((c-9:Nat):Int)=(c:Int)-9 by omega]
 exact eP (fJ (pT H (.inr h)) kH) (eP (fJ k1 kH) (jB (kQ k2 (jB (aF9 (w:=(l,p)) rfl (by rw[z];w_fin) (aG (aV rfl) (aG (aV rfl) aE)) hT he hf)))))
theorem zH{l:List Dat}{p:Int}{c:Nat}{gs:List Dat}{d:Dat}(H:GOk G)(h:p≠0)(hc:21≤c∧c<70)(he:F iH [.int p,N c,.lst gs]=some d)(hf:flats d=true):AC F G E T l p c gs (d,l,p):=by
 have hv:=H.fv
 have hv2:=H.fc
 have hv3:=H.fd
 unfold AC cO
 have k1:ev F G (.cmp .lt (.var 1) (.glo eC)) [some (.rcd [.lst l,.int p]),some (N c),some (.lst gs)]=some (.bl (decide ((c:Int)<9))):=by w_fin
 rw[def_ (by omega)]at k1
 have k2:ev F G (.cmp .lt (.var 1) (.glo cD)) [some (.rcd [.lst l,.int p]),some (N c),some (.lst gs)]=some (.bl (decide ((c:Int)<21))):=by w_fin
 rw[def_ (by omega)]at k2
 have k3:ev F G (.cmp .lt (.var 1) (.glo dR)) [some (.rcd [.lst l,.int p]),some (N c),some (.lst gs)]=some (.bl (decide ((c:Int)<70))):=by w_fin
 rw[det (by omega)]at k3
 exact eP (fJ (pT H (.inr h)) kH) (eP (fJ k1 kH) (eP (fJ k2 kH) (jB (kQ k3 (jB (yX (w:=(l,p)) rfl (cA (aG (aXh rfl) (aG (aV rfl) (aG (aV rfl) aE))) he) (by show(true&&flats d)=true;rw[hf];rfl)))))))
theorem aXy{n m:Nat}{p:Int}{c g:Nat}{gs:List Dat}{d:Dat}(H:GOk G)(h:p≠0)(hc:70≤c∧c<86)(hT:(T 5)[c-70]?=some g)(he:F g [N n,.lst gs]=some d)(hf:flats d=true):AC F G E T ((bits n m).map N) p c gs (d,(bits n m).map N,p):=by
 have hv:=H.fv
 have hv2:=H.fc
 have hv3:=H.fd
 have hv4:=H.fo
 unfold AC cO
 have e0:=jN n m
 generalize hl:(bits n m).map N=l at e0
 have e0:blt .len [.lst l]=some (N n):=by rw[←hl];exact jN n m
 have k1:ev F G (.cmp .lt (.var 1) (.glo eC)) [some (.rcd [.lst l,.int p]),some (N c),some (.lst gs)]=some (.bl (decide ((c:Int)<9))):=by w_fin
 rw[def_ (by omega)]at k1
 have k2:ev F G (.cmp .lt (.var 1) (.glo cD)) [some (.rcd [.lst l,.int p]),some (N c),some (.lst gs)]=some (.bl (decide ((c:Int)<21))):=by w_fin
 rw[def_ (by omega)]at k2
 have k3:ev F G (.cmp .lt (.var 1) (.glo dR)) [some (.rcd [.lst l,.int p]),some (N c),some (.lst gs)]=some (.bl (decide ((c:Int)<70))):=by w_fin
 rw[def_ (by omega)]at k3
 have k4:ev F G (.cmp .lt (.var 1) (.glo fF)) [some (.rcd [.lst l,.int p]),some (N c),some (.lst gs)]=some (.bl (decide ((c:Int)<86))):=by w_fin
 rw[det (by omega)]at k4
 have z:N (c-70)=Dat.int ((c:Int)-70):=by show Dat.int ((c-70:Nat):Int)=_;rw[show((c-70:Nat):Int)=(c:Int)-70 by omega]
 exact eP (fJ (pT H (.inr h)) kH) (eP (fJ k1 kH) (eP (fJ k2 kH) (eP (fJ k3 kH) (jB (kQ k4 (jB (aF9 (w:=(l,p)) rfl (by rw[z];w_fin) (aG (cP (aG (aSp rfl) aE) e0) (aG (aV rfl) aE)) hT he hf)))))))
theorem aPp{l:List Dat}{p:Int}{c g:Nat}{gs:List Dat}{d:Dat}(H:GOk G)(h:p≠0)(hc:86≤c)(hT:(T 2)[c-86]?=some g)(he:F g [.lst l,.lst gs]=some d)(hf:flats d=true):AC F G E T l p c gs (d,l,p):=by
 have hv:=H.fv
 have hv2:=H.fc
 have hv3:=H.fd
 have hv4:=H.fo
 unfold AC cO
 have k1:ev F G (.cmp .lt (.var 1) (.glo eC)) [some (.rcd [.lst l,.int p]),some (N c),some (.lst gs)]=some (.bl (decide ((c:Int)<9))):=by w_fin
 rw[def_ (by omega)]at k1
 have k2:ev F G (.cmp .lt (.var 1) (.glo cD)) [some (.rcd [.lst l,.int p]),some (N c),some (.lst gs)]=some (.bl (decide ((c:Int)<21))):=by w_fin
 rw[def_ (by omega)]at k2
 have k3:ev F G (.cmp .lt (.var 1) (.glo dR)) [some (.rcd [.lst l,.int p]),some (N c),some (.lst gs)]=some (.bl (decide ((c:Int)<70))):=by w_fin
 rw[def_ (by omega)]at k3
 have k4:ev F G (.cmp .lt (.var 1) (.glo fF)) [some (.rcd [.lst l,.int p]),some (N c),some (.lst gs)]=some (.bl (decide ((c:Int)<86))):=by w_fin
 rw[def_ (by omega)]at k4
 have z:N (c-86)=Dat.int ((c:Int)-86):=by show Dat.int ((c-86:Nat):Int)=_;rw[show((c-86:Nat):Int)=(c:Int)-86 by omega]
 exact eP (fJ (pT H (.inr h)) kH) (eP (fJ k1 kH) (eP (fJ k2 kH) (eP (fJ k3 kH) (eP (fJ k4 kH) (jB (aF9 (w:=(l,p)) rfl (by rw[z];w_fin) (aG (aSp rfl) (aG (aV rfl) aE)) hT he hf))))))
end
theorem aI4{s:Dt}{a:Nat}(h:Good s):Good (Al s (.begin_ a)).1:=by
 rw[show Al s (.begin_ a)=(if Ba a then(some ⟨a,0,0⟩,Ck (a:Int))else(s,Ck (-22)))from rfl]
 split
 .rename_i q;exact⟨by show 0≤24;omega,by show 0<2^0;omega,q⟩
 .exact h
theorem aI5{w:Cj}{a:Nat}(h:Good (some w)):Good (Al (some w) (.prime a)).1:=by
 rw[show Al (some w) (.prime a)=(if Ba a then(some { w with prime:=a },Ck (w.prime:Int))else(some w,Ck (-22)))from rfl]
 split
 .rename_i q;exact⟨h.1,h.2.1,q⟩
 .exact h
theorem aLx{w:Cj}{a:Nat}(h:Good (some w)):Good (Al (some w) (.down a)).1:=by
 rw[show Al (some w) (.down a)=(if 1<a then(some w,Ck (-22))else if Gi≤w.n then(some w,Ck (-28))else(some { w with n:=w.n+1,m:=w.m+a*2^w.n },⟨(w.n+1:Nat),Kp272.ints [Kp272.place w+a]⟩))from rfl]
 split
 .exact h
 .split
  .exact h
  .rename_i q1 q2
   unfold Gi at q2
   exact WOk.down h (by omega) (by omega)
theorem aUb{w:Cj}(h:Good (some w)):Good (Al (some w) .up).1:=by
 rw[show Al (some w) .up=(if w.n=0 then(some w,Ck (-6))else(some { w with n:=w.n-1,m:=w.m%2^(w.n-1) },⟨(w.n-1:Nat),Kp272.ints [G6 w.m (w.n-1)]⟩))from rfl]
 split
 .exact h
 .exact⟨by have:=h.1;show w.n-1≤24;omega,Bx _ (D3 _),h.2.2⟩
theorem aLz{w:Cj}{a:Nat}(h:Good (some w)):Good (Al (some w) (.turn a)).1:=by
 obtain⟨p,n,m⟩:=w
 rw[show Al (some ⟨p,n,m⟩) (.turn a)=(match Lk ⟨p,n,m⟩ a with
    |some d=>(some d,Ck (J7 d:Int))
    |none=>(some ⟨p,n,m⟩,Ck (-33)))from rfl,aDj]
 by_cases q:a+1<n∧m/2^a%2≠m/2^a/2%2
 .rw[ip q];exact⟨h.1,aPa h.2.1 q.1 q.2,h.2.2⟩
 .rw[ig q];exact h
theorem aEp{w:Cj}(h:Good (some w)):Good (Al (some w) .mirror).1:=
 ⟨h.1,(by have:=D3 w.n;show 2^w.n-1-w.m<2^w.n;omega),h.2.2⟩
theorem aEo{w:Cj}{k r:Nat}(h:Good (some w)):Good (Al (some w) (.go k r)).1:=by
 obtain⟨p,n,m⟩:=w
 rw[aLv,vL]
 by_cases q:r<C n k
 .rw[ip q];exact⟨h.1,vM n k r,h.2.2⟩
 .rw[ig q];exact h
theorem aLy{w:Cj}(h:Good (some w)):Good (Al (some w) .next).1:=aEo (k:=pc w.n w.m) (r:=A3 w.n w.m+1) h
theorem aLw{w:Cj}(h:Good (some w)):Good (Al (some w) .back).1:=by
 rw[show Al (some w) .back=(if J7 w=0 then(some w,Ck (-33))else Al (some w) (.go (Kp272.place w) (J7 w-1)))from rfl]
 split
 .exact h
 .exact aEo h
theorem kO{w:Cj}(h:Good (some w)):(w.prime:Int)≠0:=by have:=nQ h.2.2;omega
def fns:List (List Dat→Option Dat):=[bO,cM,jP,iA,eJ,cK,bW,bN,aO,iQ,dU,eL,gN,cR,gP,dI,gK,iN,tZ,aB1,nZ,uE,aB6,aGz,aGy,aAr,aH1,aGv,uD,aAn,gM,iB,dJ,iF,jR,iO,uB,aAp,qH,mH,aB0,qI,qM,mM,jQ,aGx,kP,qR,dW,fY,nO,fG,eK,eO,dE,dQ,aAo,wD,aMk,wG,aAs,mG,aAx,aMh,sA,aB4,lJ,fun _=>none,fun _=>none,fun _=>none,fun _=>none,fun _=>none,fun _=>none,fun _=>none,fun _=>none,fun _=>none,gB,aY,iD,qN,iP,qO,qJ,qL,aH3,aGw,mK,aB2,aAv,aAt,bK,dC,fW,jO,gL,iT,gO,nN,fO,dD,bDh,rZ,aEw,aMn,aAy,aMl,mN,wF,rY,aEv,aAw,aMg,aAq,aAz,wH,aEy,iG,fU,aMi,aAu,aEx,aMj,wE,aEt,aEu,wI,sB,aAm,aMf,aMm,cQ,qK,qP,uA,mI,aQj,aH0,uC,qQ,mO,aH2,bCf,aB5,aB3,dS,fun _=>none,fun _=>none]
def Phi(g:Nat):List Dat→Option Dat:=if g<147 then fns.getD g (fun _=>none)else if g=1000 then tcall tby else if g=1001 then tcall tcar else if g=1004 then tcall tpro else if g=1007 then tcall tlef else fun _=>none
def efs:List EF:=[aLj,oI,aSo,bEp,aSq,aGc,bCa,aLk,aCi]
def Eff(g:Nat):EF:=if 67≤g∧g<76 then efs.getD (g-67) (fun _ _ _=>none)else if g=145 then fM else fun _ _ _=>none
theorem aG0:∀z ds d,tcall tcar (z::ds)=some d→∃(i:Int)(j g:Nat),z=.int i∧Pl.qE (T 1).length i=some j∧(T 1)[j]?=some g∧Phi g ds=some d:=by
 intro z ds d h
 obtain⟨j,rfl,f,hf,h⟩:=rD h
 match j,hf with
 |0,hf=>cases hf;exact⟨_,0,Tx.aQp,rfl,by decide,rfl,h⟩
 |1,hf=>cases hf;exact⟨_,1,Tx.aUt,rfl,by decide,rfl,h⟩
 |2,hf=>cases hf;exact⟨_,2,Tx.aMt,rfl,by decide,rfl,h⟩
 |3,hf=>cases hf;exact⟨_,3,Tx.aF0,rfl,by decide,rfl,h⟩
 |4,hf=>cases hf;exact⟨_,4,Tx.aV1,rfl,by decide,rfl,h⟩
 |5,hf=>cases hf;exact⟨_,5,Tx.aMv,rfl,by decide,rfl,h⟩
 |6,hf=>cases hf;exact⟨_,6,Tx.aMz,rfl,by decide,rfl,h⟩
 |7,hf=>cases hf;exact⟨_,7,Tx.aF3,rfl,by decide,rfl,h⟩
 |8,hf=>cases hf;exact⟨_,8,Tx.aB9,rfl,by decide,rfl,h⟩
 |9,hf=>cases hf;exact⟨_,9,Tx.aZl,rfl,by decide,rfl,h⟩
 |10,hf=>cases hf;exact⟨_,10,Tx.aCq,rfl,by decide,rfl,h⟩
 |11,hf=>cases hf;exact⟨_,11,Tx.aN7,rfl,by decide,rfl,h⟩
 |j+12,hf=>cases hf
theorem aDh:∀z ds d,tcall tpro (z::ds)=some d→∃(i:Int)(j g:Nat),z=.int i∧Pl.qE (T 4).length i=some j∧(T 4)[j]?=some g∧Phi g ds=some d:=by
 intro z ds d h
 obtain⟨j,rfl,f,hf,h⟩:=rD h
 match j,hf with
 |0,hf=>cases hf;exact⟨_,0,Tx.aN0,rfl,by decide,rfl,h⟩
 |1,hf=>cases hf;exact⟨_,1,Tx.xT,rfl,by decide,rfl,h⟩
 |2,hf=>cases hf;exact⟨_,2,Tx.aN1,rfl,by decide,rfl,h⟩
 |3,hf=>cases hf;exact⟨_,3,Tx.aMx,rfl,by decide,rfl,h⟩
 |4,hf=>cases hf;exact⟨_,4,Tx.aMy,rfl,by decide,rfl,h⟩
 |5,hf=>cases hf;exact⟨_,5,Tx.aZs,rfl,by decide,rfl,h⟩
 |6,hf=>cases hf;exact⟨_,6,Tx.aZh,rfl,by decide,rfl,h⟩
 |7,hf=>cases hf;exact⟨_,7,Tx.aF2,rfl,by decide,rfl,h⟩
 |8,hf=>cases hf;exact⟨_,8,Tx.aV3,rfl,by decide,rfl,h⟩
 |9,hf=>cases hf;exact⟨_,9,Tx.aUz,rfl,by decide,rfl,h⟩
 |10,hf=>cases hf;exact⟨_,10,Tx.aUw,rfl,by decide,rfl,h⟩
 |j+11,hf=>cases hf
theorem aFz:∀z ds d,tcall tby (z::ds)=some d→∃(i:Int)(j g:Nat),z=.int i∧Pl.qE (T 0).length i=some j∧(T 0)[j]?=some g∧Phi g ds=some d:=by
 intro z ds d h
 obtain⟨j,rfl,f,hf,h⟩:=rD h
 match j,hf with
 |0,hf=>cases hf;exact⟨_,0,Tx.aQn,rfl,by decide,rfl,h⟩
 |1,hf=>cases hf;exact⟨_,1,Tx.aV2,rfl,by decide,rfl,h⟩
 |2,hf=>cases hf;exact⟨_,2,Tx.aIj,rfl,by decide,rfl,h⟩
 |3,hf=>cases hf;exact⟨_,3,Tx.aQy,rfl,by decide,rfl,h⟩
 |4,hf=>cases hf;exact⟨_,4,Tx.aV6,rfl,by decide,rfl,h⟩
 |5,hf=>cases hf;exact⟨_,5,Tx.aZo,rfl,by decide,rfl,h⟩
 |6,hf=>cases hf;exact⟨_,6,Tx.aZn,rfl,by decide,rfl,h⟩
 |7,hf=>cases hf;exact⟨_,7,Tx.aUu,rfl,by decide,rfl,h⟩
 |8,hf=>cases hf;exact⟨_,8,Tx.aZq,rfl,by decide,rfl,h⟩
 |9,hf=>cases hf;exact⟨_,9,Tx.aZe,rfl,by decide,rfl,h⟩
 |10,hf=>cases hf;exact⟨_,10,Tx.aQt,rfl,by decide,rfl,h⟩
 |11,hf=>cases hf;exact⟨_,11,Tx.aUr,rfl,by decide,rfl,h⟩
 |12,hf=>cases hf;exact⟨_,12,Tx.wK,rfl,by decide,rfl,h⟩
 |j+13,hf=>cases hf
theorem aBz:∀z ds d,tcall tlef (z::ds)=some d→∃(i:Int)(j g:Nat),z=.int i∧Pl.qE (T 7).length i=some j∧(T 7)[j]?=some g∧Phi g ds=some d:=by
 intro z ds d h
 obtain⟨j,rfl,f,hf,h⟩:=rD h
 match j,hf with
 |0,hf=>cases hf;exact⟨_,0,Tx.uF,rfl,by decide,rfl,h⟩
 |1,hf=>cases hf;exact⟨_,1,Tx.aN2,rfl,by decide,rfl,h⟩
 |2,hf=>cases hf;exact⟨_,2,Tx.aQo,rfl,by decide,rfl,h⟩
 |3,hf=>cases hf;exact⟨_,3,Tx.aF1,rfl,by decide,rfl,h⟩
 |4,hf=>cases hf;exact⟨_,4,Tx.bDi,rfl,by decide,rfl,h⟩
 |5,hf=>cases hf;exact⟨_,5,Tx.aZp,rfl,by decide,rfl,h⟩
 |6,hf=>cases hf;exact⟨_,6,Tx.aQs,rfl,by decide,rfl,h⟩
 |7,hf=>cases hf;exact⟨_,7,Tx.aN5,rfl,by decide,rfl,h⟩
 |8,hf=>cases hf;exact⟨_,8,Tx.aF4,rfl,by decide,rfl,h⟩
 |9,hf=>cases hf;exact⟨_,9,Tx.aZr,rfl,by decide,rfl,h⟩
 |10,hf=>cases hf;exact⟨_,10,Tx.bGm,rfl,by decide,rfl,h⟩
 |11,hf=>cases hf;exact⟨_,11,Tx.aV5,rfl,by decide,rfl,h⟩
 |12,hf=>cases hf;exact⟨_,12,Tx.aV4,rfl,by decide,rfl,h⟩
 |j+13,hf=>cases hf
theorem gok:GOk G:=⟨rfl,rfl,rfl,rfl,rfl,rfl⟩
def AcP(c:Nat):Prop:=∀(s:Dt),Good s→∀g:List Nat,g.length=arN.getD c 0→(∀a∈g,a<B32)→∃x,De [(c:Int)::g.map fun(a:Nat)=>(a:Int)]=some x∧Good (Al s x).1∧AC Phi G Eff T (sv s).1 (sv s).2 c (g.map N) (res s x)
theorem l0{g:List Nat}(h:g.length=0):g=[]:=E8.mp h
theorem l1{g:List Nat}(h:g.length=1):∃a,g=[a]:=by
 match g,h with
 |[a],_=>exact⟨a,rfl⟩
theorem l2{g:List Nat}(h:g.length=2):∃a b,g=[a,b]:=by
 match g,h with
 |[a,b],_=>exact⟨a,b,rfl⟩
theorem l3{g:List Nat}(h:g.length=3):∃a b c,g=[a,b,c]:=by
 match g,h with
 |[a,b,c],_=>exact⟨a,b,c,rfl⟩
theorem l4{g:List Nat}(h:g.length=4):∃a b c d,g=[a,b,c,d]:=by
 match g,h with
 |[a,b,c,d],_=>exact⟨a,b,c,d,rfl⟩
theorem k0{c:Nat}{f:C7}(hx:De [[(c:Int)]]=some f)(h1:∀(w:Cj),Good (some w)→Good (Al (some w) f).1∧AC Phi G Eff T (sv (some w)).1 (sv (some w)).2 c [] (res (some w) f))(hc:c≠0:=by decide)(hl:arN.getD c 0=0:=by rfl)(h0:Al none f=(none,Ck (-11)):=by intros;rfl):AcP c:=by
 intro s hs g hg hb
 obtain rfl:=l0 (hg.trans hl)
 refine⟨f,hx,?_⟩
 cases s with
 |none=>unfold res;rw[h0];exact⟨trivial,aC4 gok hc⟩
 |some w=>exact h1 w  hs 
theorem k1{c:Nat}{f:Nat→C7}(hx:∀a:Nat,De [[(c:Int),(a:Int)]]=some (f a))(h1:∀(w:Cj)(a:Nat),Good (some w)→a<B32→Good (Al (some w) (f a)).1∧AC Phi G Eff T (sv (some w)).1 (sv (some w)).2 c [N a] (res (some w) (f a)))(hc:c≠0:=by decide)(hl:arN.getD c 0=1:=by rfl)(h0:∀a:Nat,Al none (f a)=(none,Ck (-11)):=by intros;rfl):AcP c:=by
 intro s hs g hg hb
 obtain⟨a,rfl⟩:=l1 (hg.trans hl)
 refine⟨(f a),hx a,?_⟩
 cases s with
 |none=>unfold res;rw[h0 a];exact⟨trivial,aC4 gok hc⟩
 |some w=>exact h1 w a hs (hb a (by simp))
theorem k2{c:Nat}{f:Nat→Nat→C7}(hx:∀a b:Nat,De [[(c:Int),(a:Int),(b:Int)]]=some (f a b))(h1:∀(w:Cj)(a b:Nat),Good (some w)→a<B32→b<B32→Good (Al (some w) (f a b)).1∧AC Phi G Eff T (sv (some w)).1 (sv (some w)).2 c [N a,N b] (res (some w) (f a b)))(hc:c≠0:=by decide)(hl:arN.getD c 0=2:=by rfl)(h0:∀a b:Nat,Al none (f a b)=(none,Ck (-11)):=by intros;rfl):AcP c:=by
 intro s hs g hg hb
 obtain⟨a,b,rfl⟩:=l2 (hg.trans hl)
 refine⟨(f a b),hx a b,?_⟩
 cases s with
 |none=>unfold res;rw[h0 a b];exact⟨trivial,aC4 gok hc⟩
 |some w=>exact h1 w a b hs (hb a (by simp)) (hb b (by simp))
theorem k3{c:Nat}{f:Nat→Nat→Nat→C7}(hx:∀a b x:Nat,De [[(c:Int),(a:Int),(b:Int),(x:Int)]]=some (f a b x))(h1:∀(w:Cj)(a b x:Nat),Good (some w)→a<B32→b<B32→x<B32→Good (Al (some w) (f a b x)).1∧AC Phi G Eff T (sv (some w)).1 (sv (some w)).2 c [N a,N b,N x] (res (some w) (f a b x)))(hc:c≠0:=by decide)(hl:arN.getD c 0=3:=by rfl)(h0:∀a b x:Nat,Al none (f a b x)=(none,Ck (-11)):=by intros;rfl):AcP c:=by
 intro s hs g hg hb
 obtain⟨a,b,x,rfl⟩:=l3 (hg.trans hl)
 refine⟨(f a b x),hx a b x,?_⟩
 cases s with
 |none=>unfold res;rw[h0 a b x];exact⟨trivial,aC4 gok hc⟩
 |some w=>exact h1 w a b x hs (hb a (by simp)) (hb b (by simp)) (hb x (by simp))
theorem k4{c:Nat}{f:Nat→Nat→Nat→Nat→C7}(hx:∀a b x y:Nat,De [[(c:Int),(a:Int),(b:Int),(x:Int),(y:Int)]]=some (f a b x y))(h1:∀(w:Cj)(a b x y:Nat),Good (some w)→a<B32→b<B32→x<B32→y<B32→Good (Al (some w) (f a b x y)).1∧AC Phi G Eff T (sv (some w)).1 (sv (some w)).2 c [N a,N b,N x,N y] (res (some w) (f a b x y)))(hc:c≠0:=by decide)(hl:arN.getD c 0=4:=by rfl)(h0:∀a b x y:Nat,Al none (f a b x y)=(none,Ck (-11)):=by intros;rfl):AcP c:=by
 intro s hs g hg hb
 obtain⟨a,b,x,y,rfl⟩:=l4 (hg.trans hl)
 refine⟨(f a b x y),hx a b x y,?_⟩
 cases s with
 |none=>unfold res;rw[h0 a b x y];exact⟨trivial,aC4 gok hc⟩
 |some w=>exact h1 w a b x y hs (hb a (by simp)) (hb b (by simp)) (hb x (by simp)) (hb y (by simp))
theorem bFd:AcP 0:=by
 intro s hs g hl hg
 obtain⟨a,rfl⟩:=l1 hl
 exact⟨_,rfl,aI4 hs,lQ gok (.inl rfl) (by decide) rfl (aYg (x:=.begin_) hs (hg a (by simp)))⟩
theorem bH0{w:Cj}{c}:res (some w) (.digits c)=(a6 (Ce (some w.prime) c).2,(sv (some w)).1,(sv (some w)).2):=rfl
theorem bH1{w:Cj}{c}:res (some w) (.prods c)=(a7 (Ci (some w.prime) c).2,(sv (some w)).1,(sv (some w)).2):=rfl
theorem qp{w:Cj}{c:Nat}{gs:List Dat}{d:Dat}(hs:Good (some w))(he:Phi iH [N w.prime,N c,.lst gs]=some d)(hf:flats d=true:=by exact nW)(hc:21≤c∧c<70:=by decide):Good (some w)∧AC Phi G Eff T (sv (some w)).1 (sv (some w)).2 c gs (d,(sv (some w)).1,(sv (some w)).2):=⟨hs,zH gok (kO hs) hc he hf⟩
theorem qv{w:Cj}{c g:Nat}{gs:List Dat}{d:Dat}(hs:Good (some w))(he:Phi g [WD w.n w.m w.prime,.lst gs]=some d)(hf:flats d=true:=by exact nW)(hc:9≤c∧c<21:=by decide)(hT:(T 6)[c-9]?=some g:=by rfl):Good (some w)∧AC Phi G Eff T (sv (some w)).1 (sv (some w)).2 c gs (d,(sv (some w)).1,(sv (some w)).2):=⟨hs,aTm gok (kO hs) hc hT he hf⟩
theorem qr{w:Cj}{c g:Nat}{gs:List Dat}{d:Dat}(hs:Good (some w))(he:Phi g [N w.n,.lst gs]=some d)(hf:flats d=true:=by exact nW)(hc:70≤c∧c<86:=by decide)(hT:(T 5)[c-70]?=some g:=by rfl):Good (some w)∧AC Phi G Eff T (sv (some w)).1 (sv (some w)).2 c gs (d,(sv (some w)).1,(sv (some w)).2):=⟨hs,aXy gok (kO hs) hc hT he hf⟩
theorem qo{w:Cj}{c g:Nat}{gs:List Dat}{d:Dat}(hs:Good (some w))(he:Phi g [BL w.n w.m,.lst gs]=some d)(hf:flats d=true:=by exact nW)(hc:86≤c:=by decide)(hT:(T 2)[c-86]?=some g:=by rfl):Good (some w)∧AC Phi G Eff T (sv (some w)).1 (sv (some w)).2 c gs (d,(sv (some w)).1,(sv (some w)).2):=⟨hs,aPp gok (kO hs) hc hT he hf⟩
theorem aSj(c:Nat)(h:c<96):AcP c:=by
 match c,h with
 |0,_=>exact bFd
 |1,_=>exact k1 (fun _=>rfl) fun w a hs ha=>⟨aI5 hs,lQ gok (.inr (kO hs)) (by decide) rfl (aEl hs ha)⟩
 |2,_=>exact k1 (fun _=>rfl) fun w a hs ha=>⟨aLx hs,lQ gok (.inr (kO hs)) (by decide) rfl (aEl hs ha)⟩
 |3,_=>exact k0 (rfl) fun w hs=>⟨aUb hs,lQ gok (.inr (kO hs)) (by decide) rfl (aAc hs)⟩
 |4,_=>exact k1 (fun _=>rfl) fun w a hs ha=>⟨aLz hs,lQ gok (.inr (kO hs)) (by decide) rfl (aEl hs ha)⟩
 |5,_=>exact k0 (rfl) fun w hs=>⟨aEp hs,lQ gok (.inr (kO hs)) (by decide) rfl (aAc hs)⟩
 |6,_=>exact k2 (fun _ _=>rfl) fun w a b hs ha hb=>⟨aEo hs,lQ gok (.inr (kO hs)) (by decide) rfl (aEn hs)⟩
 |7,_=>exact k0 (rfl) fun w hs=>⟨aLy hs,lQ gok (.inr (kO hs)) (by decide) rfl (aAc hs)⟩
 |8,_=>exact k0 (rfl) fun w hs=>⟨aLw hs,lQ gok (.inr (kO hs)) (by decide) rfl (aAc hs)⟩
 |9,_=>exact k0 (rfl) fun w hs=>qv hs (g:=aZj) (show aMi [WD w.n w.m w.prime,.lst []]=some _ from nP hs)
 |10,_=>exact k0 (rfl) fun w hs=>qv hs (g:=aQu) (show aAu [WD w.n w.m w.prime,.lst []]=some _ from nP hs)
 |11,_=>exact k0 (rfl) fun w hs=>qv hs (g:=aUy) (show aEx [WD w.n w.m w.prime,.lst []]=some _ from nP hs)
 |12,_=>exact k0 (rfl) fun w hs=>qv hs (g:=aZk) (show aMj [WD w.n w.m w.prime,.lst []]=some _ from nP hs)
 |13,_=>exact k0 (rfl) fun w hs=>qv hs (g:=aMu) (show wE [WD w.n w.m w.prime,.lst []]=some _ from nP hs)
 |14,_=>exact k2 (fun _ _=>rfl) fun w a b hs ha hb=>qv hs (g:=aUq) (show aEt [WD w.n w.m w.prime,.lst [N a,N b]]=some _ from aVq hs ha hb)
 |15,_=>exact k0 (rfl) fun w hs=>qv hs (g:=aUs) (show aEu [WD w.n w.m w.prime,.lst []]=some _ from nP hs)
 |16,_=>exact k1 (fun _=>rfl) fun w a hs ha=>qv hs (g:=aN6) (show wI [WD w.n w.m w.prime,.lst [N a]]=some _ from aF8 hs ha)
 |17,_=>exact k1 (fun _=>rfl) fun w a hs ha=>qv hs (g:=aIl) (show sB [WD w.n w.m w.prime,.lst [N a]]=some _ from aF8 hs ha)
 |18,_=>exact k1 (fun _=>rfl) fun w a hs ha=>qv hs (g:=aQl) (show aAm [WD w.n w.m w.prime,.lst [N a]]=some _ from aF8 hs ha)
 |19,_=>exact k0 (rfl) fun w hs=>qv hs (g:=aZf) (show aMf [WD w.n w.m w.prime,.lst []]=some _ from nP hs)
 |20,_=>exact k0 (rfl) fun w hs=>qv hs (g:=aZu) (show aMm [WD w.n w.m w.prime,.lst []]=some _ from nP hs)
 |21,_=>exact k1 (fun _=>rfl) fun w a hs ha=>qp hs (show uB [N w.prime,.lst [N a]]=some _ from bY ⟨hs.2.2,ha⟩)
 |22,_=>exact k1 (fun _=>rfl) fun w a hs ha=>qp hs (show aAp [N w.prime,.lst [N a]]=some _ from bY ⟨hs.2.2,ha⟩)
 |23,_=>exact k2 (fun _ _=>rfl) fun w a b hs ha hb=>qp hs (show qH [N w.prime,.lst [N a,N b]]=some _ from eV ⟨hs.2.2,ha,hb⟩)
 |24,_=>exact k2 (fun _ _=>rfl) fun w a b hs ha hb=>qp hs (show mH [N w.prime,.lst [N a,N b]]=some _ from eV ⟨hs.2.2,ha,hb⟩)
 |25,_=>exact k3 (fun _ _ _=>rfl) fun w a b x hs ha hb hx=>qp hs (show aB0 [N w.prime,.lst [N a,N b,N x]]=some _ from aV9 ⟨hs.2.2,ha,hb,hx⟩)
 |26,_=>exact k1 (fun _=>rfl) fun w a hs ha=>qp hs (show qI [N w.prime,.lst [N a]]=some _ from bY ⟨hs.2.2,ha⟩)
 |27,_=>exact k1 (fun _=>rfl) fun w a hs ha=>qp hs (show qM [N w.prime,.lst [N a]]=some _ from bY ⟨hs.2.2,ha⟩)
 |28,_=>exact k2 (fun _ _=>rfl) fun w a b hs ha hb=>qp hs (show mM [N w.prime,.lst [N a,N b]]=some _ from eV ⟨hs.2.2,ha,hb⟩)
 |29,_=>exact k1 (fun _=>rfl) fun w a hs ha=>qp hs (show jQ [N w.prime,.lst [N a]]=some _ from bY ⟨hs.2.2,ha⟩)
 |30,_=>exact k1 (f:=fun a=>.digits (.like a)) (fun _=>rfl) fun w a hs ha=>⟨hs,by rw[bH0];exact zH gok (kO hs) (by decide) (show aGx [N w.prime,.lst [N a]]=some (a6 (Ce (some w.prime) (.like a)).2)from bY ⟨hs.2.2,ha⟩) nW⟩
 |31,_=>exact k4 (fun _ _ _ _=>rfl) fun w a b x y hs ha hb hx hy=>qp hs (show kP [N w.prime,.lst [N a,N b,N x,N y]]=some _ from aN8 ⟨hs.2.2,ha,hb,hx,hy⟩)
 |32,_=>exact k2 (fun _ _=>rfl) fun w a b hs ha hb=>qp hs (show qR [N w.prime,.lst [N a,N b]]=some _ from eV ⟨hs.2.2,ha,hb⟩)
 |33,_=>exact k1 (fun _=>rfl) fun w a hs ha=>qp hs (show qN [N w.prime,.lst [N a]]=some _ from bY ⟨hs.2.2,ha⟩)
 |34,_=>exact k1 (fun _=>rfl) fun w a hs ha=>qp hs (show iP [N w.prime,.lst [N a]]=some _ from bY ⟨hs.2.2,ha⟩)
 |35,_=>exact k1 (fun _=>rfl) fun w a hs ha=>qp hs (show qO [N w.prime,.lst [N a]]=some _ from bY ⟨hs.2.2,ha⟩)
 |36,_=>exact k1 (f:=fun a=>.prods (.least a)) (fun _=>rfl) fun w a hs ha=>⟨hs,by rw[bH1];exact zH gok (kO hs) (by decide) (show qJ [N w.prime,.lst [N a]]=some (a7 (Ci (some w.prime) (.least a)).2)from bY ⟨hs.2.2,ha⟩) nW⟩
 |37,_=>exact k2 (fun _ _=>rfl) fun w a b hs ha hb=>qp hs (show qL [N w.prime,.lst [N a,N b]]=some _ from eV ⟨hs.2.2,ha,hb⟩)
 |38,_=>exact k2 (fun _ _=>rfl) fun w a b hs ha hb=>qp hs (show aH3 [N w.prime,.lst [N a,N b]]=some _ from eV ⟨hs.2.2,ha,hb⟩)
 |39,_=>exact k1 (fun _=>rfl) fun w a hs ha=>qp hs (show aGw [N w.prime,.lst [N a]]=some _ from bY ⟨hs.2.2,ha⟩)
 |40,_=>exact k1 (fun _=>rfl) fun w a hs ha=>qp hs (show mK [N w.prime,.lst [N a]]=some _ from bY ⟨hs.2.2,ha⟩)
 |41,_=>exact k2 (fun _ _=>rfl) fun w a b hs ha hb=>qp hs (show aB2 [N w.prime,.lst [N a,N b]]=some _ from eV ⟨hs.2.2,ha,hb⟩)
 |42,_=>exact k1 (fun _=>rfl) fun w a hs ha=>qp hs (show aAv [N w.prime,.lst [N a]]=some _ from bY ⟨hs.2.2,ha⟩)
 |43,_=>exact k1 (fun _=>rfl) fun w a hs ha=>qp hs (show aAt [N w.prime,.lst [N a]]=some _ from bY ⟨hs.2.2,ha⟩)
 |44,_=>exact k2 (fun _ _=>rfl) fun w a b hs ha hb=>qp hs (show tZ [N w.prime,.lst [N a,N b]]=some _ from eV ⟨hs.2.2,ha,hb⟩)
 |45,_=>exact k2 (fun _ _=>rfl) fun w a b hs ha hb=>qp hs (show aB1 [N w.prime,.lst [N a,N b]]=some _ from eV ⟨hs.2.2,ha,hb⟩)
 |46,_=>exact k1 (fun _=>rfl) fun w a hs ha=>qp hs (show nZ [N w.prime,.lst [N a]]=some _ from bY ⟨hs.2.2,ha⟩)
 |47,_=>exact k1 (fun _=>rfl) fun w a hs ha=>qp hs (show uE [N w.prime,.lst [N a]]=some _ from bY ⟨hs.2.2,ha⟩)
 |48,_=>exact k1 (fun _=>rfl) fun w a hs ha=>qp hs (show aB6 [N w.prime,.lst [N a]]=some _ from bY ⟨hs.2.2,ha⟩)
 |49,_=>exact k1 (fun _=>rfl) fun w a hs ha=>qp hs (show aGz [N w.prime,.lst [N a]]=some _ from bY ⟨hs.2.2,ha⟩)
 |50,_=>exact k1 (fun _=>rfl) fun w a hs ha=>qp hs (show aGy [N w.prime,.lst [N a]]=some _ from bY ⟨hs.2.2,ha⟩)
 |51,_=>exact k1 (fun _=>rfl) fun w a hs ha=>qp hs (show aAr [N w.prime,.lst [N a]]=some _ from bY ⟨hs.2.2,ha⟩)
 |52,_=>exact k1 (fun _=>rfl) fun w a hs ha=>qp hs (show aH1 [N w.prime,.lst [N a]]=some _ from bY ⟨hs.2.2,ha⟩)
 |53,_=>exact k1 (fun _=>rfl) fun w a hs ha=>qp hs (show aGv [N w.prime,.lst [N a]]=some _ from bY ⟨hs.2.2,ha⟩)
 |54,_=>exact k1 (fun _=>rfl) fun w a hs ha=>qp hs (show uD [N w.prime,.lst [N a]]=some _ from bY ⟨hs.2.2,ha⟩)
 |55,_=>exact k1 (fun _=>rfl) fun w a hs ha=>qp hs (show aAn [N w.prime,.lst [N a]]=some _ from bY ⟨hs.2.2,ha⟩)
 |56,_=>exact k2 (fun _ _=>rfl) fun w a b hs ha hb=>qp hs (show gM [N w.prime,.lst [N a,N b]]=some _ from eV ⟨hs.2.2,ha,hb⟩)
 |57,_=>exact k2 (fun _ _=>rfl) fun w a b hs ha hb=>qp hs (show qK [N w.prime,.lst [N a,N b]]=some _ from eV ⟨hs.2.2,ha,hb⟩)
 |58,_=>exact k1 (fun _=>rfl) fun w a hs ha=>qp hs (show qP [N w.prime,.lst [N a]]=some _ from bY ⟨hs.2.2,ha⟩)
 |59,_=>exact k1 (fun _=>rfl) fun w a hs ha=>qp hs (show uA [N w.prime,.lst [N a]]=some _ from bY ⟨hs.2.2,ha⟩)
 |60,_=>exact k2 (fun _ _=>rfl) fun w a b hs ha hb=>qp hs (show mI [N w.prime,.lst [N a,N b]]=some _ from eV ⟨hs.2.2,ha,hb⟩)
 |61,_=>exact k2 (fun _ _=>rfl) fun w a b hs ha hb=>qp hs (show aQj [N w.prime,.lst [N a,N b]]=some _ from eV ⟨hs.2.2,ha,hb⟩)
 |62,_=>exact k1 (fun _=>rfl) fun w a hs ha=>qp hs (show aH0 [N w.prime,.lst [N a]]=some _ from bY ⟨hs.2.2,ha⟩)
 |63,_=>exact k4 (fun _ _ _ _=>rfl) fun w a b x y hs ha hb hx hy=>qp hs (show uC [N w.prime,.lst [N a,N b,N x,N y]]=some _ from aN8 ⟨hs.2.2,ha,hb,hx,hy⟩)
 |64,_=>exact k1 (fun _=>rfl) fun w a hs ha=>qp hs (show qQ [N w.prime,.lst [N a]]=some _ from bY ⟨hs.2.2,ha⟩)
 |65,_=>exact k1 (fun _=>rfl) fun w a hs ha=>qp hs (show mO [N w.prime,.lst [N a]]=some _ from bY ⟨hs.2.2,ha⟩)
 |66,_=>exact k2 (fun _ _=>rfl) fun w a b hs ha hb=>qp hs (show aH2 [N w.prime,.lst [N a,N b]]=some _ from eV ⟨hs.2.2,ha,hb⟩)
 |67,_=>exact k2 (fun _ _=>rfl) fun w a b hs ha hb=>qp hs (show bCf [N w.prime,.lst [N a,N b]]=some _ from eV ⟨hs.2.2,ha,hb⟩)
 |68,_=>exact k2 (fun _ _=>rfl) fun w a b hs ha hb=>qp hs (show aB5 [N w.prime,.lst [N a,N b]]=some _ from eV ⟨hs.2.2,ha,hb⟩)
 |69,_=>exact k2 (fun _ _=>rfl) fun w a b hs ha hb=>qp hs (show aB3 [N w.prime,.lst [N a,N b]]=some _ from eV ⟨hs.2.2,ha,hb⟩)
 |70,_=>exact k1 (fun _=>rfl) fun w a hs ha=>qr hs (g:=bGl) (show bDh [N w.n,.lst [N a]]=some _ from mP ⟨hs.1,ha⟩)
 |71,_=>exact k0 (rfl) fun w hs=>qr hs (g:=aIi) (show rZ [N w.n,.lst []]=some _ from sG hs.1)
 |72,_=>exact k0 (rfl) fun w hs=>qr hs (g:=aUx) (show aEw [N w.n,.lst []]=some _ from sG hs.1)
 |73,_=>exact k0 (rfl) fun w hs=>qr hs (g:=aZv) (show aMn [N w.n,.lst []]=some _ from sG hs.1)
 |74,_=>exact k2 (fun _ _=>rfl) fun w a b hs ha hb=>qr hs (g:=aQx) (show aAy [N w.n,.lst [N a,N b]]=some _ from aVj ⟨hs.1,ha,hb⟩)
 |75,_=>exact k1 (fun _=>rfl) fun w a hs ha=>qr hs (g:=aZt) (show aMl [N w.n,.lst [N a]]=some _ from mP ⟨hs.1,ha⟩)
 |76,_=>exact k1 (fun _=>rfl) fun w a hs ha=>qr hs (g:=aBa) (show mN [N w.n,.lst [N a]]=some _ from mP ⟨hs.1,ha⟩)
 |77,_=>exact k1 (fun _=>rfl) fun w a hs ha=>qr hs (g:=aMw) (show wF [N w.n,.lst [N a]]=some _ from mP ⟨hs.1,ha⟩)
 |78,_=>exact k1 (fun _=>rfl) fun w a hs ha=>qr hs (g:=aIh) (show rY [N w.n,.lst [N a]]=some _ from mP ⟨hs.1,ha⟩)
 |79,_=>exact k1 (fun _=>rfl) fun w a hs ha=>qr hs (g:=aUv) (show aEv [N w.n,.lst [N a]]=some _ from mP ⟨hs.1,ha⟩)
 |80,_=>exact k1 (fun _=>rfl) fun w a hs ha=>qr hs (g:=aQv) (show aAw [N w.n,.lst [N a]]=some _ from mP ⟨hs.1,ha⟩)
 |81,_=>exact k0 (rfl) fun w hs=>qr hs (g:=aZg) (show aMg [N w.n,.lst []]=some _ from sG hs.1)
 |82,_=>exact k0 (rfl) fun w hs=>qr hs (g:=aQq) (show aAq [N w.n,.lst []]=some _ from sG hs.1)
 |83,_=>exact k1 (fun _=>rfl) fun w a hs ha=>qr hs (g:=aQz) (show aAz [N w.n,.lst [N a]]=some _ from mP ⟨hs.1,ha⟩)
 |84,_=>exact k0 (rfl) fun w hs=>qr hs (g:=aN4) (show wH [N w.n,.lst []]=some _ from sG hs.1)
 |85,_=>exact k1 (fun _=>rfl) fun w a hs ha=>qr hs (g:=aV0) (show aEy [N w.n,.lst [N a]]=some _ from mP ⟨hs.1,ha⟩)
 |86,_=>exact k2 (fun _ _=>rfl) fun w a b hs ha hb=>qo hs (g:=aQm) (show aAo [BL w.n w.m,.lst [N a,N b]]=some _ from aNa hs.1 hs.2.1 ha hb)
 |87,_=>exact k1 (fun _=>rfl) fun w a hs ha=>qo hs (g:=aMs) (show wD [BL w.n w.m,.lst [N a]]=some _ from wM hs.1 hs.2.1 ha)
 |88,_=>exact k1 (fun _=>rfl) fun w a hs ha=>qo hs (g:=aZm) (show aMk [BL w.n w.m,.lst [N a]]=some _ from wM hs.1 hs.2.1 ha)
 |89,_=>exact k1 (fun _=>rfl) fun w a hs ha=>qo hs (g:=aN3) (show wG [BL w.n w.m,.lst [N a]]=some _ from wM hs.1 hs.2.1 ha)
 |90,_=>exact k1 (fun _=>rfl) fun w a hs ha=>qo hs (g:=aQr) (show aAs [BL w.n w.m,.lst [N a]]=some _ from wM hs.1 hs.2.1 ha)
 |91,_=>exact k0 (rfl) fun w hs=>qo hs (g:=aB8) (show mG [BL w.n w.m,.lst []]=some _ from aF6 hs.1 hs.2.1)
 |92,_=>exact k0 (rfl) fun w hs=>qo hs (g:=aQw) (show aAx [BL w.n w.m,.lst []]=some _ from aF6 hs.1 hs.2.1)
 |93,_=>exact k2 (fun _ _=>rfl) fun w a b hs ha hb=>qo hs (g:=aZi) (show aMh [BL w.n w.m,.lst [N a,N b]]=some _ from aNa hs.1 hs.2.1 ha hb)
 |94,_=>exact k0 (rfl) fun w hs=>qo hs (g:=aIk) (show sA [BL w.n w.m,.lst []]=some _ from aF6 hs.1 hs.2.1)
 |95,_=>exact k1 (fun _=>rfl) fun w a hs ha=>qo hs (g:=aR0) (show aB4 [BL w.n w.m,.lst [N a]]=some _ from wM hs.1 hs.2.1 ha)
 |c+96,h=>exact absurd h (by omega)
theorem xV:cN Phi G Eff T 3 cO fM:=by
 intro l p args z e
 unfold fM at e;split at e
 case h_2=>cases e
 rename_i c gs
 obtain⟨g,hg,e1⟩:=Aa.mp e
 obtain⟨s,hs,e2⟩:=Aa.mp e1
 clear e e1
 split at e2
 case isFalse=>cases e2
 rename_i hh
 obtain⟨gd,rfl,rfl⟩:=wN hs
 obtain⟨x,hx,g2,hr⟩:=aSj c hh.1 s gd g hh.2.1 hh.2.2
 rw[hx]at e2
 have e3:=A0 e2
 subst e3
 rw[aBb hg]
 exact⟨show 3≤3 by omega,hr⟩
end
section
set_option maxRecDepth 100000
open Pl Tx Ma
def Az(c:Nat)(l:List Int):Prop:=Kl [(c:Int)::l]=G8 l∧D8 [(c:Int)::l]=[(c:Int)::l]
def AsP(c:Nat):Prop:=∀l:List Int,l.length=arN.getD c 0→Az c l
theorem az0{c:Nat}(k:arN.getD c 0=0:=by rfl)(h:Az c []:=by exact⟨rfl,rfl⟩):AsP c:=fun l e=>by
 rw[k]at e
 match l,e with|[],_=>exact h
theorem az1{c:Nat}(k:arN.getD c 0=1:=by rfl)(h:∀a:Int,Az c [a]:=by exact fun _=>⟨rfl,rfl⟩):AsP c:=fun l e=>by
 rw[k]at e
 match l,e with|[a],_=>exact h a
theorem az2{c:Nat}(k:arN.getD c 0=2:=by rfl)(h:∀a b:Int,Az c [a,b]:=by exact fun _ _=>⟨rfl,rfl⟩):AsP c:=fun l e=>by
 rw[k]at e
 match l,e with|[a,b],_=>exact h a b
theorem az3{c:Nat}(k:arN.getD c 0=3:=by rfl)(h:∀a b x:Int,Az c [a,b,x]:=by exact fun _ _ _=>⟨rfl,rfl⟩):AsP c:=fun l e=>by
 rw[k]at e
 match l,e with|[a,b,x],_=>exact h a b x
theorem az4{c:Nat}(k:arN.getD c 0=4:=by rfl)(h:∀a b x y:Int,Az c [a,b,x,y]:=by exact fun _ _ _ _=>⟨rfl,rfl⟩):AsP c:=fun l e=>by
 rw[k]at e
 match l,e with|[a,b,x,y],_=>exact h a b x y
theorem aY1(c:Nat)(hc:c<96):AsP c:=match c,hc with
 |0,_=>az1
 |1,_=>az1
 |2,_=>az1
 |3,_=>az0
 |4,_=>az1
 |5,_=>az0
 |6,_=>az2
 |7,_=>az0
 |8,_=>az0
 |9,_=>az0
 |10,_=>az0
 |11,_=>az0
 |12,_=>az0
 |13,_=>az0
 |14,_=>az2
 |15,_=>az0
 |16,_=>az1
 |17,_=>az1
 |18,_=>az1
 |19,_=>az0
 |20,_=>az0
 |21,_=>az1
 |22,_=>az1
 |23,_=>az2
 |24,_=>az2
 |25,_=>az3
 |26,_=>az1
 |27,_=>az1
 |28,_=>az2
 |29,_=>az1
 |30,_=>az1
 |31,_=>az4
 |32,_=>az2
 |33,_=>az1
 |34,_=>az1
 |35,_=>az1
 |36,_=>az1
 |37,_=>az2
 |38,_=>az2
 |39,_=>az1
 |40,_=>az1
 |41,_=>az2
 |42,_=>az1
 |43,_=>az1
 |44,_=>az2
 |45,_=>az2
 |46,_=>az1
 |47,_=>az1
 |48,_=>az1
 |49,_=>az1
 |50,_=>az1
 |51,_=>az1
 |52,_=>az1
 |53,_=>az1
 |54,_=>az1
 |55,_=>az1
 |56,_=>az2
 |57,_=>az2
 |58,_=>az1
 |59,_=>az1
 |60,_=>az2
 |61,_=>az2
 |62,_=>az1
 |63,_=>az4
 |64,_=>az1
 |65,_=>az1
 |66,_=>az2
 |67,_=>az2
 |68,_=>az2
 |69,_=>az2
 |70,_=>az1
 |71,_=>az0
 |72,_=>az0
 |73,_=>az0
 |74,_=>az2
 |75,_=>az1
 |76,_=>az1
 |77,_=>az1
 |78,_=>az1
 |79,_=>az1
 |80,_=>az1
 |81,_=>az0
 |82,_=>az0
 |83,_=>az1
 |84,_=>az0
 |85,_=>az1
 |86,_=>az2
 |87,_=>az1
 |88,_=>az1
 |89,_=>az1
 |90,_=>az1
 |91,_=>az0
 |92,_=>az0
 |93,_=>az2
 |94,_=>az0
 |95,_=>az1
 |c+96,hc=>absurd hc (by omega)
theorem aHl{c:Nat}(h:c<96):Cc (c:Int)=some (arN.getD c 0,0):=by
 have:∀c:Nat,c<96→Cc (c:Int)=some (arN.getD c 0,0):=by decide +kernel
 exact this c h
theorem bCt{c:Nat}(h:c<96):ar[c]?=some (arN.getD c 0):=by
 have:∀c,c<96→ar[c]?=some (arN.getD c 0):=by decide +kernel
 exact this c h
theorem aJh{p:Int}(h:¬(0≤p∧p<96)):Cc p=none:=by
 unfold Cc
 repeat rw[ig (by omega)]
theorem aTz{c:Nat}{r:List Int}(hc:c<96)(hl:¬r.length<arN.getD c 0):G1 Cc ((c:Int)::r)=some ([(c:Int)::r.take (arN.getD c 0)],r.drop (arN.getD c 0)):=by
 rw[show G1 Cc ((c:Int)::r)=(match Cc (c:Int)with|none=>none|some (n,k)=>if r.length<n then none else match L6 k (r.drop n)with|none=>none|some (xs,t)=>some (((c:Int)::r.take n)::xs,t))from rfl,aHl hc]
 simp only[]
 rw[ig hl]
 rfl
theorem aHx{c:Nat}{r:List Int}(hc:c<96)(hl:r.length<arN.getD c 0):G1 Cc ((c:Int)::r)=none:=by
 rw[show G1 Cc ((c:Int)::r)=(match Cc (c:Int)with|none=>none|some (n,k)=>if r.length<n then none else match L6 k (r.drop n)with|none=>none|some (xs,t)=>some (((c:Int)::r.take n)::xs,t))from rfl,aHl hc]
 simp only[]
 rw[ip hl]
theorem aL8{p:Int}{r:List Int}(h:¬(0≤p∧p<96)):G1 Cc (p::r)=none:=by
 rw[show G1 Cc (p::r)=(match Cc p with|none=>none|some (n,k)=>if r.length<n then none else match L6 k (r.drop n)with|none=>none|some (xs,t)=>some ((p::r.take n)::xs,t))from rfl,aJh h]
theorem wL:∀{l:List Int},G8 l=true→∃g:List Nat,l=g.map (fun(a:Nat)=>(a:Int))∧∀a∈g,a<B32
 |[],_=>⟨[],rfl,by simp⟩
 |z::l,h=>by
  unfold G8 at h
  rw[Bz,Ac]at h
  obtain⟨h1,h2⟩:=h
  unfold Kp272Neutral.natural at h1
  rw[Ac]at h1
  have a1:=dqt h1.1
  have a2:=dqt h1.2
  obtain⟨g,rfl,hg⟩:=wL (l:=l) h2
  obtain⟨n,rfl⟩:=Cg a1
  refine⟨n::g,rfl,fun a ha=>?_⟩
  rcases A1.mp ha with rfl|ha
  .show a<4294967296;omega
  .exact hg a ha
theorem aK4{E:EF}{ns:List Int}{i:Nat}{l:List Dat}{p:Int}{acc:List Dat}(h:ns.length≤i):L2.Sd.aloop E ar ns 1 i l p acc=some acc:=ip h
theorem aHt{E:EF}{ns:List Int}{f i c n:Nat}{l:List Dat}{p:Int}{acc:List Dat}{as:List Int}{z:Dat×List Dat×Int}{ds:List Dat}(hi:ns[i]?=some (c:Int))(hc:c<96)(hn:arN.getD c 0=n)(ha:(ns.drop (i+1)).take n=as)(he:E l p [N c,.lst (as.map Dat.int)]=some z)(hz:z.1=.lst ds)(hf:ds.all flat=true)(hl:acc.length+1+ds.length≤SZ) :
  L2.Sd.aloop E ar ns (f+1) i l p acc=L2.Sd.aloop E ar ns f (i+1+n) z.2.1 z.2.2 (acc++.int ds.length::ds):=by
 have hlt:i<ns.length:=(As.mp hi).1
 have e0:L2.Sd.aloop E ar ns (f+1) i l p acc=if ns.length≤i then some acc else
  (ns[i]?).bind fun c=>(Pl.qE ar.length c).bind fun j=>(ar[j]?).bind fun n=>
   (E l p [.int c,.lst (((ns.drop (i+1)).take n).map .int)]).bind fun z=>match z.1 with
    |.lst ds=>if ds.all flat&&decide (acc.length+1+ds.length≤SZ)then L2.Sd.aloop E ar ns f (i+1+n) z.2.1 z.2.2 (acc++.int ds.length::ds)else none
    |_=>none:=Aq rfl rfl
 have e1:Pl.qE ar.length (c:Int)=some c:=by
  rw[show ar.length=96 from rfl]
  unfold Pl.qE
  rw[ip (by omega),ip (by omega),B8]
 rw[e0,ig (by omega),hi,Af,e1,Af,bCt hc,hn,Af,ha,he,Af,hz]
 show(if ds.all flat&&decide (acc.length+1+ds.length≤SZ)then L2.Sd.aloop E ar ns f (i+1+n) z.2.1 z.2.2 (acc++.int ds.length::ds)else none)=_
 rw[hf,det hl];rfl
theorem aP6(a:List Int)(l:List (List Int)):Gb (a::l)=(a.length:Int)::a++Gb l:=by
 unfold Gb;rw[D0]
theorem aJq(ns:List Int):∀(f:Nat)(rest:List Int)(raw:List (List (List Int)))(i:Nat)(s:Dt)(acc:List Dat),Ii Cc f rest=some raw→ns.drop i=rest→Good s→(raw.map D8).all Kl=true→
  acc.length+(Gb (E9 Ct s (raw.map D8))).length≤SZ→
  ∃fu,L2.Sd.aloop (Eff jS) ar ns fu i (sv s).1 (sv s).2 acc=some (acc++(Gb (E9 Ct s (raw.map D8))).map Dat.int):=by
 have fin:∀(i:Nat)(s:Dt)(acc:List Dat)(raw:List (List (List Int))),ns.drop i=[]→raw=[]→∃fu,L2.Sd.aloop (Eff jS) ar ns fu i (sv s).1 (sv s).2 acc=some (acc++(Gb (E9 Ct s (raw.map D8))).map Dat.int):=by
  intro i s acc raw hd hr
  subst hr
  refine⟨1,(aK4 (List.drop_eq_nil_iff.mp hd)).trans ?_⟩
  show some acc=some (acc++[])
  rw[Co]
 intro f
 induction f with
 |zero=>
  intro rest raw i s acc h hd hs ha hb
  cases rest with
  |nil=>exact fin i s acc raw hd (A0 h).symm
  |cons p r=>cases h
 |succ f ih=>
  intro rest raw i s acc h hd hs ha hb
  cases rest with
  |nil=>exact fin i s acc raw hd (A0 h).symm
  |cons p r=>
   have hc:Ii Cc (f+1) (p::r)=(match G1 Cc (p::r)with
    |none=>none
    |some (c,t)=>match Ii Cc f t with
     |none=>none
     |some cs=>some (c::cs)):=rfl
   rw[hc]at h
   by_cases hp:0≤p∧p<96
   .obtain⟨c,rfl⟩:=Cg hp.1
    have hc96:c<96:=by omega
    by_cases hl:r.length<arN.getD c 0
    .rw[aHx hc96 hl]at h;cases h
    .rw[aTz hc96 hl]at h
     simp only[]at h
     generalize hn:arN.getD c 0=n at h hl
     cases hcs:Ii Cc f (r.drop n)with
     |none=>rw[hcs]at h;cases h
     |some cs=>
      rw[hcs]at h
      have h:=A0 h
      subst h
      have hal:(r.take n).length=arN.getD c 0:=by rw[hn,F4];omega
      obtain⟨as1,as2⟩:=aY1 c hc96 _ hal
      rw[Ai,as2]at ha hb ⊢
      rw[Bz,Ac,as1]at ha
      obtain⟨g,hg,hgb⟩:=wL ha.1
      have hgl:g.length=arN.getD c 0:=by rw[←hal,hg,Ag]
      obtain⟨x,hx,hgood,_⟩:=aSj c hc96 s hs g hgl hgb
      have hst:Ct s [(c:Int)::r.take n]=((Al s x).1,(Al s x).2.num::(Al s x).2.nums):=by
       unfold Ct
       rw[hg,hx]
      have hpl:E9 Ct s ([(c:Int)::r.take n]::cs.map D8)=((Al s x).2.num::(Al s x).2.nums)::E9 Ct (Al s x).1 (cs.map D8):=by
       show(Ct s [(c:Int)::r.take n]).2::E9 Ct (Ct s [(c:Int)::r.take n]).1 (cs.map D8)=_
       rw[hst]
      rw[hpl,aP6]at hb ⊢
      generalize hA:(Al s x).2.num::(Al s x).2.nums=A at hb ⊢
      have hi0:ns[i]?=some (c:Int):=by
       have:=congrArg (fun l:List Int=>l[0]?) hd
       simpa using this
      have hd1:ns.drop (i+1)=r:=by
       have:=congrArg (List.drop 1) hd
       rw[Mz]at this
       simpa using this
      have hd2:ns.drop (i+1+n)=r.drop n:=by rw[←hd1,Mz]
      have hap:=aXx hs hc96 hgl hgb hx
      have e1:Eff jS (sv s).1 (sv s).2 [N c,.lst ((r.take n).map Dat.int)]=some (res s x):=by
       rw[hg,Aj];exact hap
      have hz:(res s x).1=.lst (A.map Dat.int):=by rw[←hA];rfl
      have hlen:(A.map Dat.int).length=A.length:=Ag ..
      rw[A6,Ar]at hb
      obtain⟨fu,hfu⟩:=ih (r.drop n) cs (i+1+n) (Al s x).1 (acc++.int ((A.map Dat.int).length:Nat)::A.map Dat.int) hcs hd2 hgood ha.2 (by
       rw[A6,Ar,hlen];omega)
      refine⟨fu+1,(aHt (z:=res s x) (ds:=A.map Dat.int) hi0 hc96 hn (by rw[hd1]) e1 hz (by simp) (by rw[hlen];omega)).trans (hfu.trans ?_)⟩
      rw[hlen,A7,Ai,Dj]
   .rw[aL8 hp]at h;cases h
theorem whole(ns:List Int)(h:J8 ns=true):∃fu,L2.Sd.aloop (Eff jS) ar ns fu 0 [] 0 []=some ((J9 ns).map Dat.int):=by
 unfold J8 at h
 cases hr:Ii Cc ns.length ns with
 |none=>rw[hr]at h;cases h
 |some raw=>
  rw[hr]at h
  simp only[Ac]at h
  obtain⟨⟨⟨_,_⟩,hk⟩,hsh⟩:=h
  have hans:J9 ns=Gb (E9 Ct Kp272Neutral.start (raw.map D8)):=by
   unfold J9 PyKp272.calls
   rw[hr]
  unfold PyFlat.short at hsh
  have hsh:=dqt hsh
  unfold Kp272Neutral.asked at hk
  simp only[Ac]at hk
  rw[hans]at hsh ⊢
  obtain⟨fu,hfu⟩:=aJq ns ns.length ns raw 0 none [] hr rfl trivial hk.2.2 (by
   have h2:(Gb (E9 Ct none (raw.map D8))).length≤10000000:=hsh
   show 0+_≤16777216;omega)
  exact⟨fu,by rw[Cq]at hfu;exact hfu⟩
end
end Px
namespace Px
set_option maxRecDepth 100000
open PySem PyProof.Rows L2 L2.Sd
open PySem.Spec hiding Tm
open Pl (Dat Stms OStms)
noncomputable def pls:List Nat:=[9,10,11,12,14,15,16,17,19,20,21,22,23,25,24,32,33,34,35,36,37,38,39,40,41,42,43,44,45,46,47,51,52,53,54,59,60,61,62,63,64,65,66,67,68,69,70,71,74,75,76,77,78,79,82,83,84,85,86,87,88,89,90,91,92,93,98,99,100,101,102,103,104,105,106,107,116,117,118,119,120,121,122,123,124,125,126,127,128,129,132,133,134,139,140,141,142,143,144,145,146,147,148,149,150,151,152,153,154,155,156,157,158,159,160,161,164,165,166,167,168,169,170,171,172,173,174,175,176,177,187,188,189,190,191,192,193,194,195,196,197,198,199,200,214,213,212]
noncomputable def kps:List Nat:=[1,1,1,1,2,2,3,3,2,1,3,2,3,3,3,2,2,2,2,2,2,2,2,2,2,2,2,2,2,2,2,1,1,2,1,2,2,2,2,2,2,2,2,2,2,2,2,2,1,1,1,2,1,3,1,3,2,2,2,2,2,2,2,2,2,2,1,2,2,2,2,2,2,2,2,2,1,2,2,2,2,2,2,2,2,2,2,2,2,2,2,1,1,1,2,2,2,1,2,3,2,2,2,2,2,2,2,2,2,2,2,2,2,2,2,2,1,1,2,2,2,2,2,2,2,2,2,2,2,2,2,2,2,2,2,2,2,2,2,2,2,2,2,2,3,3]
noncomputable def sls:List (List String):=[["found"],["holds"],["number"],["number"],["n","prime","found","rest"],["n","prime"],["a","b","prime","found","place","carried"],["a","b","prime"],["row","place","found","i"],["row","place"],["row","place","prime"],["row","prime","found","digit"],["row","place","prime","found"],["row","ahead","prime","from_right","from_left","counts","place"],["row","place","prime","counts","r"],["n","prime","k"],["n","prime"],["n","prime"],["prime","given","n","k"],["prime","given","n","k"],["prime","given"],["prime","given","n","found"],["prime","given"],["prime","given"],["prime","given"],["prime","given","k","often"],["prime","given","n"],["prime","given","n"],["prime","given","n"],["prime","given","n"],["prime","given"],["n","divisor"],["n","q"],["n","prime","rest","found"],["n","q"],["n","prime","a"],["prime","given"],["prime","given"],["prime","given"],["prime","given"],["prime","given","a","b","c","first_two"],["prime","given"],["prime","given"],["prime","given","n","a","found"],["prime","given"],["prime","given","n","wanted","other"],["prime","given","found","digit"],["prime","given","a","b"],["steps","places","step"],["steps","i","step"],["steps","found","step"],["told","count","steps","rest","i"],["steps","found","place","i","step"],["count","place","number","backwards","rights","rest","i","lesser"],["steps"],["count","k","number","backwards","chosen","rest","i","without"],["steps","given","k","r"],["steps","given","other"],["steps","given","other","together","mine","its"],["steps","given","j","chosen"],["steps","given","without"],["steps","given"],["steps","given"],["steps","given","k","r"],["steps","given"],["steps","given","choices","i","chosen","together"],["way"],["way","given"],["way","given","before"],["way","given"],["way","given"],["way","given","i"],["way","given","step"],["way","given","place","number","count"],["way","given"],["way","given","number"],["n","found","factor"],["n","prime","found","rest"],["n","prime","found","upper"],["prime","given"],["prime","given"],["prime","given"],["prime","given","wanted","n","found"],["prime","given","base","n","q","power"],["prime","given","first","last"],["prime","given","n","met","m","k"],["prime","given","n","q"],["prime","given","n","m","fits","q"],["prime","given","base","found","answer","q","power"],["prime","given","n","fewer","whole"],["a","b","rest"],["numbers","found","number"],["numbers","found","number"],["row"],["row","k"],["row","k"],["row","k"],["numbers","found","number"],["row","k","there","q"],["numbers","k","wanted","behind"],["row","given"],["row","given"],["row","given"],["row","given"],["row","given"],["row","given","k"],["row","given","k"],["row","given","k","part"],["row","given"],["row","given","k","found"],["row","given","v","found","told","n","k"],["row","given","numbers","k"],["row","given","numbers","wanted","k"],["row","given"],["row","given","number"],["row","given","n"],["way"],["way","places","row","place"],["way","given"],["way","given"],["way","given"],["way","given"],["way","given"],["way","given","row","place"],["way","given","avoiding"],["way","given","other","mine","its"],["way","given","other","mine","its","row","place"],["way","given","row","place"],["way","given","row","place","to_left","to_right"],["way","given"],["n","prime","k"],["prime","given","n","k"],["prime","given"],["prime","given","lefts","left"],["prime","given","n","k","place","left"],["prime","given"],["prime","given","n"],["prime","given","a","b","c","d","left"],["prime","given"],["prime","given","lefts"],["prime","given","alike","one","other"],["prime","given","n","q"],["prime","given","n","r","k","left"],["prime","given","n","k"],["prime","call","given"],["way","call","given"]]
noncomputable def pbs:List Stms:=[Tx.uM,Tx.pC,Tx.zS,Tx.rK,Tx.oT,Tx.oS,Tx.kT,Tx.lT,Tx.vD,Tx.aA0,Tx.rM,Tx.oZ,Tx.uS,Tx.iM,Tx.kE,Tx.kY,Tx.jX,Tx.kX,Tx.zN,Tx.aE7,Tx.rO,Tx.aA2,Tx.aEb,Tx.aKk,Tx.aKj,Tx.aDy,Tx.aKm,Tx.aK9,Tx.zV,Tx.aDv,Tx.jY,Tx.rL,Tx.lA,Tx.rN,Tx.lY,Tx.kZ,Tx.zP,Tx.aDx,Tx.uL,Tx.oR,Tx.aE6,Tx.uO,Tx.uU,Tx.oX,Tx.lX,Tx.aKh,Tx.mV,Tx.vE,Tx.kD,Tx.oY,Tx.vB,Tx.mZ,Tx.oW,Tx.jE,Tx.gG,Tx.fR,Tx.zM,Tx.uK,Tx.aKi,Tx.uY,Tx.zR,Tx.lS,Tx.zZ,Tx.aKe,Tx.rQ,Tx.aA4,Tx.rP,.nil,.nil,.nil,.nil,.nil,.nil,.nil,.nil,.nil,Tx.mY,Tx.gF,Tx.gZ,Tx.uV,Tx.lB,Tx.uW,Tx.uR,Tx.uT,Tx.aKo,Tx.aKd,Tx.oV,Tx.aE8,Tx.aE4,Tx.aE1,Tx.jC,Tx.gE,Tx.jD,Tx.lU,Tx.lV,Tx.lC,Tx.jZ,Tx.mX,Tx.hE,Tx.jK,Tx.bCu,Tx.rJ,Tx.aE2,Tx.aKs,Tx.aA1,Tx.aKp,Tx.lZ,Tx.uQ,Tx.rH,Tx.aE0,Tx.zY,Tx.aKc,Tx.zQ,Tx.aA3,Tx.uZ,Tx.aE5,Tx.pB,Tx.kW,Tx.aKf,Tx.zX,Tx.aE3,Tx.aKg,Tx.uN,Tx.aDt,Tx.aDw,Tx.vC,Tx.rR,Tx.zL,Tx.aKa,Tx.aKq,Tx.lW,Tx.zU,Tx.uX,Tx.zO,Tx.oU,Tx.aTs,Tx.aKl,Tx.zT,Tx.vA,Tx.pA,Tx.aKn,Tx.bCv,Tx.aEa,Tx.aE9,Tx.fL,.nil]
noncomputable def obs:List OStms:=[Tx.aDu,Tx.kU,Tx.aKb,Tx.bCx,Tx.aKr,Tx.zW,Tx.bCw,Tx.aDz,Tx.uP,Tx.cO]
noncomputable def isO (g:Nat):Bool:=decide (67≤g∧g<76)
def pl(g:Nat):Nat:=pls.getD g 0
def sl(g:Nat):List Str:=(sls.getD g []).map Str.ofString
def ps(g:Nat):List Str:=(sl g).take (kps.getD g 0)
def pb(g:Nat):Stms:=pbs.getD g .nil
def ob(g:Nat):OStms:=obs.getD (if g=145 then 9 else g-67) .nil
theorem ck:(Ab 144).all (fun g=>if isO g then aEh nm0 tb0 g (sl g) (bL (top (pl g))) (ob g) (fS (top (pl g)))else aA7 nm0 g (sl g) (bL (top (pl g))) (pb g) (fS (top (pl g))))=true:=by decide +kernel
theorem ck1:aA7 nm1 144 (sl 144) (bL (top (pl 144))) (pb 144) (fS (top (pl 144)))=true:=by decide +kernel
theorem ck2:aEh nm0 tb 145 (sl 145) (bL (top (pl 145))) (ob 145) (fS (top (pl 145)))=true:=by decide +kernel
theorem fk:(Ab 146).all (fun g=>pY (sl g) (ps g) (bL (top (pl g))))=true:=by decide +kernel
def Be(g:Nat)(x:Str)(kV dc pm:Value)(an:Option Addr)(cd ct:Value)(us:List Value):Prop:=bindArgs (Ez x x (mD (top (pl g))) (fS (top (pl g))) (bL (top (pl g))) .none kV dc pm an cd ct) ⟨us,[]⟩=pure ((ps g).zip us)
def Bd(g:Nat):Prop:=∀x kV dc pm an cd ct us,us.length=(ps g).length→Be g x kV dc pm an cd ct us
theorem bd1{g:Nat}(l:(ps g).length=1:=by rfl)(h:∀x kV dc pm an cd ct a,Be g x kV dc pm an cd ct [a]:=by intros;rfl):Bd g:=by
 intro x kV dc pm an cd ct us hl
 rw[l]at hl
 match us,hl with
 |[a],_=>exact h x kV dc pm an cd ct a
theorem bd2{g:Nat}(l:(ps g).length=2:=by rfl)(h:∀x kV dc pm an cd ct a b,Be g x kV dc pm an cd ct [a,b]:=by intros;rfl):Bd g:=by
 intro x kV dc pm an cd ct us hl
 rw[l]at hl
 match us,hl with
 |[a,b],_=>exact h x kV dc pm an cd ct a b
theorem bd3{g:Nat}(l:(ps g).length=3:=by rfl)(h:∀x kV dc pm an cd ct a b c,Be g x kV dc pm an cd ct [a,b,c]:=by intros;rfl):Bd g:=by
 intro x kV dc pm an cd ct us hl
 rw[l]at hl
 match us,hl with
 |[a,b,c],_=>exact h x kV dc pm an cd ct a b c
theorem bd(g:Nat)(hg:g<146):Bd g:=match g,hg with
 |0,_=>bd1
 |1,_=>bd1
 |2,_=>bd1
 |3,_=>bd1
 |4,_=>bd2
 |5,_=>bd2
 |6,_=>bd3
 |7,_=>bd3
 |8,_=>bd2
 |9,_=>bd1
 |10,_=>bd3
 |11,_=>bd2
 |12,_=>bd3
 |13,_=>bd3
 |14,_=>bd3
 |15,_=>bd2
 |16,_=>bd2
 |17,_=>bd2
 |18,_=>bd2
 |19,_=>bd2
 |20,_=>bd2
 |21,_=>bd2
 |22,_=>bd2
 |23,_=>bd2
 |24,_=>bd2
 |25,_=>bd2
 |26,_=>bd2
 |27,_=>bd2
 |28,_=>bd2
 |29,_=>bd2
 |30,_=>bd2
 |31,_=>bd1
 |32,_=>bd1
 |33,_=>bd2
 |34,_=>bd1
 |35,_=>bd2
 |36,_=>bd2
 |37,_=>bd2
 |38,_=>bd2
 |39,_=>bd2
 |40,_=>bd2
 |41,_=>bd2
 |42,_=>bd2
 |43,_=>bd2
 |44,_=>bd2
 |45,_=>bd2
 |46,_=>bd2
 |47,_=>bd2
 |48,_=>bd1
 |49,_=>bd1
 |50,_=>bd1
 |51,_=>bd2
 |52,_=>bd1
 |53,_=>bd3
 |54,_=>bd1
 |55,_=>bd3
 |56,_=>bd2
 |57,_=>bd2
 |58,_=>bd2
 |59,_=>bd2
 |60,_=>bd2
 |61,_=>bd2
 |62,_=>bd2
 |63,_=>bd2
 |64,_=>bd2
 |65,_=>bd2
 |66,_=>bd1
 |67,_=>bd2
 |68,_=>bd2
 |69,_=>bd2
 |70,_=>bd2
 |71,_=>bd2
 |72,_=>bd2
 |73,_=>bd2
 |74,_=>bd2
 |75,_=>bd2
 |76,_=>bd1
 |77,_=>bd2
 |78,_=>bd2
 |79,_=>bd2
 |80,_=>bd2
 |81,_=>bd2
 |82,_=>bd2
 |83,_=>bd2
 |84,_=>bd2
 |85,_=>bd2
 |86,_=>bd2
 |87,_=>bd2
 |88,_=>bd2
 |89,_=>bd2
 |90,_=>bd2
 |91,_=>bd1
 |92,_=>bd1
 |93,_=>bd1
 |94,_=>bd2
 |95,_=>bd2
 |96,_=>bd2
 |97,_=>bd1
 |98,_=>bd2
 |99,_=>bd3
 |100,_=>bd2
 |101,_=>bd2
 |102,_=>bd2
 |103,_=>bd2
 |104,_=>bd2
 |105,_=>bd2
 |106,_=>bd2
 |107,_=>bd2
 |108,_=>bd2
 |109,_=>bd2
 |110,_=>bd2
 |111,_=>bd2
 |112,_=>bd2
 |113,_=>bd2
 |114,_=>bd2
 |115,_=>bd2
 |116,_=>bd1
 |117,_=>bd1
 |118,_=>bd2
 |119,_=>bd2
 |120,_=>bd2
 |121,_=>bd2
 |122,_=>bd2
 |123,_=>bd2
 |124,_=>bd2
 |125,_=>bd2
 |126,_=>bd2
 |127,_=>bd2
 |128,_=>bd2
 |129,_=>bd2
 |130,_=>bd2
 |131,_=>bd2
 |132,_=>bd2
 |133,_=>bd2
 |134,_=>bd2
 |135,_=>bd2
 |136,_=>bd2
 |137,_=>bd2
 |138,_=>bd2
 |139,_=>bd2
 |140,_=>bd2
 |141,_=>bd2
 |142,_=>bd2
 |143,_=>bd2
 |144,_=>bd3
 |145,_=>bd3
 |g+146,h=>absurd h (by omega)
inductive LL:List (List Dat→Option Dat)→List Nat→Prop
 |nil:LL [] []
 |cons {f:List Dat→Option Dat} {n:Nat} {fs:List (List Dat→Option Dat)} {ns:List Nat} (h:∀ds d,f ds=some d→ds.length=n) (t:LL fs ns):LL (f::fs) (n::ns)
theorem LL.get{fs:List (List Dat→Option Dat)}{ns:List Nat}(h:LL fs ns):∀(g:Nat)ds d,fs.getD g (fun _=>none) ds=some d→ds.length=ns.getD g 0:=by
 induction h with
 |nil=>intro g ds d e;cases e
 |cons h t ih=>
  intro g
  cases g with
  |zero=>exact h
  |succ g=>exact ih g
theorem zln:∀ds d,(fun _=>none:List Dat→Option Dat) ds=some d→ds.length=0:=fun _ _ h=>nomatch h
noncomputable def kqs:List Nat:=[1,1,1,1,2,2,3,3,2,1,3,2,3,3,3,2,2,2,2,2,2,2,2,2,2,2,2,2,2,2,2,1,1,2,1,2,2,2,2,2,2,2,2,2,2,2,2,2,1,1,1,2,1,3,1,3,2,2,2,2,2,2,2,2,2,2,1,0,0,0,0,0,0,0,0,0,1,2,2,2,2,2,2,2,2,2,2,2,2,2,2,1,1,1,2,2,2,1,2,3,2,2,2,2,2,2,2,2,2,2,2,2,2,2,2,2,1,1,2,2,2,2,2,2,2,2,2,2,2,2,2,2,2,2,2,2,2,2,2,2,2,2,2,2,3,0,0]
theorem lls:LL fns kqs:=by
 repeat' first|exact .nil|refine .cons aV7 ?_|refine .cons aV8 ?_|refine .cons aVa ?_|refine .cons aVb ?_|refine .cons aZw ?_|refine .cons aVd ?_|refine .cons aVe ?_|refine .cons aVf ?_|refine .cons aVh ?_|refine .cons aVi ?_|refine .cons aVk ?_|refine .cons aVl ?_|refine .cons aVm ?_|refine .cons aVn ?_|refine .cons aZx ?_|refine .cons aVo ?_|refine .cons aVp ?_|refine .cons aVr ?_|refine .cons aZy ?_|refine .cons pJ ?_|refine .cons tN ?_|refine .cons vZ ?_|refine .cons tP ?_|refine .cons aEr ?_|refine .cons aAj ?_|refine .cons aAk ?_|refine .cons wA ?_|refine .cons aEs ?_|refine .cons aAl ?_|refine .cons zln ?_
theorem okP(g:Nat)(hg:g<145)(ho:isO g=false):Pl.Computes Phi G (sl g).length (pb g) (Phi g):=by
 match g,hg,ho with
 |0,_,_=>apply aIp<;>rfl
 |1,_,_=>apply aD4<;>rfl
 |2,_,_=>apply aNm<;>rfl
 |3,_,_=>apply aFc<;>rfl
 |4,_,_=>exact ok0 Phi G
 |5,_,_=>apply aCv<;>rfl
 |6,_,_=>apply wP<;>rfl
 |7,_,_=>apply xW<;>rfl
 |8,_,_=>apply aJ6<;>rfl
 |9,_,_=>apply aNu<;>rfl
 |10,_,_=>apply aFe<;>rfl
 |11,_,_=>apply aD1<;>rfl
 |12,_,_=>apply aIv<;>rfl
 |13,_,_=>apply wO<;>rfl
 |14,_,_=>apply tU<;>rfl
 |15,_,_=>apply wT<;>rfl
 |16,_,_=>apply tQ<;>rfl
 |17,_,_=>apply wS<;>rfl
 |18,_,_=>apply aNh<;>rfl
 |19,_,_=>apply aRg<;>rfl
 |20,_,_=>apply aFg<;>rfl
 |21,_,_=>apply aNw<;>rfl
 |22,_,_=>apply aRk<;>rfl
 |23,_,_=>apply aW9<;>rfl
 |24,_,_=>apply aW8<;>rfl
 |25,_,_=>apply aR7<;>rfl
 |26,_,_=>apply aWb<;>rfl
 |27,_,_=>apply aVx<;>rfl
 |28,_,_=>apply aNp<;>rfl
 |29,_,_=>apply aR4<;>rfl
 |30,_,_=>apply tR<;>rfl
 |31,_,_=>apply aFd<;>rfl
 |32,_,_=>apply wV<;>rfl
 |33,_,_=>apply aFf<;>rfl
 |34,_,_=>apply yB<;>rfl
 |35,_,_=>apply wU<;>rfl
 |36,_,_=>apply aNj<;>rfl
 |37,_,_=>apply aR6<;>rfl
 |38,_,_=>apply aIo<;>rfl
 |39,_,_=>apply aCu<;>rfl
 |40,_,_=>apply aRf<;>rfl
 |41,_,_=>apply aIr<;>rfl
 |42,_,_=>apply aIx<;>rfl
 |43,_,_=>apply aCz<;>rfl
 |44,_,_=>apply yA<;>rfl
 |45,_,_=>apply aW6<;>rfl
 |46,_,_=>apply aBe<;>rfl
 |47,_,_=>apply aJ7<;>rfl
 |48,_,_=>apply tT<;>rfl
 |49,_,_=>apply aD0<;>rfl
 |50,_,_=>apply aJ4<;>rfl
 |51,_,_=>apply aBh<;>rfl
 |52,_,_=>apply aCy<;>rfl
 |53,_,_=>apply sL<;>rfl
 |54,_,_=>apply pN<;>rfl
 |55,_,_=>apply nR<;>rfl
 |56,_,_=>apply aNg<;>rfl
 |57,_,_=>apply aIn<;>rfl
 |58,_,_=>apply aW7<;>rfl
 |59,_,_=>apply aJ1<;>rfl
 |60,_,_=>apply aNl<;>rfl
 |61,_,_=>apply xU<;>rfl
 |62,_,_=>apply aNt<;>rfl
 |63,_,_=>apply aW2<;>rfl
 |64,_,_=>apply aFi<;>rfl
 |65,_,_=>apply aNy<;>rfl
 |66,_,_=>apply aFh<;>rfl
 |76,_,_=>apply aBg<;>rfl
 |77,_,_=>apply pM<;>rfl
 |78,_,_=>apply qV<;>rfl
 |79,_,_=>apply aIy<;>rfl
 |80,_,_=>apply wW<;>rfl
 |81,_,_=>apply aIz<;>rfl
 |82,_,_=>apply aIu<;>rfl
 |83,_,_=>apply aIw<;>rfl
 |84,_,_=>apply aWd<;>rfl
 |85,_,_=>apply aW1<;>rfl
 |86,_,_=>apply aCx<;>rfl
 |87,_,_=>apply aRh<;>rfl
 |88,_,_=>apply aRd<;>rfl
 |89,_,_=>apply aRa<;>rfl
 |90,_,_=>apply sJ<;>rfl
 |91,_,_=>apply pL<;>rfl
 |92,_,_=>apply sK<;>rfl
 |93,_,_=>apply xX<;>rfl
 |94,_,_=>apply xY<;>rfl
 |95,_,_=>apply wX<;>rfl
 |96,_,_=>apply tS<;>rfl
 |97,_,_=>apply aBf<;>rfl
 |98,_,_=>apply qW<;>rfl
 |99,_,_=>apply yC<;>rfl
 |100,_,_=>apply bDn<;>rfl
 |101,_,_=>apply aFb<;>rfl
 |102,_,_=>apply aRb<;>rfl
 |103,_,_=>apply aWh<;>rfl
 |104,_,_=>apply aNv<;>rfl
 |105,_,_=>apply aWe<;>rfl
 |106,_,_=>apply yD<;>rfl
 |107,_,_=>apply aIt<;>rfl
 |108,_,_=>apply aFa<;>rfl
 |109,_,_=>apply aR9<;>rfl
 |110,_,_=>apply aNs<;>rfl
 |111,_,_=>apply aW0<;>rfl
 |112,_,_=>apply aNk<;>rfl
 |113,_,_=>apply aNx<;>rfl
 |114,_,_=>apply aJ2<;>rfl
 |115,_,_=>apply aRe<;>rfl
 |116,_,_=>apply aD3<;>rfl
 |117,_,_=>apply wR<;>rfl
 |118,_,_=>apply aW3<;>rfl
 |119,_,_=>apply aNr<;>rfl
 |120,_,_=>apply aRc<;>rfl
 |121,_,_=>apply aW5<;>rfl
 |122,_,_=>apply aIq<;>rfl
 |123,_,_=>apply aR2<;>rfl
 |124,_,_=>apply aR5<;>rfl
 |125,_,_=>apply aJ5<;>rfl
 |126,_,_=>apply aFj<;>rfl
 |127,_,_=>apply aNf<;>rfl
 |128,_,_=>apply aVy<;>rfl
 |129,_,_=>apply aWf<;>rfl
 |130,_,_=>apply xZ<;>rfl
 |131,_,_=>apply aNo<;>rfl
 |132,_,_=>apply aJ0<;>rfl
 |133,_,_=>apply aNi<;>rfl
 |134,_,_=>apply aCw<;>rfl
 |135,_,_=>apply bAc<;>rfl
 |136,_,_=>apply aWa<;>rfl
 |137,_,_=>apply aNn<;>rfl
 |138,_,_=>apply aJ3<;>rfl
 |139,_,_=>apply aD2<;>rfl
 |140,_,_=>apply aWc<;>rfl
 |141,_,_=>apply bDo<;>rfl
 |142,_,_=>apply aRj<;>rfl
 |143,_,_=>apply aRi<;>rfl
 |144,_,_=>apply qU<;>rfl
 |g+145,h,_=>exact absurd h (by omega)
theorem kq:(Ab 145).all (fun g=>isO g||decide (kqs.getD g 0=(ps g).length))=true:=by decide +kernel
theorem okQ(g:Nat)(hg:g<145)(ho:isO g=false):(∀ds d,Phi g ds=some d→ds.length=(ps g).length)∧∀l p ds,Eff g l p ds=none:=by
 have h:=Bc.mp kq g (Ak.mpr hg)
 rw[ho]at h
 have h:decide (kqs.getD g 0=(ps g).length)=true:=h
 refine⟨fun ds d e=>?_,fun l p ds=>?_⟩
 .have e2:fns.getD g (fun _=>none) ds=some d:=by
   unfold Phi at e;rw[ip (by omega)]at e;exact e
  rw[←dqt h];exact lls.get g ds d e2
 .unfold Eff
  rw[ig (dqf ho),ig (by omega)]
theorem okO(g:Nat)(hg:g<144)(ho:isO g=true):Pl.cN Phi G Eff T (sl g).length (ob g) (Eff g)∧(∀l p ds z,Eff g l p ds=some z→ds.length+1=(ps g).length)∧∀ds,Phi g ds=none:=by
 obtain⟨h1,h2⟩:=dqt ho
 match g,h1,h2 with
 |67,_,_=>exact⟨by apply aR3<;>rfl,aYh,fun _=>rfl⟩
 |68,_,_=>exact⟨by apply wQ<;>rfl,aEm,fun _=>rfl⟩
 |69,_,_=>exact⟨by apply aVz<;>rfl,aEm,fun _=>rfl⟩
 |70,_,_=>exact⟨by apply bDq<;>rfl,aAd,fun _=>rfl⟩
 |71,_,_=>exact⟨by apply aWg<;>rfl,aEm,fun _=>rfl⟩
 |72,_,_=>exact⟨by apply aNq<;>rfl,aAd,fun _=>rfl⟩
 |73,_,_=>exact⟨by apply bDp<;>rfl,aU5,fun _=>rfl⟩
 |74,_,_=>exact⟨by apply aR8<;>rfl,aAd,fun _=>rfl⟩
 |75,_,_=>exact⟨by apply aIs<;>rfl,aAd,fun _=>rfl⟩
structure FnIn(K:Ad)(x:Str)(st:Stmt)(f:Addr):Prop where
 ns:Fu K mainGlobals x=some (some (.ref f))
 ex:∃(oc:Value)(od:Option Addr)(kV dc pm:Value)(an:Option Addr)(cd ct:Value)(sl:Array (Option Value)),K.lookup f=some ⟨oc,od,.func (Ez x x (mD st) (fS st) (bL st) .none kV dc pm an cd ct),sl⟩∧G2 K cd x=true
 kp:Bl K (.ref f)=true
theorem FnIn.fn{K:Ad}{x:Str}{st:Stmt}{f:Addr}(h:FnIn K x st f):∃fd,Fun K x x st f fd:=by
 obtain⟨oc,od,kV,dc,pm,an,cd,ct,sl,l,c⟩:=h.ex
 exact⟨_,aSx l c h.kp⟩
inductive FL(K:Ad):List Str→List Nat→List Addr→Prop
 |nil:FL K [] [] []
 |cons {x:Str} {n:Nat} {f:Addr} {xs:List Str} {ns:List Nat} {fs:List Addr} (h:FnIn K x (top n) f) (t:FL K xs ns fs):FL K (x::xs) (n::ns) (f::fs)
theorem FL.get{K:Ad}{xs:List Str}{ns:List Nat}{fs:List Addr}(h:FL K xs ns fs):∀{g:Nat}{x:Str},xs[g]?=some x→FnIn K x (top (ns.getD g 0)) (fs.getD g 0):=by
 induction h with
 |nil=>intro g x h;simp at h
 |cons h t ih=>
  intro g x e
  cases g with
  |zero=>simp at e;subst e;exact h
  |succ g=>exact ih (g:=g) (by simpa using e)
structure TupIn(K:Ad)(x:Str)(fs:List Addr):Prop where
 ex:∃(a:Addr)(o:Obj)(its:Array Value)(n:Nat),Fu K mainGlobals x=some (some (.ref a))∧K.lookup a=some o∧o.cls=.type "tuple"∧o.data=.seq its n∧its.toList=fs.map Value.ref
inductive TL(K:Ad)(fs:List Addr):List Str→List (List Nat)→Prop
 |nil:TL K fs [] []
 |cons {x:Str} {gs:List Nat} {xs:List Str} {gss:List (List Nat)} (h:TupIn K x (gs.map fun g=>fs.getD g 0)) (t:TL K fs xs gss):TL K fs (x::xs) (gs::gss)
theorem TL.get{K:Ad}{fs:List Addr}{xs:List Str}{gss:List (List Nat)}(h:TL K fs xs gss):∀{t:Nat}{x:Str},xs[t]?=some x→TupIn K x ((gss.getD t []).map fun g=>fs.getD g 0):=by
 induction h with
 |nil=>intro t x h;simp at h
 |cons h t ih=>
  intro g x e
  cases g with
  |zero=>simp at e;subst e;exact h
  |succ g=>exact ih (t:=g) (by simpa using e)
inductive GL(K:Ad):List Str→List Int→Prop
 |nil:GL K [] []
 |cons {x:Str} {v:Int} {xs:List Str} {vs:List Int} (h:∃tk,Fu K mainGlobals x=some (some (.int v tk))) (t:GL K xs vs):GL K (x::xs) (v::vs)
theorem GL.get{K:Ad}{xs:List Str}{vs:List Int}(h:GL K xs vs):∀{g:Nat}{x:Str}{v:Int},xs[g]?=some x→vs[g]?=some v→∃tk,Fu K mainGlobals x=some (some (.int v tk)):=by
 induction h with
 |nil=>intro g x v h;simp at h
 |cons h t ih=>
  intro g x v e e2
  cases g with
  |zero=>simp at e e2;subst e e2;exact h
  |succ g=>exact ih (g:=g) (by simpa using e) (by simpa using e2)
inductive BLt(K:Ad):List Str→Prop
 |nil:BLt K []
 |cons {x:Str} {xs:List Str} (h:Fu K mainGlobals x=some none) (t:BLt K xs):BLt K (x::xs)
theorem BLt.get{K:Ad}{xs:List Str}(h:BLt K xs):∀x∈xs,Fu K mainGlobals x=some none:=by
 induction h with
 |nil=>intro x h;simp at h
 |cons h t ih=>
  intro x e
  rcases A1.mp e with rfl|e
  .exact h
  .exact ih x e
theorem aDn:∀fs:List Addr,Vals (fs.map V.ref) (fs.map Value.ref)
 |[]=>.nil
 |f::fs=>.cons rfl (aDn fs)
theorem TupIn.tup{K:Ad}{x:Str}{fs:List Addr}{h:Heap}{mg:Str→Option Value}(X:K.In h)(Gg:h.Ns mainGlobals mg)(t:TupIn K x fs)(hl:fs.length≤1000):∃a,mg x=some (.ref a)∧aJs K a (fs.map V.ref):=by
 obtain⟨a,o,its,n,h1,h2,h3,h4,h5⟩:=t.ex
 refine⟨a,En X Gg h1,o,its,n,h2,h3,h4,?_,by rw[h5];exact aDn fs⟩
 have e:its.size=fs.length:=by rw[←C2,h5,Ag]
 rw[e,sizeLine_eq];omega
noncomputable def bDd:Value→Option Int
 |.int z _=>some z
 |_=>none
theorem aDl:∀(ns:List Nat)(us:List Value),us.map bDd=ns.map (fun(n:Nat)=>some (n:Int))→Vals (ns.map fun n=>V.int (n:Nat)) us
 |[],us,h=>by simp at h;subst h;exact .nil
 |n::ns,[],h=>by simp at h
 |n::ns,u::us,h=>by
  simp only[Ai,List.cons.injEq]at h
  refine .cons ?_ (aDl ns us h.2)
  cases u<;>first|(exfalso;cases h.1;done)|skip
  exact⟨_,by rw[A0 h.1]⟩
noncomputable abbrev zn2:List Str:=("counted"::"yes_or_no"::"in_two"::"in_three"::"digits_of"::"cross_sum"::"carry_places"::"carry_count"::"ways_to"::"row_of"::"often_at"::"spared_of"::"left_at"::"avoiding_row"::"ways_avoiding"::"often_in_row"::"divides_whole"::"divides_none"::"choose"::"times"::"rowoften"::"spared"::"whole"::"none"::"most"::"first"::"rows"::"bare"::"middle"::"below"::"just_so_often"::"is_prime"::"primes_up_to"::"often_in"::"prime_parts"::"pair_carries"::"digits"::"cross"::"carries"::"carriedat"::"three"::"divides"::"onemore"::"pairswith"::"mostcarries"::"like"::"fromdigits"::"without"::"places_behind"::"rights_of"::"told_as"::"steps_told"::"number_of"::"steps_numbered"::"told_with_things"::"steps_by_exchanges"::"choice"::"between"::"meet"::"sharing"::"having"::"all_choices"::"rights"::"gray"::"thingsum"::"waysof"::"standing"::"begin"::"change_prime"::"down"::"up"::"turn"::"mirror"::"go"::"go_on"::"go_back"::"product_of"::"often_in_product"::"left_of_product"::"product"::"productoften"::"rest_of"::"leastof"::"noughts"::"span"::"gaps"::"notsquare"::"twice"::"parts"::"jumps"::"divisor_of_two"::"greatest_divisor"::"least_multiple"::"greatest_of"::"isnt_inside"::"three_around"::"others_around"::"multiplied"::"primes_dividing"::"shares_just"::"at"::"greatest"::"least"::"upto"::"shared"::"star"::"starproduct"::"hermite"::"dividing"::"great"::"places"::"even"::"fewest"::"sum_to"::"squares"::"stick"::"ways_here"::"divided_rows"::"here"::"number"::"often"::"left"::"divided"::"avoid"::"clean"::"turnsto"::"together"::"behind"::"best"::"told"::"left_in_row"::"leftat"::"rowleft"::"counts"::"nextplace"::"odd"::"odds"::"joined"::"sumleft"::"turnsleft"::"same"::"by"::"which"::"under"::"answer_of_prime"::"answer_call"::"answers"::[])
noncomputable abbrev zp2:List Nat:=(9::10::11::12::14::15::16::17::19::20::21::22::23::25::24::32::33::34::35::36::37::38::39::40::41::42::43::44::45::46::47::51::52::53::54::59::60::61::62::63::64::65::66::67::68::69::70::71::74::75::76::77::78::79::82::83::84::85::86::87::88::89::90::91::92::93::98::99::100::101::102::103::104::105::106::107::116::117::118::119::120::121::122::123::124::125::126::127::128::129::132::133::134::139::140::141::142::143::144::145::146::147::148::149::150::151::152::153::154::155::156::157::158::159::160::161::164::165::166::167::168::169::170::171::172::173::174::175::176::177::187::188::189::190::191::192::193::194::195::196::197::198::199::200::214::213::212::[])
noncomputable abbrev zt2:List Str:=("BYPRIME"::"CARRIED"::"INORDER"::"MOVES"::"PRODUCTS"::"ROWSDIVIDED"::"VIEWS"::"WHATSLEFT"::[])
noncomputable abbrev zT2:List (List Nat):=([18,19,20,21,22,23,24,25,26,27,28,29,30]::[36,37,38,39,40,41,42,43,44,45,46,47]::[56,57,58,59,60,61,62,63,64,65]::[67,68,69,70,71,72,73,74,75]::[79,80,81,82,83,84,85,86,87,88,89]::[100,101,102,103,104,105,106,107,108,109,110,111,112,113,114,115]::[118,119,120,121,122,123,124,125,126,127,128,129]::[131,132,133,134,135,136,137,138,139,140,141,142,143]::[])
noncomputable abbrev zg2:List Str:=("NO_THING"::"NONE_THERE"::"NOT_BEGUN"::"WRONG"::"FULL"::"NO_SUCH"::"MILLION"::"THOUSAND_MILLIONS"::"TOLD_BOUND_byprime"::"ROW_BOUND_byprime"::"ROWS_BOUND"::"MIDDLE_BOUND"::"FIRST_WITH_OTHERS_byprime"::"PRIME_BOUND"::"LIKE_BOUND"::"LIKE_REACH"::"PAIRS_BOUND"::"EXCHANGE_BOUND"::"MOST_STEPS"::"PRODUCT_BOUND"::"LEAST_BOUND"::"LEAST_REACH"::"SMALL_BOUND"::"BASE_LEAST"::"BASE_BOUND"::"LAST_ROW"::"FIRST_WITH_OTHERS_rowsdivided"::"LEAST_SOUGHT"::"TOLD_BOUND_whatsleft"::"COUNTS_BOUND"::"ROW_BOUND_whatsleft"::"NEXT_BOUND"::"UNDER_BOUND"::"JOINED_BOUND"::"TWO"::"BEGIN"::"FIRST_VIEW"::"FIRST_CARRIED"::"FIRST_PRODUCT"::"FIRST_BYPRIME"::"FIRST_LEFT"::"FIRST_DIVIDED"::"FIRST_ORDERED"::[])
noncomputable abbrev zv2:List Int:=((-2)::(-6)::(-11)::(-22)::(-28)::(-33)::1000000::1000000000::60::200::100::500000::2::100::1000::2000::60::10::24::20::600::700::60::2::100::40::2::2::60::100::200::500::1000::1000::2::0::9::21::33::44::57::70::86::[])
noncomputable abbrev zb2:List Str:=["len","sum","max","min","abs","all","any","list","sorted","range","enumerate","zip","reversed"]
structure Facts(K:Ad)(C fI aA:Addr)(fs:List Addr):Prop where
 fl:FL K zn2 zp2 fs
 tl:TL K fs zt2 zT2
 gl:GL K zg2 zv2
 bl:BLt K zb2
 a_args:Fu K mainGlobals "ARGUMENTS"=some (some (.ref aA))
 l_args:∃(o:Obj)(its:Array Value)(n:Nat),K.lookup aA=some o∧o.cls=.type "tuple"∧o.data=.seq its n∧its.size≤sizeLine∧its.toList.map bDd=ar.map (fun(n:Nat)=>some (n:Int))
 cW:Fu K mainGlobals "Way"=some (some (.ref C))
 cI:Dm K (.ref C) "__init__"=some (some (.ref fI))
 iI:Of K (.ref fI)=true
 lI:∃(oc:Value)(od:Option Addr)(kV dc pm:Value)(an:Option Addr)(cd ct:Value)(sl:Array (Option Value)),K.lookup fI=some ⟨oc,od,.func (Ez "__init__" "Way.__init__" (mD aDe) (fS aDe) (bL aDe) .none kV dc pm an cd ct),sl⟩∧G2 K cd "Way.__init__"=true
 kI:Bl K (.ref fI)=true
 pg:G9 K C Str.empty=true
 hd:Gv K C=true
 po:Ip K C=true
 sa:Dm K (.ref C) "__setattr__"=some (some (.builtin "object.__setattr__"))
 mkC:Jk K C=true
 kc:Bl K (.ref C)=true
 n0:Dm K (.ref C) "steps"=some none
 n1:Dm K (.ref C) "prime"=some none
theorem nxt{A:Nat→Prop}{g:Nat}(h:∀g',g'<g→A g')(a:A g):∀g',g'<g+1→A g':=fun g' hl=>by
 by_cases e:g'=g
 .rw[e];exact a
 .exact h g' (by omega)
section
variable{P:Program}{w:World}{K:Ad}{mg:Str→Option Value}{base:Heap}{C fI aA:Addr}{fs:List Addr}{h:Heap}
structure Upto(P:Program)(w:World)(K:Ad)(mg:Str→Option Value)(base:Heap)(C:Addr)(fs:List Addr)(g:Nat):Prop where
 pu:∀g',g'<g→(∃ds d,Phi g' ds=some d)→∃fd ps,DefOk Phi nm0 P w K mg base g' (fs.getD g' 0) fd ps
 ob:∀g',g'<g→(∃l p ds z,Eff g' l p ds=some z)→∃fd ps,DefOkO Eff nm0 C P w K mg base g' (fs.getD g' 0) fd ps
theorem vF(X:K.In h)(Gg:h.Ns mainGlobals mg)(Fc:Facts K C fI aA fs):Base G nm0 K mg:=by
 refine⟨fun g x d hx hg=>?_,fun x hx=>?_⟩
 .obtain⟨v,hv,rfl⟩:=Ae.mp (show(gv[g]?).map Dat.int=some d from hg)
  obtain⟨tk,hk⟩:=Fc.gl.get hx hv
  exact⟨_,.int v,En X Gg hk,⟨tk,rfl⟩,Rep.int⟩
 .exact Kx X Gg (Fc.bl.get x hx)
theorem stp{g:Nat}(hg:g<144)(X:K.In h)(Gg:h.Ns mainGlobals mg)(hC:ClsOk K C)(Fc:Facts K C fI aA fs)(U:Upto P w K mg base C fs g):Upto P w K mg base C fs (g+1):=by
 have Bs:=vF X Gg Fc
 obtain⟨x,hx⟩:∃x,nm0.defs[g]?=some x:=⟨_,Bf (show g<146+1 by omega)⟩
 have Fi:=Fc.fl.get hx
 obtain⟨fd,Fn⟩:=Fi.fn
 have mgf:∀y,nm0.defs[g]?=some y→mg y=some (.ref (fs.getD g 0)):=fun y hy=>by
  rw[hx]at hy;cases hy;exact En X Gg Fi.ns
 have hb:Binds K fd (ps g) []:=Fn.binds (ps:=ps g) fun kV dc pm an cd ct us hl=>bd g (by omega) x kV dc pm an cd ct us hl
 have c:=Bc.mp ck g (Ak.mpr hg)
 have f:=Bc.mp fk g (Ak.mpr (by omega))
 cases ho:isO g with
 |false=>
  have p1:=okP g (by omega) ho
  obtain⟨p2,p3⟩:=okQ g (by omega) ho
  rw[ho]at c
  have d:DefOk Phi nm0 P w K mg base g (fs.getD g 0) fd (ps g):=aSn (n:=(sl g).length) (N:=sl g) Bs (fun g' h e=>let ⟨fd,ps,d⟩:=U.pu g' h e;⟨_,fd,ps,d⟩) mgf Fn f hb c (fun t y h=>by simp[nm0]at h) rfl p2 p1
  exact⟨nxt U.pu fun _=>⟨_,_,d⟩,nxt U.ob fun⟨l,p,ds,y,h⟩=>by rw[p3]at h;cases h⟩
 |true=>
  obtain⟨p1,p2,p3⟩:=okO g hg ho
  rw[ho]at c
  have d:DefOkO Eff nm0 C P w K mg base g (fs.getD g 0) fd (ps g):=aNc (n:=(sl g).length) (N:=sl g) (T:=T) (tb:=tb0) Bs hC rfl (fun g' h e=>let ⟨fd,ps,d⟩:=U.pu g' h e;⟨_,fd,ps,d⟩) (fun g' h e=>let ⟨fd,ps,d⟩:=U.ob g' h e;⟨_,fd,ps,d⟩) (fun t y h=>by simp[tb0]at h) (fun t y h=>by simp[nm0]at h) mgf Fn f hb c rfl p2 p1
  exact⟨nxt U.pu (fun⟨ds,y,h⟩=>(by rw[p3]at h;cases h)),nxt U.ob fun _=>⟨_,_,d⟩⟩
theorem upt(X:K.In h)(Gg:h.Ns mainGlobals mg)(hC:ClsOk K C)(Fc:Facts K C fI aA fs):∀g,g≤144→Upto P w K mg base C fs g
 |0,_=>⟨fun g h=>absurd h (by omega),fun g h=>absurd h (by omega)⟩
 |g+1,hg=>stp (by omega) X Gg hC Fc (upt X Gg hC Fc g (by omega))
theorem tin(X:K.In h)(Gg:h.Ns mainGlobals mg)(Fc:Facts K C fI aA fs){t:Nat}{x:Str}(hx:(["BYPRIME","CARRIED","INORDER","MOVES","PRODUCTS","ROWSDIVIDED","VIEWS","WHATSLEFT"]:List Str)[t]?=some x):∃a,mg x=some (.ref a)∧aJs K a (((T t).map fun g=>fs.getD g 0).map V.ref):=by
 refine(Fc.tl.get hx).tup X Gg ?_
 have h8:∀t,(Tl.getD t []).length≤1000:=by
  intro t
  by_cases h:t<8
  .have:∀t,t<8→(Tl.getD t []).length≤1000:=by decide +kernel
   exact this t h
  .rw[B4,Dh (show Tl.length≤t from(by show 8≤t;omega))];exact E4 _
 rw[Ag];exact h8 t
theorem Tlt:∀t,∀g∈T t,g<144:=by
 intro t
 by_cases h:t<8
 .have:∀t,t<8→(T t).all (fun g=>decide (g<144))=true:=by decide +kernel
  intro g hg
  exact dqt (Bc.mp (this t h) g hg)
 .intro g hg
  have e:T t=[]:=by unfold T;rw[B4,Dh (show Tl.length≤t from(by show 8≤t;omega))];rfl
  rw[e]at hg;cases hg
theorem bHd(X:K.In h)(Gg:h.Ns mainGlobals mg)(Fc:Facts K C fI aA fs){k:Nat}(hk:144≤k)(U:Upto P w K mg base C fs k){t:Nat}{x:Str}(hx:(["BYPRIME","CARRIED","INORDER","MOVES","PRODUCTS","ROWSDIVIDED","VIEWS","WHATSLEFT"]:List Str)[t]?=some x):aXu Phi Eff nm0 C P w K mg base k x (T t):=by
 obtain⟨a,h1,h2⟩:=tin X Gg Fc hx
 refine⟨a,_,h1,h2,by rw[Ag],fun j f g hf hg=>?_⟩
 have e:f=fs.getD g 0:=by rw[Bb,hg]at hf;exact(A0 hf).symm
 subst e
 have lt:=Tlt t g (Du hg)
 refine⟨fun hx=>?_,fun hx=>?_⟩
 .obtain⟨fd,ps,D⟩:=U.pu g (by omega) hx
  exact⟨fd,ps,D.ok.mono (by omega),D.kp,D.bi,D.ar⟩
 .obtain⟨fd,ps,D⟩:=U.ob g (by omega) hx
  exact⟨fd,ps,D.ok.mono (by omega),D.kp,D.bi,D.ar⟩
theorem bHc(t:Nat)(z:Dat)(ds:List Dat)(d:Dat)(h:Phi (1000+t) (z::ds)=some d)(ht:t<8):∃(i:Int)(j g:Nat),z=.int i∧Pl.qE (T t).length i=some j∧(T t)[j]?=some g∧Phi g ds=some d:=by
 match t,ht with
 |0,_=>exact aFz z ds d h
 |1,_=>exact aG0 z ds d h
 |2,_=>exact nomatch (show(none:Option Dat)=some d from h)
 |3,_=>exact nomatch (show(none:Option Dat)=some d from h)
 |4,_=>exact aDh z ds d h
 |5,_=>exact nomatch (show(none:Option Dat)=some d from h)
 |6,_=>exact nomatch (show(none:Option Dat)=some d from h)
 |7,_=>exact aBz z ds d h
 |t+8,h=>exact absurd h (by omega)
theorem bHb(X:K.In h)(Gg:h.Ns mainGlobals mg)(Fc:Facts K C fI aA fs){k:Nat}(hk:144≤k)(U:Upto P w K mg base C fs k){t:Nat}{x:Str}(hx:(["BYPRIME","CARRIED","INORDER","MOVES","PRODUCTS","ROWSDIVIDED","VIEWS","WHATSLEFT"]:List Str)[t]?=some x):bC4 Phi nm1 P w K mg base k x t:=by
 obtain⟨a,h1,h2⟩:=tin X Gg Fc hx
 refine⟨a,_,h1,h2,fun z ds d hd=>?_⟩
 obtain⟨i,j,g,hz,hi,hg,hF⟩:=bHc t z ds d hd (As.mp hx).1
 have lt:=Tlt t g (Du hg)
 obtain⟨fd,ps,D⟩:=U.pu g (by omega) ⟨ds,d,hF⟩
 exact⟨i,j,fs.getD g 0,fd,ps,Phi g,hz,by rw[Ag];exact hi,by rw[Bb,hg];rfl,D.ok.mono (by omega),hF,D.ar ds d hF,D.kp,D.bi⟩
theorem aTn{fb:Addr}(X:K.In h)(Gg:h.Ns mainGlobals mg)(hfa:mg "answers"=some (.ref fb))(Fc:Facts K C fI aA fs) :
  ∃fd:FuncData,(∀(s:Shared)(us:List Value),us.length=(["calls"]:List Str).length→BindsTo s fd ⟨us,[]⟩ ((["calls"]:List Str).zip us))∧∀base:Heap,K.In base→base.Ns mainGlobals mg→FnOk P w K mg base CX0 (145+3) fb fd ["calls"] (aX8 K (Eff 145) ar):=by
 have hC:ClsOk K C:=⟨⟨Fc.pg,Fc.hd,Fc.po,Fc.sa⟩,Fc.n0,Fc.n1⟩
 have Fa:=Fc.fl.get (g:=146) (x:="answers") rfl
 have ef:=En X Gg Fa.ns
 rw[hfa]at ef
 have ef:fb=fs.getD 146 0:=by injection ef with e;injection e
 subst ef
 obtain⟨fd,Fn⟩:=Fa.fn
 obtain⟨oc,od,kV,dc,pm,an,cd,ct,sl',lI,cdI⟩:=Fc.lI
 have FI:=aSx (st:=aDe) lI cdI Fc.kI
 have bI:=FI.binds (ps:=["self"]) fun _ _ _ _ _ _ us hl=>match us,hl with|[_],_=>rfl
 refine⟨fd,fun s us hu=>?_,fun base hK hG=>?_⟩
 .obtain⟨oc,od,kV,doc,pm,an,cdv,ct,osl,rfl,lk,hcd⟩:=Fn.ex
  exact match us,hu with|[_],_=>.of_eq rfl
 have Bs:=vF X Gg Fc
 have U:Upto P w K mg base C fs 144:=upt X Gg hC Fc 144 (An _)
 have F1:=Fc.fl.get (g:=144) (x:="answer_of_prime") rfl
 obtain⟨fd1,Fn1⟩:=F1.fn
 have mg1:∀y,nm0.defs[144]?=some y→mg y=some (.ref (fs.getD 144 0)):=fun y hy=>by
  cases hy;exact En X Gg F1.ns
 have hb1:Binds K fd1 (ps 144) []:=Fn1.binds (ps:=ps 144) fun kV dc pm an cd ct us hl=>bd 144 (by omega) _ kV dc pm an cd ct us hl
 have p1:=okP 144 (by omega) (by decide)
 obtain⟨p2,p3⟩:=okQ 144 (by omega) (by decide)
 have Bs1:Base G nm1 K mg:=⟨Bs.gls,Bs.blt⟩
 have d1:DefOk Phi nm1 P w K mg base 144 (fs.getD 144 0) fd1 (ps 144):=aSn (n:=(sl 144).length) (N:=sl 144) Bs1 (fun g hg hx=>let ⟨fd,ps,d⟩:=U.pu g hg hx;⟨_,fd,ps,d.ok,d.mg,d.kp,d.bi,d.ar⟩) mg1 Fn1 (Bc.mp fk 144 (Ak.mpr (by omega))) hb1 ck1 (fun t y hy=>bHb X Gg Fc (An _) U hy) rfl p2 p1
 have d1':DefOk Phi nm0 P w K mg base 144 (fs.getD 144 0) fd1 (ps 144):=⟨d1.ok,d1.mg,d1.kp,d1.bi,d1.ar⟩
 have U1:Upto P w K mg base C fs 145:=⟨nxt U.pu fun _=>⟨_,_,d1'⟩,nxt U.ob fun⟨l,p,ds,y,h⟩=>by rw[p3]at h;cases h⟩
 have F2:=Fc.fl.get (g:=145) (x:="answer_call") rfl
 obtain⟨fd2,Fn2⟩:=F2.fn
 have mg2:∀y,nm0.defs[145]?=some y→mg y=some (.ref (fs.getD 145 0)):=fun y hy=>by
  cases hy;exact En X Gg F2.ns
 have hb2:Binds K fd2 (ps 145) []:=Fn2.binds (ps:=ps 145) fun kV dc pm an cd ct us hl=>bd 145 (by omega) _ kV dc pm an cd ct us hl
 have DC:DefOkO Eff nm0 C P w K mg base 145 (fs.getD 145 0) fd2 (ps 145):=aNc (n:=(sl 145).length) (N:=sl 145) (T:=T) (tb:=tb) Bs hC rfl (fun g' h e=>let ⟨fd,ps,d⟩:=U1.pu g' h e;⟨_,fd,ps,d⟩) (fun g' h e=>let ⟨fd,ps,d⟩:=U1.ob g' h e;⟨_,fd,ps,d⟩) (fun t y hy=>bHd X Gg Fc (by omega) U1 hy) (fun t y h=>by simp[nm0]at h) mg2 Fn2 (Bc.mp fk 145 (Ak.mpr (by omega))) hb2 ck2 rfl tK xV
 obtain⟨o,its,n,k1,k2,k3,k4,k5⟩:=Fc.l_args
 exact bA7 (k:=145) Fn hC ⟨Fc.mkC,Fc.cI,Fc.iI,Fc.kc⟩ FI bI (DC.ok.mono (by omega)) DC.bi DC.kp (En X Gg F2.ns) (En X Gg Fc.cW) (En X Gg Fc.a_args) ⟨o,its,n,k1,k2,k3,k4,aDl _ _ k5⟩ (Kx X Gg (Fc.bl.get "len" (by decide +kernel)))
end
end Px
set_option maxRecDepth 100000
noncomputable section
namespace Px
open PySem PySem.W L2 L2.Sd
noncomputable def Kf (P:Params):Frag:=(List.range 1016).map fun a=>(a,((sh.tree_1049 P).get a).getD default)
theorem aSz{g:Nat→Obj}:∀{l:List Nat}{a:Nat}{o:Obj},(l.map fun a=>(a,g a)).lookup a=some o→a∈l∧o=g a
 |[],_,_,e=>by cases e
 |b::l,a,o,e=>by
  rw[List.map_cons,List.lookup_cons]at e
  split at e
  .rename_i h;cases e;rw[beq_iff_eq.mp h];exact⟨List.mem_cons_self,rfl⟩
  .obtain⟨h1,h2⟩:=aSz e;exact⟨List.mem_cons_of_mem _ h1,h2⟩
def alive(o:Obj):Bool:=match o.data with
 |.freed=>false
 |_=>true
theorem aK2{o:Obj}(h:alive o=true):(match some o with
 |some ⟨_,_,.freed,_⟩=>none
 |o=>o)=some o:=by
 obtain⟨a,b,d,c⟩:=o
 cases d<;>first|rfl|cases h
theorem aK3(P:Params):((List.range 1016).all fun a=>alive (((sh.tree_1049 P).get a).getD default))=true:=by kernel_rfl
theorem bDe{P:Params}{h:Heap}(Y:∀b o,(Hd.H1 P).get? b=some o→h.get? b=some o):(Kf P).In h:=by
 intro a o e
 obtain⟨h1,rfl⟩:=aSz e
 refine Y _ _ ?_
 have:=absHeap_at (sh.tree_1049 P) 1016 {} a
 rw[ip (List.mem_range.mp h1)]at this
 unfold Heap.get?
 rw[this]
 exact aK2 (List.all_eq_true.mp (aK3 P) a h1)
def fsN:List Addr:=[21,28,35,42,49,56,63,70,77,82,89,96,103,117,110,122,129,136,143,150,157,164,171,178,185,192,197,202,209,214,221,227,232,239,244,249,256,263,270,277,284,291,298,303,310,317,324,331,339,344,351,358,365,372,379,386,393,400,405,412,419,426,433,440,447,452,481,488,495,502,509,516,521,528,535,542,550,557,564,571,578,585,592,597,604,609,614,619,626,633,641,648,655,662,669,676,683,690,695,700,707,714,721,728,735,742,749,756,763,770,777,782,789,796,801,806,814,819,826,833,840,847,854,861,868,873,878,885,892,899,905,912,919,924,931,938,945,952,959,966,973,980,985,992,1015,1008,1001]
def obF(K:Frag)(x y:Str)(st:Stmt)(f:Addr):Option Obj:=match K.lookup f with
 |some ⟨c,d,.func fd,sl⟩=>some ⟨c,d,.func (fnOf x y (mD st) (fS st) (bL st) .none fd.kwdefaults fd.doc fd.pyModule fd.annotations fd.code fd.closureTuple),sl⟩
 |_=>none
def cdF(K:Frag)(y:Str)(f:Addr):Bool:=match K.lookup f with
 |some ⟨_,_,.func fd,_⟩=>codeIn K fd.code y&&keepIn K (.ref f)
 |_=>false
theorem aYt{K:Frag}{x y:Str}{st:Stmt}{f:Addr}(h:K.lookup f=obF K x y st f)(c:cdF K y f=true):(∃(oc:Value)(od:Option Addr)(kV dc pm:Value)(an:Option Addr)(cd ct:Value)(sl:Array (Option Value)),K.lookup f=some ⟨oc,od,.func (fnOf x y (mD st) (fS st) (bL st) .none kV dc pm an cd ct),sl⟩∧codeIn K cd y=true)∧keepIn K (.ref f)=true:=by
 unfold obF at h;unfold cdF at c
 split at h
 .rename_i e
  rw[e]at c
  obtain⟨c1,c2⟩:=Bool.and_eq_true_iff.mp c
  exact⟨⟨_,_,_,_,_,_,_,_,_,by first|exact h|exact e.trans h,c1⟩,c2⟩
 .rename_i e
  split at c
  .rename_i e2;exact absurd e2 (e _ _ _ _)
  .cases c
theorem FL.of{K:Frag}{xs:List Str}{ns:List Nat}{fs:List Addr}(h1:xs.map (nsIn K mainGlobals)=fs.map fun f=>some (some (.ref f)))
  (h2:(xs.zip (ns.zip fs)).map (fun z=>K.lookup z.2.2)=(xs.zip (ns.zip fs)).map fun z=>obF K z.1 z.1 (top z.2.1) z.2.2) (h3:((xs.zip fs).all fun z=>cdF K z.1 z.2)=true) (h4:xs.length=ns.length):FL K xs ns fs:=by
 induction xs generalizing ns fs with
 |nil=>
  cases ns with
  |nil=>
   cases fs with
   |nil=>exact .nil
   |cons=>cases h1
  |cons=>cases h4
 |cons x xs ih=>
  cases ns with
  |nil=>cases h4
  |cons n ns=>
   cases fs with
   |nil=>cases h1
   |cons f fs=>
    obtain⟨a1,a2⟩:=List.cons.inj h1
    obtain⟨b1,b2⟩:=List.cons.inj h2
    obtain⟨c1,c2⟩:=Bool.and_eq_true_iff.mp h3
    obtain⟨e1,e2⟩:=aYt b1 c1
    exact .cons ⟨a1,e1,e2⟩ (ih a2 b2 c2 (Nat.succ.inj h4))
def aXp(K:Frag)(a:Addr):Option (Value×List Value):=match K.lookup a with
 |some ⟨c,_,.seq its _,_⟩=>some (c,its.toList)
 |_=>none
theorem aTe{K:Frag}{a:Addr}{c:Value}{l:List Value}(h:aXp K a=some (c,l)):∃(o:Obj)(its:Array Value)(n:Nat),K.lookup a=some o∧o.cls=c∧o.data=.seq its n∧its.toList=l:=by
 unfold aXp at h
 split at h
 .rename_i e;cases h;exact⟨_,_,_,e,rfl,rfl,rfl⟩
 .cases h
theorem TL.of{K:Frag}{fs:List Addr}{xs:List Str}{gss:List (List Nat)}{as:List Addr}(h1:xs.map (nsIn K mainGlobals)=as.map fun f=>some (some (.ref f)))
  (h2:as.map (aXp K)=gss.map fun gs=>some (.type "tuple",(gs.map fun g=>fs.getD g 0).map .ref)):TL K fs xs gss:=by
 induction xs generalizing gss as with
 |nil=>
  cases as with
  |nil=>
   cases gss with
   |nil=>exact .nil
   |cons=>cases h2
  |cons=>cases h1
 |cons x xs ih=>
  cases as with
  |nil=>cases h1
  |cons a as=>
   cases gss with
   |nil=>cases h2
   |cons gs gss=>
    obtain⟨a1,a2⟩:=List.cons.inj h1
    obtain⟨b1,b2⟩:=List.cons.inj h2
    obtain⟨o,its,n,l1,l2,l3,l4⟩:=aTe b1
    exact .cons ⟨⟨a,o,its,n,a1,l1,l2,l3,l4⟩⟩ (ih a2 b2)
def bCe(o:Option (Option Value)):Option Int:=match o with
 |some (some (.int v _))=>some v
 |_=>none
theorem GL.of{K:Frag}{xs:List Str}{vs:List Int}(h:xs.map (fun x=>bCe (nsIn K mainGlobals x))=vs.map some):GL K xs vs:=by
 induction xs generalizing vs with
 |nil=>
  cases vs with
  |nil=>exact .nil
  |cons=>cases h
 |cons x xs ih=>
  cases vs with
  |nil=>cases h
  |cons v vs=>
   obtain⟨a1,a2⟩:=List.cons.inj h
   refine .cons ?_ (ih a2)
   have a1:bCe (nsIn K mainGlobals x)=some v:=a1
   unfold bCe at a1
   split at a1
   .rename_i e;cases a1;exact⟨_,e⟩
   .cases a1
theorem BLt.of{K:Frag}{xs:List Str}(h:xs.map (nsIn K mainGlobals)=xs.map fun _=>some none):BLt K xs:=by
 induction xs with
 |nil=>exact .nil
 |cons x xs ih=>exact .cons (List.cons.inj h).1 (ih (List.cons.inj h).2)
theorem kf1(P:Params):zn2.map (nsIn (Kf P) mainGlobals)=fsN.map fun f=>some (some (.ref f)):=by kernel_rfl
theorem kf2(P:Params):(zn2.zip (zp2.zip fsN)).map (fun z=>(Kf P).lookup z.2.2)=(zn2.zip (zp2.zip fsN)).map fun z=>obF (Kf P) z.1 z.1 (top z.2.1) z.2.2:=by kernel_rfl
theorem kf3(P:Params):((zn2.zip fsN).all fun z=>cdF (Kf P) z.1 z.2)=true:=by kernel_rfl
abbrev tsN:List Addr:=[222,332,453,543,634,807,900,993]
theorem kf4(P:Params):zt2.map (nsIn (Kf P) mainGlobals)=tsN.map fun f=>some (some (.ref f)):=by kernel_rfl
theorem kf5(P:Params):tsN.map (aXp (Kf P))=zT2.map fun gs=>some (.type "tuple",(gs.map fun g=>fsN.getD g 0).map .ref):=by kernel_rfl
theorem kf6(P:Params):zg2.map (fun x=>bCe (nsIn (Kf P) mainGlobals x))=zv2.map some:=by kernel_rfl
theorem kf7(P:Params):zb2.map (nsIn (Kf P) mainGlobals)=zb2.map fun _=>some none:=by kernel_rfl
theorem kf8(P:Params):(aXp (Kf P) 994).map (fun z=>(z.1,z.2.map bDd))=some (.type "tuple",ar.map fun(n:Nat)=>some (n:Int)):=by kernel_rfl
theorem kf9(P:Params):(Kf P).lookup 467=obF (Kf P) "__init__" "Way.__init__" aDe 467:=by kernel_rfl
theorem bG7(P:Params):cdF (Kf P) "Way.__init__" 467=true:=by kernel_rfl
theorem facts(P:Params):Facts (Kf P) 470 467 994 fsN:=by
 have l:=aYt (kf9 P) (bG7 P)
 have e:=kf8 P
 cases h:aXp (Kf P) 994 with
 |none=>rw[h]at e;cases e
 |some z=>
  rw[h]at e
  obtain⟨e1,e2⟩:=Prod.mk.inj (Option.some.inj e)
  obtain⟨o,its,n,l1,l2,l3,l4⟩:=aTe h
  refine⟨FL.of (kf1 P) (kf2 P) (kf3 P) rfl,TL.of (kf4 P) (kf5 P),GL.of (kf6 P),BLt.of (kf7 P),by kernel_rfl,⟨o,its,n,l1,l2.trans e1,l3,?_,by rw[l4];exact e2⟩,by kernel_rfl,by kernel_rfl,by kernel_rfl,l.1,l.2,by kernel_rfl,by kernel_rfl,by kernel_rfl,by kernel_rfl,by kernel_rfl,by kernel_rfl,by kernel_rfl,by kernel_rfl⟩
  have:=congrArg List.length e2
  rw[List.length_map,List.length_map,←l4,Array.length_toList]at this
  rw[this]
  decide
end Px
end
namespace Px
open PySem L2 L2.Sd
open Pl (Dat)
theorem aDd{K:PySem.W.Frag}{fl:List Str}{H:Hp}{S:Rg}:∀{ms:List Int}{us:List V},Reps K fl H S (ms.map Dat.int) us→us=ms.map V.int
 |[],us,r=>by simpa only[List.map_nil,Reps]using r
 |x::ms,us,r=>by
  simp only[List.map_cons,Reps]at r
  obtain⟨v,r',e,a,b⟩:=r
  rw[e,aDd b,a.toInt]
  rfl
end Px
open PySem PySem.W PyProof.Rows
set_option maxRecDepth 100000 in
set_option maxHeartbeats 0 in
theorem PySem.Challenge.cw_choicetriangle_s01_answers_holds : PySem.Challenge.rw_choicetriangle_s01_answers.Holds := by
 refine holds_os (q:=Hd.q) (loose:=Hd.lo) (Xt:=Hd.Xt) (XP:=fun _ _=>True) (YP:=Hd.YP) (N:=11300) Hd.left (fun w s e b o h=>by rw[show s.heap=Hd.H1 w.params from e];exact h) (fun w h h' y k b o x=>k b o (y b o x)) (fun _ _=>trivial) (fun _ _ _ _ _=>trivial) (by rfl) (by rfl) (by rfl) (fun s e=>recFacts_of e) os_shapes Hd.w1 Hd.w2 Hd.w3 Hd.w4 ?_
 refine L2.aJp (r:=PySem.Challenge.rw_choicetriangle_s01_answers) (k:=145+3) (K:=Px.Kf) (CX:=L2.CX0) (ps:=["calls"]) (sp:=fun K=>L2.Sd.aX8 K (Px.Eff 145) Px.ar) Hd.w1 rfl rfl ⟨rfl,by decide,by decide⟩ (fun w h Y=>Px.bDe Y) ?F ?S (fun _ _ _ _ z=>z)
 case F=>
  intro w mg fa h Y KX G hmg
  exact Px.aTn KX G hmg (Px.facts w.params)
 case S=>
  intro K H xs a hO hwi hask hx
  cases hx with
  |cons h1 h2=>
   cases h2
   cases h1 with
   |lst hs ha=>
    have e:=L2.aM5 a.1 _ ha
    subst e
    obtain⟨fu,hw⟩:=Px.whole a.1 hask
    exact⟨_,a.1,_,fu,rfl,hs,hw,fun H' p us hp r=>.lst (L2.SqL.of hp) (by rw[Px.aDd r];exact L2.aLi _)⟩
