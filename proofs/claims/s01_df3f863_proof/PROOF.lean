import PyProof.Rows.All
import Wide.All
import OpenK.AllK
import Wide.FinOn
import PyProof.EqAt
import PyProof.EqKinds
import PyProof.TupleCall
import KE.BitLaws
import PySem.SetTable
import PyProof.Rows.SetFrom
import PyProof.TupleKey
import PyProof.IsRules
import PyProof.ListRange
import PyProof.CollectIter
import PyProof.DictWalks
import PyProof.Rows.SortShellAny
import KE.KRevIter
import KE.KSortTupG
import KE.KDictOf
import PyProof.Rows.Range3
import Open.SpecLaws
import KE.OsHead
import KE.OsGo
import PySem.Challenge.RW_standtable_s01_answers
set_option Elab.async false
set_option linter.all false
set_option maxRecDepth 100000
set_option maxHeartbeats 4000000
set_option hygiene false
section
set_option compiler.extract_closed false
local macro_rules|`(00)=>`(⟨rfl,rfl,rfl,by decide+kernel,rfl,by decide+kernel,by decide+kernel⟩)
local macro_rules|`(01)=>`(hr.mono 0010)
local macro_rules|`(02)=>`(λf cdv B outer s H vs Q E hr h Xg gx=>?_)
local macro_rules|`(03)=>`(by omega)
local macro_rules|`(04)=>`(aq (K:=K) rfl 0094 rfl)
local macro_rules|`(05)=>`(PySem.W.Frag)
local macro_rules|`(06)=>`(λf cdv B outer s H t r a L T' ns i i1 j xs rs Q E hr c0 hn hw ga e Xg gx=>?_)
local macro_rules|`(07)=>`(by decide+kernel)
local macro_rules|`(08)=>`(s.heap.objs.size)
local macro_rules|`(09)=>`(Value->Shared->Prop)
local macro_rules|`(000)=>`(bx P w K mg base)
local macro_rules|`(001)=>`(Or.inl rfl)
local macro_rules|`(002)=>`(Inv X pins σ H s)
local macro_rules|`(003)=>`(List (Addr×Obj))
local macro_rules|`(004)=>`(model X.prog X.w)
local macro_rules|`(005)=>`(Str->Option Value)
local macro_rules|`(006)=>`(Txt K mg A)
local macro_rules|`(007)=>`(List Value)
local macro_rules|`(008)=>`(model prog w)
local macro_rules|`(009)=>`(xs.length)
local macro_rules|`(010)=>`(by intro z;cases z)
local macro_rules|`(011)=>`(intKind prog w)
local macro_rules|`(012)=>`(TabAt K A H t L T)
local macro_rules|`(013)=>`(∀(i:Nat) (x y:V) (H:Hp) (Q:VK),xs[i]? =some x->ys[i]? =some y->au H1 H->(∀H',au H H'->Q y H')->te 0015 H Q)
local macro_rules|`(014)=>`(pv 1)
local macro_rules|`(015)=>`(List Nat)
local macro_rules|`(016)=>`(List Addr)
local macro_rules|`(017)=>`(by simp)
local macro_rules|`(018)=>`(bc "next_number" (.int 1) (bc "rows" (.ref d) fs))
local macro_rules|`(019)=>`(λ_ _=>rfl)
local macro_rules|`(020)=>`(Nat×Standbook.Row)
local macro_rules|`(021)=>`(upd H4 D (.lst (acc++[y])))
local macro_rules|`(022)=>`(bY (K:=K) rfl)
local macro_rules|`(023)=>`((∀H',Nx H'->∃m',m'<m/\W (i+1) m' H'))
local macro_rules|`(024)=>`(gy P w K mg base)
local macro_rules|`(025)=>`(List Int)
local macro_rules|`(026)=>`(T'.spec cu.order)
local macro_rules|`(027)=>`(Program)
local macro_rules|`(028)=>`((∃m,W 0 m (upd H1 D 0035)))
local macro_rules|`(029)=>`(.dK kvs)
local macro_rules|`(030)=>`(λh=>absurd h 0010)
local macro_rules|`(031)=>`(List (Key×V))
local macro_rules|`(032)=>`(List UInt8)
local macro_rules|`(033)=>`(List (Order×Bool))
local macro_rules|`(034)=>`(pv 2)
local macro_rules|`(035)=>`(X.kD s H scope (compEnvC scope cl C X.env) fp)
local macro_rules|`(036)=>`(s1.heap.objs.size)
local macro_rules|`(037)=>`((false,eval e X.env))
local macro_rules|`(038)=>`(its.toArray.size)
local macro_rules|`(039)=>`(x==("__debug__":Str))
local macro_rules|`(040)=>`(aa 0094 ab)
local macro_rules|`(041)=>`(cellsFrom (s3.heap.objs.size+1) scope.names (dB X.env.cells scope.names []))
local macro_rules|`(042)=>`(au.refl _)
local macro_rules|`(043)=>`(bJ (K:=K) rfl)
local macro_rules|`(044)=>`(os.flatMap orderBytes++rest)
local macro_rules|`(045)=>`(⟨λ_ H'=>Q .bS H',Q,λ_ _=>False,λ_ _=>False⟩)
local macro_rules|`(046)=>`(.ref a)
local macro_rules|`(047)=>`(t.place.toList)
local macro_rules|`(048)=>`(List (Str×Addr))
local macro_rules|`(049)=>`(Table)
local macro_rules|`(050)=>`(.ListComp elt [⟨tg,iter,ifs,0⟩] scope pos)
local macro_rules|`(051)=>`(.dK (putK kvs (Sum.inl ((Standbook.fromLow ((c.drop (36*i)).take 4):Nat):Int)) (.ref tu)))
local macro_rules|`(052)=>`(λb hb=>?_)
local macro_rules|`(053)=>`(gv X.prog X.w X.K X.mg X.base CX k f fd ps sp)
local macro_rules|`(054)=>`(show false=true from hs)
local macro_rules|`(055)=>`(mc (bD 0010 0010 hr0).2 (mc (bD 0010 0010 hr1).2 m0))
local macro_rules|`(056)=>`(mc (bD 0010 0010 hr0).1 (mc (bD 0010 0010 hr1).1 m0))
local macro_rules|`(057)=>`(mc (bD 0010 0010 hr0).2 m0)
local macro_rules|`(058)=>`(mc (bD 0010 0010 hr0).1 m0)
local macro_rules|`(059)=>`(show false=true from p)
local macro_rules|`(060)=>`(.ins A.cC dxc (fC (cu.order:Nat) cu.follows pb))
local macro_rules|`(061)=>`(Around)
local macro_rules|`(062)=>`(X.A.units+64<cLine)
local macro_rules|`(063)=>`(T.spec k)
local macro_rules|`(064)=>`(List (Str×V))
local macro_rules|`(065)=>`(.lst (ms.map λx=>V.ref x.1))
local macro_rules|`(066)=>`(World)
local macro_rules|`(067)=>`(λ_ _ _ _ _=>eJ)
local macro_rules|`(068)=>`(Standbook.isRow row=true)
local macro_rules|`(069)=>`(starEach es X.env)
local macro_rules|`(070)=>`(⟨rfl,I.turned (t':=s.toks) (λb o hb e=>eb b o hb e) f0 f1 f3 f4 f5⟩)
local macro_rules|`(071)=>`(aaw.mpr ⟨y,sub.mem hy,rfl⟩)
local macro_rules|`(072)=>`(pv 3)
local macro_rules|`(073)=>`(af (ai (aD T.eI rfl)))
local macro_rules|`(074)=>`(⟨λ_=>⟨0018,0018⟩,λ_=>rfl⟩)
local macro_rules|`(075)=>`(⟨by decide,by decide⟩)
local macro_rules|`(076)=>`(List α)
local macro_rules|`(077)=>`(aL _)
local macro_rules|`(078)=>`(.lst ((List.range (ns.length / 3)).map λ(i:Nat)=>V.int (3*i:Nat)))
local macro_rules|`(079)=>`(t.orders.length)
local macro_rules|`(080)=>`((∀σ' H',N σ' H'->∃m',m'<m/\W (i+1) m' σ' H'))
local macro_rules|`(081)=>`(.ref f)
local macro_rules|`(082)=>`(he pins s σ H _ I h)
local macro_rules|`(083)=>`(vs.toArray)
local macro_rules|`(084)=>`(.ins A.cT dx (fT d' (m.next:Nat) L.ol L.cd L.ml (m.changes:Nat)))
local macro_rules|`(085)=>`(.Call (.Name x p) 0067 [] pos)
local macro_rules|`(086)=>`(.lst (nV (List.replicate (32-8*(Standbook.keys o a).length) 0)))
local macro_rules|`(087)=>`(List Str)
local macro_rules|`(088)=>`(Nat×Row)
local macro_rules|`(089)=>`(H a=some (.ins C dx fs))
local macro_rules|`(090)=>`(vs.length)
local macro_rules|`(091)=>`(by rw[q];exact aau)
local macro_rules|`(092)=>`(backToKw pos (keywordEach [] X.env))
local macro_rules|`(093)=>`(t.spec k)
local macro_rules|`(094)=>`(.inl rfl)
local macro_rules|`(095)=>`(Array Value)
local macro_rules|`(096)=>`(⟨nx,rt,bk,ct⟩)
local macro_rules|`(097)=>`(aay _)
local macro_rules|`(098)=>`(.lst ((rows.map λx=>(x.1:Int)).map V.int))
local macro_rules|`(099)=>`(X.env.locals)
local macro_rules|`(0000)=>`(λH' L' ht' fr'=>?_)
local macro_rules|`(0001)=>`(V->List V->Hp->VK->Prop)
local macro_rules|`(0002)=>`(by show 6<1000;decide)
local macro_rules|`(0003)=>`(af (ai (aD T.du rfl)))
local macro_rules|`(0004)=>`(λx=>V.ref x.1)
local macro_rules|`(0005)=>`(Standbook.rowIn ((c.drop (36*i)).drop 4))
local macro_rules|`(0006)=>`(Sum.inl (n:Int))
local macro_rules|`(0007)=>`(⟨_,aaD _ rfl,rfl,rfl⟩)
local macro_rules|`(0008)=>`(List (κ×V))
local macro_rules|`(0009)=>`(X.calm=true)
local macro_rules|`(0010)=>`(by decide)
local macro_rules|`(0011)=>`(aI 022 rfl T.bG bh (aa 04 ab))
local macro_rules|`(0012)=>`(List V)
local macro_rules|`(0013)=>`(aU (bT (br (bE 0094 (eF T) 01 0096))) (af (ai (aD T.iR rfl))) aE)
local macro_rules|`(0014)=>`(bf 014 (az T) 01)
local macro_rules|`(0015)=>`((wipe σ vs).set j (some x))
local macro_rules|`(0016)=>`(Shared)
local macro_rules|`(0017)=>`(Standbook.Row)
local macro_rules|`(0018)=>`(by omega)
local macro_rules|`(0019)=>`(bf 014 (aM T) 01)
local macro_rules|`(0020)=>`(tupleKeyHash 011 k)
local macro_rules|`(0021)=>`(List Int×Int)
local macro_rules|`(0022)=>`(aq (K:=K) rfl 014 rfl)
local macro_rules|`(0023)=>`(aa 034 ab)
local macro_rules|`(0024)=>`(notedBy 008 A env λe s'=>R (.error e) s')
local macro_rules|`(0025)=>`(aU (hJ (fq (dw hr) 014 04)) 073 aE)
local macro_rules|`(0026)=>`(aI 022 rfl T.bG bh 040)
local macro_rules|`(0027)=>`(cy I q 017)
local macro_rules|`(0028)=>`(upd (upd H1 d 029) p' (.lst (bs.map V.ref)))
local macro_rules|`(0029)=>`(∀σ H,Pv xs.length σ H->D.nx σ H)
local macro_rules|`(0030)=>`(bytesOf 8 b++(bytesOf 8 c++bytesOf 8 d))
local macro_rules|`(0031)=>`(ha pins s σ H _ I h)
local macro_rules|`(0032)=>`(SM.cnt pl (SM.aC od row,n))
local macro_rules|`(0033)=>`(bT (br (aS (fk T) 01 rfl (aa 072 ab))))
local macro_rules|`(0034)=>`(.dK (kvs++[(Sum.inl (n:Int),.ref tu)]))
local macro_rules|`(0035)=>`(.lst [])
local macro_rules|`(0036)=>`(List (List Key×V))
local macro_rules|`(0037)=>`(SM.aO 063 T.rows)
local macro_rules|`(0038)=>`(its.toArray)
local macro_rules|`(0039)=>`(fS (K:=K) rfl)
local macro_rules|`(0040)=>`(CS K A H0 t r a L T ns H i)
local macro_rules|`(0041)=>`(ha pos pins s σ H _ I h)
local macro_rules|`(0042)=>`(.ins A.cT dx (fT d' n' ol cd ml ch))
local macro_rules|`(0043)=>`(λi x y H1 Q1 hx hy s1 q=>?_)
local macro_rules|`(0044)=>`(Or.inr rfl)
local macro_rules|`(0045)=>`(StateT SortSt Sem α)
local macro_rules|`(0046)=>`(List (Str×NameKind))
local macro_rules|`(0047)=>`(⟨[],trivial,λa m=>absurd m 017⟩)
local macro_rules|`(0048)=>`(Array Keyed)
local macro_rules|`(0049)=>`(T'.spec k)
local macro_rules|`(0050)=>`(x<18446744073709551616)
local macro_rules|`(0051)=>`(ht.wf.rows.good.perm hp)
local macro_rules|`(0052)=>`(.lst [.int 0])
local macro_rules|`(0053)=>`(I.ok.hd hc)
local macro_rules|`(0054)=>`(EP X pins σ Q)
local macro_rules|`(0055)=>`(.Attribute o m apos)
local macro_rules|`(0056)=>`(gG (dw hr) 04 014 019)
local macro_rules|`(0057)=>`(by show 3<1000;decide)
local macro_rules|`(0058)=>`(aq (K:=K) rfl 034 rfl)
local macro_rules|`(0059)=>`(α->β->Prop)
local macro_rules|`(0060)=>`(kG K A H o p od u pl)
local macro_rules|`(0061)=>`(Array (Option Value))
local macro_rules|`(0062)=>`(List Expr)
local macro_rules|`(0063)=>`(λq=>?_)
local macro_rules|`(0064)=>`(.tup xs)
local macro_rules|`(0065)=>`(ns.map V.int)
local macro_rules|`(0066)=>`(List (List Int))
local macro_rules|`(0067)=>`(e::es)
local macro_rules|`(0068)=>`(.lst acc)
local macro_rules|`(0069)=>`(λ_=>aH (bF _))
local macro_rules|`(0070)=>`(.builtin "len")
local macro_rules|`(0071)=>`(Paired (eX K H) kvs rs)
local macro_rules|`(0072)=>`(SM.aO 026 T'.rows)
local macro_rules|`(0073)=>`((sub.map _).mem z)
local macro_rules|`(0074)=>`(aO o l)
local macro_rules|`(0075)=>`(.ref D)
local macro_rules|`(0076)=>`(Nat->St->Hp->Prop)
local macro_rules|`(0077)=>`(λq3=>?_)
local macro_rules|`(0078)=>`(.bK od u)
local macro_rules|`(0079)=>`(λa q=>bo K H 046 q)
local macro_rules|`(0080)=>`(.Name "reversed" p')
local macro_rules|`(0081)=>`(Bool->Hp->Prop)
local macro_rules|`(0082)=>`(λj=>j∈047)
local macro_rules|`(0083)=>`(⟨hp,g,d,tk,os⟩)
local macro_rules|`(0084)=>`(by simpa using z)
local macro_rules|`(0085)=>`(gk P w H h)
local macro_rules|`(0086)=>`(ns.length<=20000)
local macro_rules|`(0087)=>`(Order)
local macro_rules|`(0088)=>`(Option Addr)
local macro_rules|`(0089)=>`(Kp S H H')
local macro_rules|`(0090)=>`(.lst xs)
local macro_rules|`(0091)=>`(⟨rfl,?_⟩)
local macro_rules|`(0092)=>`(p.perturb)
local macro_rules|`(0093)=>`(aab 03)
local macro_rules|`(0094)=>`(pv 0)
local macro_rules|`(0095)=>`(List (List Int×Int))
local macro_rules|`(0096)=>`(aa 014 ab)
local macro_rules|`(0097)=>`(wipe σ vs)
local macro_rules|`(0098)=>`(⟨009-(i+1),0018,rfl,hlt,p'⟩)
local macro_rules|`(0099)=>`(st.getD (start t.mask 0020))
local macro_rules|`(0100)=>`(Array Keyed)
local macro_rules|`(0101)=>`(Value)
local macro_rules|`(0102)=>`(aa 0019 ab)
local macro_rules|`(0103)=>`(aa 014 0023)
local macro_rules|`(0104)=>`(by simp)
local macro_rules|`(0105)=>`(aa 0094 (aa 0014 ab))
local macro_rules|`(tactic|sleep 00)=>`(tactic|have e:eG K A t r a H L _ (Standbook.step T' _) Q:=e)
local macro_rules|`(tactic|sleep 01)=>`(tactic|(
 obtain⟨x0,rfl⟩:=l1 hx
 obtain rfl:rs=[]:=l0 hr
 have h:(StNeutral.natural x0 32)=true:=h
 have hx0:=h
 refine⟨⟨(mc (dh hx0) m0),m0,m0,030⟩,λT=>?_⟩))
local macro_rules|`(tactic|sleep 02)=>`(tactic|(
 obtain rfl:rs=[]:=cX ga.nr
 show(Standbook.step T _).2.length<=10000))
local macro_rules|`(tactic|sleep 03)=>`(tactic|(
 intro X hP hw hK hc i pins s σ H E I hf st hg
 subst hP hw hK))
local macro_rules|`(tactic|sleep 04)=>`(tactic|(
 refine aF b1 (eO 07) ?_
 kd_p))
local macro_rules|`(tactic|sleep 05)=>`(tactic|(
 have h:(StNeutral.natural x0 32&&StNeutral.natural x1 32)=true:=h
 simp only[aak] at h
 obtain⟨hx0,hx1⟩:=h
 refine⟨⟨(mc (dh hx0) (mc (dh hx1) m0)),m0,m0,030⟩,λT=>?_⟩
 rfl))
local macro_rules|`(tactic|sleep 06)=>`(tactic|obtain⟨dx,ch,h1,hch⟩:=ht.obj)
local macro_rules|`(tactic|sleep 07)=>`(tactic|obtain⟨f0,f1,f2,f3,f4,f5⟩:=hf it 017)
local macro_rules|`(tactic|sleep 08)=>`(tactic|(
 refine⟨λi m σ H=>m=009-i/\i<=009/\Pv i σ H,⟨009,0104,aaT _,h0⟩,?_⟩
 rintro i m σ H ⟨rfl,hi,p⟩
 have q:=hl i σ H hi p
 by_cases hlt:i<009))
local macro_rules|`(tactic|sleep 09)=>`(tactic|intro xs rs nk hs hx hr h)
local macro_rules|`(tactic|sleep 000)=>`(tactic|(
 intro T xs rs wf ga
 obtain rfl:xs=[]:=cX ga.nx))
local macro_rules|`(tactic|sleep 001)=>`(tactic|intro pins s σ H x y v u Q I rx ry h)
local macro_rules|`(tactic|sleep 002)=>`(tactic|intro pins s σ H Q I h)
local macro_rules|`(tactic|sleep 003)=>`(tactic|refine eS c0 hx1 λH1 k1 c1=>?_)
local macro_rules|`(tactic|sleep 004)=>`(tactic|(
 rw[hv]
 show if false=true then _ else _))
local macro_rules|`(tactic|sleep 005)=>`(tactic|show if true=true then _ else _)
local macro_rules|`(tactic|sleep 006)=>`(tactic|refine aF h1 (eO 07) ?_)
local macro_rules|`(tactic|sleep 007)=>`(tactic|(
 obtain⟨m1,hm1,hb1,rfl,rfl⟩:=hw
 have lw1:=ga.len _ aae))
local macro_rules|`(tactic|sleep 008)=>`(tactic|(
 rw[abk] at hz
 injection hz with hyx hrest
 injection hyx with hy hx
 subst hy hx))
local macro_rules|`(tactic|sleep 009)=>`(tactic|(
 rw[es] at hs
 obtain rfl:(0,0)=nk:=aac hs
 obtain rfl:xs=[]:=l0 hx))
local macro_rules|`(tactic|sleep 010)=>`(tactic|(
 have ap:=Lay.apart ht.nd
 have bj:=ap.bj))
local macro_rules|`(tactic|sleep 011)=>`(tactic|refine ay h1 T.ak T.aP cA ?_)
local macro_rules|`(tactic|sleep 012)=>`(tactic|refine⟨⟨m0,m0,m0,030⟩,λT=>?_⟩)
local macro_rules|`(tactic|sleep 013)=>`(tactic|(
 subst ex
 obtain rfl:u=Value.ref a:=rx))
local macro_rules|`(tactic|sleep 014)=>`(tactic|refine aF h1 (iw 07) ?_)
local macro_rules|`(tactic|sleep 015)=>`(tactic|(
 obtain⟨dxo,co,b1,b2⟩:=id g.ob
 refine eT (ax.of ht.aw.lst) o2 ?_))
local macro_rules|`(tactic|sleep 016)=>`(tactic|(
 obtain⟨hs,hgd,hx,es',ep',vs,hdt,hsz,kv,hm⟩:=I.xA hd
 obtain⟨rfl,rfl⟩:=m_ hod hdt))
local macro_rules|`(tactic|sleep 017)=>`(tactic|exact⟨_,e,λ_ z=>(by cases z),λ_ _ z=>(by cases z)⟩)
local macro_rules|`(tactic|sleep 018)=>`(tactic|refine cw 0063 0063)
local macro_rules|`(tactic|sleep 019)=>`(tactic|refine eV c0 hm1 hb1 λH1 l1 k1 hl1 e1 nl1 al1 c1=>?_)
local macro_rules|`(tactic|sleep 020)=>`(tactic|rcases aax.mp z with z|z)
local macro_rules|`(tactic|sleep 021)=>`(tactic|rcases aao.mp z with z|z)
local macro_rules|`(tactic|sleep 022)=>`(tactic|(
 have e:b=it:=by simpa using hb
 subst e))
local macro_rules|`(tactic|sleep 023)=>`(tactic|refine ay h1 T.ak T.aJ bA ?_)
local macro_rules|`(tactic|sleep 024)=>`(tactic|(
 refine ay h1 T.ak T.bt dk ?_
 refine fU ht.bz.gN ?_))
local macro_rules|`(tactic|sleep 025)=>`(tactic|refine jf 0063 0063)
local macro_rules|`(tactic|sleep 026)=>`(tactic|intro pins s σ H xs us Q I r h)
local macro_rules|`(tactic|sleep 027)=>`(tactic|(
 obtain⟨u,rfl,ru⟩:=vals1 r
 cases ru))
local macro_rules|`(tactic|sleep 028)=>`(tactic|(
 obtain⟨hx1,rfl⟩:=hn
 obtain rfl:=hw))
local macro_rules|`(tactic|sleep 029)=>`(tactic|obtain⟨x1,rfl⟩:=gr ga.nx)
local macro_rules|`(tactic|sleep 030)=>`(tactic|obtain⟨x0,rfl⟩:=gr ga.nx)
local macro_rules|`(tactic|sleep 031)=>`(tactic|obtain⟨kvs,rs,hd,hp,hrel⟩:=ht.rows)
local macro_rules|`(tactic|sleep 032)=>`(tactic|obtain⟨n,hn,rfl⟩:=iV hx)
local macro_rules|`(tactic|sleep 033)=>`(tactic|obtain⟨x1,x2,rfl⟩:=ln2 ga.nx)
local macro_rules|`(tactic|sleep 034)=>`(tactic|obtain⟨x0,x1,rfl⟩:=ln2 ga.nx)
local macro_rules|`(tactic|sleep 035)=>`(tactic|intro pins s σ H D I h)
local macro_rules|`(tactic|sleep 036)=>`(tactic|obtain⟨z,its,n,r,hl,e⟩:=I.qx hH)
local macro_rules|`(tactic|sleep 037)=>`(tactic|refine eS c1 hx2 λH2 k2 c2=>?_)
local macro_rules|`(tactic|sleep 038)=>`(tactic|refine dz (λq2=>?_) (λq2=>?_))
local macro_rules|`(tactic|sleep 039)=>`(tactic|obtain⟨dx,c,h1,h2⟩:=id g.ob)
local macro_rules|`(tactic|sleep 040)=>`(tactic|refine aaf (aaA ?_))
local macro_rules|`(tactic|sleep 041)=>`(tactic|(
 obtain rfl:xs=[]:=cX ga.nx
 obtain rfl:rs=[]:=cX ga.nr
 obtain rfl:i1=i:=hn
 obtain rfl:=hw
 sleep 00))
local macro_rules|`(tactic|sleep 042)=>`(tactic|(
 kd_p
 refine ay h1 T.ak T.bW fX ?_
 kd_p
 refine cf (.inl (ax.of ht.marks.lst)) ?_
 kd_p))
local macro_rules|`(tactic|sleep 043)=>`(tactic|show(Standbook.step T _).2.length<=10000)
local macro_rules|`(tactic|sleep 044)=>`(tactic|(
 rw[es] at hs
 obtain rfl:(1,0)=nk:=aac hs
 sleep 01
 rfl))
local macro_rules|`(tactic|sleep 045)=>`(tactic|(
 obtain⟨m1,hm1,hb1,rfl,m2,hm2,hb2,rfl,rfl⟩:=hw
 have lw1:=ga.len _ aae
 have lw2:=ga.len _ (aag _ aae)))
local macro_rules|`(tactic|sleep 046)=>`(tactic|(
 obtain rfl:(2,0)=nk:=aac hs
 obtain⟨x0,x1,rfl⟩:=l2 hx
 obtain rfl:rs=[]:=l0 hr
 sleep 05))
local macro_rules|`(tactic|sleep 047)=>`(tactic|(
 sleep 04
 sleep 04
 refine⟨o,p,r,_,u,_,ns,rfl,g,.inl (s1.seq hr1),hi,λH2 s2=>?_⟩))
local macro_rules|`(tactic|sleep 048)=>`(tactic|(
 intro T xs rs wf ga
 sleep 030))
local macro_rules|`(tactic|sleep 049)=>`(tactic|(
 sleep 03
 obtain⟨hd,hi⟩:=hg
 sleep 07))
local macro_rules|`(tactic|sleep 050)=>`(tactic|(
 sleep 029
 obtain rfl:rs=[]:=cX ga.nr
 sleep 028
 sleep 00))
local macro_rules|`(tactic|sleep 051)=>`(tactic|(
 cases aac hdd
 kd_p
 refine ne (c:=1) 0010 (ba ?_)
 kd_p
 refine ne (c:=2) 0010 (ba ?_)))
local macro_rules|`(tactic|sleep 052)=>`(tactic|(
 sleep 009
 obtain rfl:rs=[]:=l0 hr
 sleep 012
 rfl))
local macro_rules|`(tactic|sleep 053)=>`(tactic|(
 obtain⟨r0,rfl⟩:=gr ga.nr
 sleep 043))
local macro_rules|`(tactic|sleep 054)=>`(tactic|(
 intro T xs rs wf ga
 sleep 034))
local macro_rules|`(tactic|sleep 055)=>`(tactic|(
 kd_p
 refine⟨r,ns,rfl,hr1,hl,λH1 s1=>?_⟩
 have ht1:=ht.same s1
 have h1':=s1 _ _ h1
 kd_p))
local macro_rules|`(tactic|sleep 056)=>`(tactic|(
 sleep 033
 obtain rfl:rs=[]:=cX ga.nr
 obtain⟨hx1,hx2,rfl⟩:=hn
 obtain rfl:=hw
 sleep 00))
local macro_rules|`(tactic|sleep 057)=>`(tactic|(
 kd_p
 sleep 003
 kd_p))
local macro_rules|`(tactic|sleep 058)=>`(tactic|(
 sleep 057
 sleep 037
 kd_p
 refine eV c2 hm1 hb1 λH3 l1 k3 hl1 e1 nl1 al1 c3=>?_
 kd_p))
local macro_rules | `(tactic| delta $x:ident) => `(tactic| with_reducible refine (?_ : type_of% $x) ?_)
local macro_rules | `(tactic| delta $x:ident $y:ident $xs*) => `(tactic| first | delta $x | delta $y $xs*)
local macro_rules | `(tactic|kd_p) => `(tactic| repeat (first
  | ((delta dP dv dI bU dZ cG ba); exact fun h => h)
  | ((with_reducible refine' (?_ : type_of% dq) (by with_unfolding_all exact rfl) ?_); exact fun _ h => h)
  | ((delta gX fu fE cE gW fF d9 fD dE cF dG i_notV dR cz dj cV ft fH dD bZ dy dO dN cI cN cJ dH bI cW dU dW dJ dX bV cP b9 cQ cb b_ de bX cU dF fz cS cD df); exact fun h => h)
  | (with_reducible refine dQ ?_) | (with_reducible refine dC ?_) | (with_reducible refine cK ?_)))
local macro_rules|`(tactic|omega)=>`(tactic|lia)
theorem ex12{α:Sort _}{p q:α->Prop}{X:Prop}(h:∃a,p a/\q a)(k:∀a,p a->q a->X):X:=h.elim λa h=>k a h.1 h.2
theorem ex13{α:Sort _}{p q r:α->Prop}{X:Prop}(h:∃a,p a/\q a/\r a)(k:∀a,p a->q a->r a->X):X:=h.elim λa h=>k a h.1 h.2.1 h.2.2
theorem ex22{α β:Sort _}{p q:α->β->Prop}{X:Prop}(h:∃a b,p a b/\q a b)(k:∀a b,p a b->q a b->X):X:=h.elim λa h=>h.elim λb h=>k a b h.1 h.2
theorem ex23{α β:Sort _}{p q r:α->β->Prop}{X:Prop}(h:∃a b,p a b/\q a b/\r a b)(k:∀a b,p a b->q a b->r a b->X):X:=h.elim λa h=>h.elim λb h=>k a b h.1 h.2.1 h.2.2
theorem an3{p q r X:Prop}(h:p/\q/\r)(k:p->q->r->X):X:=k h.1 h.2.1 h.2.2
theorem an4{p q r s X:Prop}(h:p/\q/\r/\s)(k:p->q->r->s->X):X:=k h.1 h.2.1 h.2.2.1 h.2.2.2
theorem an5{p q r s t X:Prop}(h:p/\q/\r/\s/\t)(k:p->q->r->s->t->X):X:=k h.1 h.2.1 h.2.2.1 h.2.2.2.1 h.2.2.2.2
local macro_rules|`(tactic|obtain ⟨$a:ident,$b:ident,$c:ident⟩:=$h)=>do
 if[a,b,c].any λx=>x.getId==`rfl||x.getId==h.raw.getId then Lean.Macro.throwUnsupported
 `(tactic|first|refine ex12 $h λ$a $b $c=>?_|refine an3 $h λ$a $b $c=>?_)
local macro_rules|`(tactic|obtain ⟨$a:ident,$b:ident,$c:ident,$d:ident⟩:=$h)=>do
 if[a,b,c,d].any λx=>x.getId==`rfl||x.getId==h.raw.getId then Lean.Macro.throwUnsupported
 `(tactic|first|refine ex22 $h λ$a $b $c $d=>?_|refine ex13 $h λ$a $b $c $d=>?_|refine an4 $h λ$a $b $c $d=>?_)
local macro_rules|`(tactic|obtain ⟨$a:ident,$b:ident,$c:ident,$d:ident,$e:ident⟩:=$h)=>do
 if[a,b,c,d,e].any λx=>x.getId==`rfl||x.getId==h.raw.getId then Lean.Macro.throwUnsupported
 `(tactic|first|refine ex23 $h λ$a $b $c $d $e=>?_|refine an5 $h λ$a $b $c $d $e=>?_)
noncomputable section
def aaj:=@decide_eq_true
def aal:=@decide_eq_false
def aan:=@if_neg
def aar:=@of_decide_eq_true
def aav:=@if_pos
def aaV:=@beq_eq_false_iff_ne
def aa2:=@decide_eq_decide
def abi:=@beq_iff_eq
def abx:=@of_decide_eq_false
def aby:=@congrArg
def abE:=@bne_iff_ne
def abN:=@decide_eq_true_eq
def ab8:=@if_false
def aca:=@beq_self_eq_true
def acf:=@decide_eq_true_iff
def aeT:=@if_true
open List renaming length_map->aaa,getElem?_eq_getElem->aab,getElem?_eq_some_iff->aad,mem_cons_self->aae,mem_cons_of_mem->aag,length_append->aah,getElem?_map->aai,mem_append_right->aam,mem_cons->aao,mem_of_getElem?->aap,mem_iff_getElem?->aas,length_cons->aat,mem_map->aaw,mem_append->aax,size_toArray->aaz,map_cons->aaB,getD_eq_getElem?_getD->aaF,length_take->aaH,append_assoc->aaL,map_map->aaN,map_append->aaP,getElem?_eq_none->aaS,pairwise_cons->aaU,pairwise_map->aaX,nodup_append->aaZ,all_eq_true->aa3,getElem?_append_right->aa4,nodup_cons->aa6,append_nil->aa7,mem_singleton->aa9,length_reverse->abb,mem_append_left->abc,drop_drop->abd,length_range->abe,take_append_drop->abf,drop_eq_getElem_cons->abg,length_drop->abh,length_nil->abj,zip_cons_cons->abk,eq_nil_of_length_eq_zero->abm,pairwise_iff_getElem->abn,getElem?_append_left->abo,replicate_succ->abt,flatMap_cons->abv,take_of_length_le->abz,take_length->abC,map_congr_left->abD,mem_filter->abH,findIdx?_eq_some_iff_getElem->abI,find?_cons->abJ,getElem_mem->abL,any_eq_false->abO,length_singleton->abS,map_take->abY,map_drop->abZ,countP_cons_of_pos->ab0,nodup_nil->ab5,length_set->ab7,lookup_cons->acd,length_replicate->acg,any_cons->ach,findIdx?_eq_none_iff->acj,filter_cons_of_pos->acs,filter_cons_of_neg->acu,getElem?_set_self->acA,flatMap_singleton->acB,drop_eq_nil_of_le->acC,find?_eq_none->acD,length_filter_le->acF,zip_nil_left->acK,flatten_cons->acL,pairwise_append->acM,getElem?_set_ne->acN,getElem_inj->acR,mem_map_of_mem->acU,flatMap_append->acV,map_nil->acY,all_map->acZ,take_nil->ac7,pairwise_singleton->ac8,mem_filterMap->ac9,getLast?_cons_cons->ada,getElem?_take->adb,getElem?_replicate->ade,getElem?_drop->adf,getElem?_cons_zero->adg,getElem?_cons_succ->adh,foldl_cons->adi,range_succ_eq_map->ado,length_eq_one_iff->adp,map_id->adt,ext_getElem?->adu,eraseIdxIfInBounds_toArray->adv,mem_range->adx,countP_le_length->adD,countP_eq_length->adE,filter_cons->adI,any_eq_true->adJ,mem_of_mem_drop->adN,all_cons->adO,getElem?_range->adY,forIn_cons->adZ,filterMap_cons->ad0,zip_nil_right->ad5,getElem_range->ad6,take_zero->aea,mem_or_eq_of_mem_set->aeb,mem_of_find?_eq_some->aec,forIn_nil->aed,drop_zero->aee,sublist_append_left->aej,filter_congr->aek,filterMap_cons_some->ael,drop_nil->aeq,zipIdx_cons->aeu,not_mem_nil->aev,map_snd_zip->aew,map_reverse->aex,flatMap_nil->aey,find?_cons_of_pos->aeE,filter_eq_nil_iff->aeF,of_mem_zip->aeP,any_map->aeQ
open Option.some renaming inj->aac
open PySem renaming wpAny_bind->aaf,wpAny_pure->aaA,sizeLine_eq->aaC,mem_of_lookup->aaW,wpAny_holding->abB,wpAny_truthy_bool->abM,wpAny_typeNameOfWhole_keyiter->abX,wpAny_mono->ab6,wpAny_Call_Name_kw->ace,wpAny_typeNameOf_keyiter->acn,wpAny_passesOwn->aco,wpAny_forIn_list->acv,wpAny_call_entry->acw,wpAny_loadPart'->acE,wpAny_setState_of->acH,wpAny_newObj_type->acI,wpAny_specialOf->ac2,tupleKind_room_in1->ac3,codeAny_builtin->ac4,richCompare_meets_room->adm,codeAny_mono->ady,wpAny_pyIter_revIter->adM,call_meets->adS,wpAny_execs_nil->adT,pushCells_keeps->adU,wpAny_typeOf->ad2,wpAny_pyIter_list->aeg,wpAny_dictEntries->aeh,plainId_quiet->aem,wpAny_isInstance->aer
open Bool renaming and_eq_true->aak,false_ne_true->aau,false_eq_true->aaK,false_and->abA,true_and->abQ,not_eq_true->acx,and_false->acz,eq_iff_iff->adl,not_true->adQ,not_not->aeR,not_false->aeS
open PySem.Heap renaming get?_push_of_some->aaq,get?_push_size->aaD,lt_size->aaG,size_push->aa1,get?_update_self->abG,get?_update_other->ab9,size_update->acS
open Nat renaming le_refl->aay,ne_of_lt->aaM,lt_of_lt_of_le->aaO,zero_le->aaT,le_trans->aa8,lt_irrefl->abu,lt_succ_of_lt->abF,not_lt_zero->abR,lt_succ_self->acb,mod_lt->acp,le_of_succ_le->acq,le_succ->acT,sub_self->adC,mod_eq_of_lt->adH,testBit_two_pow->adW,min_eq_left->adX,zero_add->ad3,le_of_eq->ad4,le_add_right->aet,div_div_eq_div_mul->aeD,pow_succ->aeL,ne_of_gt->aeM,mul_comm->aeN,le_of_lt->aeO
open Array renaming length_toList->aaE,getElem?_toList->aaQ,getElem?_eq_getElem->aaR,getElem?_eq_some_iff->abw,mem_toList_iff->abK,mem_of_getElem?->abT,size_map->acm,swapIfInBounds_def->acr,size_setIfInBounds->ac1,toList_inj->adL,getElem?_setIfInBounds->adR,size_reverse->ad7,size_swapIfInBounds->aef,toList_map->aez,getElem?_reverse->aeG,getElem?_eq_none->aeH
open Option renaming map_eq_some_iff->aaI,isSome_iff_exists->abW,map_eq_none_iff->adn,isSome_map->ads
open PySem.F renaming plainAttrs_list->aaJ,slot_dict_keyiterator_next->abp,type_list_extend->abq,slot_list_extend->abr,type_list_append->abU,slot_list_append->abV,called_set->acG,type_list_pop->adA,slot_list_pop->adB,args_dict_keyiterator_next_1->adF,entry_dict_keyiterator_next->adK,slot_dict_keyiterator_iter->adP,slot_dict_delitem->ad9,slot_list_insert->aei,args_tuple_lt_2->aen,entry_tuple_lt->aeB
open PySem.Paired renaming length->aaY
open Int renaming toNat_natCast->aa0,fdiv_eq_ediv_of_nonneg->ad1
open PySem.PassesOwn renaming never->aa5
open PyProof.Rows renaming callWith_type1->aba,pairsOf_toList->ad8
open Ne renaming symm->abl
open List.Sublist renaming refl->abP
open Int.ofNat renaming inj->ab1
open PySem.Sem renaming wp_pure'->ab2,wp_bind'->ab3
open PyProof.Rows.F renaming plain_set_update_loop->ab4,entry_set_update_loop->acQ
open Sum.inl renaming inj->aci
open Classical renaming byContradiction->ack
open List.Perm renaming refl->acy,cons_inv->adj
open Std.Legacy.Range renaming forIn_eq_forIn_range'->acJ
open PySem.Around renaming under_plainId->acO
open PySem.Value.type renaming inj->acP
open PySem.Heap.SameBut renaming update->acW
open Nat.succ renaming inj->acX
open PySem.AutoSeq1 renaming sub_tuple_tuple->ac0
open PySem.W renaming mg_of->ac5,callWith_K->ac6,methodCall_KW->adz,plainGet_of->adV,kat_cons->aes,cellsFrom_some->aeA,kat_yes->aeK
open PySem.Calls renaming spliced_cons->adk,callWith_builtin->adq,spliced_nil->adw
open PyProof.Rows.G.KeepsTups renaming push->adG
open Prod.mk renaming inj->aeo
open Prod renaming ext->aep
open PyProof renaming noPylong_small->aeC
open StateT renaming run_pure->aeI,run_bind->aeJ
section
namespace HX
def lexLt:List Int->List Int->Bool
 |[],[]=>false
 |[],_::_=>true
 |_::_,[]=>false
 |x::xs,y::ys=>if x=y then lexLt xs ys else decide (x<y)
theorem dS(x y:Int)(xs ys:025):lexLt (x::xs) (y::ys)=if x=y then lexLt xs ys else decide (x<y):=rfl
end HX
namespace HP
def a_(p q:0021):Bool:=if p.1=q.1 then decide (p.2<q.2) else HX.lexLt p.1 q.1
theorem xV:∀x:List Int,HX.lexLt x x=false
 |[]=>rfl
 |a::x=>by rw[HX.dS,aav rfl];exact xV x
theorem Bh:∀x y z:List Int,HX.lexLt x y=true->HX.lexLt y z=true->HX.lexLt x z=true
 |[],[],_,h,_=>by cases h
 |[],_::_,[],_,h=>by cases h
 |[],_::_,_::_,_,_=>rfl
 |_::_,[],_,h,_=>by cases h
 |_::_,_::_,[],_,h=>by cases h
 |a::x,b::y,c::z,h1,h2=>by
  rw[HX.dS] at h1 h2⊢;by_cases e1:a=b
  ·rw[aav e1] at h1;by_cases e2:b=c
   ·rw[aav e2] at h2;rw[aav (e1.trans e2)];exact Bh x y z h1 h2
   ·rw[aan e2] at h2;rw[aan (λq=>e2 (e1.symm.trans q)),e1];exact h2
  ·rw[aan e1] at h1;have h1':=aar h1;by_cases e2:b=c
   ·subst e2;rw[aan e1];exact h1
   ·rw[aan e2] at h2;have h2':=aar h2;rw[aan 03];exact aaj 03
theorem uC:∀x y:List Int,HX.lexLt x y=false->HX.lexLt y x=false->x=y
 |[],[],_,_=>rfl
 |[],_::_,h,_=>by cases h
 |_::_,[],_,h=>by cases h
 |a::x,b::y,h1,h2=>by
  rw[HX.dS] at h1 h2;by_cases e:a=b
  ·subst e;rw[aav rfl] at h1 h2;rw[uC x y h1 h2]
  ·rw[aan e] at h1;rw[aan (λq=>e q.symm)] at h2;have h1':=abx h1;have h2':=abx h2;omega
def BR{x y:025}(h:HX.lexLt x y=true):HX.lexLt y x=false:=by
 cases e:HX.lexLt y x with
 |false=>rfl
 |true=>
  have:=Bh x y x h e;rw[xV] at this;cases this
def Cb(p:0021):a_ p p=false:=by
 unfold a_;rw[aav rfl];exact aal 03
def AB(p q r:0021)(h1:a_ p q=true)(h2:a_ q r=true):a_ p r=true:=by
 unfold a_ at h1 h2⊢;by_cases e1:p.1=q.1
 ·rw[aav e1] at h1;by_cases e2:q.1=r.1
  ·rw[aav e2] at h2;rw[aav (e1.trans e2)];have h1':=aar h1;have h2':=aar h2;exact aaj 03
  ·rw[aan e2] at h2;rw[aan (λz=>e2 (e1.symm.trans z)),e1];exact h2
 ·rw[aan e1] at h1;by_cases e2:q.1=r.1
  ·rw[aan (λz=>e1 (z.trans e2.symm)),<-e2];exact h1
  ·rw[aan e2] at h2;have h3:=Bh _ _ _ h1 h2;rw[aan (λz=>by rw[z,xV] at h3;cases h3)];exact h3
def v9(p q:0021)(h1:a_ p q=false)(h2:a_ q p=false):p=q:=by
 unfold a_ at h1 h2;by_cases e:p.1=q.1
 ·rw[aav e] at h1;rw[aav e.symm] at h2;have h1':=abx h1;have h2':=abx h2;exact aep e 03
 ·rw[aan e] at h1;rw[aan (λz=>e z.symm)] at h2;exact(e (uC _ _ h1 h2)).elim
end HP
end
section
namespace L2
open PySem PySem.Spec PyProof.Rows
abbrev Key:=Sum Int Str
def m7:Key->Value->Bool
 |.inl k,v=>Value.isInt k v
 |.inr x,v=>Value.isStrOf x v
def RQ(w:066):Key->Int
 |.inl k=>hashInt k
 |.inr x=>hashStr w x
def eW:∀{k:Key} {v:0101},m7 k v=true->(∃i t,k=Sum.inl i/\v=Value.int i t)\/(∃x t,k=Sum.inr x/\v=Value.str x t)
 |.inl i,v,h=>by
  obtain⟨t,e⟩:=Value.isInt_shape (k:=i) (v:=v) h;exact .inl ⟨i,t,rfl,e⟩
 |.inr x,v,h=>by
  obtain⟨t,e⟩:=Value.isStrOf_shape (x:=x) (v:=v) h;exact .inr ⟨x,t,rfl,e⟩
def JQ(i:Int)(t:Tok):m7 (.inl i) (.int i t)=true:=by simp[m7,Value.isInt]
def Jk(x:Str)(t:Tok):m7 (.inr x) (.str x t)=true:=by simp[m7,Value.isStrOf]
def OL(a b:Int):decide ((Sum.inl a:Key)=Sum.inl b)=(a==b):=by
 by_cases e:a=b
 ·subst e;simp
 ·have h:¬(Sum.inl a:Key)=Sum.inl b:=λq=>e (aci q);rw[aal h];exact(aaV.mpr e).symm
def Ou(a b:Str):decide ((Sum.inr a:Key)=Sum.inr b)=decide (a=b):=by
 by_cases e:a=b
 ·subst e;simp
 ·have h:¬(Sum.inr a:Key)=Sum.inr b:=λq=>e (Sum.inr.inj q);rw[aal h,aal e]
def OH(a:Int)(b:Str):decide ((Sum.inl a:Key)=Sum.inr b)=false:=aal (λq=>nomatch q)
def N9(a:Str)(b:Int):decide ((Sum.inr a:Key)=Sum.inl b)=false:=aal (λq=>nomatch q)
def eN(prog:027)(w:066):PySem.KeyKind prog w Key where
 is:=m7
 hash:=RQ w
 inj:=λv a b ha hb=>by
  rcases eW ha with⟨i,t,rfl,rfl⟩|⟨x,t,rfl,rfl⟩
  ·rcases eW hb with⟨j,u,rfl,e⟩|⟨y,u,rfl,e⟩
   ·injection e with e1 _;rw[e1]
   ·exact nomatch e
  ·rcases eW hb with⟨j,u,rfl,e⟩|⟨y,u,rfl,e⟩
   ·exact nomatch e
   ·injection e with e1 _;rw[e1]
 byValue:=λk v h=>by
  rcases eW h with⟨i,t,rfl,rfl⟩|⟨x,t,rfl,rfl⟩<;>rfl
 pyHash:=λhv h=>by
  rcases eW hv with⟨i,t,rfl,rfl⟩|⟨x,t,rfl,rfl⟩
  ·exact wpAny_pyHash_int h
  ·exact wpAny_pyHash_str h
 eqBool:=λhu hv h=>by
  rcases eW hu with⟨i,t,rfl,rfl⟩|⟨x,t,rfl,rfl⟩
  ·rcases eW hv with⟨j,u,rfl,rfl⟩|⟨y,u,rfl,rfl⟩
   ·rw[OL] at h;exact wpAny_eqBool_int h
   ·rw[OH] at h;exact SeqAt.EqAt.int_str i t y u _ _ _ _ h
  ·rcases eW hv with⟨j,u,rfl,rfl⟩|⟨y,u,rfl,rfl⟩
   ·rw[N9] at h;exact SeqAt.EqAt.str_int x t j u _ _ _ _ h
   ·rw[Ou] at h;exact wpAny_eqBool_str h
 «strs» :=λk x t v h=>by
  rcases eW h with⟨i,u,rfl,e⟩|⟨y,u,rfl,e⟩
  ·exact nomatch e
  ·injection e with e1 _;subst e1;cases v<;>rfl
def Em(prog:027)(w:066)(i:Int)(t:Tok):(eN prog w).is (.inl i) (.int i t)=true:=JQ i t
def Er(prog:027)(w:066)(x:Str)(t:Tok):(eN prog w).is (.inr x) (.str x t)=true:=Jk x t
inductive V where
 |bS|bl(b:Bool)|int(i:Int)|str(x:Str)|mU(b:Array UInt8)|flt(b:UInt64)|ref(a:Addr)|ty(n:String)
 deriving DecidableEq
def RelV:V->Value->Prop
 |.bS,u=>u=Value.none
 |.bl b,u=>u=Value.bool b
 |.int i,u=>∃t,u=Value.int i t
 |.str x,u=>∃t,u=Value.str x t
 |.mU b,u=>∃t,u=Value.bytes b t
 |.flt b,u=>∃t,u=Value.float b t
 |.ref a,u=>u=Value.ref a
 |.ty n,u=>u=Value.type n
abbrev Vals:List V->List Value->Prop:=Paired RelV
def Vals.length{xs:0012}{us:007}(r:Vals xs us):009=us.length:=aaY r
theorem Vals.get:∀{xs:0012} {us:007} {i:Nat} {x:V},Vals xs us->xs[i]? =some x->∃u,us[i]? =some u/\RelV x u
 |_,_,_,_,.nil,e=>by simp at e
 |_,_,0,_,.cons r _,e=>by simp at e;subst e;exact⟨_,rfl,r⟩
 |_,_,i+1,x,.cons _ t,e=>by
  obtain⟨u,h1,h2⟩:=Vals.get (i:=i) (x:=x) t (by simpa using e);exact⟨u,by simpa using h1,h2⟩
theorem Vals.set{x:V}{u:0101}(r:RelV x u):∀{xs:0012} {us:007} (i:Nat),Vals xs us->Vals (xs.set i x) (us.set i u)
 |_,_,_,.nil=>.nil
 |_,_,0,.cons _ t=>.cons r t
 |_,_,i+1,.cons q t=>.cons q (Vals.set r i t)
def Vals.append{xs ys:0012}{us ws:007}(h:Vals xs us)(s:Vals ys ws):Vals (xs++ys) (us++ws):=by
 induction h with
 |nil=>exact s
 |cons r t ih=>exact .cons r ih
theorem Vals.take:∀{xs:0012} {us:007} (n:Nat),Vals xs us->Vals (xs.take n) (us.take n)
 |_,_,0,_=>.nil
 |_,_,_+1,.nil=>.nil
 |_,_,n+1,.cons r t=>.cons r (Vals.take n t)
theorem Vals.drop:∀{xs:0012} {us:007} (n:Nat),Vals xs us->Vals (xs.drop n) (us.drop n)
 |_,_,0,r=>r
 |_,_,_+1,.nil=>.nil
 |_,_,n+1,.cons _ t=>Vals.drop n t
def jg:Option V->Option Value->Prop
 |some v,some u=>RelV v u
 |none,none=>True
 |_,_=>False
def KV{κ:Type}:List (κ×V)->List (κ×Value)->Prop:=Paired λ(p:κ×V) (q:κ×Value)=>p.1=q.1/\RelV p.2 q.2
def kV:Key->V
 |.inl i=>.int i
 |.inr x=>.str x
inductive HO where
 |lst(xs:0012)
 |tup(xs:0012)
 |dK(kvs:031)|dT(kvs:0036)
 |set(S:Int->Bool)(n:Nat)
 |ins(C dx:Addr)(fs:064)
 |own(x:Addr)
 |xd(fs:064)
 |met(f x:Addr)
 |NT(lo hi:Int)
 |bK(o:Obj)(u:HO)
 |De(ps:095)
 |ext(φ:Heap->Prop)
abbrev Hp:=Addr->Option HO
def upd(H:Hp)(a:Addr)(o:HO):Hp:=λb=>if b=a then some o else H b
def ah{H:Hp}{a:Addr}{o:HO}:upd H a o a=some o:=by unfold upd;rw[aav rfl]
def aj{H:Hp}{a b:Addr}{o:HO}(h:b≠a):upd H a o b=H b:=by unfold upd;rw[aan h]
def kn{H:Hp}{a:Addr}{o u:HO}:upd (upd H a o) a u=upd H a u:=by
 funext b;unfold upd;split<;>rfl
def cv{H:Hp}{a b:Addr}{o u:HO}(h:H a=some o)(h':H b=some u)(d:o≠u):a≠b:=by
 intro e;subst e;rw[h] at h';exact d (aac h')
def aG{H:Hp}{a b:Addr}{o:HO}(h:H a=some o)(h':H b=none):a≠b:=by
 intro e;subst e;rw[h] at h';cases h'
section
variable(P:027)(w:066)
def eB(H:Hp)(h:Heap)(a:Addr):HO->Prop
 |.lst xs=>009<=sizeLine/\∃(its:007) (n:Nat),Vals xs its/\h.get? a=some {cls:=.type "list",data:=.seq its.toArray n}
 |.tup xs=>009<=sizeLine/\∃its:List Value,Vals xs its/\IsTup h a 0038
 |.dK kvs=>kvs.length<=sizeLine/\(a==sysModules)=false/\∃vs,KV kvs vs/\h.DictOf (eN P w) a vs
 |.dT kvs=>kvs.length<=sizeLine/\(a==sysModules)=false/\∃xs:List (List Key×Addr×Value),
   Paired (λ(p:List Key×V) (q:List Key×Addr×Value)=>p.1=q.1/\H q.2.1=some (.tup (p.1.map kV))/\RelV p.2 q.2.2) kvs xs/\
   ∃o es ep,h.get? a=some o/\o.ExactDict/\o.data= .dict es ep/\es.toList=xs.map (entryOfKey (tupleKind (eN P w)))/\(xs.map (·.1)).Nodup
 |.set S n=>h.SetOf (intKind P w) a S n
 |.ins C dx fs=>H dx=some (.own a)/\fs.length<=1000/\dx≠a/\h.get? a=some (PySem.W.instObj C dx)/\
   ∃mA,h.Ns1 dx mA/\(∀f,jg (fs.lookup f) (mA f))/\PySem.Within mA (fs.map (·.1))
 |.own _=>∃o,h.get? a=some o
 |.xd fs=>∃mA,h.Ns1 a mA/\∀f,jg (fs.lookup f) (mA f)
 |.NT lo hi=>∃t u v,h.get? a=some {cls:=.type "range",data:=.fields #[.int lo t,.int hi u,.int 1 v]}
 |.bK o u=>h.get? a=some o/\eB H h a u
 |.De ps=>h.get? a=some {cls:=.none,data:=.fields ps}
 |.met f x=>h.get? a=some (PySem.W.methodObj 081 (.ref x))
 |.ext φ=>φ h/\(∃o,h.get? a=some o)/\∀h1 h2:Heap,φ h1->(∀o,h1.get? a=some o->h2.get? a=some o)->φ h2
def gk(H:Hp)(h:Heap):Prop:=∀a o,H a=some o->eB P w H h a o
end
section
variable{P:027}{w:066}{H H':Hp}{h h':Heap}{a:Addr}{o:HO}
def eB.lt(x:eB P w H h a o):a<h.objs.size:=by
 cases o with
 |lst xs=>obtain⟨_,_,_,_,e⟩:=x;exact aaG e
 |tup xs=>obtain⟨_,_,_,p⟩:=x;exact p.lt
 |dK kvs=>obtain⟨_,_,_,_,o,_,_,e,_⟩:=x;exact aaG e
 |dT kvs=>obtain⟨_,_,_,_,o,_,_,e,_⟩:=x;exact aaG e
 |set S n=>obtain⟨o,_,_,_,e,_⟩:=x;exact aaG e
 |ins C dx fs=>obtain⟨_,_,_,e,_⟩:=x;exact aaG e
 |own y=>obtain⟨_,e⟩:=x;exact aaG e
 |xd fs=>obtain⟨_,⟨_,_,_,e,_⟩,_⟩:=x;exact aaG e
 |NT lo hi=>obtain⟨_,_,_,e⟩:=x;exact aaG e
 |bK ob u=>obtain⟨e,_⟩:=x;exact aaG e
 |De ps=>exact aaG (show h.get? a=some _ from x)
 |met f y=>exact aaG (show h.get? a=some _ from x)
 |ext φ=>obtain⟨_,⟨_,e⟩,_⟩:=x;exact aaG e
def Paired.jE{α β:Type}{F G:0059}{l₁:076}{l₂:List β}(h:Paired F l₁ l₂)(f:∀a b,F a b->G a b):Paired G l₁ l₂:=by
 induction h with
 |nil=>exact .nil
 |cons r t ih=>exact .cons (f _ _ r) ih
def eB.mL(x:eB P w H h a o)(k:∀b u,(b=a\/H b=some (.own a))->h.get? b=some u->h'.get? b=some u)(ho:∀b,H b=some (.own a)->H' b=some (.own a))(ht:∀b xs,H b=some 0064->H' b=some 0064):eB P w H' h' a o:=by
 induction o with
 |lst xs=>obtain⟨z,its,n,r,e⟩:=x;exact⟨z,its,n,r,k _ _ 094 e⟩
 |tup xs=>obtain⟨z,its,r,ob,e,c⟩:=x;exact⟨z,its,r,ob,k _ _ 094 e,c⟩
 |dK kvs=>obtain⟨z,y,vs,r,ob,es,ep,e,c⟩:=x;exact⟨z,y,vs,r,ob,es,ep,k _ _ 094 e,c⟩
 |dT kvs=>
  obtain⟨z,y,xs,r,ob,es,ep,e,c⟩:=x;exact⟨z,y,xs,Paired.jE r λp q z=>⟨z.1,ht _ _ z.2.1,z.2.2⟩,ob,es,ep,k _ _ 094 e,c⟩
 |set S n=>obtain⟨ob,es,ep,t,e,c⟩:=x;exact⟨ob,es,ep,t,k _ _ 094 e,c⟩
 |ins C dx fs=>
  obtain⟨d,z,ne,e,mA,⟨od,es,ep,e2,c⟩,r⟩:=x;exact⟨ho _ d,z,ne,k _ _ 094 e,mA,⟨od,es,ep,k _ _ (.inr d) e2,c⟩,r⟩
 |own y=>obtain⟨ob,e⟩:=x;exact⟨ob,k _ _ 094 e⟩
 |xd fs=>obtain⟨mA,⟨od,es,ep,e,c⟩,r⟩:=x;exact⟨mA,⟨od,es,ep,k _ _ 094 e,c⟩,r⟩
 |NT lo hi=>obtain⟨t,u,v,e⟩:=x;exact⟨t,u,v,k _ _ 094 e⟩
 |bK ob u ih=>obtain⟨e,q⟩:=x;exact⟨k _ _ 094 e,ih q⟩
 |De ps=>
  have e:h.get? a=some {cls:=.none,data:=.fields ps}:=x;show h'.get? a=some {cls:=.none,data:=.fields ps};exact k a _ 094 e
 |met f y=>
  have e:h.get? a=some (PySem.W.methodObj 081 (.ref y)):=x;show h'.get? a=some (PySem.W.methodObj 081 (.ref y));exact k a _ 094 e
 |ext φ=>obtain⟨p,⟨o,e⟩,st⟩:=x;exact⟨st _ _ p λo q=>k _ _ 094 q,⟨o,k _ _ 094 e⟩,st⟩
def gk.lt(x:0085)(e:H a=some o):a<h.objs.size:=(x a o e).lt
def gk.fresh(x:0085)(e:h.objs.size<=a):H a=none:=by
 cases q:H a with
 |none=>rfl
 |some u=>exact absurd (aaO (x.lt q) e) (abu _)
def gk.kept(x:0085)(k:∀b u,h.get? b=some u->h'.get? b=some u):gk P w H h':=λa o e=>
 (x a o e).mL (λb u _ q=>k b u q) (λ_ q=>q) λ_ _ q=>q
def gk.laid(x:0085)(k:∀b u,h.get? b=some u->h'.get? b=some u)(hp:h.objs.size<=a)(new:eB P w (upd H a o) h' a o):gk P w (upd H a o) h':=λb u e=>by
 have hn:=x.fresh hp;by_cases hb:b=a
 ·subst hb;rw[ah] at e;cases e;exact new
 ·rw[aj hb] at e;exact(x b u e).mL (λc v _ q=>k c v q) (λc q=>by rw[aj (aG q hn)];exact q) λc xs q=>by rw[aj (aG q hn)];exact q
end
def Rd(H:Hp)(a:Addr)(u:HO):Prop:=H a=some u\/∃o,H a=some (.bK o u)
def Rd.ok{P:027}{w:066}{H:Hp}{h:Heap}{a:Addr}{u:HO}(r:Rd H a u)(x:0085):eB P w H h a u:=by
 rcases r with r|⟨o,r⟩
 ·exact x a u r
 ·obtain⟨_,q⟩:=x a _ r;exact q
def sr:Option HO->Prop
 |some (.lst _)=>True
 |some (.dK _)=>True
 |some (.dT _)=>True
 |some (.set _ _)=>True
 |some (.ins _ _ _)=>True
 |some (.ext _)=>True
 |_=>False
section
variable{P:027}{w:066}{H:Hp}{h h':Heap}{x e:Addr}{o':HO}
def gk.write(ok:0085)(mu:sr (H x))(he:e=x\/H e=some (.own x))(k:∀b u,b≠e->h.get? b=some u->h'.get? b=some u)(heo:∃u,h'.get? e=some u)(new:eB P w (upd H x o') h' x o'):gk P w (upd H x o') h':=λb u q=>by
 have nown:∀c y,H c=some (.own y)->c≠x:=λc y r z=>by subst z;rw[r] at mu;exact mu
 have ntup:∀c xs,H c=some 0064->c≠x:=λc xs r z=>by subst z;rw[r] at mu;exact mu
 by_cases hb:b=x
 ·subst hb;rw[ah] at q;cases q;exact new
 ·rw[aj hb] at q;by_cases hbe:b=e
  ·have q':H b=some (.own x):=by
    rcases he with z|z
    ·exact absurd (hbe.trans z) hb
    ·rw[hbe];exact z
   rw[q] at q';cases q';obtain⟨v,hv⟩:=heo;exact⟨v,by rw[hbe];exact hv⟩
  ·refine(ok b u q).mL (λc v hc r=>k c v ?_ r) (λc r=>by rw[aj (nown c b r)];exact r) λc xs r=>by rw[aj (ntup c xs r)];exact r
   rcases hc with rfl|hc
   ·exact hbe
   ·rintro rfl;rcases he with z|z
    ·exact nown c b hc z
    ·rw[hc] at z;cases z;exact hb rfl
end
structure Un(fs ex:016)(H H':Hp)(h h':Heap):Prop where
 keep:∀b o,h.get? b=some o->H b=none->b∉fs->b∉ex->h'.get? b=some o
 slot:∀b o,h.get? b=some o->H b=none->b∈fs->b∉ex->∃sl,h'.get? b=some {o with slots:=sl}
 free:∀b o,h.get? b=some o->H b=none->b∉ex->H' b=none
 there:∀b o,h.get? b=some o->b∉ex->∃o',h'.get? b=some o'
 fP:∀b xs,H b=some 0064->H' b=some 0064
 eM:∀b o u,H b=some (.bK o u)->H' b=some (.bK o u)
 qA:∀b ps,H b=some (.De ps)->∃more,H' b=some (.De (ps++more))
section
variable{fs fs' ex ex':016}{H H1 H2:Hp}{h h1 h2 h':Heap}{a x e:Addr}{o:HO}
def Un.any(u:Un fs ex H H1 h h1){b:Addr}{ob:Obj}(q:h.get? b=some ob)(n:H b=none)(hx:b∉ex):∃sl,h1.get? b=some {ob with slots:=sl}:=by
 by_cases hb:b∈fs
 ·exact u.slot b ob q n hb hx
 ·exact⟨ob.slots,u.keep b ob q n hb hx⟩
def Un.kept(k:∀b u,h.get? b=some u->h'.get? b=some u):Un fs ex H H h h':=
 ⟨λb ob q _ _ _=>k b ob q,λb ob q _ _ _=>⟨ob.slots,k b ob q⟩,λ_ _ _ n _=>n,λb ob q _=>⟨ob,k b ob q⟩,λ_ _ q=>q,λ_ _ _ q=>q,λ_ ps q=>⟨#[],by rw[q];simp⟩⟩
def Un.refl:Un fs ex H H h h:=Un.kept λ_ _ q=>q
def Un.laid(k:∀b u,h.get? b=some u->h'.get? b=some u)(hp:h.objs.size<=a)(hn:H a=none):Un fs ex H (upd H a o) h h' where
 keep:=λb u q _ _ _=>k b u q
 slot:=λb u q _ _ _=>⟨u.slots,k b u q⟩
 free:=λb u q n _=>by rw[aj (aaM (aaO (aaG q) hp))];exact n
 there:=λb u q _=>⟨u,k b u q⟩
 fP:=λb xs q=>by rw[aj (aG q hn)];exact q
 eM:=λb u xs q=>by rw[aj (aG q hn)];exact q
 qA:=λb ps q=>⟨#[],by rw[aj (aG q hn),q];simp⟩
def Un.write(mu:sr (H x))(he:e=x\/H e=some (.own x))(k:∀b u,b≠e->h.get? b=some u->h'.get? b=some u)(heo:∃u,h'.get? e=some u):Un fs ex H (upd H x o) h h':=by
 have hx:∀b,H b=none->b≠x:=λb n z=>by subst z;rw[n] at mu;exact mu
 have hb:∀b,H b=none->b≠e:=λb n z=>by
  subst z;rcases he with r|r
  ·exact hx b n r
  ·rw[n] at r;cases r
 have hm:∀b u,H b=some u->¬sr (some u)->b≠x:=λb u q nm z=>by subst z;rw[q] at mu;exact nm mu
 refine⟨λb u q n _ _=>k b u (hb b n) q,λb u q n _ _=>⟨u.slots,k b u (hb b n) q⟩,λb u q n _=>by rw[aj (hx b n)];exact n,λb u q _=>?_,
  λb xs q=>by rw[aj (hm b _ q λz=>z)];exact q,λb u xs q=>by rw[aj (hm b _ q λz=>z)];exact q,λb ps q=>⟨#[],by rw[aj (hm b _ q λz=>z),q];simp⟩⟩
 by_cases hbe:b=e
 ·subst hbe;exact heo
 ·exact⟨u,k b u hbe q⟩
end
def LZ(h:Heap)(H:Hp):List Addr:=(List.range h.objs.size).filter λa=>(H a).isSome
def qW(h:Heap)(H:Hp):Heap:=PySem.W.hideAll h (LZ h H)
def JT(h:Heap)(H:Hp):(qW h H).objs.size=h.objs.size:=PySem.W.hideAll_size _ _
def Lc{h:Heap}{H:Hp}{b:Addr}{o:Obj}(e:h.get? b=some o)(n:H b=none):(qW h H).get? b=some o:=
 PySem.W.hideAll_get _ e λhm=>by
  have q:(H b).isSome=true:=(abH.mp hm).2;rw[n] at q;simp at q
def MC{h:Heap}{H:Hp}{b:Addr}{o:Obj}(e:(qW h H).get? b=some o):h.get? b=some o/\H b=none:=by
 have e':h.get? b=some o:=PySem.W.of_hideAll (LZ h H) e;refine⟨e',?_⟩
 cases q:H b with
 |none=>rfl
 |some x=>
  have hm:b∈LZ h H:=abH.mpr ⟨adx.mpr (aaG e'),by simp[q]⟩;have z:(qW h H).get? b=none:=PySem.W.hideAll_none (LZ h H) hm;rw[z] at e;cases e
structure Mod(K:05)(mg:005)(base:Heap):Prop where
 EV:K.In base
 glob:base.Ns mainGlobals mg
 blt:∃mb,base.Ns builtinsNs mb/\∀x:Str,x≠"__name__"->mb x=bootBuiltins x
 nolimit:base.NoLimit
structure Cx where
 prog:Program
 w:World
 K:PySem.W.Frag
 mg:Str->Option Value
 base:Heap
 A:Around
 N:List Str
 j6:Shared
 Bj:Hp
 env:Env
 outer:List Env
 stack:List Env
 ex:List Addr
 fn:Str->Bool
 calm:Bool
 pn:List (Addr×Obj)
 xe:Value->Shared->Prop
def lq(l:List Env):List Addr:=l.filterMap (·.frame)
abbrev Cx.fs(X:Cx):List Addr:=lq X.outer
def FD(sc:Scope)(x:Str):Prop:=sc.names.lookup x=some .local\/sc.names.lookup x=some .cell\/sc.names.lookup x=some .free
def Loc(sc:Scope)(x:Str):Prop:=sc.names.lookup x=some .local\/sc.names.lookup x=some .cell
def Look(env:Env)(h:Heap)(m:005)(x:Str)(u:0101):Prop:=
 (env.kindOf x=some .local/\m x=some u)\/((env.kindOf x=some .cell\/env.kindOf x=some .free)/\∃c,env.cells.lookup x=some c/\h.IsCell c (some u))
structure Cx.Ok(X:Cx):Prop where
 mod:Mod X.K X.mg X.base
 kind:X.env.scope.kind= .function
 glob:X.env.globals=mainGlobals
 blt:X.env.builtins=builtinsNs
 above:X.j6.heap.objs.size<=099
 inj:∀x y c,X.env.cells.lookup x=some c->X.env.cells.lookup y=some c->x=y
 has:∀x,(X.env.kindOf x=some .cell\/X.env.kindOf x=some .free)->∃c,X.env.cells.lookup x=some c
 JC:∀x c,X.fn x=true->X.env.cells.lookup x=some c->X.j6.heap.objs.size<=c
 hd:X.calm=true->X.A.handled=none
 frames:X.A.frames=some X.stack
 LQ:X.stack=X.outer\/(X.stack=X.env::X.outer/\X.env.frame=some 099)
 Me:∀b∈X.ex,b≠099/\∀x c,X.env.cells.lookup x=some c->c≠b
 bs:∀b o,X.base.get? b=some o->X.j6.heap.get? b=some o/\X.Bj b=none
 uQ:X.base.objs.size<=X.j6.heap.objs.size
 Ds:∀b o,X.base.get? b=some o->b∉X.ex
 Ce:∀b∈X.ex,b∉X.fs
 mI:X.j6.heap.FunFrames X.base X.outer
 AW:∀b∈X.fs,X.Bj b=none
structure Inv(X:Cx)(pins:003)(σ:List (Option V))(H:Hp)(s:0016):Prop where
 ok:X.Ok
 os:s.os=X.j6.os
 bare:AllBare s.gens
 base:Un X.fs X.ex X.Bj H X.j6.heap s.heap
 loc:∃m,s.heap.Ns X.env.locals m/\∀(i:Nat) (x:Str) (v:V),X.N[i]? =some x->σ[i]? =some (some v)->FD X.env.scope x->∃u,RelV v u/\Look X.env s.heap m x u
 cell:∀x c,X.env.cells.lookup x=some c->∃v,s.heap.IsCell c v
 free:H 099=none
 jl:∀x c,X.env.cells.lookup x=some c->H c=none
 pin:∀p∈X.pn++pins,s.heap.get? p.1=some p.2/\H p.1=none/\p.1≠099/\p.1∉X.fs/\∀v,p.2.data≠.cell v
 aX:gk X.prog X.w H s.heap
 len:σ.length=X.N.length
section
variable{X:Cx}{pins:003}{σ:List (Option V)}{H H':Hp}{s:0016}{h':Heap}
def Cx.Ok.RT(ok:X.Ok){b:Addr}{o:Obj}(e:X.base.get? b=some o):b∉X.fs:=λhb=>by
 have:=(ok.mI.mem hb).1;rw[e] at this;cases this
def Inv.bs(I:002):∀b o,X.base.get? b=some o->s.heap.get? b=some o/\H b=none:=λb o e=>
 ⟨I.base.keep b o (I.ok.bs b o e).1 (I.ok.bs b o e).2 (I.ok.RT e) (I.ok.Ds b o e),I.base.free b o (I.ok.bs b o e).1 (I.ok.bs b o e).2 (I.ok.Ds b o e)⟩
def Inv.bk(I:002):∀b o,X.base.get? b=some o->s.heap.get? b=some o:=λb o e=>(I.bs b o e).1
def Inv.mod(I:002):Mod X.K X.mg X.base:=I.ok.mod
def Inv.mN(I:002):X.K.In s.heap:=I.ok.mod.EV.keeps I.bk
def Inv.fr(I:002):∃m,Fr X.base X.env.locals s.heap m:=
 let⟨m,hn,_⟩:=I.loc
 ⟨m,hn,I.bk,aa8 I.ok.uQ I.ok.above⟩
def Inv.lt(I:002):099<08:=let⟨_,hn,_⟩:=I.loc;hn.lt
def Inv.sz(I:002):X.j6.heap.objs.size<=08:=aa8 I.ok.above (aeO I.lt)
def Inv.RY(I:002){a:Addr}(h:08<=a):a∉X.fs:=λhb=>by
 obtain⟨_,o,ho,_⟩:=I.ok.mI.mem hb;exact absurd (aaO (aaG ho) (aa8 I.sz h)) (abu _)
def Inv.Bq(I:002):∀x c,X.env.cells.lookup x=some c->c≠099:=λx c e z=>by
 obtain⟨v,o,ho,hd⟩:=I.cell x c e;obtain⟨m,⟨o',es,ep,ho',hd',_⟩,_⟩:=I.loc;rw[z,ho'] at ho;cases ho;rw[hd'] at hd;cases hd
def Inv.mI(I:002):s.heap.FunFrames X.base X.outer:=by
 have all:∀(l:List Env),(∀b∈lq l,b∈X.fs)->X.j6.heap.FunFrames X.base l->s.heap.FunFrames X.base l:=by
  intro l
  induction l with
  |nil=>intro _ _;trivial
  |cons env r ih=>
   intro hs hl;obtain⟨hk,⟨L,o,hf,hn,ho,hd⟩,hr⟩:=hl;have hL:L∈X.fs:=hs L (by unfold lq;rw[ad0,hf];exact aae);obtain⟨sl,e⟩:=I.base.slot L o ho (I.ok.AW L hL) hL λz=>I.ok.Ce L z hL;exact⟨hk,⟨L,_,hf,hn,e,hd⟩,ih (λb hb=>hs b (by unfold lq;rw[ad0,hf];exact aag _ hb)) hr⟩
 exact all X.outer (λ_ hb=>hb) I.ok.mI
def Inv.stack(I:002):s.heap.FunFrames X.base X.stack:=by
 rcases I.ok.LQ with e|⟨e,hf⟩
 ·rw[e];exact I.mI
 ·rw[e];obtain⟨m,hn,_⟩:=I.loc;refine .cons (by rw[I.ok.kind];decide) hf hn ?_ I.mI;exact Heap.get?_none_of_le (aa8 I.ok.uQ I.ok.above)
def Inv.Dk(I:002):∀b∈lq X.stack,b∈099::X.fs:=λb hb=>by
 rcases I.ok.LQ with e|⟨e,hf⟩
 ·rw[e] at hb;exact aag _ hb
 ·rw[e] at hb;unfold lq at hb;rw[ad0,hf] at hb;exact hb
def Inv.FN(I:002):∀b∈lq X.stack,H b=none:=λb hb=>by
 rcases aao.mp (I.Dk b hb) with e|hb
 ·rw[e];exact I.free
 ·obtain⟨_,o,ho,_⟩:=I.ok.mI.mem hb;exact I.base.free b o ho (I.ok.AW b hb) λz=>I.ok.Ce b z hb
def Inv.step{g':Array GenState}{t':Nat}{d':Drawn}{ch:016}(I:002)(hch:∀b∈ch,(b∈X.ex\/X.j6.heap.objs.size<=b)/\b≠099/\(∀x c,X.env.cells.lookup x=some c->c≠b)/\∀p∈X.pn++pins,p.1≠b)(keep:∀b o,b≠099->b∉X.fs->b∉ch->s.heap.get? b=some o->H b=none->h'.get? b=some o)(slot:∀b o,b≠099->b∈X.fs->b∉ch->s.heap.get? b=some o->H b=none->∃sl,h'.get? b=some {o with slots:=sl})(free:∀b o,b∉ch->s.heap.get? b=some o->H b=none->H' b=none)(there:∀b o,b∉ch->s.heap.get? b=some o->∃o',h'.get? b=some o')(fP:∀b xs,H b=some 0064->H' b=some 0064)(eM:∀b o u,H b=some (.bK o u)->H' b=some (.bK o u))(qA:∀b ps,H b=some (.De ps)->∃more,H' b=some (.De (ps++more)))(ns:∀m,s.heap.Ns X.env.locals m->h'.Ns X.env.locals m)(aX:gk X.prog X.w H' h')(hg:AllBare g'):Inv X pins σ H' {s with heap:=h',gens:=g',drawn:=d',toks:=t'}:=by
 have neL:∀b o,X.j6.heap.get? b=some o->b≠099:=λb o e=>aaM (aaO (aaG e) I.ok.above)
 have neC:∀b o,X.j6.heap.get? b=some o->b∉X.ex->b∉ch:=λb o e hx hb=>by
  rcases(hch b hb).1 with z|z
  ·exact hx z
  ·exact absurd (aaO (aaG e) z) (abu _)
 have cellK:∀x c,X.env.cells.lookup x=some c->∀v,s.heap.IsCell c v->h'.IsCell c v:=λx c e v ⟨o,ho,hd⟩=>by
  have nch:c∉ch:=λz=>(hch c z).2.2.1 x c e rfl;by_cases hc:c∈X.fs
  ·obtain⟨sl,q⟩:=slot c o (I.Bq x c e) hc nch ho (I.jl x c e);exact⟨_,q,hd⟩
  ·exact⟨o,keep c o (I.Bq x c e) hc nch ho (I.jl x c e),hd⟩
 refine⟨I.ok,I.os,hg,⟨λb o e n hb hx=>?_,λb o e n hb hx=>?_,λb o e n hx=>?_,λb o e hx=>?_,λb xs e=>fP b xs (I.base.fP b xs e),λb o xs e=>eM b o xs (I.base.eM b o xs e),λb ps e=>?_⟩,?_,λx c e=>?_,?_,λx c e=>?_,λp hp=>?_,aX,I.len⟩
 ·exact keep b o (neL b o e) hb (neC b o e hx) (I.base.keep b o e n hb hx) (I.base.free b o e n hx)
 ·obtain⟨sl,e1⟩:=I.base.slot b o e n hb hx;obtain⟨sl',e2⟩:=slot b _ (neL b o e) hb (neC b o e hx) e1 (I.base.free b o e n hx);exact⟨sl',e2⟩
 ·obtain⟨o',e1⟩:=I.base.there b o e hx;exact free b o' (neC b o e hx) e1 (I.base.free b o e n hx)
 ·obtain⟨o',e1⟩:=I.base.there b o e hx;exact there b o' (neC b o e hx) e1
 ·obtain⟨m1,e1⟩:=I.base.qA b ps e;obtain⟨m2,e2⟩:=qA b _ e1;exact⟨m1++m2,by rw[e2,Array.append_assoc]⟩
 ·obtain⟨m,hn,hl⟩:=I.loc;refine⟨m,ns m hn,λi x v e1 e2 e3=>?_⟩;obtain⟨u,r,l⟩:=hl i x v e1 e2 e3;refine⟨u,r,?_⟩;rcases l with l|⟨k,c,e,z⟩
  ·exact .inl l
  ·exact .inr ⟨k,c,e,cellK x c e _ z⟩
 ·obtain⟨v,z⟩:=I.cell x c e;exact⟨v,cellK x c e v z⟩
 ·obtain⟨m,⟨o,_,_,ho,_⟩,_⟩:=I.loc;exact free _ o (λz=>(hch _ z).2.1 rfl) ho I.free
 ·obtain⟨v,o,ho,hd⟩:=I.cell x c e;exact free c o (λz=>(hch c z).2.2.1 x c e rfl) ho (I.jl x c e)
 ·obtain⟨e,n,ne,nf,d⟩:=I.pin p hp;have nch:p.1∉ch:=λz=>(hch p.1 z).2.2.2 p hp rfl;exact⟨keep p.1 p.2 ne nf nch e n,free p.1 p.2 nch e n,ne,nf,d⟩
def Inv.un{t':Nat}(I:002)(u:Un X.fs [] H H' s.heap h')(aX:gk X.prog X.w H' h'):Inv X pins σ H' {s with heap:=h',toks:=t'}:=by
 obtain⟨m,⟨o,es,ep,ho,r⟩,_⟩:=id I.loc;obtain⟨sl,hL⟩:=u.any ho I.free 017
 exact I.step (g':=s.gens) (d':=s.drawn) (ch:=[]) (λ_ z=>nomatch z) (λb o _ hb _ e n=>u.keep b o e n hb 017) (λb o _ hb _ e n=>u.slot b o e n hb 017) (λb o _ e n=>u.free b o e n 017) (λb o _ e=>u.there b o e 017) u.fP u.eM u.qA (λm' hm=>by
  obtain⟨o',es',ep',ho',r'⟩:=hm;rw[ho] at ho';cases ho'
  exact⟨_,es',ep',hL,r'⟩) aX I.bare
def Inv.call{g':Array GenState}{t':Nat}{d':Drawn}{ch:016}(I:002)(u:Un (lq X.stack) ch H H' s.heap h')(aX:gk X.prog X.w H' h')(hg:AllBare g')(hch:∀b∈ch,(b∈X.ex\/X.j6.heap.objs.size<=b)/\b≠099/\(∀x c,X.env.cells.lookup x=some c->c≠b)/\∀p∈X.pn++pins,p.1≠b):Inv X pins σ H' {s with heap:=h',gens:=g',drawn:=d',toks:=t'}:=by
 obtain⟨m,⟨o,es,ep,ho,r⟩,_⟩:=id I.loc;obtain⟨sl,hL⟩:=u.any ho I.free λz=>(hch _ z).2.1 rfl
 exact I.step (ch:=ch) hch (λb o hL hb hc e n=>u.keep b o e n (λz=>(aao.mp (I.Dk b z)).elim hL hb) hc) (λb o _ _ hc e n=>u.any e n hc) (λb o hc e n=>u.free b o e n hc) (λb o hc e=>u.there b o e hc) u.fP u.eM u.qA (λm' hm=>by
  obtain⟨o',es',ep',ho',r'⟩:=hm;rw[ho] at ho';cases ho'
  exact⟨_,es',ep',hL,r'⟩) aX hg
def Inv.turned{t':Nat}{it:Addr}(I:002)(k:∀b o,b≠it->s.heap.get? b=some o->h'.get? b=some o)(hn:H it=none)(hL:it≠099)(h1:it∈X.ex\/X.j6.heap.objs.size<=it)(h2:∀x c,X.env.cells.lookup x=some c->c≠it)(h3:∀p∈X.pn++pins,p.1≠it):Inv X pins σ H {s with heap:=h',toks:=t'}:=by
 have nit:∀b u,H b=some u->b≠it:=λb u e z=>by rw[z,hn] at e;cases e
 refine I.step (g':=s.gens) (d':=s.drawn) (ch:=[it]) (λb hb=>?_) (λb o _ _ hc e _=>k b o (λz=>hc (by simp[z])) e) (λb o _ _ hc e _=>⟨o.slots,k b o (λz=>hc (by simp[z])) e⟩) (λ_ _ _ _ n=>n)
  (λb o hc e=>⟨o,k b o (λz=>hc (by simp[z])) e⟩) (λ_ _ e=>e) (λ_ _ _ e=>e) (λb ps e=>⟨#[],by rw[e];simp⟩) (λm hm=>?_) (λb u e=>?_) I.bare
 ·sleep 022;exact⟨h1,hL,h2,h3⟩
 ·obtain⟨o,es,ep,ho,r⟩:=hm;exact⟨o,es,ep,k _ o (abl hL) ho,r⟩
 ·refine(I.aX b u e).mL (λc v hc q=>k c v ?_ q) (λ_ q=>q) λ_ _ q=>q;rcases hc with z|z
  ·rw[z];exact nit b u e
  ·exact nit c _ z
def Inv.tok(I:002)(t:Nat):Inv X pins σ H {s with toks:=t}:=I.un (h':=s.heap) (t':=t) Un.refl I.aX
def Inv.kept{t':Nat}(I:002)(k:∀b u,s.heap.get? b=some u->h'.get? b=some u):Inv X pins σ H {s with heap:=h',toks:=t'}:=I.un (Un.kept k) (I.aX.kept k)
def Inv.laid{a:Addr}{o:HO}{t':Nat}(I:002)(k:∀b u,s.heap.get? b=some u->h'.get? b=some u)(hp:08<=a)(new:eB X.prog X.w (upd H a o) h' a o):Inv X pins σ (upd H a o) {s with heap:=h',toks:=t'}:=I.un (Un.laid k hp (I.aX.fresh hp)) (I.aX.laid k hp new)
def Inv.write{x e:Addr}{o:HO}{t':Nat}(I:002)(mu:sr (H x))(he:e=x\/H e=some (.own x))(k:∀b u,b≠e->s.heap.get? b=some u->h'.get? b=some u)(heo:∃u,h'.get? e=some u)(new:eB X.prog X.w (upd H x o) h' x o):Inv X pins σ (upd H x o) {s with heap:=h',toks:=t'}:=I.un (Un.write mu he k heo) (I.aX.write mu he k heo new)
def Inv.weak{σ':List (Option V)}(I:002)(hl:σ'.length=σ.length)(w:∀(i:Nat) v,σ'[i]? =some (some v)->σ[i]? =some (some v)):Inv X pins σ' H s:=
 ⟨I.ok,I.os,I.bare,I.base,let⟨m,hn,hl'⟩:=I.loc;⟨m,hn,λi x v e1 e2 e3=>hl' i x v e1 (w i v e2) e3⟩,I.cell,I.free,I.jl,I.pin,I.aX,hl.trans I.len⟩
def Inv.FJ{pins':003}(I:002)(h:∀p∈pins',s.heap.get? p.1=some p.2/\H p.1=none/\p.1≠099/\p.1∉X.fs/\∀v,p.2.data≠.cell v):Inv X pins' σ H s:=
 ⟨I.ok,I.os,I.bare,I.base,I.loc,I.cell,I.free,I.jl,λp hp=>(aax.mp hp).elim (λz=>I.pin p (abc _ z)) (h p),I.aX,I.len⟩
def vJ{N:087}(hN:N.Nodup){i j:Nat}{x:Str}(a:N[i]? =some x)(b:N[j]? =some x):i=j:=by
 obtain⟨h1,e1⟩:=aad.mp a;obtain⟨h2,e2⟩:=aad.mp b;exact(acR hN).mp (e1.trans e2.symm)
def zi{M:Model}{A:061}{E:09}{i:Nat}{x:Str}{v:V}{u:0101}{Q:Unit->Shared->Prop}(I:002)(hN:X.N.Nodup)(hi:X.N[i]? =some x)(hx:Loc X.env.scope x)(r:RelV v u)(h:∀s',Inv X pins (σ.set i (some v)) H s'->(∃a,Heap.SameBut a s.heap s'.heap/\(a=099\/X.env.cells.lookup x=some a))->Q () s')(hf:X.fn x=true\/X.env.scope.names.lookup x=some .local:=by first|exact .inl rfl|exact .inr rfl|assumption):wpAny M A (storeName X.env x u) Q E s:=by
 obtain⟨m,hn,hl⟩:=id I.loc;have hcls:(X.env.scope.kind== .class||(X.env.scope.kind== .module&&099 !=X.env.globals))=false:=by rw[I.ok.kind];rfl
 have hiσ:i<σ.length:=by rw[I.len];exact(aad.mp hi).1
 have Bq:=I.Bq
 have tracked:∀{a:Addr} {h':Heap},(∃o,s.heap.get? a=some o/\H a=none)->Heap.SameBut a s.heap h'->gk X.prog X.w H h':=λ{a h'} ha hs b ob e=>by
  obtain⟨_,_,hfree⟩:=ha;refine(I.aX b ob e).mL (λc w' hc q=>(hs.2 c ?_).trans q) (λ_ q=>q) λ_ _ q=>q;rintro rfl;rcases hc with rfl|hc
  ·rw[hfree] at e;cases e
  ·rw[hfree] at hc;cases hc
 rcases hx with hk|hk
 ·refine wpAny_storeName_local hk hn (λh' hn' hs=>?_) hcls;obtain⟨oL,_,_,hoL,_⟩:=id hn;refine h _ ⟨I.ok,I.os,I.bare,⟨λb o e n hb hx=>?_,λb o e n hb hx=>?_,I.base.free,λb o e hx=>?_,I.base.fP,I.base.eM,I.base.qA⟩,⟨_,hn',λj y v' e1 e2 e3=>?_⟩,λy c e=>?_,I.free,I.jl,λp hp=>?_,tracked ⟨oL,hoL,I.free⟩ hs,by simpa using I.len⟩ ⟨_,hs,.inl rfl⟩
  ·exact(hs.2 b (aaM (aaO (aaG e) I.ok.above))).trans (I.base.keep b o e n hb hx)
  ·obtain⟨sl,e1⟩:=I.base.slot b o e n hb hx;exact⟨sl,(hs.2 b (aaM (aaO (aaG e) I.ok.above))).trans e1⟩
  ·obtain⟨o',e1⟩:=I.base.there b o e hx;exact⟨o',(hs.2 b (aaM (aaO (aaG e) I.ok.above))).trans e1⟩
  ·by_cases hj:j=i
   ·subst hj;rw[hi] at e1;cases e1;rw[acA hiσ] at e2;cases e2;exact⟨u,r,.inl ⟨hk,0104⟩⟩
   ·rw[acN (abl hj)] at e2;obtain⟨u',r',q⟩:=hl j y v' e1 e2 e3;refine⟨u',r',?_⟩;rcases q with⟨k,e⟩|⟨k,c,e,z⟩
    ·refine .inl ⟨k,?_⟩;have:y≠x:=λe=>hj (vJ hN e1 (e▸hi));simp[this,e]
    ·exact .inr ⟨k,c,e,z.sameBut hs (Bq y c e)⟩
  ·obtain⟨w',z⟩:=I.cell y c e;exact⟨w',z.sameBut hs (Bq y c e)⟩
  ·obtain⟨e,n,ne,nf,d⟩:=I.pin p hp;exact⟨(hs.2 p.1 ne).trans e,n,ne,nf,d⟩
 ·have hfn:X.fn x=true:=by
   rcases hf with z|z
   ·exact z
   ·rw[z] at hk;cases hk
  obtain⟨c,hc⟩:=I.ok.has x (.inl hk);obtain⟨w',z⟩:=I.cell x c hc;refine wpAny_storeName_cell I.ok.kind hk hc z (λh' hc' hs=>?_);obtain⟨oc,hoc,hocd⟩:=id z;refine h {s with heap:=h'} ⟨I.ok,I.os,I.bare,⟨λb o e n hb hx=>?_,λb o e n hb hx=>?_,I.base.free,λb o e hx=>?_,I.base.fP,I.base.eM,I.base.qA⟩,⟨m,hn.sameBut hs (abl (Bq x c hc)),λj y v' e1 e2 e3=>?_⟩,λy c' e=>?_,I.free,I.jl,λp hp=>?_,tracked ⟨oc,hoc,I.jl x c hc⟩ hs,by simpa using I.len⟩ ⟨c,hs,.inr hc⟩
  ·exact(hs.2 b (aaM (aaO (aaG e) (I.ok.JC x c hfn hc)))).trans (I.base.keep b o e n hb hx)
  ·obtain⟨sl,e1⟩:=I.base.slot b o e n hb hx;exact⟨sl,(hs.2 b (aaM (aaO (aaG e) (I.ok.JC x c hfn hc)))).trans e1⟩
  ·obtain⟨o',e1⟩:=I.base.there b o e hx;exact⟨o',(hs.2 b (aaM (aaO (aaG e) (I.ok.JC x c hfn hc)))).trans e1⟩
  ·by_cases hj:j=i
   ·subst hj;rw[hi] at e1;cases e1;rw[acA hiσ] at e2;cases e2;exact⟨u,r,.inr ⟨.inl hk,c,hc,hc'⟩⟩
   ·rw[acN (abl hj)] at e2;obtain⟨u',r',q⟩:=hl j y v' e1 e2 e3;refine⟨u',r',?_⟩;rcases q with q|⟨k,c',e,z'⟩
    ·exact .inl q
    ·refine .inr ⟨k,c',e,z'.sameBut hs ?_⟩;rintro rfl;exact hj (vJ hN e1 (I.ok.inj _ _ _ e hc▸hi))
  ·by_cases hcc:c'=c
   ·subst hcc;exact⟨_,hc'⟩
   ·obtain⟨w2,z2⟩:=I.cell y c' e;exact⟨w2,z2.sameBut hs hcc⟩
  ·obtain⟨e,n,ne,nf,d⟩:=I.pin p hp;refine⟨(hs.2 p.1 ?_).trans e,n,ne,nf,d⟩;intro q;rw[q,hoc] at e;have q':oc=p.2:=aac e;exact d w' (by rw[<-q'];exact hocd)
def CN{M:Model}{A:061}{E:09}{i:Nat}{x:Str}{v:V}{u:0101}{Q:Unit->Shared->Prop}(I:002)(hN:X.N.Nodup)(hi:X.N[i]? =some x)(hx:Loc X.env.scope x)(r:RelV v u)(h:∀s',Inv X pins (σ.set i (some v)) H s'->Q () s')(hf:X.fn x=true\/X.env.scope.names.lookup x=some .local:=by first|exact .inl rfl|exact .inr rfl|assumption):wpAny M A (storeName X.env x u) Q E s:=
 zi I hN hi hx r (λs' I' _=>h s' I') hf
def Inv.QB{s':0016}{ch:016}(I:002)(ho:s'.os=s.os)(u:Un (lq X.stack) ch H H' s.heap s'.heap)(aX:gk X.prog X.w H' s'.heap)(hg:AllBare s'.gens)(hch:∀b∈ch,(b∈X.ex\/X.j6.heap.objs.size<=b)/\b≠099/\(∀x c,X.env.cells.lookup x=some c->c≠b)/\∀p∈X.pn++pins,p.1≠b):Inv X pins σ H' s':=by
 obtain⟨h',g',d',t',o'⟩:=s';have e:o'=s.os:=ho;subst e;exact I.call (g':=g') (t':=t') (d':=d') u aX hg hch
end
abbrev XK:=Value->Option Addr->Hp->Prop
abbrev St:=List (Option V)
abbrev VK:=V->Hp->Prop
abbrev TE:=St->Hp->VK->Prop
abbrev TT:=St->Hp->(Bool->Hp->Prop)->Prop
abbrev TA:=St->Hp->(List V->Hp->Prop)->Prop
structure Ends where
 nx:St->Hp->Prop
 rt:VK
 bk:St->Hp->Prop:=λ_ _=>False
 ct:St->Hp->Prop:=λ_ _=>False
abbrev TS:=Ends->St->Hp->Prop
inductive EP(X:Cx)(pins:003)(σ:St)(Q:VK)(u:0101)(s':0016):Prop
 |mk(v:V)(H':Hp)(_:Inv X pins σ H' s')(_:RelV v u)(_:Q v H')
inductive TP(X:Cx)(pins:003)(σ:St)(Q:0081)(b:Bool)(s':0016):Prop
 |mk(H':Hp)(_:Inv X pins σ H' s')(_:Q b H')
inductive AP(X:Cx)(pins:003)(σ:St)(Q:List V->Hp->Prop)(us:007)(s':0016):Prop
 |mk(vs:0012)(H':Hp)(_:Inv X pins σ H' s')(_:Vals vs us)(_:Q vs H')
inductive NP(X:Cx)(pins:003)(q:St->Hp->Prop)(s':0016):Prop
 |mk(σ':St)(H':Hp)(_:Inv X pins σ' H' s')(_:q σ' H')
inductive RP(X:Cx)(pins:003)(q:VK)(u:0101)(s':0016):Prop
 |mk(v:V)(σ':St)(H':Hp)(_:Inv X pins σ' H' s')(_:RelV v u)(_:q v H')
def SP(X:Cx)(pins:003)(D:Ends)(f:Flow)(s':0016):Prop:=
 match f with
 |.next=>NP X pins D.nx s'
 |.brk=>NP X pins D.bk s'
 |.cont=>NP X pins D.ct s'
 |.ret u=>RP X pins D.rt u s'
def PE(X:Cx)(e:Expr)(t:TE):Prop:=
 ∀(pins:003) (s:0016) (σ:St) (H:Hp) (Q:VK),Inv X pins σ H s->t σ H Q->wpAny 004 X.A (eval e X.env) 0054 X.xe s
def PT(X:Cx)(e:Expr)(t:TT):Prop:=
 ∀(pins:003) (s:0016) (σ:St) (H:Hp) (Q:0081),Inv X pins σ H s->t σ H Q->wpAny 004 X.A (isTrue e X.env (eval e X.env)) (TP X pins σ Q) X.xe s
def PW(X:Cx)(e:Expr)(t:TT):Prop:=
 ∀(whole:Sem Value) (pins:003) (s:0016) (σ:St) (H:Hp) (Q:0081),Inv X pins σ H s->t σ H Q->wpAny 004 X.A (isTrue e X.env whole) (TP X pins σ Q) X.xe s
def PW.pt{X:Cx}{e:Expr}{t:TT}(h:PW X e t):PT X e t:=h _
def PA(X:Cx)(es:0062)(t:TA):Prop:=
 ∀(pos:Pos) (pins:003) (s:0016) (σ:St) (H:Hp) (Q:List V->Hp->Prop),Inv X pins σ H s->t σ H Q->wpAny 004 X.A (spliced (backTo pos 069)) (AP X pins σ Q) X.xe s
def PS(X:Cx)(st:Stmt)(t:TS):Prop:=
 ∀(pins:003) (s:0016) (σ:St) (H:Hp) (D:Ends),Inv X pins σ H s->t D σ H->wpAny 004 X.A (exec st X.env) (SP X pins D) X.xe s
def lX(X:Cx)(st:List Stmt)(t:TS):Prop:=
 ∀(pins:003) (s:0016) (σ:St) (H:Hp) (D:Ends),Inv X pins σ H s->t D σ H->wpAny 004 X.A (execs st X.env) (SP X pins D) X.xe s
def bq{α:Type}{t:Sem α}{Q Q':α->Shared->Prop}{M:Model}{A:061}{E:09}{s:0016}(h:wpAny M A t Q E s)(hQ:∀a s,Q a s->Q' a s):wpAny M A t Q' E s:=ab6 h hQ λ_ _ x=>x
section
variable{X:Cx}
def bin{a b:Expr}{ta tb:TE}(ha:PE X a ta)(hb:PE X b tb){pins:003}{s:0016}{σ:St}{H:Hp}{R:V->V->Hp->Prop}(I:002)(h:ta σ H λx H1=>tb σ H1 λy H2=>R x y H2){α:Type}{Q:α->Shared->Prop}{f:Value->Value->Sem α}(hf:∀v u s2 x y H2,Inv X pins σ H2 s2->RelV x v->RelV y u->R x y H2->wpAny 004 X.A (f v u) Q X.xe s2):wpAny 004 X.A (eval a X.env) (λv s₁=>wpAny 004 X.A (eval b X.env) (λu s₂=>wpAny 004 X.A (f v u) Q X.xe s₂) X.xe s₁) X.xe s:=by
 refine bq 0031 λv s1 ⟨x,H1,I1,r1,q1⟩=>?_;refine bq (hb pins s1 σ H1 _ I1 q1) λu s2 ⟨y,H2,I2,r2,q2⟩=>?_;exact hf v u s2 x y H2 I2 r1 r2 q2
def kI(x:V)(q:Bool->Prop):Prop:=match x with|.bl k=>q k|_=>False
def kI.out{x:V}{q:Bool->Prop}(h:kI x q):∃k,x= .bl k/\q k:=by
 cases x<;>first|exact False.elim h|exact⟨_,rfl,h⟩
def lj(o:Option (Option V))(q:V->Prop):Prop:=match o with|some (some v)=>q v|_=>False
def lj.out{o:Option (Option V)}{q:V->Prop}(h:lj o q):∃v,o=some (some v)/\q v:=by
 rcases o with _|_|v
 ·exact False.elim h
 ·exact False.elim h
 ·exact⟨v,rfl,h⟩
def C7(x y:V)(q:Int->Int->Prop):Prop:=match x,y with|.int i,.int j=>q i j|_,_=>False
def C7.out{x y:V}{q:Int->Int->Prop}(h:C7 x y q):∃i j,x= .int i/\y= .int j/\q i j:=by
 cases x<;>first|exact False.elim h|(cases y<;>first|exact False.elim h|exact⟨_,_,rfl,rfl,h⟩)
def kC(i:Nat):TE:=λσ H Q=>lj σ[i]? λv=>Q v H
def tC(v:V):TE:=λ_ H Q=>Q v H
def IK{i:Nat}{x:Str}{pos:Pos}(hN:X.N[i]? =some x)(hv:FD X.env.scope x)(hd:039=false:=by decide)(gD:(x==("__classdict__":Str))=false:=by decide):PE X (.Name x pos) (kC i):=by
 sleep 002;obtain⟨v,e,h⟩:=lj.out h;obtain⟨m,hn,hl⟩:=I.loc;obtain⟨u,r,l⟩:=hl i x v hN e hv;have fin:EP X pins σ Q u s:=⟨v,H,I,r,h⟩;rcases l with⟨hk,hm⟩|⟨hk,c,hc,hcell⟩
 ·exact wpAny_Name (wpAny_loadName_local I.ok.kind hk hn hm fin) hd
 ·rcases hk with hk|hk
  ·exact wpAny_Name (wpAny_loadName_cell I.ok.kind hk hc hcell fin) hd
  ·exact wpAny_Name (wpAny_loadName_free I.ok.kind hk hc hcell fin gD) hd
def aA{i j pos}:PE X (.Constant (.int i) j pos) (tC (.int i)):=λ_ _ _ H _ I h=>wpAny_Constant_int ⟨.int i,H,I.tok _,⟨_,rfl⟩,h⟩
def m4{b j pos}:PE X (.Constant (.bool b) j pos) (tC (.bl b)):=λ_ _ _ H _ I h=>Constant_bool ⟨.bl b,H,I,rfl,h⟩
def Jw{j pos}:PE X (.Constant .none j pos) (tC .bS):=λ_ _ _ H _ I h=>Constant_none ⟨.bS,H,I,rfl,h⟩
def Gl(X:Cx)(x:Str):Prop:=X.env.kindOf x=some .globalImplicit
def uw{E:09}{pins:003}{s:0016}{σ:St}{H:Hp}{x:Str}{u:0101}{pos:Pos}{Q:09}(I:002)(hg:Gl X x)(hm:X.mg x=some u)(h:Q u s)(hd:039=false:=by decide):wpAny 004 X.A (eval (.Name x pos) X.env) Q E s:=
 Calls.Name_function_global I.ok.kind hg (Calls.loadGlobal_global (by rw[I.ok.glob];exact I.mod.glob.keeps I.bk) hm h) hd
def kX{E:09}{pins:003}{s:0016}{σ:St}{H:Hp}{x:Str}{u:0101}{pos:Pos}{Q:09}(I:002)(hg:Gl X x)(hm:X.mg x=none)(hv:bootBuiltins x=some u)(h:Q u s)(hn:x≠"__name__":=by decide)(hd:039=false:=by decide):wpAny 004 X.A (eval (.Name x pos) X.env) Q E s:=by
 obtain⟨mb,h1,h2⟩:=I.mod.blt;exact Calls.Name_function_global I.ok.kind hg (Calls.loadGlobal_builtin (by rw[I.ok.glob];exact I.mod.glob.keeps I.bk) hm (by rw[I.ok.blt];exact h1.keeps I.bk) ((h2 x hn).trans hv) h) hd
def yg{x:Str}{v:V}{u:0101}{pos:Pos}(hg:Gl X x)(hm:X.mg x=some u)(r:RelV v u)(hd:039=false:=by decide):PE X (.Name x pos) (tC v):=
 λ_ _ _ H _ I h=>uw I hg hm ⟨v,H,I,r,h⟩ hd
variable{a b:Expr}{ta tb:TE}{pos:Pos}
def PC(X:Cx)(op:CmpOp)(a b:Expr)(t:TE):Prop:=
 ∀(pins:003) (s:0016) (σ:St) (H:Hp) (Q:VK),Inv X pins σ H s->t σ H Q->
  wpAny 004 X.A (eval a X.env) (λv s₁=>wpAny 004 X.A (eval b X.env) (λu s₂=>wpAny 004 X.A (compareOp op v u) 0054 X.xe s₂) X.xe s₁) X.xe s
def tB(t:TE):TT:=λσ H Q=>t σ H λx H1=>kI x λc=>Q c H1
def hJ{op:CmpOp}{t:TE}(h:PC X op a b t)(h1:behindInMarks op b=false:=by first|exact nobehind _ (by decide) (by decide)|rfl):PT X (.Compare a [op] [b] pos) (tB t):=by
 intro pins s σ H Q I hw;refine wpAny_isTrue_Compare1 (bq (h pins s σ H _ I hw) λv s1 h1=>bq h1 λu s2 h2=>bq h2 λc s3 ⟨x,H1,I1,r1,q1⟩=>?_) h1;obtain⟨d,rfl,q⟩:=kI.out q1;cases r1;exact abM ⟨H1,I1,q⟩
def br{e:Expr}{t:TE}(h:PE X e t)(he:∀whole,isTrue e X.env whole=(do let v<-whole;standAt e.pos;holding [v] (truthy v)):=by intro _;rfl):PT X e (tB t):=by
 intro pins s σ H Q I hw;refine isTrue_plain (bq (h pins s σ H _ I hw) λv s1 ⟨x,H1,I1,r1,q1⟩=>?_) (he _);obtain⟨d,rfl,q⟩:=kI.out q1;cases r1;exact abM ⟨H1,I1,q⟩
variable{tA tB':TT}{rest:0062}
def Ol(t u:TT):TT:=λσ H Q=>t σ H λc H1=>if c=true then u σ H1 Q else Q false H1
def Rz(t u:TT):TT:=λσ H Q=>t σ H λc H1=>if c=true then Q true H1 else u σ H1 Q
def O2(t:TT):TT:=λσ H Q=>t σ H λc H1=>Q (!c) H1
def yk(ha:PT X a tA):PW X (.BoolOp .And [a] pos) tA:=by
 intro wh pins s σ H Q I h;refine isTrue_and (bq (ha pins s σ H Q I h) λc s1 e=>?_)
 cases c with
 |true=>exact isTrue_and_nil e
 |false=>exact e
def gz(ha:PT X a tA):PW X (.BoolOp .Or [a] pos) tA:=by
 intro wh pins s σ H Q I h;refine isTrue_or (bq (ha pins s σ H Q I h) λc s1 e=>?_)
 cases c with
 |false=>exact isTrue_or_nil e
 |true=>exact e
def Ba(ha:PT X a tA)(hb:PW X (.BoolOp .And (b::rest) pos) tB'):PW X (.BoolOp .And (a::b::rest) pos) (Ol tA tB'):=by
 intro wh pins s σ H Q I h;refine isTrue_and (bq 0031 λc s1 ⟨H1,I1,q1⟩=>?_)
 cases c with
 |true=>exact hb wh pins s1 σ H1 Q I1 q1
 |false=>exact⟨H1,I1,q1⟩
def gq(ha:PT X a tA)(hb:PW X (.BoolOp .Or (b::rest) pos) tB'):PW X (.BoolOp .Or (a::b::rest) pos) (Rz tA tB'):=by
 intro wh pins s σ H Q I h;refine isTrue_or (bq 0031 λc s1 ⟨H1,I1,q1⟩=>?_)
 cases c with
 |true=>exact⟨H1,I1,q1⟩
 |false=>exact hb wh pins s1 σ H1 Q I1 q1
def bT(ha:PT X a tA):PT X (.UnaryOp .Not a pos) (O2 tA):=by
 sleep 002;exact isTrue_not (bq (ha pins s σ H (λc H1=>Q (!c) H1) I h) λc s1 ⟨H1,I1,q⟩=>⟨H1,I1,q⟩)
def LK(ta tb:TE):TE:=λσ H Q=>ta σ H λx H1=>kI x λc=>if c=true then tb σ H1 Q else Q (.bl false) H1
def Pw(ta tb:TE):TE:=λσ H Q=>ta σ H λx H1=>kI x λc=>if c=true then Q (.bl true) H1 else tb σ H1 Q
def pT{op}{t:TE}(h:PE X a t):PE X (.BoolOp op [a] pos) t:=λpins s σ H Q I hw=>BoolOp_one (h pins s σ H Q I hw)
def sg(ha:PE X a ta)(hb:PE X (.BoolOp .And (b::rest) pos) tb):PE X (.BoolOp .And (a::b::rest) pos) (LK ta tb):=by
 sleep 002;refine BoolOp_and (bq 0031 λv s1 ⟨x,H1,I1,r1,q1⟩=>?_);obtain⟨c,rfl,q1⟩:=kI.out q1;cases r1;refine abM ?_
 cases c with
 |true=>exact hb pins s1 σ H1 Q I1 q1
 |false=>exact⟨.bl false,H1,I1,rfl,q1⟩
def Rn(ha:PE X a ta)(hb:PE X (.BoolOp .Or (b::rest) pos) tb):PE X (.BoolOp .Or (a::b::rest) pos) (Pw ta tb):=by
 sleep 002;refine BoolOp_or (bq 0031 λv s1 ⟨x,H1,I1,r1,q1⟩=>?_);obtain⟨c,rfl,q1⟩:=kI.out q1;cases r1;refine abM ?_
 cases c with
 |false=>exact hb pins s1 σ H1 Q I1 q1
 |true=>exact⟨.bl true,H1,I1,rfl,q1⟩
def Ry(t:TT)(ta tb:TE):TE:=λσ H Q=>t σ H λc H1=>if c=true then ta σ H1 Q else tb σ H1 Q
def jk{c:Expr}(hc:PT X c tA)(ha:PE X a ta)(hb:PE X b tb):PE X (.IfExp c a b pos) (Ry tA ta tb):=by
 sleep 002;refine wpAny_IfExp (bq (hc pins s σ H _ I h) λd s1 ⟨H1,I1,q1⟩=>?_)
 cases d with
 |true=>exact ha pins s1 σ H1 Q I1 q1
 |false=>exact hb pins s1 σ H1 Q I1 q1
end
def ax(K:05)(H:Hp)(a:Addr)(xs:0012):Prop:=
 Rd H a 0090\/
  ∃(o:Obj) (its:095) (n:Nat),K.lookup a=some o/\o.cls= .type "list"/\o.dict=none/\o.data= .seq its n/\its.size<=sizeLine/\Vals xs its.toList
def bw(K:05)(H:Hp)(a:Addr)(xs:0012):Prop:=
 Rd H a 0064\/
  ∃(o:Obj) (its:095) (n:Nat),K.lookup a=some o/\o.cls= .type "tuple"/\o.data= .seq its n/\its.size<=sizeLine/\Vals xs its.toList
def RO:Value->Option V
 |.none=>some .bS
 |.bool b=>some (.bl b)
 |.int i _=>some (.int i)
 |.str x _=>some (.str x)
 |.bytes b _=>some (.mU b)
 |.float b _=>some (.flt b)
 |.ref a=>some 046
 |.type n=>some (.ty n)
 |_=>none
def RelV.abs{x:V}{u:0101}(r:RelV x u):RO u=some x:=by
 cases x with
 |bS=>cases r;rfl
 |bl _=>cases r;rfl
 |int _=>obtain⟨t,rfl⟩:=r;rfl
 |str _=>obtain⟨t,rfl⟩:=r;rfl
 |mU _=>obtain⟨t,rfl⟩:=r;rfl
 |flt _=>obtain⟨t,rfl⟩:=r;rfl
 |ref _=>cases r;rfl
 |ty _=>cases r;rfl
def RelV.inj{x y:V}{u:0101}(r:RelV x u)(q:RelV y u):x=y:=aac (r.abs.symm.trans q.abs)
def Vals.inj{xs ys:0012}{us:007}(h:Vals xs us)(h':Vals ys us):xs=ys:=by
 induction h generalizing ys with
 |nil=>cases h';rfl
 |cons r t ih=>
  cases h' with
  |cons r' t'=>rw[r.inj r',ih t']
section
variable{X:Cx}{pins:003}{σ:St}{H:Hp}{s:0016}{a:Addr}{xs ys:0012}
def ax.of{K:05}(h:H a=some 0090):ax K H a xs:=.inl (.inl h)
def bw.of{K:05}(h:H a=some 0064):bw K H a xs:=.inl (.inl h)
def Inv.list(I:002)(h:ax X.K H a xs):∃its:List Value,Vals xs its/\PlainL s.heap a 0038/\009<=sizeLine:=by
 rcases h with h|⟨o,its,n,hk,hc,hd,hs,hz,r⟩
 ·obtain⟨z,its,n,r,e⟩:=h.ok I.aX;exact⟨its,r,⟨_,n,e,rfl,rfl,rfl⟩,z⟩
 ·refine⟨its.toList,r,⟨o,n,I.mN a o hk,hc,hd,by simpa using hs⟩,?_⟩;have e:=r.length;simp only[aaE] at e;omega
def Inv.tuple(I:002)(h:bw X.K H a xs):∃its:List Value,Vals xs its/\IsTup s.heap a 0038/\009<=sizeLine:=by
 rcases h with h|⟨o,its,n,hk,hc,hs,hz,r⟩
 ·obtain⟨z,its,r,p⟩:=h.ok I.aX;exact⟨its,r,p,z⟩
 ·refine⟨its.toList,r,⟨o,I.mN a o hk,hc,n,by simpa using hs⟩,?_⟩;have e:=r.length;simp only[aaE] at e;omega
def Inv.vq(I:002)(h:ax X.K H a xs)(h':ax X.K H a ys):xs=ys:=by
 obtain⟨its,r,⟨o,n,e,_,_,d⟩,_⟩:=I.list h;obtain⟨its',r',⟨o',n',e',_,_,d'⟩,_⟩:=I.list h';rw[e] at e';cases e';rw[d] at d';injection d' with d1 _;have:its=its':=by simpa using aby Array.toList d1
 subst this;exact r.inj r'
def Inv.Kl(I:002)(h:bw X.K H a xs)(h':bw X.K H a ys):xs=ys:=by
 obtain⟨its,r,⟨o,e,_,n,d⟩,_⟩:=I.tuple h;obtain⟨its',r',⟨o',e',_,n',d'⟩,_⟩:=I.tuple h';rw[e] at e';cases e';rw[d] at d';injection d' with d1 _;have:its=its':=by simpa using aby Array.toList d1
 subst this;exact r.inj r'
end
abbrev Cx.oY(X:Cx)(E:09):Cx:={X with xe:=E}
abbrev Cx.zg(X:Cx):Cx:=X.oY λ_ _=>False
def Cx.Ok.oY{X:Cx}(ok:X.Ok)(E:09):(X.oY E).Ok:=
 ⟨ok.mod,ok.kind,ok.glob,ok.blt,ok.above,ok.inj,ok.has,ok.JC,ok.hd,ok.frames,ok.LQ,ok.Me,ok.bs,ok.uQ,ok.Ds,ok.Ce,ok.mI,ok.AW⟩
def Cx.Ok.mw{X:Cx}{E:09}(ok:(X.oY E).Ok):X.Ok:=
 ⟨ok.mod,ok.kind,ok.glob,ok.blt,ok.above,ok.inj,ok.has,ok.JC,ok.hd,ok.frames,ok.LQ,ok.Me,ok.bs,ok.uQ,ok.Ds,ok.Ce,ok.mI,ok.AW⟩
section
variable{X:Cx}{pins:003}{σ:St}{H:Hp}{s:0016}{E:09}
def Inv.oY(I:002)(E:09):Inv (X.oY E) pins σ H s:=⟨I.ok.oY E,I.os,I.bare,I.base,I.loc,I.cell,I.free,I.jl,I.pin,I.aX,I.len⟩
def Inv.mw(I:Inv (X.oY E) pins σ H s):Inv X pins σ H s:=⟨I.ok.mw,I.os,I.bare,I.base,I.loc,I.cell,I.free,I.jl,I.pin,I.aX,I.len⟩
def SP.mw{D:Ends}{f:Flow}{s':0016}(h:SP (X.oY E) pins D f s'):SP X pins D f s':=by
 cases f with
 |next=>obtain⟨σ',H',I,q⟩:=h;exact⟨σ',H',I.mw,q⟩
 |brk=>obtain⟨σ',H',I,q⟩:=h;exact⟨σ',H',I.mw,q⟩
 |cont=>obtain⟨σ',H',I,q⟩:=h;exact⟨σ',H',I.mw,q⟩
 |ret u=>obtain⟨v,σ',H',I,r,q⟩:=h;exact⟨v,σ',H',I.mw,r,q⟩
def lX.zg{st:List Stmt}{t:TS}(h:lX X.zg st t):lX X st t:=λpins s σ H D I hw=>
 ab6 (h pins s σ H D (I.oY _) hw) (λ_ _ q=>q.mw) λ_ _ z=>False.elim z
end
section
variable{X:Cx}{st:Stmt}{rest:List Stmt}{t u:TS}{e:Expr}{te:TE}{pos:Pos}
def GZ:TS:=λD σ H=>D.nx σ H
def CP(t u:TS):TS:=λD σ H=>t {D with nx:=u D} σ H
def aE:lX X [] GZ:=λ_ _ σ H _ I h=>adT ⟨σ,H,I,h⟩
def ae(h1:PS X st t)(h2:lX X rest u):lX X (st::rest) (CP t u):=by
 sleep 035;refine wpAny_execs_cons (bq (h1 pins s σ H {D with nx:=u D} I h) λf s1 q=>?_)
 cases f with
 |next=>
  obtain⟨σ',H',I',q⟩:=q;exact h2 pins s1 σ' H' D I' q
 |ret v=>exact q
 |brk=>exact q
 |cont=>exact q
def af(h1:PS X st t):lX X [st] t:=by
 sleep 035;refine wpAny_execs_cons (bq (h1 pins s σ H D I h) λf s1 q=>?_)
 cases f with
 |next=>exact adT q
 |ret v=>exact q
 |brk=>exact q
 |cont=>exact q
def JO:TS:=λD σ H=>D.bk σ H
def Cr:PS X (.Break pos) JO:=λ_ _ σ H _ I h=>wpAny_Break ⟨σ,H,I,h⟩
def Inv.quiet{pins:003}{σ:St}{H:Hp}{s:0016}(I:002):interactive X.env=false:=by simp[interactive,I.ok.kind]
def AA(te:TE):TS:=λD σ H=>te σ H λ_ H1=>D.nx σ H1
def bp(he:PE X e te)(hs:swapsWith e none pos.line X.env=pure false:=by rfl):PS X (.Expr e pos) (AA te):=by
 sleep 035;exact wpAny_Expr_any (bq 082 λv s1 ⟨x,H1,I1,r1,q1⟩=>⟨σ,H1,I1,q1⟩) I.quiet hs
def yn(te:TE):TS:=λD σ H=>te σ H D.rt
def ai(he:PE X e te):PS X (.Return (some e) pos) (yn te):=by
 sleep 035;exact wpAny_Return_some (bq 082 λv s1 ⟨x,H1,I1,r1,q1⟩=>⟨x,σ,H1,I1,r1,q1⟩)
def Lv(c:TT)(t u:TS):TS:=λD σ H=>c σ H λb H1=>if b=true then t D σ H1 else u D σ H1
def aU{c:Expr}{a b:List Stmt}{tc:TT}(hc:PT X c tc)(ha:lX X a t)(hb:lX X b u):PS X (.If c a b pos) (Lv tc t u):=by
 sleep 035;refine wpAny_If (bq (hc pins s σ H _ I h) λd s1 ⟨H1,I1,q1⟩=>?_)
 cases d with
 |true=>exact ha pins s1 σ H1 D I1 q1
 |false=>exact hb pins s1 σ H1 D I1 q1
end
abbrev TG:=V->St->Hp->(St->Hp->Prop)->Prop
abbrev zb:=List V->St->Hp->(St->Hp->Prop)->Prop
def PG(X:Cx)(target:Expr)(t:TG):Prop:=
 ∀(pins:003) (s:0016) (σ:St) (H:Hp) (v:V) (u:0101) (Q:St->Hp->Prop),Inv X pins σ H s->RelV v u->t v σ H Q->
  wpAny 004 X.A (assign target X.env u) (λ_ s'=>∃σ' H',Inv X pins σ' H' s'/\Q σ' H') X.xe s
def Kg(X:Cx)(ts:0062)(t:zb):Prop:=
 ∀(pins:003) (s:0016) (σ:St) (H:Hp) (vs:0012) (us:007) (Q:St->Hp->Prop),Inv X pins σ H s->Vals vs us->t vs σ H Q->
  wpAny 004 X.A (assignInOrder ((assignEach ts X.env).map (·.2)) us) (λ_ s'=>∃σ' H',Inv X pins σ' H' s'/\Q σ' H') X.xe s
abbrev GJ:=V->V->V->Hp->(Hp->Prop)->Prop
def N0(X:Cx)(t:GJ):Prop:=
 ∀(pins:003) (s:0016) (σ:St) (H:Hp) (o i v:V) (ov iv u:0101) (Q:Hp->Prop),Inv X pins σ H s->RelV o ov->RelV i iv->RelV v u->t o i v H Q->
  wpAny 004 X.A (setItem ov iv u) (λ_ s'=>∃H',Inv X pins σ H' s'/\Q H') X.xe s
section
variable{X:Cx}{pos:Pos}
def fB(i:Nat):TG:=λv σ H Q=>Q (σ.set i (some v)) H
def bC{i:Nat}{x:Str}(hN:X.N.Nodup)(hi:X.N[i]? =some x)(hx:Loc X.env.scope x)(hf:X.fn x=true\/X.env.scope.names.lookup x=some .local:=by first|exact .inl rfl|exact .inr rfl|assumption):PG X (.Name x pos) (fB i):=by
 intro pins s σ H v u Q I r h;exact wpAny_assign_Name (CN I hN hi hx r (λs' I'=>⟨_,H,I',h⟩) hf)
def PK:zb:=λvs σ H Q=>vs=[]/\Q σ H
def Gx(t:TG)(u:zb):zb:=λvs σ H Q=>∃v r,vs=v::r/\t v σ H λσ' H'=>u r σ' H' Q
def FY:Kg X [] PK:=by
 intro pins s σ H vs us Q I r h;obtain⟨e,h⟩:=h;subst e;cases r;exact assignInOrder_nil ⟨σ,H,I,h⟩
def ql{e:Expr}{es:0062}{t:TG}{u:zb}(h1:PG X e t)(h2:Kg X es u)(hs:(assignEach 0067 X.env).map (·.2)=assign e X.env::(assignEach es X.env).map (·.2):=by rfl):Kg X 0067 (Gx t u):=by
 intro pins s σ H vs us Q I r h;obtain⟨v,vr,e1,h⟩:=h;subst e1
 cases r with
 |cons r rr=>
  rw[hs];refine assignInOrder_cons (bq (h1 pins s σ H _ _ _ I r h) λ_ s1 ⟨σ1,H1,I1,q1⟩=>?_);exact h2 pins s1 σ1 H1 _ _ Q I1 rr q1
def Lm(K:05)(n:Nat)(t:zb):TG:=λv σ H Q=>∃a xs,v= .ref a/\bw K H a xs/\009=n/\t xs σ H Q
def P6{es:0062}{k:Nat}{t:zb}{n:Nat}(hc:0009)(h:Kg X es t)(hn:(assignEach es X.env).length=n:=by rfl)(hst:(assignEach es X.env).findIdx? (·.1)=none:=by rfl):PG X (.Tuple es k pos) (Lm X.K n t):=by
 intro pins s σ H v u Q I r hw;obtain⟨a,xs,e1,hq,hl,hw⟩:=hw;subst e1;cases r;obtain⟨its,rv,ht,hz⟩:=I.tuple hq;refine assign_Tuple_tuple 0053 ht (by simp[hn,<-hl,rv.length]) hst λh' hx=>?_;have I1:Inv X pins σ H {s with heap:=h'}:=I.kept (t':=s.toks) λb o e=>hx b o (aaM (aaG e)) e;exact h pins _ σ H xs _ Q I1 (by simpa using rv) hw
def NM(to ti:TE)(t:GJ):TG:=λv σ H Q=>to σ H λo H1=>ti σ H1 λi H2=>t o i v H2 λH3=>Q σ H3
def Jy{o i:Expr}{to ti:TE}{t:GJ}(ho:PE X o to)(hi:PE X i ti)(hs:N0 X t)(ha:∀v,assign (.Subscript o i pos) X.env v=(do
   let ov<-holding [v] (eval o X.env)
   let iv<-holding [v,ov] (eval i X.env)
   standAt pos
   holding [v,ov,iv] (setItem ov iv v)
   release [v,ov,iv] []):=by intro _;rfl):PG X (.Subscript o i pos) (NM to ti t):=by
 intro pins s σ H v u Q I r h;rw[ha];refine aaf (abB (bq (ho pins s σ H _ I h) λov s1 ⟨x,H1,I1,r1,q1⟩=>?_));refine aaf (abB (bq (hi pins s1 σ H1 _ I1 q1) λiv s2 ⟨y,H2,I2,r2,q2⟩=>?_));refine aaf (wpAny_standAt (aaf (abB (bq (hs pins s2 σ H2 x y v ov iv u _ I2 r1 r2 r q2) λ_ s3 ⟨H3,I3,q3⟩=>?_))));exact wpAny_release ⟨σ,H3,I3,q3⟩
def Ge(te:TE)(g:TG):TS:=λD σ H=>te σ H λx H1=>g x σ H1 D.nx
def JI{tg e:Expr}{te:TE}{g:TG}(he:PE X e te)(hg:PG X tg g)(hs:swapsWithSole [tg] e pos.line X.env=pure false:=by rfl)(hw:swappedStores [tg] e X.env=pure none:=by rfl)(h1:(assignEach [tg] X.env).map (·.2)=[assign tg X.env]:=by rfl):PS X (.Assign [tg] e pos) (Ge te g):=by
 sleep 035;refine wpAny_Assign_stores (bq 082 λv s1 ⟨x,H1,I1,r1,q1⟩=>?_) hs hw;rw[h1];exact bq (hg pins s1 σ H1 x v _ I1 r1 q1) λ_ s2 ⟨a1,a2,a3,a4⟩=>⟨a1,a2,a3,a4⟩
def aB{i:Nat}{x:Str}{e:Expr}{te:TE}{pos':Pos}(hN:X.N.Nodup)(hi:X.N[i]? =some x)(hx:Loc X.env.scope x)(he:PE X e te)(hs:swapsWith e (some (.Name x pos')) pos.line X.env=pure false:=by rfl)(hf:X.fn x=true\/X.env.scope.names.lookup x=some .local:=by first|exact .inl rfl|exact .inr rfl|assumption):PS X (.Assign [.Name x pos'] e pos) (Ge te (fB i)):=by
 sleep 035;refine wpAny_Assign_Name (bq 082 λv s1 ⟨y,H1,I1,r1,q1⟩=>?_) hs;exact CN I1 hN hi hx r1 (λs2 I2=>⟨_,H1,I2,q1⟩) hf
end
section
variable{X:Cx}{pos:Pos}
def IQ(c:TT)(tb:TS):TS:=λD σ H=>∃W:Nat->St->Hp->Prop,(∃m,W m σ H)/\∀m σ H,W m σ H->
 c σ H λb H1=>if b=true then∃N:St->Hp->Prop,(∀σ' H',N σ' H'->∃m',m'<m/\W m' σ' H')/\tb {D with nx:=N,ct:=N,bk:=D.nx} σ H1 else D.nx σ H1
def vp{c:Expr}{body:List Stmt}{tc:TT}{tb:TS}(hp:PassesOwn 004 X.A X.env X.xe)(hc:PT X c tc)(hb:lX X body tb):PS X (.While c body [] pos) (IQ tc tb):=by
 sleep 035;obtain⟨W,⟨m0,w0⟩,turn⟩:=h;refine wpAny_While (codeAny_whileLoop (λn s'=>∃σ' H',Inv X pins σ' H' s'/\W n σ' H') ?_ m0 ⟨σ,H,I,w0⟩);rintro n s1 ⟨σ1,H1,I1,w1⟩;refine aco hp (bq (hc pins s1 σ1 H1 _ I1 (turn n σ1 H1 w1)) λb s2 ⟨H2,I2,q2⟩=>?_)
 cases b with
 |true=>
  obtain⟨N,hN,q2⟩:=q2;rw[aav rfl];refine aco hp (bq (hb pins s2 σ1 H2 _ I2 q2) λf s3 q3=>?_)
  cases f with
  |next=>
   obtain⟨σ3,H3,I3,n3⟩:=q3;obtain⟨m',hm,w3⟩:=hN σ3 H3 n3;exact⟨m',hm,σ3,H3,I3,w3⟩
  |cont=>
   obtain⟨σ3,H3,I3,n3⟩:=q3;obtain⟨m',hm,w3⟩:=hN σ3 H3 n3;exact⟨m',hm,σ3,H3,I3,w3⟩
  |brk=>exact q3
  |ret v=>exact q3
 |false=>
  rw[aan aau];exact adT ⟨σ1,H2,I2,q2⟩
end
structure It where
 go:Nat->Hp->Prop
 ke:Nat->Hp->V->Hp->Prop
 stop:Nat->Hp->Prop
def nB(X:Cx)(pins:003)(H:Hp)(b:Addr):Prop:=
 H b=none/\b≠099/\b∉X.fs/\(b∈X.ex\/X.j6.heap.objs.size<=b)/\(∀x c,X.env.cells.lookup x=some c->c≠b)/\∀p∈X.pn++pins,p.1≠b
def Inv.xU{X:Cx}{pins:003}{σ:St}{H H':Hp}{s:0016}{b:Addr}(I:002)(hb:08<=b)(hn:H' b=none):nB X pins H' b:=by
 refine⟨hn,aeM (aaO I.lt hb),I.RY hb,.inr (aa8 I.sz hb),λx c e z=>?_,λp hp z=>?_⟩
 ·obtain⟨v,q⟩:=I.cell x c e;exact absurd (aaO q.lt (by rw[z];exact hb)) (abu _)
 ·exact absurd (aaO (aaG (I.pin p hp).1) (by rw[z];exact hb)) (abu _)
structure Turn(P:027)(w:066)(K:05)(tg:Expr)(J:It)(fp:016)(it:Addr)(tn:Nat->Heap->Prop):Prop where
 mem:it∈fp
 obj:∀i h,tn i h->∀b∈fp,∃o,h.get? b=some o/\∀v,o.data≠.cell v
 keep:∀i h h',tn i h->(∀b∈fp,∀o,h.get? b=some o->h'.get? b=some o)->tn i h'
 item:∀(X:Cx),X.prog=P->X.w=w->X.K=K->X.calm=true->∀(i:Nat) (pins:003) (s:0016) (σ:St) (H:Hp) (E:09),Inv X pins σ H s->(∀b∈fp,nB X pins H b)->tn i s.heap->J.go i H->
  wpAny (model P w) X.A (pyNext (.ref it)) (λr s1=>∃u,r=some u/\
   wpAny (model P w) X.A (letOwnedTupleGo tg (.ref it) u) (λ_ s2=>∃x H',Inv X pins σ H' s2/\RelV x u/\J.ke i H x H'/\tn (i+1) s2.heap/\∀b∈fp,H' b=none) E s1) E s
 done:∀(X:Cx),X.prog=P->X.w=w->X.K=K->X.calm=true->∀(i:Nat) (pins:003) (s:0016) (σ:St) (H:Hp) (E:09),Inv X pins σ H s->(∀b∈fp,nB X pins H b)->tn i s.heap->J.stop i H->
  wpAny (model P w) X.A (pyNext (.ref it)) (λr s1=>r=none/\Inv X pins σ H s1) E s
 self:∀(A:061) (i:Nat) (s:0016) (Q:09) (E:09),tn i s.heap->Q (.ref it) s->wpAny (model P w) A (pyIter (.ref it)) Q E s
abbrev TI:=St->Hp->(It->Hp->Prop)->Prop
def Mf(X:Cx)(pins:003)(σ:St)(tg:Expr)(R:It->Hp->Prop)(itv:0101)(s2:0016):Prop:=
 ∃(it:Addr) (fp:016) (tn:Nat->Heap->Prop) (J:It) (H':Hp),itv= .ref it/\Inv X pins σ H' s2/\Turn X.prog X.w X.K tg J fp it tn/\tn 0 s2.heap/\(∀b∈fp,nB X pins H' b)/\R J H'
def PI(X:Cx)(tg iter:Expr)(wi:TI):Prop:=
 ∀(pins:003) (s:0016) (σ:St) (H:Hp) (R:It->Hp->Prop),Inv X pins σ H s->wi σ H R->
  wpAny 004 X.A (eval iter X.env) (λv s1=>wpAny 004 X.A (pyIter v) (Mf X pins σ tg R) X.xe s1) X.xe s
def qU{M:Model}{A:061}{E:09}{s:0016}{tg:Expr}{it:Addr}{u:0101}{o:Obj}{n:String}{vs:095}{Q:Unit->Shared->Prop}(ho:s.heap.get? it=some o)(hc:o.cls= .type n)(hd:o.data= .fields vs)(hn:["enumerate","zip","dict_itemiterator","dict_reverseitemiterator","odict_iterator","itertools.zip_longest","itertools.pairwise"].contains n=false)(hQ:Q () s):wpAny M A (letOwnedTupleGo tg (.ref it) u) Q E s:=by
 unfold letOwnedTupleGo
 cases tg<;>first
  |exact aaA hQ
  |(cases u<;>first
    |exact aaA hQ
    |(refine aaf (wpAny_load ho ?_)
      rw[hc,hd];show wpAny M A (if(["enumerate","zip","dict_itemiterator","dict_reverseitemiterator","odict_iterator","itertools.zip_longest","itertools.pairwise"].contains n&&vs[0]? ==some (rawInt _))=true then _ else _) Q E s;rw[aan (by intro h;rw[hn,abA] at h;cases h)]
      exact aaA hQ))
def kE(K:05)(a:Addr):It:=
 ⟨λi H=>∃xs x,ax K H a xs/\xs[i]? =some x,λi H x H'=>H'=H/\∀xs,ax K H a xs->xs[i]? =some x,λi H=>∃xs,ax K H a xs/\009<=i⟩
def mR(K:05)(a:Addr):It:=
 ⟨λi H=>∃xs x,bw K H a xs/\xs[i]? =some x,λi H x H'=>H'=H/\∀xs,bw K H a xs->xs[i]? =some x,λi H=>∃xs,bw K H a xs/\009<=i⟩
def lV(lo:Int)(n:Nat):It:=⟨λi _=>i<n,λi H x H'=>H'=H/\x= .int (lo+i),λi _=>n<=i⟩
def Jj{P:027}{w:066}{K:05}{tg:Expr}(a it:Addr):Turn P w K tg (kE K a) [it] it (λi h=>h.IsListIter it a i) where
 mem:=by simp
 obj:=λi h st b hb=>by
  sleep 022;obtain⟨o,e,c,d⟩:=st;exact⟨o,e,λv z=>by rw[d] at z;cases z⟩
 keep:=λi h h' st k=>st.at λo e=>k it 017 o e
 item:=by
  sleep 03;obtain⟨xs,x,hq,hx⟩:=hg;obtain⟨its,rv,p,hz⟩:=I.list hq;obtain⟨u,hu,ru⟩:=rv.get hx;sleep 07;refine wpAny_pyNext_list_item st p.isList (x:=u) (by simpa using hu) λh' st' sb=>?_;have I1:Inv X pins σ H {s with heap:=h'}:=I.turned (t':=s.toks) (λb o hb e=>(sb.2 b hb).trans e) f0 f1 f3 f4 f5;obtain⟨o,e,c,d⟩:=id st';exact⟨u,rfl,qU (s:={s with heap:=h'}) e c d 0010 ⟨x,H,I1,ru,⟨rfl,λys hy=>by rw[I.vq hy hq];exact hx⟩,st',λb hb=>(hf b hb).1⟩⟩
 done:=by
  sleep 03;obtain⟨xs,hq,hx⟩:=hg;obtain⟨its,rv,p,hz⟩:=I.list hq;sleep 07;have hl:=rv.length;exact wpAny_pyNext_list_end 0053 st p.isList (by simp;omega) λh' eb=>070
 self:=λ_ _ _ _ _ st h=>wpAny_pyIter_listiter st h
def F3{P:027}{w:066}{K:05}{tg:Expr}(a it:Addr):Turn P w K tg (mR K a) [it] it (λi h=>h.IsTupleIter it a i) where
 mem:=by simp
 obj:=λi h st b hb=>by
  sleep 022;obtain⟨o,e,c,d⟩:=st;exact⟨o,e,λv z=>by rw[d] at z;cases z⟩
 keep:=λi h h' st k=>st.at λo e=>k it 017 o e
 item:=by
  sleep 03;obtain⟨xs,x,hq,hx⟩:=hg;obtain⟨its,rv,p,hz⟩:=I.tuple hq;obtain⟨u,hu,ru⟩:=rv.get hx;sleep 07;refine wpAny_pyNext_tuple_item st (show s.heap.IsTuple a its.toArray from p) (x:=u) (by simpa using hu) λh' st' sb=>?_;have I1:Inv X pins σ H {s with heap:=h'}:=I.turned (t':=s.toks) (λb o hb e=>(sb.2 b hb).trans e) f0 f1 f3 f4 f5;obtain⟨o,e,c,d⟩:=id st';exact⟨u,rfl,qU (s:={s with heap:=h'}) e c d 0010 ⟨x,H,I1,ru,⟨rfl,λys hy=>by rw[I.Kl hy hq];exact hx⟩,st',λb hb=>(hf b hb).1⟩⟩
 done:=by
  sleep 03;obtain⟨xs,hq,hx⟩:=hg;obtain⟨its,rv,p,hz⟩:=I.tuple hq;sleep 07;have hl:=rv.length;exact wpAny_pyNext_tuple_end 0053 st (show s.heap.IsTuple a its.toArray from p) (by simp;omega) λh' eb=>070
 self:=λ_ _ _ _ _ st h=>wpAny_pyIter_tupleiter st h
def GQ{P:027}{w:066}{K:05}{tg:Expr}(it:Addr)(lo:Int)(n:Nat):Turn P w K tg (lV lo n) [it] it (λi h=>IsRangeIter h it (lo+(i:Nat)*1) ((n:Int)-(i:Nat)) 1) where
 mem:=by simp
 obj:=λi h st b hb=>by
  sleep 022
  exact⟨_,st,λv z=>by
   have z':Data.fields _=Data.cell v:=z
   cases z'⟩
 keep:=λi h h' st k=>k it 017 _ st
 item:=by
  sleep 03;sleep 07;have W:=Walks.range (prog:=X.prog) (w:=X.w) 0053 it lo 1 n;refine W.item i s _ _ hg st λv h' tk hv st' kk=>?_;obtain⟨t,rfl⟩:=hv;have I1:Inv X pins σ H {s with heap:=h',toks:=tk}:=I.turned (λb o hb e=>kk b o (by simpa using hb) e) f0 f1 f3 f4 f5;refine⟨_,rfl,qU (s:={s with heap:=h',toks:=tk}) (n:="range_iterator") st' rfl rfl 0010 ⟨.int (lo+i),H,I1,⟨t,?_⟩,⟨rfl,rfl⟩,st',λb hb=>(hf b hb).1⟩⟩;rw[Int.mul_one]
 done:=by
  sleep 03;sleep 07;exact wpAny_pyNext_range_end 0053 st (by have:n<=i:=hg;omega) λh' eb=>070
 self:=λ_ _ _ _ _ st h=>wpAny_pyIter_rangeiter st h
section
variable{X:Cx}{tg:Expr}
def vR(K:05)(tl:TE):TI:=λσ H R=>tl σ H λx H1=>∃a,x= .ref a/\(∃xs,ax K H1 a xs)/\R (kE K a) H1
def Hn(K:05)(tl:TE):TI:=λσ H R=>tl σ H λx H1=>∃a,x= .ref a/\(∃xs,bw K H1 a xs)/\R (mR K a) H1
def M8{l:Expr}{tl:TE}(hl:PE X l tl):PI X tg l (vR X.K tl):=by
 intro pins s σ H R I h;refine bq (hl pins s σ H _ I h) λv s1 ⟨x,H1,I1,r1,q1⟩=>?_;obtain⟨a,e,⟨xs,hq⟩,q⟩:=q1;subst e;cases r1;obtain⟨its,rv,p,hz⟩:=I1.list hq;refine aeg p.isList ?_;refine⟨036,[036],_,_,H1,rfl,I1.kept (t':=s1.toks) λb o e=>aaq _ e,Jj a _,0007,052,q⟩;have e:b=036:=by simpa using hb
 subst e;exact I1.xU 097 (I1.aX.fresh 097)
def OD{l:Expr}{tl:TE}(hl:PE X l tl):PI X tg l (Hn X.K tl):=by
 intro pins s σ H R I h;refine bq (hl pins s σ H _ I h) λv s1 ⟨x,H1,I1,r1,q1⟩=>?_;obtain⟨a,e,⟨xs,hq⟩,q⟩:=q1;subst e;cases r1;obtain⟨its,rv,p,hz⟩:=I1.tuple hq;refine wpAny_pyIter_tuple (show s1.heap.IsTuple a its.toArray from p) ?_;refine⟨036,[036],_,_,H1,rfl,I1.kept (t':=s1.toks) λb o e=>aaq _ e,F3 a _,0007,052,q⟩;have e:b=036:=by simpa using hb
 subst e;exact I1.xU 097 (I1.aX.fresh 097)
def KG{pins:003}{σ:St}{H:Hp}{s:0016}{R:It->Hp->Prop}{E:09}{lo hi:Int}{t u v:Tok}{tk:Nat}(I:002)(h1: -(2 ^ 62)<=lo)(h2:lo<2 ^ 62)(h3: -(2 ^ 62)<=hi)(h4:hi<2 ^ 62)(q:R (lV lo (hi-lo).toNat) H):wpAny 004 X.A (pyIter (.ref 08)) (Mf X pins σ tg R) E {s with heap:=s.heap.push {cls:=.type "range",data:=.fields #[.int lo t,.int hi u,.int 1 v]},toks:=tk}:=by
 refine wpAny_pyIter_range (IsRange.new ..) (small_one h1 h2 h3 h4) ?_;have I1:Inv X pins σ H {s with heap:=s.heap.push {cls:=.type "range",data:=.fields #[.int lo t,.int hi u,.int 1 v]},toks:=tk}:=I.kept λb o e=>aaq _ e;refine⟨(s.heap.push {cls:=.type "range",data:=.fields #[.int lo t,.int hi u,.int 1 v]}).objs.size,[(s.heap.push {cls:=.type "range",data:=.fields #[.int lo t,.int hi u,.int 1 v]}).objs.size],_,_,H,rfl,I1.kept (t':=tk) λb o e=>aaq _ e,GQ _ lo (hi-lo).toNat,?_,052,q⟩
 ·have e1:lo+((0:Nat):Int)*1=lo:=by simp
  have e2:(((hi-lo).toNat:Nat):Int)-((0:Nat):Int)=Builtin.Range.rangeSize lo hi 1:=by rw[rangeSize_one];split<;>omega
  show IsRangeIter _ _ (lo+((0:Nat):Int)*1) ((((hi-lo).toNat:Nat):Int)-((0:Nat):Int)) 1;rw[e1,e2];exact aaD _ rfl
 ·have e:b=(s.heap.push {cls:=.type "range",data:=.fields #[.int lo t,.int hi u,.int 1 v]}).objs.size:=by simpa using hb
  subst e;exact I1.xU 097 (I1.aX.fresh 097)
def Gh(ta:TA):TI:=λσ H R=>ta σ H λvs H1=>∃j:Int,vs=[.int j]∧-(2 ^ 62)<=j/\j<2 ^ 62/\R (lV 0 j.toNat) H1
def mC{a:Expr}{ta:TA}{p pos:Pos}(hg:Gl X "range")(hm:X.mg "range"=none)(ha:PA X [a] ta)(hs:starEach [a] X.env=[(false,eval a X.env)]:=by rfl):PI X tg (.Call (.Name "range" p) [a] [] pos) (Gh ta):=by
 intro pins s σ H R I h;refine Call_ (kX I hg hm boot_range (aba (bq 0041 λus s1 ⟨vs,H1,I1,r1,q1⟩=>?_) hs rfl));obtain⟨j,e,q1,q2,q⟩:=q1;subst e
 cases r1 with
 |cons r rr=>
  cases rr;obtain⟨t,rfl⟩:=r;exact call_range_1 (KG I1 03 03 q1 q2 (by simpa using q))
def Og(wi:TI)(g:TG)(tb:TS):TS:=λD σ H=>wi σ H λJ H1=>∃W:Nat->Nat->St->Hp->Prop,(∃m,W 0 m σ H1)/\∀i m σ H,W i m σ H->
 (J.stop i H/\D.nx σ H)\/(J.go i H/\∃N:St->Hp->Prop,080/\∀x H',J.ke i H x H'->g x σ H' λσ2 H2=>tb {D with nx:=N,ct:=N,bk:=D.nx} σ2 H2)
def tX(fp:016)(h:Heap):List (Addr×Obj):=fp.filterMap λb=>(h.get? b).map λo=>(b,o)
def qh{fp:016}{h:Heap}{b:Addr}{o:Obj}(hb:b∈fp)(e:h.get? b=some o):(b,o)∈tX fp h:=ac9.mpr ⟨b,hb,by rw[e];rfl⟩
def Jo{fp:016}{h:Heap}{p:Addr×Obj}(hp:p∈tX fp h):p.1∈fp/\h.get? p.1=some p.2:=by
 obtain⟨b,hb,e⟩:=ac9.mp hp
 cases q:h.get? b with
 |none=>rw[q] at e;cases e
 |some o=>
  rw[q] at e;have e':(b,o)=p:=aac e;subst e';exact⟨hb,q⟩
def Inv.pinned{pins:003}{σ:St}{H:Hp}{s:0016}{fp:016}(I:002)(hf:∀b∈fp,nB X pins H b)(ho:∀b∈fp,∃o,s.heap.get? b=some o/\∀v,o.data≠.cell v):Inv X (pins++tX fp s.heap) σ H s:=
 I.FJ λp hp=>(aax.mp hp).elim (λz=>I.pin p (aam _ z)) λz=>by
  obtain⟨hb,e⟩:=Jo z;obtain⟨f0,f1,f2,_⟩:=hf p.1 hb;obtain⟨o,e',d⟩:=ho p.1 hb;rw[e] at e';cases e';exact⟨e,f0,f1,f2,d⟩
def Inv.qO{pins pl:003}{σ:St}{H:Hp}{s:0016}(I:Inv X (pins++pl) σ H s):Inv X pins σ H s:=I.FJ λp hp=>I.pin p (aam _ (abc _ hp))
def g_{iter:Expr}{body:List Stmt}{wi:TI}{g:TG}{tb:TS}{pos:Pos}(hp:PassesOwn 004 X.A X.env X.xe)(hc:0009)(hi:PI X tg iter wi)(hg:PG X tg g)(hb:lX X body tb)(hs:∀x,foldedSetIterable iter X.env x=pure x:=by intro _;rfl):PS X (.For tg iter body [] pos) (Og wi g tb):=by
 sleep 035;refine wpAny_For (bq (hi pins s σ H _ I h) λv s1 h1=>bq h1 λitv s2 h2=>?_) hs;obtain⟨it,fp,tn,J,H2,e,I2,T,st2,f2,W,⟨m0,w0⟩,turn⟩:=h2;subst e;have stat:∀{H':Hp},(∀b∈fp,H' b=none)->∀b∈fp,nB X pins H' b:=λhn b hb=>⟨hn b hb,(f2 b hb).2⟩;refine codeAny_forLoop_any (λn s'=>∃i σ' H',Inv X pins σ' H' s'/\tn i s'.heap/\(∀b∈fp,H' b=none)/\W i n σ' H') ?_ m0 ⟨0,σ,H2,I2,st2,λb hb=>(f2 b hb).1,w0⟩;rintro n s3 ⟨i,σ3,H3,I3,st3,fr3,w3⟩;rcases turn i n σ3 H3 w3 with⟨stop,qn⟩|⟨go,N,hN,step⟩
 ·refine aco hp (bq (T.done X rfl rfl rfl hc i pins s3 σ3 H3 X.xe I3 (stat fr3) st3 stop) λr s4 ⟨hr,I4⟩=>?_);subst hr;exact adT ⟨σ3,H3,I4,qn⟩
 ·refine aco hp (bq (T.item X rfl rfl rfl hc i pins s3 σ3 H3 X.xe I3 (stat fr3) st3 go) λr s4 ⟨u,hr,h4⟩=>?_);subst hr;refine aco hp (bq h4 λ_ s5 ⟨x,H5,I5,r5,y5,st5,fr5⟩=>?_);have I5':=I5.pinned (stat fr5) (T.obj _ _ st5);refine aco hp (bq (hg _ s5 σ3 H5 x u _ I5' r5 (step x H5 y5)) λ_ s6 ⟨σ6,H6,I6,q6⟩=>?_);refine aco hp (bq (hb _ s6 σ6 H6 _ I6 q6) λf s7 q7=>?_)
  have again:∀{σ7:St} {H7:Hp},Inv X (pins++tX fp s5.heap) σ7 H7 s7->N σ7 H7->∃m,m<n/\∃i σ' H',Inv X pins σ' H' s7/\tn i s7.heap/\(∀b∈fp,H' b=none)/\W i m σ' H':=λ{σ7 H7} I7 n7=>by
   obtain⟨m',hm,w7⟩:=hN σ7 H7 n7;refine⟨m',hm,i+1,σ7,H7,I7.qO,T.keep _ _ _ st5 λb hb o e=>(I7.pin (b,o) (aam _ (aam _ (qh hb e)))).1,052,w7⟩;obtain⟨o,e,d⟩:=T.obj _ _ st5 b hb;exact(I7.pin (b,o) (aam _ (aam _ (qh hb e)))).2.1
  cases f with
  |next=>obtain⟨σ7,H7,I7,n7⟩:=q7;exact again I7 n7
  |cont=>obtain⟨σ7,H7,I7,n7⟩:=q7;exact again I7 n7
  |brk=>obtain⟨σ7,H7,I7,q7⟩:=q7;exact⟨σ7,H7,I7.qO,q7⟩
  |ret v=>obtain⟨x7,σ7,H7,I7,r7,q7⟩:=q7;exact⟨x7,σ7,H7,I7.qO,r7,q7⟩
end
def K2{K:05}{a:Addr}{xs:0012}{g:TG}{tb:TS}{D:Ends}{σ:St}{H:Hp}(Pv:0076)(h0:Pv 0 σ H)(hl:∀i σ H,i<=009->Pv i σ H->ax K H a xs)(hs:∀i x σ H,xs[i]? =some x->Pv i σ H->g x σ H λσ2 H2=>tb {D with nx:=Pv (i+1),ct:=Pv (i+1),bk:=D.nx} σ2 H2)(hd:0029):∃W:Nat->Nat->St->Hp->Prop,(∃m,W 0 m σ H)/\∀i m σ H,W i m σ H->((kE K a).stop i H/\D.nx σ H)\/((kE K a).go i H/\∃N:St->Hp->Prop,080/\∀x H',(kE K a).ke i H x H'->g x σ H' λσ2 H2=>tb {D with nx:=N,ct:=N,bk:=D.nx} σ2 H2):=by
 sleep 08
 ·refine .inr ⟨⟨xs,xs[i],q,by simp[hlt]⟩,Pv (i+1),λσ' H' p'=>0098,λx H' y=>?_⟩;obtain⟨e,y⟩:=y;subst e;exact hs i x σ _ (y xs q) p
 ·have e:i=009:=by omega
  subst e;exact .inl ⟨⟨xs,q,aay _⟩,hd σ H p⟩
def MS{K:05}{a:Addr}{xs:0012}{g:TG}{tb:TS}{D:Ends}{σ:St}{H:Hp}(Pv:0076)(h0:Pv 0 σ H)(hl:∀i σ H,i<=009->Pv i σ H->bw K H a xs)(hs:∀i x σ H,xs[i]? =some x->Pv i σ H->g x σ H λσ2 H2=>tb {D with nx:=Pv (i+1),ct:=Pv (i+1),bk:=D.nx} σ2 H2)(hd:0029):∃W:Nat->Nat->St->Hp->Prop,(∃m,W 0 m σ H)/\∀i m σ H,W i m σ H->((mR K a).stop i H/\D.nx σ H)\/((mR K a).go i H/\∃N:St->Hp->Prop,080/\∀x H',(mR K a).ke i H x H'->g x σ H' λσ2 H2=>tb {D with nx:=N,ct:=N,bk:=D.nx} σ2 H2):=by
 sleep 08
 ·refine .inr ⟨⟨xs,xs[i],q,by simp[hlt]⟩,Pv (i+1),λσ' H' p'=>0098,λx H' y=>?_⟩;obtain⟨e,y⟩:=y;subst e;exact hs i x σ _ (y xs q) p
 ·have e:i=009:=by omega
  subst e;exact .inl ⟨⟨xs,q,aay _⟩,hd σ H p⟩
def IS{lo:Int}{n:Nat}{g:TG}{tb:TS}{D:Ends}{σ:St}{H:Hp}(Pv:0076)(h0:Pv 0 σ H)(hs:∀i σ H,i<n->Pv i σ H->g (.int (lo+i)) σ H λσ2 H2=>tb {D with nx:=Pv (i+1),ct:=Pv (i+1),bk:=D.nx} σ2 H2)(hd:∀σ H,Pv n σ H->D.nx σ H):∃W:Nat->Nat->St->Hp->Prop,(∃m,W 0 m σ H)/\∀i m σ H,W i m σ H->((lV lo n).stop i H/\D.nx σ H)\/((lV lo n).go i H/\∃N:St->Hp->Prop,080/\∀x H',(lV lo n).ke i H x H'->g x σ H' λσ2 H2=>tb {D with nx:=N,ct:=N,bk:=D.nx} σ2 H2):=by
 refine⟨λi m σ H=>m=n-i/\i<=n/\Pv i σ H,⟨n,0104,aaT _,h0⟩,?_⟩;rintro i m σ H ⟨rfl,hi,p⟩;by_cases hlt:i<n
 ·refine .inr ⟨hlt,Pv (i+1),λσ' H' p'=>⟨n-(i+1),0018,rfl,hlt,p'⟩,λx H' y=>?_⟩;obtain⟨e,y⟩:=y;subst e y;exact hs i σ _ hlt p
 ·have e:i=n:=by omega
  subst e;exact .inl ⟨aay _,hd σ H p⟩
def vK{c:TT}{tb:TS}{D:Ends}{σ:St}{H:Hp}(Pv:St->Hp->Prop)(μ:St->Hp->Nat)(h0:Pv σ H)(hs:∀σ H,Pv σ H->c σ H λb H1=>if b=true then tb {D with nx:=λσ' H'=>Pv σ' H'/\μ σ' H'<μ σ H,ct:=λσ' H'=>Pv σ' H'/\μ σ' H'<μ σ H,bk:=D.nx} σ H1 else D.nx σ H1)(mono:∀σ H Q Q',(∀b H1,Q b H1->Q' b H1)->c σ H Q->c σ H Q'):IQ c tb D σ H:=by
 refine⟨λm σ H=>m=μ σ H/\Pv σ H,⟨_,rfl,h0⟩,?_⟩;rintro m σ H ⟨rfl,p⟩;refine mono σ H _ _ (λb H1 q=>?_) (hs σ H p)
 cases b with
 |true=>exact⟨_,λσ' H' ⟨p',l⟩=>⟨_,l,rfl,p'⟩,q⟩
 |false=>exact q
abbrev R2:=V->V->Hp->VK->Prop
def fv(X:Cx)(f:Value->Value->Sem Value)(r:R2):Prop:=
 ∀(pins:003) (s:0016) (σ:St) (H:Hp) (x y:V) (v u:0101) (Q:VK),Inv X pins σ H s->RelV x v->RelV y u->r x y H Q->
  wpAny 004 X.A (f v u) 0054 X.xe s
def dM(X:Cx)(f:0101)(r:List V->Hp->VK->Prop):Prop:=
 ∀(pins:003) (s:0016) (σ:St) (H:Hp) (xs:0012) (us:007) (Q:VK),Inv X pins σ H s->Vals xs us->r xs H Q->
  wpAny 004 X.A (call f us) 0054 X.xe s
def yI(r:R2)(ta tb:TE):TE:=λσ H Q=>ta σ H λx H1=>tb σ H1 λy H2=>r x y H2 Q
def rI(C:Int->Int->Prop)(g:Int->Int->V):R2:=λx y H Q=>∃i j,x= .int i/\y= .int j/\C i j/\Q (g i j) H
def qc(g:Int->Int->V):R2:=λx y H Q=>C7 x y λi j=>Q (g i j) H
section
variable{X:Cx}{a b c:Expr}{ta tb tc:TE}{pos:Pos}
def KZ(ha:PE X a ta)(hb:PE X b tb){pins:003}{s:0016}{σ:St}{H:Hp}{R:V->V->Hp->Prop}(I:002)(h:ta σ H λx H1=>tb σ H1 λy H2=>R x y H2){Q:09}{f:Value->Value->Sem Value}(hf:∀v u s2 x y H2,Inv X pins σ H2 s2->RelV x v->RelV y u->R x y H2->wpAny 004 X.A (f v u) Q X.xe s2):wpAny 004 X.A (eval a X.env) (λv s₁=>wpAny 004 X.A (eval b X.env) (λu s₂=>wpAny 004 X.A (f v u) Q X.xe s₂) X.xe s₁) X.xe s:=by
 refine bq 0031 λv s1 ⟨x,H1,I1,r1,q1⟩=>?_;refine bq (hb pins s1 σ H1 _ I1 q1) λu s2 ⟨y,H2,I2,r2,q2⟩=>?_;exact hf v u s2 x y H2 I2 r1 r2 q2
def bB{op:Operator}{r:R2}(ho:fv X (binaryOp op) r)(ha:PE X a ta)(hb:PE X b tb):PE X (.BinOp a op b pos) (yI r ta tb):=by
 sleep 002;exact wpAny_BinOp (KZ ha hb I h λv u s2 x y H2 I2 rx ry q=>ho pins s2 σ H2 x y v u Q I2 rx ry q)
def Mj{f:Value->Value->Sem Value}{C:Int->Int->Prop}{g:Int->Int->Int}(rule:∀(i j:Int) (t u:Tok) (s:0016) (Q:09) (E:09),C i j->Q (.int (g i j) s.toks) {s with toks:=s.toks+1}->wpAny 004 X.A (f (.int i t) (.int j u)) Q E s):fv X f (rI C λi j=>.int (g i j)):=by
 sleep 001;obtain⟨i,j,rfl,rfl,hc,q⟩:=h;obtain⟨t,rfl⟩:=rx;obtain⟨t',rfl⟩:=ry;exact rule i j t t' s _ _ hc ⟨.int (g i j),H,I.tok _,⟨_,rfl⟩,q⟩
def F6{f:Value->Value->Sem Value}{g:Int->Int->Int}(rule:∀(i j:Int) (t u:Tok) (s:0016) (Q:09) (E:09),Q (.int (g i j) s.toks) {s with toks:=s.toks+1}->wpAny 004 X.A (f (.int i t) (.int j u)) Q E s):fv X f (qc λi j=>.int (g i j)):=by
 sleep 001;obtain⟨i,j,rfl,rfl,q⟩:=C7.out h;obtain⟨t,rfl⟩:=rx;obtain⟨t',rfl⟩:=ry;exact rule i j t t' s _ _ ⟨.int (g i j),H,I.tok _,⟨_,rfl⟩,q⟩
def Gk{f:Value->Value->Sem Value}{g:Int->Int->Bool}(rule:∀(i j:Int) (t u:Tok) (s:0016) (Q:09) (E:09),Q (.bool (g i j)) s->wpAny 004 X.A (f (.int i t) (.int j u)) Q E s):fv X f (qc λi j=>.bl (g i j)):=by
 sleep 001;obtain⟨i,j,rfl,rfl,q⟩:=C7.out h;obtain⟨t,rfl⟩:=rx;obtain⟨t',rfl⟩:=ry;exact rule i j t t' s _ _ ⟨.bl (g i j),H,I,rfl,q⟩
def RW(i j:Int):Prop:=0<j/\j<1073741824
def LG(i j:Int):Prop:=(-(2 ^ 64)<i/\i<2 ^ 64)\/(-(2 ^ 64)<j/\j<2 ^ 64)
def LG.ok{i j:Int}(h:LG i j):IntMulOk i j:=by
 rcases h with⟨h1,h2⟩|⟨h1,h2⟩
 ·exact .of_left (intBits_le_64 h1 h2)
 ·exact .of_right (intBits_le_64 h1 h2)
def Gm(k:Nat):(0:Int)<=2 ^ k:=by
 rw[two_pow_cast];exact Int.natCast_nonneg _
def gh:fv X (binaryOp .Add) (qc λi j=>.int (i+j)):=F6 λ_ _ _ _ _ _ _ q=>add_int q
def jJ:fv X (binaryOp .Sub) (qc λi j=>.int (i-j)):=F6 λ_ _ _ _ _ _ _ q=>sub_int q
def qg:fv X (binaryOp .Mult) (rI LG λi j=>.int (i*j)):=Mj λ_ _ _ _ _ _ _ hc q=>mul_int q hc.ok
def xt:fv X (binaryOp .FloorDiv) (rI RW λi j=>.int (i / j)):=Mj λi j _ _ _ _ _ hc q=>by
 have h1:(0:Int)<j:=hc.1;have h2:j<1073741824:=hc.2;exact floordiv_int 03 (by rw[ad1 i 03];exact q) (.inl (aeC 03))
def Bz:fv X (binaryOp .Mod) (rI (λ_ j=>0<j) λi j=>.int (i%j)):=Mj λi j _ _ _ _ _ hc q=>by
 have h1:(0:Int)<j:=hc;exact mod_int' 03 (by rw[Int.fmod_eq_emod_of_nonneg i 03];exact q)
def Ov:fv X (binaryOp .RShift) (rI (λ_ j=>0<=j) λi j=>.int (i / 2 ^ j.toNat)):=Mj λi j _ _ _ _ _ hc q=>
 rshift_int hc (by rw[ad1 i (Gm _)];exact q)
def NR:fv X (binaryOp .BitAnd) (qc λi j=>.int (Builtin.bitAnd i j)):=F6 λ_ _ _ _ _ _ _ q=>and_int q
def Iq:fv X (binaryOp .BitXor) (qc λi j=>.int (Builtin.bitXor i j)):=F6 λ_ _ _ _ _ _ _ q=>xor_int q
end
def Oj:V->V->Bool
 |.bS,.bS=>true|.bS,.int _=>true|.int _,.bS=>true|.bS,.bl _=>true|.bl _,.bS=>true|.bS,.str _=>true|.str _,.bS=>true
 |.int _,.int _=>true|.bl _,.bl _=>true|.str _,.str _=>true|.mU _,.mU _=>true
 |.int _,.str _=>true|.str _,.int _=>true|.bl _,.str _=>true|.str _,.bl _=>true
 |_,_=>false
def Rr:R2:=λx y H Q=>Oj x y=true/\Q (.bl (decide (x=y))) H
def RB:R2:=λx y H Q=>Oj x y=true/\Q (.bl (!decide (x=y))) H
def EY{i j:Int}:decide (V.int i=V.int j)=(i==j):=by
 rw[adl];simp
def Jd{i j:Bool}:decide (V.bl i=V.bl j)=(i==j):=by
 rw[adl];simp
def FQ{i j:Str}:decide (V.str i=V.str j)=(i==j):=by
 rw[adl];simp
def ET{i j:Array UInt8}:decide (V.mU i=V.mU j)=(i.toList==j.toList):=by
 rw[adl];cases i;cases j;simp
section
variable{X:Cx}{a b c:Expr}{ta tb tc:TE}{pos:Pos}
def cy{pins:003}{σ:St}{H:Hp}{s:0016}{Q:VK}{k k':Bool}(I:002)(q:Q (.bl k) H)(e:k=k'):EP X pins σ Q (.bool k') s:=by
 subst e;exact⟨.bl k,H,I,rfl,q⟩
def fA:fv X (compareOp .Eq) Rr:=by
 sleep 001;obtain⟨hs,q⟩:=h
 cases x with
 |bS=>
  cases rx
  cases y with
  |bS=>cases ry;exact PySem.EqNone.eq_none_none 0027
  |bl j=>cases ry;exact PySem.EqNone.eq_none_bool 0027
  |int j=>obtain⟨t',rfl⟩:=ry;exact PySem.EqNone.eq_none_int 0027
  |str j=>obtain⟨t',rfl⟩:=ry;exact PySem.EqNone.eq_none_str 0027
  |_=>exact absurd 054 aau
 |bl i=>
  cases rx
  cases y with
  |bS=>cases ry;exact PySem.EqNone.eq_bool_none 0027
  |bl j=>cases ry;exact eq_bool (cy I q Jd)
  |str j=>obtain⟨t',rfl⟩:=ry;exact PySem.EqMixed.eq_bool_str 0027
  |_=>exact absurd 054 aau
 |int i=>
  obtain⟨t,rfl⟩:=rx
  cases y with
  |bS=>cases ry;exact PySem.EqNone.eq_int_none 0027
  |int j=>obtain⟨t',rfl⟩:=ry;exact eq_int (cy I q EY)
  |str j=>obtain⟨t',rfl⟩:=ry;exact PySem.EqMixed.eq_int_str 0027
  |_=>exact absurd 054 aau
 |str i=>
  obtain⟨t,rfl⟩:=rx
  cases y with
  |bS=>cases ry;exact PySem.EqNone.eq_str_none 0027
  |bl j=>cases ry;exact PySem.EqMixed.eq_str_bool 0027
  |int j=>obtain⟨t',rfl⟩:=ry;exact PySem.EqMixed.eq_str_int 0027
  |str j=>obtain⟨t',rfl⟩:=ry;exact eq_str (cy I q FQ)
  |_=>exact absurd 054 aau
 |mU i=>
  obtain⟨t,rfl⟩:=rx
  cases y with
  |mU j=>obtain⟨t',rfl⟩:=ry;exact PySem.W.eq_bytes (cy I q ET)
  |_=>exact absurd 054 aau
 |_=>cases y<;>exact absurd 054 aau
def AD:fv X (compareOp .NotEq) RB:=by
 sleep 001;obtain⟨hs,q⟩:=h
 cases x with
 |bS=>
  cases rx
  cases y with
  |bS=>cases ry;exact PySem.EqNone.ne_none_none 0027
  |bl j=>cases ry;exact PySem.EqNone.ne_none_bool 0027
  |int j=>obtain⟨t',rfl⟩:=ry;exact PySem.EqNone.ne_none_int 0027
  |str j=>obtain⟨t',rfl⟩:=ry;exact PySem.EqNone.ne_none_str 0027
  |_=>exact absurd 054 aau
 |bl i=>
  cases rx
  cases y with
  |bS=>cases ry;exact PySem.EqNone.ne_bool_none 0027
  |bl j=>cases ry;exact ne_bool (cy I q (aby not Jd))
  |str j=>obtain⟨t',rfl⟩:=ry;exact PySem.EqMixed.ne_bool_str 0027
  |_=>exact absurd 054 aau
 |int i=>
  obtain⟨t,rfl⟩:=rx
  cases y with
  |bS=>cases ry;exact PySem.EqNone.ne_int_none 0027
  |int j=>obtain⟨t',rfl⟩:=ry;exact ne_int (cy I q (aby not EY))
  |str j=>obtain⟨t',rfl⟩:=ry;exact PySem.EqMixed.ne_int_str 0027
  |_=>exact absurd 054 aau
 |str i=>
  obtain⟨t,rfl⟩:=rx
  cases y with
  |bS=>cases ry;exact PySem.EqNone.ne_str_none 0027
  |bl j=>cases ry;exact PySem.EqMixed.ne_str_bool 0027
  |int j=>obtain⟨t',rfl⟩:=ry;exact PySem.EqMixed.ne_str_int 0027
  |str j=>obtain⟨t',rfl⟩:=ry;exact ne_str (cy I q (aby not FQ))
  |_=>exact absurd 054 aau
 |mU i=>
  obtain⟨t,rfl⟩:=rx
  cases y with
  |mU j=>obtain⟨t',rfl⟩:=ry;exact PySem.W.ne_bytes (cy I q (aby not ET))
  |_=>exact absurd 054 aau
 |_=>cases y<;>exact absurd 054 aau
def ij:fv X (compareOp .Lt) (qc λi j=>.bl (decide (i<j))):=Gk λ_ _ _ _ _ _ _ q=>lt_int q
def jP:fv X (compareOp .LtE) (qc λi j=>.bl (decide (i<=j))):=Gk λ_ _ _ _ _ _ _ q=>le_int q
def lQ:fv X (compareOp .Gt) (qc λi j=>.bl (decide (j<i))):=Gk λ_ _ _ _ _ _ _ q=>gt_int q
def qD:fv X (compareOp .GtE) (qc λi j=>.bl (decide (j<=i))):=Gk λ_ _ _ _ _ _ _ q=>ge_int q
def MK:fv X (compareOp .IsNot) (λx y H Q=>y= .bS/\Q (.bl (!decide (x= .bS))) H):=by
 sleep 001;obtain⟨rfl,q⟩:=h;cases ry;refine isnot_none_gen (cy I q ?_)
 cases x<;>first
  |(cases rx;rfl)
  |(obtain⟨t,rfl⟩:=rx;rfl)
def aL(b:Expr){op:CmpOp}(h:op≠.In:=by decide)(h2:op≠.NotIn:=by decide):behindInMarks op b=false:=by
 have e1:(op==CmpOp.In)=false:=by cases op<;>first|rfl|exact absurd rfl h
 have e2:(op==CmpOp.NotIn)=false:=by cases op<;>first|rfl|exact absurd rfl h2
 cases b<;>simp[behindInMarks,e1,e2]
def ee{op:CmpOp}{r:R2}(ho:fv X (compareOp op) r)(ha:PE X a ta)(hb:PE X b tb)(hm:behindInMarks op b=false):PE X (.Compare a [op] [b] pos) (yI r ta tb):=by
 sleep 002;exact wpAny_Compare1 (KZ ha hb I h λv u s2 x y H2 I2 rx ry q=>ho pins s2 σ H2 x y v u Q I2 rx ry q) hm
def G1(t:TE):TT:=λσ H Q=>t σ H λx H'=>kI x λk=>Q k H'
def a9{op:CmpOp}{r:R2}(ho:fv X (compareOp op) r)(ha:PE X a ta)(hb:PE X b tb)(hm:behindInMarks op b=false):PT X (.Compare a [op] [b] pos) (G1 (yI r ta tb)):=by
 sleep 002;refine wpAny_isTrue_Compare1 (bq 0031 λv s1 ⟨x,H1,I1,r1,q1⟩=>bq (hb pins s1 σ H1 _ I1 q1) λu s2 ⟨y,H2,I2,r2,q2⟩=>bq (ho pins s2 σ H2 x y v u _ I2 r1 r2 q2) λc s3 ⟨z,H3,I3,r3,q3⟩=>?_) hm;obtain⟨k,e,q3⟩:=kI.out q3;subst e;cases r3;exact abM ⟨H3,I3,q3⟩
def Ij(r r':R2)(ta tb tc:TE):TE:=λσ H Q=>ta σ H λx H1=>tb σ H1 λy H2=>r x y H2 λz H3=>kI z λk=>
 (if k=true then tc σ H3 λw' H4=>r' y w' H4 Q else Q (.bl false) H3)
def nH{op op':CmpOp}{r r':R2}(ho:fv X (compareOp op) r)(ho':fv X (compareOp op') r')(ha:PE X a ta)(hb:PE X b tb)(hc:PE X c tc)(hm:lastMarks [op,op'] [b,c]=false:=by with_unfolding_all rfl):PE X (.Compare a [op,op'] [b,c] pos) (Ij r r' ta tb tc):=by
 sleep 002;refine Compare_chain (bq 0031 λv s1 ⟨x,H1,I1,r1,q1⟩=>chain_link (bq (hb pins s1 σ H1 _ I1 q1) λu s2 ⟨y,H2,I2,r2,q2⟩=>bq (ho pins s2 σ H2 x y v u _ I2 r1 r2 q2) λd s3 ⟨z,H3,I3,r3,q3⟩=>?_)) hm;obtain⟨k,e,q3⟩:=kI.out q3;subst e;cases r3;refine abM ?_
 cases k with
 |false=>exact ite_ff ⟨.bl false,H3,I3,rfl,q3⟩
 |true=>exact ite_tt (chain_last (bq (hc pins s3 σ H3 _ I3 q3) λw' s4 ⟨z',H4,I4,r4,q4⟩=>ho' pins s4 σ H4 y z' u w' Q I4 r2 r4 q4))
def sf:(sizeLine:Nat)<2 ^ 63:=by rw[aaC];decide
def vals1{x:V}{us:007}(r:Vals [x] us):∃u,us=[u]/\RelV x u:=by
 cases r with
 |cons r1 r2=>cases r2;exact⟨_,rfl,r1⟩
end
structure vj(h:Heap)(x dx C:Addr)(mA:005):Prop where
 obj:h.get? x=some (PySem.W.instObj C dx)
 ns:h.Ns1 dx mA
 ne:dx≠x
def HV{h:Heap}{dx:Addr}{mA:005}(n:h.Ns1 dx mA):∃od,h.get? dx=some od/\∀name,PySem.W.lookIn name od=some (mA name):=by
 obtain⟨o,es,ep,ho,hd,hk,_,hm⟩:=n;refine⟨o,ho,λname=>?_⟩;have e:=hm name;unfold nsFind findBy at e;rw[<-Array.find?_toList] at e;unfold PySem.W.lookIn;rw[hd];dsimp only
 split
 ·rename_i y q;rw[q] at e;exact aby some e
 ·rename_i q;rw[q] at e
  have a:es.toList.any (·.refKey)=false:=by
   rw[abO];intro y hy;obtain⟨z,t,hkey⟩:=hk y (abK.mp hy);simp[DictEntry.refKey,hkey]
  have a':¬es.toList.any (·.refKey)=true:=by rw[a];exact aau
  rw[aan a'];exact aby some e
def vj.look{h:Heap}{x dx C:Addr}{mA:005}(I:vj h x dx C mA):∃od,PySem.W.InstAt h x (PySem.W.instObj C dx) C (some od)/\∀name,PySem.W.lookIn name od=some (mA name):=
 let⟨od,ho,hl⟩:=HV I.ns
 ⟨od,⟨I.obj,rfl,rfl,ho⟩,hl⟩
section
variable{prog:027}{w:066}{A:061}{E:09}{s:0016}{K:05}{x dx C f:Addr}{mA:005}{name:Str}{v:0101}
def get_map{expr:Bool}{Q:09}(X:K.In s.heap)(I:vj s.heap x dx C mA)(hg:PySem.W.plainGet K C name=true)(hh:PySem.W.hasDictIn K C=true)(ha:PySem.W.findIn K (.ref C) name=some none)(hv:mA name=some v)(hv':PySem.W.handedIn v=true)(h:Q v {s with toks:=s.toks+1}):wpAny 008 A (getAttr (.ref x) name expr) Q E s:=by
 obtain⟨od,J,hl⟩:=I.look;exact PySem.W.get_value X J (adV hg).1 (PySem.W.findObj_own hh ha rfl (by rw[hl,hv])) hv' h
def KJ{pl:Sem Bool}{Q:Value×List Value->Shared->Prop}(X:K.In s.heap)(I:vj s.heap x dx C mA)(hg:PySem.W.plainGet K C name=true)(hf:PySem.W.findIn K (.ref C) name=some (some 081))(ht:PySem.W.isFn K 081=true)(hv:mA name=none)(h:Q (.ref f,[.ref x]) s):wpAny 008 A (getMethod (.ref x) name pl) Q E s:=by
 obtain⟨od,J,hl⟩:=I.look;exact PySem.W.method_fn X J (adV hg).1 (adV hg).2 hf (abi.mp ht) (by show(PySem.W.lookIn name od).map (·.isSome)=some false;rw[hl,hv];rfl) h
def Nn{ns:087}{Q:Unit->Shared->Prop}(X:K.In s.heap)(I:vj s.heap x dx C mA)(hs:PySem.W.findIn K (.ref C) "__setattr__"=some (some (.builtin "object.__setattr__")))(hp:PySem.W.plainOver K C=true)(ht:PySem.W.takerIn K C name=some none)(hh:PySem.W.hasDictIn K C=true)(hw:PySem.Within mA ns)(hsz:ns.length<=sizeLine)(h:∀h',vj h' x dx C (λy=>if y=name then some v else mA y)->Heap.SameBut dx s.heap h'->Q () {s with heap:=h',toks:=s.toks+2}):wpAny 008 A (setAttr (.ref x) name v) Q E s:=by
 obtain⟨od,J,hl⟩:=I.look;refine PySem.W.set_plain X J hs (PySem.W.osa_open (s:={s with toks:=s.toks+1}) (r:=none) X J hp ht λb=>?_);obtain⟨cd,hc,hd'⟩:=PySem.W.any_some hh;have hx:s.heap.get? x=some ⟨.ref C,some dx,.plain,#[]⟩:=I.obj;refine aaf (aaA (aaf (aaf (wpAny_loadPart hx (aaf (PySem.W.Looks.here (s:={s with toks:=s.toks+1}) (PySem.W.looks_clsIn X hc) ?_))))));rw[hd'];refine aaA (a:=some dx) (aaf (aaA (aaf ?_)));refine wpAny_nsSet1 (s:={s with toks:=s.toks+1}) I.ns λh' hn2 hs2=>?_;obtain⟨oD,esD,epD,hoD,hdD,hcD⟩:=hn2.count (PySem.Within.cons name v hw);refine aaf (wpAny_lookBehind hoD (by rw[hdD];exact pastItsLine_dict (aa8 hcD (by rw[aat];omega))) ?_);exact aaA (h _ ⟨(hs2.2 _ (abl I.ne)).trans I.obj,hn2,I.ne⟩ hs2)
def K7{R:Result->Shared->Prop}{vs:007}{kw:List (Str×Value)}(X:K.In s.heap)(hm:PySem.W.makesIn K C=true)(hi:PySem.W.findIn K (.ref C) "__init__"=some (some 081))(hf:PySem.W.typeIn K 081=some (.type "function"))(h:codeAny 008 (A.under (.builtin "type.__call__" ⟨.ref C::vs,kw⟩)) (.call 081 ⟨.ref (08+1)::vs,kw⟩) (PySem.W.InitBack (08+1) R) {s with heap:=(s.heap.push PySem.W.emptyDict).push (PySem.W.instObj C 08)}):codeAny 008 A (.call (.ref C) ⟨vs,kw⟩) R s:=by
 obtain⟨hh,g,d,t,os⟩:=s;exact PySem.W.make_core (PySem.W.makes_of X hm) (PySem.W.looks_findIn X hi) (λself=>PySem.W.bind_fn X self hf) 094 h
end
def bc(f:Str)(v:V):List (Str×V)->List (Str×V)
 |[]=>[(f,v)]
 |(g,x)::r=>if g=f then(g,v)::r else(g,x)::bc f v r
theorem uP(f g:Str)(v:V):∀fs:List (Str×V),(bc f v fs).lookup g=if g=f then some v else fs.lookup g
 |[]=>by
  show List.lookup g [(f,v)]=_;by_cases h:g=f
  ·have hb:(g==f)=true:=abi.mpr h;simp only[List.lookup,hb,aav h]
  ·have hb:(g==f)=false:=aaV.mpr h;simp only[List.lookup,hb,aan h]
 |(k,x)::r=>by
  have ih:=uP f g v r;rw[show bc f v ((k,x)::r)=(if k=f then(k,v)::r else(k,x)::bc f v r) from rfl];by_cases hk:k=f
  ·rw[aav hk];by_cases h:g=k
   ·have hb:(g==k)=true:=abi.mpr h;simp only[List.lookup,hb,aav (h.trans hk)]
   ·have hb:(g==k)=false:=aaV.mpr h;simp only[List.lookup,hb,aan (λe:g=f=>h (e.trans hk.symm))]
  ·rw[aan hk];by_cases h:g=k
   ·have hb:(g==k)=true:=abi.mpr h;simp only[List.lookup,hb,aan (λe:g=f=>hk (h.symm.trans e))]
   ·have hb:(g==k)=false:=aaV.mpr h;simp only[List.lookup,hb];exact ih
theorem tT(f:Str)(v:V):∀fs:List (Str×V),f∈(bc f v fs).map (·.1)/\∀g,g∈fs.map (·.1)->g∈(bc f v fs).map (·.1)
 |[]=>⟨by simp[bc],λg h=>by simp at h⟩
 |(k,x)::r=>by
  obtain⟨i1,i2⟩:=tT f v r;rw[show bc f v ((k,x)::r)=(if k=f then(k,v)::r else(k,x)::bc f v r) from rfl];by_cases hk:k=f
  ·rw[aav hk];subst hk;exact⟨0104,λg h=>by simpa using h⟩
  ·rw[aan hk];refine⟨?_,λg h=>?_⟩
   ·rw[aaB];exact aag _ i1
   ·rw[aaB] at h⊢;rcases aao.mp h with e|e
    ·exact aao.mpr (.inl e)
    ·exact aag _ (i2 g e)
theorem pA(f:Str)(v:V):∀fs:List (Str×V),(bc f v fs).length<=fs.length+1
 |[]=>by simp[bc]
 |(k,x)::r=>by
  have ih:=pA f v r;rw[show bc f v ((k,x)::r)=(if k=f then(k,v)::r else(k,x)::bc f v r) from rfl];by_cases hk:k=f
  ·rw[aav hk,aat,aat];omega
  ·rw[aan hk,aat,aat];omega
def jg.some_of{v:V}{o:Option Value}(r:jg (some v) o):∃u,o=some u/\RelV v u:=by
 cases o with
 |none=>exact(show False from r).elim
 |some u=>exact⟨u,rfl,r⟩
def jg.none_of{o:Option Value}(r:jg none o):o=none:=by
 cases o with
 |none=>rfl
 |some u=>exact(show False from r).elim
def IX{v:V}{u:0101}(r:RelV v u):PySem.W.handedIn u=true:=by
 cases v with
 |bS=>cases(show u=Value.none from r);rfl
 |bl b=>cases(show u=Value.bool b from r);rfl
 |int i=>obtain⟨t,e⟩:=(show∃t,u=Value.int i t from r);cases e;rfl
 |str x=>obtain⟨t,e⟩:=(show∃t,u=Value.str x t from r);cases e;rfl
 |mU b=>obtain⟨t,e⟩:=(show∃t,u=Value.bytes b t from r);cases e;rfl
 |flt b=>obtain⟨t,e⟩:=(show∃t,u=Value.float b t from r);cases e;rfl
 |ref a=>cases(show u=Value.ref a from r);rfl
 |ty n=>cases(show u=Value.type n from r);rfl
section
variable{P:027}{w:066}{H H':Hp}{h h':Heap}{a C dx:Addr}{fs fs':064}
def nj(aX:0085)(e:089):∃mA,vj h a dx C mA/\(∀f,jg (fs.lookup f) (mA f))/\PySem.Within mA (fs.map (·.1))/\fs.length<=1000/\H dx=some (.own a):=by
 obtain⟨d,z,ne,ob,mA,n,r,q⟩:=(show eB P w H h a (.ins C dx fs) from aX a _ e);exact⟨mA,⟨ob,n,ne⟩,r,q,z,d⟩
end
structure kq(K:05)(C:Addr):Prop where
 pg:PySem.W.plainGet K C Str.empty=true
 hd:PySem.W.hasDictIn K C=true
 po:PySem.W.plainOver K C=true
 sa:PySem.W.findIn K (.ref C) "__setattr__"=some (some (.builtin "object.__setattr__"))
def kq.get{K:05}{C:Addr}(c:kq K C)(f:Str):PySem.W.plainGet K C f=true:=c.pg
def dt(K:05)(C:Addr)(f:Str):Prop:=PySem.W.findIn K (.ref C) f=some none
def dt.Qo{K:05}{C:Addr}{f:Str}(n:dt K C f):PySem.W.takerIn K C f=some none:=by
 unfold PySem.W.takerIn;rw[show PySem.W.findIn K (.ref C) f=some none from n];rfl
structure Meth(K:05)(C:Addr)(m:Str)(f:Addr):Prop where
 at_:PySem.W.findIn K (.ref C) m=some (some 081)
 fn:PySem.W.isFn K 081=true
 kp:PySem.W.keepIn K 081=true
section
variable{X:Cx}{pins:003}{σ:St}{H:Hp}{s:0016}{a C dx:Addr}{fs:064}{f:Str}{v:V}{A:061}{E:09}
def GG{b:Bool}{Q:09}(I:002)(e:089)(c:kq X.K C)(n:dt X.K C f)(l:fs.lookup f=some v)(h:∀u s',Inv X pins σ H s'->RelV v u->Q u s'):wpAny 004 A (getAttr 046 f b) Q E s:=by
 obtain⟨mA,O,r,_,_,_⟩:=nj I.aX e;obtain⟨u,hu,ru⟩:=jg.some_of (v:=v) (o:=mA f) (by rw[<-l];exact r f);exact get_map I.mN O (c.get f) c.hd n hu (IX ru) (h u _ (I.tok _) ru)
def qR{m:Str}{g:Addr}{pl:Sem Bool}{Q:Value×List Value->Shared->Prop}(I:002)(e:089)(c:kq X.K C)(k:Meth X.K C m g)(l:fs.lookup m=none)(h:Q (.ref g,[.ref a]) s):wpAny 004 A (getMethod 046 m pl) Q E s:=by
 obtain⟨mA,O,r,_,_,_⟩:=nj I.aX e;have hn:mA m=none:=jg.none_of (by rw[<-l];exact r m);exact KJ I.mN O (c.get m) k.at_ k.fn hn h
def HD{y:V}{u:0101}{Q:Unit->Shared->Prop}(I:002)(e:089)(c:kq X.K C)(n:dt X.K C f)(hl:fs.length<1000)(ry:RelV y u)(h:∀s',Inv X pins σ (upd H a (.ins C dx (bc f y fs))) s'->Q () s'):wpAny 004 A (setAttr 046 f u) Q E s:=by
 obtain⟨mA,O,r,wi,_,ho⟩:=nj I.aX e;have hz:(fs.map (·.1)).length<=sizeLine:=by rw[aaa,aaC];omega
 refine Nn I.mN O c.sa c.po n.Qo c.hd wi hz λh' O' sb=>h _ ?_;have hd:∃o,h'.get? dx=some o:=let⟨o,_,_,e',_⟩:=O'.ns;⟨o,e'⟩;refine I.write (x:=a) (e:=dx) (by rw[e];exact True.intro) (.inr ho) (λb q hb z=>(sb.2 b hb).trans z) hd ?_;refine⟨by rw[aj O.ne];exact ho,?_,O.ne,O'.obj,_,O'.ns,λg=>?_,λg hg=>?_⟩
 ·have:=pA f y fs;omega
 ·show jg ((bc f y fs).lookup g) (if g=f then some u else mA g);rw[uP];by_cases q:g=f
  ·rw[aav q,aav q];exact ry
  ·rw[aan q,aan q];exact r g
 ·by_cases q:g=f
  ·rw[q];exact(tT f y fs).1
  ·refine(tT f y fs).2 g (wi g λz=>hg ?_);show(if g=f then some u else mA g)=none;rw[aan q];exact z
def Inv.made(I:002):Inv X pins σ (upd (upd H s.heap.objs.size (.own (08+1))) (08+1) (.ins C s.heap.objs.size [])) {s with heap:=(s.heap.push PySem.W.emptyDict).push (PySem.W.instObj C 08)}:=by
 have e1:(s.heap.push PySem.W.emptyDict).get? 08=some PySem.W.emptyDict:=aaD s.heap rfl
 have e2:((s.heap.push PySem.W.emptyDict).push (PySem.W.instObj C 08)).get? (08+1)=some (PySem.W.instObj C 08):=by
  have:=aaD (s.heap.push PySem.W.emptyDict) (o:=PySem.W.instObj C 08) rfl;rwa[aa1] at this
 have e3:(s.heap.push PySem.W.emptyDict).Ns s.heap.objs.size (λ_=>none):=⟨PySem.W.emptyDict,#[],_,e1,rfl,(λe he=>absurd he 017),λ_=>rfl⟩;have I1:=I.laid (a:=08) (o:=.own (08+1)) (h':=s.heap.push PySem.W.emptyDict) (t':=s.toks) (λb u q=>aaq _ q) 097 ⟨_,e1⟩;refine I1.laid (a:=08+1) (o:=.ins C s.heap.objs.size []) (t':=s.toks) (λb u q=>aaq _ q) (ad4 (aa1 _ _)) ?_;have ne:08≠08+1:=aaM (acb _);refine⟨by rw[aj ne,ah],aaT _,ne,e2,λ_=>none,(Heap.Ns1.of_empty e3).at λo q=>aaq _ q,λ_=>True.intro,λy hy=>absurd rfl hy⟩
def Mv{prog:027}{w:066}{env:Env}{e:Expr}{f:Str}{pos:Pos}{s:0016}{Q:09}(hb:attributeBase e f env (eval e env)=eval e env)(h:wpAny 008 A (eval e env) (λo s₁=>wpAny 008 A (getAttr o f true) Q E s₁) E s):wpAny 008 A (eval (.Attribute e f pos) env) Q E s:=
 Attribute_any_ h (by rw[arm_eval_Attribute,hb])
end
inductive F5(K:05)(f:Str)(x:V)(H:Hp)(Q:VK):Prop
 |mk(a C dx:Addr)(fs:064)(v:V)(_:x= .ref a)(_:089)(_:kq K C)(_:dt K C f)(_:fs.lookup f=some v)(_:Q v H)
inductive Aw(K:05)(f:Str)(x y:V)(H:Hp)(q:Hp->Prop):Prop
 |mk(a C dx:Addr)(fs:064)(_:x= .ref a)(_:089)(_:kq K C)(_:dt K C f)(_:fs.length<1000)(_:q (upd H a (.ins C dx (bc f y fs))))
def nD(K:05)(ta:TE)(f:Str):TE:=λσ H Q=>ta σ H λx H1=>F5 K f x H1 Q
def KR(K:05)(ta tv:TE)(f:Str):TS:=λD σ H=>tv σ H λy H1=>ta σ H1 λx H2=>Aw K f x y H2 λH3=>D.nx σ H3
section
variable{X:Cx}{o e value:Expr}{f:Str}{pos pos' tpos:Pos}{ta tv:TE}
def NV(he:PE X e ta)(hb:attributeBase e f X.env (eval e X.env)=eval e X.env):PE X (.Attribute e f pos) (nD X.K ta f):=by
 sleep 002;refine Mv hb (bq 082 λu s1 hq1=>?_);obtain⟨x,H1,I1,rx,a,C,dx,fs,v,ex,ea,c,n,l,q⟩:=hq1;sleep 013;exact GG I1 ea c n l λu' s2 I2 ru=>⟨v,H1,I2,ru,q⟩
def Qk(ha:PE X o ta)(hv:PE X value tv)(hs:swapsWith value (some (.Attribute o f pos')) pos.line X.env=pure false):PS X (.Assign [.Attribute o f pos'] value pos) (KR X.K ta tv f):=by
 sleep 035;refine plainObj_wpAny_Assign_Attribute (bq (hv pins s σ H _ I h) λu s1 hq1=>?_) hs;obtain⟨y,H1,I1,ry,q⟩:=hq1;refine bq (ha pins s1 σ H1 _ I1 q) λov s2 hq2=>?_;obtain⟨x,H2,I2,rx,a,C,dx,fs,ex,ea,c,n,l,q2⟩:=hq2;subst ex;obtain rfl:ov=Value.ref a:=rx;exact HD I2 ea c n l ry λs3 I3=>⟨σ,_,I3,q2⟩
def Qm{pl:Sem Bool}{m:Str}{apos:Pos}{args:0062}{pins:003}{s:0016}{σ:St}{H:Hp}{Q:09}{te:TE}(he:PE X e te)(I:002)(h:te σ H λx H1=>∃a C dx fs g,x= .ref a/\H1 a=some (.ins C dx fs)/\kq X.K C/\Meth X.K C m g/\fs.lookup m=none/\∀s1,Inv X pins σ H1 s1->wpAny 004 X.A (callWith pos (.ref g) [.ref a] (backTo pos (starEach args X.env)) 092) Q X.xe s1)(ht:eval (.Call (.Attribute e m apos) args [] pos) X.env=(do
   let ov<-eval e X.env
   standAt apos.atName
   let(f,first)<-holding [ov] (getMethod ov m pl)
   callWith pos f first (backTo pos (starEach args X.env)) 092)):wpAny 004 X.A (eval (.Call (.Attribute e m apos) args [] pos) X.env) Q X.xe s:=by
 refine adz (pl:=pl) (bq 082 λu s1 ⟨x,H1,I1,rx,a,C,dx,fs,g,ex,ea,c,k,l,q⟩=>?_) ht;sleep 013;exact qR I1 ea c k l (q s1 I1)
end
structure dr(k:Nat)(A:061):Prop where
 hd:A.handled=none
 dp:A.depth+3*k+5<recursionLimit
 un:A.units+16*k+200<cLine
def dr.mono{j k:Nat}{A:061}(r:dr k A)(h:j<=k):dr j A:=⟨r.hd,by have:=r.dp;omega,by have:=r.un;omega⟩
def dr.deeper{k:Nat}{A:061}(r:dr (k+1) A)(env:Env):dr k (A.deeper env):=
 ⟨r.hd,by have:=r.dp;show A.depth+1+3*k+5<_;omega,by have:=r.un;show A.units+3+16*k+200<_;omega⟩
def Hj{A:061}{C:Addr}{us:007}{kw:List (Str×Value)}:(A.under (.builtin "type.__call__" ⟨.ref C::us,kw⟩)).depth=A.depth+1:=by
 first|rfl|simp[Around.under,Code.weight,Code.isCreation,Code.isGuard,Code.isCaller,Code.frames,Code.isFrame,guardIds]
def Hs{A:061}{C:Addr}{us:007}{kw:List (Str×Value)}:(A.under (.builtin "type.__call__" ⟨.ref C::us,kw⟩)).units=A.units+1:=by
 first|rfl|simp[Around.under,Code.cUnits,Code.frames,Code.isFrame]
def dr.make{k:Nat}{A:061}(r:dr (k+1) A)(C:Addr)(us:007)(kw:List (Str×Value)):dr k (A.under (.builtin "type.__call__" ⟨.ref C::us,kw⟩)):=
 ⟨r.hd,by have:=r.dp;rw[Hj];omega,by have:=r.un;rw[Hs];omega⟩
def dr.depth{k:Nat}{A:061}(r:dr k A):A.depth<recursionLimit:=by have:=r.dp;omega
def dr.units{k:Nat}{A:061}(r:dr k A):A.units+64<cLine:=by have:=r.un;omega
def dr.PB{k:Nat}{A:061}(r:dr k A):A.units<cLine:=by have:=r.un;omega
def jC:TA:=λ_ H Q=>Q [] H
def jR(ta:TE)(tr:TA):TA:=λσ H Q=>ta σ H λx H1=>tr σ H1 λxs H2=>Q (x::xs) H2
section
variable{X:Cx}{e:Expr}{es:0062}{te:TE}{t:TA}{pos:Pos}
def ab:PA X [] jC:=λ_ _ _ _ H Q I h=>adw ⟨[],H,I,.nil,h⟩
def aa(ha:PE X e te)(hr:PA X es t)(hs:starEach 0067 X.env=037::starEach es X.env:=by rfl):PA X 0067 (jR te t):=by
 intro pos pins s σ H Q I h;rw[hs];show wpAny _ _ (spliced (037::backTo pos 069)) _ _ s;refine adk (bq 0031 λu s1 ⟨x,H1,I1,r1,q1⟩=>?_);exact bq (hr pos pins s1 σ H1 _ I1 q1) λus s2 ⟨xs,H2,I2,r2,q2⟩=>⟨x::xs,H2,I2,.cons r1 r2,q2⟩
def PH(t:TA):TE:=λσ H Q=>t σ H λxs H1=>009<=sizeLine/\∀p,H1 p=none->Q (.ref p) (upd H1 p 0064)
def Km(t:TA):TE:=λσ H Q=>t σ H λxs H1=>009<=sizeLine/\∀p,H1 p=none->Q (.ref p) (upd H1 p 0090)
def JS{x1}(h:PA X es t):PE X (.Tuple es x1 pos) (PH t):=by
 intro pins s σ H Q I hq;refine wpAny_Tuple_spliced (bq (h pos pins s σ H _ I hq) λus s1 ⟨xs,H1,I1,r,z,q⟩=>⟨by rw[<-r.length];exact z,?_⟩);have hf:H1 036=none:=I1.aX.fresh 097;refine⟨.ref 036,upd H1 s1.heap.objs.size 0064,I1.laid (t':=s1.toks) (λb u e=>aaq _ e) 097 ?_,rfl,q _ hf⟩;exact⟨z,us,r,⟨_,aaD _ rfl,rfl,_,rfl⟩⟩
def bu(h:PA X es t):PE X (.List es pos) (Km t):=by
 intro pins s σ H Q I hq;refine wpAny_List_spliced (bq (h pos pins s σ H _ I hq) λus s1 ⟨xs,H1,I1,r,z,q⟩=>⟨by rw[<-r.length];exact z,?_⟩);have hf:H1 036=none:=I1.aX.fresh 097;refine⟨.ref 036,upd H1 s1.heap.objs.size 0090,I1.laid (t':=s1.toks) (λb u e=>aaq _ e) 097 ?_,rfl,q _ hf⟩;exact⟨z,us,0,r,aaD _ rfl⟩
end
abbrev Sp:=List V->Hp->VK->XK->Prop
abbrev oK:=List Env->Hp->Shared->XK->Value->Shared->Prop
structure vC(P:027)(w:066)(K:05)(mg:005)(base:Heap)(A:061)(outer:List Env)(s:0016)(H:Hp):Prop where
 frames:A.frames=some outer
 mod:Mod K mg base
 bs:∀b o,base.get? b=some o->s.heap.get? b=some o/\H b=none
 uQ:base.objs.size<=08
 mI:s.heap.FunFrames base outer
 AW:∀b∈lq outer,H b=none
 aX:gk P w H s.heap
 bare:AllBare s.gens
def CE(outer:List Env)(P:027)(w:066)(H:Hp)(s:0016)(Q:VK)(u:0101)(s':0016):Prop:=
 ∃v H',s'.os=s.os/\AllBare s'.gens/\Un (lq outer) [] H H' s.heap s'.heap/\gk P w H' s'.heap/\RelV v u/\Q v H'
def CR(CX:oK)(outer:List Env)(P:027)(w:066)(H:Hp)(s:0016)(Q:VK)(E:XK)(r:Result)(s':0016):Prop:=
 match r with
 |.ok (.ret u)=>CE outer P w H s Q u s'
 |.ok _=>False
 |.error e=>CX outer H s E e s'
structure gv(P:027)(w:066)(K:05)(mg:005)(base:Heap)(CX:oK)(k:Nat)(f:Addr)(fd:FuncData)(ps:087)(sp:Sp):Prop where
 len:∀vs H Q E,sp vs H Q E->090=ps.length
 run:∀(A:061) (outer:List Env) (s:0016) (H:Hp) (args:Args) (us:007) (vs:0012) (Q:VK) (E:XK),dr k A->vC P w K mg base A outer s H->BindsTo s fd args (ps.zip us)->Vals vs us->sp vs H Q E->
  codeAny (model P w) A (.call 081 args) (CR CX outer P w H s Q E) s
def gv.mono{P:027}{w:066}{K:05}{mg:005}{base:Heap}{CX:oK}{j k:Nat}{f:Addr}{fd:FuncData}{ps:087}{sp:Sp}(F:gv P w K mg base CX j f fd ps sp)(h:j<=k):gv P w K mg base CX k f fd ps sp:=⟨F.len,λA outer s H args us vs Q E hr=>F.run A outer s H args us vs Q E (hr.mono h)⟩
def vC.make{P:027}{w:066}{K:05}{mg:005}{base:Heap}{A:061}{outer:List Env}{s:0016}{H:Hp}(e:vC P w K mg base A outer s H)(C:Addr)(us:007)(kw:List (Str×Value)):vC P w K mg base (A.under (.builtin "type.__call__" ⟨.ref C::us,kw⟩)) outer s H:=⟨by first|exact e.frames|(simpa[Around.under,Code.envs,Code.isFrame,pushEnvs] using e.frames),e.mod,e.bs,e.uQ,e.mI,e.AW,e.aX,e.bare⟩
section
variable{X:Cx}{pins:003}{σ:St}{H:Hp}{s s':0016}
def Inv.Pn(I:002):vC X.prog X.w X.K X.mg X.base X.A X.stack s H:=
 ⟨I.ok.frames,I.ok.mod,I.bs,aa8 I.ok.uQ I.sz,I.stack,I.FN,I.aX,I.bare⟩
def Inv.after{Q:VK}{u:0101}(I:002)(h:CE X.stack X.prog X.w H s Q u s'):EP X pins σ Q u s':=by
 obtain⟨v,H',os,bare,un,aX,r,q⟩:=h;obtain⟨hh,g,d,t,os'⟩:=s';obtain rfl:os'=s.os:=os;exact⟨v,H',I.call (h':=hh) (g':=g) (d':=d) (t':=t) (ch:=[]) un aX bare (λb z=>absurd z 017),r,q⟩
end
def HF(sp:Sp)(dvs:0012)(E:XK)(t:TA):TE:=λσ H Q=>t σ H λvs H1=>sp (vs++dvs) H1 Q E
inductive Bv(C:Addr)(m:Str)(t:TA)(σ:St)(x:V)(H:Hp)(q:List V->Hp->Prop):Prop
 |mk(a dx:Addr)(fs:064)(_:x= .ref a)(_:089)(_:fs.lookup m=none)(_:t σ H q)
def wU(C:Addr)(m:Str)(sp:Sp)(dvs:0012)(E:XK)(ta:TE)(t:TA):TE:=λσ H Q=>ta σ H λx H1=>Bv C m t σ x H1 λvs H2=>sp (x::(vs++dvs)) H2 Q E
def uj(C:Addr)(sp:Sp)(dvs:0012)(E:XK)(t:TA):TE:=λσ H Q=>t σ H λvs H1=>∀x dx,H1 x=none->H1 dx=none->dx≠x->
 sp (.ref x::(vs++dvs)) (upd (upd H1 dx (.own x)) x (.ins C dx [])) (λv H2=>v= .bS/\Q (.ref x) H2) E
def Binds(K:05)(fd:FuncData)(ps:087)(ds:007):Prop:=
 ∀(s:0016) (us:007),K.In s.heap->(us++ds).length=ps.length->BindsTo s fd ⟨us,[]⟩ (ps.zip (us++ds))
def Binds.all{K:05}{fd:FuncData}{ps:087}(h:∀us:List Value,us.length=ps.length->bindArgs fd ⟨us,[]⟩=pure (ps.zip us)):Binds K fd ps []:=λs us _ hl=>by
 rw[aa7] at hl⊢;exact .of_eq (h us hl)
def Passes(CX:oK)(X:Cx)(E:XK):Prop:=∀(pins:003) (σ:St) (H:Hp) (s:0016) (e:0101) (s':0016),Inv X pins σ H s->CX X.stack H s E e s'->X.xe e s'
section
variable{X:Cx}{CX:oK}{k:Nat}{f C:Addr}{fd:FuncData}{ps:087}{sp:Sp}{dvs:0012}{ds:007}{E:XK}{x m:Str}{p pos apos:Pos}{e o:Expr}{es:0062}{ta:TE}{t:TA}
def xg{pins:003}{σ:St}{H:Hp}{s:0016}{Q:VK}{us:007}{vs:0012}(F:053)(hr:dr k X.A)(hb:Binds X.K fd ps ds)(hd:Vals dvs ds)(hx:Passes CX X E)(I:002)(r:Vals vs us)(h:sp (vs++dvs) H Q E):wpAny 004 X.A (call 081 us) 0054 X.xe s:=by
 have r2:Vals (vs++dvs) (us++ds):=r.append hd;have hl:(us++ds).length=ps.length:=by rw[<-r2.length];exact F.len _ _ _ _ h
 refine wpAny_call (ady (F.run X.A X.stack s H ⟨us,[]⟩ (us++ds) (vs++dvs) Q E hr I.Pn (hb s us I.mN hl) r2 h) λr s' hq=>?_)
 cases r with
 |error e=>exact hx pins σ H s e s' I hq
 |ok fl=>
  cases fl with
  |ret u=>exact I.after hq
  |next=>exact False.elim hq
  |brk=>exact False.elim hq
  |cont=>exact False.elim hq
def Nb(F:053)(hr:dr k X.A)(hg:Gl X x)(hm:X.mg x=some 081)(hk:PySem.W.keepIn X.K 081=true)(hb:Binds X.K fd ps ds)(hd:Vals dvs ds)(hx:Passes CX X E)(ha:PA X 0067 t)(hdb:039=false:=by decide)(he:starEach 0067 X.env=037::starEach es X.env:=by rfl)(hpl:(backTo pos 069).any (·.1)=false:=by rfl):PE X 085 (HF sp dvs E t):=by
 sleep 002;refine ace (uw I hg hm ?_ hdb);refine ac6 (h₀:=X.base) I.ok.mod.EV hk (bq 0041 λus s1 ⟨vs,H1,I1,r,q⟩=>⟨I1.mN,?_⟩) he hpl;exact xg F hr hb hd hx I1 r q
def NB{pl:Sem Bool}(he:PE X o ta)(c:kq X.K C)(hm:Meth X.K C m f)(F:053)(hr:dr k X.A)(hb:Binds X.K fd ps ds)(hd:Vals dvs ds)(hx:Passes CX X E)(ha:PA X 0067 t)(hst:starEach 0067 X.env=037::starEach es X.env:=by rfl)(hpl:(backTo pos 069).any (·.1)=false:=by rfl)(ht:eval (.Call 0055 0067 [] pos) X.env=(do
   let ov<-eval o X.env
   standAt apos.atName
   let(f,first)<-holding [ov] (getMethod ov m pl)
   callWith pos f first (backTo pos (starEach 0067 X.env)) 092):=by rfl):PE X (.Call 0055 0067 [] pos) (wU C m sp dvs E ta t):=by
 sleep 002;refine adz (pl:=pl) (bq 082 λu s1 hq1=>?_) ht;obtain⟨x,H1,I1,rx,a,dx,fs,ex,ea,l,q⟩:=hq1;sleep 013;refine qR I1 ea c hm l ?_;refine ac6 (first:=[.ref a]) (h₀:=X.base) I.ok.mod.EV hm.kp (bq (ha pos pins s1 σ H1 _ I1 q) λus s2 ⟨vs,H2,I2,r,q2⟩=>⟨I2.mN,?_⟩) hst hpl;exact xg (us:=.ref a::us) (vs:=.ref a::vs) F hr hb hd hx I2 (.cons rfl r) q2
def KN{pl:Sem Bool}(he:PE X o ta)(c:kq X.K C)(hm:Meth X.K C m f)(F:053)(hr:dr k X.A)(hb:Binds X.K fd ps ds)(hd:Vals dvs ds)(hx:Passes CX X E)(ht:eval (.Call 0055 [] [] pos) X.env=(do
   let ov<-eval o X.env
   standAt apos.atName
   let(f,first)<-holding [ov] (getMethod ov m pl)
   callWith pos f first (backTo pos (starEach [] X.env)) 092):=by rfl):PE X (.Call 0055 [] [] pos) (wU C m sp dvs E ta jC):=by
 sleep 002;refine adz (pl:=pl) (bq 082 λu s1 hq1=>?_) ht;obtain⟨x,H1,I1,rx,a,dx,fs,ex,ea,l,q⟩:=hq1;sleep 013;refine qR I1 ea c hm l ?_;exact PySem.W.callWith_K0 (first:=[.ref a]) I1.mN hm.kp (xg (us:=[.ref a]) (vs:=[.ref a]) F hr hb hd hx I1 (.cons rfl .nil) q)
structure Mk(K:05)(C f:Addr):Prop where
 makes:PySem.W.makesIn K C=true
 init:PySem.W.findIn K (.ref C) "__init__"=some (some 081)
 fn:PySem.W.isFn K 081=true
 kp:PySem.W.keepIn K (.ref C)=true
def Bx{pins:003}{σ:St}{H:Hp}{s:0016}{Q:VK}{us:007}{vs:0012}(M:Mk X.K C f)(F:053)(hr:dr (k+1) X.A)(hb:Binds X.K fd ps ds)(hd:Vals dvs ds)(hx:Passes CX X E)(I:002)(r:Vals vs us)(h:∀x dx,H x=none->H dx=none->dx≠x->sp (.ref x::(vs++dvs)) (upd (upd H dx (.own x)) x (.ins C dx [])) (λv H2=>v= .bS/\Q (.ref x) H2) E):wpAny 004 X.A (call (.ref C) us) 0054 X.xe s:=by
 have hq:=h (08+1) s.heap.objs.size (I.aX.fresh (acT _)) (I.aX.fresh 097) (aaM (acb _));have I2:=Inv.made (C:=C) I;have r2:Vals (V.ref (08+1)::(vs++dvs)) (Value.ref (08+1)::(us++ds)):=.cons rfl (r.append hd)
 have hl:(Value.ref (08+1)::us++ds).length=ps.length:=by
  have e:=r2.length;rw[F.len _ _ _ _ hq] at e;exact e.symm
 refine wpAny_call (K7 (f:=f) I.mN M.makes M.init (abi.mp M.fn) (ady (F.run _ X.stack _ _ ⟨Value.ref (08+1)::us,[]⟩ (Value.ref (08+1)::(us++ds)) _ _ E (hr.make C us []) (I2.Pn.make C us []) (hb _ (Value.ref (08+1)::us) I2.mN hl) r2 hq) λr s' hq'=>?_))
 cases r with
 |error e=>exact hx pins σ _ _ e s' I2 hq'
 |ok fl=>
  cases fl with
  |ret u=>
   obtain⟨v,H',I3,rv,ev,q3⟩:=I2.after hq';subst ev;exact⟨rv,⟨V.ref (08+1),H',I3,rfl,q3⟩⟩
  |next=>exact False.elim hq'
  |brk=>exact False.elim hq'
  |cont=>exact False.elim hq'
def MB(M:Mk X.K C f)(F:053)(hr:dr (k+1) X.A)(hg:Gl X x)(hm:X.mg x=some (.ref C))(hb:Binds X.K fd ps ds)(hd:Vals dvs ds)(hx:Passes CX X E)(ha:PA X 0067 t)(hdb:039=false:=by decide)(he:starEach 0067 X.env=037::starEach es X.env:=by rfl)(hpl:(backTo pos 069).any (·.1)=false:=by rfl):PE X 085 (uj C sp dvs E t):=by
 sleep 002;refine ace (uw I hg hm ?_ hdb);refine ac6 (h₀:=X.base) I.ok.mod.EV M.kp (bq 0041 λus s1 ⟨vs,H1,I1,r,q⟩=>⟨I1.mN,?_⟩) he hpl;exact Bx M F hr hb hd hx I1 r q
def K6(M:Mk X.K C f)(F:053)(hr:dr (k+1) X.A)(hg:Gl X x)(hm:X.mg x=some (.ref C))(hb:Binds X.K fd ps ds)(hd:Vals dvs ds)(hx:Passes CX X E)(hdb:039=false:=by decide):PE X (.Call (.Name x p) [] [] pos) (uj C sp dvs E jC):=by
 sleep 002;refine ace (uw I hg hm ?_ hdb);exact PySem.W.callWith_K0 I.mN M.kp (Bx (us:=[]) M F hr hb hd hx I .nil h)
end
structure ao(N P:087)(sc:Scope):Prop where
 kind:sc.kind= .function
 co:sc.isCoroutine=false
 gen:sc.isGenerator=false
 nd:N.Nodup
 pre:N.take P.length=P
 par:∀x∈P,sc.names.lookup x=some .local\/sc.names.lookup x=some .cell
 PD:∀y∈sc.names,y.2≠.free
theorem zw{kindOf:Str->Option NameKind}{x:Str}:∀{binds:List (Str×Value)} {m:005},(∀v,(x,v)∉binds)->bindL kindOf binds m x=m x
 |[],_,_=>rfl
 |(n,v)::r,m,h=>by
  unfold bindL;rw[zw λw hw=>h w (aag _ hw)]
  split
  ·have:x≠n:=by rintro rfl;exact h v aae
   simp[this]
  ·rfl
theorem yB{kindOf:Str->Option NameKind}{x:Str}:∀{binds:List (Str×Value)} {m:005},(∀v,(x,v)∉binds)->bindC kindOf binds m x=m x
 |[],_,_=>rfl
 |(n,v)::r,m,h=>by
  unfold bindC;rw[yB λw hw=>h w (aag _ hw)]
  split
  ·rfl
  ·have:x≠n:=by rintro rfl;exact h v aae
   simp[this]
theorem zv{kindOf:Str->Option NameKind}{x:Str}{v:0101}:∀{P:087} {vs:007} {i:Nat} {m:005},P.Nodup->P[i]? =some x->vs[i]? =some v->kindOf x=some .local->bindL kindOf (P.zip vs) m x=some v
 |[],_,_,_,_,h,_,_=>by simp at h
 |_::_,[],_,_,_,_,h,_=>by simp at h
 |p::P,w::vs,0,m,nd,h1,h2,hk=>by
  simp at h1 h2;subst h1;subst h2;show bindL kindOf ((p,w)::P.zip vs) m p=_;unfold bindL;rw[zw λv hv=>(aa6.mp nd).1 (aeP hv).1,aav hk];simp
 |p::P,w::vs,i+1,m,nd,h1,h2,hk=>by
  show bindL kindOf ((p,w)::P.zip vs) m x=_;unfold bindL;exact zv (i:=i) (aa6.mp nd).2 (by simpa using h1) (by simpa using h2) hk
theorem yT{kindOf:Str->Option NameKind}{x:Str}{v:0101}:∀{P:087} {vs:007} {i:Nat} {m:005},P.Nodup->P[i]? =some x->vs[i]? =some v->kindOf x≠some .local->bindC kindOf (P.zip vs) m x=some v
 |[],_,_,_,_,h,_,_=>by simp at h
 |_::_,[],_,_,_,_,h,_=>by simp at h
 |p::P,w::vs,0,m,nd,h1,h2,hk=>by
  simp at h1 h2;subst h1;subst h2;show bindC kindOf ((p,w)::P.zip vs) m p=_;unfold bindC;rw[yB λv hv=>(aa6.mp nd).1 (aeP hv).1,aan hk];simp
 |p::P,w::vs,i+1,m,nd,h1,h2,hk=>by
  show bindC kindOf ((p,w)::P.zip vs) m x=_;unfold bindC;exact yT (i:=i) (aa6.mp nd).2 (by simpa using h1) (by simpa using h2) hk
def start(N:087)(vs:0012):St:=vs.map some++List.replicate (N.length-090) none
def pj(CX:oK)(P:027)(w:066)(K:05)(mg:005)(base:Heap)(N:087)(qual:Str)(scope:Scope)(f:Addr)(cd:0101)(A:061)(outer:List Env)(s:0016)(H:Hp)(E:XK):Cx where
 prog:=P
 w:=w
 K:=K
 mg:=mg
 base:=base
 A:=A.deeper (envOfC qual scope s.heap.objs.size f cd)
 N:=N
 j6:=s
 Bj:=H
 env:=envOfC qual scope s.heap.objs.size f cd
 outer:=outer
 stack:=envOfC qual scope s.heap.objs.size f cd::outer
 ex:=[]
 calm:=true
 fn:=λ_=>true
 pn:=[]
 xe:=λe s'=>wpAny (model P w) (A.deeper (envOfC qual scope s.heap.objs.size f cd)) (leaving (envOfC qual scope s.heap.objs.size f cd) e) (λ_ s''=>CX outer H s E e s'') (λe' s''=>CX outer H s E e' s'') s'
def Bp{sc:Scope}{n:Nat}{x:Str}(h:sc.names.lookup x=some .cell):∃c,(cellsFrom n sc.names []).lookup x=some c:=by
 have q:=aeA sc.names n [] (.inl h);exact abW.mp q
def IW{CX:oK}{P:027}{w:066}{K:05}{mg:005}{base:Heap}{N ps:087}{qual:Str}{scope:Scope}{f:Addr}{cd:0101}{A:061}{outer:List Env}{s s1:0016}{H:Hp}{E:XK}{us:007}{vs:0012}(S:ao N ps scope)(hd:A.handled=none)(e0:vC P w K mg base A outer s H)(hl:090=ps.length)(r:Vals vs us)(x:InCallC s s.heap.objs.size (bindL (envOfC qual scope s.heap.objs.size f cd).kindOf (ps.zip us) λ_=>none) (cellsFrom (08+1) scope.names []) (bindC (envOfC qual scope s.heap.objs.size f cd).kindOf (ps.zip us) λ_=>none) s1):Inv (pj CX P w K mg base N qual scope f cd A outer s H E) [] (start N vs) H s1:=by
 have hpl:ps.length<=N.length:=by have:=aby List.length S.pre;rw[aaH] at this;omega
 obtain⟨h1,tk,rfl,hk⟩:=x.done;have noA:∀b:Addr,b∉(pj CX P w K mg base N qual scope f cd A outer s H E).ex:=λb z=>absurd (show b∈([]:List Addr) from z) 017;refine⟨⟨e0.mod,S.kind,rfl,rfl,aay _,λy z c h1 h2=>?_,λy hy=>?_,λy c _ h=>?_,λ_=>hd,Around.frames_deeper e0.frames,.inr ⟨rfl,rfl⟩,λb z=>absurd z (noA b),e0.bs,e0.uQ,λb _ _=>noA b,λb z=>absurd z (noA b),e0.mI,e0.AW⟩,rfl,e0.bare,Un.kept hk,⟨_,x.toInCall.ns,λi y v h1 h2 h3=>?_⟩,λy c h=>⟨_,x.cell y c h⟩,e0.aX.fresh 097,λy c h=>?_,λp hp=>absurd (show p∈([]:List (Addr×Obj)) from hp) 017,e0.aX.kept hk,?_⟩
 ·exact name_of_addr x.apart (aaW h1) (aaW h2)
 ·have hy:scope.names.lookup y=some .cell\/scope.names.lookup y=some .free:=hy;rcases hy with hy|hy
  ·exact Bp hy
  ·exact absurd rfl (S.PD _ (aaW hy))
 ·exact aeO (x.above y c (aaW h))
 ·have hi:i<090:=by
   unfold start at h2;by_cases hi:i<090
   ·exact hi
   ·rw[aa4 (by simpa using hi)] at h2;rw[ade] at h2
    split at h2<;>cases h2
  have ha:vs[i]? =some v:=by
   unfold start at h2;rw[abo (by simpa using hi),aai] at h2
   cases e:vs[i]? with
   |none=>rw[e] at h2;cases h2
   |some a=>rw[e] at h2;cases h2;rfl
  obtain⟨u,hu,rv⟩:=r.get ha
  have hp:ps[i]? =some y:=by
   rw[<-S.pre,List.getElem?_take_of_lt 03];exact h1
  have ndP:ps.Nodup:=by rw[<-S.pre];exact S.nd.sublist (List.take_sublist _ _)
  refine⟨u,rv,?_⟩;rcases S.par y (aap hp) with k|k
  ·exact .inl ⟨k,zv ndP hp hu k⟩
  ·obtain⟨c,e⟩:=Bp (n:=08+1) k;refine .inr ⟨.inl k,c,e,?_⟩;have q:=x.cell y c e;rw[yT ndP hp hu (by show scope.names.lookup y≠_;rw[k];decide)] at q;exact q
 ·exact e0.aX.fresh (aeO (x.above y c (aaW h)))
 ·unfold start;show _=N.length;rw[aah,aaa,acg];omega
def QA{CX:oK}{P:027}{w:066}{K:05}{mg:005}{base:Heap}{k:Nat}{f:Addr}{name qual:Str}{params:Arguments}{body:List Stmt}{scope:Scope}{dV kV doc pm cdv ct oc:0101}{an od:0088}{osl:0061}{N ps:087}{sp:Sp}(lk:K.lookup f=some ⟨oc,od,.func (PySem.W.fnOf name qual params body scope dV kV doc pm an cdv ct),osl⟩)(gD:PySem.W.codeIn K cdv qual=true)(S:ao N ps scope)(len:∀vs H Q E,sp vs H Q E->090=ps.length)(hbody:∀(A:061) (outer:List Env) (s:0016) (H:Hp) (vs:0012) (Q:VK) (E:XK),dr k (A.deeper (envOfC qual scope s.heap.objs.size f cdv))->sp vs H Q E->∃t,lX (pj CX P w K mg base N qual scope f cdv A outer s H E) body t/\t {nx:=λ_ H'=>Q .bS H',rt:=Q} (start N vs) H):gv P w K mg base CX (k+1) f (PySem.W.fnOf name qual params body scope dV kV doc pm an cdv ct) ps sp:=by
 refine⟨len,λA outer s H args us vs Q E hr e0 hb r hsp=>?_⟩;have hl:=len _ _ _ _ hsp;have KX:K.In s.heap:=e0.mod.EV.keeps λb o e=>(e0.bs b o e).1;have lim:s.heap.NoLimit:=e0.mod.nolimit.keeps λb o e=>(e0.bs b o e).1
 have hkind:∀y∈ps.zip us,scope.names.lookup y.1=some .local\/(scope.names.lookup y.1=some .cell/\((cellsFrom (08+1) scope.names []).lookup y.1).isSome=true):=λ⟨n,v⟩ hy=>by
  rcases S.par n (aeP hy).1 with q|q
  ·exact .inl q
  ·exact .inr ⟨q,aeA _ _ _ (.inl q)⟩
 refine codeAny_call_function hr.depth (KX _ _ lk) rfl S.co S.gen rfl (PySem.W.codeRec_of KX gD) (hb _ _ _ _ ?_);refine wpAny_newFunctionEnv_cells S.kind hkind λenv he s1 x=>?_;subst he;refine⟨lim.keeps x.toInCall.keep,codeAny_func ?_⟩;obtain⟨t,ht,hq⟩:=hbody A outer s H vs Q E (hr.deeper _) hsp;have I:Inv (pj CX P w K mg base N qual scope f cdv A outer s H E) [] (start N vs) H s1:=IW S hr.hd e0 hl r x;refine ab6 (ht [] s1 (start N vs) H _ I hq) (λfl s' hs=>?_) λe s' hs=>hs
 have fin:∀{σ':St} {H':Hp} {v:V} {u:0101},Inv (pj CX P w K mg base N qual scope f cdv A outer s H E) [] σ' H' s'->RelV v u->Q v H'->CE outer P w H s Q u s':=
  λ{σ' H' v u} J rv q=>⟨v,H',J.os,J.bare,J.base,J.aX,rv,q⟩
 cases fl with
 |ret u=>
  obtain⟨v,σ',H',J,rv,q⟩:=hs;exact fin J rv q
 |next=>
  obtain⟨σ',H',J,q⟩:=hs;exact fin (v:=V.bS) (u:=Value.none) J rfl q
 |brk=>
  obtain⟨_,_,_,q⟩:=hs;exact False.elim q
 |cont=>
  obtain⟨_,_,_,q⟩:=hs;exact False.elim q
section
variable{X:Cx}{x:Str}{p pos:Pos}{e:Expr}{es:0062}{t:TA}{id T:String}{r:List V->Hp->VK->Prop}
def B8(r:List V->Hp->VK->Prop)(t:TA):TE:=λσ H Q=>t σ H λvs H1=>r vs H1 Q
def aI(hc:dM X (.builtin id) r)(hg:Gl X x)(hm:X.mg x=none)(hv:bootBuiltins x=some (.builtin id))(ha:PA X 0067 t)(hn:x≠"__name__":=by decide)(hdb:039=false:=by decide)(he:starEach 0067 X.env=037::starEach es X.env:=by rfl)(hpl:(backTo pos 069).any (·.1)=false:=by rfl):PE X 085 (B8 r t):=by
 sleep 002;refine ace (kX I hg hm hv ?_ hn hdb);exact PyProof.Rows.callWith_builtin1 (bq 0041 λus s1 ⟨vs,H1,I1,r1,q1⟩=>hc pins s1 σ H1 vs us Q I1 r1 q1) he hpl
def fi(hc:dM X (.type T) r)(hg:Gl X x)(hm:X.mg x=none)(hv:bootBuiltins x=some (.type T))(ha:PA X 0067 t)(hn:x≠"__name__":=by decide)(hdb:039=false:=by decide)(he:starEach 0067 X.env=037::starEach es X.env:=by rfl)(hpl:(backTo pos 069).any (·.1)=false:=by rfl):PE X 085 (B8 r t):=by
 sleep 002;refine ace (kX I hg hm hv ?_ hn hdb);exact aba (bq 0041 λus s1 ⟨vs,H1,I1,r1,q1⟩=>hc pins s1 σ H1 vs us Q I1 r1 q1) he hpl
end
end L2
namespace HT
open PySem PyProof.Rows
def lexLt:List Int->List Int->Bool
 |[],[]=>false
 |[],_::_=>true
 |_::_,[]=>false
 |x::xs,y::ys=>if x=y then lexLt xs ys else decide (x<y)
theorem dS(x y:Int)(xs ys:025):lexLt (x::xs) (y::ys)=if x=y then lexLt xs ys else decide (x<y):=rfl
theorem zU:lexLt [] []=false:=rfl
theorem yj(y:Int)(ys:025):lexLt [] (y::ys)=true:=rfl
theorem x8(x:Int)(xs:025):lexLt (x::xs) []=false:=rfl
def og(A:061)(s:0016)(a:Int)(t:Tok)(c:Int)(u:Tok):∃e,SeqAt.EqAt A s (.int a t) (.int c u) e/\(e=true↔a=c):=
 ⟨(a==c),SeqAt.EqAt.int_int a t c u,0104⟩
def Cj(A:061)(s:0016)(a:Int)(t:Tok)(c:Int)(u:Tok)(prog:027)(w:066)(E:09)(Q:09)(h:Q (.bool (decide (a<c))) s):wpAny 008 A (richCompare .Lt (.int a t) (.int c u)) Q E s:=
 (PyProof.Rows.lt_int h:wpAny 008 A (compareOp .Lt (.int a t) (.int c u)) Q E s)
section
open PySem.SeqAt
open PySem.AutoSeq1 (wpAny_loadPart')
open PySem.MeetsSeq PySem.MeetsSeq2 PySem.MeetsSeq3
def zG(l b:Addr)(items items2:095)(n n2:Nat)(dd dd2:0088)(sl sl2:0061)(ns ms:025)(hi:IntsAre items.toList ns)(hj:IntsAre items2.toList ms):Meets (Builtin.«tuple.__lt__» ⟨[.ref l,.ref b],[]⟩) (λ_ R s=>s.heap.get? l=some {cls:=.type "tuple",dict:=dd,data:=.seq items n,slots:=sl}/\s.heap.get? b=some {cls:=.type "tuple",dict:=dd2,data:=.seq items2 n2,slots:=sl2}/\R (.ok (.ret (.bool (lexLt ns ms)))) s):=
 .of_wp λprog w A R s h=>by
  obtain⟨hp,g,d,tk,os⟩:=s;obtain⟨hl,hb,h⟩:=h;have f2:=ac0;have z1:items.size=ns.length:=by rw[<-hi.length];simp
  have z2:items2.size=ms.length:=by rw[<-hj.length];simp
  wp_walk using acE hl,acE hb,acv _ (λrest b s'=>b.1=none/\s'=0083/\∃(vs ws:007) (ns' ms':025),rest=vs.zip ws/\IntsAre vs ns'/\IntsAre ws ms'/\ns'.length+items2.size=ms'.length+items.size/\R (.ok (.ret (.bool (lexLt ns' ms')))) 0083) _
  case turn=>
   rintro⟨y,x⟩ rest b s' ⟨hb',rfl,vs,ws,ns',ms',hz,hvi,hwi,hlen,hR⟩
   cases hvi with
   |nil=>rw[acK] at hz;cases hz
   |cons a t hvi'=>
    cases hwi with
    |nil=>rw[ad5] at hz;cases hz
    |cons c u hwi'=>
     sleep 008;rw[dS] at hR;simp only[aat] at hlen;obtain⟨e,he,hiff⟩:=og A.in1 0083 a t c u;refine aaf (he prog w _ _ ?_)
     cases e with
     |true=>
      rw[aav (hiff.mp rfl)] at hR
      wp_walk
      exact⟨rfl,rfl,_,_,_,_,hrest,hvi',hwi',0018,hR⟩
     |false=>
      rw[aan (λq=>absurd (hiff.mpr q) aau)] at hR;have hri:=Cj A.in1 0083 a t c u prog w
      wp_walk using hri
      exact⟨_,rfl,by simpa using hR⟩
  case fin=>
   rintro⟨b1,b2⟩ s' ⟨hb',rfl,vs,ws,ns',ms',hz,hvi,hwi,hlen,hR⟩;simp only at hb';subst hb'
   have hv:lexLt ns' ms'=decide (items.size<items2.size):=by
    cases hvi with
    |nil=>
     cases hwi with
     |nil=>
      simp only[abj] at hlen;rw[zU];exact(aal 03).symm
     |cons c u hw=>
      simp only[abj,aat] at hlen;rw[yj];exact(aaj 03).symm
    |cons a t hv=>
     cases hwi with
     |nil=>
      simp only[abj,aat] at hlen;rw[x8];exact(aal 03).symm
     |cons c u hw=>
      rw[abk] at hz;cases hz
   rw[hv] at hR
   wp_walk
   exact⟨_,rfl,by simpa[Builtin.Tuple.tupleCompareSizes] using hR⟩
  case h=>
   exact⟨rfl,rfl,items.toList,items2.toList,ns,ms,rfl,hi,hj,0018,h⟩
end
section
variable{prog:027}{w:066}{A:061}{E:09}{s:0016}
def F8{l b:Addr}{items items2:095}{ns ms:025}{Q:09}(hl:IsTup s.heap l items)(hb:IsTup s.heap b items2)(hi:IntsAre items.toList ns)(hj:IntsAre items2.toList ms)(hu:A.units<cLine)(h:Q (.bool (lexLt ns ms)) s):wpAny 008 A (compareOp .Lt (.ref l) (.ref b)) Q E s:=by
 obtain⟨⟨cls,dd,data,sl⟩,ho,hc,n,hd⟩:=id hl;obtain⟨⟨cls2,dd2,data2,sl2⟩,ho2,hc2,n2,hd2⟩:=id hb;simp only at hc hd hc2 hd2;subst hc hd hc2 hd2
 exact adm (op:=.Lt) ⟨_,ho,rfl⟩ ⟨_,ho2,rfl⟩ PySem.F.slot_tuple_lt aeB (aen _ _) (zG l b items items2 n n2 dd dd2 sl sl2 ns ms hi hj)
  ⟨ho,ho2,show Value.bool (lexLt ns ms)≠Value.notImplemented/\Q (.bool (lexLt ns ms)) s from⟨(λx=>nomatch x),h⟩⟩ hu
def lY(n d:Nat):Option Int->Nat
 |none=>d
 |some v=>if v<0 then(v+(n:Int)).toNat else min v.toNat n
def Fs(n d k:Nat):lY n d (some (k:Int))=min k n:=by
 show(if(k:Int)<0 then((k:Int)+(n:Int)).toNat else min (k:Int).toNat n)=min k n;rw[aan 03,aa0]
end
end HT
namespace L2
open PySem PySem.Spec PyProof.Rows
abbrev TO:=St->Hp->(Option Int->Hp->Prop)->Prop
def PO(X:Cx)(e:Option Expr)(t:TO):Prop:=
 ∀(pins:003) (s:0016) (σ:St) (H:Hp) (Q:Option Int->Hp->Prop),Inv X pins σ H s->t σ H Q->
  wpAny 004 X.A (evalPart e X.env) (λu s'=>∃o H',Inv X pins σ H' s'/\IsPart u o/\Q o H') X.xe s
def LV(t:TE):TO:=λσ H Q=>t σ H λx H1=>∃i,x= .int i/\Q (some i) H1
def intsAre_of{ns:025}:∀{us:007},Vals 0065 us->IntsAre us ns:=by
 induction ns with
 |nil=>intro us r;rw[acY] at r;cases r;exact .nil
 |cons n ns ih=>
  intro us r;rw[aaB] at r
  cases r with
  |cons r1 r2=>
   obtain⟨t,e⟩:=r1;subst e;exact .cons n t (ih r2)
section
variable{X:Cx}{e:Expr}{te:TE}{lo hi:Option Expr}{tl th:TO}{pos p2:Pos}
def gR(h:PE X e te):PO X (some e) (LV te):=by
 intro pins s σ H Q I hw;rw[evalPart_some];refine bq (h pins s σ H _ I hw) λu s1 ⟨x,H1,I1,r1,q1⟩=>?_;obtain⟨i,rfl,q⟩:=q1;obtain⟨t,rfl⟩:=r1;exact⟨some i,H1,I1,.int i t,q⟩
def Pa(X:Cx)(r:V->Option Int->Option Int->Hp->VK->Prop):Prop:=
 ∀(pins:003) (s:0016) (σ:St) (H:Hp) (x:V) (v vl vu:0101) (lo hi:Option Int) (sl:Addr) (Q:VK),Inv X pins σ H s->RelV x v->s.heap.IsSliceOf sl vl vu .none->IsPart vl lo->IsPart vu hi->r x lo hi H Q->
  ∃T id,typeLookup (.type T) "__getitem__"=pure (some (.builtin id))/\s.TypeIs v T/\wpAny 004 X.A (getItem v (.ref sl)) 0054 X.xe s
def Rx(r:V->Option Int->Option Int->Hp->VK->Prop)(te:TE)(tl th:TO):TE:=λσ H Q=>te σ H λx H1=>tl σ H1 λl H2=>th σ H2 λu H3=>r x l u H3 Q
def lx{r:V->Option Int->Option Int->Hp->VK->Prop}(hr:Pa X r)(he:PE X e te)(hl:PO X lo tl)(hu:PO X hi th):PE X (.Subscript e (.Slice lo hi none p2) pos) (Rx r te tl th):=by
 sleep 002;refine Subscript_ (bq 082 λv s1 ⟨x,H1,I1,r1,q1⟩=>?_);refine wpAny_Slice (bq (hl pins s1 σ H1 _ I1 q1) λvl s2 ⟨l,H2,I2,pl,q2⟩=>bq (hu pins s2 σ H2 _ I2 q2) λvu s3 ⟨u,H3,I3,pu,q3⟩=>?_);rw[evalPart_none];refine aaA ?_;have I4:Inv X pins σ H3 {s3 with heap:=s3.heap.push {cls:=.type "slice",data:=.fields #[vl,vu,.none]}}:=I3.kept (t':=s3.toks) λb ob q=>aaq _ q;obtain⟨T,id,hT,ht,hg⟩:=hr pins {s3 with heap:=s3.heap.push {cls:=.type "slice",data:=.fields #[vl,vu,.none]}} σ H3 x v vl vu l u s3.heap.objs.size Q I4 r1 (Heap.IsSliceOf.new ..) pl pu q3;show wpAny 004 X.A (subscriptTail e (.Slice lo hi none p2) v (.ref s3.heap.objs.size)) 0054 X.xe {s3 with heap:=s3.heap.push {cls:=.type "slice",data:=.fields #[vl,vu,.none]}};exact tail_any (ops:=[.ref s3.heap.objs.size,v]) ht hT hg (by with_unfolding_all rfl)
def lL(xs:0012)(lo hi:Option Int):List V:=(xs.drop (HT.lY xs.length 0 lo)).take (HT.lY xs.length xs.length hi-HT.lY xs.length 0 lo)
def DE(xs:0012)(lo hi:Option Int):(lL xs lo hi).length<=009:=by
 unfold lL;rw[aaH,abh];omega
def NW(K:05):R2:=λx y H Q=>∃a b ns ms,x= .ref a/\y= .ref b/\bw K H a 0065/\bw K H b (ms.map V.int)/\Q (.bl (HT.lexLt ns ms)) H
def OF(hu:X.A.units<cLine):fv X (compareOp .Lt) (NW X.K):=by
 sleep 001;obtain⟨a,b,ns,ms,rfl,rfl,ha,hb,q⟩:=h;cases rx;cases ry;obtain⟨its,r1,p1,_⟩:=I.tuple ha;obtain⟨its2,r2,p2,_⟩:=I.tuple hb;have i1:IntsAre its.toArray.toList ns:=intsAre_of r1;have i2:IntsAre its2.toArray.toList ms:=intsAre_of r2;exact HT.F8 p1 p2 i1 i2 hu ⟨.bl (HT.lexLt ns ms),H,I,rfl,q⟩
end
def wZ(n:Nat)(i:Int):Option Nat:=if 0<=i then(if i<n then some i.toNat else none) else if-(n:Int)<=i then some (i+n).toNat else none
def C1{α:Type}(xs:076)(i:Int):Option α:=(wZ xs.length i).bind λj=>xs[j]?
def E_{n:Nat}{i:Int}{j:Nat}(h:wZ n i=some j):seqIndex? i n=some j/\j<n∧-(n:Int)<=i/\i<n:=by
 unfold wZ at h;by_cases h0:0<=i
 ·rw[aav h0] at h;by_cases h1:i<n
  ·rw[aav h1] at h;have e:i.toNat=j:=aac h;exact⟨by rw[seqIndex_of h0 h1,e],0018,0018,h1⟩
  ·rw[aan h1] at h;cases h
 ·rw[aan h0] at h;by_cases h1: -(n:Int)<=i
  ·rw[aav h1] at h;have e:(i+n).toNat=j:=aac h;exact⟨by rw[seqIndex_neg 03 h1,e],0018,h1,0018⟩
  ·rw[aan h1] at h;cases h
def yd{α:Type}{xs:076}{i:Int}{v:α}(h:C1 xs i=some v):∃j,seqIndex? i 009=some j/\xs[j]? =some v/\j<009∧-(009:Int)<=i/\i<009:=by
 unfold C1 at h
 cases e:wZ xs.length i with
 |none=>rw[e] at h;cases h
 |some j=>
  rw[e] at h;obtain⟨h1,h2,h3,h4⟩:=E_ e;exact⟨j,h1,h,h2,h3,h4⟩
def uy{α:Type}{xs:076}{j:Nat}{v:α}(h:xs[j]? =some v):C1 xs (j:Int)=some v:=by
 have hj:j<009:=(aad.mp h).1
 have e:wZ xs.length (j:Int)=some j:=by
  unfold wZ;rw[aav 03,aav 03];simp
 unfold C1;rw[e];exact h
def Mw(b:Expr):Prop:=∀o i,subscripted b false o i=operate [o,i] (getItem o i)
def rn(X:Cx)(r:R2):Prop:=
 ∀(value slice:Expr) (pins:003) (s:0016) (σ:St) (H:Hp) (x y:V) (v u:0101) (Q:VK),Inv X pins σ H s->RelV x v->RelV y u->r x y H Q->
  subscripted slice false v u=operate [v,u] (getItem v u)->wpAny 004 X.A (subscriptTail value slice v u) 0054 X.xe s
def LL(X:Cx)(id:String)(r:0001):Prop:=
 ∀(pins:003) (s:0016) (σ:St) (H:Hp) (x:V) (xs:0012) (v:0101) (us:007) (Q:VK),Inv X pins σ H s->RelV x v->Vals xs us->r x xs H Q->
  wpAny 004 X.A (call (.builtin id) (v::us)) 0054 X.xe s
section
variable{X:Cx}{a b:Expr}{ta tb:TE}{pos:Pos}
def rn.or{r r':R2}(h:rn X r)(h':rn X r'):rn X (λx y H Q=>r x y H Q\/r' x y H Q):=by
 intro value slice pins s σ H x y v u Q I rx ry q hs;rcases q with q|q
 ·exact h value slice pins s σ H x y v u Q I rx ry q hs
 ·exact h' value slice pins s σ H x y v u Q I rx ry q hs
def cj{r:R2}(hr:rn X r)(ha:PE X a ta)(hb:PE X b tb)(hs:Mw b):PE X (.Subscript a b pos) (yI r ta tb):=by
 sleep 002;exact Subscript_ (KZ ha hb I h λv u s2 x y H2 I2 rx ry q=>hr a b pins s2 σ H2 x y v u Q I2 rx ry q (hs _ _))
def Hg(K:05):R2:=λx y H Q=>∃p xs i v,x= .ref p/\y= .int i/\ax K H p xs/\C1 xs i=some v/\Q v H
def HI(K:05):R2:=λx y H Q=>∃p xs i v,x= .ref p/\y= .int i/\bw K H p xs/\C1 xs i=some v/\Q v H
def N2:R2:=λx y H Q=>∃z i c,x= .str z/\y= .int i/\z.length<=sizeLine/\C1 z.cps.toList i=some c/\Q (.str ⟨#[c]⟩) H
def Fg:rn X (Hg X.K):=by
 intro value slice pins s σ H x y v u Q I rx ry h hs;obtain⟨p,xs,i,z,rfl,rfl,hq,he,q⟩:=h;cases rx;obtain⟨t,rfl⟩:=ry;obtain⟨its,r,pl,hz⟩:=I.list hq;obtain⟨j,h1,h2,h3,h4,h5⟩:=yd he;obtain⟨w,ew,rw'⟩:=r.get h2;have hl:=r.length;have hn:=sf;have fin:EP X pins σ Q w s:=⟨z,H,I,rw',q⟩;by_cases h0:0<=i
 ·have hj:i.toNat=j:=by
   rw[seqIndex_of h0 h5] at h1;exact aac h1
  exact item_listR pl.isList h0 03 (by rw[hj];simpa using ew) fin hs
 ·have hj:(i+(038:Int)).toNat=j:=by
   rw[seqIndex_neg 03 h4] at h1;rw[aaz,<-hl];exact aac h1
  exact subscriptTail_builtinR (x:=w) pl.isList.typeIs slot_list_getitem.lookup
   (wpAny_getItem_list_neg (Q:=λr s'=>r=w/\EP X pins σ Q r s') pl.isList 03 (by rw[aaz]<;>omega) 03 (by rw[hj];simpa using ew) ⟨rfl,fin⟩) hs
def HQ:rn X (HI X.K):=by
 intro value slice pins s σ H x y v u Q I rx ry h hs;obtain⟨p,xs,i,z,rfl,rfl,hq,he,q⟩:=h;cases rx;obtain⟨t,rfl⟩:=ry;obtain⟨its,r,pl,hz⟩:=I.tuple hq;obtain⟨j,h1,h2,h3,h4,h5⟩:=yd he;obtain⟨w,ew,rw'⟩:=r.get h2;have hl:=r.length;have hn:=sf;have fin:EP X pins σ Q w s:=⟨z,H,I,rw',q⟩
 exact subscriptTail_builtinR (x:=w) pl.typeIs slot_tuple_getitem.lookup
  (getItem_tuple (j:=j) (Q:=λr s'=>r=w/\EP X pins σ Q r s') pl 03 03 (by rw[aaz,<-hl];exact h1) (by simpa using ew) ⟨rfl,fin⟩) hs
def PQ:rn X N2:=by
 intro value slice pins s σ H x y v u Q I rx ry h hs;obtain⟨z,i,c,rfl,rfl,hz,he,q⟩:=h;obtain⟨t,rfl⟩:=rx;obtain⟨t',rfl⟩:=ry;obtain⟨j,h1,h2,h3,h4,h5⟩:=yd he;have hl:z.cps.toList.length=z.length:=by simp[Str.length]
 rw[hl] at h1 h4 h5;have hn:=sf
 exact tail_any (typeIs_str s z t) slot_str_getitem.lookup (getItem_str (c:=c) (by
  have e1:decide (i< -(2 ^ 63:Int))=false:=aal 03;have e2:decide (i>=2 ^ 63)=false:=aal 03
  rw[e1,e2,Bool.or_false]) (by rw[h1];simpa using h2) ⟨.str ⟨#[c]⟩,H,I.tok _,⟨_,rfl⟩,q⟩) hs
def N1(K:05):R2:=λx y H Q=>Hg K x y H Q\/HI K x y H Q\/N2 x y H Q
def O7:rn X (N1 X.K):=Fg.or (HQ.or PQ)
def F_(its:007)(n j:Nat)(u:0101):Obj.mapSeq (·.setIfInBounds j u) {cls:=.type "list",data:=.seq its.toArray n}={cls:=.type "list",data:=.seq (its.set j u).toArray n}:=by
 simp[Obj.mapSeq]
def Inv.lst{pins:003}{σ:St}{H:Hp}{s:0016}{p:Addr}{xs:0012}(I:002)(h:H p=some 0090):∃(its:007) (n:Nat),Vals xs its/\s.heap.get? p=some {cls:=.type "list",data:=.seq its.toArray n}/\009<=sizeLine:=by
 obtain⟨z,its,n,r,e⟩:=I.aX p _ h;exact⟨its,n,r,e,z⟩
def Inv.Qb{pins:003}{σ:St}{H:Hp}{s:0016}{p:Addr}{xs ys:0012}{its its':007}{n n':Nat}{f:Obj->Obj}(I:002)(h:H p=some 0090)(ho:s.heap.get? p=some {cls:=.type "list",data:=.seq its.toArray n})(hf:f {cls:=.type "list",data:=.seq its.toArray n}={cls:=.type "list",data:=.seq its'.toArray n'})(r:Vals ys its')(hz:ys.length<=sizeLine)(t:Nat):Inv X pins σ (upd H p (.lst ys)) {s with heap:=s.heap.update p f,toks:=t}:=by
 have e:(s.heap.update p f).get? p=some {cls:=.type "list",data:=.seq its'.toArray n'}:=by
  rw[abG f ho (by rw[hf]<;>rfl),hf]
 refine I.write (x:=p) (e:=p) (by rw[h];trivial) 094 (λb u hb q=>(ab9 _ _ (abl hb)).trans q) ⟨_,e⟩ ?_;exact⟨hz,its',n',r,e⟩
def Qy:V->V->V->Hp->(Hp->Prop)->Prop:=λo i v H Q=>∃p xs k j,o= .ref p/\i= .int k/\H p=some 0090/\wZ xs.length k=some j/\Q (upd H p (.lst (xs.set j v)))
def set_list:N0 X Qy:=by
 intro pins s σ H o i v ov iv u Q I ro ri rv h;obtain⟨p,xs,k,j,rfl,rfl,hp,hj,q⟩:=h;cases ro;obtain⟨t,rfl⟩:=ri;obtain⟨its,n,r,ho,hz⟩:=I.lst hp;obtain⟨h1,h2,h3,h4⟩:=E_ hj;have hl:=r.length;have hn:=sf
 have I':Inv X pins σ (upd H p (.lst (xs.set j v))) {s with heap:=s.heap.update p (Obj.mapSeq (·.setIfInBounds j u))}:=
  I.Qb hp ho (F_ its n j u) (r.set rv j) (by rw[ab7];exact hz) s.toks
 by_cases h0:0<=k
 ·have hk:k.toNat=j:=by
   rw[seqIndex_of h0 h4] at h1;exact aac h1
  exact PySem.W.ki_setAt ho h0 03 (by rw[aaz,<-hl];exact h4) (by rw[hk];exact⟨_,I',q⟩)
 ·have hk:(k+(038:Int)).toNat=j:=by
   rw[seqIndex_neg 03 h3] at h1;rw[aaz,<-hl];exact aac h1
  exact PySem.W.ki_setBack ho 03 (by rw[aaz,<-hl];exact h3) 03 (by rw[hk];exact⟨_,I',q⟩)
def Cp(lo hi:Option Int)(n:Nat):(sliceBounds lo hi none n).1=((HT.lY n 0 lo:Nat):Int)/\(sliceBounds lo hi none n).2.1=((HT.lY n n hi:Nat):Int)/\(sliceBounds lo hi none n).2.2=1:=by
 refine⟨?_,?_,rfl⟩
 ·cases lo with
  |none=>simp[sliceBounds,HT.lY]
  |some i=>
   simp only[sliceBounds,HT.lY,Option.getD_none,show(1:Int)>0 by decide,aeT];by_cases h:i<0
   ·simp only[h,aeT]<;>omega
   ·simp only[h,ab8]<;>omega
 ·cases hi with
  |none=>simp[sliceBounds,HT.lY]
  |some i=>
   simp only[sliceBounds,HT.lY,Option.getD_none,show(1:Int)>0 by decide,aeT];by_cases h:i<0
   ·simp only[h,aeT]<;>omega
   ·simp only[h,ab8]<;>omega
def Al(its:007)(lo hi:Option Int):slicePick its.toArray lo hi none=((its.drop (HT.lY its.length 0 lo)).take (HT.lY its.length its.length hi-HT.lY its.length 0 lo)).toArray:=by
 obtain⟨h1,h2,h3⟩:=Cp lo hi 038;unfold slicePick;rw[h1,h2,h3];simp only[sliceRange_one,pick_run,aaz]<;>rfl
def NS(K:05):V->Option Int->Option Int->Hp->VK->Prop:=λx lo hi H Q=>∃a xs,x= .ref a/\ax K H a xs/\∀p,H p=none->Q (.ref p) (upd H p (.lst (lL xs lo hi)))
def Nh:Pa X (NS X.K):=by
 intro pins s σ H x v vl vu lo hi sl Q I rx hs pl pu h;obtain⟨a,xs,rfl,hx,q⟩:=h;cases rx;obtain⟨its,r,ht,hz⟩:=I.list hx;have hlen:=r.length;refine⟨"list",_,slot_list_getitem.lookup,ht.isList.typeIs,?_⟩;refine wpAny_getItem_list_slice ht.isList hs pl pu .none 017 ?_ (by rw[aaz]<;>omega);rw[Al,<-hlen];refine⟨.ref 08,_,I.laid (t':=s.toks) (o:=.lst (lL xs lo hi)) (λb ob q=>aaq _ q) 097 ?_,rfl,q _ (I.aX.fresh 097)⟩;exact⟨aa8 (DE xs lo hi) hz,_,0,(r.drop (HT.lY xs.length 0 lo)).take (HT.lY xs.length xs.length hi-HT.lY xs.length 0 lo),aaD _ rfl⟩
def BA:dM X 0070 (λxs H Q=>∃p ys,xs=[.ref p]/\(ax X.K H p ys\/bw X.K H p ys)/\Q (.int ys.length) H):=by
 sleep 026;obtain⟨p,ys,rfl,hq,q⟩:=h;obtain⟨u,rfl,rx⟩:=vals1 r;cases rx;have hn:=sf;rcases hq with hq|hq
 ·obtain⟨its,r',pl,hz⟩:=I.list hq;have hlen:=r'.length;exact Calls.call_len_list pl.isList (by simp only[aaz]<;>omega) ⟨.int ys.length,H,I.tok _,⟨s.toks+1,by rw[aaz,hlen]⟩,q⟩
 ·obtain⟨its,r',pl,hz⟩:=I.tuple hq;have hlen:=r'.length;exact len_tuple pl (by simp only[aaz]<;>omega) ⟨.int ys.length,H,I.tok _,⟨s.toks+1,by rw[aaz,hlen]⟩,q⟩
def Bd:dM X (.type "list") (λxs H Q=>∃p ys,xs=[.ref p]/\(ax X.K H p ys\/bw X.K H p ys)/\∀l,H l=none->Q (.ref l) (upd H l (.lst ys))):=by
 sleep 026;obtain⟨p,ys,rfl,hq,q⟩:=h;obtain⟨u,rfl,rx⟩:=vals1 r;cases rx
 have fin:∀(its:007),Vals ys its->ys.length<=sizeLine->∀(h':Heap) (c':Nat),(∀b o',s.heap.get? b=some o'->h'.get? b=some o')->
   h'.get? 08=some {cls:=.type "list",dict:=none,data:=.seq its.toArray c',slots:=#[]}->EP X pins σ Q (.ref 08) {s with heap:=h'}:=λits r' hz h' c' kp e=>
  ⟨.ref 08,_,I.laid (t':=s.toks) kp 097 (show eB X.prog X.w _ h' _ (.lst ys) from⟨hz,its,c',r',e⟩),rfl,q _ (I.aX.fresh 097)⟩
 rcases hq with hq|hq
 ·obtain⟨its,r',pl,hz⟩:=I.list hq;have hlen:=r'.length;obtain⟨o,ho,hc,n,hd⟩:=pl.isList;exact call_list_seq p 094 ho hc hd (λh' c' kp e=>fin its r' hz h' c' kp e) (by simp only[aaz]<;>omega)
 ·obtain⟨its,r',pl,hz⟩:=I.tuple hq;have hlen:=r'.length;obtain⟨o,ho,hc,n,hd⟩:=pl;exact call_list_seq p (.inr rfl) ho hc hd (λh' c' kp e=>fin its r' hz h' c' kp e) (by simp only[aaz]<;>omega)
def zS:dM X (.type "tuple") (λxs H Q=>∃p ys,xs=[.ref p]/\((ax X.K H p ys/\∀l,H l=none->Q (.ref l) (upd H l (.tup ys)))\/(bw X.K H p ys/\Q (.ref p) H))):=by
 sleep 026;obtain⟨p,ys,rfl,h⟩:=h;obtain⟨u,rfl,rx⟩:=vals1 r;cases rx;rcases h with⟨hq,q⟩|⟨hq,q⟩
 ·obtain⟨its,r',pl,hz⟩:=I.list hq;have hlen:=r'.length;refine call_tuple_list pl.isList (λh' kp=>?_) (by simp only[aaz]<;>omega);have I1:Inv X pins σ H {s with heap:=h'}:=I.kept (t':=s.toks) kp
  have I2:Inv X pins σ (upd H h'.objs.size (.tup ys)) {s with heap:=h'.push {cls:=.type "tuple",data:=.seq 0038}}:=
   I1.laid (t':=s.toks) (λb o e=>aaq _ e) 097 (show eB X.prog X.w _ _ _ (.tup ys) from⟨hz,its,r',IsTup.new _ _⟩)
  exact⟨.ref h'.objs.size,_,I2,rfl,q _ (I1.aX.fresh 097)⟩
 ·obtain⟨its,r',pl,hz⟩:=I.tuple hq;exact call_tuple_same pl ⟨.ref p,H,I,rfl,q⟩
def HJ(K:05)(T:String)(x:V)(H:Hp):Prop:=match x with
 |.str _=>T="str"
 |.int _=>T="int"
 |.ref p=>(T="list"/\∃xs,ax K H p xs)\/(T="tuple"/\∃o,K.lookup p=some o/\o.cls= .type "tuple"/\o.dict=none)\/
   (T="dict"/\((∃kvs,H p=some 029)\/∃kvs,H p=some (.dT kvs)))\/(T="set"/\∃S n,H p=some (.set S n))
 |_=>False
def JN{pins:003}{σ:St}{H:Hp}{s:0016}{T:String}{x:V}{v:0101}(I:002)(r:RelV x v)(ty:HJ X.K T x H):s.TypeIs v T/\∀a,v= .ref a->∃ob,s.heap.get? a=some ob/\ob.dict=none:=by
 cases x with
 |str z=>
  obtain⟨t,rfl⟩:=r;cases(show T="str" from ty);exact⟨typeIs_str s z t,λ_ e=>nomatch e⟩
 |int i=>
  obtain⟨t,rfl⟩:=r;cases(show T="int" from ty);exact⟨typeIs_int s i t,λ_ e=>nomatch e⟩
 |ref p=>
  cases r;rcases ty with⟨rfl,xs,hq⟩|⟨rfl,o,hk,hc,hd⟩|⟨rfl,hk⟩|⟨rfl,S,n,hk⟩
  ·obtain⟨its,_,pl,_⟩:=I.list hq;refine⟨pl.isList.typeIs,λa e=>?_⟩;cases e;obtain⟨o,n,e,c,hd,_⟩:=pl;exact⟨o,e,hd⟩
  ·refine⟨⟨o,I.mN p o hk,hc⟩,λa e=>?_⟩;cases e;exact⟨o,I.mN _ o hk,hd⟩
  ·have z:∃o,s.heap.get? p=some o/\o.ExactDict:=by
    rcases hk with⟨kvs,hk⟩|⟨kvs,hk⟩
    ·obtain⟨_,_,_,_,o,_,_,e,ex,_⟩:=I.aX p _ hk;exact⟨o,e,ex⟩
    ·obtain⟨_,_,_,_,o,_,_,e,ex,_⟩:=I.aX p _ hk;exact⟨o,e,ex⟩
   obtain⟨o,e,ex⟩:=z;refine⟨⟨o,e,ex.1⟩,λa e2=>?_⟩;cases e2;exact⟨o,e,ex.2.1⟩
  ·obtain⟨o,_,_,_,e,ex,_⟩:=I.aX p _ hk;refine⟨⟨o,e,ex.1⟩,λa e2=>?_⟩;cases e2;exact⟨o,e,ex.2.1⟩
 |_=>exact False.elim ty
def Kr(K:05)(T:String)(r:0001)(to:TE):TE:=λσ H Q=>to σ H λx H1=>HJ K T x H1/\r x [] H1 Q
def JD(K:05)(T:String)(r:0001)(to:TE)(t:TA):TE:=λσ H Q=>to σ H λx H1=>HJ K T x H1/\t σ H1 λxs H2=>r x xs H2 Q
variable{o e:Expr}{es:0062}{to:TE}{t:TA}{name:Str}{apos cpos:Pos}{T id:String}{r:0001}
def Pu(pa:PlainAttrs T)(slot:Slot T name id)(hty:typeOf (.builtin id)=pure (.type "method_descriptor"))(hm:LL X id r)(ho:PE X o to)(hbase:attributeBase o name X.env (eval o X.env)=eval o X.env:=by rfl)(hline:(apos.endLine==cpos.line)=true:=by rfl):PE X (.Call (.Attribute o name apos) [] [] cpos) (Kr X.K T r to):=by
 sleep 002;refine wpAny_Call_method0_late hbase hline (bq (ho pins s σ H _ I h) λv s1 ⟨x,H1,I1,r1,ty,q1⟩=>?_);obtain⟨h1,h2⟩:=JN I1 r1 ty;exact⟨T,id,pa,slot,hty,h1,h2,adq rfl (PySem.evalArgs_none (hm pins s1 σ H1 x [] v [] Q I1 r1 .nil q1))⟩
def Rk(pa:PlainAttrs T)(slot:Slot T name id)(hty:typeOf (.builtin id)=pure (.type "method_descriptor"))(hm:LL X id r)(ho:PE X o to)(ha:PA X 0067 t)(hbase:attributeBase o name X.env (eval o X.env)=eval o X.env:=by rfl)(hfew:((backTo cpos (starEach 0067 X.env)).all (λx=> !x.1)&&(backToKw cpos (keywordEach [] X.env)).all (λx=>x.1.isSome)&&decide ((e::es).length+([]:List Keyword).length+(if([]:List Keyword).isEmpty then 0 else 1)<30))=true:=by rfl)(hline:(apos.endLine==cpos.line)=true:=by rfl)(hs:starEach 0067 X.env=037::starEach es X.env:=by rfl)(hplain:(backTo cpos 069).any (·.1)=false:=by rfl):PE X (.Call (.Attribute o name apos) 0067 [] cpos) (JD X.K T r to t):=by
 sleep 002;refine wpAny_Call_method_late hbase hfew hline rfl (bq (ho pins s σ H _ I h) λv s1 ⟨x,H1,I1,r1,ty,q1⟩=>?_);obtain⟨h1,h2⟩:=JN I1 r1 ty;refine⟨T,id,pa,slot,hty,h1,h2,?_⟩;have hA:=ha cpos pins s1 σ H1 _ I1 q1;rw[hs] at hA⊢;refine adq (by show(false||(backTo cpos 069).any (·.1))=false;rw[hplain]<;>rfl) (Calls.evalArgs_plain ?_);exact bq hA λus s2 ⟨vs,H2,I2,r2,q2⟩=>hm pins s2 σ H2 x vs v us Q I2 r1 r2 q2
end
def Js(X:Cx)(id:String)(r:0001):Prop:=
 ∀(pins:003) (s:0016) (σ:St) (H:Hp) (x:V) (xs:0012) (v:0101) (us:007) (Q:VK),Inv X pins σ H s->RelV x v->Vals xs us->r x xs H Q->
  wpAny 004 X.A (call (.builtin id) (v::us)) 0054 X.xe s
def Vals.one{x:V}{us:007}(h:Vals [x] us):∃u,us=[u]/\RelV x u:=by
 cases h with
 |cons r t=>
  cases t;exact⟨_,rfl,r⟩
def Vals.two{x y:V}{us:007}(h:Vals [x,y] us):∃u v,us=[u,v]/\RelV x u/\RelV y v:=by
 cases h with
 |cons r t=>
  obtain⟨v,rfl,q⟩:=Vals.one t;exact⟨_,v,rfl,r,q⟩
def Vals.zero:∀{us:007},Vals [] us->us=[]
 |_,.nil=>rfl
def Vals.dropLast{xs:0012}{us:007}(h:Vals xs us):Vals xs.dropLast us.dropLast:=by
 induction h with
 |nil=>exact .nil
 |cons r t ih=>
  cases t with
  |nil=>exact .nil
  |cons q t'=>exact .cons r ih
theorem Vals.eraseIdx:∀{xs:0012} {us:007} (i:Nat),Vals xs us->Vals (xs.eraseIdx i) (us.eraseIdx i)
 |_,_,_,.nil=>.nil
 |_,_,0,.cons _ t=>t
 |_,_,i+1,.cons r t=>.cons r (Vals.eraseIdx i t)
theorem Vals.rep{xs:0012}{us:007}(h:Vals xs us):∀k:Nat,Vals (List.replicate k xs).flatten (List.replicate k us).flatten
 |0=>.nil
 |k+1=>by
  rw[abt,abt,acL,acL];exact Vals.append h (Vals.rep h k)
def GK{α:Type}(l:076):l.eraseIdx (l.length-1)=l.dropLast:=by
 induction l with
 |nil=>rfl
 |cons a r ih=>
  cases r with
  |nil=>rfl
  |cons b r=>
   have e:(a::b::r).length-1=((b::r).length-1)+1:=by
    have h1:(a::b::r).length=r.length+2:=rfl;have h2:(b::r).length=r.length+1:=rfl;omega
   rw[e,List.eraseIdx_cons_succ,ih]
   all_goals rfl
theorem zp{α:Type}:∀(l:076) (i:Nat),(l.eraseIdx i).length<=l.length
 |[],_=>aay _
 |_::_,0=>acT _
 |_::r,i+1=>Nat.succ_le_succ (zp r i)
theorem foldl_rep(its:007):∀(k:Nat) (acc:007),List.foldl (λx1 x2=>x1++x2) acc.toArray (List.replicate k 0038)=(acc++(List.replicate k its).flatten).toArray
 |0,acc=>by simp
 |k+1,acc=>by
  have e:acc.toArray++0038=(acc++its).toArray:=by simp
  have e2:(acc++its)++(List.replicate k its).flatten=acc++(List.replicate (k+1) its).flatten:=by
   rw[abt,acL,aaL]
  rw[<-e2,<-foldl_rep its k (acc++its),<-e,abt,adi]
section
variable{X:Cx}{pins:003}{σ:St}{H:Hp}{s:0016}{l b:Addr}{xs ys zs:0012}
def Inv.BV{its its':007}{n:Nat}{f:Array Value->Array Value}{t':Nat}(I:002)(hH:H l=some 0090)(e:s.heap.get? l=some {cls:=.type "list",data:=.seq its.toArray n})(hf:f 0038=its'.toArray)(hv:Vals ys its')(hz:ys.length<=sizeLine):Inv X pins σ (upd H l (.lst ys)) {s with heap:=s.heap.update l (Obj.mapSeq f),toks:=t'}:=by
 have q:=PySem.IsL.update e f;rw[hf] at q;refine I.write (x:=l) (e:=l) (by rw[hH];exact trivial) 094 (λb' u hb hu=>(ab9 s.heap (Obj.mapSeq f) (abl hb)).trans hu) ⟨_,q⟩ ?_;exact⟨hz,its',_,hv,q⟩
def Inv.OY{its:007}{t':Nat}(I:002)(hv:Vals ys its)(hz:ys.length<=sizeLine):Inv X pins σ (upd H s.heap.objs.size (.lst ys)) {s with heap:=s.heap.push {cls:=.type "list",data:=.seq 0038},toks:=t'}:=
 I.laid (λ_ _ q=>aaq _ q) 097 ⟨hz,its,0,hv,aaD _ rfl⟩
def Inv.fresh(I:002):H 08=none:=I.aX.fresh 097
def Inv.qx(I:002)(hH:H l=some 0090):009<=sizeLine/\∃(its:007) (n:Nat),Vals xs its/\009=its.length/\s.heap.get? l=some {cls:=.type "list",data:=.seq its.toArray n}:=by
 obtain⟨z,its,n,r,e⟩:=I.aX l _ hH;exact⟨z,its,n,r,r.length,e⟩
def Bu{n:Nat}(h:n<=sizeLine):Builtin.List.listTooLong n=false:=by
 unfold Builtin.List.listTooLong;exact aal 03
end
section
variable{X:Cx}
inductive uo(x:V)(vs:0012)(H:Hp)(Q:VK):Prop
 |mk(l:_)(xs:_)(y:_)(_:x= .ref l)(_:vs=[y])(_:H l=some (.lst xs))(_:009<sizeLine)(_:Q .bS (upd H l (.lst (xs++[y]))))
def lW:Js X "list.append" uo:=by
 intro pins s σ H x vs v us Q I rx rv h;obtain⟨l,xs,y,rfl,rfl,hH,hz,q⟩:=h;cases rx;obtain⟨u,rfl,ru⟩:=rv.one;sleep 036;refine adS F.slot_list_append ⟨_,e,rfl⟩ F.entry_list_append (F.args_list_append_2 _ _) (PySem.list_append l its.toArray n u (by rw[aaz];omega)) ⟨e,?_⟩;refine⟨.bS,_,I.BV (its':=its++[u]) hH e 017 (r.append (.cons ru .nil)) ?_,rfl,q⟩;rw[aah,abS];omega
inductive EG(x:V)(vs:0012)(H:Hp)(Q:VK):Prop
 |mk(l:_)(b:_)(xs:_)(zs:_)(_:x= .ref l)(_:vs=[.ref b])(_:H l=some (.lst xs))(_:H b=some (.lst zs))(_:009+zs.length<=sizeLine)(_:Q .bS (upd H l (.lst (xs++zs))))
def jj:Js X "list.extend" EG:=by
 intro pins s σ H x vs v us Q I rx rv h;obtain⟨l,b,xs,zs,rfl,rfl,hH,hB,hz,q⟩:=h;cases rx;obtain⟨u,rfl,ru⟩:=rv.one;cases ru;sleep 036;obtain⟨z2,its2,n2,r2,hl2,e2⟩:=I.qx hB;have hsz:038+its2.toArray.size<=sizeLine:=by rw[aaz,aaz];omega
 have hlong:¬(!its.toArray.isEmpty&&Builtin.List.listTooLong (038+its2.toArray.size))=true:=by
  rw[Bu hsz,acz];exact aau
 refine adS F.slot_list_extend ⟨_,e,rfl⟩ F.entry_list_extend (F.args_list_extend_2 _ _)
  (AutoSeq1.list_extend_list_list_0 l its.toArray n b its2.toArray n2 hlong (by rw[aaz];omega) 03) ⟨e,e2,?_⟩
 refine⟨.bS,_,I.BV (its':=its++its2) hH e 017 (r.append r2) ?_,rfl,q⟩;rw[aah];omega
def R1:V->List V->Hp->VK->Prop:=λx vs H Q=>∃l xs y,x= .ref l/\vs=[]/\H l=some 0090/\xs[009-1]? =some y/\Q y (upd H l (.lst xs.dropLast))
def IH:Js X "list.pop" R1:=by
 intro pins s σ H x vs v us Q I rx rv h;obtain⟨l,xs,y,rfl,rfl,hH,hy,q⟩:=h;cases rx;have hus:=rv.zero;subst hus;sleep 036;obtain⟨u,hu,ru⟩:=r.get hy
 have hy':0038[038-1]? =some u:=by
  show 0038[its.length-1]? =some u;rw[<-aaQ,<-hl];exact hu
 refine adS F.slot_list_pop ⟨_,e,rfl⟩ F.entry_list_pop (F.args_list_pop_1 _) (MeetsSeq.list_pop_last l its.toArray n u hy' (by rw[aaz];omega)) ⟨e,?_⟩;refine⟨y,_,I.BV (its':=its.dropLast) hH e ?_ r.dropLast ?_,ru,q⟩
 ·show its.toArray.eraseIdxIfInBounds (038-1)=its.dropLast.toArray;rw[aaz,adv,GK]
 ·rw[List.length_dropLast];omega
def OE:V->List V->Hp->VK->Prop:=λx vs H Q=>∃l xs i k y,x= .ref l/\vs=[.int i]/\H l=some 0090∧-(2 ^ 63)<=i/\i<2 ^ 63/\seqIndex? i 009=some k/\xs[k]? =some y/\Q y (upd H l (.lst (xs.eraseIdx k)))
def K8:Js X "list.pop" OE:=by
 intro pins s σ H x vs v us Q I rx rv h;obtain⟨l,xs,i,k,y,rfl,rfl,hH,h1,h2,hk,hy,q⟩:=h;cases rx;obtain⟨u,rfl,ru⟩:=rv.one;obtain⟨t,rfl⟩:=ru;sleep 036;obtain⟨w,hw,rw'⟩:=r.get hy
 refine adS F.slot_list_pop ⟨_,e,rfl⟩ F.entry_list_pop (F.args_list_pop_2 _ _)
  (MeetsSeq.list_pop_at l its.toArray n i t k w (fitsIndex_both h1 h2) (by rw[aaz,<-hl];exact hk) (by rw[<-aaQ];exact hw) (by rw[aaz];omega)) ⟨e,?_⟩
 refine⟨y,_,I.BV (its':=its.eraseIdx k) hH e ?_ (r.eraseIdx k) ?_,rw',q⟩
 ·show its.toArray.eraseIdxIfInBounds k=(its.eraseIdx k).toArray;rw[adv]
 ·have:=zp xs k;omega
inductive Hw(x:V)(y:V)(H:Hp)(Q:VK):Prop
 |mk(l:_)(b:_)(xs:_)(zs:_)(_:x= .ref l)(_:y= .ref b)(_:H l=some (.lst xs))(_:H b=some (.lst zs))(_:009+zs.length<=sizeLine)(_:∀p,H p=none->Q (.ref p) (upd H p (.lst (xs++zs))))
def sU:fv X (binaryOp .Add) Hw:=by
 sleep 001;obtain⟨l,b,xs,zs,rfl,rfl,hH,hB,hz,q⟩:=h;cases rx;cases ry;sleep 036;obtain⟨z2,its2,n2,r2,hl2,e2⟩:=I.qx hB;refine PySem.P.add_list e e2 ?_ (by rw[aaz,aaz];omega);have ea:0038++its2.toArray=(its++its2).toArray:=by simp
 rw[ea];exact⟨.ref _,_,I.OY (t':=s.toks) (r.append r2) (by rw[aah];omega),rfl,q _ I.fresh⟩
inductive NL(x:V)(y:V)(H:Hp)(Q:VK):Prop
 |mk(l:_)(k:_)(xs:_)(_:x= .ref l)(_:y= .int k)(_:H l=some (.lst xs))(_: -(2 ^ 63)<=k)(_:k<2 ^ 63)(_:009*k.toNat<=sizeLine)(_:∀p,H p=none->Q (.ref p) (upd H p (.lst (List.replicate k.toNat xs).flatten)))
def len_rep{α:Type}(xs:076)(k:Nat):(List.replicate k xs).flatten.length=k*009:=by
 induction k with
 |zero=>simp
 |succ k ih=>rw[abt,acL,aah,ih,Nat.succ_mul,Nat.add_comm]
def AV:fv X (binaryOp .Mult) NL:=by
 sleep 001;obtain⟨l,k,xs,rfl,rfl,hH,h1,h2,hz,q⟩:=h;cases rx;obtain⟨t,rfl⟩:=ry;sleep 036;have hlen:038*k.toNat<=sizeLine:=by rw[aaz,<-hl];exact hz
 have hcap:¬038*k.toNat>(2 ^ 63-1) / 8:=by
  have:(sizeLine:Nat)<=(2 ^ 63-1) / 8:=by decide
  omega
 have hfit:¬(!Builtin.List.listFitsIndex k)=true:=by
  rw[fitsIndex_both h1 h2];exact aau
 have hlong:¬Builtin.List.listTooLong (038*k.toNat)=true:=by
  rw[Bu hlen];exact aau
 have hnew:List.foldl (λx1 x2=>x1++x2) #[] (List.replicate (if its.toArray.isEmpty=true then 0 else k.toNat) 0038)=(List.replicate k.toNat its).flatten.toArray:=by
  have f0:∀m:Nat,List.foldl (λx1 x2=>x1++x2) #[] (List.replicate m 0038)=(List.replicate m its).flatten.toArray:=λm=>by
   have:=foldl_rep its m [];rw[List.nil_append] at this;exact this
  rw[f0]
  cases its with
  |nil=>simp
  |cons a r'=>rw[aan 017]
 refine wpAny_binaryOp_repeat_ref (T:="list") (U:="int") 0010 ⟨_,e,rfl⟩ (λs'=>typeIs_int s' k t) noFill_list_mul F.fills_int_mul F.slot_int_rmul repeat_list F.slot_int_index.lookup
  (adS F.slot_int_rmul (typeIs_int s k t) F.entry_int_rmul (F.args_int_rmul_2 _ _) (int___rmul___int_list k t l its.toArray n) ⟨e,rfl,⟨_,e,rfl⟩,adS F.slot_list_mul ⟨_,e,rfl⟩ F.entry_list_mul (F.args_list_mul_2 _ _) (AutoListH.list___mul___list_int_3 l its.toArray n k t hfit hcap hlong) ⟨e,?_⟩⟩)
 rw[hnew];exact⟨.ref _,_,I.OY (t':=s.toks) (r.rep k.toNat) (by rw[len_rep,aeN];exact hz),rfl,q _ I.fresh⟩
end
theorem Vals.ints:∀{ns:025} {us:007},Vals 0065 us->IntsAre us ns
 |[],us,h=>by
  rw[acY] at h;cases h;exact IntsAre.nil
 |n::ns,us,h=>by
  rw[aaB] at h
  cases h with
  |cons r t=>
   obtain⟨k,rfl⟩:=r;exact IntsAre.cons n k (Vals.ints t)
theorem tQ:∀{us:007} {ns:025},IntsAre us ns->Vals 0065 us
 |_,_,.nil=>by rw[acY];exact Paired.nil
 |_,_,.cons n t h=>by rw[aaB];exact Paired.cons (show RelV (V.int n) (Value.int n t) from⟨t,rfl⟩) (tQ h)
theorem Vals.N3:∀{bs:List Bool} {us:007},Vals (bs.map V.bl) us->us=bs.map Value.bool
 |[],us,h=>by
  rw[acY] at h;cases h;rfl
 |b::bs,us,h=>by
  rw[aaB] at h
  cases h with
  |cons r t=>
   cases r;rw[Vals.N3 t,aaB]
def Vals.F9{a:Addr}{us:007}(r:Vals [V.ref a] us):us=[Value.ref a]:=by
 cases r with
 |cons r t=>
  cases t;cases r;rfl
section
variable{prog:027}{w:066}{A:061}{E:09}{s:0016}{l:Addr}{its:007}{ns:025}{Q:09}
def NC(hh:A.handled=none)(hl:s.heap.IsList l 0038)(hi:IntsAre its ns)(h:∀h' tk t',(∀b o,s.heap.get? b=some o->h'.get? b=some o)->Q (.int ns.sum t') {s with heap:=h',toks:=tk}):wpAny 008 A (call (.builtin "sum") [.ref l]) Q E s:=by
 obtain⟨xs,e⟩:=hi.allInts.items;have hn:numsOf (intItems xs).toList=ns:=by rw[<-e];exact hi.numsOf
 rw[nums_intItems] at hn;rw[e] at hl;refine PySem.sum_intListG hh hl λh' tk t' hk=>?_;have:=h h' tk t' hk;rw[preSum_eq,abz 017,hn];exact this
end
section
variable{X:Cx}
def N8(K:05):List V->Hp->VK->Prop:=λvs H Q=>∃(a:Addr) (ns:025),vs=[V.ref a]/\ax K H a 0065/\Q (.int ns.sum) H
def P2(hc:0009):dM X (.builtin "sum") (N8 X.K):=by
 intro pins s σ H vs us Q I r h;obtain⟨a,ns,rfl,hs,q⟩:=h;obtain⟨its,rv,hl,_⟩:=I.list hs;rw[Vals.F9 r];exact NC 0053 hl.isList rv.ints λh' tk t' hk=>⟨.int _,H,I.kept hk,⟨_,rfl⟩,q⟩
end
def A4{prog:027}{w:066}{A:061}{E:09}{s:0016}{l:Addr}{items:095}{Q:09}(hl:s.heap.IsList l items)(h:∀s₂:Shared,s₂={s with heap:=s.heap.push {cls:=.type "list_iterator",data:=.fields #[.ref l,.int 0 0]}}->(s₂.heap.IsListIter s.heap.objs.size l 0/\s₂.heap.IsList l items)->l≠08->Q (.ref 08) s₂):wpAny 008 A (pyIter (.ref l)) Q E s:=by
 have hlt:l<08:=by obtain⟨_,e,_⟩:=hl;exact aaG e
 exact aeg hl (h _ rfl ⟨0007,hl.push _⟩ (aaM hlt))
def vh{prog:027}{w:066}{A:061}{bs:List Bool}{its:007}(e:its=bs.map Value.bool):TruthOf prog w A (λi v=>0038[i]? =some v) (λi=>bs.getD i false):=λi v s Q E hv hq=>by
 have hv':its[i]? =some v:=by simpa using hv
 rw[e,aai] at hv';obtain⟨b,hb,rfl⟩:=aaI.mp hv';have hg:bs.getD i false=b:=by rw[aaF,hb]<;>rfl
 have hq':Q (bs.getD i false) s:=hq;rw[hg] at hq';exact abM hq'
theorem any_range:∀bs:List Bool,(List.range bs.length).any (λi=>bs.getD i false)=bs.any id
 |[]=>rfl
 |b::bs=>by
  rw[aat,ado,ach,aeQ,ach,<-any_range bs]
  all_goals rfl
theorem all_range:∀bs:List Bool,(List.range bs.length).all (λi=>bs.getD i false)=bs.all id
 |[]=>rfl
 |b::bs=>by
  rw[aat,ado,adO,acZ,adO,<-all_range bs]
  all_goals rfl
section
variable{X:Cx}
def Lx(K:05):List V->Hp->VK->Prop:=λvs H Q=>∃(a:Addr) (bs:List Bool),vs=[V.ref a]/\ax K H a (bs.map V.bl)/\Q (.bl (bs.any id)) H
def Gv(K:05):List V->Hp->VK->Prop:=λvs H Q=>∃(a:Addr) (bs:List Bool),vs=[V.ref a]/\ax K H a (bs.map V.bl)/\Q (.bl (bs.all id)) H
def Ph(hc:0009):dM X (.builtin "any") (Lx X.K):=by
 intro pins s σ H vs us Q I r h;obtain⟨a,bs,rfl,hs,q⟩:=h;obtain⟨its,rv,hl,_⟩:=I.list hs;rw[Vals.F9 r];have hb:=rv.N3;refine call_any_walk (A4 hl.isList λs₂ e2 st hne=>?_);subst e2;refine⟨_,_,_,_,_,_,_,rfl,Walks.list (A:=X.A.in1) 0053 _ a hne 0038,st,vh hb,λh' tk hk=>?_⟩;refine⟨.bl _,H,I.kept λb o eo=>hk b o (λhmem=>?_) (aaq _ eo),?_,q⟩
 ·rcases aao.mp hmem with e1|hmem
  ·exact absurd (e1▸aaG eo) (abu _)
  ·cases hmem
 ·show Value.bool _=Value.bool _;rw[<-any_range,hb,aaz,aaa]
def Qh(hc:0009):dM X (.builtin "all") (Gv X.K):=by
 intro pins s σ H vs us Q I r h;obtain⟨a,bs,rfl,hs,q⟩:=h;obtain⟨its,rv,hl,_⟩:=I.list hs;rw[Vals.F9 r];have hb:=rv.N3;refine call_all_walk (A4 hl.isList λs₂ e2 st hne=>?_);subst e2;refine⟨_,_,_,_,_,_,_,rfl,Walks.list (A:=X.A.in1) 0053 _ a hne 0038,st,vh hb,λh' tk hk=>?_⟩;refine⟨.bl _,H,I.kept λb o eo=>hk b o (λhmem=>?_) (aaq _ eo),?_,q⟩
 ·rcases aao.mp hmem with e1|hmem
  ·exact absurd (e1▸aaG eo) (abu _)
  ·cases hmem
 ·show Value.bool _=Value.bool _;rw[<-all_range,hb,aaz,aaa]
end
mutual
inductive Dp (K:05) (H:Hp):V->PyData->Prop
 |bS:Dp K H .bS .none
 |bl (b:Bool):Dp K H (.bl b) (.bool b)
 |int (i:Int):Dp K H (.int i) (.int i)
 |str (x:Str):Dp K H (.str x) (.str x)
 |lst {a:Addr} {xs:0012} {ds:List PyData}:ax K H a xs->qu K H xs ds->Dp K H (.ref a) (.list ds)
 |tup {a:Addr} {xs:0012} {ds:List PyData}:bw K H a xs->qu K H xs ds->Dp K H (.ref a) (.tuple ds)
inductive qu (K:05) (H:Hp):List V->List PyData->Prop
 |nil:qu K H [] []
 |cons {v:V} {vs:0012} {d:PyData} {ds:List PyData}:Dp K H v d->qu K H vs ds->qu K H (v::vs) (d::ds)
end
section
variable{X:Cx}{pins:003}{σ:St}{H:Hp}{s:0016}
mutual
theorem Dp.reads (I:002):∀(d:PyData) (v:V) (u:0101),Dp X.K H v d->RelV v u->∃as,Reads s.heap u d as
 |.none,_,_,h,r=>by
  cases h
  cases r
  exact⟨_,Reads.none⟩
 |.bool b,_,_,h,r=>by
  cases h
  cases r
  exact⟨_,Reads.bool b⟩
 |.int i,_,_,h,r=>by
  cases h
  obtain⟨t,rfl⟩:=r
  exact⟨_,Reads.int i t⟩
 |.str x,_,_,h,r=>by
  cases h
  obtain⟨t,rfl⟩:=r
  exact⟨_,Reads.str x t⟩
 |.list ds,_,_,h,r=>by
  cases h with
  |lst hs ha=>
   cases r
   obtain⟨its,rv,⟨o,n,ho,hc,_,hd⟩,_⟩:=I.list hs
   obtain⟨as,hr⟩:=Dp.readsAll I ds _ its ha rv
   exact⟨_,Reads.list ho hc hd hr⟩
 |.tuple ds,_,_,h,r=>by
  cases h with
  |tup hs ha=>
   cases r
   obtain⟨its,rv,⟨o,ho,hc,n,hd⟩,_⟩:=I.tuple hs
   obtain⟨as,hr⟩:=Dp.readsAll I ds _ its ha rv
   exact⟨_,Reads.tuple ho hc hd hr⟩
 |.dict _,_,_,h,_=>by cases h
theorem Dp.readsAll (I:002):∀(ds:List PyData) (vs:0012) (us:007),qu X.K H vs ds->Vals vs us->∃as,ReadsAll s.heap us ds as
 |[],_,_,h,r=>by
  cases h
  cases r
  exact⟨_,ReadsAll.nil⟩
 |d::ds,_,_,h,r=>by
  cases h with
  |cons h1 h2=>
   cases r with
   |cons r1 r2=>
    obtain⟨as,q1⟩:=Dp.reads I d _ _ h1 r1
    obtain⟨bs,q2⟩:=Dp.readsAll I ds _ _ h2 r2
    exact⟨_,ReadsAll.cons q1 q2⟩
end
end
section
variable{X:Cx}
def RV(K:05):R2:=λx y H Q=>∃d e,Dp K H x d/\Dp K H y e/\SeqAt.shaped d=true/\SeqAt.shaped e=true/\Q (.bl (PyData.eqv d e)) H
def RG(K:05):R2:=λx y H Q=>∃d e,Dp K H x d/\Dp K H y e/\SeqAt.shaped d=true/\SeqAt.shaped e=true/\Q (.bl (!PyData.eqv d e)) H
def IB(hu:062):fv X (compareOp .Eq) (RV X.K):=by
 sleep 001;obtain⟨d,e,hd,he,sd,se,q⟩:=h;obtain⟨as,r1⟩:=Dp.reads I d x v hd rx;obtain⟨bs,r2⟩:=Dp.reads I e y u he ry;exact SeqAt.compareEq_shaped r1 r2 sd se hu ⟨.bl _,H,I,rfl,q⟩
def OX(hu:062):fv X (compareOp .NotEq) (RG X.K):=by
 sleep 001;obtain⟨d,e,hd,he,sd,se,q⟩:=h;obtain⟨as,r1⟩:=Dp.reads I d x v hd rx;obtain⟨bs,r2⟩:=Dp.reads I e y u he ry;exact SeqAt.compareNe_shaped r1 r2 sd se hu ⟨.bl _,H,I,rfl,q⟩
end
abbrev Jn(h:Heap)(c:Addr)(v:Option Value):Prop:=h.IsCell c v
def RD(scope sc:Scope):Scope:=
 {scope with names:=scope.names.map λ(n,k)=>if(k== .free&&sc.kind== .function&&sc.names.lookup n==some .cell) then(n,.cell) else(n,k)}
def dB(cells:048):List (Str×NameKind)->List (Str×Addr)->List (Str×Addr)
 |[],acc=>acc
 |(n,k)::r,acc=>if k== .free then dB cells r ((n,(cells.lookup n).getD 0)::acc) else dB cells r acc
theorem tJ(env:Env)(f:Str×NameKind->List (Str×Addr)->Sem (ForInStep (List (Str×Addr))))(hf:∀n k c,f (n,k) c=if k== .free then(do let a<-cellOf env n;pure (.yield ((n,a)::c))) else pure (.yield c)):∀(names:0046) (acc:048),(∀y∈names,y.2= .free->∃c,env.cells.lookup y.1=some c)->forIn names acc f=pure (dB env.cells names acc)
 |[],acc,_=>by rw[aed];rfl
 |(n,k)::r,acc,h=>by
  rw[adZ,hf];have ih:=λacc=>tJ env f hf r acc λy hy=>h y (aag _ hy);unfold dB;by_cases hk:(k==NameKind.free)=true
  ·rw[aav hk,aav hk];obtain⟨c,hc⟩:=h (n,k) aae (by simpa using hk);have e:cellOf env n=pure c:=by unfold cellOf;rw[hc]
   rw[e];have e2:(env.cells.lookup n).getD 0=c:=by rw[hc];rfl
   rw[e2];exact ih _
  ·rw[aan hk,aan hk];exact ih _
def Hm{scope:Scope}{env:Env}(h:∀y∈scope.names,y.2= .free->∃c,env.cells.lookup y.1=some c):closureFor scope env=pure (dB env.cells scope.names []):=by
 simp only[closureFor];rw[tJ env _ (λn k c=>rfl) scope.names [] h];rfl
theorem mem_lookup{α:Type}:∀{l:List (Str×α)} {n:Str} {c:α},(n,c)∈l->∃c',l.lookup n=some c'
 |(k,v)::r,n,c,h=>by
  rw[acd]
  cases hb:n==k with
  |true=>exact⟨_,rfl⟩
  |false=>
   rcases aao.mp h with e|h
   ·cases e;simp at hb
   ·exact mem_lookup h
theorem lU{cells:048}:∀{names:0046} {acc:048} {n:Str} {c:Addr},(n,c)∈dB cells names acc->(n,c)∈acc\/((n,.free)∈names/\c=(cells.lookup n).getD 0)
 |[],_,_,_,h=>.inl h
 |(m,k)::r,acc,n,c,h=>by
  unfold dB at h
  split at h
  ·rename_i hk;have hk:k= .free:=by simpa using hk
   rcases lU h with h|⟨h1,h2⟩
   ·rcases aao.mp h with e|h
    ·cases e;exact .inr ⟨hk▸aae,rfl⟩
    ·exact .inl h
   ·exact .inr ⟨aag _ h1,h2⟩
  ·rcases lU h with h|⟨h1,h2⟩
   ·exact .inl h
   ·exact .inr ⟨aag _ h1,h2⟩
theorem pz{cells:048}:∀{names:0046} {acc:048} {p:Str×Addr},p∈acc->p∈dB cells names acc
 |[],_,_,h=>h
 |(m,k)::r,acc,p,h=>by
  unfold dB
  split
  ·exact pz (aag _ h)
  ·exact pz h
theorem o9{cells:048}:∀{names:0046} {acc:048} {n:Str},(n,.free)∈names->(n,(cells.lookup n).getD 0)∈dB cells names acc
 |(m,k)::r,acc,n,h=>by
  unfold dB;rcases aao.mp h with e|h
  ·cases e;exact pz aae
  ·split
   ·exact o9 h
   ·exact o9 h
theorem l_:∀{names:0046} {h:Heap} {acc:048} {x:Str} {c:Addr},(x,c)∈cellsFrom h.objs.size names acc->(x,c)∈acc\/((x,.cell)∈names/\h.objs.size<=c/\Jn (pushCells h names) c none)
 |[],_,_,_,_,h=>.inl h
 |(n,k)::r,h,acc,x,c,hm=>by
  unfold cellsFrom at hm;unfold pushCells
  split at hm
  ·rename_i hk;rw[aav hk];have hk:k= .cell:=by simpa using hk
   rw[<-aa1 h {cls:=.type "cell",data:=.cell none}] at hm;rcases l_ hm with hm|⟨h1,h2,h3⟩
   ·rcases aao.mp hm with e|hm
    ·cases e;exact .inr ⟨hk▸aae,aay _,_,adU r _ _ _ (aaD _ rfl),rfl⟩
    ·exact .inl hm
   ·rw[aa1] at h2;exact .inr ⟨aag _ h1,acq h2,h3⟩
  ·rename_i hk;rw[aan hk];rcases l_ hm with hm|⟨h1,h2,h3⟩
   ·exact .inl hm
   ·exact .inr ⟨aag _ h1,h2,h3⟩
theorem oU:∀{names:0046} {n:Nat} {acc:048} {p:Str×Addr},p∈acc->p∈cellsFrom n names acc
 |[],_,_,_,h=>h
 |(m,k)::r,n,acc,p,h=>by
  unfold cellsFrom
  split
  ·exact oU (aag _ h)
  ·exact oU h
theorem tV:∀{names:0046} {n:Nat} {acc:048} {x:Str},(x,.cell)∈names->∃c,(x,c)∈cellsFrom n names acc
 |(m,k)::r,n,acc,x,h=>by
  unfold cellsFrom;rcases aao.mp h with e|h
  ·cases e;exact⟨n,oU aae⟩
  ·split
   ·exact tV h
   ·exact tV h
theorem tF:∀{names:0046} {h:Heap} {acc:048} {x y:Str} {c:Addr},(∀p∈acc,p.2<h.objs.size)->(∀x y c,(x,c)∈acc->(y,c)∈acc->x=y)->(x,c)∈cellsFrom h.objs.size names acc->(y,c)∈cellsFrom h.objs.size names acc->x=y
 |[],_,_,_,_,_,_,hi,h1,h2=>hi _ _ _ h1 h2
 |(n,k)::r,h,acc,x,y,c,hl,hi,h1,h2=>by
  unfold cellsFrom at h1 h2
  split at h1
  ·rename_i hk;rw[aav hk] at h2;rw[<-aa1 h {cls:=.type "cell",data:=.cell none}] at h1 h2;refine tF (h:=h.push _) (λp hp=>?_) (λx y c a b=>?_) h1 h2
   ·rw[aa1];rcases aao.mp hp with rfl|hp
    ·exact acb _
    ·exact abF (hl p hp)
   ·rcases aao.mp a with e|a<;>rcases aao.mp b with e'|b
    ·cases e;cases e';rfl
    ·cases e;exact absurd (hl _ b) (abu _)
    ·cases e';exact absurd (hl _ a) (abu _)
    ·exact hi _ _ _ a b
  ·rename_i hk;rw[aan hk] at h2;exact tF hl hi h1 h2
def DV{M:Model}{A:061}{E:09}{s:0016}{scope:Scope}{globals:Addr}{closure:048}{qual:Str}{func:0088}{code:0101}{around:Env}{builtins:Addr}{Q:Env->Shared->Prop}(h:Q (newEnv scope s.heap.objs.size globals (cellsFrom (08+1) scope.names closure) qual func code (some around) builtins) {s with heap:=pushCells (s.heap.push {cls:=.type "dict",data:=.dict #[]}) scope.names}):wpAny M A (newFunctionEnv scope globals closure [] qual func code (some around) builtins) Q E s:=by
 simp only[newFunctionEnv,Option.isSome_some,aeT];refine aaf (wpAny_alloc ?_);refine aaf (wpAny_layCells _ (λn k c=>rfl) scope.names closure _ _ ?_);rw[show({s with heap:=s.heap.push {cls:=.type "dict",data:=.dict #[]}}:Shared).heap.objs.size=08+1 from aa1 ..];rw[aed];exact aaf (aaA (aaA h))
theorem o_{sc:Scope}:∀{names:0046} {x:Str} {k:NameKind},(names.map λ(n,k)=>if(k==NameKind.free&&sc.kind== .function&&sc.names.lookup n==some .cell) then(n,NameKind.cell) else(n,k)).lookup x=some k->∃k',names.lookup x=some k'/\(k=k'\/(k'= .free/\k= .cell))
 |[],_,_,h=>by simp at h
 |(n,k₀)::r,x,k,h=>by
  have ih:=@o_ sc r x k;have h':List.lookup x ((if(k₀==NameKind.free&&sc.kind== .function&&sc.names.lookup n==some .cell)=true then(n,NameKind.cell) else(n,k₀))::(r.map _))=some k:=h
  cases hx:x==n with
  |true=>
   simp only[acd,hx];by_cases hc:(k₀==NameKind.free&&sc.kind== .function&&sc.names.lookup n==some .cell)=true
   ·rw[aav hc] at h';simp only[acd,hx] at h';cases h';simp only[aak,abi] at hc;exact⟨k₀,rfl,.inr ⟨hc.1.1,rfl⟩⟩
   ·rw[aan hc] at h';simp only[acd,hx] at h';cases h';exact⟨_,rfl,.inl rfl⟩
  |false=>
   simp only[acd,hx];by_cases hc:(k₀==NameKind.free&&sc.kind== .function&&sc.names.lookup n==some .cell)=true
   ·rw[aav hc] at h';simp only[acd,hx] at h';exact ih h'
   ·rw[aan hc] at h';simp only[acd,hx] at h';exact ih h'
structure w_(N:087)(sc scope:Scope)(own:List (Str×Nat)):Prop where
 kind:scope.kind= .function
 uniq:∀y∈scope.names,scope.names.lookup y.1=some y.2
 ix:∀p∈own,N[p.2]? =some p.1
 free:∀y∈scope.names,y.2= .free->sc.names.lookup y.1=some .cell\/sc.names.lookup y.1=some .free
 own:∀y∈scope.names,y.2= .local\/y.2= .cell->y.1∈own.map (·.1)\/y.1∉N
def wipe(σ:St):List Nat->St
 |[]=>σ
 |v::vs=>(wipe σ vs).set v none
theorem o8(σ:St):∀vs:List Nat,(wipe σ vs).length=σ.length
 |[]=>rfl
 |v::vs=>by unfold wipe;rw[ab7,o8 σ vs]
theorem tG{σ:St}{i:Nat}{x:V}:∀{vs:015},0097[i]? =some (some x)->σ[i]? =some (some x)/\i∉vs
 |[],h=>⟨h,0104⟩
 |v::vs,h=>by
  unfold wipe at h;by_cases hi:v=i
  ·subst hi;by_cases hv:v<(wipe σ vs).length
   ·rw[acA hv] at h;cases h
   ·rw[aaS (by simpa using hv)] at h;cases h
  ·rw[acN hi] at h;obtain⟨h1,h2⟩:=tG h;exact⟨h1,by simp only[aao,not_or];exact⟨λe=>hi e.symm,h2⟩⟩
abbrev Cx.kD(X:Cx)(s:0016)(H:Hp)(scope:Scope)(cenv:Env)(fp:016):Cx:={X with j6:=s,Bj:=H,env:=cenv,outer:=X.stack,ex:=fp,fn:=λx=>scope.names.lookup x==some .cell,pn:=[],xe:=λ_ _=>False}
section
variable{X:Cx}{pins:003}{σ:St}{H:Hp}{s:0016}
def DU{scope:Scope}{own:List (Str×Nat)}{fp:016}(I:002)(ok:w_ X.N X.env.scope scope own)(hN:X.N.Nodup)(hfp:∀b∈fp,nB X pins H b/\b<08):Inv (X.kD s H scope (compEnvC scope (cellsFrom (08+1) scope.names (dB X.env.cells scope.names [])) s.heap.objs.size X.env) fp) [] (wipe σ (own.map (·.2))) H {s with heap:=pushCells (s.heap.push {cls:=.type "dict",data:=.dict #[]}) scope.names}:=by
 have hfree:∀y∈scope.names,y.2= .free->∃c,X.env.cells.lookup y.1=some c:=λy hy e=>by
  rcases ok.free y hy e with k|k
  ·exact I.ok.has _ (.inl k)
  ·exact I.ok.has _ (.inr k)
 generalize hcenv:compEnvC scope (cellsFrom (08+1) scope.names (dB X.env.cells scope.names [])) s.heap.objs.size X.env=cenv;have kp:∀b o,s.heap.get? b=some o->(pushCells (s.heap.push {cls:=.type "dict",data:=.dict #[]}) scope.names).get? b=some o:=λb o e=>adU _ _ _ _ (aaq _ e);have hL:cenv.locals=08:=by rw[<-hcenv];rfl
 have hcl:cenv.cells=cellsFrom (08+1) scope.names (dB X.env.cells scope.names []):=by rw[<-hcenv];rfl
 have hsc:cenv.scope=RD scope X.env.scope:=by rw[<-hcenv];rfl
 rw[<-aa1 s.heap {cls:=.type "dict",data:=.dict #[]}] at hcl
 have cm:∀{y c},(y,c)∈dB X.env.cells scope.names []->X.env.cells.lookup y=some c/\c<08:=λ{y c} hm=>by
  rcases lU hm with hm|⟨h1,rfl⟩
  ·cases hm
  ·obtain⟨c,hc⟩:=hfree _ h1 rfl;rw[hc];obtain⟨w,z⟩:=I.cell _ _ hc;exact⟨rfl,z.lt⟩
 have mem:∀{y c},cenv.cells.lookup y=some c->(X.env.cells.lookup y=some c/\c<08)\/(08+1<=c/\Jn (pushCells (s.heap.push {cls:=.type "dict",data:=.dict #[]}) scope.names) c none):=λ{y c} e=>by
  rw[hcl] at e;rcases l_ (aaW e) with hm|⟨_,h2,h3⟩
  ·exact .inl (cm hm)
  ·rw[aa1] at h2;exact .inr ⟨h2,h3⟩
 have look:∀{y},scope.names.lookup y=some .free->∃c,cenv.cells.lookup y=some c/\X.env.cells.lookup y=some c:=λ{y} hl=>by
  have hy:(y,NameKind.free)∈scope.names:=aaW hl;obtain⟨c',e'⟩:=mem_lookup (oU (names:=scope.names) (n:=(s.heap.push {cls:=.type "dict",data:=.dict #[]}).objs.size) (o9 (cells:=X.env.cells) (acc:=[]) hy));rw[<-hcl] at e';refine⟨c',e',?_⟩;rw[hcl] at e';rcases l_ (aaW e') with hm|⟨h1,_,_⟩
  ·exact(cm hm).1
  ·have:=ok.uniq _ h1;rw[hl] at this;cases this
 have okB:(X.kD s H scope cenv fp).Ok:=by
  refine⟨I.ok.mod,by show cenv.scope.kind=_;rw[hsc];exact ok.kind,by show cenv.globals=_;rw[<-hcenv];exact I.ok.glob,by show cenv.builtins=_;rw[<-hcenv];exact I.ok.blt,by show 08<=cenv.locals;rw[hL];exact aay _,
   λy z c e1 e2=>?_,λy hy=>?_,λy c z e=>?_,I.ok.hd,I.ok.frames,.inl rfl,λb hb=>⟨?_,λy c e z=>?_⟩,I.bs,aa8 I.ok.uQ I.sz,λb o e hb=>?_,λb hb z=>?_,I.stack,I.FN⟩
  ·have e1:cenv.cells.lookup y=some c:=e1;have e2:cenv.cells.lookup z=some c:=e2;rw[hcl] at e1 e2;refine tF (λp hp=>?_) (λy z c a b=>I.ok.inj y z c (cm a).1 (cm b).1) (aaW e1) (aaW e2);rw[aa1];exact abF (cm (y:=p.1) (c:=p.2) hp).2
  ·show∃c,cenv.cells.lookup y=some c
   have key:∀k,cenv.kindOf y=some k->(k= .cell\/k= .free)->∃c,cenv.cells.lookup y=some c:=λk hk hk'=>by
    unfold Env.kindOf at hk;rw[hsc] at hk;obtain⟨k',e,r⟩:=o_ hk
    have:k'= .cell\/k'= .free:=by
     rcases r with rfl|⟨rfl,_⟩
     ·exact hk'
     ·exact .inr rfl
    rcases this with rfl|rfl
    ·obtain⟨c,hm⟩:=tV (n:=(s.heap.push {cls:=.type "dict",data:=.dict #[]}).objs.size) (acc:=dB X.env.cells scope.names []) (aaW e);obtain⟨c',e'⟩:=mem_lookup hm;exact⟨c',by rw[hcl];exact e'⟩
    ·obtain⟨c,h1,_⟩:=look e;exact⟨c,h1⟩
   rcases hy with hy|hy
   ·exact key _ hy (.inl rfl)
   ·exact key _ hy (.inr rfl)
  ·have z:(scope.names.lookup y==some NameKind.cell)=true:=z;have z:scope.names.lookup y=some .cell:=by simpa using z
   have e:cenv.cells.lookup y=some c:=e;rw[hcl] at e;rcases l_ (aaW e) with hm|⟨_,h2,_⟩
   ·rcases lU hm with hm|⟨h1,_⟩
    ·cases hm
    ·have q:=ok.uniq _ h1;rw[z] at q;cases q
   ·rw[aa1] at h2;exact acq h2
  ·show b≠cenv.locals;rw[hL];exact aaM (hfp b hb).2
  ·have e:cenv.cells.lookup y=some c:=e;rcases mem e with⟨h1,_⟩|⟨h1,_⟩
   ·exact(hfp b hb).1.2.2.2.2.1 y c h1 z
   ·have h2:08+1<=b:=by rw[<-z];exact h1
    exact absurd (aaO (hfp b hb).2 (acq h2)) (abu _)
  ·rcases(hfp b hb).1.2.2.2.1 with z|z
   ·exact I.ok.Ds b o e z
   ·exact absurd (aaO (aaG e) (aa8 I.ok.uQ z)) (abu _)
  ·rcases aao.mp (I.Dk b z) with z|z
   ·exact(hfp b hb).1.2.1 z
   ·exact(hfp b hb).1.2.2.1 z
 refine⟨okB,rfl,I.bare,Un.kept kp,⟨λ_=>none,?_,λi y av e1 e2 e3=>?_⟩,λy c e=>?_,?_,λy c e=>?_,λp hp=>?_,I.aX.kept kp,by rw[o8];exact I.len⟩
 ·show Heap.Ns _ cenv.locals _;rw[hL];exact Heap.Ns.keeps (Heap.Ns.new ..) λb o e=>adU _ _ _ _ e
 ·obtain⟨e2,hne⟩:=tG e2
  have hfr:scope.names.lookup y=some .free/\(cenv.kindOf y=some .cell\/cenv.kindOf y=some .free):=by
   have key:∀k,cenv.scope.names.lookup y=some k->k= .local\/k= .cell\/k= .free->scope.names.lookup y=some .free/\(cenv.kindOf y=some .cell\/cenv.kindOf y=some .free):=λk hk hk'=>by
    have hk0:=hk;rw[hsc] at hk;obtain⟨k',e,r⟩:=o_ hk
    have no:¬(k'= .local\/k'= .cell):=λhh=>by
     rcases ok.own _ (aaW e) hh with e'|e'
     ·obtain⟨p,hp,hpy⟩:=aaw.mp e';have e3:=ok.ix p hp;have:p.1=y:=hpy;rw[this] at e3;exact hne (aaw.mpr ⟨p,hp,vJ hN e3 e1⟩)
     ·exact e' (aap e1)
    rcases r with rfl|⟨rfl,rfl⟩
    ·rcases hk' with rfl|rfl|rfl
     ·exact absurd (.inl rfl) no
     ·exact absurd (.inr rfl) no
     ·exact⟨e,.inr hk0⟩
    ·exact⟨e,.inl hk0⟩
   have e3:FD cenv.scope y:=e3;rcases e3 with e3|e3|e3
   ·exact key _ e3 (.inl rfl)
   ·exact key _ e3 (.inr (.inl rfl))
   ·exact key _ e3 (.inr (.inr rfl))
  obtain⟨m,hn,hl⟩:=I.loc;have hvis:FD X.env.scope y:=(ok.free _ (aaW hfr.1) rfl).elim (λk=>.inr (.inl k)) (λk=>.inr (.inr k));obtain⟨w,r,q⟩:=hl i y av e1 e2 hvis;refine⟨w,r,.inr ⟨hfr.2,?_⟩⟩;obtain⟨c,h1,h2⟩:=look hfr.1;rcases q with⟨k,_⟩|⟨_,c',e',z⟩
  ·have k:X.env.scope.names.lookup y=some .local:=k;rcases ok.free _ (aaW hfr.1) rfl with k'|k'<;>rw[show X.env.scope.names.lookup y=_ from k'] at k<;>cases k
  ·rw[h2] at e';cases e';exact⟨c,h1,z.keeps kp⟩
 ·have e:cenv.cells.lookup y=some c:=e;rcases mem e with⟨h1,_⟩|⟨_,z⟩
  ·obtain⟨w,z⟩:=I.cell y c h1;exact⟨w,z.keeps kp⟩
  ·exact⟨_,z⟩
 ·show H cenv.locals=none;rw[hL];exact I.aX.fresh 097
 ·have e:cenv.cells.lookup y=some c:=e;rcases mem e with⟨h1,_⟩|⟨h1,_⟩
  ·exact I.jl y c h1
  ·exact I.aX.fresh (acq h1)
 ·exact absurd (show p∈([]:List (Addr×Obj))++[] from hp) (by simp)
def PJ{E:09}{D:Addr}{xs:0012}{y:V}{v:0101}{Q:09}(I:002)(hD:H D=some 0090)(hz:009<sizeLine)(r:RelV y v)(h:∀s',Inv X pins σ (upd H D (.lst (xs++[y]))) s'->Q .none s'):wpAny 004 X.A (call (.builtin "list.append") [.ref D,v]) Q E s:=by
 obtain⟨hz',its,n,ri,e⟩:=I.aX D _ hD;have hl:=ri.length;refine append_at (hsz:=by rw[aaz];omega) e λh' sb ho'=>?_;refine h {s with heap:=h'} (I.write (t':=s.toks) (by rw[hD];trivial) 094 (λb u hb q=>(sb.2 b hb).trans q) ⟨_,ho'⟩ ⟨by rw[aah];exact hz,its++[v],n+1,ri.append (.cons r .nil),?_⟩);rw[ho'];simp
def Ki(X:Cx)(ifs:0062)(t:TT):Prop:=
 ∀(pins:003) (s:0016) (σ:St) (H:Hp) (Q:0081),Inv X pins σ H s->t σ H Q->
  wpAny 004 X.A (forIn ifs true λc r=>if r=true then do let ok<-isTrue c X.env (eval c X.env);pure (ForInStep.yield ok) else pure (ForInStep.yield r)) (TP X pins σ Q) X.xe s
def jF:TT:=λ_ H Q=>Q true H
def eJ:Ki X [] jF:=λ_ _ _ H _ I h=>wpAny_tests_nil ⟨H,I,h⟩
def MW{c:Expr}{t:TT}(h:PT X c t):Ki X [c] t:=λpins s σ H Q I hw=>wpAny_tests_one (h pins s σ H Q I hw)
end
def xu{α:Type}{t:Sem α}{Q Q':α->Shared->Prop}{M:Model}{A:061}{E:09}{s:0016}(h:wpAny M A t Q (λ_ _=>False) s)(hQ:∀a s,Q a s->Q' a s):wpAny M A t Q' E s:=ab6 h hQ λ_ _ z=>False.elim z
def BB{prog:027}{w:066}{A:061}{R:Result->Shared->Prop}{s:0016}{elt target iter:Expr}{ifs:0062}{scope:Scope}{pos:Pos}{it acc:0101}{env:Env}(I:Nat->Shared->Prop)(turn:∀n s,I n s->wpAny 008 A (pyNext it) (λr s₁=>match r with
   |none=>R (.ok .next) s₁
   |some v=>wpAny 008 A (letOwnedTupleGo target it v) (λ_ s₁'=>wpAny 008 A (assign target env v) (λ_ s₂=>
     wpAny 008 A (forIn ifs true λc r=>if r=true then do let ok<-isTrue c env (eval c env);pure (ForInStep.yield ok) else pure (ForInStep.yield r)) (λok s₃=>
      if ok=true then wpAny 008 A (eval elt env) (λx s₄=>
       wpAny 008 A (call (.builtin "list.append") [acc,x]) (λ_ s₅=>∃m,m<n/\I m s₅) 0024 s₄) 0024 s₃
      else∃m,m<n/\I m s₃) 0024 s₂) 0024 s₁') 0024 s₁) 0024 s)(n:Nat)(h:I n s):codeAny 008 A (.compLoop (.ListComp elt [⟨target,iter,ifs,0⟩] scope pos) 0 it acc env) R s:=by
 refine codeAny_loop rfl I (λn s hI=>?_) n h;show wpAny _ A ((compTurn (.ListComp elt [⟨target,iter,ifs,0⟩] scope pos) 0 it acc env).onRaise (λx=>do noteFrame x env;theTreesLotGoes x)) _ _ s;refine wpAny_noted ?_;rw[compTurn_list];refine aaf (wpAny_standAt (aaf (ab6 (turn n s hI) (λr s₁ h₁=>?_) λ_ _ h'=>h')))
 cases r with
 |none=>exact aaA h₁
 |some v=>
  refine aaf (ab6 h₁ (λ_ s₁' h₁'=>?_) λ_ _ h'=>h');refine aaf (ab6 h₁' (λ_ s₂ h₂=>aaf (ab6 h₂ (λok s₃ h₃=>?_) λ_ _ h'=>h')) λ_ _ h'=>h')
  cases ok with
  |false=>exact aaA ⟨rfl,h₃⟩
  |true=>
   exact aaf (aaf (ab6 h₃ (λx s₄ h₄=>aaf (ab6 h₄ (λ_ s₅ h₅=>aaA (aaA ⟨rfl,h₅⟩)) λ_ _ h'=>h')) λ_ _ h'=>h'))
section
variable{X:Cx}
def wc(wi:TI)(g:TG)(tt:TT)(te:TE)(vs:015):TE:=λσ H Q=>wi σ H λJ H1=>∀D,H1 D=none->∃W:Nat->Nat->Hp->Prop,028/\∀i m H,W i m H->
 (J.stop i H/\Q 0075 H)\/(J.go i H/\∃Nx:Hp->Prop,023/\∀x H',J.ke i H x H'->g x 0097 H' λσ2 H2=>wipe σ2 vs=wipe σ vs/\tt σ2 H2 λb H3=>if b=true then te σ2 H3 λy H4=>∃acc,H4 D=some 0068/\acc.length<sizeLine/\Nx 021 else Nx H3)
def F0{pins:003}{s:0016}{σ:St}{H:Hp}{Q:VK}{elt tg iter:Expr}{ifs:0062}{scope:Scope}{own:List (Str×Nat)}{pos pos':Pos}{wi:TI}{g:TG}{tt:TT}{te:TE}{use:Option (Value->Sem Unit)}{Qf:09}(hc:0009)(hN:X.N.Nodup)(I:002)(hi:PI X tg iter wi)(ok:w_ X.N X.env.scope scope own)(hg:∀(s:0016) (H:Hp) (C:Addr) (cl:048) (fp:016),PG 035 tg g)(ht:∀(s:0016) (H:Hp) (C:Addr) (cl:048) (fp:016),Ki 035 ifs tt)(he:∀(s:0016) (H:Hp) (C:Addr) (cl:048) (fp:016),PE 035 elt te)(hs:∀x,foldedSetIterable iter X.env x=pure x)(h:wc wi g tt te (own.map (·.2)) σ H Q)(hRR:∀D C s' m H',Inv X pins σ H' s'->Q 0075 H'->s'.heap.Ns C m->nB X pins H' C->compPost 004 X.A X.xe use Qf 0075 C (.ok .next) s'):wpAny 004 X.A (comprehension 050 scope X.env pos' (newList []) false (eval iter X.env) use) Qf X.xe s:=by
 have hfree:∀y∈scope.names,y.2= .free->∃c,X.env.cells.lookup y.1=some c:=λy hy e=>by
  rcases ok.free y hy e with k|k
  ·exact I.ok.has _ (.inl k)
  ·exact I.ok.has _ (.inr k)
 refine wpAny_comprehension_free (use:=use) rfl hs (Hm hfree) ok.kind (λy hy e=>by rw[ok.uniq y hy,e])
  (bq (hi pins s σ H _ I h) λxv s1 hx=>bq hx λitv s2 h2=>?_)
 obtain⟨it,fp,tn,J,H2,e,I2,T,st2,f2,q⟩:=h2;subst e;refine acI (DV ?_) (by show 0<=sizeLine;decide);generalize hD:s2.heap.objs.size=D;have hDn:H2 D=none:=I2.aX.fresh (ad4 hD);obtain⟨W,⟨m0,w0⟩,turn⟩:=q D hDn;generalize hs3:({s2 with heap:=s2.heap.push {cls:=.type "list",data:=.seq ([]:List Value).toArray}}:Shared)=s3
 have I3:Inv X pins σ (upd H2 D 0035) s3:=by
  rw[<-hs3];refine I2.laid (t':=s2.toks) (λb o e=>aaq _ e) (ad4 hD) ⟨aaT _,[],0,.nil,?_⟩;rw[<-hD];exact aaD _ rfl
 have h3:s3.heap=s2.heap.push {cls:=.type "list",data:=.seq ([]:List Value).toArray}:=by rw[<-hs3]
 have sz:∀b∈fp,b<s2.heap.objs.size:=λb hb=>by
  obtain⟨o,e,_⟩:=T.obj _ _ st2 b hb;exact aaG e
 have f3:∀b∈fp,nB X pins (upd H2 D 0035) b/\b<s3.heap.objs.size:=λb hb=>by
  have hlt:=sz b hb;refine⟨⟨?_,(f2 b hb).2⟩,by rw[h3,aa1];exact abF hlt⟩;rw[aj (by rw[<-hD];exact aaM hlt)];exact(f2 b hb).1
 have st3:tn 0 s3.heap:=T.keep _ _ _ st2 λb _ o e=>by rw[h3];exact aaq _ e
 have I4:=DU I3 ok hN f3;have pg:=hg s3 (upd H2 D 0035) s3.heap.objs.size 041 fp;have pt:=ht s3 (upd H2 D 0035) s3.heap.objs.size 041 fp;have pe:=he s3 (upd H2 D 0035) s3.heap.objs.size 041 fp;show codeAny _ _ (.compStart 050 0 (.ref it) 0075 (compEnvC scope 041 s3.heap.objs.size X.env)) (compPost 004 X.A X.xe use Qf 0075 s3.heap.objs.size) {s3 with heap:=pushCells (s3.heap.push {cls:=.type "dict",data:=.dict #[]}) scope.names};have nfp:∀b∈fp,(upd H2 D 0035) b=none:=λb hb=>(f3 b hb).1.1;generalize hce:compEnvC scope 041 s3.heap.objs.size X.env=ce at I4 pg pt pe⊢;have cL:ce.locals=s3.heap.objs.size:=by subst hce;rfl
 generalize hH3:upd H2 D 0035=H3 at I3 I4 pg pt pe w0 nfp f3;generalize hs4:({s3 with heap:=pushCells (s3.heap.push {cls:=.type "dict",data:=.dict #[]}) scope.names}:Shared)=s4 at I4⊢;have st4:tn 0 s4.heap:=T.keep _ _ _ st3 λb _ o e=>by rw[<-hs4];exact adU _ _ _ _ (aaq _ e)
 have stat:∀{σ':St} {H':Hp} {s':0016},Inv (X.kD s3 H3 scope ce fp) [] σ' H' s'->(∀b∈fp,H' b=none)->∀b∈fp,nB (X.kD s3 H3 scope ce fp) [] H' b:=λ{σ' H' s'} I' hn b hb=>
  ⟨hn b hb,(I'.ok.Me b hb).1,I'.ok.Ce b hb,.inl hb,λx c e=>(I'.ok.Me b hb).2 x c e,λp hp=>absurd (show p∈([]:List (Addr×Obj))++[] from hp) 017⟩
 have loop:codeAny 004 X.A (.compLoop 050 0 (.ref it) 0075 ce) (compPost 004 X.A X.xe use Qf 0075 s3.heap.objs.size) s4:=by
  refine BB (λn s'=>∃i H',Inv (X.kD s3 H3 scope ce fp) [] (wipe σ (own.map (·.2))) H' s'/\tn i s'.heap/\(∀b∈fp,H' b=none)/\W i n H') ?_ m0 ⟨0,H3,I4,st4,nfp,w0⟩;rintro n s5 ⟨i,H5,I5,st5,n5,w5⟩;rcases turn i n H5 w5 with⟨stop,qq⟩|⟨go,Nx,hNx,step⟩
  ·have td:=T.done (X.kD s3 H3 scope ce fp) rfl rfl rfl hc i [] s5 _ H5 (λ_ _=>False) I5 (stat I5 n5) st5 stop;refine xu td λr s6 ⟨hr,I6⟩=>?_;subst hr;have I7:Inv X pins σ H5 s6:=I3.QB (ch:=fp) I6.os I6.base I6.aX I6.bare λb hb=>⟨(f3 b hb).1.2.2.2.1,(f3 b hb).1.2.1,(f3 b hb).1.2.2.2.2.1,(f3 b hb).1.2.2.2.2.2⟩
   have nC:H5 s3.heap.objs.size=none:=by
    have z:H5 ce.locals=none:=I6.free;rw[cL] at z;exact z
   obtain⟨m,hn,_⟩:=I6.loc;have hn:s6.heap.Ns ce.locals m:=hn;rw[cL] at hn;exact hRR D s3.heap.objs.size s6 m H5 I7 qq hn (I3.xU 097 nC)
  ·have ti:=T.item (X.kD s3 H3 scope ce fp) rfl rfl rfl hc i [] s5 _ H5 (λ_ _=>False) I5 (stat I5 n5) st5 go;refine xu ti λr s6 ⟨u,hr,h6⟩=>?_;subst hr;refine xu h6 λ_ s7 ⟨x,H7,I7,r7,y7,st7,n7⟩=>?_;have I7':=I7.pinned (stat I7 n7) (T.obj _ _ st7);refine xu (pg _ s7 _ H7 x u _ I7' r7 (step x H7 y7)) λ_ s8 ⟨σ8,H8,I8,hw8,q8⟩=>?_;refine xu (pt _ s8 σ8 H8 _ I8 q8) λb s9 ⟨H9,I9,q9⟩=>?_
   have fin:∀{s':0016} {H':Hp},Inv (X.kD s3 H3 scope ce fp) ([]++tX fp s7.heap) σ8 H' s'->Nx H'->∃m,m<n/\∃i H',Inv (X.kD s3 H3 scope ce fp) [] (wipe σ (own.map (·.2))) H' s'/\tn i s'.heap/\(∀b∈fp,H' b=none)/\W i m H':=λ{s' H'} I' nx=>by
    obtain⟨m',hm,w'⟩:=hNx H' nx
    have pin':∀b∈fp,∀o,s7.heap.get? b=some o->s'.heap.get? b=some o/\H' b=none:=λb hb o e=>
     let z:=I'.pin (b,o) (aam _ (aam _ (qh hb e)))
     ⟨z.1,z.2.1⟩
    have hl:(wipe σ (own.map (·.2))).length=σ8.length:=by rw[<-hw8,o8]
    refine⟨m',hm,i+1,H',(I'.qO (pins:=[])).weak hl (λj v e=>?_),T.keep _ _ _ st7 λb hb o e=>(pin' b hb o e).1,052,w'⟩
    ·rw[<-hw8] at e;exact(tG e).1
    ·obtain⟨o,e,_⟩:=T.obj _ _ st7 b hb;exact(pin' b hb o e).2
   cases b with
   |false=>
    simp only[aaK,ab8] at q9⊢;exact fin I9 q9
   |true=>
    simp only[aeT] at q9⊢;refine xu (pe _ s9 σ8 H9 _ I9 q9) λz s10 ⟨yv,H10,I10,r10,acc,hD10,hz10,nx⟩=>?_;exact PJ (X:=X.kD s3 H3 scope ce fp) I10 hD10 hz10 r10 λs11 I11=>fin I11 nx
 exact codeAny_compStart_list loop (T.self X.A 0 _ _ _ st4 loop)
def gB{elt tg iter:Expr}{ifs:0062}{scope:Scope}{own:List (Str×Nat)}{pos:Pos}{wi:TI}{g:TG}{tt:TT}{te:TE}(hc:0009)(hN:X.N.Nodup)(hi:PI X tg iter wi)(ok:w_ X.N X.env.scope scope own)(hg:∀(s:0016) (H:Hp) (C:Addr) (cl:048) (fp:016),PG 035 tg g)(ht:∀(s:0016) (H:Hp) (C:Addr) (cl:048) (fp:016),Ki 035 ifs tt)(he:∀(s:0016) (H:Hp) (C:Addr) (cl:048) (fp:016),PE 035 elt te)(hs:∀x,foldedSetIterable iter X.env x=pure x:=by intro _;rfl):PE X 050 (wc wi g tt te (own.map (·.2))):=by
 sleep 002;rw[eval_ListComp];refine F0 hc hN I hi ok hg ht he hs h λD C s' m H' I' q hn f=>⟨m,hn,λh'' sb=>?_⟩;obtain⟨f0,f1,f2,f3,f4,f5⟩:=f;exact⟨.ref D,H',I'.turned (t':=s'.toks) (λb o hb e=>(sb.2 b hb).trans e) f0 f1 f3 f4 f5,rfl,q⟩
def LI{i:Nat}{y:Str}{py:Pos}{elt tg iter:Expr}{ifs:0062}{scope:Scope}{own:List (Str×Nat)}{pos spos:Pos}{wi:TI}{g:TG}{tt:TT}{te:TE}(hc:0009)(hN:X.N.Nodup)(hy:X.N[i]? =some y)(hyl:X.env.scope.names.lookup y=some .local)(hsw:swapsWith 050 (some (.Name y py)) spos.line X.env=pure true)(hi:PI X tg iter wi)(ok:w_ X.N X.env.scope scope own)(hg:∀(s:0016) (H:Hp) (C:Addr) (cl:048) (fp:016),PG 035 tg g)(ht:∀(s:0016) (H:Hp) (C:Addr) (cl:048) (fp:016),Ki 035 ifs tt)(he:∀(s:0016) (H:Hp) (C:Addr) (cl:048) (fp:016),PE 035 elt te)(hs:∀x,foldedSetIterable iter X.env x=pure x:=by intro _;rfl):PS X (.Assign [.Name y py] 050 spos) (Ge (wc wi g tt te (own.map (·.2))) (fB i)):=by
 sleep 035;rw[exec_Assign_Name_used _ _ _ _ hsw];refine aaf (wpAny_standAt (aaf ?_));show wpAny _ X.A (do let _<-comprehension 050 scope X.env (firstIterPos [⟨tg,iter,ifs,0⟩] pos) (newList []) false (eval iter X.env) (some (assign (.Name y py) X.env))) _ _ s;have h:wc wi g tt te (own.map (·.2)) σ H (λx H1=>fB i x σ H1 D.nx):=h;refine aaf (bq (F0 (Qf:=λ_ s'=>SP X pins D .next s') hc hN I hi ok hg ht he hs h λL C s' m H' I' q hn f=>?_) λ_ s' hq=>aaA (aaA hq));show wpAny _ _ (assign (.Name y py) X.env (.ref L)) _ _ _;refine wpAny_assign_Name (zi (v:=V.ref L) I' hN hy (.inl hyl) rfl (λs2 I2 ⟨a,sb,ha⟩=>?_) (.inr hyl));obtain⟨f0,f1,f2,f3,f4,f5⟩:=f
 have haC:C≠a:=by
  rcases ha with z|z
  ·rw[z];exact f1
  ·exact λe=>f4 y a z e.symm
 refine⟨m,hn.sameBut sb haC,λh3 sb3=>?_⟩;exact⟨_,H',I2.turned (t':=s2.toks) (λb o hb e=>(sb3.2 b hb).trans e) f0 f1 f3 f4 f5,q⟩
def Nk{elt:Expr}{gs:List Comprehension}{scope:Scope}{pos py:Pos}{y:Str}{l:Nat}{env:Env}(hk:env.scope.kind= .function)(hy:env.scope.names.lookup y=some .local)(hl:(py.line==pos.line)=true)(ha:(scope.names.any λ(n,k)=>n==y&&(k== .local||k== .cell))=false):swapsWith (.ListComp elt gs scope pos) (some (.Name y py)) l env=pure true:=by
 have ky:env.kindOf y=some .local:=hy;have hb:env.blockKind= .function:=by unfold Env.blockKind;rw[hk];rfl
 unfold swapsWith;simp only[hb,ky,ha,Expr.pos,hl];rfl
end
def AG{lo:Int}{n:Nat}{g:TG}{tt:TT}{te:TE}{vs:015}{σ:St}{H1:Hp}{D:Addr}{Qd:Hp->Prop}(Pv:Nat->Hp->Prop)(h0:Pv 0 (upd H1 D 0035))(hs:∀i H,i<n->Pv i H->g (.int (lo+i)) 0097 H λσ2 H2=>wipe σ2 vs=wipe σ vs/\tt σ2 H2 λb H3=>if b=true then te σ2 H3 λy H4=>∃acc,H4 D=some 0068/\acc.length<sizeLine/\Pv (i+1) 021 else Pv (i+1) H3)(hd:∀H,Pv n H->Qd H):∃W:Nat->Nat->Hp->Prop,028/\∀i m H,W i m H->((lV lo n).stop i H/\Qd H)\/((lV lo n).go i H/\∃Nx:Hp->Prop,023/\∀x H',(lV lo n).ke i H x H'->g x 0097 H' λσ2 H2=>wipe σ2 vs=wipe σ vs/\tt σ2 H2 λb H3=>if b=true then te σ2 H3 λy H4=>∃acc,H4 D=some 0068/\acc.length<sizeLine/\Nx 021 else Nx H3):=by
 refine⟨λi m H=>m=n-i/\i<=n/\Pv i H,⟨n,0104,aaT _,h0⟩,?_⟩;rintro i m H ⟨rfl,hi,p⟩;by_cases hlt:i<n
 ·refine .inr ⟨hlt,Pv (i+1),λH' p'=>⟨n-(i+1),0018,rfl,hlt,p'⟩,λx H' y=>?_⟩;obtain⟨e,y⟩:=y;subst e y;exact hs i _ hlt p
 ·have e:i=n:=by omega
  subst e;exact .inl ⟨aay _,hd H p⟩
def Fj{K:05}{a:Addr}{xs:0012}{g:TG}{tt:TT}{te:TE}{vs:015}{σ:St}{H1:Hp}{D:Addr}{Qd:Hp->Prop}(Pv:Nat->Hp->Prop)(h0:Pv 0 (upd H1 D 0035))(hl:∀i H,i<=009->Pv i H->ax K H a xs)(hs:∀i x H,xs[i]? =some x->Pv i H->g x 0097 H λσ2 H2=>wipe σ2 vs=wipe σ vs/\tt σ2 H2 λb H3=>if b=true then te σ2 H3 λy H4=>∃acc,H4 D=some 0068/\acc.length<sizeLine/\Pv (i+1) 021 else Pv (i+1) H3)(hd:∀H,Pv xs.length H->Qd H):∃W:Nat->Nat->Hp->Prop,028/\∀i m H,W i m H->((kE K a).stop i H/\Qd H)\/((kE K a).go i H/\∃Nx:Hp->Prop,023/\∀x H',(kE K a).ke i H x H'->g x 0097 H' λσ2 H2=>wipe σ2 vs=wipe σ vs/\tt σ2 H2 λb H3=>if b=true then te σ2 H3 λy H4=>∃acc,H4 D=some 0068/\acc.length<sizeLine/\Nx 021 else Nx H3):=by
 refine⟨λi m H=>m=009-i/\i<=009/\Pv i H,⟨009,0104,aaT _,h0⟩,?_⟩;rintro i m H ⟨rfl,hi,p⟩;have q:=hl i H hi p;by_cases hlt:i<009
 ·refine .inr ⟨⟨xs,xs[i],q,by simp[hlt]⟩,Pv (i+1),λH' p'=>0098,λx H' y=>?_⟩;obtain⟨e,y⟩:=y;subst e;exact hs i x _ (y xs q) p
 ·have e:i=009:=by omega
  subst e;exact .inl ⟨⟨xs,q,aay _⟩,hd H p⟩
def O1{K:05}{a:Addr}{xs:0012}{g:TG}{tt:TT}{te:TE}{vs:015}{σ:St}{H1:Hp}{D:Addr}{Qd:Hp->Prop}(Pv:Nat->Hp->Prop)(h0:Pv 0 (upd H1 D 0035))(hl:∀i H,i<=009->Pv i H->bw K H a xs)(hs:∀i x H,xs[i]? =some x->Pv i H->g x 0097 H λσ2 H2=>wipe σ2 vs=wipe σ vs/\tt σ2 H2 λb H3=>if b=true then te σ2 H3 λy H4=>∃acc,H4 D=some 0068/\acc.length<sizeLine/\Pv (i+1) 021 else Pv (i+1) H3)(hd:∀H,Pv xs.length H->Qd H):∃W:Nat->Nat->Hp->Prop,028/\∀i m H,W i m H->((mR K a).stop i H/\Qd H)\/((mR K a).go i H/\∃Nx:Hp->Prop,023/\∀x H',(mR K a).ke i H x H'->g x 0097 H' λσ2 H2=>wipe σ2 vs=wipe σ vs/\tt σ2 H2 λb H3=>if b=true then te σ2 H3 λy H4=>∃acc,H4 D=some 0068/\acc.length<sizeLine/\Nx 021 else Nx H3):=by
 refine⟨λi m H=>m=009-i/\i<=009/\Pv i H,⟨009,0104,aaT _,h0⟩,?_⟩;rintro i m H ⟨rfl,hi,p⟩;have q:=hl i H hi p;by_cases hlt:i<009
 ·refine .inr ⟨⟨xs,xs[i],q,by simp[hlt]⟩,Pv (i+1),λH' p'=>0098,λx H' y=>?_⟩;obtain⟨e,y⟩:=y;subst e;exact hs i x _ (y xs q) p
 ·have e:i=009:=by omega
  subst e;exact .inl ⟨⟨xs,q,aay _⟩,hd H p⟩
def gP(N:087)(sc scope:Scope)(own:List (Str×Nat)):Bool:=
 (match scope.kind with|.function=>true|_=>false)&&(scope.names.all λy=>decide (scope.names.lookup y.1=some y.2))&&(own.all λp=>decide (N[p.2]? =some p.1))&&
  (scope.names.all λy=>match y.2 with
   |.free=>(match sc.names.lookup y.1 with|some .cell=>true|some .free=>true|_=>false)
   |.local=>decide (y.1∈own.map (·.1))||decide (y.1∉N)
   |.cell=>decide (y.1∈own.map (·.1))||decide (y.1∉N)
   |_=>true)
def c_{N:087}{sc scope:Scope}{own:List (Str×Nat)}(h:gP N sc scope own=true):w_ N sc scope own:=by
 unfold gP at h;simp only[aak,aa3,abN] at h;obtain⟨⟨⟨h1,h2⟩,h3⟩,h4⟩:=h;refine⟨?_,h2,h3,λy hy e=>?_,λy hy e=>?_⟩
 ·split at h1
  ·assumption
  ·cases h1
 ·have q:=h4 y hy;simp only[e] at q
  split at q<;>first|exact .inl (by assumption)|exact .inr (by assumption)|cases q
 ·have q:=h4 y hy;rcases e with e|e<;>(simp only[e,Bool.or_eq_true,abN] at q;exact q)
section
variable{κ:Type}[DecidableEq κ]
def eR(kvs:0008)(k:κ):Option V:=(kvs.find? λkv=>decide (kv.1=k)).map (·.2)
def putK(kvs:0008)(k:κ)(v:V):List (κ×V):=
 if(kvs.any λkv=>decide (kv.1=k))=true then kvs.map (λkv=>if kv.1=k then(kv.1,v) else kv) else kvs++[(k,v)]
def gp(kvs:0008)(k:κ):List (κ×V):=kvs.filter λkv=>decide (kv.1≠k)
def vD{p:κ×V}{r:0008}{k:κ}(e:p.1=k):eR (p::r) k=some p.2:=by simp[eR,abJ,e]
def vi{p:κ×V}{r:0008}{k:κ}(e:¬p.1=k):eR (p::r) k=eR r k:=by simp[eR,abJ,e]
theorem vM(k:κ):∀kvs:List (κ×V),(kvs.any λkv=>decide (kv.1=k))=(eR kvs k).isSome
 |[]=>rfl
 |p::r=>by
  rw[ach];by_cases e:p.1=k
  ·simp only[vD e,aaj e,Bool.true_or,Option.isSome_some]
  ·rw[vi e,aal e,Bool.false_or];exact vM k r
def uT(kvs:0008)(k:κ)(v:V):(putK kvs k v).length<=kvs.length+1:=by
 unfold putK
 split
 ·rw[aaa];omega
 ·rw[aah,aat,abj];omega
def BH{kvs:0008}{k:κ}(v:V)(h:eR kvs k=none):putK kvs k v=kvs++[(k,v)]:=by
 unfold putK;rw[vM,h];exact aan 0010
def jg.kz{o:Option V}{u:Option Value}(r:jg o u):o.isSome=u.isSome:=by
 cases o with
 |none=>cases u with
  |none=>rfl
  |some _=>exact(show False from r).elim
 |some _=>cases u with
  |none=>exact(show False from r).elim
  |some _=>rfl
def KV.val{kvs:0008}{vs:List (κ×Value)}(r:KV kvs vs)(k:κ):jg (eR kvs k) (valueAt vs k):=by
 unfold KV at r
 induction r with
 |nil=>exact True.intro
 | @cons p q ps qs h t ih=>
   obtain⟨h1,h2⟩:=h;by_cases e:p.1=k
   ·have e':q.1=k:=h1.symm.trans e;have b:valueAt (q::qs) k=some q.2:=by simp[valueAt,abJ,e']
    rw[vD e,b];exact h2
   ·have e':¬q.1=k:=λz=>e (h1.trans z);have b:valueAt (q::qs) k=valueAt qs k:=by simp[valueAt,abJ,e']
    rw[vi e,b];exact ih
def KV.any{kvs:0008}{vs:List (κ×Value)}(r:KV kvs vs)(k:κ):(kvs.any λkv=>decide (kv.1=k))=vs.any λkv=>decide (kv.1=k):=by
 unfold KV at r
 induction r with
 |nil=>rfl
 |cons h t ih=>rw[ach,ach,ih,h.1]
def KV.Kx{kvs:0008}{vs:List (κ×Value)}(r:KV kvs vs)(k:κ){y:V}{u:0101}(ry:RelV y u):KV (kvs.map λkv=>if kv.1=k then(kv.1,y) else kv) (vs.map λkv=>if kv.1=k then(kv.1,u) else kv):=by
 unfold KV at r⊢
 induction r with
 |nil=>exact .nil
 | @cons p q ps qs h t ih=>
   rw[aaB,aaB];refine .cons ?_ ih;obtain⟨h1,h2⟩:=h;by_cases e:p.1=k
   ·rw[aav e,aav (h1.symm.trans e)];exact⟨h1,ry⟩
   ·rw[aan e,aan (λz=>e (h1.trans z))];exact⟨h1,h2⟩
def KV.put{kvs:0008}{vs:List (κ×Value)}(r:KV kvs vs)(k:κ){y:V}{u:0101}(ry:RelV y u):KV (putK kvs k y) (stored vs k u):=by
 unfold putK stored;rw[r.any k];by_cases e:(vs.any λkv=>decide (kv.1=k))=true
 ·rw[aav e,aav e];exact r.Kx k ry
 ·rw[aan e,aan e];exact Paired.snoc r ⟨rfl,ry⟩
def KV.drop{kvs:0008}{vs:List (κ×Value)}(r:KV kvs vs)(k:κ):KV (gp kvs k) (without vs k):=by
 unfold KV at r⊢;unfold gp without
 induction r with
 |nil=>exact .nil
 | @cons p q ps qs h t ih=>
   obtain⟨h1,h2⟩:=h;rw[adI,adI];by_cases e:p.1=k
   ·have a:¬decide (p.1≠k)=true:=by simp[e]
    have b:¬decide (q.1≠k)=true:=by simp[h1.symm.trans e]
    rw[aan a,aan b];exact ih
   ·have e':¬q.1=k:=λz=>e (h1.trans z);have a:decide (p.1≠k)=true:=by simp[e]
    have b:decide (q.1≠k)=true:=by simp[e']
    rw[aav a,aav b];exact .cons ⟨h1,h2⟩ ih
def KV.keys{kvs:0008}{vs:List (κ×Value)}(r:KV kvs vs):kvs.map (·.1)=vs.map (·.1):=by
 unfold KV at r
 induction r with
 |nil=>rfl
 |cons h t ih=>rw[aaB,aaB,ih,h.1]
def KV.length{kvs:0008}{vs:List (κ×Value)}(r:KV kvs vs):kvs.length=090:=aaY r
def BP(kvs:0008)(k:κ):(gp kvs k).length<=kvs.length:=acF _ _
end
def qm{P:027}{w:066}{k:Key}{u:0101}(r:RelV (kV k) u):(eN P w).is k u=true:=by
 cases k with
 |inl i=>obtain⟨t,e⟩:=(show∃t,u=Value.int i t from r);subst e;exact Em P w i t
 |inr x=>obtain⟨t,e⟩:=(show∃t,u=Value.str x t from r);subst e;exact Er P w x t
theorem y9{P:027}{w:066}:∀{ks:List Key} {us:007},Vals (ks.map kV) us->ItemsAre (eN P w) ks us
 |[],_,r=>by rw[acY] at r;cases r;exact .nil
 |k::ks,_,r=>by
  rw[aaB] at r
  cases r with
  |cons h t=>exact .cons (qm h) (y9 t)
abbrev KT(H:Hp):List (List Key×V)->List (List Key×Addr×Value)->Prop:=Paired λp q=>p.1=q.1/\H q.2.1=some (.tup (p.1.map kV))/\RelV p.2 q.2.2
def KT.val{H:Hp}{kvs:0036}{xs:List (List Key×Addr×Value)}(r:KT H kvs xs)(k:List Key):jg (eR kvs k) ((atKey xs k).map (·.2)):=by
 induction r with
 |nil=>exact True.intro
 | @cons p q ps qs h t ih=>
   obtain⟨h1,_,h2⟩:=h;by_cases e:p.1=k
   ·have e':q.1=k:=h1.symm.trans e;have b:atKey (q::qs) k=some q.2:=by simp[atKey,abJ,e']
    rw[vD e,b];exact h2
   ·have e':¬q.1=k:=λz=>e (h1.trans z);have b:atKey (q::qs) k=atKey qs k:=by simp[atKey,abJ,e']
    rw[vi e,b];exact ih
def KT.Kx{H:Hp}{kvs:0036}{xs:List (List Key×Addr×Value)}(r:KT H kvs xs)(k:List Key){y:V}{u:0101}(ry:RelV y u):KT H (kvs.map λkv=>if kv.1=k then(kv.1,y) else kv) (xs.map (putAt k u)):=by
 induction r with
 |nil=>exact .nil
 | @cons p q ps qs h t ih=>
   rw[aaB,aaB];refine .cons ?_ ih;obtain⟨h1,h2,h3⟩:=h;unfold putAt;by_cases e:p.1=k
   ·rw[aav e,aav (h1.symm.trans e)];exact⟨h1,h2,ry⟩
   ·rw[aan e,aan (λz=>e (h1.trans z))];exact⟨h1,h2,h3⟩
def KT.put{H:Hp}{kvs:0036}{xs:List (List Key×Addr×Value)}(r:KT H kvs xs)(k:List Key){b:Addr}{y:V}{u:0101}(hb:H b=some (.tup (k.map kV)))(ry:RelV y u):KT H (putK kvs k y) (storedH xs k b u):=by
 have e:(kvs.any λkv=>decide (kv.1=k))=(atKey xs k).isSome:=by
  rw[vM,(r.val k).kz,ads]
 unfold putK storedH;rw[e];by_cases q:(atKey xs k).isSome=true
 ·rw[aav q,aav q];exact r.Kx k ry
 ·rw[aan q,aan q];exact Paired.snoc r ⟨rfl,hb,ry⟩
def KT.keeps{H H':Hp}{kvs:0036}{xs:List (List Key×Addr×Value)}(r:KT H kvs xs)(ht:∀b ys,H b=some (.tup ys)->H' b=some (.tup ys)):KT H' kvs xs:=
 Paired.jE r λ_ _ z=>⟨z.1,ht _ _ z.2.1,z.2.2⟩
section
variable{P:027}{w:066}{H:Hp}{h:Heap}{a:Addr}
def LX{u:HO}(ok:0085)(e:Rd H a u):eB P w H h a u:=e.ok ok
def qF{kvs:031}(ok:0085)(e:Rd H a 029):kvs.length<=sizeLine/\(a==sysModules)=false/\∃vs,KV kvs vs/\h.DictOf (eN P w) a vs:=
 show eB P w H h a 029 from LX ok e
def wM{kvs:031}(ok:0085)(e:H a=some 029):kvs.length<=sizeLine/\(a==sysModules)=false/\∃vs,KV kvs vs/\h.DictOf (eN P w) a vs:=qF ok (.inl e)
def sP{ks:List Key}(ok:0085)(e:H a=some (.tup (ks.map kV))):(tupleKind (eN P w)).is h ks a:=by
 obtain⟨_,its,r,o,h1,h2,n,h3⟩:=(show eB P w H h a (.tup (ks.map kV)) from ok a _ e);exact⟨o,0038,n,h1,h2,h3,by simpa using y9 r⟩
def uA{kvs:0036}(ok:0085)(e:Rd H a (.dT kvs)):kvs.length<=sizeLine/\(a==sysModules)=false/\∃xs,KT H kvs xs/\h.DictOfH (tupleKind (eN P w)) a xs:=by
 obtain⟨z,y,xs,r,o,es,ep,h1,h2,h3,h4,h5⟩:=(show eB P w H h a (.dT kvs) from LX ok e);refine⟨z,y,xs,r,o,es,ep,h1,h2,h3,h4,λx hx=>?_,h5⟩
 have all:∀{l:0036} {m:List (List Key×Addr×Value)},KT H l m->∀x∈m,(tupleKind (eN P w)).is h x.1 x.2.1:=by
  intro l m q
  induction q with
  |nil=>intro x hx;exact nomatch hx
  | @cons p q ps qs hq t ih=>
    intro x hx;rcases aao.mp hx with e|hx
    ·subst e;exact sP ok (by rw[<-hq.1];exact hq.2.1)
    ·exact ih x hx
 exact all r x hx
def QS{kvs:0036}(ok:0085)(e:H a=some (.dT kvs)):kvs.length<=sizeLine/\(a==sysModules)=false/\∃xs,KT H kvs xs/\h.DictOfH (tupleKind (eN P w)) a xs:=uA ok (.inl e)
end
def mK(H:Hp)(a:Addr)(y:V)(r:Option V):Prop:=
 (∃kvs k,Rd H a 029/\y=kV k/\r=eR kvs k)\/∃kvs k b,Rd H a (.dT kvs)/\y= .ref b/\H b=some (.tup (k.map kV))/\r=eR kvs k
def sX(H:Hp)(a:Addr)(y v:V)(H':Hp):Prop:=
 (∃kvs k,H a=some 029/\y=kV k/\kvs.length<sizeLine/\H'=upd H a (.dK (putK kvs k v)))\/
 ∃kvs k b,H a=some (.dT kvs)/\y= .ref b/\H b=some (.tup (k.map kV))/\kvs.length<sizeLine/\H'=upd H a (.dT (putK kvs k v))
def mK.k{H:Hp}{a:Addr}{kvs:031}{k:Key}(e:H a=some 029):mK H a (kV k) (eR kvs k):=.inl ⟨kvs,k,.inl e,rfl,rfl⟩
def sX.k{H:Hp}{a:Addr}{kvs:031}{k:Key}{v:V}(e:H a=some 029)(hl:kvs.length<sizeLine):sX H a (kV k) v (upd H a (.dK (putK kvs k v))):=.inl ⟨kvs,k,e,rfl,hl,rfl⟩
section
variable{X:Cx}{pins:003}{σ:St}{H:Hp}{s:0016}{a:Addr}{y v:V}{u r:0101}{o:Option V}{A:061}{E:09}
def Inv.big(I:002):sysModules<08:=by
 have h:mainGlobals<08:=(I.mod.glob.keeps I.bk).lt;exact Nat.lt_trans 0010 h
def Ig{Q:09}(hu:A.units+1<cLine)(I:002)(g:mK H a y (some v))(ry:RelV y u)(h:∀w' s',Inv X pins σ H s'->RelV v w'->Q w' s'):wpAny 004 A (getItem 046 u) Q E s:=by
 rcases g with⟨kvs,k,e,ey,l⟩|⟨kvs,k,b,e,ey,eb,l⟩
 ·subst ey;obtain⟨z,hd,vs,rel,dd⟩:=qF I.aX e;obtain⟨w',hw,rw'⟩:=jg.some_of (v:=v) (o:=valueAt vs k) (by rw[l];exact rel.val k);exact wpAny_getItem_of (qm ry) dd.mapOf hw (h w' _ (I.tok _) rw')
 ·subst ey;cases(show u=Value.ref b from ry);obtain⟨z,hd,xs,rel,dd⟩:=uA I.aX e;obtain⟨w',hw,rw'⟩:=jg.some_of (v:=v) (o:=(atKey xs k).map (·.2)) (by rw[l];exact rel.val k);obtain⟨p,hp,hp2⟩:=aaI.mp hw;refine wpAny_getItem_heap (ac3 hu) (sP I.aX eb) dd hp ?_;rw[hp2];exact h w' _ (I.tok _) rw'
def RE{Q:09}(hu:A.units+1<cLine)(I:002)(g:mK H a y o)(ry:RelV y u)(h:∀s',Inv X pins σ H s'->Q (.bool o.isSome) s'):wpAny 004 A (compareOp .In u 046) Q E s:=by
 rcases g with⟨kvs,k,e,ey,l⟩|⟨kvs,k,b,e,ey,eb,l⟩
 ·subst ey;obtain⟨z,hd,vs,rel,dd⟩:=qF I.aX e;refine wpAny_in_of (qm ry) hd dd.mapOf ?_;rw[<-(rel.val k).kz,<-l];exact h _ (I.tok _)
 ·subst ey;cases(show u=Value.ref b from ry);obtain⟨z,hd,xs,rel,dd⟩:=uA I.aX e;refine wpAny_in_heap (ac3 hu) (sP I.aX eb) hd dd ?_;have q:=(rel.val k).kz;rw[ads] at q;rw[<-q,<-l];exact h _ (I.tok _)
def MF{Q:09}(hu:A.units+1<cLine)(I:002)(g:mK H a y o)(ry:RelV y u)(h:∀s',Inv X pins σ H s'->Q (.bool (!o.isSome)) s'):wpAny 004 A (compareOp .NotIn u 046) Q E s:=by
 rcases g with⟨kvs,k,e,ey,l⟩|⟨kvs,k,b,e,ey,eb,l⟩
 ·subst ey;obtain⟨z,hd,vs,rel,dd⟩:=qF I.aX e;refine wpAny_notIn_of (qm ry) hd dd.mapOf ?_;rw[<-(rel.val k).kz,<-l];exact h _ (I.tok _)
 ·subst ey;cases(show u=Value.ref b from ry);obtain⟨z,hd,xs,rel,dd⟩:=uA I.aX e;refine wpAny_notIn_heap (ac3 hu) (sP I.aX eb) hd dd ?_;have q:=(rel.val k).kz;rw[ads] at q;rw[<-q,<-l];exact h _ (I.tok _)
def ux{h':Heap}{t':Nat}{ob:HO}(I:002)(mu:sr (H a))(hs:Heap.SameBut a s.heap h')(he:∃q,h'.get? a=some q)(new:eB X.prog X.w (upd H a ob) h' a ob):Inv X pins σ (upd H a ob) {s with heap:=h',toks:=t'}:=
 I.write (x:=a) (e:=a) mu 094 (λb q hb z=>(hs.2 b hb).trans z) he new
def Ck{P:027}{w:066}{H':Hp}{h':Heap}{kvs:031}{vs:List (Key×Value)}(z:kvs.length<=sizeLine)(hd:(a==sysModules)=false)(rel:KV kvs vs)(dd:h'.DictOf (eN P w) a vs):eB P w H' h' a 029:=⟨z,hd,vs,rel,dd⟩
def JP{H':Hp}{Q:Unit->Shared->Prop}(hu:A.units+1<cLine)(I:002)(g:sX H a y v H')(ry:RelV y u)(rv:RelV v r)(h:∀s',Inv X pins σ H' s'->Q () s'):wpAny 004 A (setItem 046 u r) Q E s:=by
 rcases g with⟨kvs,k,e,ey,l,eH⟩|⟨kvs,k,b,e,ey,eb,l,eH⟩
 ·subst ey eH;obtain⟨z,hd,vs,rel,dd⟩:=wM I.aX e;have hz:090<=sizeLine:=by rw[<-rel.length];exact z
  have hl:(putK kvs k v).length<=sizeLine:=by have:=uT kvs k v;omega
  refine wpAny_setItem_pairs (hsz:=hz) (qm ry) dd λh' dd' hs=>h _ ?_;have he:∃q,h'.get? a=some q:=let⟨q,_,_,hq,_⟩:=dd';⟨q,hq⟩;exact ux I (by rw[e];exact True.intro) hs he (Ck hl hd (rel.put k rv) dd')
 ·subst ey eH;cases(show u=Value.ref b from ry);obtain⟨z,hd,xs,rel,dd⟩:=QS I.aX e;have hz:009<=sizeLine:=by rw[<-aaY rel];exact z
  have hl:(putK kvs k v).length<=sizeLine:=by have:=uT kvs k v;omega
  refine wpAny_setItem_heap (hsz:=hz) (ac3 hu) (sP I.aX eb) dd λh' dd' hs=>h _ ?_;obtain⟨q,es,ep,hq,h2,h3,h4,_,h5⟩:=dd';refine ux I (by rw[e];exact True.intro) hs ⟨q,hq⟩ ⟨hl,hd,_,(rel.put k eb rv).keeps λc ys ec=>?_,q,es,ep,hq,h2,h3,h4,h5⟩;rw[aj (cv ec e (λz=>nomatch z))];exact ec
end
section
variable{X:Cx}{pins:003}{σ:St}{H:Hp}{s:0016}{a:Addr}{kvs:031}{k:Key}{u:0101}{A:061}{E:09}
def Ru{Q:Unit->Shared->Prop}(I:002)(e:H a=some 029)(ry:RelV (kV k) u)(l:(eR kvs k).isSome=true)(h:∀s',Inv X pins σ (upd H a (.dK (gp kvs k))) s'->Q () s'):wpAny 004 A (delItem 046 u) Q E s:=by
 obtain⟨z,hd,vs,rel,dd⟩:=wM I.aX e
 refine wpAny_delItem_slot dd.typeIs 0010 ad9
  (call_meetsIn ad9 dd.typeIs PySem.F.entry_dict_delitem (PySem.F.args_dict_delitem_2 _ _) (meets_dict_delitem_pairs (eN X.prog X.w) a (qm ry)) ⟨vs,dd,by rw[<-rel.length];exact z,by rw[<-(rel.val k).kz];exact l,λh' dd' hs=>h _ ?_⟩)
 have he:∃q,h'.get? a=some q:=let⟨q,_,_,hq,_⟩:=dd';⟨q,hq⟩;exact ux I (by rw[e];exact True.intro) hs he (Ck (aa8 (BP kvs k) z) hd (rel.drop k) dd')
def Qw{v:V}{more:007}{Q:09}(I:002)(e:H a=some 029)(ry:RelV (kV k) u)(l:eR kvs k=some v)(hm:more=[]\/∃x,more=[x])(h:∀w' s',Inv X pins σ (upd H a (.dK (gp kvs k))) s'->RelV v w'->Q w' s'):wpAny 004 A (call (.builtin "dict.pop") (.ref a::u::more)) Q E s:=by
 obtain⟨z,hd,vs,rel,dd⟩:=wM I.aX e;obtain⟨w',hw,rw'⟩:=jg.some_of (v:=v) (o:=valueAt vs k) (by rw[<-l];exact rel.val k)
 have hp:(keyPart u).isSome=true:=by
  cases k with
  |inl i=>obtain⟨t,q⟩:=(show∃t,u=Value.int i t from ry);subst q;rfl
  |inr x=>obtain⟨t,q⟩:=(show∃t,u=Value.str x t from ry);subst q;rfl
 have ha:argsOk "dict.pop" ⟨.ref a::u::more,[]⟩:=by
  rcases hm with q|⟨x,q⟩
  ·subst q;exact PySem.F.args_dict_pop_2 _ _
  ·subst q;exact PySem.F.args_dict_pop_3 _ _ _
 refine call_meetsIn PySem.F.slot_dict_pop dd.typeIs PySem.F.entry_dict_pop ha (meets_dict_pop_there (eN X.prog X.w) a (qm ry) more hm hp)
  ⟨vs,w',dd,by rw[<-rel.length];exact z,hw,λh' dd' hs=>h w' _ ?_ rw'⟩
 have he:∃q,h'.get? a=some q:=let⟨q,_,_,hq,_⟩:=dd';⟨q,hq⟩;exact ux I (by rw[e];exact True.intro) hs he (Ck (aa8 (BP kvs k) z) hd (rel.drop k) dd')
def QV{Q:09}(I:002)(e:Rd H a 029)(h:∀t s',Inv X pins σ H s'->Q (.int kvs.length t) s'):wpAny 004 A (call 0070 [.ref a]) Q E s:=by
 obtain⟨z,hd,vs,rel,dd⟩:=qF I.aX e;refine call_len_dict hd dd (by rw[<-rel.length];rw[aaC] at z;omega) ?_;rw[<-rel.length];exact h _ _ (I.tok _)
end
def OQ(i:Expr):Prop:=∀ov iv,subscripted i false ov iv=operate [ov,iv] (getItem ov iv)
def Ni{prog:027}{w:066}{A:061}{E:09}{s:0016}{env:Env}{value slice:Expr}{pos:Pos}{T id:String}{Q:09}(hl:typeLookup (.type T) "__getitem__"=pure (some (.builtin id)))(hs:OQ slice)(h:wpAny 008 A (eval value env) (λo s₁=>wpAny 008 A (eval slice env) (λi s₂=>s₂.TypeIs o T/\wpAny 008 A (getItem o i) Q E s₂) E s₁) E s):wpAny 008 A (eval (.Subscript value slice pos) env) Q E s:=by
 refine Subscript_ (ab6 h (λo s₁ h₁=>ab6 h₁ (λi s₂ h₂=>?_) λ_ _ x=>x) λ_ _ x=>x);obtain⟨hT,h₂⟩:=h₂;unfold subscriptTail;refine aaf ?_;rw[getitemInPython_of_ne hT.not_modules];refine aaf (ac2 hT hl ?_)
 have fin:wpAny 008 A (subscripted slice false o i) (λr s₃=>wpAny 008 A (letTemporaryGo value o r>>=λ_=>pure r) Q E s₃) E s₂:=by
  rw[hs o i];exact wpAny_operating (ab6 h₂ (λr s₃ h₃=>aaf (wpAny_letTemporaryGo (aaA h₃))) λ_ _ x=>x)
 first
  |exact aaA (aaf fin)
  |exact aaf (aaA (aaf fin))
  |exact aaf fin
def DZ{X:Cx}{pins:003}{σ:St}{H:Hp}{s:0016}{a:Addr}{y:V}{o:Option V}(I:002)(g:mK H a y o):s.TypeIs 046 "dict":=by
 rcases g with⟨kvs,k,e,_,_⟩|⟨kvs,k,b,e,_,_,_⟩
 ·obtain⟨_,_,vs,_,dd⟩:=qF I.aX e;exact dd.typeIs
 ·obtain⟨_,_,xs,_,dd⟩:=uA I.aX e;exact dd.typeIs
inductive Hz(y x:V)(H:Hp)(Q:VK):Prop
 |mk(a:Addr)(o:Option V)(_:x= .ref a)(_:mK H a y o)(_:Q (.bl o.isSome) H)
inductive uk(y x:V)(H:Hp)(Q:VK):Prop
 |mk(a:Addr)(o:Option V)(_:x= .ref a)(_:mK H a y o)(_:Q (.bl (!o.isSome)) H)
inductive wo(x y:V)(H:Hp)(Q:VK):Prop
 |mk(a:Addr)(v:V)(_:x= .ref a)(_:mK H a y (some v))(_:Q v H)
def L4(td ty:TE):TE:=λσ H Q=>td σ H λx H1=>ty σ H1 λy H2=>wo x y H2 Q
def P8(ty td:TE):TE:=λσ H Q=>ty σ H λy H1=>td σ H1 λx H2=>Hz y x H2 Q
def FH(ty td:TE):TE:=λσ H Q=>ty σ H λy H1=>td σ H1 λx H2=>uk y x H2 Q
def Mq(td ty tv:TE):TS:=λD σ H=>tv σ H λv H1=>td σ H1 λx H2=>ty σ H2 λy H3=>∃a H4,x= .ref a/\sX H3 a y v H4/\D.nx σ H4
section
variable{X:Cx}{o i e value:Expr}{pos pos' tpos:Pos}{td ty tv:TE}
def gG(hu:X.A.units+1<cLine)(ho:PE X o td)(hi:PE X i ty)(hs:OQ i):PE X (.Subscript o i pos) (L4 td ty):=by
 sleep 002;refine Ni PySem.F.slot_dict_getitem.lookup hs (bq (ho pins s σ H _ I h) λu s1 hq1=>?_);obtain⟨x,H1,I1,rx,q1⟩:=hq1;refine bq (hi pins s1 σ H1 _ I1 q1) λiv s2 hq2=>?_;obtain⟨y,H2,I2,ry,a,v,ex,g,q2⟩:=hq2;sleep 013;exact⟨DZ I2 g,Ig hu I2 g ry λw' s3 I3 rw'=>⟨v,H2,I3,rw',q2⟩⟩
def O3(hu:X.A.units+1<cLine)(hi:PE X i ty)(ho:PE X o td):PC X .In i o (P8 ty td):=by
 sleep 002;refine bq (hi pins s σ H _ I h) λiv s1 hq1=>?_;obtain⟨y,H1,I1,ry,q1⟩:=hq1;refine bq (ho pins s1 σ H1 _ I1 q1) λu s2 hq2=>?_;obtain⟨x,H2,I2,rx,a,ov,ex,g,q2⟩:=hq2;sleep 013;exact RE hu I2 g ry λs3 I3=>⟨.bl ov.isSome,H2,I3,rfl,q2⟩
def fq(hu:X.A.units+1<cLine)(hi:PE X i ty)(ho:PE X o td):PC X .NotIn i o (FH ty td):=by
 sleep 002;refine bq (hi pins s σ H _ I h) λiv s1 hq1=>?_;obtain⟨y,H1,I1,ry,q1⟩:=hq1;refine bq (ho pins s1 σ H1 _ I1 q1) λu s2 hq2=>?_;obtain⟨x,H2,I2,rx,a,ov,ex,g,q2⟩:=hq2;sleep 013;exact MF hu I2 g ry λs3 I3=>⟨.bl (!ov.isSome),H2,I3,rfl,q2⟩
def xZ(hu:X.A.units+1<cLine)(ho:PE X o td)(hi:PE X i ty)(hv:PE X value tv)(hs:swapsWith value (some (.Subscript o i pos')) pos.line X.env=pure false):PS X (.Assign [.Subscript o i pos'] value pos) (Mq td ty tv):=by
 sleep 035;refine wpAny_Assign_Subscript (bq (hv pins s σ H _ I h) λr s1 hq1=>?_) hs;obtain⟨v,H1,I1,rv,q1⟩:=hq1;refine bq (ho pins s1 σ H1 _ I1 q1) λu s2 hq2=>?_;obtain⟨x,H2,I2,rx,q2⟩:=hq2;refine bq (hi pins s2 σ H2 _ I2 q2) λiv s3 hq3=>?_;obtain⟨y,H3,I3,ry,a,H4,ex,g,q3⟩:=hq3;sleep 013;exact JP hu I3 g ry rv λs4 I4=>⟨σ,H4,I4,q3⟩
end
def KD{P:027}{w:066}{H:Hp}(h:Heap)(hb:sysModules<h.objs.size):eB P w H (h.push {cls:=.type "dict",data:=.dict #[]}) h.objs.size (.dK []):=
 ⟨aaT _,aaV.mpr (abl (aaM hb)),[],.nil,Heap.DictOf.new h⟩
def Oq:TE:=λ_ H Q=>∀p,H p=none->Q (.ref p) (upd H p (.dK []))
section
variable{X:Cx}{pos:Pos}
def C8:PE X (.Dict [] [] pos) Oq:=λpins s σ H Q I h=>
 wpAny_Dict_empty ⟨.ref 08,_,I.laid (a:=08) (o:=.dK []) (t':=s.toks) (λ_ _ q=>aaq _ q) 097 (KD s.heap I.big),rfl,h _ (I.aX.fresh 097)⟩
end
structure M1(X:Cx)(o:Expr)(m:Str)(apos:Pos)(e:Expr)(cpos:Pos):Prop where
 base:attributeBase o m X.env (eval o X.env)=eval o X.env
 Sh:((backTo cpos (starEach [e] X.env)).all (λx=> !x.1)&&(backToKw cpos (keywordEach [] X.env)).all (λx=>x.1.isSome)
  &&decide (([e]:List Expr).length+([]:List Keyword).length+(if([]:List Keyword).isEmpty then 0 else 1)<30))=true
 line:(apos.endLine==cpos.line)=true
 trees:backTo cpos (starEach [e] X.env)=[037]
def NK(H:Hp)(a:Addr):Prop:=(∃kvs,Rd H a 029)\/∃kvs,Rd H a (.dT kvs)
def Oc{X:Cx}{pins:003}{σ:St}{H:Hp}{s:0016}{a:Addr}(I:002)(d:NK H a):s.TypeIs 046 "dict"/\(∀b,Value.ref a= .ref b->∃ob,s.heap.get? b=some ob/\ob.dict=none)/\(a==sysModules)=false:=by
 rcases d with⟨kvs,e⟩|⟨kvs,e⟩
 ·obtain⟨_,hd,vs,_,dd⟩:=qF I.aX e;refine⟨dd.typeIs,λb q=>?_,hd⟩;cases q;obtain⟨ob,_,_,h1,h2,_⟩:=dd;exact⟨ob,h1,h2.2.1⟩
 ·obtain⟨_,hd,xs,_,dd⟩:=uA I.aX e;refine⟨dd.typeIs,λb q=>?_,hd⟩;cases q;obtain⟨ob,_,_,h1,h2,_⟩:=dd;exact⟨ob,h1,h2.2.1⟩
def IY(td ty:TE):TE:=λσ H Q=>td σ H λx H1=>∃a,x= .ref a/\NK H1 a/\ty σ H1 λy H2=>∃kvs k v,H2 a=some 029/\y=kV k/\eR kvs k=some v/\Q v (upd H2 a (.dK (gp kvs k)))
section
variable{X:Cx}{o e f:Expr}{apos cpos:Pos}{td ty tx:TE}
def BC(ho:PE X o td)(he:PE X e ty)(m:M1 X o "pop" apos e cpos):PE X (.Call (.Attribute o "pop" apos) [e] [] cpos) (IY td ty):=by
 sleep 002;refine wpAny_Call_method m.base m.Sh m.line PySem.F.plainAttrs_dict PySem.F.slot_dict_pop PySem.F.type_dict_pop (bq (ho pins s σ H _ I h) λu s1 ⟨x,H1,I1,rx,a,ex,d,q1⟩=>?_);sleep 013;obtain⟨t1,t2,_⟩:=Oc I1 d;refine⟨t1,t2,?_⟩;rw[m.trees];refine adq rfl (Calls.evalArgs_plain (adk (bq (he pins s1 σ H1 _ I1 q1) λiv s2 ⟨y,H2,I2,ry,kvs,k,v,ea,ey,l,q2⟩=>adw ?_)));subst ey;exact Qw I2 ea ry l 094 λw' s3 I3 rw'=>⟨v,_,I3,rw',q2⟩
end
def yl:bootBuiltins "reversed"=some (.type "reversed"):=by decide+kernel
section
variable{X:Cx}{pins:003}{σ:St}{H:Hp}{s:0016}{h':Heap}
def Inv.Jm{t':Nat}{ch:016}{T:Addr}{ob:HO}(I:002)(k:∀b o,b∉ch->s.heap.get? b=some o->h'.get? b=some o)(hf:∀b∈ch,nB X pins H b)(hT:08<=T)(new:eB X.prog X.w (upd H T ob) h' T ob):Inv X pins σ (upd H T ob) {s with heap:=h',toks:=t'}:=by
 have hn:H T=none:=I.aX.fresh hT
 have nit:∀b u,H b=some u->b∉ch:=λb u e z=>by
  have q:=(hf b z).1;rw[q] at e;cases e
 refine I.step (g':=s.gens) (d':=s.drawn) (ch:=ch) (λb hb=>⟨(hf b hb).2.2.2.1,(hf b hb).2.1,(hf b hb).2.2.2.2.1,(hf b hb).2.2.2.2.2⟩) (λb o _ _ hc e _=>k b o hc e) (λb o _ _ hc e _=>⟨o.slots,k b o hc e⟩)
  (λb o _ e n=>?_) (λb o hc e=>⟨o,k b o hc e⟩) (λb xs e=>?_) (λb o u e=>?_) (λb ps e=>⟨#[],?_⟩) (λm hm=>?_) (λb u e=>?_) I.bare
 ·rw[aj (aaM (aaO (aaG e) hT))];exact n
 ·rw[aj (aG e hn)];exact e
 ·rw[aj (aG e hn)];exact e
 ·rw[aj (aG e hn),e];simp
 ·obtain⟨o,es,ep,ho,r⟩:=hm;exact⟨o,es,ep,k _ o (λz=>(hf _ z).2.1 rfl) ho,r⟩
 ·by_cases hb:b=T
  ·subst hb;rw[ah] at e;cases e;exact new
  ·rw[aj hb] at e;refine(I.aX b u e).mL (λc v hc q=>k c v ?_ q) (λc q=>by rw[aj (aG q hn)];exact q) λc xs q=>by rw[aj (aG q hn)];exact q
   rcases hc with z|z
   ·rw[z];exact nit b u e
   ·exact nit c _ z
def Inv.lock{d:Addr}{u:HO}(I:002)(h:H d=some u)(mu:sr (some u)):∃od,Inv X pins σ (upd H d 0078) s:=by
 have x:=I.aX d u h
 have ex:∃od,s.heap.get? d=some od:=by
  cases u with
  |lst xs=>obtain⟨_,_,_,_,e⟩:=x;exact⟨_,e⟩
  |dK kvs=>obtain⟨_,_,_,_,o,_,_,e,_⟩:=x;exact⟨o,e⟩
  |dT kvs=>obtain⟨_,_,_,_,o,_,_,e,_⟩:=x;exact⟨o,e⟩
  |set S n=>obtain⟨o,_,_,_,e,_⟩:=x;exact⟨o,e⟩
  |ins C dx fs=>obtain⟨_,_,_,e,_⟩:=x;exact⟨_,e⟩
  |ext φ=>obtain⟨_,⟨_,e⟩,_⟩:=x;exact⟨_,e⟩
  |_=>exact False.elim mu
 obtain⟨od,e⟩:=ex
 have new:eB X.prog X.w (upd H d 0078) s.heap d 0078:=by
  refine⟨e,x.mL (λb v _ q=>q) (λb q=>?_) λb xs q=>?_⟩
  ·rw[aj (λz=>by rw[z,h] at q;cases q;exact mu)];exact q
  ·rw[aj (λz=>by rw[z,h] at q;cases q;exact mu)];exact q
 exact⟨od,I.write (x:=d) (e:=d) (t':=s.toks) (h':=s.heap) (by rw[h];exact mu) 094 (λb v _ q=>q) ⟨od,e⟩ new⟩
def Inv.xh{d:Addr}{u:HO}(I:002)(h:H d=some u)(mu:sr (some u)):∀o' u',X.Bj d≠some (.bK o' u'):=λo' u' e=>by
 have q:=I.base.eM d o' u' e;rw[h] at q;cases q;exact mu
def Inv.unlock{d:Addr}{od:Obj}{u:HO}(I:002)(h:H d=some 0078)(hn:∀o' u',X.Bj d≠some (.bK o' u')):Inv X pins σ (upd H d u) s:=by
 have neH:∀b o,H b=some o->(∀o' u',o≠.bK o' u')->b≠d:=λb o e hne z=>by
  rw[z,h] at e;cases e;exact hne _ _ rfl
 have neN:∀b,H b=none->b≠d:=λb e z=>by rw[z,h] at e;cases e
 refine⟨I.ok,I.os,I.bare,⟨I.base.keep,I.base.slot,λb o e n hx=>?_,I.base.there,λb xs e=>?_,λb o x e=>?_,λb ps e=>?_⟩,I.loc,I.cell,?_,λx c e=>?_,λp hp=>?_,λb o e=>?_,I.len⟩
 ·rw[aj (neN b (I.base.free b o e n hx))];exact I.base.free b o e n hx
 ·have q:=I.base.fP b xs e;rw[aj (neH b _ q (λ_ _ z=>nomatch z))];exact q
 ·have q:=I.base.eM b o x e;rw[aj (λz=>by rw[z] at e;exact hn _ _ e)];exact q
 ·obtain⟨m,q⟩:=I.base.qA b ps e;exact⟨m,by rw[aj (neH b _ q (λ_ _ z=>nomatch z))];exact q⟩
 ·rw[aj (neN _ I.free)];exact I.free
 ·rw[aj (neN c (I.jl x c e))];exact I.jl x c e
 ·obtain⟨e,n,r⟩:=I.pin p hp;exact⟨e,by rw[aj (neN _ n)];exact n,r⟩
 ·by_cases hb:b=d
  ·rw[hb,ah] at e;cases e;rw[hb];obtain⟨_,x⟩:=I.aX d _ h;exact x.mL (λc v _ q=>q) (λc q=>by rw[aj (neH c _ q (λ_ _ z=>nomatch z))];exact q) λc xs q=>by rw[aj (neH c _ q (λ_ _ z=>nomatch z))];exact q
  ·rw[aj hb] at e;exact(I.aX b o e).mL (λc v _ q=>q) (λc q=>by rw[aj (neH c _ q (λ_ _ z=>nomatch z))];exact q) λc xs q=>by rw[aj (neH c _ q (λ_ _ z=>nomatch z))];exact q
end
def Mh(t:TS):TS:=λD σ H=>∃d u,H d=some u/\sr (some u)/\∀od,t ⟨λσ' H'=>H' d=some 0078/\D.nx σ' (upd H' d u),λv H'=>H' d=some 0078/\D.rt v (upd H' d u),λσ' H'=>H' d=some 0078/\D.bk σ' (upd H' d u),λσ' H'=>H' d=some 0078/\D.ct σ' (upd H' d u)⟩ σ (upd H d 0078)
def Jv(t:TE):TE:=λσ H Q=>∃d u,H d=some u/\sr (some u)/\∀od,t σ (upd H d 0078) λv H'=>H' d=some 0078/\Q v (upd H' d u)
section
variable{X:Cx}
def M7{st:Stmt}{t:TS}(h:PS X st t):PS X st (Mh t):=by
 intro pins s σ H D I hw;obtain⟨d,u,hd,mu,hw⟩:=hw;obtain⟨od,I1⟩:=I.lock hd mu;refine bq (h pins s σ _ _ I1 (hw od)) λf s1 q=>?_
 cases f with
 |next=>obtain⟨σ',H',I2,e,q⟩:=q;exact⟨σ',_,I2.unlock e (I.xh hd mu),q⟩
 |brk=>obtain⟨σ',H',I2,e,q⟩:=q;exact⟨σ',_,I2.unlock e (I.xh hd mu),q⟩
 |cont=>obtain⟨σ',H',I2,e,q⟩:=q;exact⟨σ',_,I2.unlock e (I.xh hd mu),q⟩
 |ret v=>obtain⟨x,σ',H',I2,r,e,q⟩:=q;exact⟨x,σ',_,I2.unlock e (I.xh hd mu),r,q⟩
def ER{e:Expr}{t:TE}(h:PE X e t):PE X e (Jv t):=by
 intro pins s σ H Q I hw;obtain⟨d,u,hd,mu,hw⟩:=hw;obtain⟨od,I1⟩:=I.lock hd mu;refine bq (h pins s σ _ _ I1 (hw od)) λv s1 ⟨x,H1,I2,r,e2,q⟩=>?_;exact⟨x,_,I2.unlock e2 (I.xh hd mu),r,q⟩
def we{tg:Expr}{pins:003}{σ:St}{H:Hp}{s:0016}{R:It->Hp->Prop}{J:It}{tn:Nat->Heap->Prop}{tk:Nat}(I:002)(o:Obj)(T:Turn X.prog X.w X.K tg J [08] s.heap.objs.size tn)(st:tn 0 (s.heap.push o))(q:R J H):Mf X pins σ tg R (.ref 08) {s with heap:=s.heap.push o,toks:=tk}:=by
 refine⟨08,[08],tn,J,H,rfl,I.kept λb ob e=>aaq _ e,T,st,052,q⟩;have e:b=08:=by simpa using hb
 subst e;exact I.xU 097 (I.aX.fresh 097)
end
def LM(K:05)(a:Addr)(n:Nat):It:=
 ⟨λi H=>i<n/\∃(xs:0012) (x:V),ax K H a xs/\xs[n-1-i]? =some x,λi H x H'=>H'=H/\∀xs,ax K H a xs->xs[n-1-i]? =some x,λi _=>n<=i⟩
def Lk{P:027}{w:066}{K:05}{tg:Expr}(a it:Addr)(n:Nat):Turn P w K tg (LM K a n) [it] it (λi h=>i<=n/\h.IsRevIter it a ((n:Int)-1-(i:Nat))) where
 mem:=by simp
 obj:=λi h st b hb=>by
  sleep 022;obtain⟨_,o,e,c,d⟩:=st;exact⟨o,e,λv z=>by rw[d] at z;cases z⟩
 keep:=λi h h' st k=>⟨st.1,st.2.at λo e=>k it 017 o e⟩
 item:=by
  sleep 03;obtain⟨hin,xs,x,hq,hx⟩:=hg;obtain⟨its,rv,p,hz⟩:=I.list hq;obtain⟨u,hu,ru⟩:=rv.get hx;sleep 07;obtain⟨_,hit⟩:=st;have e1:(n:Int)-1-((i:Nat):Int)=((n-1-i:Nat):Int):=by omega
  rw[e1] at hit;refine wpAny_pyNext_rev_item hit p.isList (x:=u) (by simpa using hu) λh' st' sb=>?_;have e2:((n-1-i:Nat):Int)-1=(n:Int)-1-((i+1:Nat):Int):=by omega
  rw[e2] at st';have I1:Inv X pins σ H {s with heap:=h'}:=I.turned (t':=s.toks) (λb o hb e=>(sb.2 b hb).trans e) f0 f1 f3 f4 f5;obtain⟨o,e,c,d⟩:=id st';exact⟨u,rfl,qU (s:={s with heap:=h'}) e c d 0010 ⟨x,H,I1,ru,⟨rfl,λys hy=>by rw[I.vq hy hq];exact hx⟩,⟨hin,st'⟩,λb hb=>(hf b hb).1⟩⟩
 done:=by
  sleep 03;sleep 07;obtain⟨hin,hit⟩:=st;have hge:n<=i:=hg;have e1:(n:Int)-1-((i:Nat):Int)= -1:=by omega
  rw[e1] at hit;exact wpAny_pyNext_rev_end 0053 hit λh' eb=>070
 self:=λA i s Q E st h=>adM st.2 h
def Lh(K:05)(ta:TA):TI:=λσ H R=>ta σ H λvs H1=>∃(a:Addr) (xs:0012),vs=[.ref a]/\ax K H1 a xs/\R (LM K a 009) H1
section
variable{X:Cx}{tg:Expr}
def DR{e:Expr}{ta:TA}{p pos:Pos}(hg:Gl X "reversed")(hm:X.mg "reversed"=none)(ha:PA X [e] ta)(hs:starEach [e] X.env=[037]:=by rfl):PI X tg (.Call (.Name "reversed" p) [e] [] pos) (Lh X.K ta):=by
 intro pins s σ H R I h;refine Call_ (kX I hg hm yl (aba (bq 0041 λus s1 ⟨vs,H1,I1,r1,q1⟩=>?_) hs rfl));obtain⟨a,xs,e,hq,q⟩:=q1;subst e
 cases r1 with
 |cons r rr=>
  cases rr;cases r;obtain⟨its,rv,p',hz⟩:=I1.list hq;have hl:=rv.length;have e1:((038:Nat):Int)-1=(009:Int)-1-((0:Nat):Int):=by simp only[aaz];omega
  refine call_reversed_list p'.isList (adM (l:=a) (i:=((038:Nat):Int)-1) 0007 ?_);refine we (tk:=s1.toks) I1 _ (Lk a _ 009) ⟨aaT _,?_⟩ q;rw[<-e1];exact 0007
end
section
variable{prog:027}{w:066}{A:061}{E:09}{s:0016}
def yX{d:Addr}{o:Obj}{es:Array DictEntry}{ep:Nat}{Q:09}(hd:(d==sysModules)=false)(ho:s.heap.get? d=some o)(hc:o.ExactDict)(hdat:o.data= .dict es ep)(hQ:Q (.ref 08) {s with heap:=s.heap.push {cls:=.type "dict_keyiterator",data:=.fields #[.ref d,.int 0 0,.int es.size 0,.int ep 0]}}):wpAny 008 A (pyIter (.ref d)) Q E s:=by
 have hT:s.TypeIs (.ref d) "dict":=⟨o,ho,hc.1⟩;refine wpAny_pyIter_slot hT F.slot_dict_iter (acw F.slot_dict_iter hT F.entry_dict_iter ?_ (F.args_dict_iter_1 _));unfold Builtin.«dict.__iter__»;refine aaf ?_;unfold Builtin.Dict.dictSlotNone;refine aaf (wpAny_notOrdered_dict hT ?_);show wpAny _ _ (pure (Value.ref d)) _ _ s;refine aaA ?_;show wpAny _ _ (Builtin.Dict.showsAll d>>=_) _ _ s;unfold Builtin.Dict.showsAll;rw[aan (by rw[hd];exact aau)];sleep 040;refine aaf (aeh ho hdat ?_);refine aaf (wpAny_dictEpoch ho hdat ?_);refine aaf (acI (aaA ⟨_,rfl,"dict_keyiterator",_,⟨_,aaD _ rfl,rfl⟩,abp.lookup,?_⟩));simpa[rawInt] using hQ
def Ap{it d:Addr}{i n ep:Nat}{od:Obj}{es:Array DictEntry}{en:DictEntry}{Q:Option Value->Shared->Prop}(hit:s.heap.IsKeyIter it d i n ep)(hod:s.heap.get? d=some od)(hdd:od.data= .dict es ep)(hsz:es.size=n)(hx:es[i]? =some en)(hQ:∀h',h'.IsKeyIter it d (i+1) n ep->Heap.SameBut it s.heap h'->Q (some en.key) {s with heap:=h'}):wpAny 008 A (pyNext (.ref it)) Q E s:=by
 obtain⟨o,ho,hc,hd⟩:=id hit;unfold pyNext;refine aaf (wpAny_attempt (wpAny_callSpecial?_slot (name:=Str.ofString "__next__") hit.typeIs abp (acw abp hit.typeIs adK ?_ (adF _))));sleep 040;refine aaf ?_;refine aaf ?_
 first|refine aaf (abX hit.typeIs (aaA ?_))|refine aaf (acn hit.typeIs (aaA ?_))
 refine aaf (wpAny_fieldsOf ho hd ?_);have hown:Builtin.Dict_items.ownsTuple "dict_keyiterator"=false:=by decide
 simp only[hown,aaK,ab8];show wpAny _ _ (if(Value.ref d==Value.none)=true then _ else _) _ _ s;rw[aan (show¬((Value.ref d==Value.none)=true) from aau)];sleep 040;refine aaf (aeh hod hdd ?_);rw[aan (by rw[hsz];simp)];sleep 040;refine aaf (wpAny_dictEpoch hod hdd ?_);rw[aan (by simp)];refine aaA ?_;obtain⟨hlt',hen⟩:=abw.mp hx;simp only[show¬((i:Int)<0) from by omega,ab8,aa0,aaR hlt'];refine aaf ?_
 first|refine aaf (abX hit.typeIs (aaA ?_))|refine aaf (acn hit.typeIs (aaA ?_))
 refine aaf (wpAny_isOneOf_keyiter hit.typeIs ?_);show wpAny _ _ (setField (.ref it) 1 (rawInt ((i:Int)+1))>>=_) _ _ s;refine aaf (wpAny_setField ho hd (by simp) ?_)
 have hit':(s.heap.update it (Obj.mapFields (·.setIfInBounds 1 (rawInt ((i:Int)+1))))).IsKeyIter it d (i+1) n ep:=
  ⟨_,abG _ ho (Obj.isFreed_of_fields (Obj.data_mapFields hd _)),(Obj.cls_mapFields ..).trans hc,by rw[Obj.data_mapFields hd];simp[rawInt]⟩
 refine aaf (abB ?_);refine aaf (wpAny_isOneOf_keyiter (s:={s with heap:=s.heap.update it (Obj.mapFields (·.setIfInBounds 1 (rawInt ((i:Int)+1))))}) hit'.typeIs ?_);show wpAny _ _ (pure es[i].key) _ _ _;rw[hen];exact aaA (aaA ⟨_,rfl,aaA (hQ _ hit' (acW ..))⟩)
def tK{it d:Addr}{i n ep:Nat}{od:Obj}{es:Array DictEntry}{Q:Option Value->Shared->Prop}(hh:A.handled=none)(hit:s.heap.IsKeyIter it d i n ep)(hod:s.heap.get? d=some od)(hdd:od.data= .dict es ep)(hsz:es.size=n)(hge:n<=i)(hQ:∀h',Heap.ExtBut it s.heap h'->Q none {s with heap:=h'}):wpAny 008 A (pyNext (.ref it)) Q E s:=by
 obtain⟨o,ho,hc,hd⟩:=id hit;unfold pyNext;refine aaf (wpAny_attempt (wpAny_callSpecial?_slot (name:=Str.ofString "__next__") hit.typeIs abp (acw abp hit.typeIs adK ?_ (adF _))));sleep 040;refine aaf ?_;refine aaf ?_
 first|refine aaf (abX hit.typeIs (aaA ?_))|refine aaf (acn hit.typeIs (aaA ?_))
 refine aaf (wpAny_fieldsOf ho hd ?_);have hown:Builtin.Dict_items.ownsTuple "dict_keyiterator"=false:=by decide
 simp only[hown,aaK,ab8];show wpAny _ _ (if(Value.ref d==Value.none)=true then _ else _) _ _ s;rw[aan (show¬((Value.ref d==Value.none)=true) from aau)];sleep 040;refine aaf (aeh hod hdd ?_);rw[aan (by rw[hsz];simp)];sleep 040;refine aaf (wpAny_dictEpoch hod hdd ?_);rw[aan (by simp)];refine aaA ?_;have hge':es.size<=i:=by rw[hsz];exact hge
 simp only[show¬((i:Int)<0) from by omega,ab8,aa0,aeH hge'];refine aaf ?_
 first|refine aaf (abX hit.typeIs (aaA ?_))|refine aaf (acn hit.typeIs (aaA ?_))
 show wpAny _ _ (setField (.ref it) 0 .none>>=_) _ _ s;refine aaf (wpAny_setField ho hd (by simp) ?_);show wpAny _ _ (newExc (.type "StopIteration") []>>=_) _ _ _;refine aaf ?_;simp only[newExc,newTuple];refine aaf (acI ?_ (by size_fits));refine aaf (m:=firstArgMember _ _) (wpAny_of_eq (a:=Value.none) (by first|rfl|(simp only[firstArgMember];rfl)) ?_);refine acI ?_ (by size_fits);simp only[raiseNew];refine aaf (wpAny_handled ?_);rw[show A.in1.handled=none from hh];refine aaf (aaA (wpAny_throw ?_));refine aaf (aer (T:="StopIteration") (b:=true) ⟨_,aaD _ rfl,rfl⟩ isSubtype_stop ?_);exact aaA (hQ _ (((acW ..).extBut.push _).push _))
end
def J9{κ:Type}{kvs:0008}{vs:List (κ×Value)}(h:KV kvs vs):∀{i:Nat} {k:κ} {v:V},kvs[i]? =some (k,v)->∃u,vs[i]? =some (k,u)/\RelV v u:=by
 unfold KV at h
 induction h with
 |nil=>intro i k v e;simp at e
 | @cons a b l₁ l₂ r t ih=>
   intro i k v e
   cases i with
   |zero=>
    simp only[adg,Option.some.injEq] at e;subst e;refine⟨b.2,?_,r.2⟩;simp only[adg];exact aby some (aep r.1.symm rfl)
   |succ j=>
    simp only[adh] at e⊢;exact ih e
def Gu{α β:Type}{G:0059}{l₁:076}{l₂:List β}(h:Paired G l₁ l₂):∀{i:Nat} {a:α},l₁[i]? =some a->∃b,l₂[i]? =some b/\G a b:=by
 induction h with
 |nil=>intro i a e;simp at e
 | @cons a b l₁ l₂ r t ih=>
   intro i a' e
   cases i with
   |zero=>
    simp only[adg,Option.some.injEq] at e;subst e;exact⟨b,rfl,r⟩
   |succ j=>
    simp only[adh] at e⊢;exact ih e
def K_{k:Key}{u:0101}(h:m7 k u=true):RelV (kV k) u:=by
 rcases eW h with⟨i,t,rfl,rfl⟩|⟨x,t,rfl,rfl⟩
 ·exact⟨t,rfl⟩
 ·exact⟨t,rfl⟩
section
variable{X:Cx}{pins:003}{σ:St}{H:Hp}{s:0016}{d:Addr}{o:Obj}
def Inv.xA{kvs:031}(I:002)(h:H d=some (.bK o 029)):(d==sysModules)=false/\s.heap.get? d=some o/\o.ExactDict/\∃(es:Array DictEntry) (ep:Nat) (vs:List (Key×Value)),o.data= .dict es ep/\es.size=kvs.length/\KV kvs vs/\s.heap.DictAt (eN X.prog X.w) d vs ep:=by
 obtain⟨hd,z,hs,vs,kv,o',es,ep,ho,hx,hdt,r⟩:=I.aX d _ h;rw[hd] at ho;cases ho;refine⟨hs,hd,hx,es,ep,vs,hdt,?_,kv,o,es,hd,hx,hdt,r⟩;have l1:=r.2.1.length;have l2:kvs.length=090:=aaY kv;rw[aaE] at l1;omega
def Inv.Lu{kvs:0036}(I:002)(h:H d=some (.bK o (.dT kvs))):(d==sysModules)=false/\s.heap.get? d=some o/\o.ExactDict/\∃(es:Array DictEntry) (ep:Nat),o.data= .dict es ep/\es.size=kvs.length/\∀(i:Nat) (k:List Key) (v:V),kvs[i]? =some (k,v)->∃(en:DictEntry) (q:Addr),es[i]? =some en/\en.key= .ref q/\H q=some (.tup (k.map kV)):=by
 obtain⟨hd,z,hs,xs,pr,o',es,ep,ho,hx,hdt,he,_⟩:=I.aX d _ h;rw[hd] at ho;cases ho;refine⟨hs,hd,hx,es,ep,hdt,?_,λi k v e=>?_⟩
 ·have l1:es.size=009:=size_of_entries he;have l2:kvs.length=009:=aaY pr;omega
 ·obtain⟨b,hb,e1,e2,_⟩:=Gu pr e;have q:=entry_at he i;rw[hb] at q;exact⟨_,b.2.1,q,rfl,e2⟩
end
def yz(d:Addr)(o:Obj)(kvs:031):It:=
 ⟨λi H=>H d=some (.bK o 029)/\i<kvs.length,λi H x H'=>H'=H/\∃k v,kvs[i]? =some (k,v)/\x=kV k,λi H=>H d=some (.bK o 029)/\kvs.length<=i⟩
def AL(d:Addr)(o:Obj)(kvs:0036):It:=
 ⟨λi H=>H d=some (.bK o (.dT kvs))/\i<kvs.length,λi H x H'=>H'=H/\∃(k:List Key) (v:V) (q:Addr),kvs[i]? =some (k,v)/\x= .ref q/\H q=some (.tup (k.map kV)),λi H=>H d=some (.bK o (.dT kvs))/\kvs.length<=i⟩
def LS(d:Addr)(o:Obj)(kvs:031):It:=
 ⟨λi H=>H d=some (.bK o 029)/\i<kvs.length,λi H x H'=>H'=H/\∃k,kvs[i]? =some (k,x),λi H=>H d=some (.bK o 029)/\kvs.length<=i⟩
def m_{o:Obj}{es es':Array DictEntry}{ep ep':Nat}(h:o.data= .dict es ep)(h':o.data= .dict es' ep'):es'=es/\ep'=ep:=by
 rw[h] at h';cases h';exact⟨rfl,rfl⟩
section
variable{P:027}{w:066}{K:05}{tg:Expr}{d:Addr}{o:Obj}{es:Array DictEntry}{ep:Nat}
def HW{kvs:031}(it:Addr)(hod:o.data= .dict es ep):Turn P w K tg (yz d o kvs) [it] it (λi h=>h.IsKeyIter it d i kvs.length ep) where
 mem:=by simp
 obj:=λi h st b hb=>by
  sleep 022;obtain⟨oi,e,c,dd⟩:=st;exact⟨oi,e,λv z=>by rw[dd] at z;cases z⟩
 keep:=λi h h' st k=>st.at λoi e=>k it 017 oi e
 item:=by
  sleep 049;sleep 016;obtain⟨⟨k,v⟩,hkv⟩:∃p,kvs[i]? =some p:=⟨kvs[i],aab hi⟩;obtain⟨u,hu,ru⟩:=J9 kv hkv;have hl:kvs.length=090:=aaY kv;rw[hl] at st;refine wpAny_pyNext_dict_item st hm hu λkey h' hkey st' sb=>?_;have I1:Inv X pins σ H {s with heap:=h'}:=I.turned (t':=s.toks) (λb ob hb e=>(sb.2 b hb).trans e) f0 f1 f3 f4 f5;obtain⟨oi,e,c,dd⟩:=id st';refine⟨key,rfl,qU (s:={s with heap:=h'}) e c dd 0010 ⟨kV k,H,I1,K_ (show m7 k key=true from hkey),⟨rfl,k,v,hkv,rfl⟩,?_,λb hb=>(hf b hb).1⟩⟩;show h'.IsKeyIter it d (i+1) kvs.length _;rw[hl];exact st'
 done:=by
  sleep 049;sleep 016;exact tK 0053 st hgd hdt hsz hi λh' eb=>⟨rfl,I.turned (t':=s.toks) (λb ob hb e=>eb b ob hb e) f0 f1 f3 f4 f5⟩
 self:=λA i s Q E st h=>wpAny_pyIter_keyiter st h
def GW{kvs:0036}(it:Addr)(hod:o.data= .dict es ep):Turn P w K tg (AL d o kvs) [it] it (λi h=>h.IsKeyIter it d i kvs.length ep) where
 mem:=by simp
 obj:=λi h st b hb=>by
  sleep 022;obtain⟨oi,e,c,dd⟩:=st;exact⟨oi,e,λv z=>by rw[dd] at z;cases z⟩
 keep:=λi h h' st k=>st.at λoi e=>k it 017 oi e
 item:=by
  sleep 049;obtain⟨hs,hgd,hx,es',ep',hdt,hsz,ent⟩:=I.Lu hd;obtain⟨rfl,rfl⟩:=m_ hod hdt;obtain⟨⟨k,v⟩,hkv⟩:∃p,kvs[i]? =some p:=⟨kvs[i],aab hi⟩;obtain⟨en,q,hen,hkey,hq⟩:=ent i k v hkv;refine Ap st hgd hdt hsz hen λh' st' sb=>?_;have I1:Inv X pins σ H {s with heap:=h'}:=I.turned (t':=s.toks) (λb ob hb e=>(sb.2 b hb).trans e) f0 f1 f3 f4 f5;obtain⟨oi,e,c,dd⟩:=id st';exact⟨en.key,rfl,qU (s:={s with heap:=h'}) e c dd 0010 ⟨.ref q,H,I1,hkey,⟨rfl,k,v,q,hkv,rfl,hq⟩,st',λb hb=>(hf b hb).1⟩⟩
 done:=by
  sleep 049;obtain⟨hs,hgd,hx,es',ep',hdt,hsz,ent⟩:=I.Lu hd;obtain⟨rfl,rfl⟩:=m_ hod hdt;exact tK 0053 st hgd hdt hsz hi λh' eb=>⟨rfl,I.turned (t':=s.toks) (λb ob hb e=>eb b ob hb e) f0 f1 f3 f4 f5⟩
 self:=λA i s Q E st h=>by
  refine wpAny_pyIter_slot st.typeIs adP (acw adP st.typeIs F.entry_dict_keyiterator_iter ?_ (F.args_dict_keyiterator_iter_1 _));show wpAny _ _ (ret (.ref it)) _ _ s;exact aaA ⟨_,rfl,"dict_keyiterator",_,st.typeIs,abp.lookup,h⟩
def Ja{kvs:031}(it:Addr)(hod:o.data= .dict es ep):Turn P w K tg (LS d o kvs) [it] it (λi h=>h.IsValIter it d i kvs.length ep) where
 mem:=by simp
 obj:=λi h st b hb=>by
  sleep 022;obtain⟨oi,e,c,dd⟩:=st;exact⟨oi,e,λv z=>by rw[dd] at z;cases z⟩
 keep:=λi h h' st k=>st.at λoi e=>k it 017 oi e
 item:=by
  sleep 049;sleep 016;obtain⟨⟨k,v⟩,hkv⟩:∃p,kvs[i]? =some p:=⟨kvs[i],aab hi⟩;obtain⟨u,hu,ru⟩:=J9 kv hkv;have hl:kvs.length=090:=aaY kv;rw[hl] at st;refine wpAny_pyNext_values_item st hm hu λh' st' sb=>?_;have I1:Inv X pins σ H {s with heap:=h'}:=I.turned (t':=s.toks) (λb ob hb e=>(sb.2 b hb).trans e) f0 f1 f3 f4 f5;obtain⟨oi,e,c,dd⟩:=id st';refine⟨u,rfl,qU (s:={s with heap:=h'}) e c dd 0010 ⟨v,H,I1,ru,⟨rfl,k,hkv⟩,?_,λb hb=>(hf b hb).1⟩⟩;show h'.IsValIter it d (i+1) kvs.length _;rw[hl];exact st'
 done:=by
  sleep 049;sleep 016;have hl:kvs.length=090:=aaY kv;rw[hl] at st;exact wpAny_pyNext_values_end 0053 st hm (aaS 03) λh' eb=>⟨rfl,I.turned (t':=s.toks) (λb ob hb e=>eb b ob hb e) f0 f1 f3 f4 f5⟩
 self:=λA i s Q E st h=>wpAny_pyIter_valiter st h
end
def Mg(td:TE):TI:=λσ H R=>td σ H λx H1=>∃d o,x= .ref d/\((∃kvs,H1 d=some (.bK o 029)/\R (yz d o kvs) H1)\/∃kvs,H1 d=some (.bK o (.dT kvs))/\R (AL d o kvs) H1)
def Ms(td:TE):TI:=λσ H R=>td σ H λx H1=>∃d o kvs,x= .ref d/\H1 d=some (.bK o 029)/\R (LS d o kvs) H1
section
variable{X:Cx}{tg e:Expr}{td:TE}{apos cpos:Pos}
def Fm(he:PE X e td):PI X tg e (Mg td):=by
 intro pins s σ H R I h;refine bq 082 λu s1 hq1=>?_;obtain⟨x,H1,I1,rx,d,o,ex,q⟩:=hq1;subst ex;obtain rfl:u=Value.ref d:=rx;rcases q with⟨kvs,hd,q⟩|⟨kvs,hd,q⟩
 ·obtain⟨hs,hgd,hx,es,ep,vs,hdt,hsz,kv,hm⟩:=I1.xA hd;refine yX hs hgd hx hdt (we (tk:=s1.toks) I1 _ (HW _ hdt) ⟨_,aaD _ rfl,rfl,?_⟩ q);rw[hsz]<;>rfl
 ·obtain⟨hs,hgd,hx,es,ep,hdt,hsz,ent⟩:=I1.Lu hd;refine yX hs hgd hx hdt (we (tk:=s1.toks) I1 _ (GW _ hdt) ⟨_,aaD _ rfl,rfl,?_⟩ q);rw[hsz]<;>rfl
def Il(he:PE X e td)(hbase:attributeBase e "values" X.env (eval e X.env)=eval e X.env:=by rfl)(hline:(apos.endLine==cpos.line)=true:=by rfl):PI X tg (.Call (.Attribute e "values" apos) [] [] cpos) (Ms td):=by
 intro pins s σ H R I h;refine wpAny_Call_method (T:="dict") (id:="dict.values") hbase rfl hline F.plainAttrs_dict F.slot_dict_values F.type_dict_values (bq 082 λu s1 hq1=>?_);obtain⟨x,H1,I1,rx,d,o,kvs,ex,hd,q⟩:=hq1;subst ex;obtain rfl:u=Value.ref d:=rx;obtain⟨hs,hgd,hx,es,ep,vs,hdt,hsz,kv,hm⟩:=I1.xA hd;have hl:kvs.length=090:=aaY kv;refine⟨hm.dictOf.typeIs,hm.dictOf.mapOf.noDict,?_⟩;have I2:Inv X pins σ H1 {s1 with heap:=s1.heap.push {cls:=.type "dict_values",data:=.fields #[.ref d]}}:=I1.kept (t':=s1.toks) λb ob q=>aaq _ q
 have fin:wpAny 004 X.A (pyIter (.ref 036)) (Mf X pins σ tg R) X.xe {s1 with heap:=s1.heap.push {cls:=.type "dict_values",data:=.fields #[.ref d]}}:=by
  refine wpAny_pyIter_values (d:=d) (knd:=eN X.prog X.w) 0007 (hm.push _) (we (tk:=s1.toks) I2 _ (Ja _ hdt) ⟨_,aaD _ rfl,rfl,?_⟩ q);rw[hl]<;>rfl
 show wpAny _ _ (callWith cpos (.builtin "dict.values") [.ref d] [] []) _ X.xe s1;exact method_meetsIn F.slot_dict_values F.entry_dict_values rfl (PySem.evalArgs_none ⟨rfl,hm.dictOf.typeIs,F.args_dict_values_1 _,_,meets_dict_values (eN X.prog X.w) d hs,⟨vs,hm.dictOf⟩,fin⟩)
end
def LY(K:05)(a:Addr):It:=
 ⟨λi H=>∃(xs:0012) (x:V),ax K H a xs/\xs[i]? =some x,λi H v H'=>∃T x,v= .ref T/\H T=none/\H'=upd H T (.tup [.int (i:Nat),x])/\∀xs,ax K H a xs->xs[i]? =some x,λi H=>∃xs:List V,ax K H a xs/\009<=i⟩
def J3{P:027}{w:066}{K:05}{elts:0062}{kk:Nat}{tpos:Pos}(a e it:Addr):Turn P w K (.Tuple elts kk tpos) (LY K a) [e,it] e (λi h=>(∃old,IsEnum h e it ((i:Nat):Int) old)/\h.IsListIter it a i/\e≠it) where
 mem:=by simp
 obj:=λi h st b hb=>by
  obtain⟨⟨old,he⟩,⟨o,ho,hc,hd⟩,_⟩:=st;have e':b=e\/b=it:=by simpa using hb
  rcases e' with z|z
  ·rw[z];exact⟨_,he,λv q=>nomatch q⟩
  ·rw[z];exact⟨o,ho,λv q=>by rw[hd] at q;cases q⟩
 keep:=λi h h' st k=>let⟨⟨old,he⟩,hi,hne⟩:=st;⟨⟨old,k e 017 _ he⟩,hi.at λo q=>k it 017 o q,hne⟩
 item:=by
  sleep 03;obtain⟨⟨old,he⟩,hit,hne⟩:=st;obtain⟨xs,x,hq,hx⟩:=hg;obtain⟨its,rv,p,hz⟩:=I.list hq;obtain⟨u,hu,ru⟩:=rv.get hx;have hel:e<08:=aaG he;have hil:it<08:=by obtain⟨_,q,_⟩:=hit;exact aaG q
  refine wpAny_pyNext_enum_item he hit p.isList (x:=u) (by simpa using hu) hne λh' ho hit' hT hsz hk=>?_;refine⟨_,rfl,wpAny_letOwnedTupleGo_enum (s:={s with heap:=h',toks:=s.toks+1}) ho λh'' he' sb=>?_⟩;have hT2:h''.get? 08=some {cls:=.type "tuple",data:=.seq #[.int i s.toks,u]}:=(sb.2 _ (aeM hel)).trans hT
  have new:eB X.prog X.w (upd H s.heap.objs.size (.tup [.int (i:Nat),x])) h'' s.heap.objs.size (.tup [.int (i:Nat),x]):=
   ⟨by show 2<=sizeLine;decide,[.int i s.toks,u],.cons ⟨_,rfl⟩ (.cons ru .nil),⟨_,hT2,rfl,_,rfl⟩⟩
  have I1:Inv X pins σ (upd H s.heap.objs.size (.tup [.int (i:Nat),x])) {s with heap:=h'',toks:=s.toks+1}:=
   I.Jm (ch:=[e,it]) (λb ob hb q=>(sb.2 b (λz=>hb (by simp[z]))).trans (hk b ob (λz=>hb (by simp[z])) (λz=>hb (by simp[z])) q)) hf 097 new
  refine⟨.ref 08,_,I1,rfl,⟨_,x,rfl,I.aX.fresh 097,rfl,λys hy=>by rw[I.vq hy hq];exact hx⟩,⟨⟨u,?_⟩,hit'.at λo q=>(sb.2 it (abl hne)).trans q,hne⟩,052⟩
  ·have e1:((i+1:Nat):Int)=(i:Int)+1:=by omega
   rw[e1];exact he'
  ·have hb':b<08:=by
    have e':b=e\/b=it:=by simpa using hb
    rcases e' with z|z
    ·rw[z];exact hel
    ·rw[z];exact hil
   rw[aj (aaM hb')];exact(hf b hb).1
 done:=by
  sleep 03;obtain⟨⟨old,he⟩,hit,hne⟩:=st;obtain⟨xs,hq,hx⟩:=hg;obtain⟨its,rv,p,hz⟩:=I.list hq;sleep 07;have hl:=rv.length;exact wpAny_pyNext_enum_end 0053 he hit p.isList (by simp;omega) λh' eb=>⟨rfl,I.turned (t':=s.toks) (λb o hb q=>eb b o hb q) f0 f1 f3 f4 f5⟩
 self:=λA i s Q E st h=>let⟨⟨_,he⟩,_⟩:=st;wpAny_pyIter_enum he h
def Gr(K:05)(ta:TA):TI:=λσ H R=>ta σ H λvs H1=>∃a xs,vs=[.ref a]/\ax K H1 a xs/\R (LY K a) H1
def Na{X:Cx}{e:Expr}{ta:TA}{p pos tpos:Pos}{elts:0062}{kk:Nat}(hg:Gl X "enumerate")(hm:X.mg "enumerate"=none)(ha:PA X [e] ta)(hs:starEach [e] X.env=[037]:=by rfl):PI X (.Tuple elts kk tpos) (.Call (.Name "enumerate" p) [e] [] pos) (Gr X.K ta):=by
 intro pins s σ H R I h;refine Call_ (kX I hg hm boot_enumerate (aba (bq 0041 λus s1 ⟨vs,H1,I1,r1,q1⟩=>?_) hs rfl));obtain⟨a,xs,ex,hq,q⟩:=q1;subst ex
 cases r1 with
 |cons r rr=>
  cases rr;cases r;obtain⟨its,rv,p',hz⟩:=I1.list hq;refine call_enumerate_list p'.isList λh' he hit hsz hk=>wpAny_pyIter_enum he ?_;have I2:Inv X pins σ H1 {s1 with heap:=h'}:=I1.kept (t':=s1.toks) hk;refine⟨036+1,[036+1,036],_,_,H1,rfl,I2,J3 a (036+1) 036,⟨⟨.none,he⟩,hit,Nat.succ_ne_self _⟩,052,q⟩;have e':b=036+1\/b=036:=by simpa using hb
  have hle:036<=b:=by
   rcases e' with z|z
   ·rw[z];exact aet _ _
   ·rw[z];exact aay _
  exact I1.xU hle (I1.aX.fresh hle)
end L2
section
namespace Bits
open PySem PyProof.Rows
end Bits
end
section
namespace TL
open PySem PySem.Builtin PySem.Builtin.Str PySem.StrLaws
end TL
end
namespace L2
open PySem PySem.Spec PyProof.Rows
end L2
namespace Att
open PySem PySem.W PySem.Calls PyProof.Rows
end Att
namespace L2
open PySem PySem.Spec PyProof.Rows
def inClass(s:Stmt)(j:Nat):Stmt:=match s with
 |.ClassDef _ _ _ body _ _ _ _ _ _ _=>body.getD j (.Pass ⟨0,0,0,0⟩)
 |_=>.Pass ⟨0,0,0,0⟩
def ik(s:Stmt):Arguments:=match s with
 |.FunctionDef _ a _ _ _ _ _ _ _ _=>a
 |_=>{posonlyargs:=[],args:=[],vararg:=none,kwonlyargs:=[],kw_defaults:=[],kwarg:=none,defaults:=[]}
def fJ(s:Stmt):List Stmt:=match s with
 |.FunctionDef _ _ b _ _ _ _ _ _ _=>b
 |_=>[]
def ag(s:Stmt):Scope:=match s with
 |.FunctionDef _ _ _ _ _ _ sc _ _ _=>sc
 |_=>{kind:=.function,names:=[],isGenerator:=false,isCoroutine:=false}
abbrev mS:oK:=λ_ _ _ _ _ _=>False
abbrev E0:XK:=λ_ _ _=>False
def uh{X:Cx}:Passes mS X E0:=λ_ _ _ _ _ _ _ h=>h.elim
structure rA(K:05)(x qual:Str)(st:Stmt)(f:Addr)(fd:FuncData):Prop where
 ex:∃(oc:0101) (od:0088) (kV doc pm:0101) (an:0088) (cdv ct:0101) (osl:0061),
  fd=PySem.W.fnOf x qual (ik st) (fJ st) (ag st) .none kV doc pm an cdv ct/\K.lookup f=some ⟨oc,od,.func fd,osl⟩/\PySem.W.codeIn K cdv qual=true
 kp:PySem.W.keepIn K 081=true
section
variable{P:027}{w:066}{K:05}{mg:005}{base:Heap}
def rA.ok{x qual:Str}{st:Stmt}{f:Addr}{fd:FuncData}{N ps:087}{k:Nat}{sp:Sp}(F:rA K x qual st f fd)(S:ao N ps (ag st))(len:∀vs H Q E,sp vs H Q E->090=ps.length)(hbody:∀(cdv:0101) (A:061) (outer:List Env) (s:0016) (H:Hp) (vs:0012) (Q:VK) (E:XK),dr k (A.deeper (envOfC qual (ag st) s.heap.objs.size f cdv))->sp vs H Q E->∃t,lX (pj mS P w K mg base N qual (ag st) f cdv A outer s H E).zg (fJ st) t/\t {nx:=λ_ H'=>Q .bS H',rt:=Q} (start N vs) H):gv P w K mg base mS (k+1) f fd ps sp:=by
 obtain⟨oc,od,kV,doc,pm,an,cdv,ct,osl,rfl,lk,gD⟩:=F.ex;refine QA lk gD S len λA outer s H vs Q E hr hsp=>?_;obtain⟨t,h,q⟩:=hbody cdv A outer s H vs Q E hr hsp;exact⟨t,h.zg,q⟩
def rA.binds{x qual:Str}{st:Stmt}{f:Addr}{fd:FuncData}{ps:087}(F:rA K x qual st f fd)(h:∀(kV doc pm:0101) (an:0088) (cdv ct:0101) (us:007),us.length=ps.length->bindArgs (PySem.W.fnOf x qual (ik st) (fJ st) (ag st) .none kV doc pm an cdv ct) ⟨us,[]⟩=pure (ps.zip us)):Binds K fd ps []:=by
 obtain⟨oc,od,kV,doc,pm,an,cdv,ct,osl,rfl,lk,gD⟩:=F.ex;exact .all (h kV doc pm an cdv ct)
def nP{x qual:Str}{st:Stmt}{f:Addr}{oc:0101}{od an:0088}{osl:0061}{kV doc pm cdv ct:0101}(l:K.lookup f=some ⟨oc,od,.func (PySem.W.fnOf x qual (ik st) (fJ st) (ag st) .none kV doc pm an cdv ct),osl⟩)(c:PySem.W.codeIn K cdv qual=true)(k:PySem.W.keepIn K 081=true):rA K x qual st f (PySem.W.fnOf x qual (ik st) (fJ st) (ag st) .none kV doc pm an cdv ct):=⟨⟨oc,od,kV,doc,pm,an,cdv,ct,osl,rfl,l,c⟩,k⟩
end
def dw{A:061}{k:Nat}(hr:dr k A):A.units+1<cLine:=Nat.lt_of_le_of_lt (Nat.add_le_add_left (by decide:1<=64) _) hr.units
section
variable{X:Cx}
def pv(i:Nat){x:Str}{pos:Pos}(hN:X.N[i]? =some x:=by rfl)(hv:FD X.env.scope x:=by first|exact Or.inl rfl|exact Or.inr (Or.inl rfl)|exact Or.inr (Or.inr rfl))(hd:039=false:=by decide)(gD:(x==("__classdict__":Str))=false:=by decide):PE X (.Name x pos) (kC i):=IK hN hv hd gD
def IE:dM X 0070 (λxs H Q=>∃a kvs,xs=[V.ref a]/\H a=some 029/\Q (.int kvs.length) H):=by
 sleep 026;obtain⟨a,kvs,rfl,ha,q⟩:=h;sleep 027;exact QV I (.inl ha) λt s' I'=>⟨.int kvs.length,H,I',⟨t,rfl⟩,q⟩
end
def au(H H':Hp):Prop:=∀b o,H b=some o->H' b=some o
def au.refl(H:Hp):au H H:=λ_ _ h=>h
def au.trans{H H1 H2:Hp}(a:au H H1)(b:au H1 H2):au H H2:=λc o h=>b c o (a c o h)
def au.free{H H':Hp}(e:au H H'){l:Addr}(h:H' l=Option.none):H l=Option.none:=by
 cases q:H l with
 |none=>rfl
 |some o=>
  rw[e l o q] at h;cases h
def au.seq{K:05}{H H':Hp}{a:Addr}{xs:0012}(e:au H H')(h:ax K H a xs):ax K H' a xs:=by
 rcases h with(h|⟨o,h⟩)|h
 ·exact .inl (.inl (e _ _ h))
 ·exact .inl (.inr ⟨o,e _ _ h⟩)
 ·exact .inr h
section
variable{κ:Type}[DecidableEq κ]
theorem j8:∀{l:List κ} {k:κ},l.Nodup->¬k∈l->(l++[k]).Nodup
 |[],k,_,_=>by simp
 |a::r,k,h,hk=>by
  obtain⟨h1,h2⟩:=aa6.mp h;show(a::(r++[k])).Nodup;refine aa6.mpr ⟨λm=>?_,j8 h2 λm=>hk (aao.mpr (Or.inr m))⟩;rcases aax.mp m with q|q
  ·exact h1 q
  ·exact hk (aao.mpr (Or.inl (aa9.mp q).symm))
def Iu{p:κ×V}{r:0008}{k:κ}(e:p.1=k):gp (p::r) k=gp r k:=by
 unfold gp;rw[adI,aan (by simp[e])]
def J6{p:κ×V}{r:0008}{k:κ}(e:¬p.1=k):gp (p::r) k=p::gp r k:=by
 unfold gp;rw[adI,aav (by simp[e])]
end
def qM{α:Type}{l:076}(hN:l.Nodup){i j:Nat}{x:α}(a:l[i]? =some x)(b:l[j]? =some x):i=j:=by
 obtain⟨h1,e1⟩:=aad.mp a;obtain⟨h2,e2⟩:=aad.mp b;exact(acR hN).mp (e1.trans e2.symm)
end L2
end
namespace HP
open PySem PyProof.Rows
open PySem.SeqAt
open PySem.AutoSeq1 (wpAny_loadPart')
open PySem.MeetsSeq PySem.MeetsSeq2 PySem.MeetsSeq3
def vE(A:061)(s:0016)(y x:0101)(b:Bool):Prop:=
 ∀(prog:027) (w:066) (E:09) (Q:09),Q (.bool b) s->wpAny 008 A (richCompare .Lt y x) Q E s
def vE.int(A:061)(s:0016)(a:Int)(t:Tok)(c:Int)(u:Tok):vE A s (.int a t) (.int c u) (decide (a<c)):=λprog w E Q h=>HT.Cj A s a t c u prog w E Q h
inductive sT(A:061)(s:0016):List Value->List Value->Bool->Prop
 |nn:sT A s [] [] false
 |nc{y:0101}{ys:007}:sT A s [] (y::ys) true
 |cn{x:0101}{xs:007}:sT A s (x::xs) [] false
 |eq{x y:0101}{xs ys:007}{r:Bool}:EqAt A s x y true->sT A s xs ys r->sT A s (x::xs) (y::ys) r
 |ne{x y:0101}{xs ys:007}{r:Bool}:EqAt A s x y false->vE A s x y r->sT A s (x::xs) (y::ys) r
def Gy(l b:Addr)(items items2:095)(n n2:Nat)(dd dd2:0088)(sl sl2:0061)(r:Bool):Meets (Builtin.«tuple.__lt__» ⟨[.ref l,.ref b],[]⟩) (λA R s=>s.heap.get? l=some {cls:=.type "tuple",dict:=dd,data:=.seq items n,slots:=sl}/\s.heap.get? b=some {cls:=.type "tuple",dict:=dd2,data:=.seq items2 n2,slots:=sl2}/\sT A.in1 s items.toList items2.toList r/\R (.ok (.ret (.bool r))) s):=
 .of_wp λprog w A R s h=>by
  obtain⟨hp,g,d,tk,os⟩:=s;obtain⟨hl,hb,hw,h⟩:=h;have f2:=ac0
  wp_walk using acE hl,acE hb,acv _ (λrest b s'=>b.1=none/\s'=0083/\∃(vs ws:007),rest=vs.zip ws/\sT A.in1 0083 vs ws r/\090+items2.size=ws.length+items.size) _
  case turn=>
   rintro⟨y,x⟩ rest b s' ⟨hb',rfl,vs,ws,hz,hw',hlen⟩
   cases hw' with
   |nn=>rw[acK] at hz;cases hz
   |nc=>rw[acK] at hz;cases hz
   |cn=>rw[ad5] at hz;cases hz
   |eq he hw2=>
    sleep 008;simp only[aat] at hlen;refine aaf (he prog w _ _ ?_)
    wp_walk
    exact⟨rfl,rfl,_,_,hrest,hw2,0018⟩
   |ne he hr=>
    sleep 008;refine aaf (he prog w _ _ ?_);have hri:=λE Q=>hr prog w E Q
    wp_walk using hri
    exact⟨_,rfl,by simpa using h⟩
  case fin=>
   rintro⟨b1,b2⟩ s' ⟨hb',rfl,vs,ws,hz,hw',hlen⟩;simp only at hb';subst hb'
   have hv:r=decide (items.size<items2.size):=by
    cases hw' with
    |nn=>
     simp only[abj] at hlen;exact(aal 03).symm
    |nc=>
     simp only[abj,aat] at hlen;exact(aaj 03).symm
    |cn=>
     simp only[abj,aat] at hlen;exact(aal 03).symm
    |eq _ _=>rw[abk] at hz;cases hz
    |ne _ _=>rw[abk] at hz;cases hz
   rw[hv] at h
   wp_walk
   exact⟨_,rfl,by simpa[Builtin.Tuple.tupleCompareSizes] using h⟩
  case h=>
   exact⟨rfl,rfl,items.toList,items2.toList,rfl,hw,by simp;omega⟩
def vB{A:061}{s:0016}{l b:Addr}{items items2:095}{r:Bool}(hl:IsTup s.heap l items)(hb:IsTup s.heap b items2)(hw:sT A.in1 s items.toList items2.toList r)(hu:A.units<cLine):vE A s (.ref l) (.ref b) r:=λprog w E Q h=>by
 obtain⟨⟨cls,dd,data,sl⟩,ho,hc,n,hd⟩:=id hl;obtain⟨⟨cls2,dd2,data2,sl2⟩,ho2,hc2,n2,hd2⟩:=id hb;simp only at hc hd hc2 hd2;subst hc hd hc2 hd2
 exact adm (op:=.Lt) ⟨_,ho,rfl⟩ ⟨_,ho2,rfl⟩ PySem.F.slot_tuple_lt aeB (aen _ _) (Gy l b items items2 n n2 dd dd2 sl sl2 r)
  ⟨ho,ho2,hw,show Value.bool r≠Value.notImplemented/\Q (.bool r) s from⟨(λx=>nomatch x),h⟩⟩ hu
def B5{A:061}{s:0016}{vs ws:007}{ns ms:025}(h:IntsAre vs ns)(h':IntsAre ws ms):sT A s vs ws (HX.lexLt ns ms):=by
 induction h generalizing ws ms with
 |nil=>
  cases h' with
  |nil=>exact .nn
  |cons=>exact .nc
 |cons a t hv ih=>
  cases h' with
  |nil=>exact .cn
  |cons c u hw=>
   obtain⟨e,he,hi⟩:=HT.og A s a t c u
   cases e with
   |true=>
    have q:=hi.mp rfl;rw[HX.dS,aav q];exact .eq he (ih hw)
   |false=>
    rw[HX.dS,aan (λq=>absurd (hi.mpr q) aau)];exact .ne he (vE.int A s a t c u)
theorem nW{prog:027}{w:066}:∀{vs:007} {ns:025},IntsAre vs ns->ItemsAre 011 ns vs
 |_,_,.nil=>.nil
 |_,_,.cons n t h=>.cons (intKind_is _ _ _ _) (nW h)
def nz{A:061}{s:0016}{l b:Addr}{items items2:095}{ns ms:025}(hl:IsTup s.heap l items)(hb:IsTup s.heap b items2)(hi:IntsAre items.toList ns)(hj:IntsAre items2.toList ms)(hu:A.units<cLine):EqAt A s (.ref l) (.ref b) (decide (ns=ms)):=λprog w E Q h=>by
 obtain⟨o,ho,hc,n,hd⟩:=hl;obtain⟨o2,ho2,hc2,n2,hd2⟩:=hb;exact wpAny_eqBool_tuple (knd:=intKind prog w) hu ⟨o,items,n,ho,hc,hd,nW hi⟩ ⟨o2,items2,n2,ho2,hc2,hd2,nW hj⟩ h
def jX(h:Heap)(l:Addr)(p:0021):Prop:=∃(k:Addr) (t:Tok) (items:095),IsTup h l #[.ref k,.int p.2 t]/\IsTup h k items/\IntsAre items.toList p.1
def Oa{A:061}{s:0016}{k k2:Addr}{n m:Int}{t u:Tok}{items items2:095}{ns ms:025}(hk:IsTup s.heap k items)(hk2:IsTup s.heap k2 items2)(hi:IntsAre items.toList ns)(hj:IntsAre items2.toList ms)(hu:A.units+1<cLine):sT A s [.ref k,.int n t] [.ref k2,.int m u] (a_ (ns,n) (ms,m)):=by
 have he:=nz (A:=A) hk hk2 hi hj 03;unfold a_;by_cases q:ns=ms
 ·rw[aaj q] at he;rw[aav q];refine .eq he ?_;obtain⟨e,he2,hi2⟩:=HT.og A s n t m u
  cases e with
  |true=>
   have q2:=hi2.mp rfl;rw[aal (by show¬n<m;omega)];exact .eq he2 .nn
  |false=>exact .ne he2 (vE.int A s n t m u)
 ·rw[aal q] at he;rw[aan q];exact .ne he (vB hk hk2 (B5 hi hj) 03)
def MZ{A:061}{s:0016}{l b:Addr}{p q:0021}(hl:jX s.heap l p)(hb:jX s.heap b q)(hu:A.units+2<cLine):vE A s (.ref l) (.ref b) (a_ p q):=by
 obtain⟨k,t,its,h1,h2,h3⟩:=hl;obtain⟨k2,t2,its2,g1,g2,g3⟩:=hb;exact vB h1 g1 (Oa h2 g2 h3 g3 (by show A.units+1+1<cLine;omega)) 03
end HP
namespace L2
open PySem PySem.Spec PyProof.Rows
def lj.mk{o:Option (Option V)}{q:V->Prop}{v:V}(e:o=some (some v))(h:q v):lj o q:=by rw[e];exact h
def bo(K:05)(H:Hp)(v:V)(p:0021):Prop:=∃a k,v= .ref a/\bw K H a [.ref k,.int p.2]/\bw K H k (p.1.map V.int)
section
variable{X:Cx}{pins:003}{σ:St}{H:Hp}{s:0016}
def Inv.place{a:Addr}{p:0021}(I:002)(h:bo X.K H 046 p):HP.jX s.heap a p:=by
 obtain⟨a',k,e,h1,h2⟩:=h;cases e;obtain⟨its,r,t1,_⟩:=I.tuple h1;obtain⟨u,w,rfl,r1,r2⟩:=r.two;obtain rfl:u=Value.ref k:=r1;obtain⟨t,rfl⟩:=r2;obtain⟨its2,r3,t2,_⟩:=I.tuple h2;exact⟨k,t,its2.toArray,t1,t2,intsAre_of r3⟩
end
section
variable{X:Cx}
def Pb(K:05):R2:=λx y H Q=>∃p q,bo K H x p/\bo K H y q/\Q (.bl (HP.a_ p q)) H
def Pf(hu:062):fv X (compareOp .Lt) (Pb X.K):=by
 sleep 001;obtain⟨p,q,⟨a,k,rfl,ha,hk⟩,⟨b,k2,rfl,hb,hk2⟩,hQ⟩:=h;cases rx;cases ry;have h1:=I.place (a:=a) (p:=p) ⟨a,k,rfl,ha,hk⟩;have h2:=I.place (a:=b) (p:=q) ⟨b,k2,rfl,hb,hk2⟩;exact HP.MZ h1 h2 03 X.prog X.w X.xe _ ⟨.bl _,H,I,rfl,hQ⟩
def Mz:V->List V->Hp->VK->Prop:=λx vs H Q=>∃(l:Addr) (xs:0012) (i:Int) (k:Nat) (y:V),x= .ref l/\vs=[.int i,y]/\H l=some 0090/\i=(k:Int)/\k<=009/\009<sizeLine/\
 Q .bS (upd H l (.lst (xs.take k++y::xs.drop k)))
def Jq:Js X "list.insert" Mz:=by
 intro pins s σ H x vs v us Q I rx rv h;obtain⟨l,xs,i,k,y,rfl,rfl,hH,hik,hk,hz,q⟩:=h;cases rx;obtain⟨u1,u2,rfl,r1,r2⟩:=rv.two;obtain⟨t,rfl⟩:=r1;sleep 036
 have hfit:Builtin.List.listFitsIndex i=true:=by
  have hz2:=hz;rw[aaC] at hz2;exact fitsIndex_both 03 03
 have hfit2:¬(!Builtin.List.listFitsIndex i)=true:=by rw[hfit];exact aau
 have hsz:038<=sizeLine:=by rw[aaz];omega
 refine adS aei ⟨_,e,rfl⟩ PySem.F.entry_list_insert (PySem.F.args_list_insert_3 _ _ _) (PySem.AutoSeq1.list_insert_list_int_val_1 l its.toArray n i t u2 hfit2 hsz) ⟨e,?_⟩;refine⟨.bS,_,I.BV (its':=its.take k++u2::its.drop k) hH e ?_ ((r.take k).append (.cons r2 (r.drop k))) ?_,rfl,q⟩
 ·show(its.toArray.extract 0 (if i<0 then(i+(038:Int)).toNat else min i.toNat 038)).push u2++its.toArray.extract (if i<0 then(i+(038:Int)).toNat else min i.toNat 038)=_
  have e1:(if i<0 then(i+(038:Int)).toNat else min i.toNat 038)=k:=by
   rw[aan 03,aaz];omega
  rw[e1];apply adL.mp;simp;exact abz 017
 ·rw[aah,aat,aaH,abh];omega
def IF(C:Addr->Sp->Prop)(E:XK)(i:Nat)(t:TA):TE:=λσ H Q=>∃f sp,σ[i]? =some (some 081)/\C f sp/\t σ H λvs H1=>sp vs H1 Q E
def KO{CX:oK}{k i:Nat}{C:Addr->Sp->Prop}{E:XK}{x:Str}{p pos:Pos}{e:Expr}{es:0062}{t:TA}(hN:X.N[i]? =some x)(hv:FD X.env.scope x)(hC:∀f sp,C f sp->∃fd ps,gv X.prog X.w X.K X.mg X.base CX k f fd ps sp/\PySem.W.keepIn X.K 081=true/\Binds X.K fd ps [])(hr:dr k X.A)(hx:Passes CX X E)(ha:PA X 0067 t)(hdb:039=false:=by decide)(gD:(x==("__classdict__":Str))=false:=by decide)(he:starEach 0067 X.env=037::starEach es X.env:=by rfl)(hpl:(backTo pos 069).any (·.1)=false:=by rfl):PE X 085 (IF C E i t):=by
 sleep 002;obtain⟨f,sp,hi,hc,h⟩:=h;obtain⟨fd,ps,F,hk,hb⟩:=hC f sp hc;refine ace (bq (IK (pos:=p) hN hv hdb gD pins s σ H (λv H1=>v= .ref f/\H1=H) I (lj.mk hi ⟨rfl,rfl⟩)) λu s1 ⟨v,H1,I1,r1,e1,e2⟩=>?_);subst e1;subst e2;obtain rfl:u=Value.ref f:=r1;refine ac6 (h₀:=X.base) I.ok.mod.EV hk (bq (ha pos pins s1 σ _ _ I1 h) λus s2 ⟨vs,H2,I2,r,q⟩=>⟨I2.mN,?_⟩) he hpl;exact xg F hr hb .nil hx I2 r (by rw[aa7];exact q)
end
end L2
namespace SS
open PySem PyProof.Rows
def aY{a b:Type}(r:a->b->Prop)(xs:Array a)(ys:Array b):Prop:=xs.size=ys.size/\∀(i:Nat) (x:a) (y:b),xs[i]? =some x->ys[i]? =some y->r x y
section
variable{a b:Type}{r:a->b->Prop}{xs zs:Array a}{ys ws:Array b}
def aY.get(h:aY r xs ys){i:Nat}{x:a}(e:xs[i]? =some x):∃y,ys[i]? =some y/\r x y:=by
 have hi:i<xs.size:=(abw.mp e).1;have hj:i<ys.size:=by rw[<-h.1];exact hi
 exact⟨ys[i],aaR hj,h.2 i x _ e (aaR hj)⟩
def aY.FA(h:aY r xs ys){i:Nat}(e:xs[i]? =none):ys[i]? =none:=by
 rw[Array.getElem?_eq_none_iff] at e⊢;rw[<-h.1];exact e
def aY.push(h:aY r xs ys){x:a}{y:b}(hr:r x y):aY r (xs.push x) (ys.push y):=by
 refine⟨by rw[Array.size_push,Array.size_push,h.1],λi u v e f=>?_⟩;rw[Array.getElem?_push] at e f;rw[h.1] at e;by_cases hi:i=ys.size
 ·rw[aav hi] at e f;cases e;cases f;exact hr
 ·rw[aan hi] at e f;exact h.2 i u v e f
def aY.append(h:aY r xs ys)(h':aY r zs ws):aY r (xs++zs) (ys++ws):=by
 refine⟨by rw[Array.size_append,Array.size_append,h.1,h'.1],λi u v e f=>?_⟩;rw[Array.getElem?_append] at e f;rw[h.1] at e;by_cases hi:i<ys.size
 ·rw[aav hi] at e f;exact h.2 i u v e f
 ·rw[aan hi] at e f;exact h'.2 _ u v e f
def aY.extract(h:aY r xs ys)(i j:Nat):aY r (xs.extract i j) (ys.extract i j):=by
 refine⟨by rw[Array.size_extract,Array.size_extract,h.1],λk u v e f=>?_⟩;rw[Array.getElem?_extract] at e f;rw[h.1] at e;by_cases hk:k<min j ys.size-i
 ·rw[aav hk] at e f;exact h.2 _ u v e f
 ·rw[aan hk] at e;cases e
def aY.reverse(h:aY r xs ys):aY r xs.reverse ys.reverse:=by
 refine⟨by rw[ad7,ad7,h.1],λk u v e f=>?_⟩;have hk:k<xs.size:=by have:=(abw.mp e).1;rwa[ad7] at this
 rw[aeG hk] at e;rw[aeG (by rw[<-h.1];exact hk),<-h.1] at f;exact h.2 _ u v e f
def aY.swap(h:aY r xs ys)(i j:Nat):aY r (xs.swapIfInBounds i j) (ys.swapIfInBounds i j):=by
 by_cases hi:i<xs.size
 ·by_cases hj:j<xs.size
  ·refine⟨by rw[aef,aef,h.1],λk u v e f=>?_⟩;rw[getElem?_swapIB hi hj] at e;rw[getElem?_swapIB (by rw[<-h.1];exact hi) (by rw[<-h.1];exact hj)] at f
   split at e
   ·rw[aav (by assumption)] at f;exact h.2 _ u v e f
   ·rw[aan (by assumption)] at f
    split at e
    ·rw[aav (by assumption)] at f;exact h.2 _ u v e f
    ·rw[aan (by assumption)] at f;exact h.2 _ u v e f
  ·rw[acr,acr,dif_pos hi,dif_neg hj,dif_pos (by rw[<-h.1];exact hi),dif_neg (by rw[<-h.1];exact hj)];exact h
 ·rw[acr,acr,dif_neg hi,dif_neg (by rw[<-h.1];exact hi)];exact h
theorem aY.G7{c:Type}(p q:c->Nat):∀(l:List c) {xs:Array a} {ys:Array b},aY r xs ys->aY r (l.foldl (λz k=>z.swapIfInBounds (p k) (q k)) xs) (l.foldl (λz k=>z.swapIfInBounds (p k) (q k)) ys)
 |[],_,_,h=>h
 |k::l,_,_,h=>aY.G7 p q l (h.swap (p k) (q k))
def aY.mirror(h:aY r xs ys)(i j d:Nat):aY r (PyProof.Rows.mirror xs i j d) (PyProof.Rows.mirror ys i j d):=aY.G7 _ _ _ h
def aY.bubble(h:aY r xs ys)(i d:Nat):aY r (PyProof.Rows.bubble xs i d) (PyProof.Rows.bubble ys i d):=aY.G7 _ _ _ h
def aY.one{x:a}{y:b}(h:r x y):aY r #[x] #[y]:=by
 refine⟨rfl,λi u v e f=>?_⟩
 cases i with
 |zero=>cases e;cases f;exact h
 |succ i=>simp at e
def aY.set(h:aY r xs ys){x:a}{y:b}(hr:r x y)(i:Nat):aY r (xs.setIfInBounds i x) (ys.setIfInBounds i y):=by
 refine⟨by rw[ac1,ac1,h.1],λk u v e f=>?_⟩;rw[adR] at e f;rw[h.1] at e
 split at e
 ·rw[aav (by assumption)] at f
  split at e
  ·rw[aav (by assumption)] at f;cases e;cases f;exact hr
  ·cases e
 ·rw[aan (by assumption)] at f;exact h.2 _ u v e f
def Rj(h:aY r xs ys):∀(i:Nat),∀(l:List a) (l':List b),xs.toList.drop i=l->ys.toList.drop i=l'->l.length=l'.length/\∀(k:Nat) (x:a) (y:b),l[k]? =some x->l'[k]? =some y->r x y:=by
 intro i l l' e e';subst e;subst e';refine⟨by simp[h.1],λk x y e f=>?_⟩;rw[adf,aaQ] at e f;exact h.2 _ x y e f
theorem aY.fold(f:Nat->Nat):∀(l:List a) (l':List b) (n:Nat) {xs:Array a} {ys:Array b},l.length=l'.length->(∀(k:Nat) (x:a) (y:b),l[k]? =some x->l'[k]? =some y->r x y)->aY r xs ys->aY r ((l.zipIdx n).foldl (λz p=>z.setIfInBounds (f p.2) p.1) xs) ((l'.zipIdx n).foldl (λz p=>z.setIfInBounds (f p.2) p.1) ys)
 |[],[],_,_,_,_,_,h=>h
 |[],_::_,_,_,_,e,_,_=>by simp at e
 |_::_,[],_,_,_,e,_,_=>by simp at e
 |x::l,y::l',n,xs,ys,e,hr,h=>by
  rw[aeu,aeu,adi,adi];exact aY.fold f l l' (n+1) (by simpa using e) (λk u v e1 e2=>hr (k+1) u v (by simpa using e1) (by simpa using e2)) (h.set (hr 0 x y rfl rfl) _)
end
structure Sk(rk:Keyed->Keyed->Prop)(kR kS:SortKind)(st st':SortSt):Prop where
 kind:kindOf st=kR
 As:kindOf st'=kS
 arr:aY rk (arrOf st) (arrOf st')
 pend:pendingOf st=pendingOf st'
 LN:gallopOf st=gallopOf st'
 fail:failedOf st=none
 Ay:failedOf st'=none
variable{M:Model}{G:Ctx}{A:061}{E:09}{s s':0016}{rk:Keyed->Keyed->Prop}{kR kS:SortKind}
def Ev(M:Model)(A:061)(E:09)(s:0016){α:Type}(m:0045)(st:SortSt)(x:α)(st1:SortSt):Prop:=∀Q:α->SortSt->Prop,Q x st1->wpS M A E s m Q st
structure Cf where
 M:Model
 G:Ctx
 A:Around
 E:Value->Shared->Prop
 s:Shared
 s2:Shared
 rk:Keyed->Keyed->Prop
 kR:SortKind
 kS:SortKind
abbrev Cf.st(C:Cf):=Sk C.rk C.kR C.kS
def eA(C:Cf){α β:Type}(r:0059)(m:0045)(m':StateT SortSt Sem β):Prop:=
 ∀(st st':SortSt),C.st st st'->∀(p:Pos) (X:β×SortSt->Pos->Shared->Prop),Sem.wp C.M C.G (m'.run st') X (λ_ _ _=>False) p C.s2->
  ∃x st1 y st1' p1,r x y/\C.st st1 st1'/\X (y,st1') p1 C.s2/\Ev C.M C.A C.E C.s m st x st1
section
variable{C:Cf}{α β γ δ:Type}{r:0059}{q:γ->δ->Prop}
def aH{x:α}{y:β}(h:r x y):eA C r (pure x) (pure y):=by
 intro st st' hst p X hw;rw[aeI,ab2] at hw;exact⟨x,st,y,st',p,h,hst,hw,λQ hq=>wpS_pure hq⟩
def aK{m:0045}{m':StateT SortSt Sem β}{k:α->StateT SortSt Sem γ}{k':β->StateT SortSt Sem δ}(h:eA C r m m')(hk:∀x y,r x y->eA C q (k x) (k' y)):eA C q (m>>=k) (m'>>=k'):=by
 intro st st' hst p X hw;rw[aeJ,ab3] at hw;obtain⟨x,st1,y,st1',p1,hr,hs1,hX,hE⟩:=h st st' hst p _ hw;obtain⟨z,st2,u,st2',p2,hq,hs2,hX2,hE2⟩:=hk x y hr st1 st1' hs1 p1 X hX;exact⟨z,st2,u,st2',p2,hq,hs2,hX2,λQ hQ=>wpS_bind (hE _ (hE2 Q hQ))⟩
def BX{m:0045}{m':StateT SortSt Sem β}{r':0059}(h:eA C r m m')(hr:∀x y,r x y->r' x y):eA C r' m m':=by
 intro st st' hst p X hw;obtain⟨x,st1,y,st1',p1,h1,h2,h3,h4⟩:=h st st' hst p X hw;exact⟨x,st1,y,st1',p1,hr _ _ h1,h2,h3,h4⟩
def ju:eA C C.st get get:=by
 intro st st' hst p X hw;rw[StateT.run_get,ab2] at hw;exact⟨st,st,st',st',p,hst,hst,hw,λQ hq=>wpS_get hq⟩
def iP{f g:SortSt->SortSt}(h:∀st st',C.st st st'->C.st (f st) (g st')):eA C (λ_ _=>True) (modify f:StateT SortSt Sem PUnit) (modify g:StateT SortSt Sem PUnit):=by
 intro st st' hst p X hw;rw[StateT.run_modify,ab2] at hw;exact⟨⟨⟩,f st,⟨⟩,g st',p,trivial,h _ _ hst,hw,λQ hq=>wpS_modify hq⟩
def Mt{u v:SortSt}(h:C.st u v):eA C (λ_ _=>True) (set u:StateT SortSt Sem PUnit) (set v:StateT SortSt Sem PUnit):=by
 intro st st' hst p X hw;rw[StateT.run_set,ab2] at hw;exact⟨⟨⟩,u,⟨⟩,v,p,trivial,h,hw,λQ hq=>wpS_set hq⟩
def eU{c:Prop}[Decidable c]{m n:0045}{m' n':StateT SortSt Sem β}(h1:c->eA C r m m')(h2:¬c->eA C r n n'):eA C r (if c then m else n) (if c then m' else n'):=by
 by_cases h:c
 ·rw[aav h,aav h];exact h1 h
 ·rw[aan h,aan h];exact h2 h
def jY{t:String}:eA C (λ_ _=>True) (liftM (rule t):StateT SortSt Sem Unit) (liftM (rule t):StateT SortSt Sem Unit):=by
 intro st st' hst p X hw;have e:(liftM (rule t):StateT SortSt Sem Unit).run st'=(rule t>>=λu=>pure (u,st')):=rfl;rw[e,ab3] at hw;have hw2:Sem.wp C.M C.G (pure ((),st'):Sem (Unit×SortSt)) X (λ_ _ _=>False) p C.s2:=hw;rw[ab2] at hw2;exact⟨(),st,(),st',p,trivial,hst,hw2,λQ hq=>wpS_lift (wpAny_rule ⟨rfl,hq⟩)⟩
def oQ{m:0045}{t:String}:eA C r m (liftM (unsupported t:Sem β):StateT SortSt Sem β):=by
 intro st st' hst p X hw;have e:(liftM (unsupported t:Sem β):StateT SortSt Sem β).run st'=((unsupported t:Sem β)>>=λu=>pure (u,st')):=rfl;rw[e,ab3] at hw;exact(show False from hw).elim
def k_(r:0059):ForInStep α->ForInStep β->Prop
 |.done x,.done y=>r x y
 |.yield x,.yield y=>r x y
 |_,_=>False
theorem C4{f:Nat->α->StateT SortSt Sem (ForInStep α)}{g:Nat->β->StateT SortSt Sem (ForInStep β)}(h:∀(i:Nat) (x:α) (y:β),r x y->eA C (k_ r) (f i x) (g i y)):∀(l:015) (x:α) (y:β),r x y->eA C r (forIn l x f) (forIn l y g)
 |[],x,y,hr=>by
  rw[aed,aed];exact aH hr
 |i::l,x,y,hr=>by
  rw[adZ,adZ];refine aK (h i x y hr) λu v huv=>?_
  cases u with
  |done x1=>
   cases v with
   |done y1=>exact aH huv
   |yield y1=>exact huv.elim
  |yield x1=>
   cases v with
   |done y1=>exact huv.elim
   |yield y1=>exact C4 h l x1 y1 huv
def gT{n m:Nat}{f:Nat->α->StateT SortSt Sem (ForInStep α)}{g:Nat->β->StateT SortSt Sem (ForInStep β)}{x:α}{y:β}(hr:r x y)(h:∀(i:Nat) (x:α) (y:β),r x y->eA C (k_ r) (f i x) (g i y)):eA C r (forIn [n:m] x f) (forIn [n:m] y g):=by
 rw[acJ,acJ];exact C4 h _ x y hr
end
end SS
namespace SS
open PySem PyProof.Rows
structure Cf.Ok(C:Cf):Prop where
 lt:∀x x' y y',C.rk x x'->C.rk y y'->∃b:Bool,(∀(E':09) (Q:Bool->Shared->Prop),Q b C.s->wpAny C.M C.A (keyLt' C.kR x.1 y.1) Q E' C.s)/\
  (∀(p:Pos) (X:Bool->Pos->Shared->Prop) (Y:Value->Pos->Shared->Prop),Sem.wp C.M C.G (keyLt' C.kS x'.1 y'.1) X Y p C.s2->∃p1,X b p1 C.s2)
section
variable{C:Cf}(O:C.Ok)
def wF{x x' y y':Keyed}(hx:C.rk x x')(hy:C.rk y y'):eA C Eq (lt' x y) (lt' x' y'):=by
 intro st st' hst p X hw;obtain⟨b,h1,h2⟩:=O.lt x x' y y' hx hy;rw[lt'_eq,aeJ,StateT.run_get,ab3,ab2,aeJ] at hw;have e:(liftM (keyLt' (kindOf st') x'.1 y'.1).attempt:StateT SortSt Sem (Except Value Bool)).run st'=((keyLt' (kindOf st') x'.1 y'.1).attempt>>=λu=>pure (u,st')):=rfl;rw[ab3,e,ab3,Sem.wp_attempt,hst.As] at hw;obtain⟨p1,h3⟩:=h2 _ _ _ hw;rw[ab2] at h3;dsimp only at h3;rw[aeI,ab2] at h3;refine⟨some b,st,some b,st',p1,rfl,hst,h3,λQ hQ=>?_⟩;rw[lt'_eq];refine wpS_bind (wpS_get ?_);rw[hst.kind];refine wpS_bind (wpS_lift (wpAny_attempt (h1 _ _ 0091)));exact wpS_pure hQ
def ja{a a':0048}(h:aY C.rk a a')(i:Nat):eA C C.rk (elem' a i) (elem' a' i):=by
 rw[elem'_eq,elem'_eq]
 cases e:a[i]? with
 |some x=>
  obtain⟨y,e2,hr⟩:=h.get e;rw[e2];exact aH hr
 |none=>
  rw[h.FA e];exact oQ
def AM(i j:Nat):eA C Eq (ltAt' i j) (ltAt' i j):=by
 rw[ltAt'_eq];refine aK ju λst st' hst=>?_;refine aK (ja hst.arr i) λx x' hx=>?_;exact aK (ja hst.arr j) λy y' hy=>wF O hx hy
def sD{st st':SortSt}{a a':0048}(h:C.st st st')(ha:aY C.rk a a'):C.st (setArr st a) (setArr st' a'):=⟨h.kind,h.As,ha,h.pend,h.LN,h.fail,h.Ay⟩
def jT{st st':SortSt}{p p':Array (Nat×Nat×Nat)}(h:C.st st st')(hp:p=p'):C.st (setPending st p) (setPending st' p'):=⟨h.kind,h.As,h.arr,hp,h.LN,h.fail,h.Ay⟩
def B1{st st':SortSt}(h:C.st st st')(g:Nat):C.st (setGallop st g) (setGallop st' g):=⟨h.kind,h.As,h.arr,h.pend,rfl,h.fail,h.Ay⟩
def uR(i j:Nat):eA C (λ_ _=>True) (reverseSlice' i j) (reverseSlice' i j):=by
 rw[reverseSlice'_eq];exact iP λst st' h=>sD h (h.arr.mirror _ _ _)
def Dt(i j:Nat):eA C (λ_ _=>True) (moveDown' i j) (moveDown' i j):=by
 rw[moveDown'_eq];exact iP λst st' h=>sD h (h.arr.bubble _ _)
def xx(g:Nat):eA C (λ_ _=>True) (setMinGallop' g) (setMinGallop' g):=by
 rw[setMinGallop'_eq];exact iP λst st' h=>B1 h g
def bF{α:Type}(x:ForInStep α):k_ Eq x x:=by cases x<;>rfl
def Self(C:Cf){α:Type}(m:0045):Prop:=eA C Eq m m
def y8{α:Type}{x:α}:Self C (pure x):=aH rfl
def zF{α β:Type}{m:0045}{k:α->StateT SortSt Sem β}(h:Self C m)(hk:∀x,Self C (k x)):Self C (m>>=k):=aK h λx y e=>by subst e;exact hk x
def ku{m:StateT SortSt Sem Unit}(h:eA C (λ_ _=>True) m m):Self C m:=BX h λ_ _ _=>rfl
def xb{α:Type}{n m:Nat}{f:Nat->α->StateT SortSt Sem (ForInStep α)}{x:α}(h:∀i x,Self C (f i x)):Self C (forIn [n:m] x f):=
 gT rfl λi x y e=>by subst e;exact BX (h i x) λu v e=>by subst e;exact bF u
def BK{α:Type}{c:Prop}[Decidable c]{m n:0045}(h1:Self C m)(h2:Self C n):Self C (if c then m else n):=by
 by_cases h:c
 ·rw[aav h];exact h1
 ·rw[aan h];exact h2
def Ny(lo n ok:Nat):Self C (binarySort' lo n ok):=by
 rw[binarySort'_eq]
 repeat' (first|exact y8|exact AM O _ _|exact ku (Dt _ _)|exact ku (uR _ _)|exact ku jY|refine zF ?_ λ_=>?_ |refine xb λ_ _=>?_ |refine BK ?_ ?_ |split|dsimp only)
def Ih(lo nrem:Nat):Self C (countRun' lo nrem):=by
 rw[countRun'_eq]
 repeat' (first|exact y8|exact AM O _ _|exact ku (Dt _ _)|exact ku (uR _ _)|exact ku jY|refine zF ?_ λ_=>?_ |refine xb λ_ _=>?_ |refine BK ?_ ?_ |split|dsimp only)
def GY{key key':Keyed}{a a':0048}(hk:C.rk key key')(ha:aY C.rk a a')(left:Bool)(base i:Nat):eA C Eq (beyond' left key a base i) (beyond' left key' a' base i):=by
 unfold beyond';refine aK (ja ha _) λx x' hx=>?_;refine eU (λ_=>wF O hx hk) λ_=>?_;exact aK (wF O hk hx) λu v e=>by subst e;exact aH rfl
def qr{key key':Keyed}{a a':0048}(hk:C.rk key key')(ha:aY C.rk a a')(left:Bool)(base n hint:Nat):eA C Eq (gallop' left key a base n hint) (gallop' left key' a' base n hint):=by
 rw[gallop'_eq,gallop'_eq];have hb:=λi=>GY O hk ha left base i;refine aK (hb _) λu v e=>?_;subst e
 cases u with
 |none=>exact aH rfl
 |some right=>
  dsimp only
  have tail:∀lo hi:Nat,eA C Eq (searchG left key a base n lo hi) (searchG left key' a' base n lo hi):=by
   intro lo hi;unfold searchG;refine aK (r:=Eq) (gT rfl λi x y e=>?_) λx y e=>?_
   ·subst e;dsimp only;refine eU 0069 λ_=>?_;refine aK (hb _) λu v e=>?_;subst e
    cases u with
    |none=>exact aH (bF _)
    |some more=>exact eU 0069 λ_=>aH (bF _)
   ·subst e;obtain⟨u,l,h⟩:=x
    cases u with
    |none=>exact aH rfl
    |some b=>exact aH rfl
  refine eU (λ_=>?_) λ_=>?_
  ·refine aK (r:=Eq) (gT rfl λi x y e=>?_) λx y e=>?_
   ·subst e
    try dsimp only
    refine eU 0069 λ_=>?_;refine aK (hb _) λu v e=>?_;subst e
    cases u with
    |none=>exact aH (bF _)
    |some more=>exact eU 0069 λ_=>aH (bF _)
   ·subst e;obtain⟨u,l,h⟩:=x
    cases u with
    |none=>exact tail _ _
    |some b=>exact aH rfl
  ·refine aK (r:=Eq) (gT rfl λi x y e=>?_) λx y e=>?_
   ·subst e
    try dsimp only
    refine eU 0069 λ_=>?_;refine aK (hb _) λu v e=>?_;subst e
    cases u with
    |none=>exact aH (bF _)
    |some more=>exact eU 0069 λ_=>aH (bF _)
   ·subst e;obtain⟨u,l,h⟩:=x
    cases u with
    |none=>exact tail _ _
    |some b=>exact aH rfl
end
def PU{a b:Type}(r:a->b->Prop):Option a->Option b->Prop
 |some x,some y=>r x y
 |none,none=>True
 |_,_=>False
def RM(C:Cf){t:Type}(x y:Option 0100×Array Keyed×t):Prop:=PU (aY C.rk) x.1 y.1/\aY C.rk x.2.1 y.2.1/\x.2.2=y.2.2
section
variable{C:Cf}{t:Type}
def QJ{o o':0048}{n:t}(h:aY C.rk o o'):k_ (RM C) (ForInStep.done (none,o,n)) (ForInStep.done (none,o',n)):=⟨trivial,h,rfl⟩
def L7{o o':0048}{n:t}(h:aY C.rk o o'):k_ (RM C) (ForInStep.yield (none,o,n)) (ForInStep.yield (none,o',n)):=⟨trivial,h,rfl⟩
def Hv{o o' u u':0048}{n:t}(h2:aY C.rk u u')(h:aY C.rk o o'):k_ (RM C) (ForInStep.done (some u,o,n)) (ForInStep.done (some u',o',n)):=⟨h2,h,rfl⟩
end
def RH(C:Cf){t:Type}(x y:Option 0100×Nat×Nat×Array Keyed×t):Prop:=PU (aY C.rk) x.1 y.1/\aY C.rk x.2.2.2.1 y.2.2.2.1/\(x.2.1,x.2.2.1,x.2.2.2.2)=(y.2.1,y.2.2.1,y.2.2.2.2)
section
variable{C:Cf}{t:Type}
def QX{o o':0048}{i j:Nat}{n:t}(h:aY C.rk o o'):k_ (RH C) (ForInStep.done (none,i,j,o,n)) (ForInStep.done (none,i,j,o',n)):=⟨trivial,h,rfl⟩
def Md{o o':0048}{i j:Nat}{n:t}(h:aY C.rk o o'):k_ (RH C) (ForInStep.yield (none,i,j,o,n)) (ForInStep.yield (none,i,j,o',n)):=⟨trivial,h,rfl⟩
def Hx{o o' u u':0048}{i j:Nat}{n:t}(h2:aY C.rk u u')(h:aY C.rk o o'):k_ (RH C) (ForInStep.done (some u,i,j,o,n)) (ForInStep.done (some u',i,j,o',n)):=⟨h2,h,rfl⟩
end
section
variable{C:Cf}{t γ δ:Type}{R:γ->δ->Prop}{n m:Nat}{x0 x0':0048}{q0:t}
def yc{f:Nat->Option 0100×Array Keyed×t->StateT SortSt Sem (ForInStep (Option 0100×Array Keyed×t))}{g:Nat->Option 0100×Array Keyed×t->StateT SortSt Sem (ForInStep (Option 0100×Array Keyed×t))}{k:Option 0100×Array Keyed×t->StateT SortSt Sem γ}{k':Option 0100×Array Keyed×t->StateT SortSt Sem δ}(h0:aY C.rk x0 x0')(hs:∀(i:Nat) (o o':Option (Array Keyed)) (out out':0048) (q:t),aY C.rk out out'->eA C (k_ (RM C)) (f i (o,out,q)) (g i (o',out',q)))(hd:∀(r r' out out':0048) (q:t),aY C.rk r r'->aY C.rk out out'->eA C R (k (some r,out,q)) (k' (some r',out',q)))(hn:∀(out out':0048) (q:t),aY C.rk out out'->eA C R (k (none,out,q)) (k' (none,out',q))):eA C R (forIn [n:m] (none,x0,q0) f>>=k) (forIn [n:m] (none,x0',q0) g>>=k'):=by
 refine aK (r:=RM C) (gT ⟨trivial,h0,rfl⟩ λi u v h=>?_) λu v h=>?_
 ·obtain⟨o,out,q⟩:=u;obtain⟨o',out',q'⟩:=v;obtain⟨-,h2,h3⟩:=h;cases h3;exact hs i o o' out out' _ h2
 ·obtain⟨o,out,q⟩:=u;obtain⟨o',out',q'⟩:=v;obtain⟨h1,h2,h3⟩:=h;cases h3
  match o,o',h1 with
  |some r,some r',h1=>exact hd r r' out out' _ h1 h2
  |none,none,_=>exact hn out out' _ h2
def vm{i0 j0:Nat}{f:Nat->Option 0100×Nat×Nat×Array Keyed×t->StateT SortSt Sem (ForInStep (Option 0100×Nat×Nat×Array Keyed×t))}{g:Nat->Option 0100×Nat×Nat×Array Keyed×t->StateT SortSt Sem (ForInStep (Option 0100×Nat×Nat×Array Keyed×t))}{k:Option 0100×Nat×Nat×Array Keyed×t->StateT SortSt Sem γ}{k':Option 0100×Nat×Nat×Array Keyed×t->StateT SortSt Sem δ}(h0:aY C.rk x0 x0')(hs:∀(i:Nat) (o o':Option (Array Keyed)) (na nb:Nat) (out out':0048) (q:t),aY C.rk out out'->eA C (k_ (RH C)) (f i (o,na,nb,out,q)) (g i (o',na,nb,out',q)))(hd:∀(r r' out out':0048) (na nb:Nat) (q:t),aY C.rk r r'->aY C.rk out out'->eA C R (k (some r,na,nb,out,q)) (k' (some r',na,nb,out',q)))(hn:∀(out out':0048) (na nb:Nat) (q:t),aY C.rk out out'->eA C R (k (none,na,nb,out,q)) (k' (none,na,nb,out',q))):eA C R (forIn [n:m] (none,i0,j0,x0,q0) f>>=k) (forIn [n:m] (none,i0,j0,x0',q0) g>>=k'):=by
 refine aK (r:=RH C) (gT ⟨trivial,h0,rfl⟩ λi u v h=>?_) λu v h=>?_
 ·obtain⟨o,na,nb,out,q⟩:=u;obtain⟨o',na',nb',out',q'⟩:=v;obtain⟨-,h2,h3⟩:=h;cases h3;exact hs i o o' _ _ out out' _ h2
 ·obtain⟨o,na,nb,out,q⟩:=u;obtain⟨o',na',nb',out',q'⟩:=v;obtain⟨h1,h2,h3⟩:=h;cases h3
  match o,o',h1 with
  |some r,some r',h1=>exact hd r r' out out' _ _ _ h1 h2
  |none,none,_=>exact hn out out' _ _ _ h2
end
def yL{C:Cf}{ε γ δ:Type}{R:γ->δ->Prop}{m m':StateT SortSt Sem (Option ε)}{k:Option ε->StateT SortSt Sem γ}{k':Option ε->StateT SortSt Sem δ}(h:eA C Eq m m')(hn:eA C R (k none) (k' none))(hs:∀x,eA C R (k (some x)) (k' (some x))):eA C R (m>>=k) (m'>>=k'):=aK h λu v e=>by
 subst e
 cases u with
 |none=>exact hn
 |some x=>exact hs x
def n_{C:Cf}{γ δ:Type}{R:γ->δ->Prop}{c:Prop}[Decidable c]{a b:StateT SortSt Sem γ}{a' b':StateT SortSt Sem δ}(h1:eA C R a a')(h2:eA C R b b'):eA C R (if c then a else b) (if c then a' else b'):=by
 split
 ·exact h1
 ·exact h2
local macro_rules| `(tactic|walk_at "sim arr")=> `(tactic|(repeat' (first|assumption|with_reducible apply aY.push|with_reducible apply aY.append|with_reducible apply aY.extract|with_reducible apply aY.reverse|with_reducible apply aY.one)))
local macro_rules| `(tactic|walk_at "sim one")=> `(tactic|first
 |(with_reducible refine n_ ?_ ?_)
 |(with_reducible refine aH (QJ ?_);walk_at "sim arr";done)
 |(with_reducible refine aH (L7 ?_);walk_at "sim arr";done)
 |(with_reducible refine aH (Hv ?_ ?_)<;>walk_at "sim arr";done)
 |(with_reducible refine aH (QX ?_);walk_at "sim arr";done)
 |(with_reducible refine aH (Md ?_);walk_at "sim arr";done)
 |(with_reducible refine aH (Hx ?_ ?_)<;>walk_at "sim arr";done)
 |(with_reducible refine aK (ja (by assumption) _) (λ_ _ _=>?_))
 |(with_reducible refine yL (wF (by assumption) (by assumption) (by assumption)) ?_ (λ_=>?_))
 |(with_reducible refine yL (qr (by assumption) (by assumption) (by assumption) _ _ _ _) ?_ (λ_=>?_))
 |(with_reducible refine aK (xx _) (λ_ _ _=>?_)))
section
variable{C:Cf}(O:C.Ok)
def D1{a a' b b':0048}(ha:aY C.rk a a')(hb:aY C.rk b b'):eA C (aY C.rk) (mergeLo' a b) (mergeLo' a' b'):=by
 rw[mergeLo'_eq,mergeLo'_eq,ha.1,hb.1];refine aK jY λ_ _ _=>?_;refine aK (ja hb _) λx x' hx=>?_;refine n_ (aH (((aY.one hx).append (ha.extract _ _)).append (hb.extract _ _))) ?_;refine n_ (aH (((aY.one hx).append (hb.extract _ _)).append (ha.extract _ _))) ?_;refine aK ju λst st' hst=>?_;rw[hst.LN];refine yc (aY.one hx) (λ_ _ _ _ _ _ h2=>?_) (λ_ _ _ _ _ h1 _=>aH h1) (λ_ _ _ _=>oQ);refine yc h2 (λ_ _ _ _ _ _ h2=>?_) (λ_ _ _ _ _ h1 h2=>aH (Hv h1 h2)) (λ_ _ _ h2=>?_)
 ·repeat' (walk_at "sim one")
 ·refine aK jY λ_ _ _=>?_;refine yc h2 (λ_ _ _ _ _ _ h2=>?_) (λ_ _ _ _ _ h1 h2=>aH (Hv h1 h2)) (λ_ _ _ h2=>aK (xx _) λ_ _ _=>aH (L7 h2))
  repeat' (walk_at "sim one")
def Es{a a' b b':0048}(ha:aY C.rk a a')(hb:aY C.rk b b'):eA C (aY C.rk) (mergeHi' a b) (mergeHi' a' b'):=by
 rw[mergeHi'_eq,mergeHi'_eq,ha.1,hb.1];refine aK jY λ_ _ _=>?_;refine aK (ja ha _) λx x' hx=>?_;refine n_ (aH (((ha.extract _ _).append (hb.extract _ _)).append (aY.one hx).reverse)) ?_;refine n_ (aH (((hb.extract _ _).append (ha.extract _ _)).append (aY.one hx).reverse)) ?_;refine aK ju λst st' hst=>?_;rw[hst.LN];refine vm (aY.one hx) (λ_ _ _ _ _ _ _ _ h2=>?_) (λ_ _ _ _ _ _ _ h1 _=>aH h1) (λ_ _ _ _ _ _=>oQ);refine vm h2 (λ_ _ _ _ _ _ _ _ h2=>?_) (λ_ _ _ _ _ _ _ h1 h2=>aH (Hx h1 h2)) (λ_ _ _ _ _ h2=>?_)
 ·repeat' (walk_at "sim one")
 ·refine aK jY λ_ _ _=>?_;refine vm h2 (λ_ _ _ _ _ _ _ _ h2=>?_) (λ_ _ _ _ _ _ _ h1 h2=>aH (Hx h1 h2)) (λ_ _ _ _ _ h2=>aK (xx _) λ_ _ _=>aH (Md h2))
  repeat' (walk_at "sim one")
def u6(i:Nat):Self C (mergeAt' i):=by
 rw[mergeAt'_eq];refine aK ju λst st' hst=>?_;rw[hst.pend];have hu:∀t:String,eA C Eq (liftM (unsupported t:Sem Bool):StateT SortSt Sem Bool) (liftM (unsupported t:Sem Bool):StateT SortSt Sem Bool):=λt=>oQ
 cases e1:(pendingOf st')[i]? with
 |none=>exact hu _
 |some x1=>
  obtain⟨sa,na,pw⟩:=x1
  cases e2:(pendingOf st')[i+1]? with
  |none=>exact hu _
  |some x2=>
   obtain⟨sb,nb,pw2⟩:=x2;dsimp only;refine aK (Mt (jT hst rfl)) λ_ _ _=>?_;refine aK (ja hst.arr _) λx x' hx=>?_;refine aK (qr O hx hst.arr _ _ _ _) λu v e=>?_;subst e
   cases u with
   |none=>exact aH rfl
   |some k=>
    dsimp only;refine eU (λ_=>aH rfl) λ_=>?_;refine aK (ja hst.arr _) λx x' hx=>?_;refine aK (qr O hx hst.arr _ _ _ _) λu v e=>?_;subst e
    cases u with
    |none=>exact aH rfl
    |some k2=>
     dsimp only;refine eU (λ_=>aH rfl) λ_=>?_
     have fin:∀m m':Array Keyed,aY C.rk m m'->eA C Eq (do
       modify λs=>setArr s (m.toList.zipIdx.foldl (λa (p,j)=>a.setIfInBounds (sa+k+j) p) (arrOf s))
       return (failedOf (<-get)).isNone) (do
       modify λs=>setArr s (m'.toList.zipIdx.foldl (λa (p,j)=>a.setIfInBounds (sa+k+j) p) (arrOf s))
       return (failedOf (<-get)).isNone):=by
      intro m m' hm;refine aK (iP λst st' h=>sD h ?_) λ_ _ _=>?_
      ·obtain⟨h1,h2⟩:=Rj hm 0 _ _ rfl rfl;exact aY.fold (λj=>sa+k+j) m.toList m'.toList 0 h1 h2 h.arr
      ·refine aK ju λst st' h=>?_;rw[h.fail,h.Ay];exact aH rfl
     refine eU (λ_=>?_) λ_=>?_
     ·exact aK (D1 O (hst.arr.extract _ _) (hst.arr.extract _ _)) λm m' hm=>fin m m' hm
     ·exact aK (Es O (hst.arr.extract _ _) (hst.arr.extract _ _)) λm m' hm=>fin m m' hm
end
local macro_rules| `(tactic|walk_at "sim rest")=> `(tactic|(
 refine aK ju λst st' h=>?_
 rw[h.pend]
 cases e:(pendingOf st').back? with
 |none=>exact aK (iP λst st' h=>jT h (by rw[h.pend])) λ_ _ _=>aH (bF _)
 |some x=>
  obtain⟨s1,n1,z⟩:=x
  dsimp only
  refine aK (r:=Eq) (gT rfl λi u v e=>?_) λu v e=>?_
  ·subst e
   refine aK ju λst st' h=>?_
   rw[h.pend]
   cases e:(if(pendingOf st').size>1 then(pendingOf st')[(pendingOf st').size-2]? else none) with
   |none=>exact aH (bF _)
   |some x=>
    obtain⟨x1,x2,older⟩:=x
    dsimp only
    refine eU (λ_=>aH (bF _)) λ_=>?_
    refine aK (u6 (by assumption) _) λu v e=>?_
    subst e
    exact eU (λ_=>aH (bF _)) λ_=>aH (bF _)
  ·subst e
   obtain⟨o,z⟩:=u
   cases o with
   |some r=>exact aH (bF _)
   |none=>
    dsimp only
    exact aK (iP λst st' h=>jT h (by rw[h.pend])) λ_ _ _=>aK (iP λst st' h=>jT h (by rw[h.pend])) λ_ _ _=>aH (bF _)))
section
variable{C:Cf}(O:C.Ok)
def KH:Self C sortRuns':=by
 rw[sortRuns'_eq];refine aK ju λst st' h=>?_;dsimp only;rw[h.arr.1];generalize (arrOf st').size=size;generalize minRun' size size 0=mr;refine aK (r:=Eq) (gT rfl λi u v e=>?_) λu v e=>?_
 ·subst e;obtain⟨o,lo⟩:=u;dsimp only;refine eU 0069 λ_=>?_;refine aK (Ih O _ _) λu v e=>?_;subst e
  cases u with
  |none=>exact aH (bF _)
  |some found=>
   dsimp only;refine eU (λ_=>?_) λ_=>?_
   ·refine aK jY λ_ _ _=>?_;refine aK (Ny O _ _ _) λu v e=>?_;subst e;refine eU 0069 λ_=>?_;walk_at "sim rest"
   ·walk_at "sim rest"
 ·subst e;obtain⟨o,lo⟩:=u;dsimp only
  cases o with
  |some r=>exact aH rfl
  |none=>
   dsimp only;refine aK (r:=Eq) (gT rfl λi u v e=>?_) λu v e=>?_
   ·subst e;refine aK ju λst st' h=>?_;rw[h.pend];refine eU 0069 λ_=>?_;refine aK (u6 O _) λu v e=>?_;subst e;exact eU 0069 λ_=>aH (bF _)
   ·subst e;obtain⟨o,z⟩:=u
    cases o with
    |some r=>exact aH rfl
    |none=>exact aH rfl
end
end SS
section
namespace HP
def rank(l:0095)(p:0021):Nat:=l.countP λq=>a_ q p
theorem zq{a:Type}(f g:a->Bool):∀(l:List a),(∀x∈l,f x=true->g x=true)->(∃x∈l,f x=false/\g x=true)->l.countP f<l.countP g
 |[],_,h=>by obtain⟨x,hx,_⟩:=h;cases hx
 |y::l,h1,h2=>by
  rw[List.countP_cons,List.countP_cons];have hle:l.countP f<=l.countP g:=List.countP_mono_left λx hx=>h1 x (aag _ hx);obtain⟨x,hx,e1,e2⟩:=h2;rcases aao.mp hx with rfl|hx
  ·rw[e1,e2];simp;omega
  ·have ih:=zq f g l (λx hx=>h1 x (aag _ hx)) ⟨x,hx,e1,e2⟩
   cases e:f y with
   |false=>cases g y<;>simp<;>omega
   |true=>rw[h1 y aae e];simp;omega
def FV{l:0095}{p q:0021}(hp:p∈l)(h:a_ p q=true):rank l p<rank l q:=
 zq _ _ l (λx _ hx=>AB _ _ _ hx h) ⟨p,hp,Cb p,h⟩
def Co{l:0095}{p q:0021}(hp:p∈l)(hq:q∈l):decide (rank l p<rank l q)=a_ p q:=by
 cases h:a_ p q with
 |true=>exact aaj (FV hp h)
 |false=>
  refine aal λz=>?_
  cases h2:a_ q p with
  |true=>
   have:=FV hq h2;omega
  |false=>
   rw[v9 _ _ h h2] at z;omega
def NA(l:0095)(p:0021):rank l p<=l.length:=adD
end HP
namespace SS
open PySem PyProof.Rows
def nObj(r:Nat):Obj:={cls:=.type "tuple",data:=.seq (List.replicate r Value.none).toArray 0}
def vO(n:Nat):Heap:={objs:=((List.range (n+1)).map nObj).toArray}
def oB{n r:Nat}(h:r<=n):(vO n).get? r=some (nObj r):=by
 unfold vO Heap.get?
 have e:(((List.range (n+1)).map nObj).toArray)[r]? =some (nObj r):=by
  rw[List.getElem?_toArray,aai,adY 03];rfl
 dsimp only;rw[e];rfl
def mz(n:Nat):Shared:={heap:=vO n}
def eq_none_none{M:Model}{G:Ctx}{X:Bool->Pos->Shared->Prop}{Y:Value->Pos->Shared->Prop}{p:Pos}{s:0016}:Sem.wp M G (eqBool .none .none) X Y p s=X true p s:=by
 unfold eqBool;rw[Sem.wp_holding];rfl
def Fo(i j:Nat):(List.replicate i Value.none).zip (List.replicate j Value.none)=List.replicate (min i j) (Value.none,Value.none):=List.zip_replicate
theorem B3{M:Model}{G:Ctx}{Y:Value->Pos->Shared->Prop}{s:0016}{body:(Value×Value)×Nat->Option Bool×Unit->Sem (ForInStep (Option Bool×Unit))}(hb:∀(i:Nat) (X:ForInStep (Option Bool×Unit)->Pos->Shared->Prop) (p:Pos),Sem.wp M G (body ((Value.none,Value.none),i) (none,())) X Y p s->X (.yield (none,())) p s):∀(m k:Nat) (X:Option Bool×Unit->Pos->Shared->Prop) (p:Pos),Sem.wp M G (forIn ((List.replicate m (Value.none,Value.none)).zipIdx k) (none,()) body) X Y p s->X (none,()) p s
 |0,k,X,p,h=>h
 |m+1,k,X,p,h=>by
  rw[abt,aeu,adZ,ab3] at h;exact B3 hb m (k+1) X p (hb k _ p h)
def QH{M:Model}{G:Ctx}{X:Bool->Pos->Shared->Prop}{Y:Value->Pos->Shared->Prop}{p:Pos}{n i j:Nat}(hi:i<=n)(hj:j<=n)(h:Sem.wp M G (keyLt' (tuples' false) (.ref i) (.ref j)) X Y p (mz n)):X (decide (i<j)) p (mz n):=by
 rw[kat_lt_eq,ab3] at h;unfold Builtin.List.listItems seqItems? at h;simp only[ab3,load,Sem.wp_load] at h;obtain⟨o,ho,h⟩:=h;rw[show(mz n).heap=vO n from rfl,oB hi] at ho;cases ho;simp only[nObj,ab2,ab3,Sem.wp_load] at h;obtain⟨o,ho,h⟩:=h;rw[show(mz n).heap=vO n from rfl,oB hj] at ho;cases ho;simp only[nObj,ab2,Sem.wp_pure] at h;rw[Fo] at h;have h2:=B3 (M:=M) (G:=G) (λk X' p' hw=>?_) _ _ _ _ h
 ·dsimp only at h2;rw[ab2] at h2;simpa using h2
 ·dsimp only at hw;rw[ab3,eq_none_none] at hw;simpa using hw
theorem L0{prog:027}{w:066}{A:061}{b fin:Bool}{Q:Bool->Shared->Prop}{s:0016}(h:Q fin s):∀(m k:Nat),PySem.W.KatLex prog w A b fin Q (List.replicate m (Value.none,Value.none)) k s
 |0,k=>PySem.W.kat_nil h
 |m+1,k=>by
  rw[abt];refine aes λG p hG=>?_;rw[eq_none_none];exact aeK (L0 h m (k+1))
def kN(n:Nat):KeyKind where
 α:=Nat
 blt:=λa b=>decide (a<b)
 irrefl:=λa=>aal 03
 trans:=λa b c h1 h2=>aaj (by have:=aar h1;have:=aar h2;omega)
 negTrans:=λa b c h=>by
  have h':=aar h;by_cases e:a<b
  ·exact .inl (aaj e)
  ·exact .inr (aaj 03)
 total:=λa b h1 h2=>by
  have:=abx h1;have:=abx h2;omega
 keyOf:=λv=>match v with
  |.ref a=>if a<=n then some a else none
  |_=>none
 dflt:=0
def wX{n:Nat}{v:0101}{k:Nat}(h:(kN n).keyOf v=some k):v= .ref k/\k<=n:=by
 cases v with
 |ref a=>
  have h':(if a<=n then some a else none)=some k:=h;by_cases e:a<=n
  ·rw[aav e] at h';cases h';exact⟨rfl,e⟩
  ·rw[aan e] at h';cases h'
 |_=>cases h
def sE{n k:Nat}(h:k<=n):(kN n).keyOf (.ref k)=some k:=by
 show(if k<=n then some k else none)=some k;rw[aav h]
def size_rep(a b:Nat):decide ((List.replicate a Value.none).toArray.size<(List.replicate b Value.none).toArray.size)=decide (a<b):=by simp
def Ow{prog:027}{w:066}{n:Nat}:PyProof.Rows.G.LtAt prog w (mz n) (kN n) (tuples' false):=by
 intro A E x y a b Q hx hy hq;obtain⟨rfl,ha⟩:=wX hx;obtain⟨rfl,hb⟩:=wX hy;refine PySem.W.kat_lt (s:=mz n) (oB ha) rfl (oB hb) rfl ?_;have e:(List.replicate a Value.none).toArray.toList.zip (List.replicate b Value.none).toArray.toList=List.replicate (min a b) (Value.none,Value.none):=Fo a b;rw[e];refine L0 ?_ _ _;have e2:=size_rep a b;rw[e2];exact hq
def Q0{prog:027}{w:066}{A:061}{E:09}{s:0016}{a b k k2:Addr}{n m:Int}{t u:Tok}{its its2:095}{ns ms:025}{Q:Bool->Shared->Prop}(ha:IsTup s.heap a #[.ref k,.int n t])(hb:IsTup s.heap b #[.ref k2,.int m u])(hk:IsTup s.heap k its)(hk2:IsTup s.heap k2 its2)(hi:IntsAre its.toList ns)(hj:IntsAre its2.toList ms)(hu:A.units+2<cLine)(h:Q (HP.a_ (ns,n) (ms,m)) s):wpAny 008 A (keyLt' (tuples' false) 046 (.ref b)) Q E s:=by
 obtain⟨o,ho,_,c1,hd⟩:=ha;obtain⟨o2,ho2,_,c2,hd2⟩:=hb;refine PySem.W.kat_lt ho hd ho2 hd2 ?_;have he:=HP.nz (A:=A) hk hk2 hi hj 03;unfold HP.a_ at h;dsimp only at h;refine aes (he prog w _ _ ?_);refine PySem.W.kat_go (λe=>aeK ?_) λe=>PySem.W.kat_no ?_
 ·rw[aav (aar e)] at h;refine aes (wpAny_eqBool_int ?_);refine PySem.W.kat_go (λe=>aeK (PySem.W.kat_nil ?_)) λe=>PySem.W.kat_no (oneLt_any_int h);have e':n=m:=by simpa using e
  rw[aal 03] at h;exact h
 ·rw[aan (abx e)] at h;rw[oneLt'_eq];simp only[abA,aaK,ab8];exact aaf (HP.vB hk hk2 (HP.B5 hi hj) 03 prog w _ _ (abM h))
theorem Be:∀l:List Keyed,(∀z∈l,z.2=z.1)->l=(l.map (·.2)).zip (l.map (·.2))
 |[],_=>rfl
 |(x,y)::l,h=>by
  have e:y=x:=h (x,y) aae;subst e;rw[aaB,abk,<-Be l λz hz=>h z (aag _ hz)]
def MI{prog:027}{w:066}{A:061}{E:09}{s:0016}{vs:007}{key:Value->List Int×Int}{st:SortSt}{Q:Unit->SortSt->Prop}(hp:∀v∈vs,∃a,v= .ref a/\HP.jX s.heap a (key v))(hu:A.units+8<cLine)(h2:2<=090)(hk:kindOf st=tuples' false)(ha:arrOf st=pairsOf vs)(hpe:pendingOf st= #[])(hf:failedOf st=none)(h:∀st1:SortSt,failedOf st1=none->∀us:List Value,arrOf st1=pairsOf us->us.Perm vs->us.Pairwise (λx y=>HP.a_ (key y) (key x)=false)->Q () st1):wpS 008 A E s sortRuns' Q st:=by
 intro G p hG
 let ks:List (List Int×Int):=vs.map key
 let n:Nat:=090
 let rk:Value->Nat:=λv=>HP.rank ks (key v)
 have hrk:∀v,rk v<=n:=λv=>by
  have:=HP.NA ks (key v);rw[aaa] at this;exact this
 let C:Cf:={M:=model prog w,G:=G,A:=A,E:=E,s:=s,s2:=mz n,rk:=λx x'=>x.1∈vs/\x.2=x.1/\x'.1= .ref (rk x.1)/\x'.2=x.2,kR:=tuples' false,kS:=tuples' false}
 have O:C.Ok:=⟨λx x' y y' hx hy=>by
  obtain⟨x1,x2,x3,x4⟩:=hx;obtain⟨y1,y2,y3,y4⟩:=hy;obtain⟨a,ea,ia⟩:=hp _ x1;obtain⟨b,eb,ib⟩:=hp _ y1;refine⟨HP.a_ (key x.1) (key y.1),λE' Q' hq=>?_,λp X Y hw=>?_⟩
  ·obtain⟨k,t,its,g1,g2,g3⟩:=ia;obtain⟨k2,t2,its2,f1,f2,f3⟩:=ib;rw[ea,eb];exact Q0 g1 f1 g2 f2 g3 f3 (show A.units+2<cLine by omega) hq
  ·rw[x3,y3] at hw;have:=QH (hrk _) (hrk _) hw;rw[HP.Co (acU x1) (acU y1)] at this
   exact⟨_,this⟩⟩
 let φ:Keyed->Keyed:=λx=>(.ref (rk x.1),x.2)
 let st':SortSt:=SortSt.mk' (tuples' false) ((pairsOf vs).map φ) #[] (gallopOf st) none
 have hmem:∀x∈(pairsOf vs).toList,x.1∈vs/\x.2=x.1:=λx hx=>by
  rw[ad8] at hx;obtain⟨e,hm⟩:=mem_zip_self hx;exact⟨hm,e.symm⟩
 have hst:C.st st st':=by
  refine⟨hk,rfl,?_,hpe,rfl,hf,rfl⟩;rw[ha];refine⟨(acm ..).symm,λi x y e1 e2=>?_⟩;have e2':((pairsOf vs).map φ)[i]? =some y:=e2;rw[Array.getElem?_map,e1] at e2';have e3:φ x=y:=aac e2';have hx:=hmem x (by rw[<-aaQ] at e1;exact aap e1);subst e3;exact⟨hx.1,hx.2,rfl,rfl⟩
 have sh:wpS 008 A (λ_ _=>False) (mz n) sortRuns' (λ_ st1=>(arrOf st1).Perm ((pairsOf vs).map φ)/\SortedToK (kN n) (arrOf st1) ((pairsOf vs).map φ).size) st':=by
  refine PyProof.Rows.G.wpS_sortRunsSt (κ:=kN n) (kd:=tuples' false) (a₀:=(pairsOf vs).map φ) Ow ?_ ⟨Array.Perm.refl _,rfl,rfl⟩ rfl (Stable.refl _) (by rw[acm,pairsOf_size];exact h2) λst1 q1 q2 q3 q4=>⟨q1,q3⟩;intro x hx;rw[aez] at hx;obtain⟨z,hz,rfl⟩:=aaw.mp hx;exact⟨_,sE (hrk _)⟩
 obtain⟨x,st1,y,st1',p1,-,hst1,⟨-,hperm,hsort⟩,hE⟩:=KH O st st' hst p _ (sh G p hG)
 have hR:∀(i:Nat) (z:Keyed),(arrOf st1)[i]? =some z->z.1∈vs/\z.2=z.1/\(arrOf st1')[i]? =some (.ref (rk z.1),z.2):=λi z e=>by
  obtain⟨z',e',r1,r2,r3,r4⟩:=hst1.arr.get e;refine⟨r1,r2,?_⟩;rw[e',<-r3,<-r4]
 have e1:(arrOf st1').toList=(arrOf st1).toList.map φ:=by
  apply adu;intro i;rw[aaQ,aai,aaQ]
  cases e:(arrOf st1)[i]? with
  |none=>exact hst1.arr.FA e
  |some z=>exact(hR i z e).2.2
 have hall:∀z∈(arrOf st1).toList,z.2=z.1:=λz hz=>by
  obtain⟨i,hi,e⟩:=List.getElem_of_mem hz;exact(hR i z (by rw[<-aaQ,<-e];exact aab hi)).2.1
 refine hE Q (h st1 hst1.fail ((arrOf st1).toList.map (·.2)) ?_ ?_ ?_) G p hG
 ·apply adL.mp;rw[ad8];exact Be _ hall
 ·have q:=(Array.perm_iff_toList_perm.mp hperm).map (·.2);rw[e1,aez,ad8,aaN,aaN] at q;have q1:(List.map ((λx:Keyed=>x.2)∘φ) (arrOf st1).toList)=(arrOf st1).toList.map (·.2):=rfl
  have q2:(List.map ((λx:Keyed=>x.2)∘φ) (vs.zip vs))=vs:=by
   show List.map Prod.snd (vs.zip vs)=vs;exact aew 097
  rw[q1,q2] at q;exact q
 ·rw[abn];intro i j hi hj hij;rw[aaa,aaE] at hi hj;have gi:(arrOf st1)[i]? =some (arrOf st1)[i]:=aaR hi;have gj:(arrOf st1)[j]? =some (arrOf st1)[j]:=aaR hj;obtain⟨i1,i2,i3⟩:=hR i _ gi;obtain⟨j1,j2,j3⟩:=hR j _ gj;have hsz:((pairsOf vs).map φ).size=(arrOf st1').size:=hperm.size_eq.symm;have hs:=hsort i j 03 (by rw[hsz,<-hst1.arr.1];exact hj)
  have ki:KK (kN n) (arrOf st1') i=rk (arrOf st1)[i].1:=by
   unfold KK;rw[i3];show((kN n).keyOf (.ref (rk (arrOf st1)[i].1))).getD (kN n).dflt=_;rw[sE (hrk _)];rfl
  have kj:KK (kN n) (arrOf st1') j=rk (arrOf st1)[j].1:=by
   unfold KK;rw[j3];show((kN n).keyOf (.ref (rk (arrOf st1)[j].1))).getD (kN n).dflt=_;rw[sE (hrk _)];rfl
  rw[ki,kj] at hs;have hs':decide (rk (arrOf st1)[j].1<rk (arrOf st1)[i].1)=false:=hs;rw[HP.Co (acU j1) (acU i1)] at hs';rw[List.getElem_map,List.getElem_map,Array.getElem_toList,Array.getElem_toList,i2,j2];exact hs'
end SS
end
namespace SS
open PySem PyProof.Rows
def jX.keep{h h':Heap}{l:Addr}{p:0021}(k:PyProof.Rows.G.KeepsTups h h')(x:HP.jX h l p):HP.jX h' l p:=by
 obtain⟨a,t,its,⟨o,e,c,d⟩,⟨o2,e2,c2,d2⟩,hi⟩:=x;exact⟨a,t,its,⟨o,k _ _ e c,c,d⟩,⟨o2,k _ _ e2 c2,c2,d2⟩,hi⟩
def Nr{M:Model}{A:061}{E:09}{s:0016}{vs:007}{key:Value->List Int×Int}{Q:SortKind->Shared->Prop}(hp:∀v∈vs,∃a,v= .ref a/\HP.jX s.heap a (key v))(hne:0<090)(h:Q (tuples' false) s):wpAny M A (keyKind' 083) Q E s:=by
 have ex:∃fs:List Value,PySem.W.KatTups s.heap vs fs/\fs.length=090/\∀v∈fs,PySem.W.Looks M s.heap (typeOf v) (.type "tuple"):=by
  clear hne h
  induction vs with
  |nil=>exact⟨[],.nil,rfl,λv hv=>by cases hv⟩
  |cons v vs ih=>
   obtain⟨fs,t1,t2,t3⟩:=ih λu hu=>hp u (aag _ hu);obtain⟨a,rfl,k,t,its,⟨o,e,c,n,d⟩,⟨o2,e2,c2,d2⟩,hi⟩:=hp v aae;refine⟨.ref k::fs,.cons e c d rfl t1,by rw[aat,aat,t2],λu hu=>?_⟩;rcases aao.mp hu with rfl|hu
   ·exact λA Q E s' keep q=>ad2 (v:=.ref k) (T:="tuple") (show s'.TypeIs (.ref k) "tuple" from⟨o2,keep _ _ e2,c2⟩) q
   ·exact t3 u hu
 obtain⟨fs,t1,t2,t3⟩:=ex;exact PySem.W.kat_kind (T:=.type "tuple") t1 (by rw[t2];exact hne) t3 rfl h
def K1{prog:027}{w:066}{A:061}{E:09}{s:0016}{a:Addr}{vs:007}{n:Nat}{key:Value->List Int×Int}{P:Fin->Shared->Prop}(ho:s.heap.get? a=some (seqObj "list" vs.toArray n))(hp:∀v∈vs,∃b,v= .ref b/\HP.jX s.heap b (key v))(hu:A.units+8<cLine)(hL:090<=sizeLine)(fin:∀us:List Value,us.Perm vs->us.Pairwise (λx y=>HP.a_ (key y) (key x)=false)->P (.done (.ret .none)) {s with heap:=sortedHeap s.heap a vs us.toArray}):wpAny 008 A (Builtin.«list.sort» ⟨[.ref a],[]⟩) P E s:=by
 have big:=hL;rw[aaC] at big;have lta:a<08:=aaG ho;rw[list_sort_plain];refine aaf (listItems_at ho rfl (aaf (listUpdate_at ho rfl ?_)));obtain⟨ep,ho1⟩:∃ep,(s.heap.update a (Obj.mapSeq λ_=>(#[]:Array Value))).get? a=some (seqObj "list" #[] ep):=⟨_,get?_update_seq ho (λ_=>(#[]:Array Value))⟩;refine aaf (seqEpoch_at ho1 rfl (aaf (wpAny_newTuple (aaf (wpAny_newList (abB ?_))))));have k6:=PyProof.Rows.G.keeps_sort6 (vs:=vs) ho;show wpAny 008 A _ P E {s with heap:=PyProof.Rows.G.sortHeap6 s.heap a vs}
 have ho6:(PyProof.Rows.G.sortHeap6 s.heap a vs).get? a=some (seqObj "list" #[] ep):=by
  unfold PyProof.Rows.G.sortHeap6;rw[Heap.get?_push_ne _ _ _ (aaM (by rw[size_push',acS];exact abF lta)),Heap.get?_push_ne _ _ _ (aaM (by rw[acS];exact lta))];exact ho1
 dsimp only;have hsz:vs.toArray.size=090:=aaz;by_cases h2:vs.toArray.size<2
 ·rw[aav h2,aav h2];sleep 040;rw[aeI];sleep 040;dsimp only;refine aaf (seqEpoch_at ho6 rfl (aaf (listUpdate_at ho6 rfl ?_ (hsz2:=?_))))
  ·simp only[bne_self_eq_false,aaK,ab8]
   have e:(vs.toArray.zip 083).map (·.2)=083:=by
    apply adL.mp;simp;exact aew 097
   have q:=fin vs (acy _) (by
    rw[abn];intro i j hi hj hij
    omega)
   rw[<-e] at q;exact aaA q
  ·refine aa8 (ad4 (acm ..)) ?_;show(pairsOf vs).size<=_;rw[pairsOf_size];omega
 ·rw[aan h2,aan h2]
  have hp6:∀v∈vs,∃b,v= .ref b/\HP.jX (PyProof.Rows.G.sortHeap6 s.heap a vs) b (key v):=λv hv=>by
   obtain⟨b,e,i⟩:=hp v hv;exact⟨b,e,jX.keep k6 i⟩
  refine aaf (Nr (s:={s with heap:=PyProof.Rows.G.sortHeap6 s.heap a vs}) hp6 03 ?_)
  try dsimp only
  refine aaf (ab6 (MI (s:={s with heap:=PyProof.Rows.G.sortHeap6 s.heap a vs}) (vs:=vs) (key:=key) (st:=SortSt.mk' (tuples' false) (vs.toArray.zip 083) #[] 7 none) (Q:=λ_ st1=>failedOf st1=none/\∃us:List Value,arrOf st1=pairsOf us/\us.Perm vs/\us.Pairwise (λx y=>HP.a_ (key y) (key x)=false)) hp6 hu 03 rfl rfl rfl rfl λst1 q1 us q2 q3 q4=>⟨q1,us,q2,q3,q4⟩) ?_ λ_ _ e=>e);rintro⟨⟨⟩,st1⟩ s1 ⟨rfl,q1,us,q2,q3,q4⟩
  have e:(pairsOf us).map (·.2)=us.toArray:=by
   apply adL.mp;rw[aez,ad8];exact aew 097
  rw[q2,e,q1];refine aaf (seqEpoch_at ho6 rfl (aaf (listUpdate_at ho6 rfl ?_ (hsz2:=by rw[aaz,q3.length_eq];omega))));simp only[bne_self_eq_false,aaK,ab8];exact aaA (fin us q3 q4)
def Ip{prog:027}{w:066}{A:061}{E:09}{s:0016}{l:Addr}{vs:007}{key:Value->List Int×Int}{Q:09}(hl:s.heap.IsList l 083)(hp:∀v∈vs,∃b,v= .ref b/\HP.jX s.heap b (key v))(hu:A.units+16<cLine)(hL:090<=sizeLine)(fin:∀us:List Value,us.Perm vs->us.Pairwise (λx y=>HP.a_ (key y) (key x)=false)->Q (.ref (08+1)) {s with heap:=sortedAll s.heap vs us.toArray}):wpAny 008 A (call (.builtin "sorted") [.ref l]) Q E s:=by
 refine Calls.call_function_entry kind_sorted plain_sorted entry_sorted (args_sorted1 _) ?_;unfold Builtin.«sorted»;refine aaf (m:=checkCount "sorted" 1 1 _) (aaA (aaf (collect_list hl (aaf (wpAny_newList ?_)))));have e0:((s.heap.push (seqObj "list" #[] 0)).update s.heap.objs.size (Obj.mapSeq (·++083))).objs.size=08+1:=by rw[acS,size_push']
 have n0:(s.heap.push (seqObj "list" #[] 0)).get? 08=some (seqObj "list" #[] 0):=aaD _ rfl
 let h1:Heap:=((s.heap.push (seqObj "list" #[] 0)).update s.heap.objs.size (Obj.mapSeq (·++083))).push (seqObj "list" vs.toArray 0)
 have g1:h1.get? (08+1)=some (seqObj "list" vs.toArray 0):=by
  have q:h1.get? ((s.heap.push (seqObj "list" #[] 0)).update s.heap.objs.size (Obj.mapSeq (·++083))).objs.size=some (seqObj "list" vs.toArray 0):=aaD _ rfl;rw[e0] at q;exact q
 have k1:PyProof.Rows.G.KeepsTups s.heap h1:=((adG _ _).trans (PyProof.Rows.G.KeepsTups.update _ n0 PyProof.Rows.G.not_tuple_list)).trans (adG _ _);show wpAny _ _ _ _ _ {s with heap:=h1};rw[e0];refine aaf (abB (acw slot_list_sort ⟨_,g1,rfl⟩ entry_list_sort ?_ (args_list_sort _)));refine K1 (s:={s with heap:=h1}) (key:=key) g1 (λv hv=>?_) ?_ hL λus q1 q2=>⟨_,rfl,?_⟩
 ·obtain⟨b,e,i⟩:=hp v hv;exact⟨b,e,jX.keep k1 i⟩
 ·show A.units+1+1+8<cLine;omega
 ·exact aaA ⟨_,rfl,fin us q1 q2⟩
end SS
namespace L2
open PySem PySem.Spec PyProof.Rows
theorem Vals.refs:∀{xs:016} {us:007},Vals (xs.map V.ref) us->us=xs.map Value.ref
 |[],_,.nil=>rfl
 |a::xs,u::us,.cons r t=>by
  obtain rfl:u=Value.ref a:=r;rw[Vals.refs (xs:=xs) t];rfl
theorem mn:∀xs:List Addr,Vals (xs.map V.ref) (xs.map Value.ref)
 |[]=>.nil
 |a::xs=>.cons rfl (mn xs)
section
variable{X:Cx}
def Cn(K:05):List V->Hp->VK->Prop:=λvs H Q=>∃(l:Addr) (as:016) (pk:Addr->List Int×Int),vs=[V.ref l]/\ax K H l (as.map V.ref)/\(∀a∈as,bo K H 046 (pk a))/\
 ∀(bs:016) (p:Addr),bs.Perm as->bs.Pairwise (λx y=>HP.a_ (pk y) (pk x)=false)->H p=none->Q (.ref p) (upd H p (.lst (bs.map V.ref)))
def GU(hu:062):dM X (.builtin "sorted") (Cn X.K):=by
 intro pins s σ H vs us Q I r h;obtain⟨l,as,pk,rfl,hs,hp,q⟩:=h;obtain⟨its,rv,hl,hz⟩:=I.list hs;have e:=rv.refs;subst e;rw[Vals.F9 r];rw[aaa] at hz
 let key:Value->List Int×Int:=λv=>match v with
  |.ref a=>pk a
  |_=>([],0)
 refine SS.Ip (key:=key) hl.isList (λv hv=>?_) 03 (by rw[aaa];exact hz) λws h1 h2=>?_
 ·obtain⟨a,ha,rfl⟩:=aaw.mp hv;exact⟨a,rfl,I.place (hp a ha)⟩
 ·obtain⟨bs,hb⟩:∃bs:List Addr,ws=bs.map Value.ref:=by
   have all:∀v∈ws,∃a,v=Value.ref a:=λv hv=>by
    obtain⟨a,_,e⟩:=aaw.mp (h1.mem_iff.mp hv);exact⟨a,e.symm⟩
   clear h1 h2
   induction ws with
   |nil=>exact⟨[],rfl⟩
   |cons v ws ih=>
    obtain⟨a,rfl⟩:=all v aae;obtain⟨bs,rfl⟩:=ih λv hv=>all v (aag _ hv);exact⟨a::bs,rfl⟩
  subst hb
  have hperm:bs.Perm as:=by
   have q1:=h1.map (λv:Value=>match v with
    |.ref a=>a
    |_=>0)
   rw[aaN,aaN] at q1
   have e1:∀l:List Addr,l.map ((λv:Value=>match v with
    |.ref a=>a
    |_=>0)∘Value.ref)=l:=λl=>by
    show l.map (λa=>a)=l;exact List.map_id' l
   rw[e1,e1] at q1;exact q1
  have hpw:bs.Pairwise (λx y=>HP.a_ (pk y) (pk x)=false):=aaX.mp h2;obtain⟨ep,he'⟩:=PyProof.Rows.sortedAll_at s.heap (as.map Value.ref) (bs.map Value.ref).toArray;have hlen:(bs.map V.ref).length<=sizeLine:=by rw[aaa,hperm.length_eq];exact hz
  have hv:Vals (bs.map V.ref) (bs.map Value.ref).toArray.toList:=mn bs;exact⟨.ref _,upd H (08+1) (.lst (bs.map V.ref)),I.laid (t':=s.toks) (λ_ _=>PyProof.Rows.sortedAll_old) (acT _) ⟨hlen,_,ep,hv,he'⟩,rfl,q bs _ hperm hpw (I.aX.fresh (acT _))⟩
end
end L2
section
namespace HP
open PySem PyProof.Rows
open PySem.SeqAt
open PySem.AutoSeq1 (wpAny_loadPart')
open PySem.MeetsSeq PySem.MeetsSeq2 PySem.MeetsSeq3
def vz(A:061)(s:0016)(y x:0101)(b:Bool):Prop:=
 ∀(prog:027) (w:066) (E:09) (Q:09),Q (.bool b) s->wpAny 008 A (richCompare .Gt y x) Q E s
def vz.int(A:061)(s:0016)(a:Int)(t:Tok)(c:Int)(u:Tok):vz A s (.int a t) (.int c u) (decide (c<a)):=λprog w E Q h=>
 (PyProof.Rows.gt_int h:wpAny 008 A (compareOp .Gt (.int a t) (.int c u)) Q E s)
inductive sS(A:061)(s:0016):List Value->List Value->Bool->Prop
 |nn:sS A s [] [] false
 |nc{y:0101}{ys:007}:sS A s [] (y::ys) false
 |cn{x:0101}{xs:007}:sS A s (x::xs) [] true
 |eq{x y:0101}{xs ys:007}{r:Bool}:EqAt A s x y true->sS A s xs ys r->sS A s (x::xs) (y::ys) r
 |ne{x y:0101}{xs ys:007}{r:Bool}:EqAt A s x y false->vz A s x y r->sS A s (x::xs) (y::ys) r
def Hc(l b:Addr)(items items2:095)(n n2:Nat)(dd dd2:0088)(sl sl2:0061)(r:Bool):Meets (Builtin.«tuple.__gt__» ⟨[.ref l,.ref b],[]⟩) (λA R s=>s.heap.get? l=some {cls:=.type "tuple",dict:=dd,data:=.seq items n,slots:=sl}/\s.heap.get? b=some {cls:=.type "tuple",dict:=dd2,data:=.seq items2 n2,slots:=sl2}/\sS A.in1 s items.toList items2.toList r/\R (.ok (.ret (.bool r))) s):=
 .of_wp λprog w A R s h=>by
  obtain⟨hp,g,d,tk,os⟩:=s;obtain⟨hl,hb,hw,h⟩:=h;have f2:=ac0
  wp_walk using acE hl,acE hb,acv _ (λrest b s'=>b.1=none/\s'=0083/\∃(vs ws:007),rest=vs.zip ws/\sS A.in1 0083 vs ws r/\090+items2.size=ws.length+items.size) _
  case turn=>
   rintro⟨y,x⟩ rest b s' ⟨hb',rfl,vs,ws,hz,hw',hlen⟩
   cases hw' with
   |nn=>rw[acK] at hz;cases hz
   |nc=>rw[acK] at hz;cases hz
   |cn=>rw[ad5] at hz;cases hz
   |eq he hw2=>
    sleep 008;simp only[aat] at hlen;refine aaf (he prog w _ _ ?_)
    wp_walk
    exact⟨rfl,rfl,_,_,hrest,hw2,0018⟩
   |ne he hr=>
    sleep 008;refine aaf (he prog w _ _ ?_);have hri:=λE Q=>hr prog w E Q
    wp_walk using hri
    exact⟨_,rfl,by simpa using h⟩
  case fin=>
   rintro⟨b1,b2⟩ s' ⟨hb',rfl,vs,ws,hz,hw',hlen⟩;simp only at hb';subst hb'
   have hv:r=decide (items2.size<items.size):=by
    cases hw' with
    |nn=>
     simp only[abj] at hlen;exact(aal 03).symm
    |nc=>
     simp only[abj,aat] at hlen;exact(aal 03).symm
    |cn=>
     simp only[abj,aat] at hlen;exact(aaj 03).symm
    |eq _ _=>rw[abk] at hz;cases hz
    |ne _ _=>rw[abk] at hz;cases hz
   rw[hv] at h
   wp_walk
   exact⟨_,rfl,by simpa[Builtin.Tuple.tupleCompareSizes] using h⟩
  case h=>
   exact⟨rfl,rfl,items.toList,items2.toList,rfl,hw,by simp;omega⟩
def Bg{A:061}{s:0016}{l b:Addr}{items items2:095}{r:Bool}(hl:IsTup s.heap l items)(hb:IsTup s.heap b items2)(hw:sS A.in1 s items.toList items2.toList r)(hu:A.units<cLine):vz A s (.ref l) (.ref b) r:=λprog w E Q h=>by
 obtain⟨⟨cls,dd,data,sl⟩,ho,hc,n,hd⟩:=id hl;obtain⟨⟨cls2,dd2,data2,sl2⟩,ho2,hc2,n2,hd2⟩:=id hb;simp only at hc hd hc2 hd2;subst hc hd hc2 hd2
 exact adm (op:=.Gt) ⟨_,ho,rfl⟩ ⟨_,ho2,rfl⟩ PySem.F.slot_tuple_gt PySem.F.entry_tuple_gt (PySem.F.args_tuple_gt_2 _ _) (Hc l b items items2 n n2 dd dd2 sl sl2 r)
  ⟨ho,ho2,hw,show Value.bool r≠Value.notImplemented/\Q (.bool r) s from⟨(λx=>nomatch x),h⟩⟩ hu
def KI{A:061}{s:0016}{vs ws:007}{ns ms:025}(h:IntsAre vs ns)(h':IntsAre ws ms):sS A s vs ws (HX.lexLt ms ns):=by
 induction h generalizing ws ms with
 |nil=>
  cases h' with
  |nil=>exact .nn
  |cons=>exact .nc
 |cons a t hv ih=>
  cases h' with
  |nil=>exact .cn
  |cons c u hw=>
   obtain⟨e,he,hi⟩:=HT.og A s a t c u
   cases e with
   |true=>
    have q:=hi.mp rfl;rw[HX.dS,aav q.symm];exact .eq he (ih hw)
   |false=>
    rw[HX.dS,aan (λq=>absurd (hi.mpr q.symm) aau)];exact .ne he (vz.int A s a t c u)
def NY{A:061}{s:0016}{k k2:Addr}{n m:Int}{t u:Tok}{items items2:095}{ns ms:025}(hk:IsTup s.heap k items)(hk2:IsTup s.heap k2 items2)(hi:IntsAre items.toList ns)(hj:IntsAre items2.toList ms)(hu:A.units+1<cLine):sS A s [.ref k,.int n t] [.ref k2,.int m u] (a_ (ms,m) (ns,n)):=by
 have he:=nz (A:=A) hk hk2 hi hj 03;unfold a_;by_cases q:ns=ms
 ·rw[aaj q] at he;rw[aav q.symm];refine .eq he ?_;obtain⟨e,he2,hi2⟩:=HT.og A s n t m u
  cases e with
  |true=>
   have q2:=hi2.mp rfl;rw[aal (by show¬m<n;omega)];exact .eq he2 .nn
  |false=>exact .ne he2 (vz.int A s n t m u)
 ·rw[aal q] at he;rw[aan (λz=>q z.symm)];exact .ne he (Bg hk hk2 (KI hi hj) 03)
def Nj{A:061}{s:0016}{l b:Addr}{p q:0021}(hl:jX s.heap l p)(hb:jX s.heap b q)(hu:A.units+2<cLine):vz A s (.ref l) (.ref b) (a_ q p):=by
 obtain⟨k,t,its,h1,h2,h3⟩:=hl;obtain⟨k2,t2,its2,g1,g2,g3⟩:=hb;exact Bg h1 g1 (NY h2 g2 h3 g3 (by show A.units+1+1<cLine;omega)) 03
end HP
namespace L2
open PySem PySem.Spec PyProof.Rows
section
variable{X:Cx}
def Py(K:05):R2:=λx y H Q=>∃p q,bo K H x p/\bo K H y q/\Q (.bl (HP.a_ q p)) H
def PN(hu:062):fv X (compareOp .Gt) (Py X.K):=by
 sleep 001;obtain⟨p,q,⟨a,k,rfl,ha,hk⟩,⟨b,k2,rfl,hb,hk2⟩,hQ⟩:=h;cases rx;cases ry;have h1:=I.place (a:=a) (p:=p) ⟨a,k,rfl,ha,hk⟩;have h2:=I.place (a:=b) (p:=q) ⟨b,k2,rfl,hb,hk2⟩;exact HP.Nj h1 h2 03 X.prog X.w X.xe _ ⟨.bl _,H,I,rfl,hQ⟩
theorem iJ{K:05}{H:Hp}:∀ns:List Int,qu K H 0065 (ns.map PyData.int)
 |[]=>.nil
 |n::ns=>.cons (.int n) (iJ ns)
theorem qZ:∀ns ms:List Int,PyData.eqvAll (ns.map PyData.int) (ms.map PyData.int)=decide (ns=ms)
 |[],[]=>by first|rfl|simp[PyData.eqvAll]
 |[],_::_=>by simp[PyData.eqvAll]
 |_::_,[]=>by simp[PyData.eqvAll]
 |a::ns,b::ms=>by
  have ih:=qZ ns ms;rw[aaB,aaB,PyData.eqvAll,ih];by_cases e:a=b
  ·subst e;by_cases e2:ns=ms
   ·subst e2;simp[PyData.eqv]
   ·simp[PyData.eqv,e2]
  ·simp[PyData.eqv,e]
end
end L2
end
namespace L2
open PySem PySem.Spec PyProof.Rows
theorem lay_ints:∀ns:List Int,PyData.canLayAll0 (ns.map PyData.int)=true
 |[]=>by simp[PyData.canLayAll0]
 |n::ns=>by
  rw[aaB,PyData.canLayAll0,lay_ints ns];simp[PyData.canLay0]
theorem jZ:∀ns:List Int,PyData.depthAll (ns.map PyData.int)=0
 |[]=>by simp[PyData.depthAll]
 |n::ns=>by
  rw[aaB,PyData.depthAll,jZ ns];simp[PyData.depth]
section
variable{X:Cx}
def OK(K:05):R2:=λx y H Q=>∃(a b:Addr) (ns ms:025),x= .ref a/\y= .ref b/\bw K H a 0065/\bw K H b (ms.map V.int)/\Q (.bl (decide (ns=ms))) H
def Om(hu:062):fv X (compareOp .Eq) (OK X.K):=by
 sleep 001;obtain⟨a,b,ns,ms,rfl,rfl,ha,hb,q⟩:=h;refine IB hu pins s σ H _ _ v u Q I rx ry ⟨.tuple (ns.map .int),.tuple (ms.map .int),.tup ha (iJ ns),.tup hb (iJ ms),?_,?_,?_⟩
 ·simp[SeqAt.shaped,PyData.canLay0,PyData.depth,lay_ints,jZ]
 ·simp[SeqAt.shaped,PyData.canLay0,PyData.depth,lay_ints,jZ]
 ·rw[PyData.eqv,qZ];exact q
def O5(K:05):R2:=λx y H Q=>∃(a b:Addr) (ns ms:025),x= .ref a/\y= .ref b/\ax K H a 0065/\ax K H b (ms.map V.int)/\Q (.bl (!decide (ns=ms))) H
def O9(hu:062):fv X (compareOp .NotEq) (O5 X.K):=by
 sleep 001;obtain⟨a,b,ns,ms,rfl,rfl,ha,hb,q⟩:=h;refine OX hu pins s σ H _ _ v u Q I rx ry ⟨.list (ns.map .int),.list (ms.map .int),.lst ha (iJ ns),.lst hb (iJ ms),?_,?_,?_⟩
 ·simp[SeqAt.shaped,PyData.canLay0,PyData.depth,lay_ints,jZ]
 ·simp[SeqAt.shaped,PyData.canLay0,PyData.depth,lay_ints,jZ]
 ·rw[PyData.eqv,qZ];exact q
def Px(K:05):R2:=λx y H Q=>∃p q,bo K H x p/\bo K H y q/\Q (.bl (decide (p=q))) H
def OJ(hu:062):fv X (compareOp .Eq) (Px X.K):=by
 sleep 001;obtain⟨p,q,⟨a,k,rfl,ha,hk⟩,⟨b,k2,rfl,hb,hk2⟩,hQ⟩:=h;refine IB hu pins s σ H _ _ v u Q I rx ry ⟨.tuple [.tuple (p.1.map .int),.int p.2],.tuple [.tuple (q.1.map .int),.int q.2],.tup ha (.cons (.tup hk (iJ _)) (.cons (.int _) .nil)),.tup hb (.cons (.tup hk2 (iJ _)) (.cons (.int _) .nil)),?_,?_,?_⟩
 ·simp[SeqAt.shaped,PyData.canLay0,PyData.canLayAll0,PyData.depth,PyData.depthAll,lay_ints,jZ]
 ·simp[SeqAt.shaped,PyData.canLay0,PyData.canLayAll0,PyData.depth,PyData.depthAll,lay_ints,jZ]
 ·have e:PyData.eqv (.tuple [.tuple (p.1.map .int),.int p.2]) (.tuple [.tuple (q.1.map .int),.int q.2])=decide (p=q):=by
   rw[PyData.eqv,PyData.eqvAll,PyData.eqv,qZ,PyData.eqvAll,PyData.eqv,PyData.eqvAll,Bool.and_true];obtain⟨p1,p2⟩:=p;obtain⟨q1,q2⟩:=q;by_cases e1:p1=q1
   ·by_cases e2:p2=q2
    ·simp[e1,e2]
    ·simp[e1,e2]
   ·simp[e1]
  rw[e];exact hQ
def Gd:dM X (.type "dict") (λxs H Q=>∃(a:Addr) (kvs:031),xs=[.ref a]/\H a=some 029/\∀p,H p=none->Q (.ref p) (upd H p 029)):=by
 sleep 026;obtain⟨a,kvs,rfl,ha,q⟩:=h;sleep 027;obtain⟨z,hd,vs,rel,dd⟩:=wM I.aX ha;refine PySem.kt_call_dict (knd:=eN X.prog X.w) hd dd (by rw[<-rel.length];exact z) λh' hd' sb=>?_;have e2:08≠sysModules:=abl (aaM I.big);refine⟨.ref 08,upd H s.heap.objs.size 029,I.laid (t':=s.toks) (λb o e=>?_) 097 ?_,rfl,q _ (I.aX.fresh 097)⟩
 ·rw[sb.2 b (aaM (aaG e))];exact aaq _ e
 ·exact⟨z,aaV.mpr e2,vs,rel,hd'⟩
def Jp(hc:0009):dM X (.type "set") (λxs H Q=>∃(l:Addr) (ns:025),xs=[.ref l]/\ax X.K H l 0065/\ns.length+1<scanBound/\∀p S,H p=none->Q (.ref p) (upd H p (.set S (PyProof.Rows.firstMet (λi=>ns.getD i 0) ns.length).length))):=by
 sleep 026;obtain⟨l,ns,rfl,hl,hb,q⟩:=h;sleep 027;obtain⟨its,rv,p1,hz⟩:=I.list hl;have hi:IntsAre its.toArray.toList ns:=intsAre_of rv
 have hlen:038=ns.length:=by
  have:=rv.length;rw[aaa] at this;rw[aaz];omega
 refine PySem.call_set_list (ns:=ns) 0053 p1.isList hi (by rw[hlen];exact hb) λh' tk hS hk=>?_;rw[hlen] at hS;exact⟨.ref 08,upd H s.heap.objs.size (.set _ _),I.laid (t':=tk) (λb o e=>hk b o (aaG e) e) 097 hS,rfl,q _ _ (I.aX.fresh 097)⟩
def JF:dM X 0070 (λxs H Q=>∃(a:Addr) (S:Int->Bool) (n:Nat),xs=[.ref a]/\H a=some (.set S n)/\Q (.int n) H):=by
 sleep 026;obtain⟨a,S,n,rfl,ha,q⟩:=h;sleep 027;obtain⟨o,es,ep,t,ho,hx,hd,_,_,hsz,hf,hn⟩:=(show s.heap.SetOf (intKind X.prog X.w) a S n from I.aX a _ ha);have hb:scanBound=4096:=rfl;refine PySem.call_len_set ho hx hd hf 03 ?_;rw[hn];exact⟨.int n,H,I.tok _,⟨_,rfl⟩,q⟩
end
section
variable(P:027)(w:066)(K:05)(mg:005)(base:Heap)
def bx(k:Nat)(x:Str)(ps:087)(sp:Sp):Prop:=∃f fd,mg x=some 081/\PySem.W.keepIn K 081=true/\Binds K fd ps []/\gv P w K mg base mS k f fd ps sp
def gy(C:Addr)(k:Nat)(m:Str)(ps:087)(sp:Sp):Prop:=∃f fd,kq K C/\Meth K C m f/\Binds K fd ps []/\gv P w K mg base mS k f fd ps sp
def zt(C:Addr)(k:Nat)(x:Str)(ps:087)(sp:Sp):Prop:=∃f fd,mg x=some (.ref C)/\Mk K C f/\Binds K fd ps []/\gv P w K mg base mS k f fd ps sp
end
section
variable(K:05)(mg:005)
def aZ(x:Str)(ps:087)(st:Stmt):Prop:=∃f fd,mg x=some 081/\rA K x x st f fd/\Binds K fd ps []
def eQ(C:Addr)(m qual:Str)(ps:087)(st:Stmt):Prop:=∃f fd,kq K C/\Meth K C m f/\rA K m qual st f fd/\Binds K fd ps []
def tY(C:Addr)(x qual:Str)(ps:087)(st:Stmt):Prop:=∃f fd,mg x=some (.ref C)/\Mk K C f/\rA K "__init__" qual st f fd/\Binds K fd ps []
def d_(x:Str)(n:Int):Prop:=∃t,mg x=some (.int n t)
def Kc(x:Str)(a:Addr)(p:0021):Prop:=mg x=some 046/\∃k,(∀H,bw K H a [.ref k,.int p.2])/\∀H,bw K H k (p.1.map V.int)
end
section
variable{P:027}{w:066}{K:05}{mg:005}{base:Heap}{k j:Nat}{x m qual:Str}{ps N:087}{st:Stmt}{sp:Sp}{C:Addr}
def aZ.ok(D:aZ K mg x ps st)(S:ao N ps (ag st))(hbody:∀(f:Addr) (cdv:0101) (A:061) (outer:List Env) (s:0016) (H:Hp) (vs:0012) (Q:VK) (E:XK),dr k (A.deeper (envOfC x (ag st) s.heap.objs.size f cdv))->sp vs H Q E->∀Xg:Prop,(∀t,lX (pj mS P w K mg base N x (ag st) f cdv A outer s H E).zg (fJ st) t->t 045 (start N vs) H->Xg)->Xg)(len:∀vs H Q E,sp vs H Q E->090=ps.length:=by intro _ _ _ _ h;cases h;subst_vars;rfl):bx P w K mg base (k+1) x ps sp:=by
 obtain⟨f,fd,h1,h2,h3⟩:=D;exact⟨f,fd,h1,h2.kp,h3,h2.ok S len λcdv A outer s H vs Q E hr h=>hbody f cdv A outer s H vs Q E hr h _ λt p q=>⟨t,p,q⟩⟩
def eQ.ok(D:eQ K C m qual ps st)(S:ao N ps (ag st))(hbody:∀(f:Addr) (cdv:0101) (A:061) (outer:List Env) (s:0016) (H:Hp) (vs:0012) (Q:VK) (E:XK),dr k (A.deeper (envOfC qual (ag st) s.heap.objs.size f cdv))->sp vs H Q E->∀Xg:Prop,(∀t,lX (pj mS P w K mg base N qual (ag st) f cdv A outer s H E).zg (fJ st) t->t 045 (start N vs) H->Xg)->Xg)(len:∀vs H Q E,sp vs H Q E->090=ps.length:=by intro _ _ _ _ h;cases h;subst_vars;rfl):gy P w K mg base C (k+1) m ps sp:=by
 obtain⟨f,fd,c,h1,h2,h3⟩:=D;exact⟨f,fd,c,h1,h3,h2.ok S len λcdv A outer s H vs Q E hr h=>hbody f cdv A outer s H vs Q E hr h _ λt p q=>⟨t,p,q⟩⟩
def tY.ok(D:tY K mg C x qual ps st)(S:ao N ps (ag st))(hbody:∀(f:Addr) (cdv:0101) (A:061) (outer:List Env) (s:0016) (H:Hp) (vs:0012) (Q:VK) (E:XK),dr k (A.deeper (envOfC qual (ag st) s.heap.objs.size f cdv))->sp vs H Q E->∀Xg:Prop,(∀t,lX (pj mS P w K mg base N qual (ag st) f cdv A outer s H E).zg (fJ st) t->t 045 (start N vs) H->Xg)->Xg)(len:∀vs H Q E,sp vs H Q E->090=ps.length:=by intro _ _ _ _ h;cases h;subst_vars;rfl):zt P w K mg base C (k+1) x ps sp:=by
 obtain⟨f,fd,c,h1,h2,h3⟩:=D;exact⟨f,fd,c,h1,h3,h2.ok S len λcdv A outer s H vs Q E hr h=>hbody f cdv A outer s H vs Q E hr h _ λt p q=>⟨t,p,q⟩⟩
def bx.mono(h:bx P w K mg base j x ps sp)(e:j<=k):bx P w K mg base k x ps sp:=by
 obtain⟨f,fd,h1,h2,h3,h4⟩:=h;exact⟨f,fd,h1,h2,h3,h4.mono e⟩
end
section
variable{X:Cx}{k:Nat}{x m:Str}{ps:087}{sp:Sp}{C:Addr}{e o:Expr}{es:0062}{t:TA}{ta:TE}{p pos apos:Pos}
def aS(F:bx X.prog X.w X.K X.mg X.base k x ps sp)(hr:dr k X.A)(hg:Gl X x)(ha:PA X 0067 t)(hdb:039=false:=by decide)(he:starEach 0067 X.env=037::starEach es X.env:=by rfl)(hpl:(backTo pos 069).any (·.1)=false:=by rfl):PE X 085 (HF sp [] E0 t):=by
 obtain⟨f,fd,h1,h2,h3,h4⟩:=F;exact Nb h4 hr hg h1 h2 h3 .nil uh ha hdb he hpl
def bE{pl:Sem Bool}(ho:PE X o ta)(F:gy X.prog X.w X.K X.mg X.base C k m ps sp)(hr:dr k X.A)(ha:PA X 0067 t)(hst:starEach 0067 X.env=037::starEach es X.env:=by rfl)(hpl:(backTo pos 069).any (·.1)=false:=by rfl)(ht:eval (.Call 0055 0067 [] pos) X.env=(do
   let ov<-eval o X.env
   standAt apos.atName
   let(f,first)<-holding [ov] (getMethod ov m pl)
   callWith pos f first (backTo pos (starEach 0067 X.env)) 092):=by rfl):PE X (.Call 0055 0067 [] pos) (wU C m sp [] E0 ta t):=by
 obtain⟨f,fd,c,h2,h3,h4⟩:=F;exact NB ho c h2 h4 hr h3 .nil uh ha hst hpl ht
def bf{pl:Sem Bool}(ho:PE X o ta)(F:gy X.prog X.w X.K X.mg X.base C k m ps sp)(hr:dr k X.A)(ht:eval (.Call 0055 [] [] pos) X.env=(do
   let ov<-eval o X.env
   standAt apos.atName
   let(f,first)<-holding [ov] (getMethod ov m pl)
   callWith pos f first (backTo pos (starEach [] X.env)) 092):=by rfl):PE X (.Call 0055 [] [] pos) (wU C m sp [] E0 ta jC):=by
 obtain⟨f,fd,c,h2,h3,h4⟩:=F;exact KN ho c h2 h4 hr h3 .nil uh ht
def xM(F:zt X.prog X.w X.K X.mg X.base C k x ps sp)(hr:dr (k+1) X.A)(hg:Gl X x)(ha:PA X 0067 t)(hdb:039=false:=by decide)(he:starEach 0067 X.env=037::starEach es X.env:=by rfl)(hpl:(backTo pos 069).any (·.1)=false:=by rfl):PE X 085 (uj C sp [] E0 t):=by
 obtain⟨f,fd,h1,h2,h3,h4⟩:=F;exact MB h2 h4 hr hg h1 h3 .nil uh ha hdb he hpl
def Mb(F:zt X.prog X.w X.K X.mg X.base C k x ps sp)(hr:dr (k+1) X.A)(hg:Gl X x)(hdb:039=false:=by decide):PE X (.Call (.Name x p) [] [] pos) (uj C sp [] E0 jC):=by
 obtain⟨f,fd,h1,h2,h3,h4⟩:=F;exact K6 h2 h4 hr hg h1 h3 .nil uh hdb
def aD{n:Int}(h:d_ X.mg x n)(hg:Gl X x)(hd:039=false:=by decide):PE X (.Name x pos) (tC (.int n)):=by
 obtain⟨t,ht⟩:=h;exact yg hg ht ⟨t,rfl⟩ hd
def HG{a:Addr}{pl:0021}(h:Kc X.K X.mg x a pl)(hg:Gl X x)(hd:039=false:=by decide):PE X (.Name x pos) (tC 046):=yg hg h.1 rfl hd
end
def bh:bootBuiltins "len"=some 0070:=by decide+kernel
def nX:bootBuiltins "all"=some (.builtin "all"):=by decide+kernel
def IP:bootBuiltins "any"=some (.builtin "any"):=by decide+kernel
def Qi:bootBuiltins "sum"=some (.builtin "sum"):=by decide+kernel
def yO:bootBuiltins "sorted"=some (.builtin "sorted"):=by decide+kernel
def C5:bootBuiltins "set"=some (.type "set"):=by decide+kernel
def nY:bootBuiltins "tuple"=some (.type "tuple"):=by decide+kernel
def xY:bootBuiltins "list"=some (.type "list"):=by decide+kernel
def F1:bootBuiltins "dict"=some (.type "dict"):=by decide+kernel
def xQ(K:05):List V->Hp->VK->Prop:=λxs H Q=>∃p ys,xs=[.ref p]/\(ax K H p ys\/bw K H p ys)/\Q (.int ys.length) H
def MJ(K:05):List V->Hp->VK->Prop:=λxs H Q=>∃p ys,xs=[.ref p]/\(ax K H p ys\/bw K H p ys)/\∀l,H l=none->Q (.ref l) (upd H l (.lst ys))
def BY(K:05):List V->Hp->VK->Prop:=λxs H Q=>∃p ys,xs=[.ref p]/\((ax K H p ys/\∀l,H l=none->Q (.ref l) (upd H l (.tup ys)))\/(bw K H p ys/\Q (.ref p) H))
def Qq(K:05):List V->Hp->VK->Prop:=λxs H Q=>∃(l:Addr) (ns:025),xs=[.ref l]/\ax K H l 0065/\ns.length+1<scanBound/\
  ∀p S,H p=none->Q (.ref p) (upd H p (.set S (PyProof.Rows.firstMet (λi=>ns.getD i 0) ns.length).length))
def Rb:List V->Hp->VK->Prop:=λxs H Q=>∃(a:Addr) (S:Int->Bool) (n:Nat),xs=[.ref a]/\H a=some (.set S n)/\Q (.int n) H
def L9:List V->Hp->VK->Prop:=λxs H Q=>∃a kvs,xs=[V.ref a]/\H a=some 029/\Q (.int kvs.length) H
def Pg:List V->Hp->VK->Prop:=λxs H Q=>∃(a:Addr) (kvs:031),xs=[.ref a]/\H a=some 029/\∀p,H p=none->Q (.ref p) (upd H p 029)
section
variable{X:Cx}{K:05}{e o l:Expr}{f:Str}{ta te to tl tv:TE}{pos pos' apos cpos:Pos}{tg:Expr}{es:0062}{t:TA}
def aq(hK:X.K=K)(he:PE X e ta)(hb:attributeBase e f X.env (eval e X.env)=eval e X.env):PE X (.Attribute e f pos) (nD K ta f):=hK▸NV he hb
def bR{value:Expr}(hK:X.K=K)(ha:PE X o ta)(hv:PE X value tv)(hs:swapsWith value (some (.Attribute o f pos')) pos.line X.env=pure false):PS X (.Assign [.Attribute o f pos'] value pos) (KR K ta tv f):=hK▸Qk ha hv hs
def bJ(hK:X.K=K):rn X (Hg K):=hK▸Fg
def fS(hK:X.K=K):rn X (HI K):=hK▸HQ
def AN(hK:X.K=K):rn X (N1 K):=hK▸O7
def ko(hK:X.K=K):Pa X (NS K):=hK▸Nh
def bY(hK:X.K=K):dM X 0070 (xQ K):=hK▸BA
def J5:dM X 0070 Rb:=JF
def By:dM X 0070 L9:=IE
def tE(hK:X.K=K):dM X (.type "list") (MJ K):=hK▸Bd
def kY(hK:X.K=K):dM X (.type "tuple") (BY K):=hK▸zS
def JA(hK:X.K=K)(hc:0009):dM X (.type "set") (Qq K):=hK▸Jp hc
def EF:dM X (.type "dict") Pg:=Gd
def qG(hK:X.K=K)(hc:0009):dM X (.builtin "all") (Gv K):=hK▸Qh hc
def L6(hK:X.K=K)(hc:0009):dM X (.builtin "any") (Lx K):=hK▸Ph hc
def QM(hK:X.K=K)(hc:0009):dM X (.builtin "sum") (N8 K):=hK▸P2 hc
def IL(hK:X.K=K)(hu:062):dM X (.builtin "sorted") (Cn K):=hK▸GU hu
def Qr(hK:X.K=K)(hu:062):fv X (compareOp .Lt) (Pb K):=hK▸Pf hu
def QT(hK:X.K=K)(hu:062):fv X (compareOp .Gt) (Py K):=hK▸PN hu
def QU(hK:X.K=K)(hu:062):fv X (compareOp .Eq) (Px K):=hK▸OJ hu
def QY(hK:X.K=K)(hu:062):fv X (compareOp .Eq) (OK K):=hK▸Om hu
def Qv(hK:X.K=K)(hu:X.A.units<cLine):fv X (compareOp .Lt) (NW K):=hK▸OF hu
def Rp(hK:X.K=K)(hu:062):fv X (compareOp .NotEq) (O5 K):=hK▸O9 hu
def c8(hK:X.K=K)(hl:PE X l tl):PI X tg l (vR K tl):=hK▸M8 hl
def nG(hK:X.K=K)(hl:PE X l tl):PI X tg l (Hn K tl):=hK▸OD hl
def zT{p:Pos}(hK:X.K=K)(hg:Gl X "reversed")(hm:X.mg "reversed"=none)(ha:PA X [e] t)(hs:starEach [e] X.env=[037]:=by rfl):PI X tg (.Call (.Name "reversed" p) [e] [] pos) (Lh K t):=hK▸DR hg hm ha hs
def A3{k:Nat}{tt:zb}{n:Nat}(hK:X.K=K)(hc:0009)(h:Kg X es tt)(hn:(assignEach es X.env).length=n:=by rfl)(hst:(assignEach es X.env).findIdx? (·.1)=none:=by rfl):PG X (.Tuple es k pos) (Lm K n tt):=hK▸P6 hc h hn hst
def Mn{name:Str}{T id:String}{r:0001}(hK:X.K=K)(pa:PlainAttrs T)(slot:Slot T name id)(hty:typeOf (.builtin id)=pure (.type "method_descriptor"))(hm:LL X id r)(ho:PE X o to)(hbase:attributeBase o name X.env (eval o X.env)=eval o X.env:=by rfl)(hline:(apos.endLine==cpos.line)=true:=by rfl):PE X (.Call (.Attribute o name apos) [] [] cpos) (Kr K T r to):=hK▸Pu pa slot hty hm ho hbase hline
def kW{name:Str}{T id:String}{r:0001}(hK:X.K=K)(pa:PlainAttrs T)(slot:Slot T name id)(hty:typeOf (.builtin id)=pure (.type "method_descriptor"))(hm:LL X id r)(ho:PE X o to)(ha:PA X 0067 t)(hbase:attributeBase o name X.env (eval o X.env)=eval o X.env:=by rfl)(hfew:((backTo cpos (starEach 0067 X.env)).all (λx=> !x.1)&&(backToKw cpos (keywordEach [] X.env)).all (λx=>x.1.isSome)&&decide ((e::es).length+([]:List Keyword).length+(if([]:List Keyword).isEmpty then 0 else 1)<30))=true:=by rfl)(hline:(apos.endLine==cpos.line)=true:=by rfl)(hs:starEach 0067 X.env=037::starEach es X.env:=by rfl)(hplain:(backTo cpos 069).any (·.1)=false:=by rfl):PE X (.Call (.Attribute o name apos) 0067 [] cpos) (JD K T r to t):=hK▸Rk pa slot hty hm ho ha hbase hfew hline hs hplain
end
section
variable{nx bk ct:St->Hp->Prop}{rt Q:VK}{σ:St}{H:Hp}{t u:TS}{te ta tb tc:TE}{tt tu:TT}{tl:TA}{g:TG}{i:Nat}{v:V}{K:05}
def dP(h:t ⟨u 096,rt,bk,ct⟩ σ H):CP t u 096 σ H:=h
def ba(h:nx σ H):GZ 096 σ H:=h
def de(h:bk σ H):JO 096 σ H:=h
def dI(h:te σ H λx H1=>g x σ H1 nx):Ge te g 096 σ H:=h
def bU{q:St->Hp->Prop}(h:q (σ.set i (some v)) H):fB i v σ H q:=h
def dZ(h:tt σ H λb H1=>if b=true then t 096 σ H1 else u 096 σ H1):Lv tt t u 096 σ H:=h
def dv(h:te σ H rt):yn te 096 σ H:=h
def cG(h:te σ H λ_ H1=>nx σ H1):AA te 096 σ H:=h
def dq(e:σ[i]? =some (some v))(h:Q v H):kC i σ H Q:=lj.mk e h
def gX(h:Q v H):tC v σ H Q:=h
def fu{r:R2}(h:ta σ H λx H1=>tb σ H1 λy H2=>r x y H2 Q):yI r ta tb σ H Q:=h
def fE{f:Int->Int->V}{a b:Int}(h:Q (f a b) H):qc f (.int a) (.int b) H Q:=h
def pM{c:Int->Int->Prop}{f:Int->Int->V}{a b:Int}(hc:c a b)(h:Q (f a b) H):rI c f (.int a) (.int b) H Q:=⟨a,b,rfl,rfl,hc,h⟩
def dQ{a b:Int}(h:Q (.bl (decide (a=b))) H):Rr (.int a) (.int b) H Q:=⟨rfl,by
 have e:decide (V.int a=V.int b)=decide (a=b):=aa2.mpr ⟨λz=>V.int.inj z,λz=>by rw[z]⟩;rw[e]
 exact h⟩
def dC{a b:Int}(h:Q (.bl (!decide (a=b))) H):RB (.int a) (.int b) H Q:=⟨rfl,by
 have e:decide (V.int a=V.int b)=decide (a=b):=aa2.mpr ⟨λz=>V.int.inj z,λz=>by rw[z]⟩;rw[e]
 exact h⟩
def cE{q:0081}(h:te σ H λx H1=>kI x λk=>q k H1):G1 te σ H q:=h
def gW{q:0081}(h:te σ H λx H1=>kI x λk=>q k H1):tB te σ H q:=h
def fF{b:Bool}{q:Bool->Prop}(h:q b):kI (.bl b) q:=h
def d9{q:0081}(h:tt σ H λc H1=>if c=true then tu σ H1 q else q false H1):Ol tt tu σ H q:=h
def fD{q:0081}(h:tt σ H λc H1=>if c=true then q true H1 else tu σ H1 q):Rz tt tu σ H q:=h
def dE{q:0081}(h:tt σ H λc H1=>q (!c) H1):O2 tt σ H q:=h
def cF(h:ta σ H λx H1=>kI x λc=>if c=true then tb σ H1 Q else Q (.bl false) H1):LK ta tb σ H Q:=h
def dG(h:ta σ H λx H1=>kI x λc=>if c=true then Q (.bl true) H1 else tb σ H1 Q):Pw ta tb σ H Q:=h
def dR(h:tt σ H λc H1=>if c=true then ta σ H1 Q else tb σ H1 Q):Ry tt ta tb σ H Q:=h
def cz{q:List V->Hp->Prop}(h:te σ H λx H1=>tl σ H1 λxs H2=>q (x::xs) H2):jR te tl σ H q:=h
def dj{q:List V->Hp->Prop}(h:q [] H):jC σ H q:=h
def cV{sp:Sp}(h:tl σ H λvs H1=>sp (vs++[]) H1 Q E0):HF sp [] E0 tl σ H Q:=h
def ft{r:List V->Hp->VK->Prop}(h:tl σ H λvs H1=>r vs H1 Q):B8 r tl σ H Q:=h
def fH{T:String}{r:0001}(h:ta σ H λx H1=>HJ K T x H1/\tl σ H1 λxs H2=>r x xs H2 Q):JD K T r ta tl σ H Q:=h
def dD{T:String}{r:0001}(h:ta σ H λx H1=>HJ K T x H1/\r x [] H1 Q):Kr K T r ta σ H Q:=h
def cf{a:Addr}{xs:0012}(h:ax K H a xs\/bw K H a xs)(q:Q (.int 009) H):xQ K [.ref a] H Q:=⟨a,xs,rfl,h,q⟩
def A6{a:Addr}{kvs:031}(h:H a=some 029)(q:Q (.int kvs.length) H):L9 [.ref a] H Q:=⟨a,kvs,rfl,h,q⟩
def uB{a:Addr}(bs:List Bool)(h:ax K H a (bs.map V.bl))(q:Q (.bl (bs.all id)) H):Gv K [.ref a] H Q:=⟨a,bs,rfl,h,q⟩
def LP{a:Addr}(bs:List Bool)(h:ax K H a (bs.map V.bl))(q:Q (.bl (bs.any id)) H):Lx K [.ref a] H Q:=⟨a,bs,rfl,h,q⟩
def eT{a:Addr}{xs:0012}{j:Nat}(h:ax K H a xs)(e:xs[j]? =some v)(q:Q v H):Hg K 046 (.int (j:Nat)) H Q:=⟨a,xs,j,v,rfl,rfl,h,uy e,q⟩
def jv{a:Addr}{xs:0012}{j:Nat}(h:bw K H a xs)(e:xs[j]? =some v)(q:Q v H):HI K 046 (.int (j:Nat)) H Q:=⟨a,xs,j,v,rfl,rfl,h,uy e,q⟩
def bZ{r r':R2}(h:ta σ H λx H1=>tb σ H1 λy H2=>r x y H2 λz H3=>kI z λk=>(if k=true then tc σ H3 λw' H4=>r' y w' H4 Q else Q (.bl false) H3)):Ij r r' ta tb tc σ H Q:=h
def dy(h:tl σ H λxs H1=>009<=sizeLine/\∀p,H1 p=none->Q (.ref p) (upd H1 p 0090)):Km tl σ H Q:=h
def dO(h:tl σ H λxs H1=>009<=sizeLine/\∀p,H1 p=none->Q (.ref p) (upd H1 p 0064)):PH tl σ H Q:=h
def dN{f:Str}(h:ta σ H λx H1=>F5 K f x H1 Q):nD K ta f σ H Q:=h
def cI{f:Str}(h:tb σ H λy H1=>ta σ H1 λx H2=>Aw K f x y H2 λH3=>nx σ H3):KR K ta tb f 096 σ H:=h
def Ar(C:Addr)(m:Str)(sp:Sp)(tl:TA)(σ:St)(x:V)(H:Hp)(Q:VK):Prop:=Bv C m tl σ x H λvs H2=>sp (x::(vs++[])) H2 Q E0
def cN{C:Addr}{m:Str}{sp:Sp}(h:ta σ H λx H1=>Ar C m sp tl σ x H1 Q):wU C m sp [] E0 ta tl σ H Q:=h
def aF{C a dx:Addr}{m:Str}{fs:064}{sp:Sp}(h1:089)(h2:fs.lookup m=none)(h:tl σ H λvs H2=>sp (.ref a::(vs++[])) H2 Q E0):Ar C m sp tl σ 046 H Q:=⟨a,dx,fs,rfl,h1,h2,h⟩
def ay{C a dx:Addr}{f:Str}{fs:064}(h1:089)(h2:kq K C)(h3:dt K C f)(h4:fs.lookup f=some v)(h:Q v H):F5 K f 046 H Q:=⟨a,C,dx,fs,v,rfl,h1,h2,h3,h4,h⟩
def bL{C a dx:Addr}{f:Str}{y:V}{fs:064}{q:Hp->Prop}(h1:089)(h2:kq K C)(h3:dt K C f)(h4:fs.length<1000)(h:q (upd H a (.ins C dx (bc f y fs)))):Aw K f 046 y H q:=
 ⟨a,C,dx,fs,rfl,h1,h2,h3,h4,h⟩
def cJ{C:Addr}{sp:Sp}(h:tl σ H λvs H1=>∀x dx,H1 x=none->H1 dx=none->dx≠x->sp (.ref x::(vs++[])) (upd (upd H1 dx (.own x)) x (.ins C dx [])) (λv H2=>v= .bS/\Q (.ref x) H2) E0):uj C sp [] E0 tl σ H Q:=h
def dH(h:ta σ H λy H1=>tb σ H1 λx H2=>Hz y x H2 Q):P8 ta tb σ H Q:=h
def bI(h:ta σ H λy H1=>tb σ H1 λx H2=>uk y x H2 Q):FH ta tb σ H Q:=h
def cW(h:ta σ H λx H1=>tb σ H1 λy H2=>wo x y H2 Q):L4 ta tb σ H Q:=h
def Q9{a:Addr}{n:Int}{kvs:031}(e:H a=some 029)(h:Q (.bl (eR kvs (Sum.inl n)).isSome) H):Hz (.int n) 046 H Q:=⟨a,_,rfl,mK.k (k:=Sum.inl n) e,h⟩
def fU{a:Addr}{n:Int}{kvs:031}(e:H a=some 029)(h:Q (.bl (!(eR kvs (Sum.inl n)).isSome)) H):uk (.int n) 046 H Q:=⟨a,_,rfl,mK.k (k:=Sum.inl n) e,h⟩
def iT{a:Addr}{n:Int}{kvs:031}(e:H a=some 029)(hv:eR kvs (Sum.inl n)=some v)(h:Q v H):wo 046 (.int n) H Q:=⟨a,v,rfl,hv▸mK.k (k:=Sum.inl n) e,h⟩
def cD{A B:Prop}(h:A):if true=true then A else B:=h
def df{A B:Prop}(h:B):if false=true then A else B:=h
def cw{c A B:Prop}[Decidable c](h1:c->A)(h2:¬c->B):if decide c=true then A else B:=by
 by_cases h:c
 ·rw[aaj h];exact cD (h1 h)
 ·rw[aal h];exact df (h2 h)
def wB{c A B:Prop}[Decidable c](h1:¬c->A)(h2:c->B):if(!decide c)=true then A else B:=by
 by_cases h:c
 ·rw[aaj h];exact df (h2 h)
 ·rw[aal h];exact cD (h1 h)
def jf{b:Bool}{A B:Prop}(h1:b=true->A)(h2:b=false->B):if b=true then A else B:=by
 cases b with
 |true=>exact cD (h1 rfl)
 |false=>exact df (h2 rfl)
def dz{b:Bool}{A B:Prop}(h1:b=false->A)(h2:b=true->B):if(!b)=true then A else B:=by
 cases b with
 |true=>exact df (h2 rfl)
 |false=>exact cD (h1 rfl)
end
section
variable{K:05}{a:Addr}{xs ys:0012}{te:TE}{vs:015}{σ:St}{H1:Hp}{D:Addr}{Qd:Hp->Prop}{j:Nat}
theorem take_snoc{α:Type}:∀{l:076} {i:Nat} {x:α},l[i]? =some x->l.take (i+1)=l.take i++[x]
 |[],i,x,h=>by simp at h
 |a::l,0,x,h=>by
  have e:a=x:=aac h;subst e;rfl
 |a::l,i+1,x,h=>by
  have ih:=take_snoc (l:=l) (i:=i) (x:=x) h;show a::l.take (i+1)=a::l.take i++[x];rw[ih];rfl
def au.tup{K:05}{H H':Hp}{a:Addr}{xs:0012}(e:au H H')(h:bw K H a xs):bw K H' a xs:=by
 rcases h with(h|⟨o,h⟩)|h
 ·exact .inl (.inl (e _ _ h))
 ·exact .inl (.inr ⟨o,e _ _ h⟩)
 ·exact .inr h
def au.new{H:Hp}{p:Addr}{o:HO}(h:H p=none):au H (upd H p o):=λb u e=>by rw[aj (aG e h)];exact e
def Av{σ:St}{H:Hp}{q:0081}(h:q true H):jF σ H q:=h
def BN(hl:ys.length=009)(hz:009<=sizeLine)(hD:H1 D=none)(hb:013)(hw:∀x,wipe 0015 vs=wipe σ vs){i:Nat}{x:V}{H:Hp}(hx:xs[i]? =some x)(p:au H1 H/\H D=some (.lst (ys.take i))):fB j x 0097 H λσ2 H2=>wipe σ2 vs=wipe σ vs/\jF σ2 H2 λb H3=>if b=true then te σ2 H3 λy H4=>∃acc,H4 D=some 0068/\acc.length<sizeLine/\(au H1 021/\upd H4 D (.lst (acc++[y])) D=some (.lst (ys.take (i+1)))) else(au H1 H3/\H3 D=some (.lst (ys.take (i+1)))):=by
 obtain⟨p1,p2⟩:=p;obtain⟨hlt,_⟩:=aad.mp hx;have hy:ys[i]? =some ys[i]:=aab 03;refine⟨hw x,?_⟩;refine Av ?_;refine cD (hb i x ys[i] H _ hx hy p1 λH' s=>⟨_,s _ _ p2,?_,λb o e=>?_,?_⟩)
 ·rw[aaH];omega
 ·rw[aj (aG e hD)];exact s _ _ (p1 _ _ e)
 ·rw[ah,take_snoc hy]
def Ly(hl:ys.length=009)(hz:009<=sizeLine)(hD:H1 D=none)(hx:ax K H1 a xs)(hb:013)(hd:∀H,au H1 H->H D=some (.lst ys)->Qd H)(hw:∀x,wipe 0015 vs=wipe σ vs:=by intro _;rfl):∃W:Nat->Nat->Hp->Prop,028/\∀i m H,W i m H->((kE K a).stop i H/\Qd H)\/((kE K a).go i H/\∃Nx:Hp->Prop,023/\∀x H',(kE K a).ke i H x H'->fB j x 0097 H' λσ2 H2=>wipe σ2 vs=wipe σ vs/\jF σ2 H2 λb H3=>if b=true then te σ2 H3 λy H4=>∃acc,H4 D=some 0068/\acc.length<sizeLine/\Nx 021 else Nx H3):=
 Fj (λi H=>au H1 H/\H D=some (.lst (ys.take i))) ⟨.new hD,ah⟩ (λi H _ p=>p.1.seq hx) (λi x H hx' p=>BN hl hz hD hb hw hx' p)
  λH p=>hd H p.1 (by rw[p.2,<-hl,abC])
def Nz(hl:ys.length=009)(hz:009<=sizeLine)(hD:H1 D=none)(hx:bw K H1 a xs)(hb:013)(hd:∀H,au H1 H->H D=some (.lst ys)->Qd H)(hw:∀x,wipe 0015 vs=wipe σ vs:=by intro _;rfl):∃W:Nat->Nat->Hp->Prop,028/\∀i m H,W i m H->((mR K a).stop i H/\Qd H)\/((mR K a).go i H/\∃Nx:Hp->Prop,023/\∀x H',(mR K a).ke i H x H'->fB j x 0097 H' λσ2 H2=>wipe σ2 vs=wipe σ vs/\jF σ2 H2 λb H3=>if b=true then te σ2 H3 λy H4=>∃acc,H4 D=some 0068/\acc.length<sizeLine/\Nx 021 else Nx H3):=
 O1 (λi H=>au H1 H/\H D=some (.lst (ys.take i))) ⟨.new hD,ah⟩ (λi H _ p=>p.1.tup hx) (λi x H hx' p=>BN hl hz hD hb hw hx' p)
  λH p=>hd H p.1 (by rw[p.2,<-hl,abC])
def J8{lo:Int}{n:Nat}(hl:ys.length=n)(hz:n<=sizeLine)(hD:H1 D=none)(hb:∀(i:Nat) (y:V) (H:Hp) (Q:VK),i<n->ys[i]? =some y->au H1 H->(∀H',au H H'->Q y H')->te ((wipe σ vs).set j (some (.int (lo+i)))) H Q)(hd:∀H,au H1 H->H D=some (.lst ys)->Qd H)(hw:∀x,wipe 0015 vs=wipe σ vs:=by intro _;rfl):∃W:Nat->Nat->Hp->Prop,028/\∀i m H,W i m H->((lV lo n).stop i H/\Qd H)\/((lV lo n).go i H/\∃Nx:Hp->Prop,023/\∀x H',(lV lo n).ke i H x H'->fB j x 0097 H' λσ2 H2=>wipe σ2 vs=wipe σ vs/\jF σ2 H2 λb H3=>if b=true then te σ2 H3 λy H4=>∃acc,H4 D=some 0068/\acc.length<sizeLine/\Nx 021 else Nx H3):=
 AG (λi H=>au H1 H/\H D=some (.lst (ys.take i))) ⟨.new hD,ah⟩ (λi H hi p=>by
   obtain⟨p1,p2⟩:=p;have hy:ys[i]? =some ys[i]:=aab 03;refine⟨hw _,?_⟩;refine Av ?_;refine cD (hb i ys[i] H _ hi hy p1 λH' s=>⟨_,s _ _ p2,?_,λb o e=>?_,?_⟩)
   ·rw[aaH];omega
   ·rw[aj (aG e hD)];exact s _ _ (p1 _ _ e)
   ·rw[ah,take_snoc hy])
  λH p=>hd H p.1 (by rw[p.2,<-hl,abC])
def Pc(K:05)(te:TE)(σ:St)(vs:015)(j:Nat)(Q:VK)(x:V)(H1:Hp):Prop:=∃a,x= .ref a/\(∃xs,ax K H1 a xs)/\∀D,H1 D=none->∃W:Nat->Nat->Hp->Prop,028/\∀i m H,W i m H->
   ((kE K a).stop i H/\Q 0075 H)\/((kE K a).go i H/\∃Nx:Hp->Prop,023/\∀x H',(kE K a).ke i H x H'->fB j x 0097 H' λσ2 H2=>wipe σ2 vs=wipe σ vs/\jF σ2 H2 λb H3=>if b=true then te σ2 H3 λy H4=>∃acc,H4 D=some 0068/\acc.length<sizeLine/\Nx 021 else Nx H3)
def PZ(K:05)(te:TE)(σ:St)(vs:015)(j:Nat)(Q:VK)(x:V)(H1:Hp):Prop:=∃a,x= .ref a/\(∃xs,bw K H1 a xs)/\∀D,H1 D=none->∃W:Nat->Nat->Hp->Prop,028/\∀i m H,W i m H->
   ((mR K a).stop i H/\Q 0075 H)\/((mR K a).go i H/\∃Nx:Hp->Prop,023/\∀x H',(mR K a).ke i H x H'->fB j x 0097 H' λσ2 H2=>wipe σ2 vs=wipe σ vs/\jF σ2 H2 λb H3=>if b=true then te σ2 H3 λy H4=>∃acc,H4 D=some 0068/\acc.length<sizeLine/\Nx 021 else Nx H3)
def K9(te:TE)(σ:St)(vs:015)(j:Nat)(Q:VK)(xs:0012)(H1:Hp):Prop:=∃m:Int,xs=[.int m]∧-(2 ^ 62)<=m/\m<2 ^ 62/\∀D,H1 D=none->∃W:Nat->Nat->Hp->Prop,028/\∀i n H,W i n H->
   ((lV 0 m.toNat).stop i H/\Q 0075 H)\/((lV 0 m.toNat).go i H/\∃Nx:Hp->Prop,(∀H',Nx H'->∃m',m'<n/\W (i+1) m' H')/\∀x H',(lV 0 m.toNat).ke i H x H'->fB j x 0097 H' λσ2 H2=>wipe σ2 vs=wipe σ vs/\jF σ2 H2 λb H3=>if b=true then te σ2 H3 λy H4=>∃acc,H4 D=some 0068/\acc.length<sizeLine/\Nx 021 else Nx H3)
def dU{tl:TE}{H:Hp}{Q:VK}(h:tl σ H λx H1=>Pc K te σ vs j Q x H1):wc (vR K tl) (fB j) jF te vs σ H Q:=h
def dW{tl:TE}{H:Hp}{Q:VK}(h:tl σ H λx H1=>PZ K te σ vs j Q x H1):wc (Hn K tl) (fB j) jF te vs σ H Q:=h
def dJ{ta:TA}{H:Hp}{Q:VK}(h:ta σ H λxs H1=>K9 te σ vs j Q xs H1):wc (Gh ta) (fB j) jF te vs σ H Q:=h
def jS{Q:VK}(ys:0012)(hx:ax K H1 a xs)(hl:ys.length=009)(hz:009<=sizeLine)(hb:013)(hd:∀D H2,H1 D=none->au H1 H2->H2 D=some (.lst ys)->Q 0075 H2)(hw:∀x,wipe 0015 vs=wipe σ vs:=by intro _;rfl):Pc K te σ vs j Q 046 H1:=
 ⟨a,rfl,⟨xs,hx⟩,λD hD=>Ly hl hz hD hx hb (λH s e=>hd D H hD s e) hw⟩
def GF{Q:VK}(ys:0012)(hx:bw K H1 a xs)(hl:ys.length=009)(hz:009<=sizeLine)(hb:013)(hd:∀D H2,H1 D=none->au H1 H2->H2 D=some (.lst ys)->Q 0075 H2)(hw:∀x,wipe 0015 vs=wipe σ vs:=by intro _;rfl):PZ K te σ vs j Q 046 H1:=
 ⟨a,rfl,⟨xs,hx⟩,λD hD=>Nz hl hz hD hx hb (λH s e=>hd D H hD s e) hw⟩
def QZ{Q:VK}{n:Nat}(ys:0012)(hl:ys.length=n)(hz:n<=sizeLine)(hb:∀(i:Nat) (y:V) (H:Hp) (Q:VK),i<n->ys[i]? =some y->au H1 H->(∀H',au H H'->Q y H')->te ((wipe σ vs).set j (some (.int i))) H Q)(hd:∀D H2,H1 D=none->au H1 H2->H2 D=some (.lst ys)->Q 0075 H2)(hw:∀x,wipe 0015 vs=wipe σ vs:=by intro _;rfl):K9 te σ vs j Q [.int n] H1:=by
 rw[aaC] at hz;refine⟨n,rfl,0018,0018,λD hD=>?_⟩;rw[aa0];refine J8 hl (by rw[aaC];exact hz) hD (λi y H Q h1 h2 h3 h4=>?_) (λH s e=>hd D H hD s e) hw;have:=hb i y H Q h1 h2 h3 h4;rw[Int.zero_add];exact this
end
end L2
namespace Bk
open PySem PySem.Spec PyProof.Rows L2
def top(i:Nat):Stmt:=PySem.Challenge.pw_standtable_s01_answers.main.body.getD i (.Pass ⟨0,0,0,0⟩)
def tO:ao ["numbers","number"] ["numbers"] (ag (top 13)):=00
def fZ:ao ["codes","code"] ["codes"] (ag (top 14)):=00
def Ep:ao ["code"] ["code"] (ag (top 15)):=00
def Bi:ao ["code"] ["code"] (ag (top 16)):=00
def DS:ao ["code"] ["code"] (ag (top 17)):=00
def sZ:ao ["code","value"] ["code","value"] (ag (top 18)):=00
def mx:ao ["codes","row","code"] ["codes","row"] (ag (top 19)):=00
def F4:ao ["table","number"] ["table","number"] (ag (top 22)):=00
def vG:ao ["table","number"] ["table","number"] (ag (top 23)):=00
def HR:ao ["table"] ["table"] (ag (top 24)):=00
def Hu:ao ["table","k","position"] ["table","k","position"] (ag (top 25)):=00
def pR:ao ["table","k","number","order"] ["table","k","number"] (ag (top 26)):=00
def vg:ao ["table","k","how","key","order"] ["table","k","how","key"] (ag (top 27)):=00
def rV:ao ["table","k","first","end"] ["table","k","first","end"] (ag (top 28)):=00
def lH:ao ["table","k","field","first","end","number"] ["table","k","field","first","end"] (ag (top 29)):=00
abbrev sY:Stmt:=(inClass (top 35) 0)
def z7:ao ["self","codes","unique"] ["self","codes","unique"] (ag sY):=00
abbrev nJ:Stmt:=(inClass (top 35) 1)
def uH:ao ["self","number","fields"] ["self","number","fields"] (ag nJ):=00
abbrev jD:Stmt:=(inClass (top 35) 2)
def je:ao ["self","rows","number"] ["self","rows"] (ag jD):=00
abbrev rG:Stmt:=(inClass (top 35) 3)
def pV:ao ["self","number","row","place"] ["self","number","row"] (ag rG):=00
abbrev rj:Stmt:=(inClass (top 35) 4)
def xX:ao ["self","number","row"] ["self","number","row"] (ag rj):=00
abbrev jz:Stmt:=(inClass (top 35) 5)
def da:ao ["self","place","low","high","middle"] ["self","place"] (ag jz):=00
abbrev kM:Stmt:=(inClass (top 35) 6)
def j9:ao ["self","place","position"] ["self","place"] (ag kM):=00
abbrev kZ:Stmt:=(inClass (top 35) 7)
def j_:ao ["self","place","position"] ["self","place"] (ag kZ):=00
abbrev iC:Stmt:=(inClass (top 35) 8)
def lO:ao ["self","key"] ["self","key"] (ag iC):=00
abbrev iW:Stmt:=(inClass (top 35) 9)
def mE:ao ["self","key"] ["self","key"] (ag iW):=00
abbrev mV:Stmt:=(inClass (top 35) 10)
def r9:ao ["self","position"] ["self","position"] (ag mV):=00
abbrev gQ:Stmt:=(inClass (top 35) 11)
def eE:ao ["self","first","end","start","stop","place"] ["self","first","end"] (ag gQ):=00
abbrev jG:Stmt:=(inClass (top 35) 12)
def f9:ao ["self","number","row","start","stop","place"] ["self","number","row"] (ag jG):=00
abbrev ir:Stmt:=(inClass (top 35) 13)
def ic:ao ["self","place"] ["self"] (ag ir):=00
abbrev rO:Stmt:=(inClass (top 43) 0)
def xJ:ao ["self","k","follows"] ["self","k","follows"] (ag rO):=00
abbrev uU:Stmt:=(inClass (top 44) 0)
def A0:ao ["self","rows","next_number","changes"] ["self","rows","next_number","changes"] (ag uU):=00
abbrev ua:Stmt:=(inClass (top 45) 0)
def Ac:ao ["self"] ["self"] (ag ua):=00
abbrev rR:Stmt:=(inClass (top 45) 1)
def yi:ao ["self"] ["self"] (ag rR):=00
abbrev mP:Stmt:=(inClass (top 45) 2)
def tW:ao ["self","k"] ["self","k"] (ag mP):=00
abbrev jc:Stmt:=(inClass (top 45) 3)
def mZ:ao ["self"] ["self"] (ag jc):=00
abbrev iF:Stmt:=(inClass (top 45) 4)
def lM:ao ["self"] ["self"] (ag iF):=00
abbrev j7:Stmt:=(inClass (top 45) 5)
def hU:ao ["self","number","row","k","order"] ["self","number","row"] (ag j7):=00
abbrev ox:Stmt:=(inClass (top 45) 6)
def n9:ao ["self","number","row","order"] ["self","number","row"] (ag ox):=00
abbrev mf:Stmt:=(inClass (top 45) 7)
def i7:ao ["self","number","row","order"] ["self","number"] (ag mf):=00
abbrev oS:Stmt:=(inClass (top 45) 8)
def vA:ao ["self","rows","next_number"] ["self","rows","next_number"] (ag oS):=00
abbrev lZ:Stmt:=(inClass (top 45) 9)
def lu:ao ["self","order"] ["self"] (ag lZ):=00
abbrev pI:Stmt:=(inClass (top 45) 10)
def xc:ao ["self","other"] ["self","other"] (ag pI):=00
abbrev p6:Stmt:=(inClass (top 45) 11)
def kK:ao ["self","cursor","number","place"] ["self","cursor"] (ag p6):=00
abbrev jL:Stmt:=(inClass (top 45) 12)
def jy:ao ["self","number","row","cursor"] ["self","number","row"] (ag jL):=00
abbrev lr:Stmt:=(inClass (top 45) 13)
def qN:ao ["self"] ["self"] (ag lr):=00
def zI:ao ["table"] ["table"] (ag (top 47)):=00
def sx:ao ["table","unique","codes","order"] ["table","unique","codes"] (ag (top 48)):=00
def kU:ao ["table","number","row","barring"] ["table","number","row"] (ag (top 49)):=00
def rg:ao ["table","row","number","refusal"] ["table","row"] (ag (top 50)):=00
def v5:ao ["table","number","row","refusal"] ["table","number","row"] (ag (top 51)):=00
def Ef:ao ["table","number"] ["table","number"] (ag (top 52)):=00
def rN:ao ["table","k","follows","number"] ["table","k","follows"] (ag (top 54)):=00
def yq:ao ["table","c"] ["table","c"] (ag (top 55)):=00
def sG:ao ["table","c","number","cursor"] ["table","c","number"] (ag (top 56)):=00
def ph:ao ["table","c","behind","key","cursor","number"] ["table","c","behind","key"] (ag (top 57)):=00
def vI:ao ["table","c"] ["table","c"] (ag (top 58)):=00
def vQ:ao ["table","c","cursor"] ["table","c"] (ag (top 59)):=00
def sQ:ao ["table","c","cursor"] ["table","c"] (ag (top 60)):=00
def DH:ao ["table"] ["table"] (ag (top 62)):=00
def wu:ao ["table","mark"] ["table"] (ag (top 63)):=00
def A5:ao ["table"] ["table"] (ag (top 64)):=00
def nN:ao ["value","length","position"] ["value","length"] (ag (top 67)):=00
def lS:ao ["octets","value","octet"] ["octets"] (ag (top 68)):=00
def qj:ao ["octets","octet"] ["octets"] (ag (top 71)):=00
def D7:ao ["codes"] ["codes"] (ag (top 72)):=00
def kJ:ao ["codes","first","second","first_key","second_key"] ["codes","first","second"] (ag (top 73)):=00
def o5:ao ["codes","row","packed","value"] ["codes","row"] (ag (top 74)):=00
def gS:ao ["codes","octets","row","position","code","start","value"] ["codes","octets"] (ag (top 75)):=00
abbrev rP:Stmt:=(inClass (top 77) 0)
def yt:ao ["self","numbers"] ["self","numbers"] (ag rP):=00
abbrev oe:Stmt:=(inClass (top 77) 1)
def uE:ao ["self"] ["self"] (ag oe):=00
abbrev kF:Stmt:=(inClass (top 77) 2)
def kb:ao ["self","number"] ["self"] (ag kF):=00
abbrev kr:Stmt:=(inClass (top 77) 3)
def jK:ao ["self","length","start"] ["self","length"] (ag kr):=00
abbrev mh:Stmt:=(inClass (top 77) 4)
def rU:ao ["self"] ["self"] (ag mh):=00
def nZ:ao ["order","zeros"] ["order"] (ag (top 82)):=00
def lz:ao ["number","row","octets","value"] ["number","row"] (ag (top 83)):=00
def iH:ao ["table","octets","order","number"] ["table"] (ag (top 84)):=00
def gM:ao ["octets","start","rows","length"] ["octets"] (ag (top 85)):=00
def z8:ao ["reader","length"] ["reader","length"] (ag (top 86)):=00
def mF:ao ["reader","codes","code"] ["reader"] (ag (top 87)):=00
def eZ:ao ["reader","table","orders","each","rows","number","field"] ["reader"] (ag (top 88)):=00
def f7:ao ["table","order","number"] ["table"] (ag (top 89)):=00
def rT:ao ["table","octets"] ["table"] (ag (top 90)):=00
def jN:ao ["table","octets","loaded","order"] ["table","octets"] (ag (top 91)):=00
def kQ:ao ["numbers","starts","start"] ["numbers"] (ag (top 101)):=00
def wq:ao ["deeds","position","start"] ["deeds","position"] (ag (top 102)):=00
def qL:ao ["table","number","deed","what","changed"] ["table","number","deed"] (ag (top 103)):=00
def gK:ao ["table","k","most","first","end","deeds","order","place","end_place","told","deed"] ["table","k","most","first","end","deeds"] (ag (top 104)):=00
def En:ao ["table","reader"] ["table","reader"] (ag (top 106)):=00
def rM:ao ["table","reader","unique"] ["table","reader"] (ag (top 107)):=00
def D0:ao ["table","reader"] ["table","reader"] (ag (top 108)):=00
def uW:ao ["table","reader","number"] ["table","reader"] (ag (top 109)):=00
def Cs:ao ["table","reader"] ["table","reader"] (ag (top 110)):=00
def EB:ao ["table","reader"] ["table","reader"] (ag (top 111)):=00
def Eb:ao ["table","reader"] ["table","reader"] (ag (top 112)):=00
def zL:ao ["table","reader"] ["table","reader"] (ag (top 113)):=00
def vd:ao ["table","reader","k"] ["table","reader"] (ag (top 114)):=00
def tD:ao ["table","reader","k"] ["table","reader"] (ag (top 115)):=00
def nE:ao ["table","reader","k","how"] ["table","reader"] (ag (top 116)):=00
def ny:ao ["table","reader","k","first"] ["table","reader"] (ag (top 117)):=00
def lP:ao ["table","reader","k","field","first"] ["table","reader"] (ag (top 118)):=00
def pN:ao ["table","reader","k"] ["table","reader"] (ag (top 119)):=00
def AS:ao ["table","reader"] ["table","reader"] (ag (top 120)):=00
def v_:ao ["table","reader","c"] ["table","reader"] (ag (top 121)):=00
def nq:ao ["table","reader","c","behind"] ["table","reader"] (ag (top 122)):=00
def Gb:ao ["table","reader"] ["table","reader"] (ag (top 123)):=00
def Bf:ao ["table","reader"] ["table","reader"] (ag (top 124)):=00
def Bt:ao ["table","reader"] ["table","reader"] (ag (top 125)):=00
def jd:ao ["table","reader","k","most","first","end"] ["table","reader"] (ag (top 126)):=00
def Bs:ao ["table","reader"] ["table","reader"] (ag (top 127)):=00
def CQ:ao ["table","reader"] ["table","reader"] (ag (top 128)):=00
def BU:ao ["table","reader"] ["table","reader"] (ag (top 129)):=00
def Bo:ao ["table","reader"] ["table","reader"] (ag (top 130)):=00
def A2:ao ["table","reader"] ["table","reader"] (ag (top 131)):=00
def Af:ao ["table","reader"] ["table","reader"] (ag (top 132)):=00
def lG:ao ["table","reader","codes","first"] ["table","reader"] (ag (top 133)):=00
def r_:ao ["table","reader","codes"] ["table","reader"] (ag (top 134)):=00
def pZ:ao ["table","reader","codes"] ["table","reader"] (ag (top 135)):=00
def jw:ao ["calls","table","reader","told","call","answer"] ["calls"] (ag (top 137)):=00
structure aQ where
 cO:Addr
 cC:Addr
 cM:Addr
 cT:Addr
 cR:Addr
 pF:Addr
 pL:Addr
 cs:Addr
 fs:List Addr
structure Txt(K:05)(mg:005)(A:aQ):Prop where
 cg:kq K A.cO
 bQ:kq K A.cC
 m8:kq K A.cM
 ak:kq K A.cT
 fL:kq K A.cR
 iq:dt K A.cO "codes"
 gY:dt K A.cO "unique"
 bH:dt K A.cO "places"
 gE:dt K A.cC "k"
 mO:dt K A.cC "follows"
 b7:dt K A.cC "place"
 sA:dt K A.cM "rows"
 lg:dt K A.cM "next_number"
 ow:dt K A.cM "changes"
 aP:dt K A.cT "rows"
 bg:dt K A.cT "next_number"
 aJ:dt K A.cT "orders"
 bt:dt K A.cT "cursors"
 bW:dt K A.cT "marks"
 fg:dt K A.cT "changes"
 ig:dt K A.cR "numbers"
 di:dt K A.cR "position"
 du:d_ mg "WRONG_FORM" (-1)
 iR:d_ mg "NO_ORDER" (-2)
 eI:d_ mg "NOT_THERE" (-4)
 oI:d_ mg "NO_ROOM" (-3)
 Ey:d_ mg "KEY_TAKEN" (-20)
 ED:d_ mg "SAME_KEYS" (-5)
 oX:d_ mg "MARKS_BAR" (-9)
 qP:d_ mg "NO_TABLE" (-6)
 iK:d_ mg "FIELDS" 4
 uY:d_ mg "LAST_CODE" 16
 wI:d_ mg "ALL_BITS" 18446744073709551615
 GS:d_ mg "SIGN_BIT" 9223372036854775808
 G_:d_ mg "LAST_HOW" 3
 jo:d_ mg "FIRST_NUMBER" 0
 rF:d_ mg "LAST_NUMBER" 4294967295
 kO:Kc K mg "BEFORE_ALL" A.pF ([-1],0)
 sO:Kc K mg "BEHIND_ALL" A.pL ([18446744073709551616],0)
 oP:d_ mg "ROOM_FOR_ROWS" 256
 mQ:d_ mg "ROOM_FOR_ORDERS" 6
 sN:d_ mg "ROOM_FOR_CURSORS" 16
 vk:d_ mg "ROOM_FOR_MARKS" 8
 sk:d_ mg "ROOM_FOR_CHANGES" 512
 mT:d_ mg "LAST_ROW_NUMBER" 2147483647
 iA:d_ mg "FIELD_LENGTH" 8
 rz:d_ mg "PACK_LENGTH" 32
 dY:d_ mg "NUMBER_LENGTH" 4
 yf:d_ mg "ORDER_LENGTH" 5
 CD:d_ mg "ROW_LENGTH" 36
 Ek:d_ mg "MOST_TOLD" 1000
 jV:d_ mg "DEED_LENGTH" 3
 JY:d_ mg "NOTHING" 0
 OC:d_ mg "TAKE" 1
 Qu:d_ mg "SET" 2
 Rh:d_ mg "PUT" 3
 P4:d_ mg "BACK" 4
 L_:d_ mg "END" 5
 bG:mg "len"=none
 qB:mg "all"=none
 Ma:mg "any"=none
 Rg:mg "sum"=none
 Df:mg "sorted"=none
 GL:mg "set"=none
 p8:mg "tuple"=none
 pY:mg "list"=none
 J7:mg "dict"=none
 qJ:mg "reversed"=none
 ng:mg "range"=none
 vb:mg "enumerate"=none
 MY:mg "CALLS"=some (.ref A.cs)
 Nd:∀H,bw K H A.cs (A.fs.map V.ref)
 Lb:aZ K mg "is_row" ["numbers"] (top 13)
 HH:aZ K mg "is_order" ["codes"] (top 14)
 Hi:aZ K mg "field_of" ["code"] (top 15)
 DB:aZ K mg "goes_down" ["code"] (top 16)
 GV:aZ K mg "has_sign" ["code"] (top 17)
 Kq:aZ K mg "turned" ["code","value"] (top 18)
 Ls:aZ K mg "key_of" ["codes","row"] (top 19)
 Ie:aZ K mg "has_row" ["table","number"] (top 22)
 wD:aZ K mg "fields_of_row" ["table","number"] (top 23)
 Kn:aZ K mg "counts" ["table"] (top 24)
 Ib:aZ K mg "nth_row" ["table","k","position"] (top 25)
 z_:aZ K mg "rank_of_row" ["table","k","number"] (top 26)
 HC:aZ K mg "find_row" ["table","k","how","key"] (top 27)
 tj:aZ K mg "how_many_between" ["table","k","first","end"] (top 28)
 Ak:aZ K mg "sum_between" ["table","k","field","first","end"] (top 29)
 CF:tY K mg A.cO "Order" "Order.__init__" ["self","codes","unique"] sY
 vy:eQ K A.cO "place_of" "Order.place_of" ["self","number","fields"] nJ
 uJ:eQ K A.cO "stand_all" "Order.stand_all" ["self","rows"] jD
 Aj:eQ K A.cO "stand" "Order.stand" ["self","number","row"] rG
 zR:eQ K A.cO "leave" "Order.leave" ["self","number","row"] rj
 oo:eQ K A.cO "how_many_before" "Order.how_many_before" ["self","place"] jz
 qI:eQ K A.cO "place_behind" "Order.place_behind" ["self","place"] kM
 qz:eQ K A.cO "place_before" "Order.place_before" ["self","place"] kZ
 mD:eQ K A.cO "how_many_before_key" "Order.how_many_before_key" ["self","key"] iC
 mJ:eQ K A.cO "how_many_up_to_key" "Order.how_many_up_to_key" ["self","key"] iW
 uK:eQ K A.cO "number_at" "Order.number_at" ["self","position"] mV
 oq:eQ K A.cO "numbers_between" "Order.numbers_between" ["self","first","end"] gQ
 uI:eQ K A.cO "has_other" "Order.has_other" ["self","number","row"] jG
 qe:eQ K A.cO "has_same_keys" "Order.has_same_keys" ["self"] ir
 zP:tY K mg A.cC "Cursor" "Cursor.__init__" ["self","k","follows"] rO
 Et:tY K mg A.cM "Mark" "Mark.__init__" ["self","rows","next_number","changes"] uU
 A7:tY K mg A.cT "Table" "Table.__init__" ["self"] ua
 Ai:eQ K A.cT "begin" "Table.begin" ["self"] rR
 uF:eQ K A.cT "has_order" "Table.has_order" ["self","k"] mP
 nI:eQ K A.cT "has_room_for_row" "Table.has_room_for_row" ["self"] jc
 mj:eQ K A.cT "has_room_for_change" "Table.has_room_for_change" ["self"] iF
 pX:eQ K A.cT "barring_order" "Table.barring_order" ["self","number","row"] j7
 wO:eQ K A.cT "add_row" "Table.add_row" ["self","number","row"] ox
 sR:eQ K A.cT "remove_row" "Table.remove_row" ["self","number"] mf
 w4:eQ K A.cT "restore" "Table.restore" ["self","rows","next_number"] oS
 sI:eQ K A.cT "stand_rows" "Table.stand_rows" ["self"] lZ
 xH:eQ K A.cT "become" "Table.become" ["self","other"] pI
 xy:eQ K A.cT "row_at" "Table.row_at" ["self","cursor"] p6
 pq:eQ K A.cT "move_followers" "Table.move_followers" ["self","number","row"] jL
 rW:eQ K A.cT "note_change" "Table.note_change" ["self"] lr
 Dg:aZ K mg "begin_anew" ["table"] (top 47)
 Ec:aZ K mg "add_order" ["table","unique","codes"] (top 48)
 rY:aZ K mg "refusal_of_fields" ["table","number","row"] (top 49)
 J4:aZ K mg "put_row" ["table","row"] (top 50)
 Kj:aZ K mg "set_row" ["table","number","row"] (top 51)
 Gq:aZ K mg "take_row" ["table","number"] (top 52)
 AZ:aZ K mg "add_cursor" ["table","k","follows"] (top 54)
 zK:aZ K mg "drop_cursor" ["table","c"] (top 55)
 D5:aZ K mg "go_to_row" ["table","c","number"] (top 56)
 GP:aZ K mg "seek_key" ["table","c","behind","key"] (top 57)
 wA:aZ K mg "row_at_cursor" ["table","c"] (top 58)
 J_:aZ K mg "step_on" ["table","c"] (top 59)
 Eo:aZ K mg "step_back" ["table","c"] (top 60)
 G9:aZ K mg "set_mark" ["table"] (top 62)
 Ju:aZ K mg "go_back" ["table"] (top 63)
 Eg:aZ K mg "keep_rows" ["table"] (top 64)
 DN:aZ K mg "octets_of" ["value","length"] (top 67)
 GN:aZ K mg "value_of" ["octets"] (top 68)
 Iy:aZ K mg "is_pack" ["octets"] (top 71)
 GD:aZ K mg "is_sound" ["codes"] (top 72)
 x_:aZ K mg "compare_rows" ["codes","first","second"] (top 73)
 G5:aZ K mg "pack_row" ["codes","row"] (top 74)
 CG:aZ K mg "unpack_row" ["codes","octets"] (top 75)
 zN:tY K mg A.cR "Reader" "Reader.__init__" ["self","numbers"] rP
 vv:eQ K A.cR "is_done" "Reader.is_done" ["self"] oe
 qS:eQ K A.cR "read_number" "Reader.read_number" ["self"] kF
 pD:eQ K A.cR "read_numbers" "Reader.read_numbers" ["self","length"] kr
 t9:eQ K A.cR "read_list" "Reader.read_list" ["self"] mh
 xj:aZ K mg "written_order" ["order"] (top 82)
 zH:aZ K mg "written_row" ["number","row"] (top 83)
 xo:aZ K mg "written_table" ["table"] (top 84)
 sL:aZ K mg "has_table_length" ["octets"] (top 85)
 C_:aZ K mg "read_value" ["reader","length"] (top 86)
 Bc:aZ K mg "read_order" ["reader"] (top 87)
 CC:aZ K mg "read_table" ["reader"] (top 88)
 uG:aZ K mg "has_sound_parts" ["table"] (top 89)
 C2:aZ K mg "save_table" ["table"] (top 90)
 B_:aZ K mg "load_table" ["table","octets"] (top 91)
 D9:aZ K mg "are_deeds" ["numbers"] (top 101)
 JH:aZ K mg "deed_of" ["deeds","position"] (top 102)
 Im:aZ K mg "do_deed" ["table","number","deed"] (top 103)
 Eu:aZ K mg "walk_rows" ["table","k","most","first","end","deeds"] (top 104)
 GR:aZ K mg "call_new" ["table","reader"] (top 106)
 C9:aZ K mg "call_order" ["table","reader"] (top 107)
 Gp:aZ K mg "call_put" ["table","reader"] (top 108)
 Gs:aZ K mg "call_set" ["table","reader"] (top 109)
 DW:aZ K mg "call_take" ["table","reader"] (top 110)
 Ga:aZ K mg "call_has" ["table","reader"] (top 111)
 G2:aZ K mg "call_row" ["table","reader"] (top 112)
 Ca:aZ K mg "call_count" ["table","reader"] (top 113)
 Gw:aZ K mg "call_nth" ["table","reader"] (top 114)
 DM:aZ K mg "call_rank" ["table","reader"] (top 115)
 DT:aZ K mg "call_find" ["table","reader"] (top 116)
 El:aZ K mg "call_many" ["table","reader"] (top 117)
 Ha:aZ K mg "call_sum" ["table","reader"] (top 118)
 Ad:aZ K mg "call_cursor" ["table","reader"] (top 119)
 DI:aZ K mg "call_drop" ["table","reader"] (top 120)
 JW:aZ K mg "call_go" ["table","reader"] (top 121)
 DC:aZ K mg "call_seek" ["table","reader"] (top 122)
 Jb:aZ K mg "call_at" ["table","reader"] (top 123)
 DP:aZ K mg "call_next" ["table","reader"] (top 124)
 EE:aZ K mg "call_prev" ["table","reader"] (top 125)
 Ej:aZ K mg "call_walk" ["table","reader"] (top 126)
 DG:aZ K mg "call_mark" ["table","reader"] (top 127)
 DY:aZ K mg "call_back" ["table","reader"] (top 128)
 Ez:aZ K mg "call_keep" ["table","reader"] (top 129)
 EA:aZ K mg "call_save" ["table","reader"] (top 130)
 Ed:aZ K mg "call_load" ["table","reader"] (top 131)
 B0:aZ K mg "call_sound" ["table","reader"] (top 132)
 Ae:aZ K mg "call_before" ["table","reader"] (top 133)
 DQ:aZ K mg "call_pack" ["table","reader"] (top 134)
 Ab:aZ K mg "call_unpack" ["table","reader"] (top 135)
 Rw:aZ K mg "answers" ["calls"] (top 137)
def tf:List Str:=["call_new","call_order","call_put","call_set","call_take","call_has","call_row","call_count","call_nth","call_rank","call_find","call_many","call_sum","call_cursor","call_drop","call_go","call_seek","call_at","call_next","call_prev","call_walk","call_mark","call_back","call_keep","call_save","call_load","call_sound","call_before","call_pack","call_unpack"]
structure pG(mg:005)(A:aQ):Prop where
 len:A.fs.length=30
 at_:∀(p:Nat) (x:Str) (f:Addr),tf[p]? =some x->A.fs[p]? =some f->mg x=some 081
end Bk
section
section
namespace L2
open PySem PySem.Spec PyProof.Rows
open PySem.W (WData Codec OpenSpec Well WellAll ReadsW ReadsAllW)
mutual
inductive Dw (K:05) (H:Hp):V->WData->Prop
 |bS:Dw K H .bS .none
 |bl (b:Bool):Dw K H (.bl b) (.bool b)
 |int (i:Int):Dw K H (.int i) (.int i)
 |str (x:Str):Dw K H (.str x) (.str x)
 |mU (b:Array UInt8):Dw K H (.mU b) (.bytes b.toList)
 |lst {a:Addr} {xs:0012} {ds:List WData}:ax K H a xs->i_ K H xs ds->Dw K H (.ref a) (.list ds)
 |tup {a:Addr} {xs:0012} {ds:List WData}:bw K H a xs->i_ K H xs ds->Dw K H (.ref a) (.tuple ds)
inductive i_ (K:05) (H:Hp):List V->List WData->Prop
 |nil:i_ K H [] []
 |cons {v:V} {vs:0012} {d:WData} {ds:List WData}:Dw K H v d->i_ K H vs ds->i_ K H (v::vs) (d::ds)
end
theorem FP{K:05}{H:Hp}:∀ns:List Int,i_ K H 0065 (ns.map WData.int)
 |[]=>.nil
 |n::r=>.cons (.int n) (FP r)
theorem FU{K:05}{H:Hp}:∀(ns:025) (xs:0012),i_ K H xs (ns.map WData.int)->xs=ns.map V.int
 |[],xs,h=>by
  cases h;rfl
 |n::r,xs,h=>by
  cases h with
  |cons h1 h2=>
   cases h1;rw[FU r _ h2]<;>rfl
section
variable{P:027}{w:066}{K:05}{H:Hp}{h:Heap}{R:PySem.W.WRecords}{cl:Str->Option Addr}
def NO{a:Addr}{xs:0012}(aX:0085)(KX:K.In h)(q:ax K H a xs):∃(its:007) (o:Obj) (n:Nat),Vals xs its/\h.get? a=some o/\o.cls= .type "list"/\o.data= .seq its.toArray n:=by
 rcases q with q|⟨o,its,n,e,hc,_,hd,_,hv⟩
 ·obtain⟨_,its,n,hv,e⟩:=(show eB P w H h a 0090 from q.ok aX);exact⟨its,_,n,hv,e,rfl,rfl⟩
 ·exact⟨its.toList,o,n,hv,KX _ _ e,hc,by simp[hd]⟩
def NH{a:Addr}{xs:0012}(aX:0085)(KX:K.In h)(q:bw K H a xs):∃(its:007) (o:Obj) (n:Nat),Vals xs its/\h.get? a=some o/\o.cls= .type "tuple"/\o.data= .seq its.toArray n:=by
 rcases q with q|⟨o,its,n,e,hc,hd,_,hv⟩
 ·obtain⟨_,its,hv,o,e,hc,n,hd⟩:=(show eB P w H h a 0064 from q.ok aX);exact⟨its,o,n,hv,e,hc,hd⟩
 ·exact⟨its.toList,o,n,hv,KX _ _ e,hc,by simp[hd]⟩
mutual
theorem Dw.reads (aX:0085) (KX:K.In h):∀(d:WData) (v:V) (u:0101),Dw K H v d->RelV v u->∃as,ReadsW R cl h u d as
 |.none,_,_,x,r=>by
  cases x
  cases r
  exact⟨_,ReadsW.none⟩
 |.bool b,_,_,x,r=>by
  cases x
  cases r
  exact⟨_,ReadsW.bool b⟩
 |.int i,_,_,x,r=>by
  cases x
  obtain⟨t,rfl⟩:=r
  exact⟨_,ReadsW.int i t⟩
 |.str s,_,_,x,r=>by
  cases x
  obtain⟨t,rfl⟩:=r
  exact⟨_,ReadsW.str s t⟩
 |.bytes b,_,_,x,r=>by
  cases x
  obtain⟨t,rfl⟩:=r
  exact⟨_,ReadsW.bytes _ t⟩
 |.list ds,_,_,x,r=>by
  cases x with
  |lst hs ha=>
   cases r
   obtain⟨its,o,n,rv,ho,hc,hd⟩:=NO aX KX hs
   obtain⟨as,hr⟩:=Dw.readsAll aX KX ds _ its ha rv
   exact⟨_,ReadsW.list ho hc hd hr⟩
 |.tuple ds,_,_,x,r=>by
  cases x with
  |tup hs ha=>
   cases r
   obtain⟨its,o,n,rv,ho,hc,hd⟩:=NH aX KX hs
   obtain⟨as,hr⟩:=Dw.readsAll aX KX ds _ its ha rv
   exact⟨_,ReadsW.tuple ho hc hd hr⟩
 |.float _,_,_,x,_=>by cases x
 |.dict _,_,_,x,_=>by cases x
 |.bytearray _,_,_,x,_=>by cases x
 |.set _,_,_,x,_=>by cases x
 |.frozenset _,_,_,x,_=>by cases x
 |.obj _ _,_,_,x,_=>by cases x
theorem Dw.readsAll (aX:0085) (KX:K.In h):∀(ds:List WData) (vs:0012) (us:007),i_ K H vs ds->Vals vs us->∃as,ReadsAllW R cl h us ds as
 |[],_,_,x,r=>by
  cases x
  cases r
  exact⟨_,ReadsAllW.nil⟩
 |d::ds,_,_,x,r=>by
  cases x with
  |cons h1 h2=>
   cases r with
   |cons r1 r2=>
    obtain⟨as,q1⟩:=Dw.reads aX KX d _ _ h1 r1
    obtain⟨bs,q2⟩:=Dw.readsAll aX KX ds _ _ h2 r2
    exact⟨_,ReadsAllW.cons q1 q2⟩
end
end
mutual
def oE:WData->Bool
 |.none=>true
 |.bool _=>true
 |.int _=>true
 |.str _=>true
 |.bytes _=>true
 |.list xs=>mH xs
 |.tuple xs=>mH xs
 |_=>false
def mH:List WData->Bool
 |[]=>true
 |x::r=>oE x&&mH r
end
theorem Dq{α:Type}{f:α->WData}(h:∀a,oE (f a)=true):∀l:List α,mH (l.map f)=true
 |[]=>rfl
 |x::r=>by
  show(oE (f x)&&mH (r.map f))=true;rw[h x,Dq h r]<;>rfl
theorem l9:∀(c:Codec) (a:c.denote),oE (c.enc a)=true
 |.unit,_=>rfl
 |.bool,_=>rfl
 |.int _ _,_=>rfl
 |.nat _ _,_=>rfl
 |.u8,_=>rfl
 |.bytes _ _,_=>rfl
 |.text _ _ _ _,_=>rfl
 |.list _ _ c,a=>Dq (λx=>l9 c x) a
 |.pair c d,a=>by
  show(oE (c.enc a.1)&&(oE (d.enc a.2)&&true))=true;rw[l9 c a.1,l9 d a.2]<;>rfl
 |.triple c d e,a=>by
  show(oE (c.enc a.1)&&(oE (d.enc a.2.1)&&(oE (e.enc a.2.2)&&true)))=true;rw[l9 c a.1,l9 d a.2.1,l9 e a.2.2]<;>rfl
 |.option c,none=>rfl
 |.option c,some x=>l9 c x
theorem yw:∀(cs:List Codec) (a:Codec.denoteAll cs),mH (Codec.encAll cs a)=true
 |[],_=>rfl
 |c::cs,a=>by
  show(oE (c.enc a.1)&&mH (Codec.encAll cs a.2))=true;rw[l9 c a.1,yw cs a.2]<;>rfl
theorem qE:∀{xs:List WData} {d:WData},d∈xs->d.weight<=WData.weightAll xs
 |[],d,h=>absurd h 017
 |x::r,d,h=>by
  show d.weight<=x.weight+1+WData.weightAll r;rcases aao.mp h with e|m
  ·rw[e];omega
  ·have z:=qE m;omega
def toV:Value->V
 |.none=>.bS
 |.bool b=>.bl b
 |.int i _=>.int i
 |.str x _=>.str x
 |.bytes b _=>.mU b
 |.ref a=>.ref a
 |_=>.bS
def p_(A:016):Value->Prop
 |.none=>True
 |.bool _=>True
 |.int _ _=>True
 |.str _ _=>True
 |.bytes _ _=>True
 |.ref a=>a∈A
 |_=>False
def p_.mono{A B:016}(h:∀a∈A,a∈B):∀{u:0101},p_ A u->p_ B u:=λ{u} x=>by
 cases u with
 |ref a=>exact h a x
 |none=>trivial
 |bool b=>trivial
 |int i t=>trivial
 |str s t=>trivial
 |bytes b t=>trivial
 |_=>exact False.elim x
def Ko{A:016}{u:0101}(x:p_ A u):RelV (toV u) u:=by
 cases u with
 |ref a=>rfl
 |none=>rfl
 |bool b=>rfl
 |int i t=>exact⟨t,rfl⟩
 |str s t=>exact⟨t,rfl⟩
 |bytes b t=>exact⟨t,rfl⟩
 |_=>exact False.elim x
theorem lC{A:016}:∀{vs:007},(∀u∈vs,p_ A u)->Vals (vs.map toV) vs
 |[],_=>.nil
 |u::r,h=>.cons (Ko (h u (aae ..))) (lC λx hx=>h x (aag _ hx))
def jO(h:Heap)(A:016)(a:Addr):Prop:=∃vs:List Value,090<=sizeLine/\(∀u∈vs,p_ A u)/\
 (h.get? a=some {cls:=.type "list",data:=.seq 083}\/h.get? a=some {cls:=.type "tuple",data:=.seq 083})
def jO.mono{h:Heap}{A B:016}{a:Addr}(k:∀a∈A,a∈B)(x:jO h A a):jO h B a:=by
 obtain⟨vs,h1,h2,h3⟩:=x;exact⟨vs,h1,λu hu=>(h2 u hu).mono k,h3⟩
theorem lT{P:Params}{h:Heap}:∀{vs:007} {ds:List WData},WellAll P h vs ds->090=ds.length
 |_,_,.nil=>rfl
 |_,_,.cons _ b=>by
  show _+1=_+1;rw[lT b]
def zD{P:Params}{h:Heap}{v:0101}{ds:List WData}(x:Well P h v (.list ds)):∃(a:Addr) (vs:007),v= .ref a/\h.get? a=some {cls:=.type "list",data:=.seq 083}/\WellAll P h vs ds:=by
 cases x with
 |list ho hall=>exact⟨_,_,rfl,ho,hall⟩
def xf{P:Params}{h:Heap}{v:0101}{ds:List WData}(x:Well P h v (.tuple ds)):∃(a:Addr) (vs:007),v= .ref a/\h.get? a=some {cls:=.type "tuple",data:=.seq 083}/\WellAll P h vs ds:=by
 cases x with
 |tuple ho hall=>exact⟨_,_,rfl,ho,hall⟩
def zE{P:Params}{h:Heap}{us:007}{d:WData}{ds:List WData}(x:WellAll P h us (d::ds)):∃(v:0101) (vs:007),us=v::vs/\Well P h v d/\WellAll P h vs ds:=by
 cases x with
 |cons a b=>exact⟨_,_,rfl,a,b⟩
def EM{n:Nat}(h:n<=1048576):n<=sizeLine:=aa8 h 0010
section
variable{P:Params}{h:Heap}
mutual
theorem K3:∀(d:WData) (v:0101),Well P h v d->oE d=true->d.weight<=1048576->∃A:List Addr,p_ A v/\∀a∈A,jO h A a
 |.none,_,x,_,_=>by
  cases x
  exact 0047
 |.bool b,_,x,_,_=>by
  cases x
  exact 0047
 |.int i,_,x,_,_=>by
  cases x
  exact 0047
 |.str s,_,x,_,_=>by
  cases x
  exact 0047
 |.bytes b,_,x,_,_=>by
  cases x
  exact 0047
 |.list ds,_,x,p,z=>by
  obtain⟨a,vs,rfl,ho,hall⟩:=zD x
  have z2:WData.weightAll ds<=1048576:=z
  obtain⟨A,h1,h2⟩:=qv ds _ hall p λd hd=>Nat.le_trans (qE hd) z2
  have k:∀b∈A,b∈a::A:=λb hb=>List.mem_cons_of_mem _ hb
  refine⟨a::A,List.mem_cons_self ..,052⟩
  rcases List.mem_cons.mp hb with e|m
  ·rw[e]
   exact⟨vs,EM (by rw[lT hall];exact Nat.le_trans (PySem.W.length_le_weightAllW ds) z2),λu hu=>(h1 u hu).mono k,.inl ho⟩
  ·exact(h2 b m).mono k
 |.tuple ds,_,x,p,z=>by
  obtain⟨a,vs,rfl,ho,hall⟩:=xf x
  have z2:WData.weightAll ds<=1048576:=z
  obtain⟨A,h1,h2⟩:=qv ds _ hall p λd hd=>Nat.le_trans (qE hd) z2
  have k:∀b∈A,b∈a::A:=λb hb=>List.mem_cons_of_mem _ hb
  refine⟨a::A,List.mem_cons_self ..,052⟩
  rcases List.mem_cons.mp hb with e|m
  ·rw[e]
   exact⟨vs,EM (by rw[lT hall];exact Nat.le_trans (PySem.W.length_le_weightAllW ds) z2),λu hu=>(h1 u hu).mono k,.inr ho⟩
  ·exact(h2 b m).mono k
 |.float _,_,_,p,_=>Bool.noConfusion 059
 |.dict _,_,_,p,_=>Bool.noConfusion 059
 |.bytearray _,_,_,p,_=>Bool.noConfusion 059
 |.set _,_,_,p,_=>Bool.noConfusion 059
 |.frozenset _,_,_,p,_=>Bool.noConfusion 059
 |.obj _ _,_,_,p,_=>Bool.noConfusion 059
theorem qv:∀(ds:List WData) (vs:007),WellAll P h vs ds->mH ds=true->(∀d∈ds,d.weight<=1048576)->∃A:List Addr,(∀u∈vs,p_ A u)/\∀a∈A,jO h A a
 |[],_,x,_,_=>by
  cases x
  exact⟨[],λu m=>absurd m 017,λa m=>absurd m 017⟩
 |d::ds,_,x,p,z=>by
  obtain⟨v,vs,rfl,x1,x2⟩:=zE x
  have q:oE d=true/\mH ds=true:=Bool.and_eq_true_iff.mp p
  obtain⟨A,a1,a2⟩:=K3 d v x1 q.1 (z d (List.mem_cons_self ..))
  obtain⟨B,b1,b2⟩:=qv ds vs x2 q.2 λe he=>z e (List.mem_cons_of_mem _ he)
  have kA:∀b∈A,b∈A++B:=λb hb=>List.mem_append.mpr (.inl hb)
  have kB:∀b∈B,b∈A++B:=λb hb=>List.mem_append.mpr (.inr hb)
  refine⟨A++B,λu hu=>?_,052⟩
  ·rcases List.mem_cons.mp hu with e|m
   ·rw[e]
    exact a1.mono kA
   ·exact(b1 u m).mono kB
  ·rcases List.mem_append.mp hb with m|m
   ·exact(a2 b m).mono kA
   ·exact(b2 b m).mono kB
end
end
def HA(o:Obj):Option HO:=match o.data with
 |.seq vs _=>if(o.cls==Value.type "list")=true then some (.bK o (.lst (vs.toList.map toV))) else some (.bK o (.tup (vs.toList.map toV)))
 |_=>none
def iM(K:05)(h:Heap)(A:016):Hp:=λb=>if b∈A then(if(K.lookup b).isNone=true then(h.get? b).bind HA else none) else none
def oM(H:Hp):Prop:=∀b,H b=none\/∃o u,H b=some (.bK o u)
def Dv(vs:007):HA {cls:=.type "list",data:=.seq 083}=some (.bK {cls:=.type "list",data:=.seq 083} (.lst (vs.map toV))):=by
 show(if(Value.type "list"==Value.type "list")=true then some (HO.bK {cls:=.type "list",data:=.seq 083} (.lst (vs.toArray.toList.map toV))) else some (HO.bK {cls:=.type "list",data:=.seq 083} (.tup (vs.toArray.toList.map toV))))=_;rw[aav (aca _)]
def AJ(vs:007):HA {cls:=.type "tuple",data:=.seq 083}=some (.bK {cls:=.type "tuple",data:=.seq 083} (.tup (vs.map toV))):=by
 show(if(Value.type "tuple"==Value.type "list")=true then some (HO.bK {cls:=.type "tuple",data:=.seq 083} (.lst (vs.toArray.toList.map toV))) else some (HO.bK {cls:=.type "tuple",data:=.seq 083} (.tup (vs.toArray.toList.map toV))))=_;rw[aan 0010]
section
variable{P:027}{w:066}{K:05}{h:Heap}{A:016}
def uv{b:Addr}{o:Obj}(hb:b∈A)(hk:K.lookup b=none)(e:h.get? b=some o):iM K h A b=HA o:=by
 unfold iM;rw[aav hb,hk,aav (show(none:Option Obj).isNone=true from rfl),e]<;>rfl
def MR{b:Addr}{u:HO}(q:iM K h A b=some u):b∈A/\K.lookup b=none:=by
 unfold iM at q;by_cases hb:b∈A
 ·rw[aav hb] at q
  cases hk:K.lookup b with
  |none=>exact⟨hb,rfl⟩
  |some o=>
   rw[hk,aan 017] at q;cases q
 ·rw[aan hb] at q;cases q
def ur(ar:∀a∈A,jO h A a){b:Addr}{u:HO}(q:iM K h A b=some u):K.lookup b=none/\∃vs:List Value,090<=sizeLine/\(∀u∈vs,p_ A u)/\((h.get? b=some {cls:=.type "list",data:=.seq 083}/\u= .bK {cls:=.type "list",data:=.seq 083} (.lst (vs.map toV)))\/(h.get? b=some {cls:=.type "tuple",data:=.seq 083}/\u= .bK {cls:=.type "tuple",data:=.seq 083} (.tup (vs.map toV)))):=by
 obtain⟨hb,hk⟩:=MR q;obtain⟨vs,h1,h2,h3⟩:=ar b hb;refine⟨hk,vs,h1,h2,?_⟩;rcases h3 with e|e
 ·rw[uv hb hk e,Dv] at q;exact .inl ⟨e,(aac q).symm⟩
 ·rw[uv hb hk e,AJ] at q;exact .inr ⟨e,(aac q).symm⟩
def IU(ar:∀a∈A,jO h A a):oM (iM K h A):=λb=>by
 cases q:iM K h A b with
 |none=>exact .inl rfl
 |some u=>
  obtain⟨_,vs,_,_,⟨_,e⟩|⟨_,e⟩⟩:=ur ar q
  ·exact .inr ⟨_,_,by rw[e]⟩
  ·exact .inr ⟨_,_,by rw[e]⟩
def My(ar:∀a∈A,jO h A a):gk P w (iM K h A) h:=λb u q=>by
 obtain⟨_,vs,h1,h2,⟨e,rfl⟩|⟨e,rfl⟩⟩:=ur ar q
 ·exact⟨e,by rw[aaa];exact h1,vs,_,lC h2,e⟩
 ·exact⟨e,by rw[aaa];exact h1,vs,lC h2,_,e,rfl,_,rfl⟩
def uq{c c':0101}{vs us:007}(e:(some {cls:=c,data:=.seq 083}:Option Obj)=some {cls:=c',data:=.seq us.toArray}):c=c'/\vs=us:=by
 have e1:=aac e;have e2:c=c':=aby Obj.cls e1;have e3:Data.seq 083=Data.seq us.toArray:=aby Obj.data e1;injection e3 with e4;refine⟨e2,?_⟩;have e5:=aby Array.toList e4;simpa using e5
def RK(KX:K.In h)(ar:∀a∈A,jO h A a){a:Addr}{vs:007}(ha:a∈A)(e:h.get? a=some {cls:=.type "list",data:=.seq 083}):(∀u∈vs,p_ A u)/\ax K (iM K h A) a (vs.map toV):=by
 obtain⟨us,h1,h2,h3⟩:=ar a ha
 have hu:us=vs:=by
  rcases h3 with q|q
  ·rw[e] at q;exact(uq q).2.symm
  ·rw[e] at q;exact absurd (acP (uq q).1) (by decide)
 subst hu;refine⟨h2,?_⟩
 cases hk:K.lookup a with
 |none=>exact .inl (.inr ⟨_,by rw[uv ha hk e,Dv]⟩)
 |some o=>
  have e2:=KX a o hk;rw[e] at e2;obtain rfl:=aac e2;exact .inr ⟨_,us.toArray,_,hk,rfl,rfl,rfl,by rw[aaz];exact h1,by simpa using lC h2⟩
def RL(KX:K.In h)(ar:∀a∈A,jO h A a){a:Addr}{vs:007}(ha:a∈A)(e:h.get? a=some {cls:=.type "tuple",data:=.seq 083}):(∀u∈vs,p_ A u)/\bw K (iM K h A) a (vs.map toV):=by
 obtain⟨us,h1,h2,h3⟩:=ar a ha
 have hu:us=vs:=by
  rcases h3 with q|q
  ·rw[e] at q;exact absurd (acP (uq q).1) (by decide)
  ·rw[e] at q;exact(uq q).2.symm
 subst hu;refine⟨h2,?_⟩
 cases hk:K.lookup a with
 |none=>exact .inl (.inr ⟨_,by rw[uv ha hk e,AJ]⟩)
 |some o=>
  have e2:=KX a o hk;rw[e] at e2;obtain rfl:=aac e2;exact .inr ⟨_,us.toArray,_,hk,rfl,rfl,by rw[aaz];exact h1,by simpa using lC h2⟩
mutual
theorem Oz {Pm:Params} (KX:K.In h) (ar:∀a∈A,jO h A a):∀(d:WData) (v:0101),Well Pm h v d->oE d=true->p_ A v->Dw K (iM K h A) (toV v) d
 |.none,_,x,_,_=>by
  cases x
  exact .bS
 |.bool b,_,x,_,_=>by
  cases x
  exact .bl b
 |.int i,_,x,_,_=>by
  cases x
  exact .int i
 |.str s,_,x,_,_=>by
  cases x
  exact .str s
 |.bytes b,_,x,_,_=>by
  cases x
  have z:=Dw.mU (K:=K) (H:=iM K h A) b.toArray
  exact z
 |.list ds,_,x,p,hu=>by
  obtain⟨a,vs,rfl,ho,hall⟩:=zD x
  obtain⟨h2,hs⟩:=RK KX ar hu ho
  exact .lst hs (vS KX ar ds _ hall p h2)
 |.tuple ds,_,x,p,hu=>by
  obtain⟨a,vs,rfl,ho,hall⟩:=xf x
  obtain⟨h2,hs⟩:=RL KX ar hu ho
  exact .tup hs (vS KX ar ds _ hall p h2)
 |.float _,_,_,p,_=>Bool.noConfusion 059
 |.dict _,_,_,p,_=>Bool.noConfusion 059
 |.bytearray _,_,_,p,_=>Bool.noConfusion 059
 |.set _,_,_,p,_=>Bool.noConfusion 059
 |.frozenset _,_,_,p,_=>Bool.noConfusion 059
 |.obj _ _,_,_,p,_=>Bool.noConfusion 059
theorem vS {Pm:Params} (KX:K.In h) (ar:∀a∈A,jO h A a):∀(ds:List WData) (vs:007),WellAll Pm h vs ds->mH ds=true->(∀u∈vs,p_ A u)->i_ K (iM K h A) (vs.map toV) ds
 |[],_,x,_,_=>by
  cases x
  exact .nil
 |d::ds,_,x,p,hu=>by
  obtain⟨v,vs,rfl,x1,x2⟩:=zE x
  have q:oE d=true/\mH ds=true:=Bool.and_eq_true_iff.mp p
  exact .cons (Oz KX ar d v x1 q.1 (hu _ (List.mem_cons_self ..))) (vS KX ar ds vs x2 q.2 λu m=>hu u (List.mem_cons_of_mem _ m))
end
end
def HL{P:027}{w:066}{K:05}{mg mb:005}{CX:oK}{k:Nat}{fa:Addr}{fd:FuncData}{ps:087}{sp:Sp}{s₁:0016}{vals:007}{ds:List WData}{R:PySem.W.WRecords}{cl:Str->Option Addr}{d0:WData}(KX:K.In s₁.heap)(hns:s₁.heap.Ns mainGlobals mg)(hb:s₁.heap.Ns builtinsNs mb)(hbb:∀x:Str,x≠"__name__"->mb x=bootBuiltins x)(hlim:s₁.heap.NoLimit)(hg:s₁.gens= #[])(hwl:WellAll w.params s₁.heap vals ds)(hpl:mH ds=true)(hwt:∀d∈ds,d.weight<=1048576)(hr:dr k callerA)(F:∀base:Heap,K.In base->base.Ns mainGlobals mg->gv P w K mg base CX k fa fd ps sp)(hbind:∀(s:0016) (us:007),us.length=ps.length->BindsTo s fd ⟨us,[]⟩ (ps.zip us))(hlen:ds.length=ps.length)(hsp:∀(H:Hp) (xs:0012),oM H->i_ K H xs ds->sp xs H (λv H'=>Dw K H' v d0) λ_ _ _=>False)(hCX:∀H e s',CX [] H s₁ (λ_ _ _=>False) e s'->False):codeAny (model P w) callerA (.call (.ref fa) ⟨vals,[]⟩) (λr s'=>∃u as,r= .ok (.ret u)/\ReadsW R cl s'.heap u d0 as/\OldK s₁.heap s'.heap/\s'.os=s₁.os/\AllBare s'.gens) s₁:=by
 obtain⟨A,ho,ar⟩:=qv ds vals hwl hpl hwt;have hO:oM (iM K s₁.heap A):=IU ar;have aX:gk P w (iM K s₁.heap A) s₁.heap:=My ar;have hS:=vS KX ar ds vals hwl hpl ho;have hV:=lC ho;have hK:∀b u,iM K s₁.heap A b=some u->K.lookup b=none:=λb u q=>(ur ar q).1
 have noA:∀{b:Addr} {o:Obj} {es:Array DictEntry} {ep:Nat},s₁.heap.get? b=some o->o.data= .dict es ep->iM K s₁.heap A b=none:=λ{b o es ep} e d=>by
  cases q:iM K s₁.heap A b with
  |none=>rfl
  |some u=>
   obtain⟨_,vs,_,_,⟨e2,_⟩|⟨e2,_⟩⟩:=ur ar q
   ·rw[e2] at e;cases e;have d':Data.seq vs.toArray _=Data.dict es ep:=d;cases d'
   ·rw[e2] at e;cases e;have d':Data.seq vs.toArray _=Data.dict es ep:=d;cases d'
 generalize iM K s₁.heap A=H at hO aX hS hK noA;have base_of:∀{b:Addr} {o:Obj},s₁.heap.get? b=some o->H b=none->(qW s₁.heap H).get? b=some o:=λe n=>Lc e n;have nsK:∀{b:Addr} {m:005},s₁.heap.Ns b m->(qW s₁.heap H).Ns b m:=λ{b m} ⟨o,es,ep,e,d,r⟩=>⟨o,es,ep,base_of e (noA e d),d,r⟩
 have nK:∀b o,K.lookup b=some o->H b=none:=λb o e=>by
  cases q:H b with
  |none=>rfl
  |some u=>
   rw[hK b u q] at e;cases e
 have hKb:K.In (qW s₁.heap H):=λb o e=>base_of (KX b o e) (nK b o e);have hM:Mod K mg (qW s₁.heap H):=⟨hKb,nsK hns,⟨mb,nsK hb,hbb⟩,let⟨mc,h1,h2⟩:=hlim;⟨mc,nsK h1,h2⟩⟩;have e0:vC P w K mg (qW s₁.heap H) callerA [] s₁ H:=⟨rfl,hM,λb o e=>MC e,ad4 (JT _ _),trivial,λb hb=>absurd (show b∈([]:List Addr) from hb) 017,aX,.of_eq hg⟩;have hl:vals.length=ps.length:=by rw[lT hwl];exact hlen
 refine ady ((F _ hKb (nsK hns)).run callerA [] s₁ H ⟨vals,[]⟩ vals (vals.map toV) _ _ hr e0 (hbind s₁ vals hl) hV (hsp H _ hO hS)) λr s' x=>?_
 cases r with
 |error e=>exact(hCX H e s' x).elim
 |ok fl=>
  cases fl with
  |next=>exact False.elim x
  |brk=>exact False.elim x
  |cont=>exact False.elim x
  |ret u=>
   obtain⟨v,H',os,bare,un,hok',r',q⟩:=x
   have kept:∀b o,s₁.heap.get? b=some o->s'.heap.get? b=some o:=λb o e=>by
    cases q2:H b with
    |none=>exact un.keep b o e q2 (by intro z;exact absurd (show b∈([]:List Addr) from z) 017) 017
    |some u2=>
     rcases hO b with z|⟨ob,u3,z⟩
     ·rw[q2] at z;cases z
     ·have z2:=un.eM b ob _ z;obtain⟨e1,_⟩:=aX b _ z;obtain⟨e2,_⟩:=hok' b _ z2;rw[e] at e1;cases e1;exact e2
   have KX':K.In s'.heap:=λb o e=>kept b o (KX b o e);obtain⟨as,hrd⟩:=Dw.reads (R:=R) (cl:=cl) hok' KX' d0 v u q r';exact⟨u,as,rfl,hrd,OldK.of_keep kept,os,bare⟩
def xP{ds:List WData}(h:WData.layableAll ds=true):∀d∈ds,d.weight<=1048576:=λd hd=>
 (PySem.W.layableW_iff.mp (aa3.mp h d hd)).2.2
theorem wd:∀(cs:List Codec) (a:Codec.denoteAll cs),(Codec.encAll cs a).length=cs.length
 |[],_=>rfl
 |c::cs,a=>by
  show(Codec.encAll cs a.2).length+1=cs.length+1;rw[wd cs a.2]
def JB{r:OpenSpec}{k:Nat}{q:027}{loose:087}{XP:(Str->Option Value)->Heap->Prop}{YP:World->Heap->Prop}{d:DefRec}{K:Params->PySem.W.Frag}{CX:World->oK}{ps:087}{sp:World->Sp}(hwell:r.wellSaid=true)(hdf:d.params.defaults=[])(hlen:r.args.length=ps.length)(hr:dr k callerA)(hY:∀(w:066) (h:Heap),YP w h->(K w.params).In h)(F:∀(w:066) (mg:005) (fa:Addr) (h:Heap),YP w h->(K w.params).In h->h.Ns mainGlobals mg->mg d.name=some (.ref fa)->∃fd:FuncData,(∀(s:0016) (us:007),us.length=ps.length->BindsTo s fd ⟨us,[]⟩ (ps.zip us))/\∀base:Heap,(K w.params).In base->base.Ns mainGlobals mg->gv r.prog w (K w.params) mg base (CX w) k fa fd ps (sp w))(hsp:∀(w:066) (H:Hp) (xs:0012) (a:Codec.denoteAll r.args),oM H->Codec.withinAll r.args a=true->Codec.app r.args r.asked a=true->i_ (K w.params) H xs (Codec.encAll r.args a)->sp w xs H (λv H'=>Dw (K w.params) H' v (r.ret.enc (Codec.app r.args r.f a))) λ_ _ _=>False)(hCX:∀(w:066) (H:Hp) (s:0016) (e:0101) (s':0016),CX w [] H s (λ_ _ _=>False) e s'->False):PySem.W.WalkOS q loose XP YP r d [] (λf vs=>PySem.call f vs):=by
 intro w j6 s₁ mg mb G Y fa o pm cd doc dV kV ho hd gD hD hmg hg args vals as hpre hlay hrd hwl hlo;obtain⟨a,e1,e2⟩:=PySem.W.os_pre_some hpre;obtain⟨e3,hwi⟩:=Codec.encAll_of_decAll r.args args a e1;subst e3;have KX:=hY w _ Y;obtain⟨fd,hb,hF⟩:=F w mg fa _ Y KX G.T.g hmg;refine PySem.W.enter_call (ady (HL (R:=[]) (cl:=classAt j6.heap) (d0:=r.ret.enc (Codec.app r.args r.f a)) KX G.T.g G.T.b G.T.builtins G.T.nolimit hg hwl (yw _ _) (xP hlay) hr hF hb (by rw[wd];exact hlen) (λH xs hO hS=>hsp w H xs a hO hwi e2 hS) λH e s'=>hCX w H s₁ e s') λr' s' hq=>?_);obtain⟨u,as',rfl,h1,h2,h3,h4⟩:=hq;exact⟨.inl ⟨u,_,as',rfl,λ_=>rfl,h1,(OpenSpec.post_iff hwell hwi _ _).mpr rfl,λz=>Bool.noConfusion (show false=true from z)⟩,h2,h3,h4⟩
def Q6{r:OpenSpec}{k:Nat}{q:027}{loose:087}{XP:(Str->Option Value)->Heap->Prop}{YP:World->Heap->Prop}{d:DefRec}{K:Params->PySem.W.Frag}{CX:oK}{ps:087}{sp:PySem.W.Frag->Sp}(hwell:r.wellSaid=true)(hdf:d.params.defaults=[])(hlen:r.args.length=ps.length)(hr:dr k callerA)(hY:∀(w:066) (h:Heap),YP w h->(K w.params).In h)(F:∀(w:066) (mg:005) (fa:Addr) (h:Heap),YP w h->(K w.params).In h->h.Ns mainGlobals mg->mg d.name=some (.ref fa)->∃fd:FuncData,(∀(s:0016) (us:007),us.length=ps.length->BindsTo s fd ⟨us,[]⟩ (ps.zip us))/\∀base:Heap,(K w.params).In base->base.Ns mainGlobals mg->gv r.prog w (K w.params) mg base CX k fa fd ps (sp (K w.params)))(hsp:∀(K:05) (H:Hp) (xs:0012) (a:Codec.denoteAll r.args),oM H->Codec.withinAll r.args a=true->Codec.app r.args r.asked a=true->i_ K H xs (Codec.encAll r.args a)->sp K xs H (λv H'=>Dw K H' v (r.ret.enc (Codec.app r.args r.f a))) λ_ _ _=>False)(hCX:∀(H:Hp) (s:0016) (e:0101) (s':0016),CX [] H s (λ_ _ _=>False) e s'->False):PySem.W.WalkOS q loose XP YP r d [] (λf vs=>PySem.call f vs):=
 JB (K:=K) (CX:=λ_=>CX) (sp:=λw=>sp (K w.params)) hwell hdf hlen hr hY F (λw H xs a h1 h2 h3 h4=>hsp (K w.params) H xs a h1 h2 h3 h4) λ_ H s e s'=>hCX H s e s'
end L2
end
end
namespace Bk
open PySem PySem.Spec PyProof.Rows L2
section
variable{K:05}{h:Heap}{mg:005}{x qual m:Str}{ps:087}{st:Stmt}{f C:Addr}{od an:0088}{sl:0061}{oc kV dc pm cd ct:0101}
def Sf(X:K.In h)(G:h.Ns mainGlobals mg)(a:PySem.W.nsIn K mainGlobals x=some (some 081))(l:K.lookup f=some ⟨oc,od,.func (PySem.W.fnOf x x (ik st) (fJ st) (ag st) .none kV dc pm an cd ct),sl⟩)(c:PySem.W.codeIn K cd x=true)(k:PySem.W.keepIn K 081=true)(b:∀(kV doc pm:0101) (an:0088) (cdv ct:0101) (us:007),us.length=ps.length->bindArgs (PySem.W.fnOf x x (ik st) (fJ st) (ag st) .none kV doc pm an cdv ct) ⟨us,[]⟩=pure (ps.zip us)):aZ K mg x ps st:=
 ⟨f,_,ac5 X G a,nP l c k,(nP l c k).binds b⟩
def Sd(cl:kq K C)(a:PySem.W.findIn K (.ref C) m=some (some 081))(i:PySem.W.isFn K 081=true)(l:K.lookup f=some ⟨oc,od,.func (PySem.W.fnOf m qual (ik st) (fJ st) (ag st) .none kV dc pm an cd ct),sl⟩)(c:PySem.W.codeIn K cd qual=true)(k:PySem.W.keepIn K 081=true)(b:∀(kV doc pm:0101) (an:0088) (cdv ct:0101) (us:007),us.length=ps.length->bindArgs (PySem.W.fnOf m qual (ik st) (fJ st) (ag st) .none kV doc pm an cdv ct) ⟨us,[]⟩=pure (ps.zip us)):eQ K C m qual ps st:=
 ⟨f,_,cl,⟨a,i,k⟩,nP l c k,(nP l c k).binds b⟩
def Sg(X:K.In h)(G:h.Ns mainGlobals mg)(e:PySem.W.nsIn K mainGlobals x=some (some (.ref C)))(mk:PySem.W.makesIn K C=true)(kc:PySem.W.keepIn K (.ref C)=true)(a:PySem.W.findIn K (.ref C) "__init__"=some (some 081))(i:PySem.W.isFn K 081=true)(l:K.lookup f=some ⟨oc,od,.func (PySem.W.fnOf "__init__" qual (ik st) (fJ st) (ag st) .none kV dc pm an cd ct),sl⟩)(c:PySem.W.codeIn K cd qual=true)(k:PySem.W.keepIn K 081=true)(b:∀(kV doc pm:0101) (an:0088) (cdv ct:0101) (us:007),us.length=ps.length->bindArgs (PySem.W.fnOf "__init__" qual (ik st) (fJ st) (ag st) .none kV doc pm an cdv ct) ⟨us,[]⟩=pure (ps.zip us)):tY K mg C x qual ps st:=
 ⟨f,_,ac5 X G e,⟨mk,a,i,kc⟩,nP l c k,(nP l c k).binds b⟩
def Se{n:Int}{t:Tok}(X:K.In h)(G:h.Ns mainGlobals mg)(a:PySem.W.nsIn K mainGlobals x=some (some (.int n t))):d_ mg x n:=⟨t,ac5 X G a⟩
def Sl{a k:Addr}{i j:Int}{t t':Tok}{n n':Nat}{od':0088}{sl':0061}(X:K.In h)(G:h.Ns mainGlobals mg)(e:PySem.W.nsIn K mainGlobals x=some (some 046))(l:K.lookup a=some ⟨.type "tuple",od,.seq #[.ref k,.int j t] n,sl⟩)(l':K.lookup k=some ⟨.type "tuple",od',.seq #[.int i t'] n',sl'⟩):Kc K mg x a ([i],j):=
 ⟨ac5 X G e,k,λ_=>.inr ⟨_,_,_,l,rfl,rfl,by show 2<=sizeLine;decide,.cons rfl (.cons ⟨t,rfl⟩ .nil)⟩,λ_=>.inr ⟨_,_,_,l',rfl,rfl,by show 1<=sizeLine;decide,.cons ⟨t',rfl⟩ .nil⟩⟩
inductive oC(K:05):List Str->List Addr->Prop
 |nil:oC K [] []
 |cons{x:Str}{f:Addr}{xs:087}{fs:016}(a:PySem.W.nsIn K mainGlobals x=some (some (.ref f)))(b:oC K xs fs):oC K (x::xs) (f::fs)
def oC.len{xs:087}{fs:016}(n:oC K xs fs):fs.length=009:=by
 induction n with
 |nil=>rfl
 |cons a b ih=>rw[aat,aat,ih]
def oC.at_(X:K.In h)(G:h.Ns mainGlobals mg){xs:087}{fs:016}(n:oC K xs fs):∀(p:Nat) (x:Str) (f:Addr),xs[p]? =some x->fs[p]? =some f->mg x=some 081:=by
 induction n with
 |nil=>intro p x f h1;cases h1
 |cons a b ih=>
  intro p y g h1 h2
  cases p with
  |zero=>
   have e1:=aac h1;have e2:=aac h2;subst e1 e2;exact ac5 X G a
  |succ p=>exact ih p y g h1 h2
theorem mn:∀fs:List Addr,Vals (fs.map V.ref) (fs.map Value.ref)
 |[]=>.nil
 |f::r=>.cons rfl (mn r)
def Rv{a:Addr}{fs:016}{n:Nat}(l:K.lookup a=some ⟨.type "tuple",od,.seq (fs.map Value.ref).toArray n,sl⟩)(hl:fs.length=30):∀H,bw K H a (fs.map V.ref):=λ_=>
 .inr ⟨_,_,_,l,rfl,rfl,by rw[aaz,aaa,hl];decide,mn fs⟩
def all_mk{P:027}{w:066}{sp:PySem.W.Frag->Sp}{fa cO cC cM cT cR pF pL cs:Addr}{fs:016}(O:∀(P:027) (w:066) (K:05) (mg:005) (base:Heap) (A:aQ) (f:Addr) (fd:FuncData),Txt K mg A->pG mg A->rA K "answers" "answers" (top 137) f fd->gv P w K mg base mS 13 f fd ["calls"] (sp K))(X:K.In h)(G:h.Ns mainGlobals mg)(hfa:mg "answers"=some (.ref fa))(nO:PySem.W.nsIn K mainGlobals "Order"=some (some (.ref cO)))(nC:PySem.W.nsIn K mainGlobals "Cursor"=some (some (.ref cC)))(nM:PySem.W.nsIn K mainGlobals "Mark"=some (some (.ref cM)))(nT:PySem.W.nsIn K mainGlobals "Table"=some (some (.ref cT)))(nR:PySem.W.nsIn K mainGlobals "Reader"=some (some (.ref cR)))(nF:PySem.W.nsIn K mainGlobals "BEFORE_ALL"=some (some (.ref pF)))(nL:PySem.W.nsIn K mainGlobals "BEHIND_ALL"=some (some (.ref pL)))(nS:PySem.W.nsIn K mainGlobals "CALLS"=some (some (.ref cs)))(nA:oC K tf fs)(T:Txt K mg ⟨cO,cC,cM,cT,cR,pF,pL,cs,fs⟩)(a:PySem.W.nsIn K mainGlobals "answers"=some (some 081))(l:K.lookup f=some ⟨oc,od,.func (PySem.W.fnOf "answers" "answers" (ik (top 137)) (fJ (top 137)) (ag (top 137)) .none kV dc pm an cd ct),sl⟩)(c:PySem.W.codeIn K cd "answers"=true)(k:PySem.W.keepIn K 081=true):∃fd:FuncData,(∀(s:0016) (us:007),us.length=(["calls"]:List Str).length->BindsTo s fd ⟨us,[]⟩ ((["calls"]:List Str).zip us))/\∀base:Heap,K.In base->base.Ns mainGlobals mg->gv P w K mg base mS 13 fa fd ["calls"] (sp K):=by
 have e:=hfa.symm.trans (ac5 X G a);cases e
 exact⟨_,λs us hu=>by
  obtain⟨u,rfl⟩:=adp.mp hu
  exact .of_eq rfl,λbase _ _=>O _ _ _ _ _ _ _ _ T ⟨nA.len.trans rfl,nA.at_ X G⟩ (nP l c k)⟩
end
def RX{P:List Value->Prop}(h:P []):∀us:List Value,us.length=0->P us:=λus hl=>(abm hl)▸h
def RF{P:List Value->Prop}(h:∀a0,P [a0])(us:007)(hl:us.length=1):P us:=by
 cases us with
 |nil=>cases hl
 |cons a t=>exact(RX (P:=λl=>P (a::l)) (h a) t (acX hl))
def RS{P:List Value->Prop}(h:∀a0 a1,P [a0,a1])(us:007)(hl:us.length=2):P us:=by
 cases us with
 |nil=>cases hl
 |cons a t=>exact(RF (P:=λl=>P (a::l)) (λa0=>h a a0) t (acX hl))
def RN{P:List Value->Prop}(h:∀a0 a1 a2,P [a0,a1,a2])(us:007)(hl:us.length=3):P us:=by
 cases us with
 |nil=>cases hl
 |cons a t=>exact(RS (P:=λl=>P (a::l)) (λa0 a1=>h a a0 a1) t (acX hl))
def RC{P:List Value->Prop}(h:∀a0 a1 a2 a3,P [a0,a1,a2,a3])(us:007)(hl:us.length=4):P us:=by
 cases us with
 |nil=>cases hl
 |cons a t=>exact(RN (P:=λl=>P (a::l)) (λa0 a1 a2=>h a a0 a1 a2) t (acX hl))
def Sa{P:List Value->Prop}(h:∀a0 a1 a2 a3 a4,P [a0,a1,a2,a3,a4])(us:007)(hl:us.length=5):P us:=by
 cases us with
 |nil=>cases hl
 |cons a t=>exact(RC (P:=λl=>P (a::l)) (λa0 a1 a2 a3=>h a a0 a1 a2 a3) t (acX hl))
def R_{P:List Value->Prop}(h:∀a0 a1 a2 a3 a4 a5,P [a0,a1,a2,a3,a4,a5])(us:007)(hl:us.length=6):P us:=by
 cases us with
 |nil=>cases hl
 |cons a t=>exact(Sa (P:=λl=>P (a::l)) (λa0 a1 a2 a3 a4=>h a a0 a1 a2 a3 a4) t (acX hl))
def So{P:List Value->Prop}(h:∀a0 a1 a2 a3 a4 a5 a6,P [a0,a1,a2,a3,a4,a5,a6])(us:007)(hl:us.length=7):P us:=by
 cases us with
 |nil=>cases hl
 |cons a t=>exact(R_ (P:=λl=>P (a::l)) (λa0 a1 a2 a3 a4 a5=>h a a0 a1 a2 a3 a4 a5) t (acX hl))
def Own:Prop:=∃sp:PySem.W.Frag->Sp,(∀(P:027) (w:066) (K:05) (mg:005) (base:Heap) (A:aQ) (f:Addr) (fd:FuncData),Txt K mg A->pG mg A->rA K "answers" "answers" (top 137) f fd->gv P w K mg base mS 13 f fd ["calls"] (sp K))/\
 ∀(K:05) (H:Hp) (xs:0012) (a:PySem.W.Codec.denoteAll PySem.Challenge.rw_standtable_s01_answers.args),oM H->PySem.W.Codec.withinAll PySem.Challenge.rw_standtable_s01_answers.args a=true->
  PySem.W.Codec.app PySem.Challenge.rw_standtable_s01_answers.args PySem.Challenge.rw_standtable_s01_answers.asked a=true->i_ K H xs (PySem.W.Codec.encAll PySem.Challenge.rw_standtable_s01_answers.args a)->
  sp K xs H (λv H'=>Dw K H' v (PySem.Challenge.rw_standtable_s01_answers.ret.enc (PySem.W.Codec.app PySem.Challenge.rw_standtable_s01_answers.args PySem.Challenge.rw_standtable_s01_answers.f a))) λ_ _ _=>False
def two{T G:Prop}(b:T)(a:G):G:=a
end Bk
section
namespace PySem.W.Fast
def tw16047531376849002842:=0
def tw3013385521029609502:=0
def tw3391406489183083209:=0
def tw12691943906506702946:=0
def tw16211732925270862936:=0
def tw16906768235617151095:=0
def tw6480608015229326106:=0
def tw5285976874307308294:=0
def tw9620627580092330032:=0
def tw355104817263740851:=0
def tw1153752708140394987:=0
def tw2886075108996040433:=0
def tw1035953614122953912:=0
def tw7704230158044033006:=0
def tw2575207979326191193:=0
def tw16212330677787901120:=0
def tw15606834981724049387:=0
def tw3198059409981156222:=0
def tw1116146690788884255:=0
def tw12125097214300078407:=0
def tw11180800956215176064:=0
def tw16339203068508773744:=0
def tw9381626543082597023:=0
def tw7190221270155829169:=0
def tw17410218998227585676:=0
def tw5388975336085850445:=0
def tw17500974584881780448:=0
def tw6621635546502472408:=0
def tw16506471722634982818:=0
def tw8995945545434573385:=0
def tw17418474659706920486:=0
def tw1792713326789958501:=0
def tw6495231863906357211:=0
def tw2395486016090739897:=0
def tw14391293386007564604:=0
def tw16248296213531012650:=0
def tw4436474186459923750:=0
def tw13367945306605744095:=0
def tw8297923619242306668:=0
def tw2400638427578300857:=0
def tw9768418358887946270:=0
def tw18407495941553956032:=0
def tw17192441067869180167:=0
def tw5610444585433571239:=0
def tw5487717013928043313:=0
def tw14332157829676619468:=0
def tw11205608169257636508:=0
def tw13484562703626004877:=0
def tw4075453323654395381:=0
def tw4607425872040536859:=0
def tw16839002366802243188:=0
def tw4561898282857576226:=0
def tw8159993647027272844:=0
def tw9084383144594877151:=0
def tw12921946191010883867:=0
def tw16279288168775177219:=0
def tw4734895289157585001:=0
def tw5992840812097835891:=0
def tw7873786274422454737:=0
def tw5702276774652866934:=0
def tw628631919661052299:=0
def tw18004296560267143027:=0
def tw17163426234232328066:=0
def tw6945566481307383155:=0
def tw11151835277377553703:=0
def tw9104974531708491489:=0
def tw11120740854625124088:=0
def tw1537541725227008683:=0
def tw13394580363473044415:=0
def tw1719895430356276633:=0
def tw12091130801917272685:=0
def tw11524815483048965402:=0
def tw4906484309439969231:=0
def tw12003660372656728261:=0
def tw17883462748017686043:=0
def tw10911716485165742097:=0
def tw15240619367488684849:=0
def tw2172276787581067923:=0
def tw18361725300881549022:=0
def tw4849480874435393781:=0
def tw5274481202262711730:=0
def tw1956260828630720203:=0
def tw8115137120850386438:=0
def tw17937168697417666835:=0
def tw7851241192964146256:=0
def tw9860861378791804195:=0
def tw7220529860990300233:=0
def tw11766667032028208565:=0
def tw12717557048674177747:=0
def tw5145961792505161948:=0
def tw15127105006835628225:=0
def tw16766484511958638138:=0
def tw18157406047293677543:=0
def tw13547939009206843870:=0
def tw4903002758410956813:=0
def tw13367274342830030513:=0
def tw2789304352393801511:=0
def tw2570914705882880060:=0
def tw17397653436517662659:=0
def tw9201617497623189827:=0
def tw11962351593759143498:=0
def tw16864618592142003386:=0
def tw7509565986652818475:=0
def tw7091221385724896812:=0
def tw6607644564249050058:=0
def tw16859961878692490766:=0
def tw4684226298888400098:=0
def tw7607420049574824106:=0
def tw18073898193381586223:=0
def tw8739830900816887780:=0
def tw2595618661548880785:=0
def tw17188069144378779261:=0
def tw5960047855520388891:=0
def tw10842938092177581297:=0
def tw9592521066531166775:=0
def tw13415069484114331020:=0
def tw5404398260228975080:=0
def tw5000232492035539693:=0
def tw360634875079729221:=0
def tw7933485763601977624:=0
def tw9317495090193701157:=0
def tw14935156969734317764:=0
def tw17760279517084355780:=0
def tw17483705464198625004:=0
def tw599730875272715187:=0
def tw523537741815420091:=0
def tw1950803216711332702:=0
def tw977512076041815475:=0
def tw6128106870883400570:=0
def tw18335596039185421423:=0
def tw13032259773685033708:=0
def tw13215348057498601715:=0
def tw11066385474520676512:=0
def tw10539347186207431242:=0
def tw140001813534094272:=0
def tw2084650752826471497:=0
def tw14479964200598819128:=0
def tw14782954611325821827:=0
def tw6259241058660970061:=0
def tw14845619989558847073:=0
def tw3419001889969749887:=0
def tw7405476570675247113:=0
def tw3235425350174046738:=0
def tw11033627544408312984:=0
def tw9972681490609642005:=0
def tw6194202620331982285:=0
def tw12408111787983249662:=0
def tw10387345722656961088:=0
def tw18248855084332350957:=0
def tw2080317491765294665:=0
def tw11408881796089955267:=0
def tw2314633323536394700:=0
def tw13459084325293418506:=0
def tw2950685276103557050:=0
def tw6798380500665416597:=0
def tw3592811809046731828:=0
def tw1932143949324165434:=0
def tw18003772858949239459:=0
def tw8865387616306378214:=0
def tw14284835775768690865:=0
end PySem.W.Fast
open PySem PySem.W PyProof.Rows
set_option maxRecDepth 100000 in
set_option maxHeartbeats 0 in
theorem hd (H0 : Bk.Own) : PySem.Challenge.rw_standtable_s01_answers.Holds := by
  refine' Bk.two ?hc ?main
  case main =>
    w_on; k_headS
    exact ⟨[.list [.int 7]], by decide +kernel, by decide +kernel⟩
  case hc =>
    k_fillS
    obtain ⟨sp, H1, H2⟩ := H0
    refine L2.Q6 (r := PySem.Challenge.rw_standtable_s01_answers) (k := 13) (CX := L2.mS) (ps := ["calls"]) (sp := sp) (by decide +kernel) rfl rfl ⟨rfl, by decide, by decide⟩ (fun w h Y => PySem.W.kIn_of Y) ?F H2 (fun _ _ _ _ z => z)
    case F =>
      intro w mg fa h Y KX G hmg
      refine' Bk.all_mk H1 KX G hmg ?nO ?nC ?nM ?nT ?nR ?nF ?nL ?nS ?nA ?T ?a ?l ?c ?k
      (case nO => k_is); (case nC => k_is); (case nM => k_is); (case nT => k_is); (case nR => k_is); (case nF => k_is); (case nL => k_is); (case nS => k_is)
      (case a => k_is); (case l => k_is); (case c => k_is); (case k => k_is)
      case nA =>
        unfold Bk.tf
        repeat (apply Bk.oC.cons; k_is)
        exact .nil
      case T =>
        constructor
        all_goals try dsimp only
        all_goals first
          | (apply Bk.Se KX G; k_is)
          | (refine ⟨?_, ?_, ?_, ?_⟩; all_goals k_is)
          | (show PySem.W.findIn _ _ _ = _; k_is)
          | (refine PySem.W.mg_none_of KX G ?_; k_is)
          | (refine PySem.W.mg_of KX G ?_; k_is)
          | (apply Bk.Sl KX G; iterate 3 k_is)
          | (apply Bk.Rv; k_is; rfl)
          | (apply Bk.Sf KX G; iterate 4 k_is)
          | (apply Bk.Sd; (refine ⟨?_, ?_, ?_, ?_⟩ <;> k_is); iterate 5 k_is)
          | (apply Bk.Sg KX G; iterate 8 k_is)
        all_goals (intro _ _ _ _ _ _; first | exact Bk.RF fun _ => rfl | exact Bk.RS fun _ _ => rfl | exact Bk.RN fun _ _ _ => rfl | exact Bk.RC fun _ _ _ _ => rfl | exact Bk.Sa fun _ _ _ _ _ => rfl | exact Bk.R_ fun _ _ _ _ _ _ => rfl | exact Bk.So fun _ _ _ _ _ _ _ => rfl | exact Bk.RX rfl)
end
namespace SM
open Standbook (Row Order Rows W field key keys partOf parts compareL before placed putIn)
def aC(o:0087)(r:Row):List Int:=(keys o r).map λ(n:Nat)=>(n:Int)
def Cu:W=18446744073709551616:=by decide
def MU:compareL [] []=0:=by rw[compareL];intro _ _ _ _ h;cases h
def Lp(a b:Nat)(l m:015):compareL (a::l) (b::m)=if a<b then-1 else if b<a then 1 else compareL l m:=by rw[compareL]
theorem Fw:∀(l m:015),l.length=m.length->(compareL l m<0↔HX.lexLt (l.map λ(n:Nat)=>(n:Int)) (m.map λ(n:Nat)=>(n:Int))=true)/\(compareL l m=0↔l=m)/\(compareL l m= -1\/compareL l m=0\/compareL l m=1)
 |[],[],_=>by
  rw[MU];exact⟨⟨030,λh=>by cases h⟩,⟨λ_=>rfl,λ_=>rfl⟩,.inr 094⟩
 |[],_::_,h=>by cases h
 |_::_,[],h=>by cases h
 |a::l,b::m,h=>by
  have ih:=Fw l m (by simpa using h);rw[Lp,aaB,aaB,HX.dS];by_cases e1:a<b
  ·rw[aav e1,aan (show¬(a:Int)=b by omega)];exact⟨⟨λ_=>aaj 03,λ_=>by decide⟩,⟨030,λh=>by injection h;omega⟩,.inl rfl⟩
  ·rw[aan e1];by_cases e2:b<a
   ·rw[aav e2,aan (show¬(a:Int)=b by omega)];exact⟨⟨030,λh=>by have:=aar h;omega⟩,⟨030,λh=>by injection h;omega⟩,.inr (.inr rfl)⟩
   ·have e3:a=b:=by omega
    subst e3;rw[aan e2,aav rfl];exact⟨ih.1,ih.2.1.trans ⟨λh=>by rw[h],λh=>by injection h⟩,ih.2.2⟩
def lI(o:0087)(r:Row):(keys o r).length=o.length:=by
 unfold keys parts;rw[aaa,aaa]
theorem Ic:∀{l m:015},(l.map λ(n:Nat)=>(n:Int))=(m.map λ(n:Nat)=>(n:Int))->l=m
 |[],[],_=>rfl
 |[],_::_,h=>by cases h
 |_::_,[],h=>by cases h
 |a::l,b::m,h=>by
  rw[aaB,aaB] at h;injection h with h1 h2;rw[Ic h2]
  congr 1
  omega
def jW(o:0087)(x y:Row):(before o x y<0↔HX.lexLt (aC o x) (aC o y)=true)/\(before o x y=0↔aC o x=aC o y)/\(before o x y= -1\/before o x y=0\/before o x y=1):=by
 unfold before aC;obtain⟨h1,h2,h3⟩:=Fw (keys o x) (keys o y) (by rw[lI,lI]);exact⟨h1,h2.trans ⟨λh=>by rw[h],Ic⟩,h3⟩
def cZ(o:0087)(x:088):List Int×Int:=(aC o x.2,(x.1:Int))
def qV(o:0087)(x y:088):placed o x y=HP.a_ (cZ o x) (cZ o y):=by
 obtain⟨h1,h2,_⟩:=jW o x.2 y.2;unfold placed HP.a_ cZ;dsimp only;by_cases e:aC o x.2=aC o y.2
 ·have e2:=h2.mpr e;rw[aav e,e2];simp
 ·have e2:¬before o x.2 y.2=0:=λz=>e (h2.mp z);rw[aan e]
  cases hl:HX.lexLt (aC o x.2) (aC o y.2) with
  |true=>simp[h1.mpr hl]
  |false=>
   have e3:¬before o x.2 y.2<0:=λz=>by rw[h1.mp z] at hl;cases hl
   simp[e2,e3]
def jB(l:0095):Prop:=l.Pairwise λp q=>HP.a_ p q=true
def FI{p q:0021}(h:HP.a_ p q=true):HP.a_ q p=false:=by
 cases e:HP.a_ q p with
 |false=>rfl
 |true=>
  have:=HP.AB _ _ _ h e;rw[HP.Cb] at this;cases this
theorem Cm:∀{l m:0095},jB l->jB m->l.Perm m->l=m
 |[],m,_,_,h=>(List.nil_perm.mp h).symm
 |x::l,[],_,_,h=>by cases List.perm_nil.mp h
 |x::l,y::m,h1,h2,h=>by
  have h1':=aaU.mp h1;have h2':=aaU.mp h2
  have e:x=y:=by
   rcases aao.mp (h.mem_iff.mp aae) with e|e
   ·exact e
   ·rcases aao.mp (h.mem_iff.mpr (aae:y∈y::m)) with e'|e'
    ·exact e'.symm
    ·have a:=h2'.1 _ e;have b:=h1'.1 _ e';rw[FI a] at b;cases b
  subst e;rw[Cm h1'.2 h2'.2 (adj h)]
theorem qX(o:0087)(x:088):∀l:Rows,(putIn o x l).Perm (x::l)
 |[]=>acy _
 |y::l=>by
  unfold putIn
  split
  ·exact acy _
  ·exact((qX o x l).cons y).trans (List.Perm.swap x y l)
structure Good(l:Rows):Prop where
 nd:(l.map (·.1)).Nodup
def Good.tail{x:088}{l:Rows}(h:Good (x::l)):Good l:=⟨(aa6.mp h.nd).2⟩
def Good.perm{l m:Rows}(h:Good l)(p:m.Perm l):Good m:=⟨(p.map _).nodup_iff.mpr h.nd⟩
theorem za{o:0087}{x:088}:∀{l:Rows},Good (x::l)->jB (l.map (cZ o))->jB ((putIn o x l).map (cZ o))
 |[],_,_=>ac8 _ _
 |y::l,g,h=>by
  have h':=aaU.mp h;have hne:x.1≠y.1:=λe=>(aa6.mp g.nd).1 (by rw[aaB];exact aao.mpr (.inl e));unfold putIn;rw[qV];by_cases e:HP.a_ (cZ o x) (cZ o y)=true
  ·rw[aav e];refine aaU.mpr ⟨λq hq=>?_,h⟩;rw[aaB] at hq;rcases aao.mp hq with rfl|hq
   ·exact e
   ·exact HP.AB _ _ _ e (h'.1 q hq)
  ·rw[aan e]
   have e':HP.a_ (cZ o y) (cZ o x)=true:=by
    cases z:HP.a_ (cZ o y) (cZ o x) with
    |true=>rfl
    |false=>
     have:=HP.v9 _ _ (by simpa using e) z;have q:(x.1:Int)=(y.1:Int):=aby Prod.snd this;exact absurd 03 hne
   refine aaU.mpr ⟨λq hq=>?_,?_⟩
   ·have hq':=((qX o x l).map (cZ o)).mem_iff.mp hq;rw[aaB] at hq';rcases aao.mp hq' with rfl|hq'
    ·exact e'
    ·exact h'.1 q hq'
   ·refine za (l:=l) ⟨?_⟩ h'.2;have:=g.nd;rw[aaB,aaB] at this;have a:=aa6.mp this;have b:=aa6.mp a.2;exact aa6.mpr ⟨λz=>a.1 (aag _ z),b.2⟩
theorem lR(o:0087):∀l:Rows,(l.foldr (putIn o) []).Perm l
 |[]=>acy _
 |x::l=>(qX o x _).trans ((lR o l).cons x)
theorem qo{o:0087}:∀{l:Rows},Good l->jB ((l.foldr (putIn o) []).map (cZ o))
 |[],_=>List.Pairwise.nil
 |x::l,g=>za (g.perm ((lR o l).cons x)) (qo g.tail)
def JV{o:0087}{l:Rows}(g:Good l){ps:0095}(h:jB ps)(hp:ps.Perm (l.map (cZ o))):ps=(l.foldr (putIn o) []).map (cZ o):=
 Cm h (qo g) (hp.trans ((lR o l).map _).symm)
end SM
namespace SM
section
variable{α:Type}{p q:α->Bool}
def ji(p:α->Bool)(l:076):Prop:=l.Pairwise λx y=>p y=true->p x=true
def ji.j4{x:α}{l:076}(h:ji p (x::l))(hx:p x=false):∀y∈l,p y=false:=λy hy=>by
 cases e:p y with
 |false=>rfl
 |true=>
  have:=(aaU.mp h).1 y hy e;rw[hx] at this;cases this
def fY{l:076}(h:∀y∈l,p y=false):l.countP p=0:=by
 rw[List.countP_eq_zero];intro y hy;rw[h y hy];exact aau
theorem ji.split:∀{l:076},ji p l->(∀x∈l.take (l.countP p),p x=true)/\∀x∈l.drop (l.countP p),p x=false
 |[],_=>⟨λx hx=>by simp at hx,λx hx=>by simp at hx⟩
 |x::l,h=>by
  cases e:p x with
  |false=>
   have h0:=h.j4 e
   have hc:(x::l).countP p=0:=fY λy hy=>by
    rcases aao.mp hy with rfl|hy
    ·exact e
    ·exact h0 y hy
   rw[hc];refine⟨λy hy=>by simp at hy,λy hy=>?_⟩;rw[aee] at hy;rcases aao.mp hy with rfl|hy
   ·exact e
   ·exact h0 y hy
  |true=>
   have ih:=ji.split (l:=l) (aaU.mp h).2;have hc:(x::l).countP p=l.countP p+1:=by rw[ab0 e]
   rw[hc,List.take_succ_cons,List.drop_succ_cons];refine⟨λy hy=>?_,ih.2⟩;rcases aao.mp hy with rfl|hy
   ·exact e
   ·exact ih.1 y hy
theorem ji.find:∀{l:076},ji p l->l.find? (λx=> !p x)=l[l.countP p]?
 |[],_=>rfl
 |x::l,h=>by
  cases e:p x with
  |false=>
   have hc:(x::l).countP p=0:=fY λy hy=>by
    rcases aao.mp hy with rfl|hy
    ·exact e
    ·exact h.j4 e y hy
   rw[hc,aeE (by rw[e];rfl)];rfl
  |true=>
   have hc:(x::l).countP p=l.countP p+1:=by rw[ab0 e]
   rw[hc,List.find?_cons_of_neg (by rw[e];exact aau),ji.find (aaU.mp h).2];rfl
def ji.last{l:076}(h:ji p l):l.reverse.find? p=if l.countP p=0 then none else l[l.countP p-1]? :=by
 obtain⟨h1,h2⟩:=h.split;have hle:l.countP p<=l.length:=adD;have e:l=l.take (l.countP p)++l.drop (l.countP p):=(abf _ _).symm
 have e2:l.reverse.find? p=(l.take (l.countP p)).reverse.find? p:=by
  rw[aby List.reverse e,List.reverse_append,List.find?_append]
  have:(l.drop (l.countP p)).reverse.find? p=none:=by
   rw[acD];intro x hx;rw[h2 x (List.mem_reverse.mp hx)];exact aau
  rw[this];rfl
 rw[e2];by_cases hc:l.countP p=0
 ·rw[aav hc,hc];rfl
 ·rw[aan hc];have hne:l.countP p-1<l.length:=by omega
  have et:l.take (l.countP p)=l.take (l.countP p-1)++[l[l.countP p-1]]:=by
   have:=List.take_append_getElem (l:=l) (i:=l.countP p-1) hne;rw[this]
   congr 1
   omega
  have hp:p l[l.countP p-1]=true:=h1 _ (by rw[et];exact aam _ aae);rw[et,List.reverse_append,aab hne];show List.find? p (l[l.countP p-1]::_)=_;rw[aeE hp]
def ji.stretch{l:076}(hp:ji p l)(hq:ji q l):l.filter (λx=> !p x&&q x)=(l.drop (l.countP p)).take (l.countP q-l.countP p):=by
 induction l with
 |nil=>rfl
 |cons x l ih=>
  have hp':=(aaU.mp hp).2;have hq':=(aaU.mp hq).2;have ih:=ih hp' hq'
  cases ep:p x with
  |true=>
   have cp:(x::l).countP p=l.countP p+1:=by rw[ab0 ep]
   rw[cp,List.drop_succ_cons,acu (by rw[ep];simp),ih]
   cases eq:q x with
   |true=>
    have cq:(x::l).countP q=l.countP q+1:=by rw[ab0 eq]
    rw[cq]
    congr 1
    omega
   |false=>
    have cq:l.countP q=0:=fY (hq.j4 eq);have cq':(x::l).countP q=0:=by rw[List.countP_cons_of_neg (by rw[eq];exact aau),cq]
    rw[cq,cq'];simp
  |false=>
   have cp:(x::l).countP p=0:=fY λy hy=>by
    rcases aao.mp hy with rfl|hy
    ·exact ep
    ·exact hp.j4 ep y hy
   have cp':l.countP p=0:=fY (hp.j4 ep);rw[cp,aee,Nat.sub_zero];rw[cp',aee,Nat.sub_zero] at ih
   cases eq:q x with
   |true=>
    have cq:(x::l).countP q=l.countP q+1:=by rw[ab0 eq]
    rw[cq,List.take_succ_cons,acs (by rw[ep,eq];rfl),ih]
   |false=>
    have cq':(x::l).countP q=0:=fY λy hy=>by
     rcases aao.mp hy with rfl|hy
     ·exact eq
     ·exact hq.j4 eq y hy
    rw[cq',aea,aeF];intro y hy
    have:q y=false:=by
     rcases aao.mp hy with rfl|hy
     ·exact eq
     ·exact hq.j4 eq y hy
    rw[this];simp
end
def um{l:0095}(h:jB l)(x:0021):ji (λp=>HP.a_ p x) l:=
 List.Pairwise.imp (λ{p q} hpq hq=>HP.AB _ _ _ hpq hq) h
def Jf{l:0095}(h:jB l){i:Nat}{x:0021}(e:l[i]? =some x):l.countP (λp=>HP.a_ p x)=i:=by
 obtain⟨hi,rfl⟩:=aad.mp e;have el:l=l.take i++l[i]::l.drop (i+1):=by rw[List.getElem_cons_drop hi,abf]
 have h':=h;unfold jB at h';rw[el] at h';obtain⟨h1,h2,h3⟩:=acM.mp h';have h2':=aaU.mp h2
 have c:l.countP (λp=>HP.a_ p l[i])=(l.take i).countP (λp=>HP.a_ p l[i])+(l[i]::l.drop (i+1)).countP (λp=>HP.a_ p l[i]):=by
  rw[<-List.countP_append,<-el]
 rw[c]
 have c1:(l.take i).countP (λp=>HP.a_ p l[i])=i:=by
  have:(l.take i).countP (λp=>HP.a_ p l[i])=(l.take i).length:=by
   rw[adE];intro a ha;exact h3 a ha _ aae
  rw[this,aaH];omega
 have c2:(l[i]::l.drop (i+1)).countP (λp=>HP.a_ p l[i])=0:=by
  refine fY λy hy=>?_;rcases aao.mp hy with rfl|hy
  ·exact HP.Cb _
  ·exact FI (h2'.1 y hy)
 rw[c1,c2];rfl
def He{l:0095}(h:jB l){x:0021}(hx:x∉l):jB (l.take (l.countP λp=>HP.a_ p x)++x::l.drop (l.countP λp=>HP.a_ p x)):=by
 obtain⟨h1,h2⟩:=(um h x).split;have hr:jB (l.take (l.countP λp=>HP.a_ p x)++l.drop (l.countP λp=>HP.a_ p x)):=by rw[abf];exact h
 obtain⟨r1,r2,r3⟩:=acM.mp hr;refine acM.mpr ⟨r1,aaU.mpr ⟨λy hy=>?_,r2⟩,λa ha b hb=>?_⟩
 ·have a:=h2 y hy
  cases e:HP.a_ x y with
  |true=>rfl
  |false=>
   have:=HP.v9 _ _ a e;subst this;exact absurd (adN hy) hx
 ·rcases aao.mp hb with rfl|hb
  ·exact h1 a ha
  ·exact r3 a ha b hb
def D8{α:Type}(l:076)(n:Nat)(x:α):(l.take n++x::l.drop n).Perm (x::l):=by
 have:=List.perm_middle (a:=x) (l₁:=l.take n) (l₂:=l.drop n);rw[abf] at this;exact this
end SM
namespace SM
open Standbook (Row Order Rows W field key keys partOf parts compareL before placed putIn)
def fy(o:0087)(l:Rows):Rows:=l.foldr (putIn o) []
def aO(o:0087)(l:Rows):List (List Int×Int):=(fy o l).map (cZ o)
def cY(o:0087)(l:Rows):(fy o l).Perm l:=lR o l
def i6(o:0087){l:Rows}(g:Good l):jB 0074:=qo g
def wQ(o:0087){l:Rows}(g:Good l){ps:0095}(h:jB ps)(hp:ps.Perm (l.map (cZ o))):ps=aO o l:=JV g h hp
def lN(o:0087)(l:Rows):(aO o l).length=l.length:=by
 unfold aO;rw[aaa,(cY o l).length_eq]
def Ll{o:0087}{l:Rows}(g:Good l):Good (fy o l):=g.perm (cY o l)
def Jx(o:0087){l m:Rows}(g:Good l)(h:l.Perm m):aO o l=aO o m:=
 wQ o (g.perm h.symm) (i6 o g) ((((cY o l).map _)).trans (h.map _))
def cnt(ps:0095)(q:0021):Nat:=ps.countP λp=>HP.a_ p q
def pE(ps:0095)(q:0021):cnt ps q<=ps.length:=adD
def MT{o:0087}{l:Rows}{n:Nat}{r:Row}(h:¬n∈l.map (·.1)):cZ o (n,r)∉aO o l:=λhm=>by
 obtain⟨y,hy,e⟩:=aaw.mp hm;have e2:(y.1:Int)=(n:Int):=aby Prod.snd e;exact h (aaw.mpr ⟨y,(cY o l).mem_iff.mp hy,0018⟩)
def MH{o:0087}{l m:Rows}{n:Nat}{r:Row}(g:Good l)(hn:¬n∈l.map (·.1))(hm:m.Perm ((n,r)::l)):(aO o l).take (cnt 0074 (cZ o (n,r)))++cZ o (n,r)::(aO o l).drop (cnt 0074 (cZ o (n,r)))=aO o m:=by
 have gm:Good m:=by
  refine Good.perm (l:=(n,r)::l) ⟨?_⟩ hm;rw[aaB];exact aa6.mpr ⟨hn,g.nd⟩
 refine wQ o gm (He (i6 o g) (MT hn)) ?_;refine(D8 _ _ _).trans ?_;refine List.Perm.trans ?_ (hm.map _).symm;rw[aaB];exact((cY o l).map _).cons _
theorem rS{α:Type}:∀{l:076} {i:Nat} {x:α},l[i]? =some x->l.Perm (x::l.eraseIdx i)
 |[],_,_,h=>by simp at h
 |a::l,0,x,h=>by
  have e:a=x:=aac h;subst e;exact acy _
 |a::l,i+1,x,h=>by
  have ih:=rS (l:=l) (i:=i) (x:=x) h;exact(ih.cons a).trans (List.Perm.swap x a _)
def FZ{o:0087}{l:Rows}{n:Nat}{r:Row}(h:(n,r)∈l):cZ o (n,r)∈aO o l:=aaw.mpr ⟨_,(cY o l).mem_iff.mpr h,rfl⟩
def JM{o:0087}{l:Rows}(g:Good l){x:0021}(h:x∈aO o l):0074[cnt 0074 x]? =some x:=by
 obtain⟨i,hi⟩:=aas.mp h;have e:cnt 0074 x=i:=Jf (i6 o g) hi;rw[e];exact hi
def MD{o:0087}{l m:Rows}{n:Nat}{r:Row}(g:Good l)(hm:l.Perm ((n,r)::m)):(aO o l).eraseIdx (cnt 0074 (cZ o (n,r)))=aO o m:=by
 have hx:cZ o (n,r)∈aO o l:=FZ (hm.mem_iff.mpr aae);have ha:=JM g hx;have gm:Good m:=(g.perm hm.symm).tail;refine wQ o gm ?_ ?_
 ·exact(i6 o g).sublist (List.eraseIdx_sublist _ _)
 ·have p1:=rS ha
  have p2:(aO o l).Perm (cZ o (n,r)::m.map (cZ o)):=by
   have:=(((cY o l)).trans hm).map (cZ o);rw[aaB] at this;exact this
  exact adj (p1.symm.trans p2)
def tR(o:0087)(x:088)(r:Row):HP.a_ (cZ o x) (aC o r,0)=decide (before o x.2 r<0):=by
 obtain⟨h1,h2,_⟩:=jW o x.2 r;unfold HP.a_ cZ;dsimp only;by_cases e:aC o x.2=aC o r
 ·rw[aav e,h2.mpr e];exact(aal 03).trans 0010
 ·rw[aan e]
  cases hl:HX.lexLt (aC o x.2) (aC o r) with
  |true=>exact(aaj (h1.mpr hl)).symm
  |false=>exact(aal (λz=>by rw[h1.mp z] at hl;cases hl)).symm
def CK(o:0087)(x:088)(r:Row)(hx:x.1<4294967295):HP.a_ (cZ o x) (aC o r,4294967295)=decide (before o x.2 r<=0):=by
 obtain⟨h1,h2,h3⟩:=jW o x.2 r;unfold HP.a_ cZ;dsimp only;by_cases e:aC o x.2=aC o r
 ·rw[aav e,h2.mpr e];exact(aaj 03).trans 0010
 ·rw[aan e];have e':¬before o x.2 r=0:=λz=>e (h2.mp z)
  cases hl:HX.lexLt (aC o x.2) (aC o r) with
  |true=>
   have:=h1.mpr hl;exact(aaj 03).symm
  |false=>exact(aal (λz=>by rw[h1.mp 03] at hl;cases hl)).symm
def lt_next(p:0021)(k:025)(n:Int):HP.a_ p (k,n+1)= !HP.a_ (k,n) p:=by
 unfold HP.a_;dsimp only;by_cases e:p.1=k
 ·rw[aav e,aav e.symm];by_cases h:p.2<n+1
  ·rw[aaj h,aal 03];rfl
  ·rw[aal h,aaj 03];rfl
 ·rw[aan e,aan (λz=>e z.symm)]
  cases h:HX.lexLt p.1 k with
  |true=>rw[HP.BR h];rfl
  |false=>
   cases h2:HX.lexLt k p.1 with
   |true=>rfl
   |false=>exact absurd (HP.uC _ _ h h2) e
def lB(o:0087){l:Rows}(g:Good l)(q:0021):ji (λx=>HP.a_ (cZ o x) q) (fy o l):=
 aaX.mp (um (i6 o g) q)
def nh(o:0087)(l:Rows)(q:0021):cnt 0074 q=(fy o l).countP λx=>HP.a_ (cZ o x) q:=by
 unfold cnt aO;rw[List.countP_map];rfl
def xC(o:0087){l:Rows}(g:Good l)(q:0021):(fy o l).find? (λx=> !HP.a_ (cZ o x) q)=(fy o l)[cnt 0074 q]? :=by
 rw[nh];exact(lB o g q).find
def xF(o:0087){l:Rows}(g:Good l)(q:0021):(fy o l).reverse.find? (λx=>HP.a_ (cZ o x) q)=if cnt 0074 q=0 then none else(fy o l)[cnt 0074 q-1]? :=by
 rw[nh];exact(lB o g q).last
def G0(o:0087){l:Rows}(g:Good l)(a b:Row):(fy o l).filter (λx=>decide (0<=before o x.2 a)&&decide (before o x.2 b<0))=((fy o l).drop (cnt 0074 (aC o a,0))).take (cnt 0074 (aC o b,0)-cnt 0074 (aC o a,0)):=by
 rw[nh,nh,<-ji.stretch (lB o g _) (lB o g _)]
 congr 1
 funext x
 rw[tR,tR];by_cases h:before o x.2 a<0
 ·rw[aaj h,aal 03];rfl
 ·rw[aal h,aaj 03];rfl
def K5(o:0087){l:Rows}(g:Good l)(hl:∀x∈l,x.1<4294967295)(r:Row):((fy o l).drop (cnt 0074 (aC o r,0))).take (cnt 0074 (aC o r,4294967295)-cnt 0074 (aC o r,0))=(fy o l).filter (λx=>before o x.2 r==0):=by
 rw[nh,nh,<-ji.stretch (lB o g _) (lB o g _)];refine aek λx hx=>?_;rw[tR,CK o x r (hl x ((cY o l).mem_iff.mp hx))];by_cases h:before o x.2 r<0
 ·rw[aaj h];exact(aaV.mpr 03).symm
 ·rw[aal h];by_cases h2:before o x.2 r=0
  ·rw[aaj 03,h2];rfl
  ·rw[aal 03];exact(aaV.mpr h2).symm
def Kv(o:0087){l:Rows}(g:Good l)(hl:∀x∈l,x.1<4294967295)(n:Nat)(r:Row):(((aO o l).drop (cnt 0074 (aC o r,0))).take (cnt 0074 (aC o r,4294967295)-cnt 0074 (aC o r,0))).any (λp=> !decide (p.2=(n:Int)))=l.any λy=>y.1 !=n&&before o y.2 r==0:=by
 have e:((aO o l).drop (cnt 0074 (aC o r,0))).take (cnt 0074 (aC o r,4294967295)-cnt 0074 (aC o r,0))=((fy o l).filter (λx=>before o x.2 r==0)).map (cZ o):=by
  rw[<-K5 o g hl r,abY,abZ];rfl
 rw[e,aeQ,List.any_filter,(cY o l).any_eq]
 congr 1
 funext x
 show(before o x.2 r==0&& !decide ((x.1:Int)=(n:Int)))=_
 have e2:(!decide ((x.1:Int)=(n:Int)))=(x.1 !=n):=by
  by_cases h:x.1=n
  ·rw[aaj 03,h];simp
  ·rw[aal 03];exact(abE.mpr h).symm
 rw[e2,Bool.and_comm]
def M0{o:0087}{l:Rows}(g:Good l){n:Nat}{r:Row}(h:(n,r)∈l):(fy o l).findIdx? (λx=>x.1==n)=some (cnt 0074 (cZ o (n,r))):=by
 have gs:=Ll (o:=o) g;have hx:(n,r)∈fy o l:=(cY o l).mem_iff.mpr h;obtain⟨i,hi⟩:=aas.mp hx;have e:cnt 0074 (cZ o (n,r))=i:=Jf (i6 o g) (by unfold aO;rw[aai,hi];rfl);rw[e];obtain⟨hlt,he⟩:=aad.mp hi;rw[abI];refine⟨hlt,by rw[he];exact aca n,λj hj=>?_⟩;intro hb;have hb:(fy o l)[j].1=n:=abi.mp hb;have nd:=gs.nd;have e1:((fy o l).map (·.1))[j]? =some n:=by rw[aai,aab 03];exact aby some hb
 have e2:((fy o l).map (·.1))[i]? =some n:=by rw[aai,hi];rfl
 obtain⟨j1,j2⟩:=aad.mp e1;obtain⟨i1,i2⟩:=aad.mp e2;have:=(acR nd).mp (j2.trans i2.symm);omega
def HZ{o:0087}{l:Rows}{n:Nat}(h:¬n∈l.map (·.1)):(fy o l).findIdx? (λx=>x.1==n)=none:=by
 rw[acj];intro x hx;exact aaV.mpr λe=>h (aaw.mpr ⟨x,(cY o l).mem_iff.mp hx,e⟩)
end SM
namespace SM
open Standbook (Row Order Rows W field key keys partOf parts compareL before placed putIn Table Mark Cursor Spot isRow sound)
structure eY(l:Rows)(next:Nat):Prop where
 len:l.length<=256
 gO:(l.map (·.1)).Pairwise (·<·)
 row:∀x∈l,1<=x.1/\x.1<next/\isRow x.2=true
 nx:1<=next/\next<=2147483648
def eY.good{l:Rows}{n:Nat}(h:eY l n):Good l:=⟨h.gO.imp λ{a b} q e=>by omega⟩
def eY.small{l:Rows}{n:Nat}(h:eY l n):∀x∈l,x.1<4294967295:=λx hx=>by
 have:=(h.row x hx).2.1;have:=h.nx.2;omega
def eY.fresh{l:Rows}{n:Nat}(h:eY l n):¬n∈l.map (·.1):=λhm=>by
 obtain⟨x,hx,e⟩:=aaw.mp hm;have:=(h.row x hx).2.1;omega
def mm:Spot->Prop
 |.at_ r n=>isRow r=true/\n<=4294967295
 |_=>True
structure Wf(t:049):Prop where
 ol:079<=6
 os:∀x∈t.orders,sound x.1=true
 rows:eY t.rows t.next
 cl:t.cursors.length=16
 ck:∀c,some c∈t.cursors->c.order<079/\mm c.spot
 ml:t.marks.length<=8
 mr:∀m∈t.marks,eY m.rows m.next
 m0:t.marks=[]->t.changes=0
 mb:∀m,t.marks.getLast?=some m->m.changes=0
def gu{t:049}{n:Nat}{r:Row}(h:t.row n=some r):(n,r)∈t.rows:=by
 unfold Table.row at h
 cases e:t.rows.find? λ(x:088)=>x.1==n with
 |none=>rw[e] at h;cases h
 |some x=>
  rw[e] at h;have e1:x.2=r:=aac h;have e2:x.1=n:=abi.mp (List.find?_some (p:=λ(x:088)=>x.1==n) e);have:=aec e;rw[<-e1,<-e2];exact this
def iI{t:049}{n:Nat}(h:t.row n=none):¬n∈t.rows.map (·.1):=λhm=>by
 obtain⟨x,hx,e⟩:=aaw.mp hm;unfold Table.row at h;rw[adn,acD] at h;exact h x hx (abi.mpr e)
def wJ{l:Rows}(g:Good l){n:Nat}{r r':Row}(h:(n,r)∈l)(h':(n,r')∈l):r=r':=by
 obtain⟨i,hi⟩:=aas.mp h;obtain⟨j,hj⟩:=aas.mp h';have e1:(l.map (·.1))[i]? =some n:=by rw[aai,hi];rfl
 have e2:(l.map (·.1))[j]? =some n:=by rw[aai,hj];rfl
 obtain⟨i1,i2⟩:=aad.mp e1;obtain⟨j1,j2⟩:=aad.mp e2;have:=(acR g.nd).mp (i2.trans j2.symm);subst this;rw[hi] at hj;injection hj with e;injection e
def Nq{t:049}{n:Nat}{r:Row}(g:Good t.rows)(h:(n,r)∈t.rows):t.row n=some r:=by
 cases e:t.row n with
 |none=>exact absurd (aaw.mpr ⟨_,h,rfl⟩) (iI e)
 |some r'=>rw[wJ g (gu e) h]
def eY.put{l:Rows}{n:Nat}{r:Row}(h:eY l n)(h1:l.length<256)(h2:n<=2147483647)(hr:isRow r=true):eY (l++[(n,r)]) (n+1) where
 len:=by rw[aah];show l.length+1<=256;omega
 gO:=by
  rw[aaP];refine acM.mpr ⟨h.gO,ac8 _ _,λa ha b hb=>?_⟩;obtain⟨x,hx,rfl⟩:=aaw.mp ha;have hb:b=n:=by simpa using hb
  subst hb;exact(h.row x hx).2.1
 row:=λx hx=>by
  rcases aax.mp hx with hx|hx
  ·obtain⟨a,b,c⟩:=h.row x hx;exact⟨a,0018,c⟩
  ·have:x=(n,r):=by simpa using hx
   subst this;exact⟨h.nx.1,by show n<n+1;omega,hr⟩
 nx:=by have:=h.nx;omega
def eY.sub{l m:Rows}{n:Nat}(h:eY l n)(s:m.Sublist l):eY m n where
 len:=aa8 s.length_le h.len
 gO:=h.gO.sublist (s.map _)
 row:=λx hx=>h.row x (s.mem hx)
 nx:=h.nx
def eY.take{l:Rows}{n:Nat}(h:eY l n)(k:Nat):eY (l.filter λ(x:088)=>x.1 !=k) n:=h.sub List.filter_sublist
def EZ(l:Rows)(k:Nat)(r:Row):(l.map λ(x:088)=>if x.1=k then(k,r) else x).map (·.1)=l.map (·.1):=by
 rw[aaN];refine abD λx _=>?_;show(if x.1=k then(k,r) else x).1=x.1;by_cases e:x.1=k
 ·rw[aav e,e]
 ·rw[aan e]
def eY.set{l:Rows}{n:Nat}(h:eY l n)(k:Nat){r:Row}(hr:isRow r=true):eY (l.map λ(x:088)=>if x.1=k then(k,r) else x) n where
 len:=by rw[aaa];exact h.len
 gO:=by rw[EZ];exact h.gO
 row:=λx hx=>by
  obtain⟨y,hy,rfl⟩:=aaw.mp hx;obtain⟨a,b,c⟩:=h.row y hy;by_cases e:y.1=k
  ·rw[aav e];subst e;exact⟨a,b,hr⟩
  ·rw[aan e];exact⟨a,b,c⟩
 nx:=h.nx
def me{l:Rows}(g:Good l){n:Nat}{r:Row}(h:(n,r)∈l):l.Perm ((n,r)::l.filter λ(x:088)=>x.1 !=n):=by
 induction l with
 |nil=>cases h
 |cons y l ih=>
  have gn:=aa6.mp g.nd;by_cases e:y.1=n
  ·have ey:y=(n,r):=by
    have:=wJ g (n:=n) (r:=y.2) (r':=r) (by rw[<-e];exact aae) h;rw[<-e,<-this]
   have hno:∀x∈l,(x.1 !=n)=true:=λx hx=>abE.mpr λz=>gn.1 (aaw.mpr ⟨x,hx,z.trans e.symm⟩);rw[acu (by rw[e];simp),List.filter_eq_self.mpr hno,ey]
  ·have h':(n,r)∈l:=by
    rcases aao.mp h with z|z
    ·exact absurd (by rw[<-z]) e
    ·exact z
   rw[acs (p:=λ(x:088)=>x.1 !=n) (abE.mpr e)];exact((ih g.tail h').cons y).trans (List.Perm.swap _ _ _)
def Lw{l:Rows}(g:Good l){n:Nat}{r r':Row}(h:(n,r)∈l):(l.map λ(x:088)=>if x.1=n then(n,r') else x).Perm ((n,r')::l.filter λ(x:088)=>x.1 !=n):=by
 have:=(me g h).map λ(x:088)=>if x.1=n then(n,r') else x
 rw[aaB] at this;refine this.trans ?_;have e1:(if(n,r).1=n then(n,r') else(n,r))=(n,r'):=aav rfl;rw[e1]
 have e2:(l.filter λ(x:088)=>x.1 !=n).map (λ(x:088)=>if x.1=n then(n,r') else x)=l.filter λ(x:088)=>x.1 !=n:=by
  conv=>rhs;rw[<-adt (l.filter λ(x:088)=>x.1 !=n)]
  refine abD λx hx=>?_;have:=abE.mp (abH.mp hx).2;rw[aan this];rfl
 rw[e2]
def Gi{l:Rows}{n:Nat}:¬n∈(l.filter λ(x:088)=>x.1 !=n).map (·.1):=λhm=>by
 obtain⟨x,hx,e⟩:=aaw.mp hm;exact abE.mp (abH.mp hx).2 e
def Wf.empty:Wf Standbook.empty where
 ol:=by decide
 os:=λx hx=>by cases hx
 rows:=⟨by decide,List.Pairwise.nil,λx hx=>(by cases hx),075⟩
 cl:=by decide
 ck:=λc hc=>by
  have:some c=none:=(List.mem_replicate.mp hc).2;cases this
 ml:=by decide
 mr:=λm hm=>by cases hm
 m0:=λ_=>rfl
 mb:=λm hm=>by cases hm
def Wf.CB{t:049}(w:Wf t){l:Rows}{n ch:Nat}(h:eY l n)(hc:t.marks=[]->ch=0):Wf {t with rows:=l,next:=n,changes:=ch} where
 ol:=w.ol
 os:=w.os
 rows:=h
 cl:=w.cl
 ck:=w.ck
 ml:=w.ml
 mr:=w.mr
 m0:=hc
 mb:=w.mb
def tM{t:049}:t.marks=[]->(if t.marks.isEmpty=true then 0 else t.changes+1)=0:=λe=>by rw[e];rfl
def Wf.Rm{t:049}(w:Wf t){r:Row}(hr:isRow r=true)(h1:t.rows.length<256)(h2:t.next<=2147483647):Wf {t.changed (t.rows++[(t.next,r)]) with next:=t.next+1}:=
 w.CB (w.rows.put h1 h2 hr) tM
def Wf.NN{t:049}(w:Wf t)(n:Nat):Wf (t.changed (t.rows.filter λ(x:088)=>x.1 !=n)):=w.CB (w.rows.take n) tM
def Wf.bz{t:049}(w:Wf t){cs:List (Option Cursor)}(h1:cs.length=16)(h2:∀c,some c∈cs->c.order<079/\mm c.spot):Wf {t with cursors:=cs} where
 ol:=w.ol
 os:=w.os
 rows:=w.rows
 cl:=h1
 ck:=h2
 ml:=w.ml
 mr:=w.mr
 m0:=w.m0
 mb:=w.mb
def Wf.cursorSet{t:049}(w:Wf t)(c:Nat){x:Option Cursor}(h:∀y,x=some y->y.order<079/\mm y.spot):Wf (t.cursorSet c x):=
 w.bz (by rw[ab7];exact w.cl) λy hy=>by
  rcases aeb hy with z|z
  ·exact w.ck y z
  ·exact h y z.symm
def Wf.follow{t:049}(w:Wf t)(n:Nat){r:Row}(hr:isRow r=true)(hn:n<=4294967295):(t.follow n r).length=16/\∀c,some c∈t.follow n r->c.order<079/\mm c.spot:=by
 unfold Table.follow;refine⟨by rw[aaa];exact w.cl,λc hc=>?_⟩;obtain⟨x,hx,e⟩:=aaw.mp hc
 cases x with
 |none=>cases e
 |some y=>
  have h:=w.ck y hx;have e:(if(y.follows&&y.isAt t n)=true then{y with spot:=.at_ r n} else y)=c:=aac e;by_cases q:(y.follows&&y.isAt t n)=true
  ·rw[aav q] at e;subst e;exact⟨h.1,hr,hn⟩
  ·rw[aan q] at e;subst e;exact h
def Wf.Qs{t:049}(w:Wf t){n:Nat}{r:Row}(hr:isRow r=true)(hn:n<=4294967295):Wf {t.changed (t.rows.map λ(x:088)=>if x.1=n then(n,r) else x) with cursors:=t.follow n r}:=by
 have f:=w.follow n hr hn;exact(w.CB (ch:=if t.marks.isEmpty=true then 0 else t.changes+1) (w.rows.set n hr) tM).bz f.1 f.2
def Wf.MM{t:049}(w:Wf t){o:0087}{u:Bool}(ho:sound o=true)(h:079<6):Wf {t with orders:=t.orders++[(o,u)]} where
 ol:=by show(t.orders++[(o,u)]).length<=6;rw[aah];show 079+1<=6;omega
 os:=λx hx=>by
  rcases aax.mp hx with z|z
  ·exact w.os x z
  ·have:x=(o,u):=by simpa using z
   rw[this];exact ho
 rows:=w.rows
 cl:=w.cl
 ck:=λc hc=>by
  obtain⟨a,b⟩:=w.ck c hc;refine⟨?_,b⟩;show c.order<(t.orders++[(o,u)]).length;rw[aah];omega
 ml:=w.ml
 mr:=w.mr
 m0:=w.m0
 mb:=w.mb
def Wf.NX{t:049}(w:Wf t)(h:t.marks.length<8):Wf {t with marks:=⟨t.rows,t.next,t.changes⟩::t.marks} where
 ol:=w.ol
 os:=w.os
 rows:=w.rows
 cl:=w.cl
 ck:=w.ck
 ml:=by show t.marks.length+1<=8;omega
 mr:=λm hm=>by
  rcases aao.mp hm with rfl|hm
  ·exact w.rows
  ·exact w.mr m hm
 m0:=λe=>by cases e
 mb:=λm hm=>by
  cases e:t.marks with
  |nil=>
   rw[e] at hm;have:(⟨t.rows,t.next,t.changes⟩:Mark)=m:=aac hm;rw[<-this];exact w.m0 e
  |cons a l=>
   refine w.mb m ?_;rw[e] at hm⊢;rw[<-hm];exact(ada).symm
def Wf.backTo{t:049}(w:Wf t){m:Mark}{l:List Mark}(e:t.marks=m::l):Wf {t with rows:=m.rows,next:=m.next,changes:=m.changes,marks:=l} where
 ol:=w.ol
 os:=w.os
 rows:=w.mr m (by rw[e];exact aae)
 cl:=w.cl
 ck:=w.ck
 ml:=by have:=w.ml;rw[e] at this;exact acq this
 mr:=λx hx=>w.mr x (by rw[e];exact aag _ hx)
 m0:=λz=>by
  have z:l=[]:=z;subst z;exact w.mb m (by rw[e];rfl)
 mb:=λx hx=>w.mb x (by
  have hx:l.getLast?=some x:=hx;rw[e]
  cases l with
  |nil=>cases hx
  |cons a l=>rw[ada];exact hx)
def Wf.OR{t:049}(w:Wf t){m:Mark}{l:List Mark}(e:t.marks=m::l):Wf {t with marks:=l,changes:=if l.isEmpty=true then 0 else t.changes} where
 ol:=w.ol
 os:=w.os
 rows:=w.rows
 cl:=w.cl
 ck:=w.ck
 ml:=by have:=w.ml;rw[e] at this;exact acq this
 mr:=λx hx=>w.mr x (by rw[e];exact aag _ hx)
 m0:=λz=>by
  have z:l=[]:=z;subst z;rfl
 mb:=λx hx=>w.mb x (by
  have hx:l.getLast?=some x:=hx;rw[e]
  cases l with
  |nil=>cases hx
  |cons a l=>rw[ada];exact hx)
end SM
namespace SM
open Standbook (Row Order Rows W field Table isRow sound bytesOf fromLow rowBytes orderBytes ordersIn rowIn rowsIn tableIn)
def lK{n:Nat}(h:n<256):(UInt8.ofNat n).toNat=n:=by
 rw[UInt8.toNat_ofNat'];exact adH h
def aN(w x:Nat):(bytesOf w x).length=w:=by
 unfold bytesOf;rw[aaa,abe]
def tm(w x:Nat):bytesOf (w+1) x=UInt8.ofNat (x%256)::bytesOf w (x / 256):=by
 unfold bytesOf;rw[ado,aaB,aaN]
 congr 1
 ·rw[Nat.pow_zero,Nat.div_one]
 ·refine abD λj _=>?_;show UInt8.ofNat (x / 256 ^ (j+1)%256)=_;rw[aeL,aeN,aeD]
theorem tP(c:UInt8)(b:032):fromLow (c::b)=c.toNat+256*fromLow b:=rfl
theorem fK:∀(w x:Nat),x<256 ^ w->fromLow (bytesOf w x)=x
 |0,x,h=>by
  have:x=0:=by simpa using h
  subst this;rfl
 |w+1,x,h=>by
  rw[tm,tP,lK (acp _ 0010),fK w (x / 256) ?_]
  ·omega
  ·rw[aeL] at h;exact Nat.div_lt_of_lt_mul (by rw[aeN];exact h)
def iQ{α:Type}{l m:076}{n:Nat}(h:l.length=n):(l++m).take n=l:=by
 subst h;exact List.take_left
def fV{α:Type}{l m:076}{n:Nat}(h:l.length=n):(l++m).drop n=m:=by
 subst h;exact List.drop_left
def jq(x:Order×Bool):(orderBytes x).length=5:=by
 unfold orderBytes;rw[aah,aaa,abe];rfl
def rf{o:0087}(h:∀b∈o,1<=b/\b<=16):(((List.range 4).map λ(j:Nat)=>UInt8.ofNat (o.getD j 0)).map UInt8.toNat)=(List.range 4).map λ(j:Nat)=>o.getD j 0:=by
 rw[aaN];refine abD λj _=>?_;show(UInt8.ofNat (o.getD j 0)).toNat=_;refine lK ?_;by_cases hj:j<o.length
 ·rw[aaF,aab hj];have:=h o[j] (abL hj);show o[j]<256;omega
 ·rw[aaF,aaS 03]
  decide
def Lr{o:0087}(h:o.length<=4):((List.range 4).map λ(j:Nat)=>o.getD j 0)=o++List.replicate (4-o.length) 0:=by
 match o,h with
 |[],_=>rfl
 |[a],_=>rfl
 |[a,b],_=>rfl
 |[a,b,c],_=>rfl
 |[a,b,c,d],_=>rfl
 |_::_::_::_::_::_,h=>simp at h
def Lq{o:0087}(h:∀b∈o,1<=b)(n:Nat):(o++List.replicate n 0).takeWhile (λ(x:Nat)=>x !=0)=o:=by
 induction o with
 |nil=>
  cases n with
  |zero=>rfl
  |succ n=>rfl
 |cons a o ih=>
  have ha:=h a aae;show List.takeWhile _ (a::(o++List.replicate n 0))=_;rw[List.takeWhile_cons_of_pos (p:=λ(x:Nat)=>x !=0) (abE.mpr (show a≠0 by omega)),ih λb hb=>h b (aag _ hb)]
def Kz{o:0087}(h:∀b∈o,1<=b)(n:Nat):(o++List.replicate n 0).filter (λ(x:Nat)=>x !=0)=o:=by
 rw[List.filter_append,List.filter_eq_self.mpr λb hb=>abE.mpr (by have:=h b hb;omega)]
 have:(List.replicate n 0).filter (λ(x:Nat)=>x !=0)=[]:=by
  rw[aeF];intro a ha;rw[(List.mem_replicate.mp ha).2]
  decide
 rw[this,aa7]
def f6{o:0087}(h:sound o=true):1<=o.length/\o.length<=4/\∀b∈o,1<=b/\b<=16:=by
 unfold sound at h;rw[aak,aak,aak] at h;refine⟨aar h.1,aar h.2.1,052⟩;have:=aa3.mp h.2.2.1 b hb;rw[aak] at this;exact⟨aar this.1,aar this.2⟩
theorem uS:∀(os:033) (rest:032),(∀x∈os,sound x.1=true)->ordersIn os.length 044=os
 |[],_,_=>rfl
 |x::os,rest,h=>by
  obtain⟨h1,h2,h3⟩:=f6 (h x aae);have ih:=uS os rest λy hy=>h y (aag _ hy);rw[abv,aaL];show(((orderBytes x++044).take 4).map UInt8.toNat |>.takeWhile λ(x:Nat)=>x !=0,(orderBytes x++044).getD 4 0==1)::ordersIn os.length ((orderBytes x++044).drop 5)=_;rw[fV (jq x),ih]
  congr 1
  refine aep ?_ ?_
  ·show(((orderBytes x++044).take 4).map UInt8.toNat |>.takeWhile λ(x:Nat)=>x !=0)=x.1;unfold orderBytes;rw[aaL,iQ (by rw[aaa,abe]),rf h3,Lr h2,Lq λb hb=>(h3 b hb).1]
  ·show((orderBytes x++044).getD 4 0==1)=x.2;unfold orderBytes
   cases x.2 with
   |true=>rfl
   |false=>rfl
def hZ{r:Row}(h:isRow r=true):r.length=4/\∀x∈r,x<18446744073709551616:=by
 unfold isRow at h;rw[aak] at h;refine⟨abi.mp h.1,λx hx=>?_⟩;have:=aar (aa3.mp h.2 x hx);rw[Cu] at this;exact this
def pd(r:Row):rowBytes r=bytesOf 8 (field r 0)++(bytesOf 8 (field r 1)++(bytesOf 8 (field r 2)++bytesOf 8 (field r 3))):=by
 unfold rowBytes;show(bytesOf 8 (field r 0)++(bytesOf 8 (field r 1)++(bytesOf 8 (field r 2)++(bytesOf 8 (field r 3)++[]))))=_;rw[aa7]
def n6(r:Row):(rowBytes r).length=32:=by
 rw[pd,aah,aah,aah,aN,aN,aN,aN]
def LB{r:Row}(h:isRow r=true)(rest:032):rowIn (rowBytes r++rest)=r:=by
 obtain⟨h1,h2⟩:=hZ h
 match r,h1,h2 with
 |[a,b,c,d],_,h2=>
  have ha:a<256 ^ 8:=h2 a 017;have hb:b<256 ^ 8:=h2 b 017;have hc:c<256 ^ 8:=h2 c 017;have hd:d<256 ^ 8:=h2 d 017;unfold rowIn;rw[pd];show[fromLow (((bytesOf 8 a++0030++rest).drop 0).take 8),fromLow (((bytesOf 8 a++0030++rest).drop 8).take 8),fromLow (((bytesOf 8 a++0030++rest).drop 16).take 8),fromLow (((bytesOf 8 a++0030++rest).drop 24).take 8)]=_;have l8:∀x,(bytesOf 8 x).length=8:=λx=>aN 8 x
  have e0:(bytesOf 8 a++0030++rest)=bytesOf 8 a++(bytesOf 8 b++(bytesOf 8 c++(bytesOf 8 d++rest))):=by
   simp only[aaL]
  have e8:(bytesOf 8 a++(bytesOf 8 b++(bytesOf 8 c++(bytesOf 8 d++rest)))).drop 8=bytesOf 8 b++(bytesOf 8 c++(bytesOf 8 d++rest)):=fV (l8 a)
  have e16:(bytesOf 8 a++(bytesOf 8 b++(bytesOf 8 c++(bytesOf 8 d++rest)))).drop 16=bytesOf 8 c++(bytesOf 8 d++rest):=by
   rw[show 16=8+8 from rfl,<-abd,e8];exact fV (l8 b)
  have e24:(bytesOf 8 a++(bytesOf 8 b++(bytesOf 8 c++(bytesOf 8 d++rest)))).drop 24=bytesOf 8 d++rest:=by
   rw[show 24=16+8 from rfl,<-abd,e16];exact fV (l8 c)
  rw[e0,aee,e8,e16,e24,iQ (l8 a),iQ (l8 b),iQ (l8 c),iQ (l8 d),fK 8 a ha,fK 8 b hb,fK 8 c hc,fK 8 d hd]
theorem yu:∀(l:Rows) (rest:032),(∀x∈l,x.1<4294967296/\isRow x.2=true)->rowsIn l.length ((l.flatMap λ(x:088)=>bytesOf 4 x.1++rowBytes x.2)++rest)=l
 |[],_,_=>rfl
 |x::l,rest,h=>by
  obtain⟨h1,h2⟩:=h x aae;have ih:=yu l rest λy hy=>h y (aag _ hy);rw[abv,aaL,aaL];generalize hz:(l.flatMap λ(x:088)=>bytesOf 4 x.1++rowBytes x.2)++rest=z at ih⊢;show(fromLow ((bytesOf 4 x.1++(rowBytes x.2++z)).take 4),rowIn ((bytesOf 4 x.1++(rowBytes x.2++z)).drop 4))::rowsIn l.length ((bytesOf 4 x.1++(rowBytes x.2++z)).drop 36)=_
  have e:(bytesOf 4 x.1++(rowBytes x.2++z)).drop 36=z:=by
   rw[show 36=4+32 from rfl,<-abd,fV (aN 4 x.1)];exact fV (n6 x.2)
  rw[e,ih,iQ (aN 4 x.1),fV (aN 4 x.1),LB h2,fK 4 x.1 h1]
def qT(os:033):(os.flatMap orderBytes).length=5*os.length:=by
 induction os with
 |nil=>rfl
 |cons x os ih=>rw[abv,aah,jq,ih,aat];omega
def oh(l:Rows):(l.flatMap λ(x:088)=>bytesOf 4 x.1++rowBytes x.2).length=36*l.length:=by
 induction l with
 |nil=>rfl
 |cons x l ih=>rw[abv,aah,aah,aN,n6,ih,aat];omega
def su(t:049):t.bytes.length=9+5*079+36*t.rows.length:=by
 unfold Table.bytes;rw[aah,aah,aah,aah,aN,aN,aN,qT,oh];omega
def wR(t:049)(h:079<=6):(t.bytes.headD 0).toNat=079:=by
 unfold Table.bytes;show(UInt8.ofNat (079 / 256 ^ 0%256)).toNat=_;rw[Nat.pow_zero,Nat.div_one,lK (acp _ 0010)];exact adH 03
def oV(t:049):t.bytes.drop 1=t.orders.flatMap orderBytes++(bytesOf 4 t.rows.length++(bytesOf 4 t.next++t.rows.flatMap λ(x:088)=>bytesOf 4 x.1++rowBytes x.2)):=by
 unfold Table.bytes;exact fV (aN 1 _)
def DA(t:049):t.bytes.drop (1+5*079)=bytesOf 4 t.rows.length++(bytesOf 4 t.next++t.rows.flatMap λ(x:088)=>bytesOf 4 x.1++rowBytes x.2):=by
 rw[<-abd,oV];exact fV (qT _)
structure Fits(t:049):Prop where
 ol:079<=6
 os:∀x∈t.orders,sound x.1=true
 rl:t.rows.length<=256
 rs:∀x∈t.rows,x.1<4294967296/\isRow x.2=true
 nx:t.next<4294967296
def vT{t:049}(h:Fits t):ordersIn t.orders.length (t.bytes.drop 1)=t.orders/\fromLow ((t.bytes.drop (1+5*079)).take 4)=t.rows.length/\fromLow (((t.bytes.drop (1+5*079)).drop 4).take 4)=t.next/\rowsIn t.rows.length ((t.bytes.drop (1+5*079)).drop 8)=t.rows:=by
 rw[oV,DA];refine⟨uS _ _ h.os,?_,?_,?_⟩
 ·rw[iQ (aN 4 _),fK 4 _ (by have:=h.rl;omega)]
 ·rw[fV (aN 4 _),iQ (aN 4 _),fK 4 _ h.nx]
 ·rw[show 8=4+4 from rfl,<-abd,fV (aN 4 _),fV (aN 4 _)];have:=yu t.rows [] h.rs;rw[aa7] at this;exact this
end SM
namespace SM
open Standbook (Row Order Rows W field Table isRow sound bytesOf fromLow rowBytes orderBytes ordersIn rowIn rowsIn tableIn twins rising)
def cH:Nat->List UInt8->List (Order×Bool)
 |0,_=>[]
 |n+1,b=>(((b.take 4).map UInt8.toNat).filter (λ(x:Nat)=>x !=0),b.getD 4 0==1)::cH n (b.drop 5)
theorem pB:∀(n:Nat) (b:032),(cH n b).length=n
 |0,_=>rfl
 |n+1,b=>by
  show(cH n (b.drop 5)).length+1=n+1;rw[pB n]
theorem CY:∀(os:033) (rest:032),(∀x∈os,sound x.1=true)->cH os.length 044=os
 |[],_,_=>rfl
 |x::os,rest,h=>by
  obtain⟨h1,h2,h3⟩:=f6 (h x aae);have ih:=CY os rest λy hy=>h y (aag _ hy);rw[abv,aaL];show(((orderBytes x++044).take 4).map UInt8.toNat |>.filter λ(x:Nat)=>x !=0,(orderBytes x++044).getD 4 0==1)::cH os.length ((orderBytes x++044).drop 5)=_;rw[fV (jq x),ih]
  congr 1
  refine aep ?_ ?_
  ·show(((orderBytes x++044).take 4).map UInt8.toNat |>.filter λ(x:Nat)=>x !=0)=x.1;unfold orderBytes;rw[aaL,iQ (by rw[aaa,abe]),rf h3,Lr h2,Kz λb hb=>(h3 b hb).1]
  ·show((orderBytes x++044).getD 4 0==1)=x.2;unfold orderBytes
   cases x.2 with
   |true=>rfl
   |false=>rfl
def putN(d:Rows)(n:Nat)(r:Row):Rows:=if d.any (λx=>x.1==n) then d.map (λx=>if x.1=n then(n,r) else x) else d++[(n,r)]
def dictOf(l:Rows):Rows:=l.foldl (λd x=>putN d x.1 x.2) []
def Nl{d:Rows}(h:Good d)(n:Nat)(r:Row):Good (putN d n r):=by
 unfold putN;by_cases e:(d.any λx=>x.1==n)=true
 ·rw[aav e];exact⟨by rw[EZ];exact h.nd⟩
 ·rw[aan e];refine⟨?_⟩;rw[aaP];refine aaZ.mpr ⟨h.nd,0104,λa ha b hb=>?_⟩;have hb:b=n:=by simpa using hb
  subst hb;rintro rfl;obtain⟨x,hx,z⟩:=aaw.mp ha;exact e (adJ.mpr ⟨x,hx,abi.mpr z⟩)
def KU{d:Rows}{n:Nat}{r:Row}(h:¬n∈d.map (·.1)):putN d n r=d++[(n,r)]:=by
 unfold putN;rw[aan];intro e;obtain⟨x,hx,z⟩:=adJ.mp e;exact h (aaw.mpr ⟨x,hx,abi.mp z⟩)
def Ks{d:Rows}{n:Nat}{r:Row}{x:088}(h:x∈putN d n r):x=(n,r)\/x∈d:=by
 unfold putN at h;by_cases e:(d.any λx=>x.1==n)=true
 ·rw[aav e] at h;obtain⟨y,hy,z⟩:=aaw.mp h;by_cases q:y.1=n
  ·rw[aav q] at z;exact .inl z.symm
  ·rw[aan q] at z;subst z;exact .inr hy
 ·rw[aan e] at h;rcases aax.mp h with z|z
  ·exact .inr z
  ·exact .inl (by simpa using z)
def Iw(l:Rows):∀d:Rows,Good d->Good (l.foldl (λd x=>putN d x.1 x.2) d):=by
 induction l with
 |nil=>exact λd h=>h
 |cons x l ih=>exact λd h=>ih _ (Nl h x.1 x.2)
def Ka(l:Rows):Good (dictOf l):=Iw l [] ⟨ab5⟩
def Kt(l:Rows):∀(d:Rows) (x:088),x∈l.foldl (λd x=>putN d x.1 x.2) d->x∈l\/x∈d:=by
 induction l with
 |nil=>exact λd x h=>.inr h
 |cons y l ih=>
  intro d x h;rcases ih _ x h with z|z
  ·exact .inl (aag _ z)
  ·rcases Ks z with rfl|z
   ·exact .inl aae
   ·exact .inr z
def La{l:Rows}{x:088}(h:x∈dictOf l):x∈l:=(Kt l [] x h).elim (λz=>z) λz=>by cases z
def ME(l:Rows):∀d:Rows,Good (d++l)->l.foldl (λd x=>putN d x.1 x.2) d=d++l:=by
 induction l with
 |nil=>exact λd h=>by rw[aa7];rfl
 |cons x l ih=>
  intro d h
  have hn:¬x.1∈d.map (·.1):=λhm=>by
   have nd:=h.nd;rw[aaP] at nd;exact(aaZ.mp nd).2.2 _ hm _ (by rw[aaB];exact aae) rfl
  show l.foldl (λd x=>putN d x.1 x.2) (putN d x.1 x.2)=_;rw[KU hn,ih _ (by rw[aaL];exact h),aaL];rfl
def MG{l:Rows}(h:Good l):dictOf l=l:=ME l [] h
def CI(l:Rows):∀d:Rows,(l.foldl (λd x=>putN d x.1 x.2) d).length<=d.length+l.length:=by
 induction l with
 |nil=>exact λd=>aay _
 |cons x l ih=>
  intro d;refine aa8 (ih (putN d x.1 x.2)) ?_
  have:(putN d x.1 x.2).length<=d.length+1:=by
   unfold putN;by_cases e:(d.any λy=>y.1==x.1)=true
   ·rw[aav e,aaa];omega
   ·rw[aan e,aah];exact aay _
  rw[aat];omega
def CH(l:Rows):(dictOf l).length<=l.length:=by
 have:=CI l [];rw[abj,ad3] at this;exact this
def mY(l:Rows):Rows:=l.mergeSort λa b=>decide (a.1<=b.1)
def jr(l:Rows):(mY l).Perm l:=List.mergeSort_perm l _
def yU{l:Rows}(h:Good l):((mY l).map (·.1)).Pairwise (·<·):=by
 have p:(mY l).Pairwise λa b=>decide (a.1<=b.1)=true:=List.pairwise_mergeSort (λa b c h1 h2=>by
  have:=aar h1;have:=aar h2
  exact aaj 03) (λa b=>by
  by_cases q:a.1<=b.1
  ·rw[aaj q];rfl
  ·rw[aal q,aaj (show b.1<=a.1 by omega)];rfl) l
 have g:Good (mY l):=h.perm (jr l);have nd:(mY l).Pairwise λa b=>a.1≠b.1:=aaX.mp g.nd;refine aaX.mpr ((p.and nd).imp λ{a b} q=>?_);have:=aar q.1;have:=q.2;omega
theorem FO:∀{l m:015},l.Pairwise (·<·)->m.Pairwise (·<·)->l.Perm m->l=m
 |[],m,_,_,h=>(List.nil_perm.mp h).symm
 |x::l,[],_,_,h=>by cases List.perm_nil.mp h
 |x::l,y::m,h1,h2,h=>by
  have h1':=aaU.mp h1;have h2':=aaU.mp h2
  have e:x=y:=by
   rcases aao.mp (h.mem_iff.mp aae) with e|e
   ·exact e
   ·rcases aao.mp (h.mem_iff.mpr (aae:y∈y::m)) with e'|e'
    ·exact e'.symm
    ·have a:=h2'.1 _ e;have b:=h1'.1 _ e';omega
  subst e;rw[FO h1'.2 h2'.2 (adj h)]
def J0{l m:Rows}(h1:(l.map (·.1)).Pairwise (·<·))(h2:(m.map (·.1)).Pairwise (·<·))(h:l.Perm m):l=m:=by
 have g:Good m:=⟨h2.imp λ{a b} q e=>by omega⟩;have e:=FO h1 h2 (h.map _);refine adu λi=>?_;have ei:(l.map (·.1))[i]? =(m.map (·.1))[i]? :=by rw[e]
 rw[aai,aai] at ei
 cases a:l[i]? with
 |none=>
  rw[a] at ei
  cases b:m[i]? with
  |none=>rfl
  |some y=>rw[b] at ei;cases ei
 |some x=>
  rw[a] at ei
  cases b:m[i]? with
  |none=>rw[b] at ei;cases ei
  |some y=>
   rw[b] at ei;have q:x.1=y.1:=aac ei;have hx:(x.1,x.2)∈m:=h.mem_iff.mp (aap a);have hy:(y.1,y.2)∈m:=aap b;rw[q] at hx;have:=wJ g hx hy;exact aby some (aep q this)
def LH{l:Rows}(h:(l.map (·.1)).Pairwise (·<·)):mY l=l:=
 J0 (yU ⟨h.imp λ{a b} q e=>by omega⟩) h (jr l)
theorem wa:∀l:List Nat,rising l=true↔l.Pairwise (·<·)
 |[]=>⟨λ_=>List.Pairwise.nil,λ_=>rfl⟩
 |[a]=>⟨λ_=>ac8 _ _,λ_=>rfl⟩
 |a::b::r=>by
  have ih:=wa (b::r);show(decide (a<b)&&rising (b::r))=true↔_;rw[aak,ih,acf];constructor
  ·rintro⟨h1,h2⟩;refine aaU.mpr ⟨λc hc=>?_,h2⟩;rcases aao.mp hc with rfl|hc
   ·exact h1
   ·have:=(aaU.mp h2).1 c hc;omega
  ·intro h;have h':=aaU.mp h;exact⟨h'.1 b aae,h'.2⟩
def iO(b:032):Bool:=decide (1<=b.length)&&decide ((b.headD 0).toNat<=6)&&decide (fromLow ((b.drop (1+5*(b.headD 0).toNat)).take 4)<=256)&&
 decide (b.length=1+5*(b.headD 0).toNat+4+4+36*fromLow ((b.drop (1+5*(b.headD 0).toNat)).take 4))
def ka(b:032):Rows:=rowsIn (fromLow ((b.drop (1+5*(b.headD 0).toNat)).take 4)) ((b.drop (1+5*(b.headD 0).toNat)).drop 8)
def aW(b:032):Table:={Standbook.empty with rows:=mY (dictOf (ka b)),next:=fromLow (((b.drop (1+5*(b.headD 0).toNat)).drop 4).take 4),orders:=cH (b.headD 0).toNat (b.drop 1)}
def gH(t:049):Bool:=t.orders.all (λx=>sound x.1)&&(decide (1<=t.next)&&decide (t.next<=2147483648))&&t.rows.all λx=>decide (1<=x.1)&&decide (x.1<t.next)
def jH(t:049):Bool:= !(t.orders.any λx=>x.2&&twins x.1 t.rows)
theorem qQ:∀(b:032),fromLow b<256 ^ b.length
 |[]=>by decide
 |c::b=>by
  have ih:=qQ b;have hc:c.toNat<256:=c.toNat_lt;rw[tP,aat,aeL];omega
def oR(b:032)(w:Nat):fromLow (b.take w)<256 ^ w:=by
 refine aaO (qQ _) (Nat.pow_le_pow_right 0010 ?_);rw[aaH];omega
def Ld(b:032):isRow (rowIn b)=true:=by
 unfold isRow rowIn;rw[aak];refine 0091;rw[aa3];intro x hx;obtain⟨f,_,rfl⟩:=aaw.mp hx;refine aaj ?_;have:=oR (b.drop (8*f)) 8;rw[Cu];exact this
theorem y_:∀(n:Nat) (b:032),∀x∈rowsIn n b,x.1<4294967296/\isRow x.2=true
 |0,_,x,h=>by cases h
 |n+1,b,x,h=>by
  rcases aao.mp h with rfl|h
  ·exact⟨oR b 4,Ld _⟩
  ·exact y_ n _ x h
theorem m5:∀(n:Nat) (b:032),(rowsIn n b).length=n
 |0,_=>rfl
 |n+1,b=>by
  show(rowsIn n (b.drop 36)).length+1=n+1;rw[m5 n]
def wH{b:032}{x:088}(h:x∈(aW b).rows):x.1<4294967296/\isRow x.2=true:=
 y_ _ _ x (La ((jr _).mem_iff.mp h))
def uz(b:032):((aW b).rows.map (·.1)).Pairwise (·<·):=yU (Ka _)
def PL{t:049}(h:Fits t)(hr:(t.rows.map (·.1)).Pairwise (·<·)):aW t.bytes={Standbook.empty with rows:=t.rows,next:=t.next,orders:=t.orders}/\iO t.bytes=true:=by
 obtain⟨h1,h2,h3,h4⟩:=vT h;have hh:=wR t h.ol;have e1:cH t.orders.length (t.bytes.drop 1)=t.orders:=by rw[oV];exact CY _ _ h.os
 have e2:ka t.bytes=t.rows:=by unfold ka;rw[hh,h2,h4]
 constructor
 ·unfold aW;rw[e2,hh,h3,e1,MG ⟨hr.imp λ{a b} q e=>by omega⟩,LH hr]
 ·unfold iO;rw[hh,h2];have hl:=su t;have:=h.ol;have:=h.rl;rw[aak,aak,aak];exact⟨⟨⟨aaj 03,aaj h.ol⟩,aaj h.rl⟩,aaj 03⟩
def HM{t:049}:t.ok=true↔079<=6/\(∀x∈t.orders,sound x.1=true)/\jH t=true/\t.rows.length<=256/\(t.rows.map (·.1)).Pairwise (·<·)/\(∀x∈t.rows,1<=x.1/\x.1<t.next/\isRow x.2=true)/\1<=t.next/\t.next<=2147483648:=by
 unfold Table.ok;rw[aak,aak,aak,aak,aak,aak,wa,aa3,aa3]
 have hu:jH t=true↔∀x∈t.orders,(!x.2|| !twins x.1 t.rows)=true:=by
  unfold jH;rw[Bool.not_eq_true',abO];constructor
  ·intro h x hx;have:=h x hx;cases e:x.2<;>cases e2:twins x.1 t.rows<;>simp[e,e2] at this⊢
  ·intro h x hx;have:=h x hx;cases e:x.2<;>cases e2:twins x.1 t.rows<;>simp[e,e2] at this⊢
 constructor
 ·rintro⟨a,b,c,d,e,f,g⟩;refine⟨aar a,λx hx=>?_,hu.mpr λx hx=>?_,aar c,d,λx hx=>?_,aar f,aar g⟩
  ·have:=b x hx;rw[aak] at this;exact this.1
  ·have:=b x hx;rw[aak] at this;exact this.2
  ·have:=e x hx;rw[aak,aak] at this;exact⟨aar this.1,aar this.2.1,this.2.2⟩
 ·rintro⟨a,b,c,d,e,f,g,k⟩;refine⟨aaj a,λx hx=>?_,aaj d,e,λx hx=>?_,aaj g,aaj k⟩
  ·rw[aak];exact⟨b x hx,hu.mp c x hx⟩
  ·rw[aak,aak];obtain⟨p,q,r⟩:=f x hx;exact⟨aaj p,aaj q,r⟩
def mB{t:049}:gH t=true↔(∀x∈t.orders,sound x.1=true)/\(1<=t.next/\t.next<=2147483648)/\∀x∈t.rows,1<=x.1/\x.1<t.next:=by
 unfold gH;rw[aak,aak,aak,aa3,aa3,acf,acf];constructor
 ·rintro⟨⟨a,b⟩,c⟩;refine⟨a,b,λx hx=>?_⟩;have:=c x hx;rw[aak] at this;exact⟨aar this.1,aar this.2⟩
 ·rintro⟨a,b,c⟩;refine⟨⟨a,b⟩,λx hx=>?_⟩;rw[aak];exact⟨aaj (c x hx).1,aaj (c x hx).2⟩
def CT{b:032}{t:049}(h:tableIn b=some t):iO b=true/\aW b=t/\gH (aW b)=true/\(aW b).bytes=b/\jH (aW b)=true:=by
 unfold tableIn at h;dsimp only at h
 split at h
 ·cases h
 ·split at h
  ·rename_i h1 h2;obtain⟨aX,hb⟩:=h2;have e:=aac h;rw[e] at aX hb;obtain⟨a,a2,a3,a4,a5,a6,a7,a8⟩:=HM.mp aX;have hf:Fits t:=⟨a,a2,a4,λx hx=>⟨by have:=(a6 x hx).2.1;omega,(a6 x hx).2.2⟩,0018⟩;obtain⟨r1,r2⟩:=PL hf a5;rw[hb] at r1 r2;have et:({Standbook.empty with rows:=t.rows,next:=t.next,orders:=t.orders}:Table)=t:=by rw[<-e]
   rw[et] at r1;refine⟨r2,r1,?_,by rw[r1];exact hb,by rw[r1];exact a3⟩;rw[r1];exact mB.mpr ⟨a2,⟨a7,a8⟩,λx hx=>⟨(a6 x hx).1,(a6 x hx).2.1⟩⟩
  ·cases h
def AO{b:032}(h1:iO b=true)(h2:gH (aW b)=true):Fits (aW b):=by
 unfold iO at h1;rw[aak,aak,aak] at h1;obtain⟨⟨⟨_,l1⟩,l2⟩,_⟩:=h1;obtain⟨p1,p2,p3⟩:=mB.mp h2;refine⟨?_,p1,?_,λx hx=>wH hx,0018⟩
 ·show(cH (b.headD 0).toNat (b.drop 1)).length<=6;rw[pB];exact aar l1
 ·show(mY (dictOf (ka b))).length<=256;rw[(jr _).length_eq];refine aa8 (CH _) ?_;unfold ka;rw[m5];exact aar l2
def NQ{b:032}(h1:iO b=true)(h2:gH (aW b)=true):Wf (aW b):=by
 have f:=AO h1 h2;obtain⟨p1,p2,p3⟩:=mB.mp h2
 exact{
  ol:=f.ol
  os:=p1
  rows:=⟨f.rl,uz b,λx hx=>⟨(p3 x hx).1,(p3 x hx).2,(f.rs x hx).2⟩,p2⟩
  cl:=Wf.empty.cl
  ck:=λc hc=>absurd (Wf.empty.ck c hc).1 (abR _)
  ml:=aaT _
  mr:=λm hm=>by cases hm
  m0:=λ_=>rfl
  mb:=λm hm=>by cases hm}
def Hr{b:032}(h1:iO b=true)(h2:gH (aW b)=true)(h3:(aW b).bytes=b)(h4:jH (aW b)=true):tableIn b=some (aW b):=by
 have f:=AO h1 h2;obtain⟨p1,p2,p3⟩:=mB.mp h2;have aX:(aW b).ok=true:=HM.mpr ⟨f.ol,p1,h4,f.rl,uz b,λx hx=>⟨(p3 x hx).1,(p3 x hx).2,(f.rs x hx).2⟩,p2.1,p2.2⟩;obtain⟨r1,r2,r3,r4⟩:=vT f;have hh:=wR (aW b) f.ol;rw[h3] at r1 r2 r3 r4 hh;have iU:=f.ol;have hrl:=f.rl;unfold tableIn;dsimp only;rw[hh,r2,r3,r4,r1];have e0:({Standbook.empty with rows:=(aW b).rows,next:=(aW b).next,orders:=(aW b).orders}:Table)=aW b:=rfl;rw[e0,aan,aav ⟨aX,h3⟩];rintro(z|z)
 ·have z:6<(aW b).orders.length:=z;omega
 ·have z:256<(aW b).rows.length:=z;omega
def G4(b:032):tableIn b=if iO b=true/\gH (aW b)=true/\(aW b).bytes=b/\jH (aW b)=true then some (aW b) else none:=by
 by_cases h:iO b=true/\gH (aW b)=true/\(aW b).bytes=b/\jH (aW b)=true
 ·rw[aav h,Hr h.1 h.2.1 h.2.2.1 h.2.2.2]
 ·rw[aan h]
  cases e:tableIn b with
  |none=>rfl
  |some t=>
   obtain⟨a,_,c,d,f⟩:=CT e;exact absurd ⟨a,c,d,f⟩ h
end SM
namespace SM
open Standbook (Row Order Rows W field key keys partOf parts Part before Table isRow sound bytesOf fromLow twins high pack fromHigh unkey unpack noneTwice)
def Lo{x:Nat}(h:0050):x &&& 9223372036854775808=if x<9223372036854775808 then 0 else 9223372036854775808:=by
 have e:(9223372036854775808:Nat)=2 ^ 63:=by decide
 rw[e];by_cases q:x<2 ^ 63
 ·rw[aav q];refine Nat.eq_of_testBit_eq λi=>?_;rw[Nat.testBit_and,adW,Nat.zero_testBit];by_cases hi:63=i
  ·subst hi;rw[Nat.testBit_lt_two_pow q];rfl
  ·rw[aal hi,acz]
 ·rw[aan q]
  have h63:x.testBit 63=true:=by
   rw[Nat.testBit_eq_decide_div_mod_eq];refine aaj ?_;omega (config:={})
  refine Nat.eq_of_testBit_eq λi=>?_;rw[Nat.testBit_and,adW];by_cases hi:63=i
  ·subst hi;rw[h63];rfl
  ·rw[aal hi,acz]
def Nv{x:Nat}(h:0050):x &&& 18446744073709551615=x:=by
 have e:(18446744073709551615:Nat)=2 ^ 64-1:=by decide
 rw[e,Nat.and_two_pow_sub_one_eq_mod];exact adH h
def sgn(b:Nat):Bool:=decide ((b-1) / 8=1)
def Dd(b:Nat):Bool:=decide ((b-1) / 4%2=1)
def turn(b x:Nat):Nat:=
 let y:=if sgn b=true then(x+9223372036854775808)%18446744073709551616 else x
 if Dd b=true then 18446744073709551615-y else y
def Nc{b x:Nat}(h:0050):turn b x<18446744073709551616:=by
 unfold turn;dsimp only
 repeat' split
 all_goals omega (config:={})
def AX{b:Nat}(h:1<=b/\b<=16):(partOf b).sign=sgn b:=by
 show((b-1) / 8%2==1)=decide ((b-1) / 8=1);have:(b-1) / 8%2=(b-1) / 8:=by omega (config:={})
 rw[this];rfl
def Ct(b:Nat):(partOf b).down=Dd b:=by
 show((b-1) / 4%2==1)=decide ((b-1) / 4%2=1);rfl
def Lj{b:Nat}(h:1<=b/\b<=16)(r:Row):key (partOf b) r=turn b (field r ((b-1)%4)):=by
 unfold key turn;rw[AX h,Ct];rfl
def Gf{b:Nat}(h:1<=b/\b<=16){y:Nat}(hy:y<18446744073709551616):unkey (partOf b) y=turn b y:=by
 unfold unkey turn;rw[AX h,Ct,Cu];dsimp only;cases sgn b<;>cases Dd b
 all_goals simp
 omega (config:={})
def yF{o:0087}(h:∀b∈o,1<=b/\b<=16)(r:Row):keys o r=o.map λb=>turn b (field r ((b-1)%4)):=by
 unfold keys parts;rw[aaN];exact abD λb hb=>Lj (h b hb) r
def vx{r:Row}(h:isRow r=true)(f:Nat):field r f<18446744073709551616:=by
 obtain⟨h1,h2⟩:=hZ h;unfold field;rw[aaF]
 cases e:r[f]? with
 |none=>decide
 |some x=>exact h2 x (aap e)
def Mu{o:0087}(h:∀b∈o,1<=b/\b<=16){r:Row}(hr:isRow r=true):∀x∈keys o r,x<18446744073709551616:=λx hx=>by
 rw[yF h] at hx;obtain⟨b,_,rfl⟩:=aaw.mp hx;exact Nc (vx hr _)
def n4(x:Nat):high x=(bytesOf 8 x).reverse:=by
 unfold high bytesOf;rfl
def uc:∀(l:032),fromHigh l=fromLow l.reverse:=λl=>by
 unfold fromHigh fromLow;rw[List.foldr_reverse]
 congr 1
 funext n c
 omega (config:={})
def oG(b:032):Nat->List Nat->Row->Row
 |_,[],r=>r
 |i,c::o,r=>oG b (i+1) o (r.set ((c-1)%4) (turn c (fromHigh ((b.drop (8*i)).take 8))))
theorem zm(b:032):∀(o:015) (i:Nat) (r:Row),(oG b i o r).length=r.length
 |[],_,_=>rfl
 |c::o,i,r=>by
  show(oG b (i+1) o _).length=_;rw[zm b o,ab7]
theorem yK(b:032):∀(o:015) (i:Nat) (r:Row) (f:Nat),f<r.length->(o.map λc=>(c-1)%4).Nodup->(oG b i o r)[f]? =match o.findIdx? (λc=>(c-1)%4==f) with
   |some j=>some (turn (o.getD j 0) (fromHigh ((b.drop (8*(i+j))).take 8)))
   |none=>r[f]?
 |[],i,r,f,_,_=>rfl
 |c::o,i,r,f,hf,nd=>by
  rw[aaB] at nd;obtain⟨n1,n2⟩:=aa6.mp nd;show(oG b (i+1) o (r.set ((c-1)%4) (turn c (fromHigh ((b.drop (8*i)).take 8)))))[f]? =_;rw[yK b o (i+1) _ f (by rw[ab7];exact hf) n2,List.findIdx?_cons];by_cases e:(c-1)%4=f
  ·have hno:o.findIdx? (λc=>(c-1)%4==f)=none:=by
    rw[acj];intro x hx;exact aaV.mpr λz=>n1 (aaw.mpr ⟨x,hx,by rw[z,e]⟩)
   rw[hno,aav (abi.mpr e),e];show(r.set f _)[f]? =_;rw[acA hf];rfl
  ·rw[aan (by intro z;exact e (abi.mp z))]
   cases q:o.findIdx? (λc=>(c-1)%4==f) with
   |none=>
    show(r.set ((c-1)%4) _)[f]? =_;rw[acN e];rfl
   |some j=>
    show some (turn (o.getD j 0) (fromHigh ((b.drop (8*(i+1+j))).take 8)))=some (turn ((c::o).getD (j+1) 0) (fromHigh ((b.drop (8*(i+(j+1)))).take 8)));rw[show i+1+j=i+(j+1) by omega (config:={})];rfl
theorem rE:∀l:List Nat,noneTwice l=true↔l.Nodup
 |[]=>⟨λ_=>ab5,λ_=>rfl⟩
 |x::r=>by
  have ih:=rE r;show(!r.contains x&&noneTwice r)=true↔_;rw[aak,ih,aa6,Bool.not_eq_true',List.contains_eq_any_beq];constructor
  ·rintro⟨a,b⟩;refine⟨λhm=>?_,b⟩;rw[abO] at a;exact a x hm (aca x)
  ·rintro⟨a,b⟩;refine⟨?_,b⟩;rw[abO];intro y hy z;have:x=y:=abi.mp z;exact a (by rw[this];exact hy)
def ou(o:0087):sound o=true↔(1<=o.length/\o.length<=4)/\(∀b∈o,1<=b/\b<=16)/\(o.map λc=>(c-1)%4).Nodup:=by
 unfold sound;rw[aak,aak,aak,rE,aa3,acf,acf]
 have e:(parts o).map (λ(p:Part)=>p.f)=o.map λc=>(c-1)%4:=by
  unfold parts;rw[aaN];rfl
 rw[e];constructor
 ·rintro⟨a,b,c,d⟩;refine⟨⟨a,b⟩,λx hx=>?_,d⟩;have:=c x hx;rw[aak] at this;exact⟨aar this.1,aar this.2⟩
 ·rintro⟨⟨a,b⟩,c,d⟩;refine⟨a,b,λx hx=>?_,d⟩;rw[aak];exact⟨aaj (c x hx).1,aaj (c x hx).2⟩
def u4(l:032)(h:l.length<=8):fromHigh l<18446744073709551616:=by
 rw[uc];refine aaO (qQ _) ?_;rw[abb];exact aa8 (Nat.pow_le_pow_right 0010 h) 0010
def Kd{o:0087}(h:sound o=true)(b:032):unpack o b=oG b 0 o [0,0,0,0]:=by
 obtain⟨_,h2,h3⟩:=(ou o).mp h;refine adu λf=>?_;by_cases hf:f<4
 ·rw[yK b o 0 [0,0,0,0] f hf h3];unfold unpack;rw[aai,adY hf]
  have e:(parts o).findIdx? (λ(p:Part)=>p.f==f)=o.findIdx? (λc=>(c-1)%4==f):=by
   unfold parts;rw[List.findIdx?_map];rfl
  show some (match(parts o).findIdx? (λ(p:Part)=>p.f==f) with
   |some i=>unkey ((parts o).getD i ⟨0,false,false⟩) (fromHigh ((b.drop (8*i)).take 8))
   |none=>0)=_
  rw[e]
  cases q:o.findIdx? (λc=>(c-1)%4==f) with
  |none=>
   show some 0=[0,0,0,0][f]?
   match f,hf with
   |0,_=>rfl
   |1,_=>rfl
   |2,_=>rfl
   |3,_=>rfl
   |n+4,hf=>omega (config:={})
  |some j=>
   have hj:j<o.length:=(abI.mp q).1;show some (unkey ((parts o).getD j ⟨0,false,false⟩) _)=some (turn (o.getD j 0) (fromHigh ((b.drop (8*(0+j))).take 8)))
   have e1:(parts o).getD j ⟨0,false,false⟩=partOf o[j]:=by
    unfold parts;rw[aaF,aai,aab hj];rfl
   have e2:o.getD j 0=o[j]:=by
    rw[aaF,aab hj];rfl
   rw[e1,e2,ad3,Gf (h2 _ (abL hj))];refine u4 _ ?_;rw[aaH];omega (config:={})
 ·rw[aaS (by unfold unpack;rw[aaa,abe];omega (config:={})),aaS (by rw[zm];show 4<=f;omega (config:={}))]
def yN{o:0087}{l:Rows}(g:Good l):twins o l=false↔((aO o l).map (·.1)).Nodup:=by
 have e:(aO o l).map (·.1)=(fy o l).map λx=>aC o x.2:=by
  unfold aO;rw[aaN];rfl
 rw[e];have p:=cY o l;have e2:((fy o l).map λx=>aC o x.2).Nodup↔(l.map λx=>aC o x.2).Nodup:=(p.map _).nodup_iff;rw[e2];unfold twins;constructor
 ·intro h;rw[abO] at h;have nd:l.Pairwise λa b=>a.1≠b.1:=aaX.mp g.nd;refine aaX.mpr (List.Pairwise.imp_of_mem (λ{a b} ha hb hab z=>?_) nd);have h1:=h a ha;rw[acx,abO] at h1;have h2:=h1 b hb;apply h2;rw[aak];exact⟨abE.mpr hab,abi.mpr ((jW o a.2 b.2).2.1.mpr z)⟩
 ·intro h;rw[abO];intro a ha;rw[acx,abO];intro b hb z;rw[aak] at z;have z1:=abE.mp z.1;have z2:=(jW o a.2 b.2).2.1.mp (abi.mp z.2);obtain⟨i,hi⟩:=aas.mp ha;obtain⟨j,hj⟩:=aas.mp hb;have e1:(l.map λx=>aC o x.2)[i]? =some (aC o a.2):=by rw[aai,hi];rfl
  have e2:(l.map λx=>aC o x.2)[j]? =some (aC o a.2):=by rw[aai,hj,z2];rfl
  obtain⟨i1,i2⟩:=aad.mp e1;obtain⟨j1,j2⟩:=aad.mp e2;have:=(acR h).mp (i2.trans j2.symm);subst this;rw[hi] at hj;injection hj with q;exact z1 (by rw[q])
def wy(o:0087)(a b:Row):before o a b+1=if aC o a=aC o b then 1 else if HX.lexLt (aC o a) (aC o b)=true then 0 else 2:=by
 obtain⟨h1,h2,h3⟩:=jW o a b;by_cases e:aC o a=aC o b
 ·rw[aav e,h2.mpr e];rfl
 ·rw[aan e];have e':¬before o a b=0:=λz=>e (h2.mp z);by_cases q:HX.lexLt (aC o a) (aC o b)=true
  ·rw[aav q];have:=h1.mpr q;omega (config:={})
  ·rw[aan q];have:¬before o a b<0:=λz=>q (h1.mp z);omega (config:={})
end SM
namespace SM
open Standbook (Row Order Rows W field key keys partOf parts Part before placed Table Mark Cursor Spot isRow sound Deed deedOf deedsIn numberOf)
theorem gF(t:049)(k:Nat):t.inOrder k=fy 093 t.rows:=rfl
def dA(o:0087):Spot->List Int×Int
 |.first=>([-1],0)
 |.last=>([18446744073709551616],0)
 |.at_ r n=>(aC o r,(n:Int))
def M_{k:025}(h:∀x∈k,0<=x)(hk:k≠[]):HX.lexLt k [-1]=false/\k≠[-1]:=by
 cases k with
 |nil=>exact absurd rfl hk
 |cons a k=>
  have ha:=h a aae;rw[HX.dS,aan 03];exact⟨aal 03,λe=>by injection e;omega⟩
def E2{k:025}(h:∀x∈k,x<18446744073709551616)(hk:k≠[]):HX.lexLt k [18446744073709551616]=true/\k≠[18446744073709551616]:=by
 cases k with
 |nil=>exact absurd rfl hk
 |cons a k=>
  have ha:=h a aae;rw[HX.dS,aan 03];exact⟨aaj 03,λe=>by injection e;omega⟩
def xR{o:0087}(h:sound o=true)(r:Row):aC o r≠[]:=λe=>by
 have h1:=(f6 h).1;have:(aC o r).length=0:=by rw[e];rfl
 unfold aC at this;rw[aaa,lI] at this;omega
def Mx(o:0087)(r:Row):∀x∈aC o r,0<=x:=λx hx=>by
 obtain⟨n,_,rfl⟩:=aaw.mp hx;omega
def Fx{o:0087}(h:sound o=true){r:Row}(hr:isRow r=true):∀x∈aC o r,x<18446744073709551616:=λx hx=>by
 obtain⟨n,hn,rfl⟩:=aaw.mp hx;have:=Mu (f6 h).2.2 hr n hn;omega
def E7{o:0087}(h:sound o=true)(l:Rows)(n:Int):cnt 0074 ([-1],n)=0:=by
 unfold cnt;refine fY λp hp=>?_;obtain⟨x,_,rfl⟩:=aaw.mp hp;obtain⟨a,b⟩:=M_ (Mx o x.2) (xR h x.2);unfold HP.a_;rw[aan (show¬(cZ o x).1=[-1] from b)];exact a
def Fp{o:0087}(h:sound o=true){l:Rows}(hl:∀x∈l,isRow x.2=true)(n:Int):cnt 0074 ([18446744073709551616],n)=l.length:=by
 unfold cnt;rw[adE.mpr,lN];intro p hp;obtain⟨x,hx,rfl⟩:=aaw.mp hp;obtain⟨a,b⟩:=E2 (Fx h (hl x ((cY o l).mem_iff.mp hx))) (xR h x.2);unfold HP.a_;rw[aan (show¬(cZ o x).1=[18446744073709551616] from b)];exact a
def Ci{t:049}(w:Wf t){k:Nat}(hk:sound 093=true)(s:Spot):t.after k s=(fy 093 t.rows)[cnt (aO 093 t.rows) ((dA 093 s).1,(dA 093 s).2+1)]? :=by
 cases s with
 |first=>
  show(t.inOrder k).head?=_;rw[show((dA 093 Spot.first).1,(dA 093 Spot.first).2+1)=([-1],(0:Int)+1) from rfl,E7 hk,gF];exact List.head?_eq_getElem?
 |last=>
  show none=_;rw[show((dA 093 Spot.last).1,(dA 093 Spot.last).2+1)=([18446744073709551616],(0:Int)+1) from rfl,Fp hk λx hx=>(w.rows.row x hx).2.2];rw[aaS (by rw[(cY _ _).length_eq];exact aay _)]
 |at_ r n=>
  show(t.inOrder k).find? (λ(x:088)=>placed 093 (n,r) x)=_;rw[show((dA 093 (Spot.at_ r n)).1,(dA 093 (Spot.at_ r n)).2+1)=(aC 093 r,(n:Int)+1) from rfl,<-xC _ w.rows.good,gF]
  congr 1
  funext x
  rw[lt_next,aeR,qV];rfl
def Lf{t:049}(w:Wf t){k:Nat}(hk:sound 093=true)(s:Spot):t.prior k s=if cnt (aO 093 t.rows) (dA 093 s)=0 then none else(fy 093 t.rows)[cnt (aO 093 t.rows) (dA 093 s)-1]? :=by
 cases s with
 |first=>
  show none=_;rw[show dA 093 Spot.first=([-1],(0:Int)) from rfl,E7 hk,aav rfl]
 |last=>
  show(t.inOrder k).getLast?=_;rw[show dA 093 Spot.last=([18446744073709551616],(0:Int)) from rfl,Fp hk λx hx=>(w.rows.row x hx).2.2,gF,List.getLast?_eq_getElem?,(cY _ _).length_eq];by_cases e:t.rows.length=0
  ·rw[aav e,e];rw[aaS (by rw[(cY _ _).length_eq];omega)]
  ·rw[aan e]
 |at_ r n=>
  show(t.inOrder k).reverse.find? (λ(x:088)=>placed 093 x (n,r))=_;rw[show dA 093 (Spot.at_ r n)=(aC 093 r,(n:Int)) from rfl,<-xF _ w.rows.good,gF]
  congr 1
  funext x
  rw[qV];rfl
def LC{t:049}{c:Cursor}{n:Nat}(hn:1<=n){x:Row}(hx:t.row n=some x):c.isAt t n=true↔cZ (t.spec c.order) (n,x)=dA (t.spec c.order) c.spot:=by
 unfold Cursor.isAt
 cases e:c.spot with
 |first=>
  refine⟨λh=>(by cases h),λh=>?_⟩;have:(n:Int)=0:=aby Prod.snd h;omega
 |last=>
  refine⟨λh=>(by cases h),λh=>?_⟩;have:(n:Int)=0:=aby Prod.snd h;omega
 |at_ r m=>
  show(m==n&&(match t.row n with
   |some x=>before (t.spec c.order) x r==0
   |none=>false))=true↔_
  rw[hx,aak];show m==n/\(before (t.spec c.order) x r==0)=true↔(aC (t.spec c.order) x,(n:Int))=(aC (t.spec c.order) r,(m:Int));rw[abi,abi,(jW _ x r).2.1];constructor
  ·rintro⟨a,b⟩;rw[a,b]
  ·intro h;injection h with a b;exact⟨0018,a⟩
def xa{d f x:Nat}(hx:0050):(deedOf d f x).isSome=true↔d<=5/\f<4:=by
 unfold deedOf;by_cases hf:3<f
 ·rw[aav (.inl hf)];exact⟨λh=>(by cases h),λh=>by omega⟩
 ·rw[aan (by rw[Cu];omega)]
  match d with
  |0=>exact 074
  |1=>exact 074
  |2=>exact 074
  |3=>exact 074
  |4=>exact 074
  |5=>exact 074
  |n+6=>exact⟨λh=>(by cases h),λh=>by omega⟩
def w9:∀(n:Nat) (l:015),l.length=n->(∀x∈l,x<18446744073709551616)->(l.length%3=0/\(∀i,i<l.length / 3->l.getD (3*i) 0<=5/\l.getD (3*i+1) 0<4)->∃ds,deedsIn l=some ds/\l.length=3*ds.length/\∀i,i<ds.length->deedOf (l.getD (3*i) 0) (l.getD (3*i+1) 0) (l.getD (3*i+2) 0)=ds[i]?)/\(¬(l.length%3=0/\∀i,i<l.length / 3->l.getD (3*i) 0<=5/\l.getD (3*i+1) 0<4)->deedsIn l=none):=by
 intro n
 induction n using Nat.strongRecOn with
 |_ n ih=>
  intro l hl hb
  match l,hl,hb with
  |[],_,_=>exact⟨λ_=>⟨[],rfl,rfl,λi hi=>absurd hi (abR _)⟩,λh=>absurd ⟨rfl,λi hi=>absurd hi 017⟩ h⟩
  |[a],_,_=>exact⟨λh=>by simp at h,λ_=>rfl⟩
  |[a,b],_,_=>exact⟨λh=>by simp at h,λ_=>rfl⟩
  |a::b::c::r,hl,hb=>
   have hl':r.length+3=n:=hl;obtain⟨ih1,ih2⟩:=ih r.length 03 r rfl λx hx=>hb x (by simp[hx]);have hc:c<18446744073709551616:=hb c 017
   have e0:∀o,deedsIn (a::b::c::r)=o↔(match deedOf a b c,deedsIn r with
    |some y,some l=>some (y::l)
    |_,_=>none)=o:=λo=>by rw[deedsIn];exact Iff.rfl
   have hlen:(a::b::c::r).length=r.length+3:=rfl;have hdiv:(r.length+3) / 3=r.length / 3+1:=by omega
   have g0:(a::b::c::r).getD (3*0) 0=a:=rfl;have g1:(a::b::c::r).getD (3*0+1) 0=b:=rfl
   have gs:∀i j,(a::b::c::r).getD (3*(i+1)+j) 0=r.getD (3*i+j) 0:=λi j=>by
    rw[show 3*(i+1)+j=(3*i+j)+1+1+1 by omega];rfl
   constructor
   ·rintro⟨h1,h2⟩;rw[hlen] at h1 h2;have h0:=h2 0 03;rw[g0,g1] at h0
    obtain⟨ds,q1,q2,q3⟩:=ih1 ⟨by omega,λi hi=>by
     have:=h2 (i+1) 03;have e1:(a::b::c::r).getD (3*(i+1)) 0=r.getD (3*i) 0:=gs i 0;have e2:=gs i 1;rw[e1,e2] at this
     exact this⟩
    obtain⟨y,hy⟩:=abW.mp ((xa hc).mpr h0);refine⟨y::ds,(e0 _).mpr (by rw[hy,q1]),by rw[hlen,aat];omega,λi hi=>?_⟩
    cases i with
    |zero=>exact hy
    |succ i=>
     have e1:(a::b::c::r).getD (3*(i+1)) 0=r.getD (3*i) 0:=gs i 0;have e2:=gs i 1;have e3:=gs i 2;rw[e1,e2,e3,q3 i (by rw[aat] at hi;omega)];rfl
   ·intro h;refine(e0 _).mpr ?_
    cases hy:deedOf a b c with
    |none=>rfl
    |some y=>
     cases hz:deedsIn r with
     |none=>rfl
     |some ds=>
      exfalso;apply h
      have hr:r.length%3=0/\∀i,i<r.length / 3->r.getD (3*i) 0<=5/\r.getD (3*i+1) 0<4:=by
       refine ack λq=>?_;rw[ih2 q] at hz;cases hz
      have hab:=(xa (d:=a) (f:=b) hc).mp (by rw[hy];rfl);rw[hlen];refine⟨0018,λi hi=>?_⟩
      cases i with
      |zero=>
       rw[g0,g1];exact hab
      |succ i=>
       have e1:(a::b::c::r).getD (3*(i+1)) 0=r.getD (3*i) 0:=gs i 0;have e2:=gs i 1;rw[e1,e2];exact hr.2 i 03
end SM
section
namespace Pq
open Standbook (Table)
def CA{p:Int}{nk:Nat×Nat}(h:PyWqauba.shape p=some nk):∃q:Nat,q<30/\p=(q:Int):=by
 by_cases h0:0<=p
 ·by_cases h1:p<30
  ·exact⟨p.toNat,0018,0018⟩
  ·exfalso;unfold PyWqauba.shape at h;rw[aan 03,aan 03,aan 03,aan 03,aan 03,aan 03,aan 03,aan 03,aan 03,aan 03,aan 03,aan 03,aan 03,aan 03,aan 03,aan 03,aan 03,aan 03,aan 03,aan 03,aan 03,aan 03,aan 03,aan 03,aan 03,aan 03,aan 03,aan 03,aan 03,aan 03] at h;cases h
 ·exfalso;unfold PyWqauba.shape at h;rw[aan 03,aan 03,aan 03,aan 03,aan 03,aan 03,aan 03,aan 03,aan 03,aan 03,aan 03,aan 03,aan 03,aan 03,aan 03,aan 03,aan 03,aan 03,aan 03,aan 03,aan 03,aan 03,aan 03,aan 03,aan 03,aan 03,aan 03,aan 03,aan 03,aan 03] at h;cases h
structure QR(q:Nat)(xs:025)(rs:0066):Prop where
 x0:∀x∈xs,0<=x
 len:∀r∈rs,r.length<=10000
 r0:∀r∈rs,∀z∈r,0<=z/\z<=18446744073709551615
 b8:q=25\/q=29->∀r∈rs,∀z∈r,z<=255
def dh{z:Int}{b:Nat}(h:StNeutral.natural z b=true):0<=z:=by
 unfold StNeutral.natural at h;rw[aak] at h;exact aar h.1
def uf{l:025}{n:Nat}{lo hi:Int}(h:StNeutral.long l n lo hi=true):l.length<=n/\∀z∈l,lo<=z/\z<=hi:=by
 unfold StNeutral.long at h;rw[aak] at h;refine⟨aar h.1,λz hz=>?_⟩;have:=aa3.mp h.2 z hz;rw[aak] at this;exact⟨aar this.1,aar this.2⟩
def bD{r:025}{n:Nat}{hi:Int}(hn:n<=10000)(hh:hi<=18446744073709551615)(h:StNeutral.long r n 0 hi=true):r.length<=10000/\∀z∈r,0<=z/\z<=18446744073709551615:=by
 obtain⟨h1,h2⟩:=uf h;exact⟨0018,λz hz=>⟨(h2 z hz).1,Int.le_trans (h2 z hz).2 hh⟩⟩
def m0{α:Type}{P:α->Prop}:∀x∈([]:List α),P x:=λx hx=>by cases hx
def mc{α:Type}{P:α->Prop}{a:α}{l:076}(h:P a)(t:∀x∈l,P x):∀x∈a::l,P x:=λx hx=>by
 rcases aao.mp hx with rfl|hx
 ·exact h
 ·exact t x hx
def l0{α:Type}{l:076}(h:l.length=0):l=[]:=abm h
def l1{α:Type}{l:076}(h:l.length=1):∃x,l=[x]:=adp.mp h
def l2{α:Type}{l:076}(h:l.length=2):∃x y,l=[x,y]:=by
 match l,h with
 |[x,y],_=>exact⟨x,y,rfl⟩
def l3{α:Type}{l:076}(h:l.length=3):∃x y z,l=[x,y,z]:=by
 match l,h with
 |[x,y,z],_=>exact⟨x,y,z,rfl⟩
end Pq
namespace Bk
open Standbook (Table)
def act:Nat->Table->List Nat->List (List Nat)->Table×List Int
 |0,T,_,_=>Standbook.step T .new
 |1,T,[u],[o]=>Standbook.step T (.order u o)
 |2,T,_,[r]=>Standbook.step T (.put r)
 |3,T,[n],[r]=>Standbook.step T (.set n r)
 |4,T,[n],_=>Standbook.step T (.take n)
 |5,T,[n],_=>Standbook.step T (.has n)
 |6,T,[n],_=>Standbook.step T (.row n)
 |7,T,_,_=>Standbook.step T .count
 |8,T,[k,j],_=>Standbook.step T (.nth k j)
 |9,T,[k,n],_=>Standbook.step T (.rank k n)
 |10,T,[k,h],[r]=>Standbook.step T (.find k h r)
 |11,T,[k],[a,b]=>Standbook.step T (.many k a b)
 |12,T,[k,f],[a,b]=>Standbook.step T (.sum k f a b)
 |13,T,[k,f],_=>Standbook.step T (.cursor k f)
 |14,T,[c],_=>Standbook.step T (.drop c)
 |15,T,[c,n],_=>Standbook.step T (.go c n)
 |16,T,[c,b],[r]=>Standbook.step T (.seek c b r)
 |17,T,[c],_=>Standbook.step T (.at_ c)
 |18,T,[c],_=>Standbook.step T (.next c)
 |19,T,[c],_=>Standbook.step T (.prev c)
 |20,T,[k,m],[a,b,d]=>Standbook.step T (.walk k m a b d)
 |21,T,_,_=>Standbook.step T .mark
 |22,T,_,_=>Standbook.step T .back
 |23,T,_,_=>Standbook.step T .keep
 |24,T,_,_=>Standbook.step T .save
 |25,T,_,[b]=>Standbook.step T (.load (b.map UInt8.ofNat))
 |26,T,_,[o]=>Standbook.step T (.sound o)
 |27,T,_,[o,a,b]=>Standbook.step T (.before o a b)
 |28,T,_,[o,r]=>Standbook.step T (.pack o r)
 |29,T,_,[o,p]=>Standbook.step T (.unpack o (p.map UInt8.ofNat))
 |_,T,_,_=>(T,[])
end Bk
namespace Pq
open Standbook (Table)
abbrev fe(q:Nat):Prop:=∀(xs:025) (rs:0066) (nk:Nat×Nat),PyWqauba.shape (q:Int)=some nk->009=nk.1->rs.length=nk.2->StNeutral.asked1 (PyWqauba.whole (((q:Int)::xs)::rs))=true->
 QR q xs rs/\∀T:Table,StNeutral.step T (PyWqauba.whole (((q:Int)::xs)::rs))=Bk.act q T (xs.map Int.toNat) (rs.map λr=>r.map Int.toNat)
def yE(r:025):StNeutral.bytes r=(r.map Int.toNat).map UInt8.ofNat:=by
 unfold StNeutral.bytes;rw[aaN];rfl
def Q8:fe 0:=by
 sleep 09;have es:PyWqauba.shape ((0:Nat):Int)=some (0,0):=by decide+kernel
 sleep 052
def Qx:fe 1:=by
 sleep 09;have es:PyWqauba.shape ((1:Nat):Int)=some (1,1):=by decide+kernel
 rw[es] at hs;obtain rfl:(1,1)=nk:=aac hs;obtain⟨x0,rfl⟩:=l1 hx;obtain⟨r0,rfl⟩:=l1 hr;have h:(StNeutral.natural x0 32&&StNeutral.long r0 8 0 255)=true:=h;simp only[aak] at h;obtain⟨hx0,hr0⟩:=h;refine⟨⟨(mc (dh hx0) m0),058,057,030⟩,λT=>?_⟩;rfl
def QL:fe 2:=by
 sleep 09;have es:PyWqauba.shape ((2:Nat):Int)=some (0,1):=by decide+kernel
 rw[es] at hs;obtain rfl:(0,1)=nk:=aac hs;obtain rfl:xs=[]:=l0 hx;obtain⟨r0,rfl⟩:=l1 hr;have h:(StNeutral.long r0 8 0 18446744073709551615)=true:=h;have hr0:=h;refine⟨⟨m0,058,057,030⟩,λT=>?_⟩;rfl
def Qt:fe 3:=by
 sleep 09;have es:PyWqauba.shape ((3:Nat):Int)=some (1,1):=by decide+kernel
 rw[es] at hs;obtain rfl:(1,1)=nk:=aac hs;obtain⟨x0,rfl⟩:=l1 hx;obtain⟨r0,rfl⟩:=l1 hr;have h:(StNeutral.natural x0 32&&StNeutral.long r0 8 0 18446744073709551615)=true:=h;simp only[aak] at h;obtain⟨hx0,hr0⟩:=h;refine⟨⟨(mc (dh hx0) m0),058,057,030⟩,λT=>?_⟩;rfl
def Q5:fe 4:=by
 sleep 09;have es:PyWqauba.shape ((4:Nat):Int)=some (1,0):=by decide+kernel
 sleep 044
def QK:fe 5:=by
 sleep 09;have es:PyWqauba.shape ((5:Nat):Int)=some (1,0):=by decide+kernel
 sleep 044
def Q_:fe 6:=by
 sleep 09;have es:PyWqauba.shape ((6:Nat):Int)=some (1,0):=by decide+kernel
 sleep 044
def Ra:fe 7:=by
 sleep 09;have es:PyWqauba.shape ((7:Nat):Int)=some (0,0):=by decide+kernel
 sleep 052
def Ro:fe 8:=by
 sleep 09;have es:PyWqauba.shape ((8:Nat):Int)=some (2,0):=by decide+kernel
 rw[es] at hs;sleep 046
def Rf:fe 9:=by
 sleep 09;have es:PyWqauba.shape ((9:Nat):Int)=some (2,0):=by decide+kernel
 rw[es] at hs;sleep 046
def OA:fe 10:=by
 sleep 09;have es:PyWqauba.shape ((10:Nat):Int)=some (2,1):=by decide+kernel
 rw[es] at hs;obtain rfl:(2,1)=nk:=aac hs;obtain⟨x0,x1,rfl⟩:=l2 hx;obtain⟨r0,rfl⟩:=l1 hr;have h:(StNeutral.natural x0 32&&StNeutral.natural x1 32&&StNeutral.long r0 8 0 18446744073709551615)=true:=h;simp only[aak] at h;obtain⟨⟨hx0,hx1⟩,hr0⟩:=h;refine⟨⟨(mc (dh hx0) (mc (dh hx1) m0)),058,057,030⟩,λT=>?_⟩;rfl
def NU:fe 11:=by
 sleep 09;have es:PyWqauba.shape ((11:Nat):Int)=some (1,2):=by decide+kernel
 rw[es] at hs;obtain rfl:(1,2)=nk:=aac hs;obtain⟨x0,rfl⟩:=l1 hx;obtain⟨r0,r1,rfl⟩:=l2 hr;have h:(StNeutral.natural x0 32&&StNeutral.long r0 8 0 18446744073709551615&&StNeutral.long r1 8 0 18446744073709551615)=true:=h;simp only[aak] at h;obtain⟨⟨hx0,hr0⟩,hr1⟩:=h;refine⟨⟨(mc (dh hx0) m0),056,055,030⟩,λT=>?_⟩;rfl
def Of:fe 12:=by
 sleep 09;have es:PyWqauba.shape ((12:Nat):Int)=some (2,2):=by decide+kernel
 rw[es] at hs;obtain rfl:(2,2)=nk:=aac hs;obtain⟨x0,x1,rfl⟩:=l2 hx;obtain⟨r0,r1,rfl⟩:=l2 hr;have h:(StNeutral.natural x0 32&&StNeutral.natural x1 32&&StNeutral.long r0 8 0 18446744073709551615&&StNeutral.long r1 8 0 18446744073709551615)=true:=h;simp only[aak] at h;obtain⟨⟨⟨hx0,hx1⟩,hr0⟩,hr1⟩:=h;refine⟨⟨(mc (dh hx0) (mc (dh hx1) m0)),056,055,030⟩,λT=>?_⟩;rfl
def OI:fe 13:=by
 sleep 09;have es:PyWqauba.shape ((13:Nat):Int)=some (2,0):=by decide+kernel
 rw[es] at hs;sleep 046
def P5:fe 14:=by
 sleep 09;have es:PyWqauba.shape ((14:Nat):Int)=some (1,0):=by decide+kernel
 sleep 044
def N7:fe 15:=by
 sleep 09;have es:PyWqauba.shape ((15:Nat):Int)=some (2,0):=by decide+kernel
 rw[es] at hs;sleep 046
def O8:fe 16:=by
 sleep 09;have es:PyWqauba.shape ((16:Nat):Int)=some (2,1):=by decide+kernel
 rw[es] at hs;obtain rfl:(2,1)=nk:=aac hs;obtain⟨x0,x1,rfl⟩:=l2 hx;obtain⟨r0,rfl⟩:=l1 hr;have h:(StNeutral.natural x0 32&&StNeutral.natural x1 32&&StNeutral.long r0 8 0 18446744073709551615)=true:=h;simp only[aak] at h;obtain⟨⟨hx0,hx1⟩,hr0⟩:=h;refine⟨⟨(mc (dh hx0) (mc (dh hx1) m0)),058,057,030⟩,λT=>?_⟩;rfl
def Qj:fe 17:=by
 sleep 09;have es:PyWqauba.shape ((17:Nat):Int)=some (1,0):=by decide+kernel
 sleep 044
def PY:fe 18:=by
 sleep 09;have es:PyWqauba.shape ((18:Nat):Int)=some (1,0):=by decide+kernel
 sleep 044
def Pk:fe 19:=by
 sleep 09;have es:PyWqauba.shape ((19:Nat):Int)=some (1,0):=by decide+kernel
 sleep 044
def OS:fe 20:=by
 sleep 09;have es:PyWqauba.shape ((20:Nat):Int)=some (2,3):=by decide+kernel
 rw[es] at hs;obtain rfl:(2,3)=nk:=aac hs;obtain⟨x0,x1,rfl⟩:=l2 hx;obtain⟨r0,r1,r2,rfl⟩:=l3 hr;have h:(StNeutral.natural x0 32&&StNeutral.natural x1 32&&StNeutral.long r0 8 0 18446744073709551615&&StNeutral.long r1 8 0 18446744073709551615&&StNeutral.long r2 3000 0 18446744073709551615)=true:=h;simp only[aak] at h;obtain⟨⟨⟨⟨hx0,hx1⟩,hr0⟩,hr1⟩,hr2⟩:=h;refine⟨⟨(mc (dh hx0) (mc (dh hx1) m0)),(mc (bD 0010 0010 hr0).1 (mc (bD 0010 0010 hr1).1 (mc (bD 0010 0010 hr2).1 m0))),(mc (bD 0010 0010 hr0).2 (mc (bD 0010 0010 hr1).2 (mc (bD 0010 0010 hr2).2 m0))),030⟩,λT=>?_⟩;rfl
def PX:fe 21:=by
 sleep 09;have es:PyWqauba.shape ((21:Nat):Int)=some (0,0):=by decide+kernel
 sleep 052
def Oe:fe 22:=by
 sleep 09;have es:PyWqauba.shape ((22:Nat):Int)=some (0,0):=by decide+kernel
 sleep 052
def OM:fe 23:=by
 sleep 09;have es:PyWqauba.shape ((23:Nat):Int)=some (0,0):=by decide+kernel
 sleep 052
def Pr:fe 24:=by
 sleep 09;have es:PyWqauba.shape ((24:Nat):Int)=some (0,0):=by decide+kernel
 sleep 052
def NJ:fe 25:=by
 sleep 09;have es:PyWqauba.shape ((25:Nat):Int)=some (0,1):=by decide+kernel
 rw[es] at hs;obtain rfl:(0,1)=nk:=aac hs;obtain rfl:xs=[]:=l0 hx;obtain⟨r0,rfl⟩:=l1 hr;have h:(StNeutral.long r0 10000 0 255)=true:=h;have hr0:=h;refine⟨⟨m0,058,057,λ_=>(mc (λz hz=>((uf hr0).2 z hz).2) m0)⟩,λT=>?_⟩;show Standbook.step T (.load (StNeutral.bytes r0))=Standbook.step T (.load ((r0.map Int.toNat).map UInt8.ofNat));rw[yE]
def Od:fe 26:=by
 sleep 09;have es:PyWqauba.shape ((26:Nat):Int)=some (0,1):=by decide+kernel
 rw[es] at hs;obtain rfl:(0,1)=nk:=aac hs;obtain rfl:xs=[]:=l0 hx;obtain⟨r0,rfl⟩:=l1 hr;have h:(StNeutral.long r0 8 0 255)=true:=h;have hr0:=h;refine⟨⟨m0,058,057,030⟩,λT=>?_⟩;rfl
def ND:fe 27:=by
 sleep 09;have es:PyWqauba.shape ((27:Nat):Int)=some (0,3):=by decide+kernel
 rw[es] at hs;obtain rfl:(0,3)=nk:=aac hs;obtain rfl:xs=[]:=l0 hx;obtain⟨r0,r1,r2,rfl⟩:=l3 hr;have h:(StNeutral.long r0 8 0 255&&StNeutral.long r1 8 0 18446744073709551615&&StNeutral.long r2 8 0 18446744073709551615)=true:=h;simp only[aak] at h;obtain⟨⟨hr0,hr1⟩,hr2⟩:=h;refine⟨⟨m0,(mc (bD 0010 0010 hr0).1 (mc (bD 0010 0010 hr1).1 (mc (bD 0010 0010 hr2).1 m0))),(mc (bD 0010 0010 hr0).2 (mc (bD 0010 0010 hr1).2 (mc (bD 0010 0010 hr2).2 m0))),030⟩,λT=>?_⟩;rfl
def Po:fe 28:=by
 sleep 09;have es:PyWqauba.shape ((28:Nat):Int)=some (0,2):=by decide+kernel
 rw[es] at hs;obtain rfl:(0,2)=nk:=aac hs;obtain rfl:xs=[]:=l0 hx;obtain⟨r0,r1,rfl⟩:=l2 hr;have h:(StNeutral.long r0 8 0 255&&StNeutral.long r1 8 0 18446744073709551615)=true:=h;simp only[aak] at h;obtain⟨hr0,hr1⟩:=h;refine⟨⟨m0,056,055,030⟩,λT=>?_⟩;rfl
def Ob:fe 29:=by
 sleep 09;have es:PyWqauba.shape ((29:Nat):Int)=some (0,2):=by decide+kernel
 rw[es] at hs;obtain rfl:(0,2)=nk:=aac hs;obtain rfl:xs=[]:=l0 hx;obtain⟨r0,r1,rfl⟩:=l2 hr;have h:(StNeutral.long r0 8 0 255&&StNeutral.long r1 10000 0 255)=true:=h;simp only[aak] at h;obtain⟨hr0,hr1⟩:=h;refine⟨⟨m0,056,055,λ_=>(mc (λz hz=>((uf hr0).2 z hz).2) (mc (λz hz=>((uf hr1).2 z hz).2) m0))⟩,λT=>?_⟩;show Standbook.step T (.unpack (StNeutral.nats r0) (StNeutral.bytes r1))=Standbook.step T (.unpack (r0.map Int.toNat) ((r1.map Int.toNat).map UInt8.ofNat));rw[yE];rfl
def FC:∀q:Nat,q<30->fe q
 |0,_=>Q8
 |1,_=>Qx
 |2,_=>QL
 |3,_=>Qt
 |4,_=>Q5
 |5,_=>QK
 |6,_=>Q_
 |7,_=>Ra
 |8,_=>Ro
 |9,_=>Rf
 |10,_=>OA
 |11,_=>NU
 |12,_=>Of
 |13,_=>OI
 |14,_=>P5
 |15,_=>N7
 |16,_=>O8
 |17,_=>Qj
 |18,_=>PY
 |19,_=>Pk
 |20,_=>OS
 |21,_=>PX
 |22,_=>Oe
 |23,_=>OM
 |24,_=>Pr
 |25,_=>NJ
 |26,_=>Od
 |27,_=>ND
 |28,_=>Po
 |29,_=>Ob
 |q+30,h=>absurd h 03
end Pq
end
section
namespace Bk
def pO(ns:015):Nat->List Nat->Nat->Prop
 |i,[],j=>j=i
 |i,x::xs,j=>ns[i]? =some x/\pO ns (i+1) xs j
def pU(ns:015):Nat->List (List Nat)->Nat->Prop
 |i,[],j=>j=i
 |i,r::rs,j=>∃n,ns[i]? =some n/\i+1+n<=ns.length/\r=(ns.drop (i+1)).take n/\pU ns (i+1+n) rs j
end Bk
namespace Pq
open Standbook (Table)
open Bk (pO pU act)
def nat(l:025):List Nat:=l.map Int.toNat
def xS{l:025}{i:Nat}{z:Int}{r:025}(h:l.drop i=z::r):(nat l)[i]? =some z.toNat/\i<l.length/\l.drop (i+1)=r:=by
 have hl:i<l.length:=by
  have:=aby List.length h;rw[abh,aat] at this;omega
 rw[abg hl] at h;obtain⟨h1,h2⟩:=List.cons.inj h;refine⟨?_,hl,h2⟩;unfold nat;rw[aai,aab hl,h1];rfl
theorem FE:∀(xs rest:025) (l:025) (i:Nat),l.drop i=xs++rest->pO (nat l) i (nat xs) (i+009)/\l.drop (i+009)=rest
 |[],rest,l,i,h=>⟨rfl,h⟩
 |x::xs,rest,l,i,h=>by
  obtain⟨h1,h2,h3⟩:=xS (l:=l) (i:=i) (z:=x) (r:=xs++rest) h;obtain⟨a,b⟩:=FE xs rest l (i+1) h3;have e:i+1+009=i+(x::xs).length:=by rw[aat];omega
  rw[e] at a b;exact⟨⟨h1,a⟩,b⟩
theorem xG:∀(k:Nat) (l:025) (i:Nat) (xs:0066) (t:025),PyFlat.rows k (l.drop i)=some (xs,t)->i<=l.length->009=k/\∃j,i<=j/\j<=l.length/\t=l.drop j/\pU (nat l) i (xs.map nat) j
 |0,l,i,xs,t,h,hi=>by
  have h:some ([],l.drop i)=some (xs,t):=h;obtain⟨rfl,rfl⟩:=aeo (aac h);exact⟨rfl,i,aay _,hi,rfl,rfl⟩
 |k+1,l,i,xs,t,h,hi=>by
  unfold PyFlat.rows at h
  cases e:l.drop i with
  |nil=>rw[e] at h;cases h
  |cons n r=>
   obtain⟨g1,g2,g3⟩:=xS e;rw[e] at h;unfold PyFlat.row at h;dsimp only at h;by_cases c:0<=n/\n.toNat<=r.length
   ·rw[aav c] at h;dsimp only at h;have er:r.drop n.toNat=l.drop (i+1+n.toNat):=by rw[<-g3,abd]
    have hrl:r.length=l.length-(i+1):=by rw[<-g3,abh]
    rw[er] at h
    cases e2:PyFlat.rows k (l.drop (i+1+n.toNat)) with
    |none=>rw[e2] at h;cases h
    |some y=>
     obtain⟨ys,s⟩:=y;rw[e2] at h;have h:some (r.take n.toNat::ys,s)=some (xs,t):=h;obtain⟨rfl,rfl⟩:=aeo (aac h);obtain⟨q1,j,q2,q3,q4,q5⟩:=xG k l (i+1+n.toNat) ys s e2 03;refine⟨by rw[aat,q1],j,0018,q3,q4,n.toNat,g1,by unfold nat;rw[aaa];omega,?_,q5⟩;rw[<-g3];unfold nat;rw[abY,abZ]
   ·rw[aan c] at h;cases h
theorem Fn:∀(k:Nat) (s:025) (xs:0066) (t:025),PyFlat.rows k s=some (xs,t)->∀z∈s,z∈t\/(∃r∈xs,z∈r)\/0<=z
 |0,s,xs,t,h,z,hz=>by
  have h:some ([],s)=some (xs,t):=h;obtain⟨rfl,rfl⟩:=aeo (aac h);exact .inl hz
 |k+1,s,xs,t,h,z,hz=>by
  unfold PyFlat.rows at h
  cases s with
  |nil=>cases hz
  |cons n r=>
   unfold PyFlat.row at h;dsimp only at h;by_cases c:0<=n/\n.toNat<=r.length
   ·rw[aav c] at h;dsimp only at h
    cases e2:PyFlat.rows k (r.drop n.toNat) with
    |none=>rw[e2] at h;cases h
    |some y=>
     obtain⟨ys,s⟩:=y;rw[e2] at h;have h:some (r.take n.toNat::ys,s)=some (xs,t):=h;obtain⟨rfl,rfl⟩:=aeo (aac h);rcases aao.mp hz with rfl|hz
     ·exact .inr (.inr c.1)
     ·rw[<-abf n.toNat r] at hz;rcases aax.mp hz with hz|hz
      ·exact .inr (.inl ⟨_,aae,hz⟩)
      ·rcases Fn k _ ys s e2 z hz with q|⟨r',q1,q2⟩|q
       ·exact .inl q
       ·exact .inr (.inl ⟨r',aag _ q1,q2⟩)
       ·exact .inr (.inr q)
   ·rw[aan c] at h;cases h
structure One(l:025)(i:Nat)(cs:List (List (List Int))) where
 f:Nat
 q:Nat
 xs:List Int
 rs:List (List Int)
 rest:List (List (List Int))
 nk:Nat×Nat
 i1:Nat
 j:Nat
 hq:q<30
 hs:PyWqauba.shape (q:Int)=some nk
 hx:009=nk.1
 hr:rs.length=nk.2
 ec:cs=(((q:Int)::xs)::rs)::rest
 g:(nat l)[i]? =some q
 n:pO (nat l) (i+1) (nat xs) i1
 r:pU (nat l) i1 (rs.map nat) j
 lt:i<j
 le:j<=l.length
 go:PyFlat.calls PyWqauba.shape f (l.drop j)=some rest
def PV{l:025}{i f:Nat}{cs:List (List (List Int))}(h:PyFlat.calls PyWqauba.shape f (l.drop i)=some cs)(hi:i<l.length):Nonempty (One l i cs):=by
 rw[abg hi] at h
 cases f with
 |zero=>cases h
 |succ f=>
  have e0:l.drop i=l[i]::l.drop (i+1):=abg hi;obtain⟨g1,_,g3⟩:=xS e0;unfold PyFlat.calls PyFlat.call at h;dsimp only at h
  cases es:PyWqauba.shape l[i] with
  |none=>rw[es] at h;cases h
  |some nk=>
   obtain⟨n,k⟩:=nk;rw[es] at h;dsimp only at h;by_cases c:(l.drop (i+1)).length<n
   ·rw[aav c] at h;cases h
   ·rw[aan c] at h;have hdl:(l.drop (i+1)).length=l.length-(i+1):=abh;rw[abd] at h
    cases er:PyFlat.rows k (l.drop (i+1+n)) with
    |none=>rw[er] at h;cases h
    |some y=>
     obtain⟨ys,t⟩:=y;rw[er] at h;dsimp only at h;obtain⟨q1,j,q2,q3,q4,q5⟩:=xG k l (i+1+n) ys t er 03
     cases ec:PyFlat.calls PyWqauba.shape f t with
     |none=>rw[ec] at h;cases h
     |some rest=>
      rw[ec] at h;obtain⟨q,hq,eq⟩:=CA es;have hn:=FE ((l.drop (i+1)).take n) ((l.drop (i+1)).drop n) l (i+1) (abf _ _).symm;have hln:((l.drop (i+1)).take n).length=n:=by rw[aaH];omega
      rw[hln] at hn;exact⟨⟨f,q,(l.drop (i+1)).take n,ys,rest,(n,k),i+1+n,j,hq,by rw[<-eq];exact es,hln,q1,by rw[<-eq];exact(aac h).symm,by rw[g1,eq];rfl,hn.1,q5,0018,q3,by rw[<-q4];exact ec⟩⟩
theorem Dy:∀(f:Nat) (l:025) (cs:List (List (List Int))),PyFlat.calls PyWqauba.shape f l=some cs->(∀c∈cs,StNeutral.asked1 (PyWqauba.whole c)=true)->∀z∈l,0<=z
 |f,[],cs,h,ha,z,hz=>by cases hz
 |0,p::r,cs,h,ha,z,hz=>by cases h
 |f+1,p::r,cs,h,ha,z,hz=>by
  unfold PyFlat.calls PyFlat.call at h;dsimp only at h
  cases es:PyWqauba.shape p with
  |none=>rw[es] at h;cases h
  |some nk=>
   obtain⟨n,k⟩:=nk;rw[es] at h;dsimp only at h;by_cases c:r.length<n
   ·rw[aav c] at h;cases h
   ·rw[aan c] at h
    cases er:PyFlat.rows k (r.drop n) with
    |none=>rw[er] at h;cases h
    |some y=>
     obtain⟨ys,t⟩:=y;rw[er] at h;dsimp only at h
     cases ec:PyFlat.calls PyWqauba.shape f t with
     |none=>rw[ec] at h;cases h
     |some rest=>
      rw[ec] at h;have h:(((p::r.take n)::ys)::rest)=cs:=aac h;subst h;obtain⟨q,hq,rfl⟩:=CA es
      have hrl:ys.length=k:=by
       have:=xG k (r.drop n) 0 ys t er (aaT _);exact this.1
      have ok:=(FC q hq (r.take n) ys (n,k) es (by rw[aaH];show min n r.length=n;omega) hrl (ha _ aae)).1;rcases aao.mp hz with rfl|hz
      ·omega
      ·rw[<-abf n r] at hz;rcases aax.mp hz with hz|hz
       ·exact ok.x0 z hz
       ·rcases Fn k _ ys t er z hz with q1|⟨r',q1,q2⟩|q1
        ·exact Dy f t rest ec (λc hc=>ha c (aag _ hc)) z q1
        ·exact(ok.r0 r' q1 z q2).1
        ·exact q1
def Lz{l:025}(h:∀z∈l,0<=z):(nat l).map (λ(n:Nat)=>(n:Int))=l:=by
 unfold nat;rw[aaN]
 conv=>rhs;rw[<-adt l]
 apply abD;intro z hz;exact Int.toNat_of_nonneg (h z hz)
end Pq
end
namespace ST
open PySem PySem.SetTable
theorem Bb:∀(m:Nat) (l:015),l.length<=m->∃j,j<=m/\j∉l
 |0,l,h=>⟨0,aay _,by have e:l=[]:=abm 03;subst e;simp⟩
 |m+1,l,h=>by
  by_cases hm:(m+1)∈l
  ·obtain⟨j,hj,hn⟩:=Bb m (l.erase (m+1)) (by rw[List.length_erase_of_mem hm];omega);exact⟨j,0018,λz=>hn ((List.mem_erase_of_ne 03).mpr z)⟩
  ·exact⟨m+1,aay _,hm⟩
def oO(mask i q:Nat):Probe:={j:=i,more:=runEnd mask i-i,i:=i,perturb:=q,dummy:=none}
def i9(mask:Nat)(p:Probe):Probe:=
 if p.more>0 then{p with j:=p.j+1,more:=p.more-1} else
 {p with j:=(leap mask p.i 0092).1,more:=runEnd mask (leap mask p.i 0092).1-(leap mask p.i 0092).1,i:=(leap mask p.i 0092).1,perturb:=(leap mask p.i 0092).2}
theorem J2(t:SetTable)(p:Probe):t.advance p=i9 t.mask p:=rfl
def start(mask:Nat)(h:Int):Probe:=oO mask (bits h%(mask+1)) (bits h)
inductive Way(mask:Nat)(o:Nat->Prop):Probe->Nat->Prop
 |here(p:Probe):Way mask o p p.j
 |next{p:Probe}{j:Nat}:o p.j->Way mask o (i9 mask p) j->Way mask o p j
inductive End(mask:Nat)(o:Nat->Prop):Probe->Nat->Prop
 |here{p:Probe}:¬o p.j->End mask o p 0
 |next{p:Probe}{n:Nat}:o p.j->End mask o (i9 mask p) n->End mask o p (n+1)
theorem Way.mono{mask:Nat}{o o':Nat->Prop}(h:∀j,o j->o' j):∀{p j},Way mask o p j->Way mask o' p j
 |_,_,.here p=>.here p
 |_,_,.next a b=>.next (h _ a) (Way.mono h b)
def zC(mask:Nat)(p:Probe):Prop:=p.j+p.more<=mask/\p.dummy=none
def yR{mask i:Nat}(h:i<=mask):runEnd mask i<=mask:=by unfold runEnd;split<;>omega
def zr{mask i:Nat}:i<=runEnd mask i:=by unfold runEnd;split<;>omega
def Ei{mask i:Nat}:runEnd mask i-i<=9:=by unfold runEnd;split<;>omega
def Ia{mask i q:Nat}(h:i<=mask):zC mask (oO mask i q):=⟨by have:=yR h;have:=@zr mask i;show i+(runEnd mask i-i)<=mask;omega,rfl⟩
def xw{mask i q:Nat}:(leap mask i q).1<=mask:=by
 have:(i*5+1+q / 32)%(mask+1)<mask+1:=acp _ 03;show(i*5+1+q / 32)%(mask+1)<=mask;omega
def Dj{mask:Nat}{h:Int}:zC mask (start mask h):=Ia (by have:bits h%(mask+1)<mask+1:=acp _ 03;omega)
def CL{mask:Nat}{p:Probe}(h:zC mask p):zC mask (i9 mask p):=by
 unfold i9
 split
 ·exact⟨by have:=h.1;show p.j+1+(p.more-1)<=mask;omega,h.2⟩
 ·have:=@Ia mask (leap mask p.i 0092).1 0 xw;exact⟨this.1,h.2⟩
theorem run{mask:Nat}{o:Nat->Prop}:∀(m:Nat) (p:Probe),p.more=m->p.dummy=none->(∃k,k<=m/\End mask o p k)\/((∀n,End mask o (oO mask (leap mask p.i 0092).1 (leap mask p.i 0092).2) n->End mask o p (n+m+1))/\∀j,Way mask o (oO mask (leap mask p.i 0092).1 (leap mask p.i 0092).2) j->Way mask o p j)
 |0,p,hm,hd=>by
  by_cases ho:o p.j
  ·have e:i9 mask p=oO mask (leap mask p.i 0092).1 (leap mask p.i 0092).2:=by
    unfold i9;rw[aan 03];unfold oO;rw[hd]
   exact .inr ⟨λn h=>.next ho (e▸h),λj h=>.next ho (e▸h)⟩
  ·exact .inl ⟨0,aay _,.here ho⟩
 |m+1,p,hm,hd=>by
  by_cases ho:o p.j
  ·have e:i9 mask p={p with j:=p.j+1,more:=p.more-1}:=by unfold i9;rw[aav 03]
   rcases run (mask:=mask) (o:=o) m (i9 mask p) (by rw[e];show p.more-1=m;omega) (by rw[e];exact hd) with⟨k,h1,h2⟩|⟨h1,h2⟩
   ·exact .inl ⟨k+1,by omega,.next ho h2⟩
   ·have ei:(i9 mask p).i=p.i:=by rw[e]
    have eq:(i9 mask p).perturb=0092:=by rw[e]
    rw[ei,eq] at h1 h2;exact .inr ⟨λn h=>by have:=End.next ho (h1 n h);rw[show n+m+1+1=n+(m+1)+1 by omega] at this;exact this,λj h=>.next ho (h2 j h)⟩
  ·exact .inl ⟨0,by omega,.here ho⟩
def lp(mask:Nat):Nat->Nat×Nat->Nat×Nat
 |0,x=>x
 |n+1,x=>lp mask n (leap mask x.1 x.2)
theorem JX{mask:Nat}{o:Nat->Prop}:∀(L i q:Nat),¬o (lp mask L (i,q)).1->∃n,n<=10*L/\End mask o (oO mask i q) n
 |0,i,q,h=>⟨0,0018,.here h⟩
 |L+1,i,q,h=>by
  have h9:=@Ei mask i;rcases run (mask:=mask) (o:=o) (runEnd mask i-i) (oO mask i q) rfl rfl with⟨k,h1,h2⟩|⟨h1,_⟩
  ·exact⟨k,by omega,h2⟩
  ·obtain⟨n,hn,he⟩:=JX L (leap mask i q).1 (leap mask i q).2 h;exact⟨n+(runEnd mask i-i)+1,0018,h1 n he⟩
def f5(mask x:Nat):Nat:=(x*5+1)%(mask+1)
def it(mask:Nat):Nat->Nat->Nat
 |0,x=>x
 |n+1,x=>it mask n (f5 mask x)
theorem wL(mask:Nat):∀(a b x:Nat),it mask (a+b) x=it mask b (it mask a x)
 |0,b,x=>by rw[ad3];rfl
 |a+1,b,x=>by rw[show a+1+b=(a+b)+1 by omega];exact wL mask a b (f5 mask x)
def met(mask:Nat):Nat->Nat->Nat->Nat
 |0,_,acc=>acc
 |n+1,x,acc=>met mask n (f5 mask x) (acc ||| 2 ^ x)
theorem JG(mask:Nat):∀(n x acc j:Nat),(met mask n x acc).testBit j=true->acc.testBit j=true\/∃k,k<n/\it mask k x=j
 |0,x,acc,j,h=>.inl h
 |n+1,x,acc,j,h=>by
  rcases JG mask n (f5 mask x) (acc ||| 2 ^ x) j h with h|⟨k,hk,e⟩
  ·rw[Nat.testBit_or,Bool.or_eq_true] at h;rcases h with h|h
   ·exact .inl h
   ·rw[adW,abN] at h;exact .inr ⟨0,by omega,h⟩
  ·exact .inr ⟨k+1,by omega,e⟩
def vc(m:Nat):Prop:=m=7\/m=31\/m=127\/m=511
def Qz{m:Nat}(hm:vc m):(∀j,j<=m->∃k,k<=m/\it m k 0=j)/\it m (m+1) 0=0:=by
 have key:∀m:Nat,met m (m+1) 0 0=2 ^ (m+1)-1->it m (m+1) 0=0->(∀j,j<=m->∃k,k<=m/\it m k 0=j)/\it m (m+1) 0=0:=λm h h0=>
  ⟨λj hj=>by
   have hb:(met m (m+1) 0 0).testBit j=true:=by rw[h,Nat.testBit_two_pow_sub_one,abN];omega
   rcases JG m (m+1) 0 0 j hb with z|⟨k,hk,e⟩
   ·simp at z
   ·exact⟨k,by omega,e⟩,h0⟩
 rcases hm with rfl|rfl|rfl|rfl<;>exact key _ (by decide+kernel) (by decide+kernel)
theorem II(mask:Nat):∀(a b:Nat) (x:Nat×Nat),lp mask (a+b) x=lp mask b (lp mask a x)
 |0,b,x=>by rw[ad3];rfl
 |a+1,b,x=>by rw[show a+1+b=(a+b)+1 by omega];exact II mask a b _
theorem F2(mask:Nat):∀(n i:Nat),lp mask n (i,0)=(it mask n i,0)
 |0,i=>rfl
 |n+1,i=>by
  have e:leap mask i 0=(f5 mask i,0):=by
   show((i*5+1+0 / 32)%(mask+1),0 / 32)=_;rfl
  show lp mask n (leap mask i 0)=_;rw[e];exact F2 mask n (f5 mask i)
theorem Mp(mask:Nat):∀(n:Nat) (x:Nat×Nat),x.1<=mask->(lp mask n x).1<=mask
 |0,x,h=>h
 |n+1,x,h=>Mp mask n _ xw
theorem JR(mask:Nat):∀(n:Nat) (x:Nat×Nat),(lp mask n x).2=x.2 / 32 ^ n
 |0,x=>by rw[Nat.pow_zero,Nat.div_one];rfl
 |n+1,x=>by
  show(lp mask n (leap mask x.1 x.2)).2=_;rw[JR mask n];show x.2 / 32 / 32 ^ n=_;rw[aeD,aeL,aeN]
def cover{m:Nat}(hm:vc m){i q j:Nat}(hi:i<=m)(hq:q<2 ^ 64)(hj:j<=m):∃L,L<=m+13/\(lp m L (i,q)).1=j:=by
 obtain⟨h1,h2⟩:=Qz hm
 have e13:lp m 13 (i,q)=((lp m 13 (i,q)).1,0):=by
  have:=JR m 13 (i,q);rw[Nat.div_eq_of_lt (aaO hq 0010)] at this;exact aep rfl this
 obtain⟨a,ha,ea⟩:=h1 _ (Mp m 13 (i,q) hi);obtain⟨b,hb,eb⟩:=h1 j hj
 have fin:∀n,n<=m->it m n (lp m 13 (i,q)).1=j->∃L,L<=m+13/\(lp m L (i,q)).1=j:=λn hn e=>
  ⟨13+n,0018,by rw[II,e13,F2];exact e⟩
 by_cases hab:a<=b
 ·refine fin (b-a) 03 ?_;rw[<-ea,<-wL,show a+(b-a)=b by omega,eb]
 ·refine fin (m+1-a+b) 03 ?_;rw[wL,<-ea,<-wL m a (m+1-a) 0,show a+(m+1-a)=m+1 by omega,h2,eb]
def EW(h:Int):bits h<2 ^ 64:=by
 unfold bits;have:(2 ^ 64:Int)=18446744073709551616:=by decide
 rw[this];have:(2 ^ 64:Nat)=18446744073709551616:=by decide
 rw[this];omega
def Jl{m:Nat}(hm:vc m){o:Nat->Prop}{j:Nat}(hj:j<=m)(ho:¬o j)(h:Int):∃n,n<10*turns m/\End m o (start m h) n:=by
 have hi:bits h%(m+1)<=m:=by have:bits h%(m+1)<m+1:=acp _ 03;omega
 obtain⟨L,hL,e⟩:=cover hm hi (EW h) hj;obtain⟨n,hn,he⟩:=JX (mask:=m) (o:=o) L (bits h%(m+1)) (bits h) (by rw[e];exact ho);exact⟨n,by unfold turns;omega,he⟩
def jB(xs:Array Nat):Prop:=∀(i k a b:Nat),i<k->xs[i]? =some a->xs[k]? =some b->a<b
theorem yb{xs:Array Nat}(hr:jB xs)(j:Nat):∀(fuel lo hi:Nat),hi-lo<=fuel->lo<=hi->hi<=xs.size->(∀(i a:Nat),i<lo->xs[i]? =some a->a<j)->(∀(i a:Nat),hi<=i->xs[i]? =some a->j<=a)->below.go xs j fuel lo hi<=xs.size/\(∀(i a:Nat),i<below.go xs j fuel lo hi->xs[i]? =some a->a<j)/\∀(i a:Nat),below.go xs j fuel lo hi<=i->xs[i]? =some a->j<=a
 |0,lo,hi,h1,h2,h3,h4,h5=>by
  have e:lo=hi:=by omega
  subst e;exact⟨h3,h4,h5⟩
 |fuel+1,lo,hi,h1,h2,h3,h4,h5=>by
  unfold below.go;by_cases hlt:lo<hi
  ·rw[aav hlt];dsimp only;have hm1:(lo+hi) / 2<hi:=by omega
   have hm2:lo<=(lo+hi) / 2:=by omega
   have hms:(lo+hi) / 2<xs.size:=by omega
   have eg:xs[(lo+hi) / 2]? =some xs[(lo+hi) / 2]:=aaR hms;have ed:xs.getD ((lo+hi) / 2) j=xs[(lo+hi) / 2]:=by simp[Array.getD,hms]
   rw[ed]
   split
   ·rename_i hc;refine yb hr j fuel _ hi 03 03 h3 (λi a hi2 e=>?_) h5;by_cases hq:i=(lo+hi) / 2
    ·subst hq;rw[eg] at e;rw[<-aac e];exact hc
    ·exact Nat.lt_trans (hr i _ a _ 03 e eg) hc
   ·rename_i hc;refine yb hr j fuel lo _ 03 03 03 h4 (λi a hi2 e=>?_);by_cases hq:i=(lo+hi) / 2
    ·subst hq;rw[eg] at e;rw[<-aac e];omega
    ·have:=hr _ i _ a 03 eg e;omega
  ·rw[aan hlt];have e:lo=hi:=by omega
   subst e;exact⟨h3,h4,h5⟩
def v3{xs:Array Nat}(hr:jB xs)(j:Nat):below xs j<=xs.size/\(∀(i a:Nat),i<below xs j->xs[i]? =some a->a<j)/\∀(i a:Nat),below xs j<=i->xs[i]? =some a->j<=a:=
 yb hr j xs.size 0 xs.size 03 03 097 (λi a h=>by omega) (λi a h e=>by
  have:=aeH (xs:=xs) h;rw[this] at e
  cases e)
def yY{t:SetTable}(hr:jB t.place){i j:Nat}(e:t.place[i]? =some j):t.slot j= .live i:=by
 obtain⟨h1,h2,h3⟩:=v3 hr j
 have eb:below t.place j=i:=by
  by_cases hl:i<below t.place j
  ·have:=h2 i j hl e;omega
  ·by_cases hg:below t.place j<i
   ·obtain⟨hi,_⟩:=abw.mp e;have eg:t.place[below t.place j]? =some t.place[below t.place j]:=aaR 03;have a:=h3 _ _ 097 eg;have b:=hr _ _ _ _ hg eg e;omega
   ·omega
 unfold slot;dsimp only;rw[eb,e,aav 017]
def G3{t:SetTable}(hd:t.dummies= #[]){j:Nat}(h:j∉047):t.slot j= .empty:=by
 unfold slot;dsimp only;rw[aan]
 ·have:has t.dummies j=false:=by rw[hd];rfl
  rw[this];rfl
 ·intro z;have z:=eq_of_beq z;exact h (abK.mpr (abT z))
def MN{xs:Array Nat}{j:Nat}(h:j∈xs.toList):∃i:Nat,xs[i]? =some j:=by
 obtain⟨i,hi⟩:=aas.mp h;exact⟨i,by rw[<-aaQ];exact hi⟩
structure Inv(t:SetTable)(hs:025):Prop where
 Du:vc t.mask
 EH:t.dummies= #[]
 gO:jB t.place
 le:∀j∈047,j<=t.mask
 len:t.place.size=hs.length
 fit:hs.length<=t.mask
 way:∀(i j:Nat) (h:Int),t.place[i]? =some j->hs[i]? =some h->Way t.mask 0082 (start t.mask h) j
def Inv.ends{t:SetTable}{hs:025}(I:Inv t hs)(h:Int):∃n,n<10*turns t.mask/\End t.mask 0082 (start t.mask h) n:=by
 obtain⟨j,h1,h2⟩:=Bb t.mask t.place.toList (by rw[aaE,I.len];exact I.fit);exact Jl I.Du h1 h2 h
inductive Got(t:SetTable)(hs:025)(h:Int)(p:Probe)(n:Nat):Option Met->Prop
 |free(j:Nat):j∉047->j<=t.mask->Way t.mask (λj=>j∈047) p j->(∀(i0 j0:Nat),t.place[i0]? =some j0->hs[i0]? =some h->¬Way t.mask (λj=>j∈047) p j0)->Got t hs h p n (some (.empty j none))
 |Gg(j i:Nat)(q:Probe)(n':Nat):t.place[i]? =some j->hs[i]? =some h->End t.mask (λj=>j∈047) q n'->n'<n->zC t.mask q->(∀j',Way t.mask (λj=>j∈047) q j'->Way t.mask (λj=>j∈047) p j')->
   (∀(i0 j0:Nat),t.place[i0]? =some j0->hs[i0]? =some h->Way t.mask (λj=>j∈047) p j0->i0≠i->Way t.mask (λj=>j∈047) q j0)->Got t hs h p n (some (.candidate j i q))
theorem Ke{t:SetTable}{hs:025}(I:Inv t hs)(h:Int)(hashAt:Nat->Int)(hh:∀i,hashAt i=(hs[i]?).getD 0):∀(fuel:Nat) (p:Probe) (n:Nat),End t.mask 0082 p n->n<fuel->zC t.mask p->Got t hs h p n (probe.go t hashAt h fuel p)
 |0,p,n,_,hn,_=>by omega
 |fuel+1,p,n,he,hn,ok=>by
  unfold probe.go
  cases he with
  |here ho=>
   rw[G3 I.EH ho];dsimp only;rw[ok.2];refine .free p.j ho (by have:=ok.1;omega) (.here p) λi0 j0 e1 e2 w=>?_
   cases w with
   |here=>exact ho (by exact abK.mpr (abT e1))
   |next a b=>exact ho a
  | @next _ n ho he=>
    obtain⟨i,ei⟩:=MN ho;rw[yY I.gO ei];dsimp only;obtain⟨hi,_⟩:=abw.mp ei;have hil:i<hs.length:=by have:=I.len;omega
    have eh:hs[i]? =some hs[i]:=aab hil;have hsi:hashAt i=hs[i]:=by rw[hh,eh];rfl
    rw[hsi]
    split
    ·rename_i hc;have hc:=eq_of_beq hc;rw[J2];refine .Gg p.j i (i9 t.mask p) n ei (by rw[eh,hc]) he 03 (CL ok) (λj' w=>.next ho w) λi0 j0 e1 e2 w hne=>?_
     cases w with
     |here=>
      exfalso;apply hne;by_cases hl:i0<i
      ·have:=I.gO _ _ _ _ hl e1 ei;omega
      ·by_cases hg:i<i0
       ·have:=I.gO _ _ _ _ hg ei e1;omega
       ·omega
     |next a b=>exact b
    ·rename_i hc;rw[J2]
     have back:∀(i0 j0:Nat),t.place[i0]? =some j0->hs[i0]? =some h->Way t.mask 0082 p j0->Way t.mask 0082 (i9 t.mask p) j0:=λi0 j0 e1 e2 w=>by
      cases w with
      |here=>
       exfalso
       have e0:i0=i:=by
        by_cases hl:i0<i
        ·have:=I.gO _ _ _ _ hl e1 ei;omega
        ·by_cases hg:i<i0
         ·have:=I.gO _ _ _ _ hg ei e1;omega
         ·omega
       subst e0;rw[eh] at e2;have e3:=aac e2;exact hc (abi.mpr e3)
      |next a b=>exact b
     have ih:=Ke I h hashAt hh fuel (i9 t.mask p) n he 03 (CL ok);generalize probe.go t hashAt h fuel (i9 t.mask p)=r at ih⊢
     cases ih with
     |free j a1 a2 a3 a4=>exact .free j a1 a2 (.next ho a3) λi0 j0 e1 e2 w=>a4 i0 j0 e1 e2 (back i0 j0 e1 e2 w)
     |Gg j i q n' a1 a2 a3 a4 a5 a6 a7=>exact .Gg j i q n' a1 a2 a3 03 a5 (λj' w=>.next ho (a6 j' w)) λi0 j0 e1 e2 w hne=>a7 i0 j0 e1 e2 (back i0 j0 e1 e2 w) hne
def lE{α:Type}(xs:Array α)(p:Nat)(x:α):(insertAt xs p x).toList=xs.toList.take p++x::xs.toList.drop p:=by
 unfold insertAt;simp;exact abz (by rw[abh,aaE];exact aay _)
def nj{α:Type}{l:076}{p:Nat}(hp:p<=l.length)(x:α)(i:Nat):(l.take p++x::l.drop p)[i]? =if i<p then l[i]? else if i=p then some x else l[i-1]? :=by
 have hl:(l.take p).length=p:=by rw[aaH];omega
 by_cases h:i<p
 ·rw[aav h,abo 03,adb,aav h]
 ·rw[aan h,aa4 03,hl];by_cases h2:i=p
  ·rw[aav h2];subst h2;rw[adC];rfl
  ·rw[aan h2,show i-p=(i-p-1)+1 by omega,adh,adf,show p+(i-p-1)=i-1 by omega]
def iu{α:Type}{xs:Array α}{i:Nat}:xs[i]? =xs.toList[i]? :=by rw[aaQ]
def Inv.put{t:SetTable}{hs:025}(I:Inv t hs){j:Nat}(hj:j∉047)(hjm:j<=t.mask){h:Int}(hw:Way t.mask 0082 (start t.mask h) j)(hf:hs.length<t.mask):Inv (t.put j).1 (hs.take (t.put j).2++h::hs.drop (t.put j).2)/\(t.put j).2<=hs.length/\(t.put j).1.mask=t.mask:=by
 obtain⟨b1,b2,b3⟩:=v3 I.gO j;have hl:=I.len;have e1:(t.put j).1.place=insertAt t.place (below t.place j) j:=rfl;have e2:(t.put j).2=below t.place j:=rfl;have e3:(t.put j).1.mask=t.mask:=rfl
 have ed:(t.put j).1.dummies= #[]:=by
  show(if has t.dummies j=true then eraseAt t.dummies (below t.dummies j) else t.dummies)= #[];rw[I.EH];rfl
 have hmem:∀k,k∈(t.put j).1.place.toList↔k=j\/k∈047:=λk=>by
  rw[e1,lE];constructor
  ·intro z;sleep 020
   ·exact .inr (List.mem_of_mem_take z)
   ·sleep 021
    ·exact .inl z
    ·exact .inr (adN z)
  ·intro z;rcases z with z|z
   ·exact aam _ (aao.mpr (.inl z))
   ·rw[<-abf (below t.place j) 047] at z;sleep 020
    ·exact abc _ z
    ·exact aam _ (aag _ z)
 have bl:below t.place j<=t.place.toList.length:=by rw[aaE];exact b1
 have get:∀i,(t.put j).1.place[i]? =if i<below t.place j then t.place[i]? else if i=below t.place j then some j else t.place[i-1]? :=λi=>by
  rw[iu,e1,lE,nj bl,<-iu,<-iu]
 refine⟨⟨e3▸I.Du,ed,λi k a b hik ha hb=>?_,λk hk=>?_,?_,?_,λi k h' hk hh=>?_⟩,by rw[e2];omega,e3⟩
 ·rw[get] at ha hb;by_cases q1:i<below t.place j
  ·rw[aav q1] at ha;by_cases q2:k<below t.place j
   ·rw[aav q2] at hb;exact I.gO i k a b hik ha hb
   ·rw[aan q2] at hb;by_cases q3:k=below t.place j
    ·rw[aav q3] at hb;rw[<-aac hb];exact b2 i a q1 ha
    ·rw[aan q3] at hb;exact I.gO i (k-1) a b 03 ha hb
  ·rw[aan q1] at ha;rw[aan 03,aan 03] at hb;by_cases q3:i=below t.place j
   ·rw[aav q3] at ha;rw[<-aac ha];have:=b3 (k-1) b 03 hb;have ne:b≠j:=λz=>hj (by rw[<-z];exact abK.mpr (abT hb));omega
   ·rw[aan q3] at ha;exact I.gO (i-1) (k-1) a b 03 ha hb
 ·rw[e3];rcases(hmem k).mp hk with rfl|z
  ·exact hjm
  ·exact I.le k z
 ·rw[<-aaE,e1,lE,e2];simp only[aah,aaH,aat,abh,aaE];omega
 ·rw[e3,e2];simp only[aah,aaH,aat,abh];omega
 ·rw[e3];have up:∀{p k},Way t.mask (λj=>j∈047) p k->Way t.mask (λk=>k∈(t.put j).1.place.toList) p k:=λw=>w.mono λk hk=>(hmem k).mpr (.inr hk);rw[get] at hk;rw[e2,nj 03] at hh;by_cases q1:i<below t.place j
  ·rw[aav q1] at hk hh;exact up (I.way i k h' hk hh)
  ·rw[aan q1] at hk hh;by_cases q3:i=below t.place j
   ·rw[aav q3] at hk hh;rw[<-aac hk,<-aac hh];exact up hw
   ·rw[aan q3] at hk hh;exact up (I.way (i-1) k h' hk hh)
def sM(owner:Array (Option Nat))(j:Nat):Prop:=(owner.getD j (some 0)).isNone=false
theorem AF{mask:Nat}{o:Nat->Prop}(c:Nat->Bool)(hc:∀j,c j=true↔¬o j):∀(m:Nat) (p:Probe),p.more=m->p.dummy=none->match(List.range' 0 (m+1)).find? λk=>c (p.j+k) with
  |some k=>Way mask o p (p.j+k)/\¬o (p.j+k)/\k<=m
  |none=>o p.j/\∀j,Way mask o (oO mask (leap mask p.i 0092).1 (leap mask p.i 0092).2) j->Way mask o p j
 |0,p,hm,hd=>by
  show match(List.find? (λk=>c (p.j+k)) [0]:Option Nat) with|some k=>_|none=>_
  rw[abJ];by_cases h:c (p.j+0)=true
  ·rw[h];exact⟨.here p,(hc _).mp h,aay _⟩
  ·rw[acx] at h;rw[h];have ho:o p.j:=ack λz=>by rw[Nat.add_zero,(hc _).mpr z] at h;cases h
   have e:i9 mask p=oO mask (leap mask p.i 0092).1 (leap mask p.i 0092).2:=by
    unfold i9;rw[aan 03];unfold oO;rw[hd]
   exact⟨ho,λj w=>.next ho (e▸w)⟩
 |m+1,p,hm,hd=>by
  have e:i9 mask p={p with j:=p.j+1,more:=p.more-1}:=by unfold i9;rw[aav 03]
  have ih:=AF (mask:=mask) c hc m (i9 mask p) (by rw[e];show p.more-1=m;omega) (by rw[e];exact hd);have ei:(i9 mask p).i=p.i:=by rw[e]
  have eq:(i9 mask p).perturb=0092:=by rw[e]
  have ej:(i9 mask p).j=p.j+1:=by rw[e]
  rw[ei,eq,ej] at ih;rw[List.range'_succ,abJ];by_cases h:c (p.j+0)=true
  ·rw[h];exact⟨.here p,(hc _).mp h,aaT _⟩
  ·rw[acx] at h;rw[h];have ho:o p.j:=ack λz=>by rw[Nat.add_zero,(hc _).mpr z] at h;cases h
   have es:(List.range' (0+1) (m+1)).find? (λk=>c (p.j+k))=((List.range' 0 (m+1)).find? λk=>c (p.j+1+k)).map (·+1):=by
    have er:List.range' (0+1) (m+1)=(List.range' 0 (m+1)).map (·+1):=by
     have er:=List.map_add_range' (a:=1) 0 (m+1) 1;rw[show(λx:Nat=>x+1)=(λx=>1+x) from funext λx=>Nat.add_comm _ _,er]
    rw[er,List.find?_map]
    congr 1
    congr 1
    funext k
    show c (p.j+(k+1))=c (p.j+1+k);rw[show p.j+(k+1)=p.j+1+k by omega]
   dsimp only;rw[es]
   cases ef:(List.range' 0 (m+1)).find? λk=>c (p.j+1+k) with
   |none=>
    rw[ef] at ih;exact⟨ho,λj w=>.next ho (ih.2 j w)⟩
   |some k=>
    rw[ef] at ih;obtain⟨a1,a2,a3⟩:=ih;show Way mask o p (p.j+(k+1))/\¬o (p.j+(k+1))/\k+1<=m+1;rw[show p.j+(k+1)=p.j+1+k by omega];exact⟨.next ho a1,a2,0018⟩
theorem oT{mask:Nat}{owner:Array (Option Nat)}:∀(fuel i q L:Nat),i<=mask->L<fuel->¬sM owner (lp mask L (i,q)).1->∃j,layClean.free mask owner fuel i q=some j/\Way mask (sM owner) (oO mask i q) j/\¬sM owner j/\j<=mask
 |0,i,q,L,hi,hL,_=>by omega
 |fuel+1,i,q,L,hi,hL,ho=>by
  unfold layClean.free;have h1:=@zr mask i;have h2:=yR hi;have fr:=AF (mask:=mask) (o:=sM owner) (λj=>(owner.getD j (some 0)).isNone) (λj=>by unfold sM;rw[Bool.not_eq_false]) (runEnd mask i-i) (oO mask i q) rfl rfl;have er:List.range (runEnd mask i+1-i)=List.range' 0 (runEnd mask i-i+1):=by rw[List.range_eq_range',show runEnd mask i+1-i=runEnd mask i-i+1 by omega]
  rw[er];have ej:(oO mask i q).j=i:=rfl;rw[ej] at fr
  cases ef:(List.range' 0 (runEnd mask i-i+1)).find? (λk=>(owner.getD (i+k) (some 0)).isNone) with
  |some k=>
   rw[ef] at fr;obtain⟨a1,a2,a3⟩:=fr;exact⟨i+k,rfl,a1,a2,0018⟩
  |none=>
   rw[ef] at fr
   cases L with
   |zero=>exact absurd fr.1 ho
   |succ L=>
    obtain⟨j,b1,b2,b3,b4⟩:=oT fuel (leap mask i q).1 (leap mask i q).2 L xw 03 ho;exact⟨j,b1,fr.2 j b2,b3,b4⟩
structure sF(mask:Nat)(owner:Array (Option Nat))(hs:025)(js:015):Prop where
 size:owner.size=mask+1
 len:js.length=hs.length
 nd:js.Nodup
 le:∀j∈js,j<=mask
 own:∀j m:Nat,owner[j]? =some (some m)↔js[m]? =some j
 way:∀(m j:Nat) (h:Int),js[m]? =some j->hs[m]? =some h->Way mask (λj=>j∈js) (start mask h) j
def sF.O6{mask:Nat}{owner:Array (Option Nat)}{hs:025}{js:015}(I:sF mask owner hs js){j:Nat}(hj:j<=mask):sM owner j↔j∈js:=by
 have hs:=I.size;have hlt:j<owner.size:=by omega
 have eg:owner[j]? =some owner[j]:=aaR hlt;have ed:owner.getD j (some 0)=owner[j]:=by simp[Array.getD,hlt]
 unfold sM;rw[ed];constructor
 ·intro z
  cases e:owner[j] with
  |none=>rw[e] at z;cases z
  |some m=>rw[e] at eg;exact aap ((I.own j m).mp eg)
 ·intro z;obtain⟨m,hm⟩:=aas.mp z;have:=(I.own j m).mpr hm;rw[eg] at this;rw[aac this];rfl
def wY(mask:Nat)(acc:Option (Array (Option Nat)×Nat))(h:Int):Option (Array (Option Nat)×Nat):=do
 let(owner,k)<-acc
 let j<-layClean.free mask owner (turns mask) (bits h%(mask+1)) (bits h)
 pure (owner.setIfInBounds j (some k),k+1)
def qK{α:Type}{l:076}{x y:α}{m:Nat}:(l++[x])[m]? =some y↔l[m]? =some y\/(m=l.length/\x=y):=by
 by_cases h:m<l.length
 ·rw[abo h];exact⟨.inl,λz=>z.elim id λz=>by omega⟩
 ·rw[aa4 03,aaS (l:=l) 03];by_cases e:m=l.length
  ·subst e;rw[adC];exact⟨λz=>.inr ⟨rfl,aac z⟩,λz=>z.elim (λz=>by cases z) λz=>by rw[z.2];rfl⟩
  ·rw[show m-l.length=(m-l.length-1)+1 by omega];exact⟨λz=>(by cases z),λz=>z.elim (λz=>by cases z) λz=>absurd z.1 e⟩
def ue{mask:Nat}(hm:vc mask){owner:Array (Option Nat)}{hs:025}{js:015}(I:sF mask owner hs js)(hl:hs.length<=mask)(h:Int):∃owner' js',wY mask (some (owner,hs.length)) h=some (owner',(hs++[h]).length)/\sF mask owner' (hs++[h]) js':=by
 obtain⟨j0,p1,p2⟩:=Bb mask js (by rw[I.len];exact hl);have hi:bits h%(mask+1)<=mask:=by have:bits h%(mask+1)<mask+1:=acp _ 03;omega
 obtain⟨L,hL,eL⟩:=cover hm hi (EW h) p1;obtain⟨j,f1,f2,f3,f4⟩:=oT (mask:=mask) (owner:=owner) (turns mask) (bits h%(mask+1)) (bits h) L hi (by unfold turns;omega) (by rw[eL];exact λz=>p2 ((I.O6 p1).mp z));have hj:j∉js:=λz=>f3 ((I.O6 f4).mpr z);have hlt:j<owner.size:=by rw[I.size];omega
 refine⟨owner.setIfInBounds j (some hs.length),js++[j],?_,?_⟩
 ·unfold wY;show(layClean.free mask owner (turns mask) (bits h%(mask+1)) (bits h)>>=λj=>pure (owner.setIfInBounds j (some hs.length),hs.length+1))=_;rw[f1,aah];rfl
 ·refine⟨by rw[ac1];exact I.size,by rw[aah,aah,I.len];rfl,?_,λk hk=>?_,λk m=>?_,λm k h' hk hh=>?_⟩
  ·refine aaZ.mpr ⟨I.nd,0104,λa ha b hb=>?_⟩;rw[aa9] at hb;subst hb;exact λz=>hj (z▸ha)
  ·rcases aax.mp hk with z|z
   ·exact I.le k z
   ·rw[aa9] at z;rw[z];exact f4
  ·rw[qK,adR];by_cases e:j=k
   ·subst e;rw[aav rfl,aav hlt];constructor
    ·intro z;have z:=aac (aac z);exact .inr ⟨by rw[I.len];exact z.symm,rfl⟩
    ·rintro(z|z)
     ·exact absurd (aap z) hj
     ·rw[z.1,I.len]
   ·rw[aan e];constructor
    ·intro z;exact .inl ((I.own k m).mp z)
    ·rintro(z|z)
     ·exact(I.own k m).mpr z
     ·exact absurd z.2 e
  ·rcases qK.mp hk with z|⟨z1,z2⟩
   ·have gJ:m<hs.length:=by
     obtain⟨q,_⟩:=aad.mp z;rw[I.len] at q;exact q
    rw[abo gJ] at hh;exact(I.way m k h' z hh).mono λk hk=>abc _ hk
   ·subst z2;have e:m=hs.length:=by rw[<-I.len];exact z1
    subst e;rw[aa4 097,adC] at hh;have e:h=h':=aac hh;subst e
    have fw:∀{p k},zC mask p->Way mask (sM owner) p k->Way mask (λk=>k∈js++[j]) p k:=λ{p k} ok w=>by
     induction w with
     |here p=>exact .here p
     |next a b ih=>exact .next (abc _ ((I.O6 (by have:=ok.1;omega)).mp a)) (ih (CL ok))
    exact fw Dj f2
theorem HU{mask:Nat}(hm:vc mask):∀(rest hs:025) (owner:Array (Option Nat)) (js:015),sF mask owner hs js->(hs++rest).length<=mask->∃owner' js',rest.foldl (wY mask) (some (owner,hs.length))=some (owner',(hs++rest).length)/\sF mask owner' (hs++rest) js'
 |[],hs,owner,js,I,hl=>⟨owner,js,by rw[aa7];rfl,by rw[aa7];exact I⟩
 |h::rest,hs,owner,js,I,hl=>by
  have hl':hs.length<=mask:=by rw[aah,aat] at hl;omega
  obtain⟨o1,j1,e1,I1⟩:=ue hm I hl' h;obtain⟨o2,j2,e2,I2⟩:=HU hm rest (hs++[h]) o1 j1 I1 (by rw[aaL];exact hl);rw[aaL] at e2 I2;refine⟨o2,j2,?_,I2⟩;rw[adi,e1];exact e2
def Eh{mask:Nat}(hm:vc mask)(hs:Array Int)(hl:hs.size<=mask):∃owner js,layClean mask hs=some owner/\sF mask owner hs.toList js:=by
 have I0:sF mask (Array.replicate (mask+1) none) [] []:=⟨0104,rfl,.nil,0104,λj m=>by simp[Array.getElem?_replicate],λm j h z=>by simp at z⟩;obtain⟨owner,js,e,I⟩:=HU hm hs.toList [] _ [] I0 (by simpa using hl);refine⟨owner,js,?_,I⟩;unfold layClean;rw[<-Array.foldl_toList];have e2:hs.toList.foldl (wY mask) (some (Array.replicate (mask+1) none,0))=some (owner,([]++hs.toList).length):=e;have e3:(hs.toList.foldl (wY mask) (some (Array.replicate (mask+1) none,0))).map (·.1)=some owner:=by rw[e2];rfl
 exact e3
theorem filterMap_get{α β:Type}{f:α->Option β}:∀{l:076},(∀x∈l,∃y,f x=some y)->∀i:Nat,(l.filterMap f)[i]? =l[i]?.bind f
 |[],_,i=>by simp
 |x::l,h,i=>by
  obtain⟨y,e⟩:=h x aae;rw[ael e]
  cases i with
  |zero=>simp[e]
  |succ i=>simpa using filterMap_get (λz hz=>h z (aag _ hz)) i
def Iz{t:SetTable}{hs:Array Int}{wanted:Nat}(hm:vc (sizeAbove wanted-1))(hl:hs.size<=sizeAbove wanted-1):∃t' order,t.relaid hs wanted=some (t',order)/\(∀m∈order.toList,m<hs.size)/\(∀m,m<hs.size->m∈order.toList)/\order.size=hs.size/\t'.mask=sizeAbove wanted-1/\t'.led=t.led/\∀hs':List Int,hs'.length=hs.size->(∀(i m:Nat),order[i]? =some m->hs'[i]? =hs[m]?)->Inv t' hs':=by
 obtain⟨owner,js,e,I⟩:=Eh hm hs hl;have hrel:t.relaid hs wanted=laid (sizeAbove wanted-1) t.finger (t.movedTo (sizeAbove wanted-1)) t.led t.plain hs:=rfl;generalize sizeAbove wanted-1=mask at*
 let live:=(List.range (mask+1)).filterMap λj=>(owner.getD j none).map (j,·)
 have hlive:live=(List.range (mask+1)).filterMap λj=>(owner.getD j none).map (j,·):=rfl
 have hg:∀j m,(j,m)∈live↔js[m]? =some j:=λj m=>by
  rw[hlive,ac9];constructor
  ·rintro⟨k,hk,ek⟩;rw[adx] at hk;have hlt:k<owner.size:=by rw[I.size];exact hk
   have ed:owner.getD k none=owner[k]:=by simp[Array.getD,hlt]
   rw[ed] at ek
   cases ev:owner[k] with
   |none=>rw[ev] at ek;cases ek
   |some m'=>
    rw[ev] at ek;have ek:=aac ek;obtain⟨rfl,rfl⟩:=aeo ek;exact(I.own _ _).mp (by rw[aaR hlt,ev])
  ·intro z;have hj:=I.le j (aap z);have hlt:j<owner.size:=by rw[I.size];omega
   have ed:owner.getD j none=owner[j]:=by simp[Array.getD,hlt]
   refine⟨j,adx.mpr 03,?_⟩;have:=(I.own j m).mpr z;rw[aaR hlt] at this;rw[ed,aac this];rfl
 have hp:(live.map (·.1)).Pairwise (·<·):=by
  have hq:live.Pairwise λa b=>a.1<b.1:=by
   rw[hlive];refine List.Pairwise.filterMap _ (λa b hab x hx y hy=>?_) List.pairwise_lt_range;obtain⟨u,_,e1⟩:=aaI.mp hx;obtain⟨v,_,e2⟩:=aaI.mp hy;rw[<-e1,<-e2];exact hab
  exact aaX.mpr hq
 have hnd:(live.map (·.1)).Nodup:=hp.imp λh=>aaM h
 have hmem1:∀j,j∈live.map (·.1)↔j∈js:=λj=>by
  rw[aaw];constructor
  ·rintro⟨⟨a,m⟩,h1,rfl⟩;exact aap ((hg a m).mp h1)
  ·intro z;obtain⟨m,hm'⟩:=aas.mp z;exact⟨(j,m),(hg j m).mpr hm',rfl⟩
 have hlen:live.length=js.length:=by
  have:=((List.perm_ext_iff_of_nodup hnd I.nd).mpr hmem1).length_eq;rw[aaa] at this;exact this
 have hjl:js.length=hs.size:=by rw[I.len,aaE]
 refine⟨{mask:=mask,place:=(live.map (·.1)).toArray,dummies:=#[],finger:=t.finger,led:=t.led,moves:=t.movedTo mask,plain:=t.plain},(live.map (·.2)).toArray,?_,λm hm'=>?_,λm hm'=>?_,?_,rfl,rfl,λhs' hl' hh=>?_⟩
 ·rw[hrel];unfold laid;rw[e];rfl
 ·simp only[aaw] at hm';obtain⟨⟨a,m'⟩,h1,rfl⟩:=hm';obtain⟨q,_⟩:=aad.mp ((hg a m').mp h1);show m'<hs.size;omega
 ·simp only[aaw];exact⟨(js[m]'03,m),(hg _ m).mpr 0093,rfl⟩
 ·simp only[aaz,aaa];omega
 ·refine⟨hm,rfl,λi k a b hik ha hb=>?_,λj hj=>?_,?_,by rw[hl'];exact hl,λi j h hi hh'=>?_⟩
  ·rw[iu] at ha hb;obtain⟨qa,ea⟩:=aad.mp ha;obtain⟨qb,eb⟩:=aad.mp hb;have:=abn.mp hp i k qa qb hik;show a<b;rw[<-ea,<-eb];exact this
  ·exact I.le j ((hmem1 j).mp hj)
  ·simp only[aaz,aaa];omega
  ·rw[iu] at hi;have hi:(live.map (·.1))[i]? =some j:=hi;rw[aai] at hi;obtain⟨⟨a,m⟩,e1,e2⟩:=aaI.mp hi;have e2:a=j:=e2;subst e2;have hk:=(hg a m).mp (aap e1)
   have hom:(live.map (·.2)).toArray[i]? =some m:=by
    rw[iu];show(live.map (·.2))[i]? =some m;rw[aai,e1];rfl
   rw[hh i m hom,iu] at hh';have:=I.way m a h hk hh';exact this.mono λk hk=>(hmem1 k).mpr hk
end ST
namespace ST
open PySem PySem.Spec
open PyProof.Rows hiding intKind KeyKind
section
variable{prog:027}{w:066}{A:061}{E:09}{s:0016}
def Np(n:Nat){v:0101}{k:Int}(h:(intKind prog w).is k v=true):hashByValue n v=pure true:=by
 obtain⟨t,rfl⟩:∃t,v= .int k t:=by
  cases v<;>simp[intKind,Value.isInt] at h
  subst h;exact⟨_,rfl⟩
 cases n<;>rfl
def M3(n:Nat){v:0101}{k:Int}(h:(intKind prog w).is k v=true):ofAClassStatement n v=pure false:=by
 obtain⟨t,rfl⟩:∃t,v= .int k t:=by
  cases v<;>simp[intKind,Value.isInt] at h
  subst h;exact⟨_,rfl⟩
 cases n<;>(unfold ofAClassStatement;rfl)
def wV{ks:025}{vs:007}(h:ItemsAre 011 ks vs):∀v∈vs,∃k,(intKind prog w).is k v=true:=by
 induction h with
 |nil=>intro v hv;cases hv
 |cons h1 _ ih=>
  intro v hv;rcases aao.mp hv with rfl|hv
  ·exact⟨_,h1⟩
  ·exact ih v hv
def xI{ks:025}{a:Addr}{Q:Bool->Shared->Prop}(hk:IsTupleKey 011 s.heap ks a)(h:Q true s):wpAny 008 A (hashByValue 8 046) Q E s:=by
 have hT:=hk.typeIs;obtain⟨o,items,n,ho,_,hd,hi⟩:=hk;unfold hashByValue;refine aaf (ac2 hT F.slot_tuple_hash.lookup ?_);show wpAny _ _ (seqItems? 046>>=_) _ _ s;refine aaf (wpAny_seqItems ho hd ?_);refine aaf ?_;show wpAny _ _ (forIn items _ _) _ _ s;rw[<-Array.forIn_toList];refine acv _ (λrest r s'=>r.1=none/\s'=s/\∀v∈rest,∃k,(intKind prog w).is k v=true) _ ?_ ?_ _ _ ⟨rfl,rfl,wV hi⟩
 ·rintro v rest r s' ⟨hr,rfl,hall⟩;obtain⟨k,hk⟩:=hall v aae;rw[Np _ hk];sleep 040;simp only[adQ,aaK,ab8];exact aaA ⟨rfl,rfl,λu hu'=>hall u (aag _ hu')⟩
 ·rintro⟨r1,r2⟩ s' ⟨hr,rfl,_⟩;simp only at hr;subst hr;exact aaA h
def uO{ks:025}{a:Addr}{Q:Bool->Shared->Prop}(hk:IsTupleKey 011 s.heap ks a)(h:Q false s):wpAny 008 A (ofAClassStatement 8 046) Q E s:=by
 have hT:=hk.typeIs;obtain⟨o,items,n,ho,_,hd,hi⟩:=hk;unfold ofAClassStatement;refine aaf (ad2 hT ?_);dsimp only;rw[aav 0010];sleep 040;simp only[adQ,aaK,ab8];refine aaf (wpAny_seqItems ho hd ?_);dsimp only;refine aaf ?_;show wpAny _ _ (forIn items _ _) _ _ s;rw[<-Array.forIn_toList];refine acv _ (λrest r s'=>r.1=none/\s'=s/\∀v∈rest,∃k,(intKind prog w).is k v=true) _ ?_ ?_ _ _ ⟨rfl,rfl,wV hi⟩
 ·rintro v rest r s' ⟨hr,rfl,hall⟩;obtain⟨k,hk⟩:=hall v aae;rw[M3 _ hk];sleep 040;simp only[aaK,ab8];exact aaA ⟨rfl,rfl,λu hu'=>hall u (aag _ hu')⟩
 ·rintro⟨r1,r2⟩ s' ⟨hr,rfl,_⟩;simp only at hr;subst hr;exact aaA h
def JE{ks:025}{a:Addr}{stored:007}{Q:Bool->Shared->Prop}(hk:IsTupleKey 011 s.heap ks a)(hst:∀y∈stored,∃b k,y= .ref b/\IsTupleKey 011 s.heap k b)(h:Q false s):wpAny 008 A (searchCouldBeSeen 046 stored) Q E s:=by
 unfold searchCouldBeSeen;refine aaf ?_;refine acv _ (λrest r s'=>r.1=none/\s'=s/\∀y∈rest,∃b k,y= .ref b/\IsTupleKey 011 s.heap k b) _ ?_ ?_ _ _ ⟨rfl,rfl,hst⟩
 ·rintro v rest r s' ⟨hr,rfl,hall⟩;obtain⟨b,k,rfl,hb⟩:=hall v aae;dsimp only
  split
  ·exact aaA ⟨rfl,rfl,λu hu'=>hall u (aag _ hu')⟩
  ·refine aaf (wpAny_eqIsQuiet_tuple hk ?_);simp only[adQ,aaK,ab8];refine aaf (wpAny_eqIsQuiet_tuple hb ?_);simp only[adQ,aaK,ab8];refine aaf (uO hk ?_);simp only[aaK,ab8];refine aaf (uO hb ?_);simp only[aaK,ab8];exact aaA ⟨rfl,rfl,λu hu'=>hall u (aag _ hu')⟩
 ·rintro⟨r1,r2⟩ s' ⟨hr,rfl,_⟩;simp only at hr;subst hr;exact aaA h
def Ent(prog:027)(w:066)(h:Heap)(e:Int×Value)(k:025):Prop:=∃b,e.2= .ref b/\IsTupleKey 011 h k b/\e.1=tupleKeyHash 011 k
structure St(prog:027)(w:066)(h:Heap)(a:Addr)(es:Array (Int×Value))(ks:0066):Prop where
 obj:∃o ep t,h.get? a=some o/\o.ExactSet/\o.data= .set es ep t/\Inv t (es.toList.map (·.1))/\es.size*5<t.mask*3
 ent:∀e∈es.toList,∃k,Ent prog w h e k
 mem:∀k,k∈ks↔∃e∈es.toList,Ent prog w h e k
 len:es.size=ks.length
def Inv.fits{t:SetTable}{hs:025}(I:Inv t hs){n:Nat}(e:n=hs.length):t.fits n=true:=by
 unfold SetTable.fits SetTable.fill;rw[I.EH,I.len,e];simp;exact I.fit
def gw{t:SetTable}{hs:025}(I:Inv t hs):t.gaveWay=false:=by
 unfold SetTable.gaveWay;rcases I.Du with h|h|h|h<;>rw[h]<;>rfl
def N_{m:Nat}(h:vc m):m<=511:=by rcases h with h|h|h|h<;>omega
theorem zh{es:Array (Int×Value)}{t:SetTable}{o:Obj}{ep:Nat}{a b:Addr}{k:025}{Q:SetFound->Shared->Prop}(hu:A.units<cLine)(ho:s.heap.get? a=some o)(hd:o.data= .set es ep t)(I:Inv t (es.toList.map (·.1)))(he:∀e∈es.toList,∃k,Ent prog w s.heap e k)(hx:IsTupleKey 011 s.heap k b)(q1:(∃e∈es.toList,Ent prog w s.heap e k)->Q (.there none) s)(q2:∀j,j∉047->j<=t.mask->Way t.mask 0082 (start t.mask 0020) j->(¬∃e∈es.toList,Ent prog w s.heap e k)->Q (.free j false) s):∀(fuel n:Nat) (st:Option SetTable.Probe),n<fuel->n<10*SetTable.turns t.mask->End t.mask 0082 0099 n->zC t.mask 0099->(∀j,Way t.mask 0082 0099 j->Way t.mask 0082 (start t.mask 0020) j)->(∀(i j:Nat) (e:Int×Value),t.place[i]? =some j->es[i]? =some e->Ent prog w s.heap e k->Way t.mask 0082 0099 j)->wpAny 008 A (setSearchFrom a (.ref b) 0020 true fuel st) Q E s
 |0,n,st,h,_,_,_,_,_=>by omega
 |fuel+1,n,st,h1,h2,h3,h4,h5,h6=>by
  have hf:t.fits es.size=true:=I.fits (by rw[aaa,aaE]);unfold setSearchFrom;refine aaf (acH ho hd hf ?_);dsimp only;rw[gw I];simp only[aaK,↓reduceIte];have gg:=Ke I 0020 (λi=>(es[i]?.map (·.1)).getD 0) (λi=>by rw[aai,aaQ]) (10*SetTable.turns t.mask) 0099 n h3 h2 h4;generalize er:t.probe _ 0020 (st.getD (t.probeStart 0020))=r;have er':SetTable.probe.go t (λi=>(es[i]?.map (·.1)).getD 0) 0020 (10*SetTable.turns t.mask) 0099=r:=er;rw[er'] at gg;clear er er'
  cases gg with
  |free j a1 a2 a3 a4=>
   dsimp only;refine aaA (q2 j a1 a2 (h5 j a3) ?_);rintro⟨e,hm,hen⟩;obtain⟨i,hi⟩:=aas.mp hm;obtain⟨hil,_⟩:=aad.mp hi;have hpl:i<t.place.size:=by rw[I.len,aaa];exact hil
   have ei:t.place[i]? =some t.place[i]:=aaR hpl
   have e1:(es.toList.map (·.1))[i]? =some 0020:=by
    rw[aai,hi];obtain⟨_,_,_,z⟩:=hen;rw[<-z];rfl
   exact a4 i _ ei e1 (h6 i _ e ei (by rw[<-aaQ];exact hi) hen)
  |Gg j i q n' a1 a2 a3 a4 a5 a6 a7=>
   dsimp only;obtain⟨hpl,_⟩:=abw.mp a1;have hil:i<es.size:=by have:=I.len;rw[aaa,aaE] at this;omega
   have eg2:es[i]? =some es[i]:=aaR hil;obtain⟨k',b',e1,e2,e3⟩:=he es[i] (abK.mpr (abT eg2));have hled:t.led=true\/t.led=false:=by cases t.led<;>simp
   rcases hled with hled|hled
   case' inl=>
    rw[hled];simp only[adQ,aaK,↓reduceIte]
   case' inr=>
    rw[hled];simp only[aeS,↓reduceIte];refine aaf (JE hx (λy hy=>?_) ?_)
    ·obtain⟨e,hm,rfl⟩:=aaw.mp hy
     have hm:e∈es.toList:=by
      rw[Array.toList_filter] at hm;exact(abH.mp hm).1
     obtain⟨k',b',e1,e2,_⟩:=he e hm;exact⟨b',k',e1,e2⟩
    simp only[aaK,↓reduceIte]
   all_goals
    rw[eg2];dsimp only;rw[e1];refine aaf (abB (wpAny_eqBool_tuple hu e2 hx ?_));refine aaf (acH ho hd hf ?_);dsimp only;by_cases hkk:k'=k
    ·rw[aaj hkk];simp only[Bool.and_self,↓reduceIte];refine aaA (q1 ⟨es[i],abK.mpr (abT eg2),b',e1,hkk▸e2,hkk▸e3⟩)
    ·rw[aal hkk];simp only[acz,aaK,↓reduceIte];have es1:t.sameMemory t.moves t.mask=some true:=by unfold SetTable.sameMemory;rw[aav (aca _)]
     rw[es1];dsimp only;rw[aav rfl,yY I.gO a1];dsimp only;rw[eg2];dsimp only;rw[e1];refine aaf (wpAny_isSame_ref_self ?_);sleep 040;rw[aav rfl];dsimp only;refine zh hu ho hd I he hx q1 q2 fuel n' (some q) 03 03 a3 a5 (λj' w'=>h5 j' (a6 j' w')) λi0 j0 e z1 z2 z3=>?_
     have hh0:(es.toList.map (·.1))[i0]? =some 0020:=by
      rw[aai,aaQ,z2];obtain⟨_,_,_,z⟩:=z3;rw[<-z];rfl
     refine a7 i0 j0 z1 hh0 (h6 i0 j0 e z1 z2 z3) λez=>?_;subst ez;rw[eg2] at z2;have z2:=aac z2;obtain⟨b2,y1,y2,_⟩:=z3;rw[<-z2,e1] at y1;have y1:b'=b2:=by injection y1
     rw[<-y1] at y2;exact hkk (e2.inj y2)
def oW(ks:0066)(k:025):List (List Int):=if k∈ks then ks else ks++[k]
def x9{h h':Heap}{a b:Addr}{k:025}{o:Obj}{es ep t}(ho:h.get? a=some o)(hd:o.data= .set es ep t)(sb:Heap.SameBut a h h')(x:IsTupleKey 011 h k b):IsTupleKey 011 h' k b:=by
 obtain⟨o',items,n,ho',hc,hd',hi⟩:=x
 have hne:b≠a:=by
  rintro rfl;obtain rfl:o'=o:=aac (ho'.symm.trans ho);rw[hd] at hd';exact nomatch hd'
 exact⟨o',items,n,(sb.2 b hne).trans ho',hc,hd',hi⟩
def C3{h h':Heap}{a:Addr}{k:025}{e:Int×Value}{o:Obj}{es ep t}(ho:h.get? a=some o)(hd:o.data= .set es ep t)(sb:Heap.SameBut a h h')(x:Ent prog w h e k):Ent prog w h' e k:=by
 obtain⟨b,e1,e2,e3⟩:=x;exact⟨b,e1,x9 ho hd sb e2,e3⟩
def Ln{h h':Heap}{a:Addr}{k k0:025}{e:Int×Value}{o:Obj}{es ep t}(ho:h.get? a=some o)(hd:o.data= .set es ep t)(sb:Heap.SameBut a h h')(x0:Ent prog w h e k0)(x:Ent prog w h' e k):Ent prog w h e k:=by
 obtain⟨b,e1,e2,e3⟩:=x;obtain⟨b0,f1,f2,f3⟩:=x0;rw[e1] at f1;have:b=b0:=by injection f1
 subst this;have:=(x9 ho hd sb f2).inj e2;subst this;exact⟨b,e1,f2,f3⟩
def NI{es:Array (Int×Value)}{ks:0066}{a b:Addr}{k:025}{Q:Bool->Shared->Prop}(hu:A.units<cLine)(S:St prog w s.heap a es ks)(hl:ks.length<=255)(hx:IsTupleKey 011 s.heap k b)(h:∀r h' es',Heap.SameBut a s.heap h'->St prog w h' a es' (oW ks k)->Q r {s with heap:=h'}):wpAny 008 A (setAddHashed a (.ref b) 0020) Q E s:=by
 obtain⟨⟨o,ep,t,ho,hex,hd,I,hroom⟩,hent,hmem,hlen⟩:=S;have hf:t.fits es.size=true:=I.fits (by rw[aaa,aaE]);unfold setAddHashed;refine abB ?_;unfold setAddHashedIn;refine aaf (acH ho hd hf ?_);dsimp only;have hbs:byScan (.ref b) es=false:=rfl;rw[hbs];simp only[aaK,↓reduceIte];obtain⟨n,hn,he⟩:=I.ends 0020;have hm5:=N_ I.Du;unfold setSearch;refine aaf (zh (prog:=prog) (w:=w) hu ho hd I hent hx (λhin=>?_) (λj j1 j2 j3 hno=>?_) 100000 n none (by unfold SetTable.turns at hn;omega) hn he Dj (λ_ z=>z) (λi j e z1 z2 z3=>?_))
 ·dsimp only;have ek:oW ks k=ks:=aav ((hmem k).mpr hin);have:=h false s.heap es ⟨rfl,λ_ _=>rfl⟩ (by rw[ek];exact⟨⟨o,ep,t,ho,hex,hd,I,hroom⟩,hent,hmem,hlen⟩);exact aaA this
 ·dsimp only;have hnk:k∉ks:=λz=>hno ((hmem k).mp z);have ek:oW ks k=ks++[k]:=aan hnk;rw[ek] at h;refine aaf (acH ho hd hf ?_);dsimp only;have hsz:(es.toList.map (·.1)).length=es.size:=by rw[aaa,aaE]
  obtain⟨I2,hp,hmk⟩:=I.put j1 j2 j3 (by rw[hsz];omega);rw[hsz] at hp
  have e2:(es.toList.map (·.1)).take (t.put j).2++tupleKeyHash 011 k::(es.toList.map (·.1)).drop (t.put j).2=(SetTable.insertAt es (t.put j).2 (tupleKeyHash 011 k,Value.ref b)).toList.map (·.1):=by
   rw[lE,aaP,abY,aaB,abZ]
  rw[e2] at I2;generalize eput:t.put j=tp at I2 hp hmk e2⊢;obtain⟨t2,p⟩:=tp;dsimp only at I2 hp hmk e2⊢
  have hsz2:(SetTable.insertAt es p (tupleKeyHash 011 k,Value.ref b)).size=es.size+1:=by
   rw[<-aaE,lE,aah,aaH,aat,abh,aaE];omega
  have hmem2:∀e,e∈(SetTable.insertAt es p (tupleKeyHash 011 k,Value.ref b)).toList↔e=(tupleKeyHash 011 k,Value.ref b)\/e∈es.toList:=λe=>by
   rw[lE,aax,aao];have:=abf p es.toList;constructor
   ·rintro(z|z|z)
    ·exact .inr (List.mem_of_mem_take z)
    ·exact .inl z
    ·exact .inr (adN z)
   ·rintro(z|z)
    ·exact .inr (.inl z)
    ·rw[<-this] at z;sleep 020
     ·exact .inl z
     ·exact .inr (.inr z)
  generalize SetTable.insertAt es p (tupleKeyHash 011 k,Value.ref b)=es2 at I2 hsz2 hmem2 e2⊢
  have tail:∀t3:SetTable,t3.mask=t2.mask->t3.place=t2.place->t3.dummies=t2.dummies->wpAny 008 A (do
    storeSet a es2 t3
    if(!false&&t3.tooFull)=true then do
     setRelay a (SetTable.grown (es.size+1))
     pure true
    else pure true) Q E s:=by
   intro t3 m1 m2 m3;have I3:Inv t3 (es2.toList.map (·.1)):=⟨m1▸I2.Du,m3▸I2.EH,m2▸I2.gO,by rw[m1,m2];exact I2.le,by rw[m2];exact I2.len,by rw[m1];exact I2.fit,by rw[m1,m2];exact I2.way⟩;refine aaf (wpAny_storeSet_of ho hd ?_ (by rw[aaC];omega));have sb1:=acW s.heap a (Obj.putSet es2 t3)
   have ho1:(s.heap.update a (Obj.putSet es2 t3)).get? a=some {o with data:=.set es2 (ep+1) t3}:=by
    have:=abG (Obj.putSet es2 t3) ho (by rw[putSet_of es2 t3 hd];rfl);rw[putSet_of es2 t3 hd] at this;exact this
   have hent1:∀e∈es2.toList,∃k,Ent prog w s.heap e k:=λe hm=>by
    rcases(hmem2 e).mp hm with rfl|z
    ·exact⟨k,b,rfl,hx,rfl⟩
    ·exact hent e z
   have hk1:∀k',k'∈ks++[k]↔∃e∈es2.toList,Ent prog w s.heap e k':=λk'=>by
    rw[aax,aa9];constructor
    ·rintro(z|rfl)
     ·obtain⟨e,z1,z2⟩:=(hmem k').mp z;exact⟨e,(hmem2 e).mpr (.inr z1),z2⟩
     ·exact⟨_,(hmem2 _).mpr 094,b,rfl,hx,rfl⟩
    ·rintro⟨e,z1,z2⟩;rcases(hmem2 e).mp z1 with rfl|z
     ·obtain⟨b',y1,y2,_⟩:=z2;have y1:b=b':=by injection y1
      subst y1;exact .inr (y2.inj hx)
     ·exact .inl ((hmem k').mpr ⟨e,z,z2⟩)
   have mk:∀(h':Heap) (es3:Array (Int×Value)) (ep3:Nat) (t4:SetTable),Heap.SameBut a s.heap h'->h'.get? a=some {o with data:=.set es3 ep3 t4}->Inv t4 (es3.toList.map (·.1))->es3.size*5<t4.mask*3->es3.size=es.size+1->(∀e,e∈es3.toList↔e∈es2.toList)->
     St prog w h' a es3 (ks++[k]):=λh' es3 ep3 t4 sb hg I4 hr hs hm=>by
    refine⟨⟨_,ep3,t4,hg,hex,rfl,I4,hr⟩,λe he=>?_,λk'=>?_,by rw[hs,aah,hlen];rfl⟩
    ·obtain⟨k',z⟩:=hent1 e ((hm e).mp he);exact⟨k',C3 ho hd sb z⟩
    ·rw[hk1 k'];constructor
     ·rintro⟨e,z1,z2⟩;exact⟨e,(hm e).mpr z1,C3 ho hd sb z2⟩
     ·rintro⟨e,z1,z2⟩;obtain⟨k0,z0⟩:=hent1 e ((hm e).mp z1);exact⟨e,(hm e).mp z1,Ln ho hd sb z0 z2⟩
   by_cases htf:t3.tooFull=true
   ·rw[htf];simp only[aeS,Bool.and_self,↓reduceIte];refine aaf ?_
    have hfill:t3.fill=es.size+1:=by
     unfold SetTable.fill;rw[I3.EH,I3.len,aaa,aaE,hsz2];rfl
    have htf2:(es.size+1)*5>=t3.mask*3:=by
     unfold SetTable.tooFull at htf;rw[hfill] at htf;exact aar htf
    have m1':t3.mask=t.mask:=by rw[m1,hmk]
    have cases3:SetTable.sizeAbove (SetTable.grown (es.size+1))=4*(t3.mask+1)/\t3.mask<=127/\es.size+1<=77:=by
     rcases I3.Du with z|z|z|z
     ·have:es.size=4:=by omega
      rw[this,z];exact⟨by decide+kernel,by omega,by omega⟩
     ·have:es.size=18:=by omega
      rw[this,z];exact⟨by decide+kernel,by omega,by omega⟩
     ·have:es.size=76:=by omega
      rw[this,z];exact⟨by decide+kernel,by omega,by omega⟩
     ·omega
    obtain⟨c1,c2,c3⟩:=cases3
    have hmsk:vc (SetTable.sizeAbove (SetTable.grown (es.size+1))-1):=by
     rw[c1];rcases I3.Du with z|z|z|z<;>rw[z]
     ·exact .inr (.inl rfl)
     ·exact .inr (.inr (.inl rfl))
     ·exact .inr (.inr (.inr rfl))
     ·omega
    unfold setRelay;refine aaf (acH ho1 rfl (I3.fits (by rw[aaa,aaE])) ?_);dsimp only;rw[aan (by rw[c1,aaC];omega)];obtain⟨t4,order,r1,r2,r3,r4,r5,r6,r7⟩:=Iz (t:=t3) (hs:=es2.map (·.1)) (wanted:=SetTable.grown (es.size+1)) hmsk (by rw[c1,acm,hsz2];omega);rw[r1]
    have hso:∀m∈order.toList,∃e,es2[m]? =some e:=λm hm=>by
     have:=r2 m hm;rw[acm] at this;exact⟨es2[m],aaR this⟩
    have hfl:(order.filterMap (es2[·]?)).toList=order.toList.filterMap (es2[·]?):=by simp
    have hget:∀i:Nat,(order.filterMap (es2[·]?))[i]? =order[i]?.bind (es2[·]?):=λi=>by
     rw[iu,hfl,filterMap_get hso,<-iu]
    have hs3:(order.filterMap (es2[·]?)).size=es.size+1:=by
     have e9:∀l:List Nat,(∀m∈l,∃e,es2[m]? =some e)->(l.filterMap (es2[·]?)).length=l.length:=by
      intro l
      induction l with
      |nil=>intro _;rfl
      |cons m l ih=>
       intro hz;obtain⟨e,he⟩:=hz m aae;rw[ael he,aat,aat,ih λm' hm'=>hz m' (aag _ hm')]
     rw[<-aaE,hfl,e9 _ hso,aaE,r4,acm,hsz2]
    show wpAny _ _ ((do
     let es':=order.filterMap (es2[·]?)
     if es'.size !=es2.size then unsupported "internal:set-table-lost-an-element"
     pure (es',t4))>>=_) _ _ _
    dsimp only;rw[hs3,hsz2,aan 017];sleep 040;dsimp only;refine wpAny_storeSet_of (s:={s with heap:=s.heap.update a (Obj.putSet es2 t3)}) ho1 rfl ?_ (by rw[aaC];omega);refine aaA ?_;have sb2:=sb1.trans (acW _ a (Obj.putSet (order.filterMap (es2[·]?)) t4));refine h true _ (order.filterMap (es2[·]?)) sb2 (mk _ _ (ep+2) t4 sb2 ?_ ?_ (by rw[hs3,r5,c1];omega) hs3 λe=>?_)
    ·have hd1:({o with data:=.set es2 (ep+1) t3}:Obj).data= .set es2 (ep+1) t3:=rfl;have:=abG (Obj.putSet (order.filterMap (es2[·]?)) t4) ho1 (by rw[putSet_of _ t4 hd1];rfl);rw[putSet_of _ t4 hd1] at this;exact this
    ·refine r7 _ (by rw[aaa,aaE,hs3,acm,hsz2]) λi m him=>?_;rw[aai,<-iu,hget,him];show(es2[m]?).map (·.1)=(es2.map (·.1))[m]?;rw[Array.getElem?_map]
    ·rw[hfl,ac9];constructor
     ·rintro⟨m,z1,z2⟩;exact abK.mpr (abT z2)
     ·intro z;obtain⟨m,hm⟩:=aas.mp z;obtain⟨q,_⟩:=aad.mp hm;rw[aaE] at q;exact⟨m,r3 m (by rw[acm];exact q),by rw[iu];exact hm⟩
   ·rw[acx] at htf;rw[htf];simp only[aeS,acz,aaK,↓reduceIte]
    have hfill:t3.fill=es.size+1:=by
     unfold SetTable.fill;rw[I3.EH,I3.len,aaa,aaE,hsz2];rfl
    have htf2:¬(es.size+1)*5>=t3.mask*3:=by
     unfold SetTable.tooFull at htf;rw[hfill] at htf;exact abx htf
    exact aaA (h true _ es2 sb1 (mk _ es2 (ep+1) t3 sb1 ho1 I3 (by rw[hsz2];omega) hsz2 λe=>Iff.rfl))
  by_cases hpl:t2.plain=true
  ·rw[hpl];simp only[↓reduceIte];refine aaf (xI hx ?_);simp only[↓reduceIte];exact tail t2 rfl rfl rfl
  ·rw[acx] at hpl;rw[hpl];simp only[aaK,↓reduceIte];sleep 040;simp only[↓reduceIte];exact tail t2 rfl rfl rfl
 ·obtain⟨b',y1,y2,y3⟩:=z3;refine I.way i j _ z1 ?_;rw[aai,aaQ,z2,<-y3];rfl
end
def i8(val:Nat->List Int):Nat->List (List Int)
 |0=>[]
 |i+1=>oW (i8 val i) (val i)
theorem qk(val:Nat->List Int):∀i,(i8 val i).length<=i
 |0=>aay _
 |i+1=>by
  have ih:=qk val i;show(oW (i8 val i) (val i)).length<=i+1;unfold oW
  split
  ·omega
  ·rw[aah,abS];omega
theorem vF(val:Nat->List Int)(k:025):∀i,k∈i8 val i↔∃j,j<i/\val j=k
 |0=>⟨λz=>(by cases z),λ⟨j,h,_⟩=>by omega⟩
 |i+1=>by
  have ih:=vF val k i;show k∈oW (i8 val i) (val i)↔_;unfold oW
  split
  ·rename_i hin;rw[ih];constructor
   ·rintro⟨j,h,e⟩;exact⟨j,0018,e⟩
   ·rintro⟨j,h,e⟩;by_cases hj:j=i
    ·subst hj;rw[e] at hin;exact ih.mp hin
    ·exact⟨j,0018,e⟩
  ·rw[aax,aa9,ih];constructor
   ·rintro(⟨j,h,e⟩|e)
    ·exact⟨j,0018,e⟩
    ·exact⟨i,0018,e.symm⟩
   ·rintro⟨j,h,e⟩;by_cases hj:j=i
    ·subst hj;exact .inr e.symm
    ·exact .inl ⟨j,0018,e⟩
theorem Fi(val:Nat->List Int):∀n,(i8 val n).length<n↔∃i j,i<j/\j<n/\val i=val j
 |0=>⟨λz=>absurd z (abR _),λ⟨i,j,h1,h2,_⟩=>by omega⟩
 |n+1=>by
  have ih:=Fi val n;have hl:=qk val n;show(oW (i8 val n) (val n)).length<n+1↔_;unfold oW
  split
  ·rename_i hin;obtain⟨j,h,e⟩:=(vF val _ n).mp hin;exact⟨λ_=>⟨j,n,h,0018,e⟩,λ_=>by omega⟩
  ·rename_i hin;rw[aah,abS];constructor
   ·intro z;obtain⟨i,j,h1,h2,h3⟩:=ih.mp 03;exact⟨i,j,h1,0018,h3⟩
   ·rintro⟨i,j,h1,h2,h3⟩;by_cases hj:j=n
    ·subst hj;exact absurd ((vF val _ _).mpr ⟨i,h1,h3⟩) hin
    ·have:=ih.mpr ⟨i,j,h1,0018,h3⟩;omega
section
variable{prog:027}{w:066}
def St.keep{h h':Heap}{a:Addr}{es:Array (Int×Value)}{ks:0066}(S:St prog w h a es ks)(ha:∀o,h.get? a=some o->h'.get? a=some o)(ht:∀b o,h.get? b=some o->o.cls= .type "tuple"->h'.get? b=some o):St prog w h' a es ks:=by
 have tk:∀{k b},IsTupleKey 011 h k b->IsTupleKey 011 h' k b:=λ⟨o',items,n,ho',hc,hd',hi⟩=>⟨o',items,n,ht _ _ ho' hc,hc,hd',hi⟩;obtain⟨⟨o,ep,t,ho,hr⟩,hent,hmem,hlen⟩:=S;refine⟨⟨o,ep,t,ha _ ho,hr⟩,λe he=>?_,λk=>?_,hlen⟩
 ·obtain⟨k,b,e1,e2,e3⟩:=hent e he;exact⟨k,b,e1,tk e2,e3⟩
 ·rw[hmem k];constructor
  ·rintro⟨e,he,b,e1,e2,e3⟩;exact⟨e,he,b,e1,tk e2,e3⟩
  ·rintro⟨e,he,b,e1,e2,e3⟩;obtain⟨k0,b0,f1,f2,f3⟩:=hent e he;rw[e1] at f1;have:b=b0:=by injection f1
   subst this;have:=(tk f2).inj e2;subst this;exact⟨e,he,b,e1,f2,e3⟩
variable{A:061}{R:Result->Shared->Prop}{I:Addr}{fp wr:016}{G:Array GenState->Array GenState->Prop}{n:Nat}{P:Nat->Value->Prop}{Stt:Nat->Shared->Prop}
def QF(W:WalksS prog w A.in1 I fp wr G n P Stt)(S:Addr)(hSf:S∉fp)(hu:A.units+1<cLine)(hn:n<=256)(hnt:∀i (s:0016),Stt i s->∀b∈wr,∀o,s.heap.get? b=some o->o.cls≠.type "tuple")(val:Nat->List Int)(tup:Nat->Addr)(hval:∀i v,i<n->P i v->v= .ref (tup i)):∀(k i:Nat) (s:0016) (es:Array (Int×Value)),n-i=k->i<=n->Stt i s->St prog w s.heap S es (i8 val i)->(∀j,j<n->IsTupleKey 011 s.heap (val j) (tup j))->(∀s' es',Moved (S::wr) G s s'->St prog w s'.heap S es' (i8 val n)->R (.ok (.ret .none)) s')->codeAny 008 A (.builtin "set.update.loop" ⟨[.ref S,.ref I],[]⟩) R s:=by
 have hSw:S∉wr:=λh=>hSf (W.sub _ h);have hsub:∀b∈wr,b∈S::wr:=λb hb=>aag _ hb;have mv:∀{i:Nat} {s s':0016},Stt i s->Moved wr G s s'->∀b o,s.heap.get? b=some o->o.cls= .type "tuple"->s'.heap.get? b=some o:=λst hm b o e hc=>hm.heap b o (λz=>hnt _ _ st b z o e hc) e;intro k
 induction k with
 |zero=>
  intro i s es hk hi hst hS ht hR;have hin:i=n:=by omega
  subst hin;refine ac4 acQ ?_;rw[acO ab4 _];show wpAny _ A.in1 (pyNext (.ref I)>>=_) _ _ s;refine aaf (W.done s _ _ hst λs' hm=>?_);show wpAny _ A.in1 (ret Value.none) _ _ s';exact aaA (hR s' es (hm.mono hsub) (hS.keep (λo e=>hm.heap S o hSw e) (mv hst hm)))
 |succ k ih=>
  intro i s es hk hi hst hS ht hR;have hlt:i<n:=by omega
  refine ac4 acQ ?_;rw[acO ab4 _];show wpAny _ A.in1 (pyNext (.ref I)>>=_) _ _ s;refine aaf (W.item i s _ _ hlt hst λv s' hP hst' hm=>?_);obtain rfl:=hval i v hlt hP;have hS':=hS.keep (λo e=>hm.heap S o hSw e) (mv hst hm)
  have ht':∀j,j<n->IsTupleKey 011 s'.heap (val j) (tup j):=λj hj=>by
   obtain⟨o',items,m,ho',hc,hd',hi'⟩:=ht j hj;exact⟨o',items,m,mv hst hm _ _ ho' hc,hc,hd',hi'⟩
  show wpAny _ A.in1 (holding [Value.ref (tup i)] (setAdd S (.ref (tup i)))>>=_) _ _ s';refine aaf (abB ?_);unfold setAdd;refine abB ?_;refine aaf (wpAny_pyHash_tuple (show A.units+1<cLine from hu) (ht' i hlt) ?_);refine NI (s:={s' with toks:=s'.toks+((val i).length+1)}) (show A.units+1<cLine from hu) hS' (by have:=qk val i;omega) (ht' i hlt) λr h' es' hsb hS2=>?_;obtain⟨⟨o,ep,t,ho,_,hd,_⟩,_⟩:=hS';refine aaA ⟨aem ab4 _,ih (i+1) _ es' 03 hlt (W.frame _ s' _ _ hst' (aet _ _) λb hb o e=>?_) hS2 (λj hj=>x9 ho hd hsb (ht' j hj)) λs'' es'' hm'' hS''=>?_⟩
  ·rw[hsb.2 b (λh:b=S=>hSf (by rw[<-h];exact hb))];exact e
  ·refine hR s'' es'' (Moved.trans W.gtrans ((hm.mono hsub).then_heap (aet _ _) λb o hb e=>?_) hm'') hS'';rw[hsb.2 b (λh:b=S=>hb (by rw[h];exact aae))];exact e
end
section
variable{prog:027}{w:066}{A:061}{E:09}{s:0016}
def HB(h:Heap)(a:Addr)(n:Nat):Prop:=∃o es ep t,h.get? a=some o/\o.ExactSet/\o.data= .set es ep t/\t.fits es.size=true/\es.size=n/\n<=256
def St.qt{h:Heap}{a:Addr}{es:Array (Int×Value)}{ks:0066}(S:St prog w h a es ks)(hk:ks.length<=256):HB h a ks.length:=by
 obtain⟨⟨o,ep,t,ho,hex,hd,I,_⟩,_,_,hlen⟩:=S;exact⟨o,es,ep,t,ho,hex,hd,I.fits (by rw[aaa,aaE]),hlen,hk⟩
def K0{h:Heap}{a:Addr}{o:Obj}{led:Bool}(ho:h.get? a=some o)(hex:o.ExactSet)(hd:o.data= .set #[] 0 (.fresh 0 0 led)):St prog w h a #[] []:=
 ⟨⟨o,0,.fresh 0 0 led,ho,hex,hd,⟨.inl rfl,rfl,λi k a b _ z=>by simp[SetTable.fresh] at z,λj hj=>by simp[SetTable.fresh] at hj,rfl,0104,λi j h z=>by simp[SetTable.fresh] at z⟩,(show 0*5<7*3 by decide)⟩,λe he=>by simp at he,λk=>⟨λz=>(by cases z),λ⟨e,he,_⟩=>by simp at he⟩,rfl⟩
def Aa{l:Addr}{items:095}{val:Nat->List Int}{tup:Nat->Addr}{Q:09}(hh:A.handled=none)(hu:A.units+16<cLine)(hl:s.heap.IsList l items)(hn:items.size<=256)(hv:∀i,i<items.size->items[i]? =some (.ref (tup i))/\IsTupleKey 011 s.heap (val i) (tup i))(h:∀(h':Heap) (tk:Nat),HB h' s.heap.objs.size (i8 val items.size).length->(∀b o,b<08->s.heap.get? b=some o->h'.get? b=some o)->Q (.ref 08) {s with heap:=h',toks:=tk}):wpAny 008 A (call (.type "set") [.ref l]) Q E s:=by
 obtain⟨c,tl,hmro⟩:=acG.mro;have hmade:=acG.made;have hsub:=acG.sub;refine wpAny_call (codeAny_of_tree ?_);show wpAny _ _ (callAny (.type "set") _) _ _ _;refine aaA ⟨Code.quiet_builtin _ 07,ac4 F.entry_type_call ?_⟩;rw[Around.under_plain (weight_type_call_type "set" [.ref l] []) rfl];have h1:=acG.notType;have h2:=acG.canCreate;have hct:=F.typeCall_set_1 (.ref l)
 repeat (any_goals (first|assumption|wp_step))
 refine ady (code_set_new_1 (.ref l) (E:=E) (Q₁:=λobj s₁=>∃led:Bool,obj= .ref 08/\s₁={s with heap:=s.heap.push {cls:=.type "set",dict:=none,data:=.set #[] 0 (.fresh 0 0 led)}}) λled=>⟨led,rfl,rfl⟩) λr s₁ hr=>?_
 cases r with
 |error e=>exact hr
 |ok fl=>
  cases fl with
  |ret obj=>
   obtain⟨led,rfl,rfl⟩:=hr;have hS:(s.heap.push {cls:=.type "set",dict:=none,data:=.set #[] 0 (.fresh 0 0 led)}).get? 08=some {cls:=.type "set",dict:=none,data:=.set #[] 0 (.fresh 0 0 led)}:=aaD _ rfl;have hT:Shared.TypeIs {s with heap:=s.heap.push {cls:=.type "set",dict:=none,data:=.set #[] 0 (.fresh 0 0 led)}} (.ref 08) "set":=⟨_,hS,rfl⟩;have hli:=acG.init.lookup;have hbi:=acG.init.bind (.ref 08)
   repeat (any_goals (first|assumption|wp_step))
   refine ady (codeAny_call_builtin (R:=wants (λr s₂=>r= .none/\∃h' tk,s₂={s with heap:=h',toks:=tk}/\HB h' s.heap.objs.size (i8 val items.size).length/\(∀b o,b<08->s.heap.get? b=some o->h'.get? b=some o)) E) acG.init.plain F.entry_set_init (check_set_init_1 hT ?_)) λr₂ s₂ hr₂=>?_
   ·have hl0:=hl;obtain⟨ol,iU,hcl,nl,hdl⟩:=hl;obtain⟨ocls,odict,odata,oslots⟩:=ol;simp only at hcl hdl;subst hcl;subst hdl;have hol':(s.heap.push {cls:=.type "set",dict:=none,data:=.set #[] 0 (.fresh 0 0 led)}).get? l=some {cls:=.type "list",dict:=odict,data:=.seq items nl,slots:=oslots}:=aaq _ iU;have hsls:=F.sub_list_set;have hslf:=F.sub_list_frozenset;have hne:(Value.type "list"==Value.type "dict")=false:=by decide
    have hl1:(s.heap.push {cls:=.type "set",dict:=none,data:=.set #[] 0 (.fresh 0 0 led)}).IsList l items:=⟨_,hol',rfl,nl,rfl⟩;unfold Builtin.«set.__init__» noKeywords Builtin.Frozenset.updateFrom;generalize hPI:pyIter=PI
    wp_walk
    subst hPI;refine aeg hl1 ?_;refine aaf (wpAny_runValue ?_);have hlS:l<08:=aaG iU;have hh3:A.in1.in1.in1.handled=none:=by simp[hh]
    have hneI:l≠(s.heap.push {cls:=.type "set",dict:=none,data:=.set #[] 0 (.fresh 0 0 led)}).objs.size:=by
     rw[aa1];exact aaM (abF hlS)
    have hSf:08∉[(s.heap.push {cls:=.type "set",dict:=none,data:=.set #[] 0 (.fresh 0 0 led)}).objs.size,l]:=by
     rw[aa1];simp only[aao,aa9,aev,or_false,not_or];exact⟨aaM (acb _),aeM hlS⟩
    refine QF ((Walks.list hh3 _ l hneI items).toS) s.heap.objs.size hSf ?hu hn ?hnt val tup (λi v hi hv'=>?hval) (items.size-0) 0 _ #[] 03 (aaT _)
     ⟨0007,(hl1.push _)⟩ ?hS0 (λj hj=>?htk) ?hR
    case hu=>show A.units+1+1+1<cLine;omega
    case hnt=>
     intro i s1 st b hb o ho hc;obtain⟨⟨o',ho',hc',_⟩,_⟩:=st;rw[aa9] at hb;subst hb;rw[ho] at ho';rw[<-aac ho',hc] at hc';exact absurd (acP hc') 0010
    case hval=>
     have:=(hv i hi).1;have hv':items[i]? =some v:=hv';rw[hv'] at this;exact aac this
    case htk=>
     obtain⟨o',its,m,ho',hc',hd',hi'⟩:=(hv j hj).2;exact⟨o',its,m,aaq _ (aaq _ ho'),hc',hd',hi'⟩
    case hS0=>
     exact K0 (led:=led) (aaq _ hS) ⟨rfl,rfl,rfl⟩ rfl
    case hR=>
     intro s' es' hm hS';obtain⟨h',g',d',tk',os'⟩:=s';have eg:g'=s.gens:=hm.gens;have ed:d'=s.drawn:=hm.drawn;have eo:os'=s.os:=hm.os;subst eg;subst ed;subst eo;show wpAny _ _ _ _ _ _;refine aaA ?_;show wpAny _ _ (ret Value.none) _ _ _;refine aaA ⟨rfl,h',tk',rfl,hS'.qt (by have:=qk val items.size;omega),λb o hb e=>?_⟩;have hb1:b≠08:=aaM hb
     have hb2:b≠(s.heap.push {cls:=.type "set",dict:=none,data:=.set #[] 0 (.fresh 0 0 led)}).objs.size:=by
      rw[aa1];exact aaM (abF hb)
     exact hm.heap b o (by simp only[aao,aa9,aev,or_false,not_or];exact⟨hb1,hb2⟩) (aaq _ (aaq _ e))
   ·cases r₂ with
    |error e=>exact hr₂
    |ok fl₂=>
     cases fl₂ with
     |ret r=>
      obtain⟨rfl,h',tk,rfl,hS',hk'⟩:=hr₂
      repeat (any_goals (first|assumption|wp_step))
      exact h _ _ hS' hk'
     |_=>exact hr₂.elim
  |_=>exact hr.elim
end
end ST
namespace ST
open PySem PySem.Spec PyProof.Rows
def IJ:typeLookup (.type "list_reverseiterator") "__len__"=pure none:=by rw[typeLookup_type,builtinLookup_eq_fast];kernel_rfl
def KC:typeLookup (.type "list_reverseiterator") "__length_hint__"=pure (some (.builtin "list_reverseiterator.__length_hint__")):=by rw[typeLookup_type,builtinLookup_eq_fast];kernel_rfl
section
variable{prog:027}{w:066}{A:061}{E:09}{s:0016}
def Gj{R:Result->Shared->Prop}{r l:Addr}{items:095}(hh:A.handled=none)(hr:s.heap.IsRevIter r l ((items.size:Int)-1))(hl:s.heap.IsList l items)(hn:items.size<=sizeLine)(S:Addr)(c₀:Nat)(hS:s.heap.get? S=some {cls:=.type "list",data:=.seq #[] c₀})(hSl:S≠l)(hR:∀h' tk acc' c',(∀b o,b≠S->b≠r->s.heap.get? b=some o->h'.get? b=some o)->h'.get? S=some {cls:=.type "list",dict:=none,data:=.seq acc' c',slots:=#[]}->ItemsOf (λi v=>items[items.size-1-i]? =some v) acc' items.size->R (.ok (.ret .none)) {s with heap:=h',toks:=tk}):wpAny 008 A.in1 (Builtin.List.listExtendWith (.ref S) (.ref r) .none) (λfin s'=>match fin with|.done f=>R (.ok f) s'|.again c'=>c'.quiet=true/\codeAny 008 A c' R s') (λe s'=>R (.error e) s') s:=by
 have hT:=hr.typeIs (s:=s)
 have hSr:S≠r:=λe=>by
  subst e;obtain⟨o,ho,hc,_⟩:=hr;rw[hS] at ho;rw[<-aac ho] at hc;exact absurd (acP hc) 0010
 have hlr:l≠r:=λe=>by
  subst e;obtain⟨o,ho,hc,_⟩:=hr;obtain⟨o2,ho2,hc2,_⟩:=hl;rw[ho] at ho2;rw[<-aac ho2,hc] at hc2;exact absurd (acP hc2) 0010
 have W:=(Walks.listRev (prog:=prog) (w:=w) (A:=A.in1) hh r l hlr items).toS
 have hSf:S∉[r,l]:=λhm=>by
  rcases aao.mp hm with h|h
  ·exact hSr h
  ·exact hSl (aa9.mp h)
 unfold Builtin.List.listExtendWith;refine aaf (ad2 hT ?_);have h1:Builtin.List.listSameRef (.ref S) (.ref r)=false:=by simp[Builtin.List.listSameRef,hSr]
 have h2:(Value.type "list_reverseiterator"==Value.type "list")=false:=by decide
 have h3:(Value.type "list_reverseiterator"==Value.type "tuple")=false:=by decide
 simp only[h1,h2,h3,Bool.or_false,aaK,ab8];refine aaf (adM hr ?_);refine aaf (abB ?_);unfold Builtin.List.listLengthHint;refine aaf (ac2 hT IJ ?_);show wpAny _ A.in1 (specialOf (Value.ref r) (Str.ofString "__length_hint__")>>=_) _ _ _;refine aaf (ac2 hT KC ?_)
 (generalize hid:("list_reverseiterator.__length_hint__":String)=id0;wp_delta;rw[show splitId id0=some ("list_reverseiterator","__length_hint__") from by subst hid;decide+kernel];subst hid)
 refine aaf (aer (b:=true) hT (by rw[isSubtype_type];kernel_rfl) ?_);refine aaA ?_;rw[aan (by decide)];refine aaA ⟨aem F.plain_extend_loop _,codeAny_extend_loopS W hn S hSf .none items.size 0 _ #[] c₀ rfl (aaT _) ⟨aaT _,by simpa using hr,hl⟩ hS (ItemsOf.nil _) λs' acc' c' hm hS' hacc=>?_⟩;rw[Moved.eq_with hm];refine hR s'.heap s'.toks acc' c' (λb o hb hb2 e=>hm.heap b o (λhmem=>?_) e) hS' hacc;rcases aao.mp hmem with e'|hmem
 ·exact hb e'
 ·exact hb2 (aa9.mp hmem)
def zW{R:Result->Shared->Prop}{r l:Addr}{items:095}(hh:A.handled=none)(hr:s.heap.IsRevIter r l ((items.size:Int)-1))(hl:s.heap.IsList l items)(hn:items.size<=sizeLine)(S:Addr)(hS:s.heap.get? S=some {cls:=.type "list",data:=.seq #[]})(hSl:S≠l)(hR:∀h' tk acc' c',(∀b o,b≠S->b≠r->s.heap.get? b=some o->h'.get? b=some o)->h'.get? S=some {cls:=.type "list",dict:=none,data:=.seq acc' c',slots:=#[]}->ItemsOf (λi v=>items[items.size-1-i]? =some v) acc' items.size->R (.ok (.ret .none)) {s with heap:=h',toks:=tk}):wpAny 008 A.in1 (Builtin.«list.__init__» ⟨[.ref S,.ref r],[]⟩) (λfin s'=>match fin with|.done f=>R (.ok f) s'|.again c'=>c'.quiet=true/\codeAny 008 A c' R s') (λe s'=>R (.error e) s') s:=by
 have hSr:S≠r:=λe=>by
  subst e;obtain⟨o,ho,hc,_⟩:=hr;rw[hS] at ho;rw[<-aac ho] at hc;exact absurd (acP hc) 0010
 show wpAny _ _ (do let old<-Builtin.List.listItems (.ref S);Builtin.List.listUpdate (.ref S) (λ_=>#[]);letGo old.toList.reverse;Builtin.List.listExtendWith (.ref S) (.ref r) .none) _ _ s;refine aaf ?_;unfold Builtin.List.listItems;refine aaf (wpAny_seqItems hS rfl (aaA ?_));show wpAny _ _ (updateSeq S (λ_=>#[])>>=λ_=>letGo (#[]:Array Value).toList.reverse>>=λ_=>Builtin.List.listExtendWith (.ref S) (.ref r) .none) _ _ s;refine aaf (wpAny_updateSeq hS rfl ?_);have hS₂:=abG (Obj.mapSeq (λ_=>(#[]:Array Value))) hS rfl
 have oth:∀b o,b≠S->s.heap.get? b=some o->(s.heap.update S (Obj.mapSeq (λ_=>(#[]:Array Value)))).get? b=some o:=
  λb o hb e=>(ab9 _ _ (abl hb)).trans e
 refine aaf (wpAny_letGo ?_);refine Gj hh (hr.at λo e=>oth r o (abl hSr) e) (hl.at λo e=>oth l o (abl hSl) e) hn S _ hS₂ hSl λh' tk acc' c' hk hS' hacc=>?_;exact hR h' tk acc' c' (λb o hb hb2 e=>hk b o hb hb2 (oth b o hb e)) hS' hacc
def Am{Q:09}{r l:Addr}{items:095}(hh:A.handled=none)(hr:s.heap.IsRevIter r l ((items.size:Int)-1))(hl:s.heap.IsList l items)(hn:items.size<=sizeLine)(hQ:∀h' tk acc' c',(∀b o,b≠r->s.heap.get? b=some o->h'.get? b=some o)->h'.get? 08=some {cls:=.type "list",dict:=none,data:=.seq acc' c',slots:=#[]}->ItemsOf (λi v=>items[items.size-1-i]? =some v) acc' items.size->Q (.ref 08) {s with heap:=h',toks:=tk}):wpAny 008 A (call (.type "list") [.ref r]) Q E s:=by
 refine callType_codes (Q₁:=λobj s₁=>obj= .ref 08/\s₁={s with heap:=s.heap.push {cls:=.type "list",data:=.seq #[]}}) F.called_list (F.typeCall_list_1 _) F.entry_list_init
  (code_list_new _ ⟨rfl,rfl⟩) λobj s₁ h₁=>?_
 obtain⟨rfl,rfl⟩:=h₁;have hS:(s.heap.push {cls:=.type "list",data:=.seq #[]}).get? 08=some {cls:=.type "list",data:=.seq #[]}:=aaD _ rfl;have hll:l<08:=by obtain⟨o,ho,_⟩:=hl;exact aaG ho
 refine⟨⟨_,hS,rfl⟩,F.args_list_init_2 _ _,zW (A:=A.in1) hh (hr.at λo e=>aaq _ e) (hl.push _) hn _ hS (aeM hll) λh' tk acc' c' hk hS' hacc=>?_⟩;exact⟨rfl,hQ h' tk acc' c' (λb o hb e=>hk b o (aaM (aaG e)) hb (aaq _ e)) hS' hacc⟩
def Dz{K:Type}[DecidableEq K]{knd:KeyKind prog w K}{Q:List Value->Shared->Prop}{d:Addr}{kvs:List (K×Value)}{ep:Nat}(hh:A.handled=none)(hd:(d==sysModules)=false)(hm:s.heap.DictAt knd d kvs ep)(hn:kvs.length<=sizeLine)(hQ:∀h' tk acc,(∀b o,s.heap.get? b=some o->h'.get? b=some o)->08<=h'.objs.size->ItemsOf (λi v=>∃k x,kvs[i]? =some (k,x)/\knd.is k v=true) acc kvs.length->Q acc.toList {s with heap:=h',toks:=tk}):wpAny 008 A (collect (.ref d)) Q E s:=by
 obtain⟨od,esd,hod,gD,hdd,_⟩:=id hm;have hTd:s.TypeIs (.ref d) "dict":=hm.dictOf.typeIs;have hdl:d<08:=aaG hod;unfold collect;refine aaf (wpAny_runValue (ac4 F.entry_proto_collect ?_));rw[acO F.plain_proto_collect _];show wpAny _ A.in1 (newList []>>=λl=>again (.builtin "list.__iadd__" ⟨[l,.ref d],[]⟩)) _ _ s;refine aaf (acI ?_);refine aaA ⟨aem F.plain_list_iadd _,ac4 F.entry_list_iadd ?_⟩;rw[acO F.plain_list_iadd _];have hS₁:(s.heap.push {cls:=.type "list",data:=.seq ([]:List Value).toArray}).get? 08=some {cls:=.type "list",data:=.seq ([]:List Value).toArray}:=aaD _ rfl;have hm1:(s.heap.push {cls:=.type "list",data:=.seq ([]:List Value).toArray}).DictAt knd d kvs ep:=hm.at' λo e=>aaq _ e;have hT1:Shared.TypeIs {s with heap:=s.heap.push {cls:=.type "list",data:=.seq ([]:List Value).toArray}} (.ref d) "dict":=hm1.dictOf.typeIs;have hsz1:(s.heap.push {cls:=.type "list",data:=.seq ([]:List Value).toArray}).objs.size=08+1:=by rw[aa1]
 generalize hh1:s.heap.push {cls:=.type "list",data:=.seq ([]:List Value).toArray}=h1 at hS₁ hm1 hT1 hsz1⊢;have kp1:∀b o,s.heap.get? b=some o->h1.get? b=some o:=λb o e=>by rw[<-hh1];exact aaq _ e
 have hne:d≠08:=aaM hdl;have e1:Builtin.List.listSameRef (.ref 08) (.ref d)=false:=by simp[Builtin.List.listSameRef,abl hne]
 show wpAny _ A.in1 (Builtin.List.listExtendWith (.ref 08) (.ref d) (.ref 08)) _ _ _;unfold Builtin.List.listExtendWith;refine aaf (ad2 hT1 ?_);rw[aan (by rw[e1];decide)];refine aaf (wpAny_pyIter_dict hd hm1 ?_);refine aaf (abB ?_);have hI:(h1.push {cls:=.type "dict_keyiterator",data:=.fields #[.ref d,.int 0 0,.int kvs.length 0,.int ep 0]}).IsKeyIter h1.objs.size d 0 kvs.length ep:=⟨_,aaD _ rfl,rfl,by first|rfl|simp⟩;have hm2:(h1.push {cls:=.type "dict_keyiterator",data:=.fields #[.ref d,.int 0 0,.int kvs.length 0,.int ep 0]}).DictAt knd d kvs ep:=hm1.at' λo e=>aaq _ e;have hT2:Shared.TypeIs {s with heap:=h1.push {cls:=.type "dict_keyiterator",data:=.fields #[.ref d,.int 0 0,.int kvs.length 0,.int ep 0]}} (.ref d) "dict":=hm2.dictOf.typeIs;have hS₂:=aaq {cls:=.type "dict_keyiterator",data:=.fields #[.ref d,.int 0 0,.int kvs.length 0,.int ep 0]} hS₁;have hsz2:(h1.push {cls:=.type "dict_keyiterator",data:=.fields #[.ref d,.int 0 0,.int kvs.length 0,.int ep 0]}).objs.size=08+2:=by rw[aa1,hsz1]
 have kp2:∀b o,s.heap.get? b=some o->(h1.push {cls:=.type "dict_keyiterator",data:=.fields #[.ref d,.int 0 0,.int kvs.length 0,.int ep 0]}).get? b=some o:=λb o e=>aaq _ (kp1 b o e);generalize h1.push {cls:=.type "dict_keyiterator",data:=.fields #[.ref d,.int 0 0,.int kvs.length 0,.int ep 0]}=h2 at hI hm2 hT2 hS₂ hsz2 kp2⊢;unfold Builtin.List.listLengthHint;refine aaf (ac2 hT2 F.slot_dict_len.lookup ?_)
 (generalize hid:("dict.__len__":String)=id0;wp_delta;rw[show splitId id0=some ("dict","__len__") from by subst hid;decide+kernel];subst hid)
 refine aaf (aer (b:=true) hT2 (by rw[isSubtype_type];kernel_rfl) ?_);refine wpAny_ite_split (λhab=>absurd hab 0010) (λ_=>?_);refine wpAny_ite_split (λ_=>?_) (λhab=>absurd 07 hab);refine aaf (ad2 hT2 ?_);refine aaA ?_;refine wpAny_ite_split (λ_=>?_) (λhab=>absurd 07 hab);refine aaf (wpAny_rule ?_);refine aaf ?_;show wpAny _ _ (updateSeq s.heap.objs.size (·.push .none)>>=λ_=>updateSeq s.heap.objs.size (·.pop)) _ _ _;refine aaf (wpAny_updateSeq (hz:=by decide) hS₂ rfl ?_);have hS3:=abG (Obj.mapSeq (·.push Value.none)) hS₂ rfl;refine wpAny_updateSeq (hz:=by seq_fits) hS3 rfl ?_;have hS4:=abG (Obj.mapSeq (·.pop)) hS3 rfl
 have kp3:∀b o,b≠08->h2.get? b=some o->((h2.update s.heap.objs.size (Obj.mapSeq (·.push Value.none))).update s.heap.objs.size (Obj.mapSeq (·.pop))).get? b=some o:=λb o hb e=>
  (ab9 _ _ (abl hb)).trans ((ab9 _ _ (abl hb)).trans e)
 have hsz3:((h2.update s.heap.objs.size (Obj.mapSeq (·.push Value.none))).update s.heap.objs.size (Obj.mapSeq (·.pop))).objs.size=08+2:=by rw[acS,acS,hsz2]
 generalize (h2.update s.heap.objs.size (Obj.mapSeq (·.push Value.none))).update s.heap.objs.size (Obj.mapSeq (·.pop))=h3 at hS4 kp3 hsz3⊢;have hIne:h1.objs.size≠08:=by omega
 have hdI:d≠h1.objs.size:=aaM (by rw[hsz1];exact abF hdl);have W:=(Walks.dictKeys (knd:=knd) (A:=A.in1) hh h1.objs.size d hdI kvs ep).toS
 have hSf:08∉[h1.objs.size,d]:=λhm=>by
  rcases aao.mp hm with h|h
  ·omega
  ·exact hne (aa9.mp h).symm
 refine aaA ⟨aem F.plain_extend_loop _,codeAny_extend_loopS W hn s.heap.objs.size hSf _ kvs.length 0 _ #[] _ rfl (aaT _) ⟨hI.at λo e=>kp3 _ _ hIne e,hm2.at' λo e=>kp3 _ _ hne e⟩ hS4 (ItemsOf.nil _) λs' acc' c' hmv hS' hacc=>?_⟩;show wpAny _ A (load 08>>=_) _ _ s';refine aaf (wpAny_load hS' ?_);rw[Moved.eq_with hmv];refine aaA (hQ s'.heap s'.toks acc' (λb o e=>hmv.heap b o (λhmem=>?_) (kp3 b o (aaM (aaG e)) (kp2 b o e))) ?_ hacc)
 ·have hb:=aaG e;rcases aao.mp hmem with e'|hmem
  ·exact absurd e' (aaM hb)
  ·have e':=aa9.mp hmem;rw[hsz1] at e';exact absurd e' (aaM (abF hb))
 ·exact aeO (aaG hS')
def Ea{Q:09}{K:Type}[DecidableEq K]{knd:KeyKind prog w K}{d:Addr}{kvs:List (K×Value)}{ep:Nat}{ns:025}(hh:A.handled=none)(hd:(d==sysModules)=false)(hm:s.heap.DictAt knd d kvs ep)(hn:kvs.length<=sizeLine)(hk:∀acc:Array Value,ItemsOf (λi v=>∃k x,kvs[i]? =some (k,x)/\knd.is k v=true) acc kvs.length->IntsAre acc.toList ns)(h:∀(out:095) (ns':025) (h':Heap) (tk:Nat) (p:Addr) (c:Nat),IntsAre out.toList ns'->ns'.Perm ns->ns'.Pairwise (·<=·)->(∀b o,s.heap.get? b=some o->h'.get? b=some o)->08<=p->h'.get? p=some {cls:=.type "list",dict:=none,data:=.seq out c,slots:=#[]}->Q (.ref p) {s with heap:=h',toks:=tk}):wpAny 008 A (call (.builtin "sorted") [.ref d]) Q E s:=by
 refine Calls.call_function_entry kind_sorted plain_sorted entry_sorted (args_sorted1 _) ?_;unfold Builtin.«sorted»;refine aaf (m:=checkCount "sorted" 1 1 _) (aaA ?_);refine aaf (Dz hh hd hm hn λh1 tk acc kp hsz hacc=>?_);have hI:=hk acc hacc;have hlen:acc.toList.length<=sizeLine:=by rw[aaE,hacc.1];exact hn
 refine aaf (wpAny_newList (hsz:=hlen) ?_);have ea:acc.toList.toArray=acc:=by simp
 have hoL:(h1.push (seqObj "list" acc.toList.toArray 0)).get? h1.objs.size=some (seqObj "list" acc.toList.toArray 0):=aaD _ rfl;show wpAny _ _ _ _ _ {s with heap:=h1.push (seqObj "list" acc.toList.toArray 0),toks:=tk};refine aaf (abB (acw slot_list_sort ⟨_,hoL,rfl⟩ entry_list_sort (list_sort_treeAny (s:={s with heap:=h1.push (seqObj "list" acc.toList.toArray 0),toks:=tk}) hoL hI hlen λout ns' a1 a2 a3=>⟨_,rfl,?_⟩) (args_list_sort _)));obtain⟨c,hc⟩:=sortedHeap_at (out:=out) hoL;refine aaA ⟨_,rfl,h out ns' _ tk h1.objs.size c a1 a2 a3 (λb o e=>?_) hsz hc⟩;have hb:=aaG (kp b o e);rw[sortedHeap_old (aaM hb) (by rw[size_push'];exact abF hb)];exact aaq _ (kp b o e)
end
end ST
namespace L2
open PySem PySem.Spec PyProof.Rows
section
variable{X:Cx}
def qt(a:Addr)(n:Nat):HO:=HO.ext λh=>ST.HB h a n
theorem u5{prog:027}{w:066}:∀{ns:025} {us:007},Vals 0065 us->ItemsAre 011 ns us
 |[],us,r=>by cases r;exact .nil
 |n::ns,us,r=>by
  rw[aaB] at r
  cases r with
  |cons r1 r2=>
   obtain⟨t,e⟩:=r1;subst e;exact .cons (intKind_is _ _ _ _) (u5 r2)
def LU(K:05):List V->Hp->VK->Prop:=λxs H Q=>∃(l:Addr) (as:016) (ks:0066),xs=[.ref l]/\ax K H l (as.map V.ref)/\as.length<=256/\as.length=ks.length/\(∀(i:Nat) (a:Addr) (k:025),as[i]? =some a->ks[i]? =some k->bw K H a (k.map V.int))/\
  ∀p,H p=none->Q (.ref p) (upd H p (qt p (ST.i8 (λi=>ks.getD i []) ks.length).length))
def IC(hc:0009)(hu:062):dM X (.type "set") (LU X.K):=by
 sleep 026;obtain⟨l,as,ks,rfl,hl,hn,hlen,hk,q⟩:=h;sleep 027;obtain⟨its,rv,p1,hz⟩:=I.list hl
 have hsz:038=ks.length:=by
  have:=rv.length;rw[aaa] at this;rw[aaz];omega
 refine ST.Aa (val:=λi=>ks.getD i []) (tup:=λi=>as.getD i 0) 0053 03 p1.isList (by rw[hsz];omega) (λi hi=>?_) λh' tk hS hkp=>?_
 ·rw[hsz] at hi;have ea:as[i]? =some as[i]:=aab 03;have ek:ks[i]? =some ks[i]:=aab hi;have eda:as.getD i 0=as[i]:=by rw[aaF,ea];rfl
  have edk:ks.getD i []=ks[i]:=by rw[aaF,ek];rfl
  show 0038[i]? =some (.ref (as.getD i 0))/\IsTupleKey (intKind X.prog X.w) s.heap (ks.getD i []) (as.getD i 0);rw[eda,edk];obtain⟨u,e1,e2⟩:=Vals.get (i:=i) (x:=.ref as[i]) rv (by rw[aai,ea];rfl);have e2:u= .ref as[i]:=e2;refine⟨by rw[<-e2];simpa using e1,?_⟩;obtain⟨its2,rv2,⟨o,ho,hcl,n,hd⟩,_⟩:=I.tuple (hk i _ _ ea ek);exact⟨o,its2.toArray,n,ho,hcl,hd,by simpa using u5 rv2⟩
 ·rw[hsz] at hS;refine⟨.ref 08,upd H s.heap.objs.size (qt s.heap.objs.size _),I.laid (t':=tk) (λb o e=>hkp b o (aaG e) e) 097 ?_,rfl,q _ (I.aX.fresh 097)⟩;obtain⟨o,es,ep,t,ho,rest⟩:=hS;exact⟨⟨o,es,ep,t,ho,rest⟩,⟨o,ho⟩,λh1 h2 ⟨o,es,ep,t,ho,rest⟩ hh=>⟨o,es,ep,t,hh _ ho,rest⟩⟩
def F7:List V->Hp->VK->Prop:=λxs H Q=>∃(a:Addr) (n:Nat),xs=[.ref a]/\H a=some (qt a n)/\Q (.int n) H
def Jt:dM X 0070 F7:=by
 sleep 026;obtain⟨a,n,rfl,ha,q⟩:=h;sleep 027;obtain⟨⟨o,es,ep,t,ho,hx,hd,hf,hn,hb⟩,_⟩:=(show eB X.prog X.w H s.heap a (qt a n) from I.aX a _ ha);refine PySem.call_len_set ho hx hd hf 03 ?_;rw[hn];exact⟨.int n,H,I.tok _,⟨_,rfl⟩,q⟩
end
def Fz:bootBuiltins "list"=some (.type "list"):=by decide+kernel
def ON:bootBuiltins "reversed"=some (.type "reversed"):=by decide+kernel
def Pt:bootBuiltins "range"=some (.type "range"):=by decide+kernel
theorem ym:∀{xs:0012} {us:007},009=us.length->(∀(i:Nat) (x:V) (u:0101),xs[i]? =some x->us[i]? =some u->RelV x u)->Vals xs us
 |[],[],_,_=>.nil
 |x::xs,u::us,hl,h=>.cons (h 0 x u rfl rfl) (ym (by simpa using hl) λi a b ha hb=>h (i+1) a b ha hb)
 |[],u::us,hl,_=>by simp at hl
 |x::xs,[],hl,_=>by simp at hl
section
variable{X:Cx}{K:05}{e:Expr}{t:TA}{p p' pos pos':Pos}
def vN(K:05)(t:TA):TE:=λσ H Q=>t σ H λvs H1=>∃(l:Addr) (ys:0012),vs=[.ref l]/\ax K H1 l ys/\∀q,H1 q=none->Q (.ref q) (upd H1 q (.lst ys.reverse))
def GB(hc:0009)(hgl:Gl X "list")(hgr:Gl X "reversed")(gJ:X.mg "list"=none)(hmr:X.mg "reversed"=none)(ha:PA X [e] t)(hs:starEach [e] X.env=[037]:=by rfl)(hs':starEach [Expr.Call 0080 [e] [] pos'] X.env=[(false,eval (Expr.Call 0080 [e] [] pos') X.env)]:=by rfl):PE X (.Call (.Name "list" p) [.Call 0080 [e] [] pos'] [] pos) (vN X.K t):=by
 sleep 002;refine Call_ (kX I hgl gJ Fz (aba ?_ hs' rfl));rw[hs'];show wpAny _ _ (spliced [(false,eval (Expr.Call 0080 [e] [] pos') X.env)]) _ _ s;refine adk ?_;refine Call_ (kX I hgr hmr ON (aba (bq (ha pos' pins s σ H _ I h) λus s1 ⟨vs,H1,I1,r1,q1⟩=>?_) hs rfl));obtain⟨l,ys,rfl,hq,q⟩:=q1;obtain⟨u,rfl,ru⟩:=vals1 r1;cases ru;obtain⟨its,rv,pl,hz⟩:=I1.list hq;have hlen:=rv.length;refine call_reversed_list pl.isList ?_;refine adw ?_;have hl1:=pl.isList.push (h:=s1.heap) (revObj l ((038:Int)-1));refine ST.Am (s:={s1 with heap:=s1.heap.push (revObj l ((038:Int)-1))}) (I1.ok.hd hc) (items:=0038) 0007 hl1 (by simp only[aaz];omega) λh' tk acc c hk hg hacc=>?_;have hsz:(s1.heap.push (revObj l ((038:Int)-1))).objs.size=036+1:=aa1 _ _;rw[hsz] at hg;show EP X pins σ Q (.ref (s1.heap.push (revObj l ((038:Int)-1))).objs.size) _;rw[hsz];refine⟨.ref (036+1),upd H1 (036+1) (.lst ys.reverse),I1.laid (t':=tk) (λb o e=>hk b o (aaM (aaG e)) (aaq _ e)) (acT _) ?_,rfl,q _ (I1.aX.fresh (acT _))⟩;refine⟨by rw[abb];exact hz,acc.toList,c,?_,by simpa using hg⟩;have hal:acc.toList.length=its.length:=by rw[aaE,hacc.1];simp
 refine ym (by rw[abb,hal];exact hlen) λi x u hx hu=>?_;obtain⟨hi,_⟩:=aad.mp hx;rw[abb] at hi;rw[List.getElem?_reverse hi] at hx;have:=hacc.2 i u (by rw[<-aaQ];exact hu);obtain⟨u',e1,e2⟩:=Vals.get rv hx;have this:its[its.length-1-i]? =some u:=by simpa using this
 rw[<-hlen,e1] at this;rw[<-aac this];exact e2
def oJ(hK:X.K=K)(hc:0009)(hgl:Gl X "list")(hgr:Gl X "reversed")(gJ:X.mg "list"=none)(hmr:X.mg "reversed"=none)(ha:PA X [e] t)(hs:starEach [e] X.env=[037]:=by rfl)(hs':starEach [Expr.Call 0080 [e] [] pos'] X.env=[(false,eval (Expr.Call 0080 [e] [] pos') X.env)]:=by rfl):PE X (.Call (.Name "list" p) [.Call 0080 [e] [] pos'] [] pos) (vN K t):=hK▸GB hc hgl hgr gJ hmr ha hs hs'
def AY(t:TA):TE:=λσ H Q=>t σ H λvs H1=>∃(n m:Nat),vs=[.int 0,.int n,.int 3]/\n=3*m/\n<=1000000/\∀q,H1 q=none->Q (.ref q) (upd H1 q (.lst ((List.range m).map λ(i:Nat)=>V.int (3*i:Nat))))
def AQ{e1 e2 e3:Expr}(hK:X.K=K)(hc:0009)(hgl:Gl X "list")(hgr:Gl X "range")(gJ:X.mg "list"=none)(hmr:X.mg "range"=none)(ha:PA X [e1,e2,e3] t)(hs:starEach [e1,e2,e3] X.env=(false,eval e1 X.env)::starEach [e2,e3] X.env:=by rfl)(hs2:(backTo pos' (starEach [e2,e3] X.env)).any (·.1)=false:=by rfl)(hs':starEach [Expr.Call (.Name "range" p') [e1,e2,e3] [] pos'] X.env=[(false,eval (Expr.Call (.Name "range" p') [e1,e2,e3] [] pos') X.env)]:=by rfl):PE X (.Call (.Name "list" p) [.Call (.Name "range" p') [e1,e2,e3] [] pos'] [] pos) (AY t):=by
 sleep 002;refine Call_ (kX I hgl gJ Fz (aba ?_ hs' rfl));rw[hs'];show wpAny _ _ (spliced [(false,eval (Expr.Call (.Name "range" p') [e1,e2,e3] [] pos') X.env)]) _ _ s;refine adk ?_;refine Call_ (kX I hgr hmr Pt (aba (bq (ha pos' pins s σ H _ I h) λus s1 ⟨vs,H1,I1,r1,q1⟩=>?_) hs hs2));obtain⟨n,m,rfl,hn,hb,q⟩:=q1
 cases r1 with
 |cons ra r1=>
 cases r1 with
 |cons rb r1=>
 cases r1 with
 |cons rc r1=>
 cases r1;obtain⟨ta,rfl⟩:=ra;obtain⟨tb,rfl⟩:=rb;obtain⟨tc,rfl⟩:=rc;refine call_range_3 0010 ?_ (Or.inl (aeC 03));refine adw ?_
 have hrs:Builtin.Range.rangeSize 0 (n:Int) 3=(m:Int):=by
  unfold Builtin.Range.rangeSize;subst hn;rw[aav 0010]
  split<;>omega
 refine PySem.call_list_range (n:=m) (s:={s1 with heap:=s1.heap.push {cls:=.type "range",data:=.fields #[.int 0 ta,.int (n:Int) tb,.int 3 tc]},toks:=s1.toks}) (I1.ok.hd hc) (IsRange.new _ _ _ _ _ _ _) ?_ hrs 03 λh' tk acc c hk hg hacc=>?_
 ·unfold Builtin.Range.small;rw[hrs]
  have fl:∀z:Int,0<=z->z<=1000003->Builtin.Range.rangeFitsLong z=true:=λz h1 h2=>by
   unfold Builtin.Range.rangeFitsLong;simp only[aak,abN];omega
  rw[fl 0 03 03,fl n 03 03,fl 3 03 03,fl m 03 03,aav 0010,fl ((n:Int)+(3-1)) 03 03];simp
 ·have hsz:(s1.heap.push {cls:=.type "range",data:=.fields #[.int 0 ta,.int (n:Int) tb,.int 3 tc]}).objs.size=036+1:=aa1 _ _;rw[hsz] at hg;show EP X pins σ Q (.ref (s1.heap.push {cls:=.type "range",data:=.fields #[.int 0 ta,.int (n:Int) tb,.int 3 tc]}).objs.size) _;rw[hsz];refine⟨.ref (036+1),upd H1 (036+1) (.lst _),I1.laid (t':=tk) (λb o e=>hk b o (aaq _ e)) (acT _) ?_,rfl,q _ (I1.aX.fresh (acT _))⟩;refine⟨by rw[aaa,abe,aaC];omega,acc.toList,c,?_,by simpa using hg⟩;refine ym (by rw[aaa,abe,aaE,hacc.1]) λi x u hx hu=>?_;rw[aai] at hx;obtain⟨j,hj,rfl⟩:=aaI.mp hx;obtain⟨hjl,ej⟩:=aad.mp hj;rw[ad6] at ej;subst ej;obtain⟨tt,e⟩:=hacc.2 i u (by rw[<-aaQ];exact hu);refine⟨tt,?_⟩;rw[e]
  congr 1
  omega
def KQ:List V->Hp->VK->Prop:=λxs H Q=>∃(d:Addr) (kvs:031) (ns:025),xs=[.ref d]/\H d=some 029/\kvs.map (·.1)=ns.map Sum.inl/\
 ∀(ns':025) (p:Addr),ns'.Perm ns->ns'.Pairwise (·<=·)->H p=none->Q (.ref p) (upd H p (.lst (ns'.map V.int)))
theorem FR:∀{us:007} {ns:025},us.length=ns.length->(∀(i:Nat) (u:0101) (n:Int),us[i]? =some u->ns[i]? =some n->∃t,u= .int n t)->IntsAre us ns
 |[],[],_,_=>.nil
 |u::us,n::ns,hl,h=>by
  obtain⟨t,e⟩:=h 0 u n rfl rfl;subst e;exact .cons n t (FR (by simpa using hl) λi a b ha hb=>h (i+1) a b ha hb)
 |[],n::ns,hl,_=>by simp at hl
 |u::us,[],hl,_=>by simp at hl
def Ir(hc:0009):dM X (.builtin "sorted") KQ:=by
 sleep 026;obtain⟨d,kvs,ns,rfl,hd,hk,q⟩:=h;sleep 027;obtain⟨z,hsy,vs,rel,dd⟩:=wM I.aX hd;obtain⟨ep,hat⟩:=dd.dictAt;have hvl:=rel.length;have hkeys:=rel.keys
 have hnl:ns.length=090:=by
  have:=aby List.length hk;rw[aaa,aaa] at this;omega
 refine ST.Ea (ns:=ns) 0053 hsy hat (by rw[<-hvl];exact z) (λacc hacc=>?_) λout ns' h' tk p c h1 h2 h3 hkp hp hg=>?_
 ·refine FR (by rw[aaE,hacc.1,hnl]) λi u n hu hn=>?_;obtain⟨k,x,e1,e2⟩:=hacc.2 i u (by rw[<-aaQ];exact hu)
  have:(ns.map Sum.inl:List Key)[i]? =some k:=by
   rw[<-hk,hkeys,aai,e1];rfl
  rw[aai,hn] at this;have this:(Sum.inl n:Key)=k:=aac this;subst this;have e2:m7 (Sum.inl n) u=true:=e2;rcases eW e2 with⟨j,t,e,rfl⟩|⟨y,t,e,rfl⟩
  ·cases e;exact⟨t,rfl⟩
  ·cases e
 ·have hlen:(ns'.map V.int).length<=sizeLine:=by rw[aaa,h2.length_eq,hnl,<-hvl];exact z
  exact⟨.ref p,upd H p (.lst (ns'.map V.int)),I.laid (t':=tk) hkp hp ⟨hlen,out.toList,c,tQ h1,by simpa using hg⟩,rfl,q ns' p h2 h3 (I.aX.fresh hp)⟩
end
end L2
namespace Bk
open PySem PyProof.Rows L2
open Standbook (Row Order Rows Table Mark Cursor Spot)
def aT{α:Type}{a b:α}(h:a∈[b]):a=b:=aa9.mp h
class InL {α:Type} (a:α) (l:076):Prop where
 m:a∈l
instance {α:Type} {a:α} {l:List α}:InL a (a::l):=⟨.head _⟩
instance {α:Type} {a b:α} {l:List α} [h:InL a l]:InL a (b::l):=⟨.tail _ h.m⟩
def im{α:Type}{a:α}{l:076}[h:InL a l]:a∈l:=h.m
section
variable{a b c d e x:Addr}
def kh(h:[a,b,c,d,e].Nodup):(a≠b/\a≠c/\a≠d/\a≠e)/\(b≠c/\b≠d/\b≠e)/\(c≠d/\c≠e)/\d≠e:=by simpa[and_assoc] using h
def in4(h:x∈[a,b,c,d]):x=a\/x=b\/x=c\/x=d:=by simpa using h
def xr(h:[a,b,c,d,e].Nodup)(hx:x∈[b,c,d,e]):x≠a:=by
 rcases in4 hx with q|q|q|q<;>rw[q]
 ·exact(kh h).1.1.symm
 ·exact(kh h).1.2.1.symm
 ·exact(kh h).1.2.2.1.symm
 ·exact(kh h).1.2.2.2.symm
def yo(h:[a,b,c,d,e].Nodup)(hx:x∈[a,c,d,e]):x≠b:=by
 rcases in4 hx with q|q|q|q<;>rw[q]
 ·exact(kh h).1.1
 ·exact(kh h).2.1.1.symm
 ·exact(kh h).2.1.2.1.symm
 ·exact(kh h).2.1.2.2.symm
def RI(h:[a,b,c,d,e].Nodup)(hx:x∈[a,b,d,e]):x≠c:=by
 rcases in4 hx with q|q|q|q<;>rw[q]
 ·exact(kh h).1.2.1
 ·exact(kh h).2.1.1
 ·exact(kh h).2.2.1.1.symm
 ·exact(kh h).2.2.1.2.symm
def B9(h:[a,b,c,d,e].Nodup)(hx:x∈[a,b,c,e]):x≠d:=by
 rcases in4 hx with q|q|q|q<;>rw[q]
 ·exact(kh h).1.2.2.1
 ·exact(kh h).2.1.2.1
 ·exact(kh h).2.2.1.1
 ·exact(kh h).2.2.2.symm
def KY(h:[a,b,c,d,e].Nodup)(hx:x∈[a,b,c,d]):x≠e:=by
 rcases in4 hx with q|q|q|q<;>rw[q]
 ·exact(kh h).1.2.2.2
 ·exact(kh h).2.1.2.2
 ·exact(kh h).2.2.1.2
 ·exact(kh h).2.2.2
def fN{α:Type}{x e:α}(h:x≠e):x∉[e]:=λz=>h (aT z)
def xW{α:Type}{x e:α}{l:076}[h:InL e l](n:x∉l):x∉[e]:=λz=>n (aT z▸h.m)
end
def f_{f:Str}{v:V}{r:064}:((f,v)::r).lookup f=some v:=by
 have hb:(f==f)=true:=aca f;simp only[List.lookup,hb]
def cB{f g:Str}{v:V}{r:064}(h:(g==f)=false):((f,v)::r).lookup g=r.lookup g:=by
 simp only[List.lookup,h]
theorem Az{m:Str}:∀{fs:064},((fs.map (·.1)).contains m)=false->fs.lookup m=none
 |[],_=>rfl
 |(f,v)::r,h=>by
  rw[aaB,List.contains_cons,Bool.or_eq_false_iff] at h;rw[cB h.1];exact Az h.2
def jm{f:Str}{v y:V}{r:064}:bc f y ((f,v)::r)=(f,y)::r:=by
 show(if f=f then(f,y)::r else(f,v)::bc f y r)=_;rw[aav rfl]
def aV{f g:Str}{v y:V}{r:064}(h:(g==f)=false):bc g y ((f,v)::r)=(f,v)::bc g y r:=by
 show(if f=g then(f,y)::r else(f,v)::bc g y r)=_;rw[aan];intro e;rw[e,aca] at h;cases h
theorem fh{f:Str}{y:V}:bc f y []=[(f,y)]:=rfl
def fO(c p:Addr)(u:Bool):List (Str×V):=[("codes",.ref c),("unique",.bl u),("places",.ref p)]
def fC(k:Int)(f:Bool)(a:Addr):List (Str×V):=[("k",.int k),("follows",.bl f),("place",.ref a)]
def fM(d:Addr)(n c:Int):List (Str×V):=[("rows",.ref d),("next_number",.int n),("changes",.int c)]
def fT(d:Addr)(n:Int)(ol cd ml:Addr)(ch:Int):List (Str×V):=[("rows",.ref d),("next_number",.int n),("orders",.ref ol),("cursors",.ref cd),("marks",.ref ml),("changes",.int ch)]
def fR(a:Addr)(i:Int):List (Str×V):=[("numbers",.ref a),("position",.int i)]
section
variable{a b c d p ol cd ml:Addr}{u:Bool}{n ch k:Int}
def q_:(fO c p u).lookup ("codes":Str)=some (V.ref c):=f_
def oN:(fO c p u).lookup ("unique":Str)=some (V.bl u):=(cB 07).trans f_
def fj:(fO c p u).lookup ("places":Str)=some (V.ref p):=(cB 07).trans ((cB 07).trans f_)
def vn:(fC k u a).lookup ("k":Str)=some (V.int k):=f_
def Hb:(fC k u a).lookup ("follows":Str)=some (V.bl u):=(cB 07).trans f_
def lF:(fC k u a).lookup ("place":Str)=some (V.ref a):=(cB 07).trans ((cB 07).trans f_)
def Nf:(fM d n ch).lookup ("rows":Str)=some (V.ref d):=f_
def MQ:(fM d n ch).lookup ("next_number":Str)=some (V.int n):=(cB 07).trans f_
def Hd:(fM d n ch).lookup ("changes":Str)=some (V.int ch):=(cB 07).trans ((cB 07).trans f_)
def qp:(fR a n).lookup ("numbers":Str)=some (V.ref a):=f_
def iX:(fR a n).lookup ("position":Str)=some (V.int n):=(cB 07).trans f_
def cA:(fT d n ol cd ml ch).lookup ("rows":Str)=some (V.ref d):=f_
def jt:(fT d n ol cd ml ch).lookup ("next_number":Str)=some (V.int n):=(cB 07).trans f_
def bA:(fT d n ol cd ml ch).lookup ("orders":Str)=some (V.ref ol):=(cB 07).trans ((cB 07).trans f_)
def dk:(fT d n ol cd ml ch).lookup ("cursors":Str)=some (V.ref cd):=(cB 07).trans ((cB 07).trans ((cB 07).trans f_))
def fX:(fT d n ol cd ml ch).lookup ("marks":Str)=some (V.ref ml):=(cB 07).trans ((cB 07).trans ((cB 07).trans ((cB 07).trans f_)))
def qi:(fT d n ol cd ml ch).lookup ("changes":Str)=some (V.int ch):=(cB 07).trans ((cB 07).trans ((cB 07).trans ((cB 07).trans ((cB 07).trans f_))))
def Sj:List Str:=["codes","unique","places"]
def Sm:List Str:=["rows","next_number","orders","cursors","marks","changes"]
def Sn:List Str:=["numbers","position"]
def eO{m:Str}(h:Sj.contains m=false):(fO c p u).lookup m=none:=Az h
def iw{m:Str}(h:Sm.contains m=false):(fT d n ol cd ml ch).lookup m=none:=Az h
def u9{m:Str}(h:Sn.contains m=false):(fR a n).lookup m=none:=Az h
def Ik:bc "places" (.ref b) (fO c p u)=fO c b u:=by
 unfold fO;rw[aV 07,aV 07,jm]
def lJ:bc "place" (.ref b) (fC k u a)=fC k u b:=by
 unfold fC;rw[aV 07,aV 07,jm]
def u_{j:Int}:bc "position" (.int j) (fR a n)=fR a j:=by
 unfold fR;rw[aV 07,jm]
def xN:bc "rows" (.ref b) (fT d n ol cd ml ch)=fT b n ol cd ml ch:=jm
def pH{j:Int}:bc "next_number" (.int j) (fT d n ol cd ml ch)=fT d j ol cd ml ch:=by
 unfold fT;rw[aV 07,jm]
def yJ:bc "orders" (.ref b) (fT d n ol cd ml ch)=fT d n b cd ml ch:=by
 unfold fT;rw[aV 07,aV 07,jm]
def GX:bc "cursors" (.ref b) (fT d n ol cd ml ch)=fT d n ol b ml ch:=by
 unfold fT;rw[aV 07,aV 07,aV 07,jm]
def KS:bc "marks" (.ref b) (fT d n ol cd ml ch)=fT d n ol cd b ch:=by
 unfold fT;rw[aV 07,aV 07,aV 07,aV 07,jm]
def m6{j:Int}:bc "changes" (.int j) (fT d n ol cd ml ch)=fT d n ol cd ml j:=by
 unfold fT;rw[aV 07,aV 07,aV 07,aV 07,aV 07,jm]
end
structure Kp(S:016)(H H':Hp):Prop where
 keep:∀b o,H b=some o->b∉S->H' b=some o
 fP:∀b xs,H b=some 0064->H' b=some 0064
 eM:∀b o u,H b=some (.bK o u)->H' b=some (.bK o u)
def Kp.refl(S:016)(H:Hp):Kp S H H:=⟨λ_ _ h _=>h,λ_ _ h=>h,λ_ _ _ h=>h⟩
def Kp.same{S:016}{H H':Hp}(s:au H H'):Kp S H H':=⟨λb o h _=>s b o h,λb xs h=>s b _ h,λb o u h=>s b _ h⟩
def Kp.trans{S:016}{H H1 H2:Hp}(a:Kp S H H1)(b:Kp S H1 H2):Kp S H H2:=⟨λc o h hc=>b.keep c o (a.keep c o h hc) hc,λc xs h=>b.fP c xs (a.fP c xs h),λc o u h=>b.eM c o u (a.eM c o u h)⟩
def Kp.mono{S S':016}{H H':Hp}(a:0089)(h:∀b∈S,b∈S'):Kp S' H H':=⟨λc o e hc=>a.keep c o e λz=>hc (h c z),a.fP,a.eM⟩
def Kp.lst{H:Hp}{p:Addr}{xs:0012}(h:H p=some 0090)(o:HO):Kp [p] H (upd H p o):=
 ⟨λb u e hb=>by rw[aj (by simpa using hb)];exact e,λb ys e=>by rw[aj (cv e h 010)];exact e,λb u v e=>by rw[aj (cv e h 010)];exact e⟩
def Kp.gN{H:Hp}{p:Addr}{kvs:031}(h:H p=some 029)(o:HO):Kp [p] H (upd H p o):=
 ⟨λb u e hb=>by rw[aj (by simpa using hb)];exact e,λb ys e=>by rw[aj (cv e h 010)];exact e,λb u v e=>by rw[aj (cv e h 010)];exact e⟩
def Kp.ins{H:Hp}{p C dx:Addr}{fs:064}(h:H p=some (.ins C dx fs))(o:HO):Kp [p] H (upd H p o):=
 ⟨λb u e hb=>by rw[aj (by simpa using hb)];exact e,λb ys e=>by rw[aj (cv e h 010)];exact e,λb u v e=>by rw[aj (cv e h 010)];exact e⟩
def Kp.free{S:016}{H H':Hp}(k:0089){b:Addr}(h:H' b=none)(hb:b∉S):H b=none:=by
 cases e:H b with
 |none=>rfl
 |some o=>rw[k.keep b o e hb] at h;cases h
def bw.kp{S:016}{K:05}{H H':Hp}{a:Addr}{xs:0012}(k:0089)(h:bw K H a xs):bw K H' a xs:=by
 rcases h with(h|⟨o,h⟩)|h
 ·exact .inl (.inl (k.fP _ _ h))
 ·exact .inl (.inr ⟨o,k.eM _ _ _ h⟩)
 ·exact .inr h
def ax.kp{S:016}{K:05}{H H':Hp}{a:Addr}{xs:0012}(k:0089)(hs:a∉S)(h:ax K H a xs):ax K H' a xs:=by
 rcases h with(h|⟨o,h⟩)|h
 ·exact .inl (.inl (k.keep _ _ h hs))
 ·exact .inl (.inr ⟨o,k.eM _ _ _ h⟩)
 ·exact .inr h
def bo.kp{S:016}{K:05}{H H':Hp}{v:V}{p:0021}(k:0089)(h:bo K H v p):bo K H' v p:=by
 obtain⟨a,b,e,h1,h2⟩:=h;exact⟨a,b,e,bw.kp k h1,bw.kp k h2⟩
def nV(l:015):List V:=l.map λ(n:Nat)=>V.int (n:Int)
def aR(l:015):(nV l).length=l.length:=aaa _
def iV{l:015}{i:Nat}{x:V}(h:(nV l)[i]? =some x):∃n,l[i]? =some n/\x= .int n:=by
 unfold nV at h;rw[aai] at h
 cases e:l[i]? with
 |none=>rw[e] at h;cases h
 |some n=>rw[e] at h;exact⟨n,rfl,(aac h).symm⟩
def Fy(l:015):nV l=(l.map λ(n:Nat)=>(n:Int)).map V.int:=by
 unfold nV;rw[aaN];rfl
def eX(K:05)(H:Hp)(kv:Key×V)(x:088):Prop:=kv.1=Sum.inl (x.1:Int)/\∃a,kv.2= .ref a/\bw K H a (nV x.2)
def fx(K:05)(H:Hp)(d:Addr)(rows:Rows):Prop:=∃(kvs:031) (rs:Rows),H d=some 029/\rs.Perm rows/\Paired (eX K H) kvs rs
def eX.kp{S:016}{K:05}{H H':Hp}{kv:Key×V}{x:088}(k:0089)(h:eX K H kv x):eX K H' kv x:=by
 obtain⟨h1,a,h2,h3⟩:=h;exact⟨h1,a,h2,bw.kp k h3⟩
def fx.kp{S:016}{K:05}{H H':Hp}{d:Addr}{rows:Rows}(k:0089)(hs:d∉S)(h:fx K H d rows):fx K H' d rows:=by
 obtain⟨kvs,rs,h1,h2,h3⟩:=h;exact⟨kvs,rs,k.keep _ _ h1 hs,h2,L2.Paired.jE h3 λ_ _ z=>z.kp k⟩
structure qC(K:05)(A:aQ)(H:Hp)(o p:Addr)(od:0087)(u:Bool)(pl:0095):Prop where
 obj:∃dx c,H o=some (.ins A.cO dx (fO c p u))/\bw K H c (nV od)
 aO:∃as:List Addr,H p=some (.lst (as.map V.ref))/\Paired 0079 as pl
def qC.kp{S:016}{K:05}{A:aQ}{H H':Hp}{o p:Addr}{od:0087}{u:Bool}{pl:0095}(k:0089)(h1:o∉S)(h2:p∉S)(h:qC K A H o p od u pl):qC K A H' o p od u pl:=by
 obtain⟨⟨dx,c,a1,a2⟩,as,b1,b2⟩:=h;exact⟨⟨dx,c,k.keep _ _ a1 h1,bw.kp k a2⟩,as,k.keep _ _ b1 h2,L2.Paired.jE b2 λ_ _ z=>bo.kp k z⟩
structure gU(K:05)(A:aQ)(H:Hp)(ol:Addr)(os ps:016)(aw:033)(pl:Order->List (List Int×Int)):Prop where
 lst:H ol=some (.lst (os.map V.ref))
 lo:os.length=aw.length
 lp:ps.length=aw.length
 at_:∀(i:Nat) (o p:Addr) (x:Order×Bool),os[i]? =some o->ps[i]? =some p->aw[i]? =some x->qC K A H o p x.1 x.2 (pl x.1)
def gU.kp{S:016}{K:05}{A:aQ}{H H':Hp}{ol:Addr}{os ps:016}{aw:033}{pl:Order->List (List Int×Int)}(k:0089)(h0:ol∉S)(h1:∀o∈os,o∉S)(h2:∀p∈ps,p∉S)(h:gU K A H ol os ps aw pl):gU K A H' ol os ps aw pl:=
 ⟨k.keep _ _ h.lst h0,h.lo,h.lp,λi o p x a b c=>(h.at_ i o p x a b c).kp k (h1 o (aap a)) (h2 p (aap b))⟩
def mW(K:05)(A:aQ)(H:Hp)(c:Addr)(cu:Cursor)(od:0087):Prop:=∃dx a,H c=some (.ins A.cC dx (fC (cu.order:Nat) cu.follows a))/\bo K H 046 (SM.dA od cu.spot)
def mW.kp{S:016}{K:05}{A:aQ}{H H':Hp}{c:Addr}{cu:Cursor}{od:0087}(k:0089)(hs:c∉S)(h:mW K A H c cu od):mW K A H' c cu od:=by
 obtain⟨dx,a,h1,h2⟩:=h;exact⟨dx,a,k.keep _ _ h1 hs,bo.kp k h2⟩
def e_(cs:List (Nat×Addr)):List (Key×V):=cs.map λx=>(Sum.inl (x.1:Int),V.ref x.2)
structure oj(K:05)(A:aQ)(H:Hp)(cd:Addr)(cs:List (Nat×Addr))(cur:Nat->Option Cursor)(spec:Nat->Order):Prop where
 gN:H cd=some (.dK (e_ cs))
 nd:(cs.map (·.1)).Nodup
 has:∀n,(cur n).isSome=true↔n∈cs.map (·.1)
 at_:∀(n:Nat) (c:Addr) (cu:Cursor),(n,c)∈cs->cur n=some cu->mW K A H c cu (spec cu.order)
def oj.kp{S:016}{K:05}{A:aQ}{H H':Hp}{cd:Addr}{cs:List (Nat×Addr)}{cur:Nat->Option Cursor}{spec:Nat->Order}(k:0089)(h0:cd∉S)(h1:∀c∈cs.map (·.2),c∉S)(h:oj K A H cd cs cur spec):oj K A H' cd cs cur spec:=
 ⟨k.keep _ _ h.gN h0,h.nd,h.has,λn c cu a b=>(h.at_ n c cu a b).kp k (h1 c (aaw.mpr ⟨_,a,rfl⟩))⟩
structure mq(K:05)(A:aQ)(H:Hp)(m d:Addr)(mk:Mark):Prop where
 obj:∃dx,H m=some (.ins A.cM dx (fM d (mk.next:Nat) (mk.changes:Nat)))
 rows:fx K H d mk.rows
def mq.kp{S:016}{K:05}{A:aQ}{H H':Hp}{m d:Addr}{mk:Mark}(k:0089)(h1:m∉S)(h2:d∉S)(h:mq K A H m d mk):mq K A H' m d mk:=by
 obtain⟨⟨dx,e⟩,r⟩:=h;exact⟨⟨dx,k.keep _ _ e h1⟩,r.kp k h2⟩
structure pS(K:05)(A:aQ)(H:Hp)(ml:Addr)(ms:List (Addr×Addr))(marks:List Mark):Prop where
 lst:H ml=some 065
 all:Paired (λx mk=>mq K A H x.1 x.2 mk) ms marks
def Paired.imp_mem{α β:Type}{F G:0059}{l₁:076}{l₂:List β}(h:Paired F l₁ l₂)(f:∀a b,a∈l₁->F a b->G a b):Paired G l₁ l₂:=by
 induction h with
 |nil=>exact .nil
 |cons r t ih=>exact .cons (f _ _ aae r) (ih λa b ha z=>f a b (aag _ ha) z)
def pS.kp{S:016}{K:05}{A:aQ}{H H':Hp}{ml:Addr}{ms:List (Addr×Addr)}{marks:List Mark}(k:0089)(h0:ml∉S)(h1:∀m∈ms.map (·.1),m∉S)(h2:∀d∈ms.map (·.2),d∉S)(h:pS K A H ml ms marks):pS K A H' ml ms marks:=
 ⟨k.keep _ _ h.lst h0,Paired.imp_mem h.all λa b ha z=>z.kp k (h1 _ (aaw.mpr ⟨a,ha,rfl⟩)) (h2 _ (aaw.mpr ⟨a,ha,rfl⟩))⟩
structure Lay where
 d:Addr
 ol:Addr
 cd:Addr
 ml:Addr
 os:List Addr
 ps:List Addr
 cs:List (Nat×Addr)
 ms:List (Addr×Addr)
def Lay.all(L:Lay)(t:Addr):List Addr:=[t,L.d,L.ol,L.cd,L.ml]++(L.os++(L.ps++(L.cs.map (·.2)++(L.ms.map (·.1)++L.ms.map (·.2)))))
structure TabAt(K:05)(A:aQ)(H:Hp)(t:Addr)(L:Lay)(T:049):Prop where
 wf:SM.Wf T
 obj:∃dx ch,H t=some (.ins A.cT dx (fT L.d (T.next:Nat) L.ol L.cd L.ml ch))/\(T.marks≠[]->ch=(T.changes:Nat))
 rows:fx K H L.d T.rows
 aw:gU K A H L.ol L.os L.ps T.orders λo=>SM.aO o T.rows
 bz:oj K A H L.cd L.cs T.cursor T.spec
 marks:pS K A H L.ml L.ms T.marks.reverse
 nd:(L.all t).Nodup
section
variable{K:05}{A:aQ}{H H':Hp}{t:Addr}{L:Lay}{T:049}
def Lay.pP:t∈L.all t:=by simp[Lay.all]
def Lay.LW:L.d∈L.all t:=by simp[Lay.all]
def Lay.yr:L.ol∈L.all t:=by simp[Lay.all]
def Lay.vH:L.cd∈L.all t:=by simp[Lay.all]
def Lay.sW:L.ml∈L.all t:=by simp[Lay.all]
def Lay.Dn{b:Addr}(h:b∈L.os):b∈L.all t:=by simp[Lay.all,h]
def Lay.GC{b:Addr}(h:b∈L.ps):b∈L.all t:=by simp[Lay.all,h]
def Lay.sJ{b:Addr}(h:b∈L.cs.map (·.2)):b∈L.all t:=by
 unfold Lay.all;exact aam _ (aam _ (aam _ (abc _ h)))
def Lay.Hy{b:Addr}(h:b∈L.ms.map (·.1)):b∈L.all t:=by
 unfold Lay.all;exact aam _ (aam _ (aam _ (aam _ (abc _ h))))
def Lay.GI{b:Addr}(h:b∈L.ms.map (·.2)):b∈L.all t:=by
 unfold Lay.all;exact aam _ (aam _ (aam _ (aam _ (aam _ h))))
def TabAt.kp{S:016}(k:0089)(hs:∀b∈L.all t,b∉S)(h:012):TabAt K A H' t L T:=by
 obtain⟨dx,ch,e,hc⟩:=h.obj;exact⟨h.wf,⟨dx,ch,k.keep _ _ e (hs _ Lay.pP),hc⟩,h.rows.kp k (hs _ Lay.LW),h.aw.kp k (hs _ Lay.yr) (λo ho=>hs _ (Lay.Dn ho)) (λp hp=>hs _ (Lay.GC hp)),h.bz.kp k (hs _ Lay.vH) (λc hc=>hs _ (Lay.sJ hc)),h.marks.kp k (hs _ Lay.sW) (λc hc=>hs _ (Lay.Hy hc)) (λc hc=>hs _ (Lay.GI hc)),h.nd⟩
def TabAt.same(s:au H H')(h:012):TabAt K A H' t L T:=h.kp (S:=[]) (Kp.same s) λ_ _=>by simp
def TabAt.there(h:012):∀b∈L.all t,∃o,H b=some o/\(∀xs,o≠.tup xs)/\∀u v,o≠.bK u v:=by
 intro b hb;unfold Lay.all at hb;rcases aax.mp hb with hb|hb
 ·obtain⟨dx,ch,e,_⟩:=h.obj;obtain⟨kvs,rs,e2,_⟩:=h.rows;have hb:b=t\/b=L.d\/b=L.ol\/b=L.cd\/b=L.ml:=by simpa using hb
  rcases hb with rfl|rfl|rfl|rfl|rfl
  ·sleep 017
  ·exact⟨_,e2,λ_ z=>(by cases z),λ_ _ z=>(by cases z)⟩
  ·exact⟨_,h.aw.lst,λ_ z=>(by cases z),λ_ _ z=>(by cases z)⟩
  ·exact⟨_,h.bz.gN,λ_ z=>(by cases z),λ_ _ z=>(by cases z)⟩
  ·exact⟨_,h.marks.lst,λ_ z=>(by cases z),λ_ _ z=>(by cases z)⟩
 ·rcases aax.mp hb with hb|hb
  ·obtain⟨i,hi⟩:=aas.mp hb;obtain⟨hl,_⟩:=aad.mp hi;have l1:=h.aw.lo;have l2:=h.aw.lp;obtain⟨dx,c,e,_⟩:=(h.aw.at_ i b _ _ hi 0093 0093).obj;sleep 017
  ·rcases aax.mp hb with hb|hb
   ·obtain⟨i,hi⟩:=aas.mp hb;obtain⟨hl,_⟩:=aad.mp hi;have l1:=h.aw.lo;have l2:=h.aw.lp;obtain⟨as,e,_⟩:=(h.aw.at_ i _ b _ 0093 hi 0093).aO;sleep 017
   ·rcases aax.mp hb with hb|hb
    ·obtain⟨x,hx,rfl⟩:=aaw.mp hb;obtain⟨cu,hc⟩:=abW.mp ((h.bz.has x.1).mpr (aaw.mpr ⟨x,hx,rfl⟩));obtain⟨dx,a,e,_⟩:=h.bz.at_ x.1 x.2 cu hx hc;sleep 017
    ·have key:∀{ms:List (Addr×Addr)} {mk:List Mark},Paired (λx mk=>mq K A H x.1 x.2 mk) ms mk->∀x∈ms,∃mk,mq K A H x.1 x.2 mk:=by
      intro ms mk r
      induction r with
      |nil=>intro x hx;cases hx
      |cons r t ih=>
       intro x hx;rcases aao.mp hx with rfl|hx
       ·exact⟨_,r⟩
       ·exact ih x hx
     rcases aax.mp hb with hb|hb
     ·obtain⟨x,hx,rfl⟩:=aaw.mp hb;obtain⟨mk,hm⟩:=key h.marks.all x hx;obtain⟨dx,e⟩:=hm.obj;sleep 017
     ·obtain⟨x,hx,rfl⟩:=aaw.mp hb;obtain⟨mk,hm⟩:=key h.marks.all x hx;obtain⟨kvs,rs,e,_⟩:=hm.rows;sleep 017
def TabAt.iZ(h:012){b:Addr}(e:H b=none):b∉L.all t:=λhb=>by
 obtain⟨o,ho,_⟩:=h.there b hb;rw[e] at ho;cases ho
end
structure Fr(t:Addr)(H:Hp)(L:Lay)(H':Hp)(L':Lay):Prop where
 kp:Kp (L.all t) H H'
 new:∀b∈L'.all t,b∈L.all t\/H b=none
def Fr.refl{t:Addr}{H:Hp}{L:Lay}:Fr t H L H L:=⟨Kp.refl _ _,λ_ h=>.inl h⟩
def Fr.same{t:Addr}{H H':Hp}{L:Lay}(s:au H H'):Fr t H L H' L:=⟨Kp.same s,λ_ h=>.inl h⟩
def Fr.trans{t:Addr}{H H1 H2:Hp}{L L1 L2:Lay}(a:Fr t H L H1 L1)(b:Fr t H1 L1 H2 L2):Fr t H L H2 L2 where
 kp:={
  keep:=λc o e hc=>by
   have e1:=a.kp.keep c o e hc;refine b.kp.keep c o e1 λz=>?_;rcases a.new c z with q|q
   ·exact hc q
   ·rw[e] at q;cases q
  fP:=λc xs e=>b.kp.fP c xs (a.kp.fP c xs e)
  eM:=λc o u e=>b.kp.eM c o u (a.kp.eM c o u e)}
 new:=λc hc=>by
  rcases b.new c hc with q|q
  ·exact a.new c q
  ·by_cases hl:c∈L.all t
   ·exact .inl hl
   ·exact .inr (a.kp.free q hl)
end Bk
namespace Bk
open PySem PyProof.Rows L2
open Standbook (Order Rows Table Mark Cursor Spot)
variable{P:027}{w:066}{K:05}{mg:005}{base:Heap}{A:aQ}
inductive va(vs:0012)(H:Hp)(Q:VK)(E:XK):Prop
 |mk(b:Nat)(_:vs=[.int b])(_:1<=b)(_:Q (.int ((b-1)%4:Nat)) H)
def jI(T:006):000 1 "field_of" ["code"] (va):=by
 refine T.Hi.ok Ep 02;obtain⟨b,rfl,hb,k⟩:=h;refine gx _ (af (ai (bB Bz (bB jJ 0094 aA) aA))) ?_;kd_p;refine pM 0010 ?_;have e:((b:Int)-1)%4=((b-1)%4:Nat):=by omega
 rw[e];exact k
inductive tN(vs:0012)(H:Hp)(Q:VK)(E:XK):Prop
 |mk(b:Nat)(_:vs=[.int b])(_:1<=b)(_:Q (.bl (SM.Dd b)) H)
def A8(T:006):000 1 "goes_down" ["code"] (tN):=by
 refine T.DB.ok Bi 02;obtain⟨b,rfl,hb,k⟩:=h;refine gx _ (af (ai (ee fA (bB Bz (bB xt (bB jJ 0094 aA) aA) aA) aA 077))) ?_;kd_p;refine pM 075 ?_;kd_p;refine pM 0010 ?_;kd_p
 have e:decide (((b:Int)-1) / 4%2=1)=SM.Dd b:=by
  unfold SM.Dd;exact aa2.mpr 03
 rw[e];exact k
inductive uX(vs:0012)(H:Hp)(Q:VK)(E:XK):Prop
 |mk(b:Nat)(_:vs=[.int b])(_:1<=b)(_:Q (.bl (SM.sgn b)) H)
def Ew(T:006):000 1 "has_sign" ["code"] (uX):=by
 refine T.GV.ok DS 02;obtain⟨b,rfl,hb,k⟩:=h;refine gx _ (af (ai (ee fA (bB xt (bB jJ 0094 aA) aA) aA 077))) ?_;kd_p;refine pM 075 ?_;kd_p
 have e:decide (((b:Int)-1) / 8=1)=SM.sgn b:=by
  unfold SM.sgn;exact aa2.mpr 03
 rw[e];exact k
def Cd{x:Nat}(h:0050):Builtin.bitXor (x:Int) 9223372036854775808=((x+9223372036854775808)%18446744073709551616:Nat):=by
 rw[bitXor_and];have e:Builtin.bitAnd (x:Int) 9223372036854775808=((x &&& 9223372036854775808:Nat):Int):=rfl;rw[e,SM.Lo h]
 split<;>omega
def MV{x:Nat}(h:0050):Builtin.bitXor (x:Int) 18446744073709551615=((18446744073709551615-x:Nat):Int):=by
 rw[bitXor_and];have e:Builtin.bitAnd (x:Int) 18446744073709551615=((x &&& 18446744073709551615:Nat):Int):=rfl;rw[e,SM.Nv h];omega
inductive yZ(vs:0012)(H:Hp)(Q:VK)(E:XK):Prop
 |mk(b x:Nat)(_:vs=[.int b,.int x])(_:1<=b)(_:0050)(_:Q (.int (SM.turn b x:Nat)) H)
def ub(T:006):000 2 "turned" ["code","value"] (yZ):=by
 refine T.Kq.ok sZ 02;obtain⟨b,x,rfl,hb,hx,k⟩:=h;refine gx _ (ae (aU (br (aS (Ew T) 01 rfl 040)) (af (aB (i:=1) sZ.nd rfl 001 (bB Iq 014 (aD T.GS rfl)))) aE) (ae (aU (br (aS (A8 T) 01 rfl 040)) (af (aB (i:=1) sZ.nd rfl 001 (bB Iq 014 (aD T.wI rfl)))) aE) (af (ai 014)))) ?_;kd_p;refine⟨b,rfl,hb,?_⟩
 have fin:∀y:Nat,y<18446744073709551616->y=(if SM.sgn b=true then(x+9223372036854775808)%18446744073709551616 else x)->
   (if SM.Dd b=true then Q (.int (Builtin.bitXor (y:Int) 18446744073709551615)) H else Q (.int (y:Int)) H):=λy hy e=>by
  unfold SM.turn at k;dsimp only at k;rw[<-e] at k;sleep 025
  ·rw[aav q] at k;rw[MV hy];exact k
  ·rw[aan 091] at k;exact k
 kd_p;sleep 025
 ·kd_p;refine⟨b,rfl,hb,?_⟩;kd_p;have f1:=fin ((x+9223372036854775808)%18446744073709551616) (acp _ 0010) (by rw[aav q]);sleep 025
  ·kd_p;rw[aav q] at f1;rw[Cd hx];exact f1
  ·kd_p;rw[aan 091] at f1;rw[Cd hx];exact f1
 ·kd_p;refine⟨b,rfl,hb,?_⟩;kd_p;have f1:=fin x hx (by rw[aan 091]);sleep 025
  ·kd_p;rw[aav q] at f1;exact f1
  ·kd_p;rw[aan 091] at f1;exact f1
def Sq(K:05)(H:Hp)(a:Addr)(xs:0012):Prop:=ax K H a xs\/bw K H a xs
def Sq.same{H H':Hp}{a:Addr}{xs:0012}(s:au H H')(h:Sq K H a xs):Sq K H' a xs:=h.elim (λz=>.inl (s.seq z)) λz=>.inr (s.tup z)
def Qg{H:Hp}{a:Addr}{xs:0012}{i:Nat}{v:V}{Q:VK}(h:Sq K H a xs)(e:xs[i]? =some v)(q:Q v H):N1 K 046 (.int (i:Nat)) H Q:=by
 rcases h with h|h
 ·exact .inl ⟨a,xs,i,v,rfl,rfl,h,uy e,q⟩
 ·exact .inr (.inl ⟨a,xs,i,v,rfl,rfl,h,uy e,q⟩)
inductive zx(K:05)(vs:0012)(H:Hp)(Q:VK)(E:XK):Prop
 |mk(c r:Addr)(o:0087)(row:0017)(_:vs=[.ref c,.ref r])(_:Sq K H c (nV o))(_:o.length<=4)(_:(∀b∈o,1<=b/\b<=16))(_:Sq K H r (nV row))(_:068)(_:∀H' k,au H H'->H' k=some (.tup ((SM.aC o row).map V.int))->Q (.ref k) H')
def Cc{o:0087}(ho:∀b∈o,1<=b/\b<=16){row:0017}{i:Nat}{x y:V}(hx:(nV o)[i]? =some x)(hy:((SM.aC o row).map V.int)[i]? =some y):∃b:Nat,x= .int b/\1<=b/\b<=16/\y= .int (SM.turn b (Standbook.field row ((b-1)%4)):Nat):=by
 obtain⟨b,hb,rfl⟩:=iV hx;have hm:=ho b (aap hb);refine⟨b,rfl,hm.1,hm.2,?_⟩;unfold SM.aC at hy;rw[SM.yF ho,aaN,aaN,aai,hb] at hy;exact(aac hy).symm
def t_{row:0017}(h:068){f:Nat}(hf:f<4):(nV row)[f]? =some (.int (Standbook.field row f:Nat)):=by
 obtain⟨h1,_⟩:=SM.hZ h;unfold nV Standbook.field;rw[aai,aaF,aab 03];rfl
def oz(T:006):000 3 "key_of" ["codes","row"] (zx K):=by
 refine T.Ls.ok mx 02;obtain⟨c,r,o,row,rfl,hc,hl,ho,hw,hi,k⟩:=h;have hz:(nV o).length<=sizeLine:=by rw[aR,aaC];omega
 have hlen:((SM.aC o row).map V.int).length=(nV o).length:=by
  unfold SM.aC;rw[aaa,aaa,SM.lI,aR]
 have fin:∀D H2,H D=none->au H H2->H2 D=some (.lst ((SM.aC o row).map V.int))->BY K [.ref D] H2 Q:=λD H2 _ s e=>
  ⟨D,_,rfl,.inl ⟨ax.of e,λl hl=>k _ _ (s.trans (.new hl)) ah⟩⟩
 rcases hc with hc|hc
 ·refine gx _ (af (ai (fi (kY (K:=K) rfl) rfl T.p8 nY (aa (gB (own:=[("code",2)]) rfl mx.nd (c8 (K:=K) rfl (pv 0)) (c_ (by show gP ["codes","row","code"] (ag (top 19)) _ _=true;decide+kernel)) (λ_ _ _ _ _=>bC (i:=2) mx.nd rfl (Or.inl rfl) (Or.inr rfl)) (λ_ _ _ _ _=>eJ) (λ_ _ _ _ _=>(aS (ub T) (hr.mono (by decide)) rfl (aa (pv 2) (aa (cj (AN (K:=K) rfl) (pv 1) (aS (jI T) (hr.mono (by decide)) rfl (aa (pv 2) ab)) (λ_ _=>rfl)) ab))))) ab)))) ?_;kd_p;refine jS _ hc hlen hz (λi x y H1 Q1 hx hy s1 q=>?_) fin;obtain⟨b,rfl,h1,h2,rfl⟩:=Cc ho hx hy;kd_p;refine⟨b,rfl,h1,?_⟩;refine Qg (hw.same s1) (t_ hi (acp _ 0010)) ?_;kd_p;exact⟨b,_,rfl,h1,SM.vx hi _,q _ 042⟩
 ·refine gx _ (af (ai (fi (kY (K:=K) rfl) rfl T.p8 nY (aa (gB (own:=[("code",2)]) rfl mx.nd (nG (K:=K) rfl 0094) (c_ (by show gP ["codes","row","code"] (ag (top 19)) _ _=true;decide+kernel)) (λ_ _ _ _ _=>bC (i:=2) mx.nd rfl 001 0044) 067 (λ_ _ _ _ _=>(aS (ub T) 01 rfl (aa 034 (aa (cj (AN (K:=K) rfl) 014 (aS (jI T) 01 rfl 0023) 019) ab))))) ab)))) ?_;kd_p;refine GF _ hc hlen hz 0043 fin;obtain⟨b,rfl,h1,h2,rfl⟩:=Cc ho hx hy;kd_p;refine⟨b,rfl,h1,?_⟩;refine Qg (hw.same s1) (t_ hi (acp _ 0010)) ?_;kd_p;exact⟨b,_,rfl,h1,SM.vx hi _,q _ 042⟩
inductive zu(K:05)(vs:0012)(H:Hp)(Q:VK)(E:XK):Prop
 |mk(a:Addr)(ns:015)(_:vs=[.ref a])(_:ax K H a (nV ns))(_:0086)(_:∀H',au H H'->Q (.bl (Standbook.isRow ns)) H')
def BQ{ns:015}(h:0086):(nV ns).length<=sizeLine:=by rw[aR,aaC];omega
def iE{α:Type}{l:076}{g:α->Bool}{i:Nat}{y:V}{x:α}(hx:l[i]? =some x)(hy:((l.map g).map V.bl)[i]? =some y):y= .bl (g x):=by
 rw[aaN,aai,hx] at hy;exact(aac hy).symm
def fk(T:006):000 1 "is_row" ["numbers"] (zu K):=by
 refine T.Lb.ok tO 02;obtain⟨a,ns,rfl,ha,hl,k⟩:=h;refine gx _ (ae (aU (a9 AD 0026 (aD T.iK rfl) 077) (af (ai m4)) aE) (af (ai (aI (qG (K:=K) rfl rfl) rfl T.qB nX (aa (gB (own:=[("number",1)]) rfl tO.nd (c8 (K:=K) rfl 0094) (c_ (by show gP ["numbers","number"] (ag (top 13)) _ _=true;decide+kernel)) (λ_ _ _ _ _=>bC (i:=1) tO.nd rfl 001 0044) 067 (λ_ _ _ _ _=>(nH jP jP aA 014 (aD T.wI rfl)))) ab))))) ?_;kd_p;refine cf (.inl ha) ?_;kd_p;rw[aR];refine wB 0063 0063
 ·kd_p
  have e:Standbook.isRow ns=false:=by
   unfold Standbook.isRow;rw[show(ns.length==4)=false from aaV.mpr 03];rfl
  rw[<-e];exact k _ 042
 ·kd_p;refine jS ((ns.map λ(x:Nat)=>decide (x<Standbook.W)).map V.bl) ha (by rw[aaa,aaa,aR]) (BQ hl) 0043 λD H2 _ s2 e=>?_
  ·sleep 032;rw[iE hn hy] at q;kd_p;rw[aaj (show(0:Int)<=(n:Int) by omega)];kd_p;have e:decide ((n:Int)<=18446744073709551615)=decide (n<Standbook.W):=aa2.mpr (by rw[SM.Cu];omega);rw[e];exact q _ 042
  ·kd_p;refine uB _ (ax.of e) ?_
   have e2:(ns.map λ(x:Nat)=>decide (x<Standbook.W)).all id=Standbook.isRow ns:=by
    unfold Standbook.isRow;rw[acZ,show(ns.length==4)=true from abi.mpr 03];rfl
   rw[e2];exact k _ s2
theorem tU:∀(l acc:025),acc.Nodup->(l.foldl step_dedup acc).length<=acc.length+l.length/\((l.foldl step_dedup acc).length=acc.length+l.length↔(acc++l).Nodup)
 |[],acc,h=>⟨aay _,by rw[aa7];exact⟨λ_=>h,λ_=>rfl⟩⟩
 |x::l,acc,h=>by
  rw[adi];by_cases e:acc.any (·==x)=true
  ·rw[show step_dedup acc x=acc from aav e];have ih:=tU l acc h;rw[aat];refine⟨0018,λz=>by omega,λz=>?_⟩;obtain⟨y,hy,q⟩:=adJ.mp e;exact absurd (abi.mp q) ((aaZ.mp z).2.2 y hy x aae)
  ·rw[show step_dedup acc x=acc++[x] from aan e];have hx:x∉acc:=λhm=>e (adJ.mpr ⟨x,hm,aca x⟩)
   have h':(acc++[x]).Nodup:=aaZ.mpr ⟨h,by simp,λa ha b hb=>by
    have:b=x:=aT hb;subst this;rintro rfl
    exact hx ha⟩
   have ih:=tU l (acc++[x]) h';rw[aah,abS,aaL] at ih;rw[aat];refine⟨0018,?_⟩;have e2:acc.length+(l.length+1)=acc.length+1+l.length:=by omega
   rw[e2];exact ih.2
def P_(ns:025):firstMet (λi=>ns.getD i 0) ns.length=ns.foldl step_dedup []:=by
 unfold firstMet
 have e:(List.range ns.length).map (λi=>ns.getD i 0)=ns:=by
  refine adu λi=>?_;rw[aai];by_cases h:i<ns.length
  ·rw[adY h,aab h];show some (ns.getD i 0)=_;rw[aaF,aab h];rfl
  ·rw[aaS (by rw[abe];omega),aaS 03];rfl
 rw[e]
def Nm(ns:025):(firstMet (λi=>ns.getD i 0) ns.length).length<=ns.length/\((firstMet (λi=>ns.getD i 0) ns.length).length=ns.length↔ns.Nodup):=by
 rw[P_];have:=tU ns [] ab5;rw[abj,ad3] at this;exact this
inductive vf(K:05)(vs:0012)(H:Hp)(Q:VK)(E:XK):Prop
 |mk(a:Addr)(o:015)(_:vs=[.ref a])(_:Sq K H a (nV o))(_:o.length<=20000)(_:∀H',au H H'->Q (.bl (Standbook.sound o)) H')
def qH{o:0087}(h:¬(1<=o.length/\o.length<=4)):Standbook.sound o=false:=by
 cases e:Standbook.sound o with
 |false=>rfl
 |true=>exact absurd ((SM.ou o).mp e).1 h
def zk{o:0087}(h:¬(∀b∈o,1<=b/\b<=16)):Standbook.sound o=false:=by
 cases e:Standbook.sound o with
 |false=>rfl
 |true=>exact absurd ((SM.ou o).mp e).2.1 h
def Lg{o:0087}(h1:1<=o.length/\o.length<=4)(h2:∀b∈o,1<=b/\b<=16)(b:Bool)(hb:b=true↔(o.map λc=>(c-1)%4).Nodup):Standbook.sound o=b:=by
 rw[adl,SM.ou,hb];exact⟨λz=>z.2.2,λz=>⟨h1,h2,z⟩⟩
def codeOk(x:Nat):Bool:=decide (1<=x)&&decide (x<=16)
def rD{H1:Hp}{o:015}(h1:1<=o.length/\o.length<=4)(h2:∀b∈o,1<=b/\b<=16){Q:VK}(k:Q (.bl (Standbook.sound o)) H1):Q (.bl (decide (((firstMet (λi=>(o.map λ(c:Nat)=>(((c-1)%4:Nat):Int)).getD i 0) (o.map λ(c:Nat)=>(((c-1)%4:Nat):Int)).length).length:Int)=(o.length:Int)))) H1:=by
 have m:=Nm (o.map λ(c:Nat)=>(((c-1)%4:Nat):Int));rw[aaa] at m
 have e:=Lg h1 h2 (decide (((firstMet (λi=>(o.map λ(c:Nat)=>(((c-1)%4:Nat):Int)).getD i 0) (o.map λ(c:Nat)=>(((c-1)%4:Nat):Int)).length).length:Int)=(o.length:Int))) (by
  rw[acf,aaa]
  have e3:(o.map λ(c:Nat)=>(((c-1)%4:Nat):Int))=(o.map λc=>(c-1)%4).map λ(n:Nat)=>(n:Int):=by
   rw[aaN];rfl
  have e4:(o.map λ(c:Nat)=>(((c-1)%4:Nat):Int)).Nodup↔(o.map λc=>(c-1)%4).Nodup:=by
   rw[e3];refine⟨λz=>?_,λz=>?_⟩
   ·exact(aaX.mp z).imp λ{a b} q e=>q (by rw[e])
   ·exact aaX.mpr (List.Pairwise.imp (λ{a b} (q:a≠b) e=>q (ab1 e)) z)
  rw[<-e4,<-m.2]
  omega)
 rw[<-e];exact k
def iY(T:006):000 2 "is_order" ["codes"] (vf K):=by
 refine T.HH.ok fZ 02;obtain⟨a,o,rfl,ha,hl,k⟩:=h;have hz:=BQ hl
 have body:∀{D:Addr} {H2:Hp} {R:VK},au H H2->H2 D=some (.lst ((o.map codeOk).map V.bl))->(∀H3,au H H3->¬(∀b∈o,1<=b/\b<=16)->R (.bl false) H3)->(∀H3,au H H3->(∀b∈o,1<=b/\b<=16)->R (.bl true) H3)->Gv K [.ref D] H2 R:=by
  intro D H2 R s2 e r1 r2;refine uB _ (ax.of e) ?_;by_cases q:∀b∈o,1<=b/\b<=16
  ·have e2:(o.map codeOk).all id=true:=by
    rw[acZ,aa3];intro x hx;show(decide (1<=x)&&decide (x<=16))=true;rw[aaj (q x hx).1,aaj (q x hx).2];rfl
   rw[e2];exact r2 _ s2 q
  ·have e2:(o.map codeOk).all id=false:=by
    cases z:(o.map codeOk).all id with
    |false=>rfl
    |true=>
     rw[acZ,aa3] at z;refine absurd (λb hb=>?_) q;have z1:(decide (1<=b)&&decide (b<=16))=true:=z b hb;rw[aak] at z1;exact⟨aar z1.1,aar z1.2⟩
   rw[e2];exact r1 _ s2 q
 have lens:((o.map codeOk).map V.bl).length=(nV o).length:=by rw[aaa,aaa,aR]
 have lens2:((o.map λ(c:Nat)=>(((c-1)%4:Nat):Int)).map V.int).length=(nV o).length:=by rw[aaa,aaa,aR]
 have at2:∀{i:Nat} {y:V} {n:Nat},o[i]? =some n->((o.map λ(c:Nat)=>(((c-1)%4:Nat):Int)).map V.int)[i]? =some y->y= .int (((n-1)%4:Nat):Int):=λ{i y n} hn hy=>by
  rw[aaN,aai,hn] at hy;exact(aac hy).symm
 rcases ha with ha|ha
 ·refine gx _ (ae (aU (PW.pt (gq (a9 ij (aI (bY (K:=K) rfl) rfl T.bG bh (aa (pv 0) ab)) aA (aL _)) (gz (a9 lQ (aI (bY (K:=K) rfl) rfl T.bG bh (aa (pv 0) ab)) (aD T.iK rfl) (aL _))))) (af (ai m4)) aE) (ae (aU (bT (br (aI (qG (K:=K) rfl rfl) rfl T.qB nX (aa (gB (own:=[("code",1)]) rfl fZ.nd (c8 (K:=K) rfl (pv 0)) (c_ (by show gP ["codes","code"] (ag (top 14)) _ _=true;decide+kernel)) (λ_ _ _ _ _=>bC (i:=1) fZ.nd rfl (Or.inl rfl) (Or.inr rfl)) (λ_ _ _ _ _=>eJ) (λ_ _ _ _ _=>(nH jP jP aA (pv 1) (aD T.uY rfl)))) ab)))) (af (ai m4)) aE) (af (ai (ee fA (aI J5 rfl T.bG bh (aa (fi (JA (K:=K) rfl rfl) rfl T.GL C5 (aa (gB (own:=[("code",1)]) rfl fZ.nd (c8 (K:=K) rfl (pv 0)) (c_ (by show gP ["codes","code"] (ag (top 14)) _ _=true;decide+kernel)) (λ_ _ _ _ _=>bC (i:=1) fZ.nd rfl (Or.inl rfl) (Or.inr rfl)) (λ_ _ _ _ _=>eJ) (λ_ _ _ _ _=>(aS (jI T) (hr.mono (by decide)) rfl (aa (pv 1) ab)))) ab)) ab)) (aI (bY (K:=K) rfl) rfl T.bG bh (aa (pv 0) ab)) (aL _)))))) ?_;kd_p;refine cf (.inl ha) ?_;kd_p;rw[aR];sleep 018
  ·kd_p;rw[<-qH (o:=o) (by omega)];exact k _ (au.refl _)
  ·kd_p;refine cf (.inl ha) ?_;kd_p;rw[aR];refine cw (λq2=>?_) (λq2=>?_)
   ·kd_p;rw[<-qH (o:=o) (by omega)];exact k _ (au.refl _)
   ·kd_p;refine jS ((o.map codeOk).map V.bl) ha lens hz (λi x y H1 Q1 hx hy s1 q=>?_) λD H2 _ s2 e=>?_
    ·sleep 032;rw[iE hn hy] at q;kd_p;refine cw (λh1=>?_) (λh1=>?_)
     ·kd_p
      have e:codeOk n=decide ((n:Int)<=16):=by
       unfold codeOk;rw[aaj (show 1<=n by omega)];exact aa2.mpr 03
      rw[<-e];exact q _ 042
     ·have e:codeOk n=false:=by
       unfold codeOk;rw[aal (show¬1<=n by omega)];rfl
      rw[<-e];exact q _ 042
    ·kd_p;refine body s2 e (λH3 s3 z=>?_) (λH3 s3 z=>?_)
     ·kd_p;sleep 005;kd_p;rw[<-zk z];exact k _ s3
     ·kd_p;show if false=true then _ else _
      kd_p;refine jS ((o.map λ(c:Nat)=>(((c-1)%4:Nat):Int)).map V.int) (s3.seq ha) lens2 hz 0043 λD2 H4 _ s4 e4=>?_
      ·sleep 032;rw[at2 hn hy] at q;kd_p;exact⟨n,rfl,(z n (aap hn)).1,q _ 042⟩
      ·kd_p;refine⟨D2,_,rfl,ax.of e4,by rw[aaa];show o.length+1<4096;omega,λp S hp=>?_⟩;kd_p;refine⟨p,S,_,rfl,ah,?_⟩;kd_p;refine cf (.inl ((s3.trans (s4.trans (.new hp))).seq ha)) ?_;kd_p;rw[aR];exact rD 03 z (k _ (s3.trans (s4.trans (.new hp))))
 ·refine gx _ (ae (aU (PW.pt (gq (a9 ij 0026 aA 077) (gz (a9 lQ 0026 (aD T.iK rfl) 077)))) (af (ai m4)) aE) (ae (aU (bT (br (aI (qG (K:=K) rfl rfl) rfl T.qB nX (aa (gB (own:=[("code",1)]) rfl fZ.nd (nG (K:=K) rfl 0094) (c_ (by show gP ["codes","code"] (ag (top 14)) _ _=true;decide+kernel)) (λ_ _ _ _ _=>bC (i:=1) fZ.nd rfl 001 0044) 067 (λ_ _ _ _ _=>(nH jP jP aA 014 (aD T.uY rfl)))) ab)))) (af (ai m4)) aE) (af (ai (ee fA (aI J5 rfl T.bG bh (aa (fi (JA (K:=K) rfl rfl) rfl T.GL C5 (aa (gB (own:=[("code",1)]) rfl fZ.nd (nG (K:=K) rfl 0094) (c_ (by show gP ["codes","code"] (ag (top 14)) _ _=true;decide+kernel)) (λ_ _ _ _ _=>bC (i:=1) fZ.nd rfl 001 0044) 067 (λ_ _ _ _ _=>(aS (jI T) 01 rfl 0096))) ab)) ab)) 0026 077))))) ?_;kd_p;refine cf (.inr ha) ?_;kd_p;rw[aR];sleep 018
  ·kd_p;rw[<-qH (o:=o) 03];exact k _ 042
  ·kd_p;refine cf (.inr ha) ?_;kd_p;rw[aR];refine cw (λq2=>?_) (λq2=>?_)
   ·kd_p;rw[<-qH (o:=o) 03];exact k _ 042
   ·kd_p;refine GF ((o.map codeOk).map V.bl) ha lens hz 0043 λD H2 _ s2 e=>?_
    ·sleep 032;rw[iE hn hy] at q;kd_p;refine cw (λh1=>?_) (λh1=>?_)
     ·kd_p
      have e:codeOk n=decide ((n:Int)<=16):=by
       unfold codeOk;rw[aaj (show 1<=n by omega)];exact aa2.mpr 03
      rw[<-e];exact q _ 042
     ·have e:codeOk n=false:=by
       unfold codeOk;rw[aal (show¬1<=n by omega)];rfl
      rw[<-e];exact q _ 042
    ·kd_p;refine body s2 e (λH3 s3 z=>?_) (λH3 s3 z=>?_)
     ·kd_p;sleep 005;kd_p;rw[<-zk z];exact k _ s3
     ·kd_p;show if false=true then _ else _
      kd_p;refine GF ((o.map λ(c:Nat)=>(((c-1)%4:Nat):Int)).map V.int) (s3.tup ha) lens2 hz 0043 λD2 H4 _ s4 e4=>?_
      ·sleep 032;rw[at2 hn hy] at q;kd_p;exact⟨n,rfl,(z n (aap hn)).1,q _ 042⟩
      ·kd_p;refine⟨D2,_,rfl,ax.of e4,by rw[aaa];show o.length+1<4096;omega,λp S hp=>?_⟩;kd_p;refine⟨p,S,_,rfl,ah,?_⟩;kd_p;refine cf (.inr ((s3.trans (s4.trans (.new hp))).tup ha)) ?_;kd_p;rw[aR];exact rD 03 z (k _ (s3.trans (s4.trans (.new hp))))
abbrev Pl:=List Int×Int
def OB(K:05)(A:aQ)(H:Hp)(o p:Addr)(od:0087)(u:Bool):Prop:=∃dx c,H o=some (.ins A.cO dx (fO c p u))/\bw K H c (nV od)
structure oF(od:0087):Prop where
 len:od.length<=4
 gL:∀b∈od,1<=b/\b<=16
def oF.of{od:0087}(h:Standbook.sound od=true):oF od:=⟨(SM.f6 h).2.1,(SM.f6 h).2.2⟩
def iy(K:05)(H:Hp)(p:Addr)(pl:List Pl):Prop:=∃as:List Addr,H p=some (.lst (as.map V.ref))/\Paired 0079 as pl
def sy:([]:List (Str×V)).length<=0:=aay _
def iS{f:Str}{v:V}{fs:064}{n:Nat}(h:fs.length<=n):(bc f v fs).length<=n+1:=by
 have:=pA f v fs;omega
def lt1000{fs:064}{n:Nat}(h:fs.length<=n)(hn:n<1000:=by decide):fs.length<1000:=by omega
def Iv{x y:V}:[x,y].length<=sizeLine:=by rw[aaC];show 2<=_;decide
def OB.same{H H':Hp}{o p:Addr}{od:0087}{u:Bool}(s:au H H')(h:OB K A H o p od u):OB K A H' o p od u:=by
 obtain⟨dx,c,h1,h2⟩:=h;exact⟨dx,c,s _ _ h1,s.tup h2⟩
def bo.same{H H':Hp}{v:V}{q:Pl}(s:au H H')(h:bo K H v q):bo K H' v q:=bo.kp (S:=[]) (Kp.same s) h
def iy.same{H H':Hp}{p:Addr}{pl:List Pl}(s:au H H')(h:iy K H p pl):iy K H' p pl:=by
 obtain⟨as,h1,h2⟩:=h;exact⟨as,s _ _ h1,L2.Paired.jE h2 λ_ _ z=>bo.same s z⟩
def iy.len{H:Hp}{pl:List Pl}{as:016}(h:Paired 0079 as pl):as.length=pl.length:=aaY h
theorem vP{α β:Type}{F:0059}:∀{l:076} {m:List β} {i:Nat} {y:β},Paired F l m->m[i]? =some y->∃x,l[i]? =some x/\F x y
 |_,_,_,_,.nil,h=>by simp at h
 |_,_,0,_,.cons r _,h=>by simp at h;subst h;exact⟨_,rfl,r⟩
 |_,_,i+1,y,.cons _ t,h=>by
  obtain⟨x,h1,h2⟩:=vP (i:=i) (y:=y) t (by simpa using h);exact⟨x,by simpa using h1,h2⟩
theorem km{α β:Type}{F:0059}:∀{l:076} {m:List β} {i:Nat} {x:α},Paired F l m->l[i]? =some x->∃y,m[i]? =some y/\F x y
 |_,_,_,_,.nil,h=>by simp at h
 |_,_,0,_,.cons r _,h=>by simp at h;subst h;exact⟨_,rfl,r⟩
 |_,_,i+1,x,.cons _ t,h=>by
  obtain⟨y,h1,h2⟩:=km (i:=i) (x:=x) t (by simpa using h);exact⟨y,by simpa using h1,h2⟩
def iy.get{H:Hp}{pl:List Pl}{as:016}(h:Paired 0079 as pl){i:Nat}{q:Pl}(hq:pl[i]? =some q):∃a,as[i]? =some a/\(as.map V.ref)[i]? =some 046/\bo K H 046 q:=by
 obtain⟨a,h1,h2⟩:=vP h hq;exact⟨a,h1,by rw[aai,h1];rfl,h2⟩
inductive rJ(K:05)(A:aQ)(vs:0012)(H:Hp)(Q:VK)(E:XK):Prop
 |mk(x dx c:Addr)(o:015)(u:Bool)(_:vs=[.ref x,.ref c,.bl u])(_:H x=some (.ins A.cO dx []))(_:ax K H c (nV o))(_:∀H' p,Kp [x] H H'->H p=none->OB K A H' x p o u->H' p=some (.lst [])->Q .bS H')
def AH(T:006):(zt P w K mg base) A.cO 1 "Order" ["self","codes","unique"] (rJ K A):=by
 refine T.CF.ok z7 02;obtain⟨x,dx,c,o,u,rfl,hx,hc,k⟩:=h;refine gx _ (ae (bR (K:=K) rfl 0094 (fi (kY (K:=K) rfl) rfl T.p8 nY 0096) rfl) (ae (bR (K:=K) rfl 0094 034 rfl) (af (bR (K:=K) rfl 0094 (bu ab) rfl)))) ?_;kd_p;refine⟨c,_,rfl,.inl ⟨hc,λl hl=>?_⟩⟩;have n1:x≠l:=aG hx hl;kd_p;refine bL (by rw[aj n1];exact hx) T.cg T.iq (lt1000 sy) ?_;kd_p;refine bL ah T.cg T.gY (lt1000 (iS sy)) ?_;kd_p;refine⟨by decide,λp hp=>?_⟩;kd_p;have hp1:p≠x:=λe=>by rw[e,ah] at hp;cases hp
 have hp2:H p=none:=by
  rw[aj hp1,aj hp1] at hp;by_cases e:p=l
  ·rw[e];exact hl
  ·rw[aj e] at hp;exact hp
 have nl:l≠p:=λe=>by rw[<-e,aj (abl n1),aj (abl n1),ah] at hp;cases hp
 refine bL (by rw[aj (abl hp1),ah]) T.cg T.bH (lt1000 (iS (iS sy))) ?_
 have e1:bc "places" (V.ref p) (bc "unique" (V.bl u) (bc "codes" (V.ref l) []))=fO l p u:=by
  rw[fh,aV 07,fh,aV 07,aV 07,fh];rfl
 rw[e1];refine k _ p ⟨λb ob e hb=>?_,λb xs e=>?_,λb ob v e=>?_⟩ hp2 ⟨dx,l,ah,?_⟩ ?_
 ·have hb:b≠x:=by simpa using hb
  rw[aj hb,aj (aG e hp2),aj hb,aj hb,aj (aG e hl)];exact e
 ·have hb:b≠x:=cv e hx 010;rw[aj hb,aj (aG e hp2),aj hb,aj hb,aj (aG e hl)];exact e
 ·have hb:b≠x:=cv e hx 010;rw[aj hb,aj (aG e hp2),aj hb,aj hb,aj (aG e hl)];exact e
 ·refine bw.of ?_;rw[aj (abl n1),aj nl,aj (abl n1),aj (abl n1),ah]
 ·rw[aj hp1,ah]
def md(H:Hp)(a:Addr)(q:Pl):Prop:=∃k,H a=some (.tup [.ref k,.int q.2])/\H k=some (.tup (q.1.map V.int))
def md.at_{H:Hp}{a:Addr}{q:Pl}(h:md H a q):bo K H 046 q:=by
 obtain⟨k,h1,h2⟩:=h;exact⟨a,k,rfl,bw.of h1,bw.of h2⟩
theorem BM:∀{l m:025},l.map V.int=m.map V.int->l=m
 |[],[],_=>rfl
 |[],_::_,h=>by cases h
 |_::_,[],h=>by cases h
 |a::l,b::m,h=>by
  rw[aaB,aaB] at h;injection h with h1 h2;injection h1 with h1;rw[h1,BM h2]
def md.inj{H:Hp}{a:Addr}{q q':Pl}(h:md H a q)(h':md H a q'):q=q':=by
 obtain⟨k,h1,h2⟩:=h;obtain⟨k',h1',h2'⟩:=h';rw[h1] at h1';injection h1' with e;injection e with e;injection e with e1 e2;injection e1 with e1;injection e2 with e2 _;injection e2 with e2;subst e1;rw[h2] at h2';injection h2' with e;injection e with e;exact aep (BM e) e2
inductive uZ(K:05)(A:aQ)(vs:0012)(H:Hp)(Q:VK)(E:XK):Prop
 |mk(o p r:Addr)(od:0087)(u:Bool)(n:Int)(row:0017)(_:vs=[.ref o,.int n,.ref r])(_:OB K A H o p od u)(_:oF od)(_:Sq K H r (nV row))(_:068)(_:∀H' a,au H H'->md H' a (SM.aC od row,n)->Q (.ref a) H')
def bM(T:006):024 A.cO 4 "place_of" ["self","number","fields"] (uZ K A):=by
 refine T.vy.ok uH 02;obtain⟨o,p,r,od,u,n,row,rfl,⟨dx,c,h1,h2⟩,hc,h3,h4,k⟩:=h;refine gx _ (af (ai (JS (aa (aS (oz T) 01 rfl (aa 04 0023)) 0096)))) ?_;kd_p;refine ay h1 T.cg T.iq q_ ?_;kd_p;refine⟨c,r,od,row,rfl,.inr h2,hc.len,hc.gL,h3,h4,λH1 t s1 ht=>?_⟩;kd_p;refine⟨Iv,λa ha=>?_⟩;exact k _ a (s1.trans (.new ha)) ⟨t,ah,by rw[aj (aG ht ha)];exact ht⟩
def NZ{pl:List Pl}{q:Pl}{i:Nat}(h0:i<=pl.length)(h1:∀(j:Nat) (x:Pl),j<i->pl[j]? =some x->HP.a_ x q=true)(h2:∀(j:Nat) (x:Pl),i<=j->pl[j]? =some x->HP.a_ x q=false):SM.cnt pl q=i:=by
 unfold SM.cnt
 have e:pl.countP (λp=>HP.a_ p q)=(pl.take i).countP (λp=>HP.a_ p q)+(pl.drop i).countP (λp=>HP.a_ p q):=by
  rw[<-List.countP_append,abf]
 rw[e,adE.mpr,SM.fY,aaH]
 ·omega
 ·intro y hy;obtain⟨j,hj⟩:=aas.mp hy;rw[adf] at hj;exact h2 (i+j) y 03 hj
 ·intro y hy;obtain⟨j,hj⟩:=aas.mp hy;rw[adb] at hj
  split at hj
  ·exact h1 j y 03 hj
  ·cases hj
inductive IA(K:05)(A:aQ)(vs:0012)(H:Hp)(Q:VK)(E:XK):Prop
 |mk(o p:Addr)(od:0087)(u:Bool)(pl:List Pl)(v:V)(q:Pl)(_:vs=[.ref o,v])(_:OB K A H o p od u)(_:iy K H p pl)(_:SM.jB pl)(_:pl.length<=256)(_:bo K H v q)(_:Q (.int (SM.cnt pl q:Nat)) H)
def cx(T:006):024 A.cO 1 "how_many_before" ["self","place"] (IA K A):=by
 refine T.oo.ok da 02;obtain⟨o,p,od,u,pl,v,q,rfl,⟨dx,c,h1,h2⟩,⟨as,h3,h4⟩,hris,hl,hq,k⟩:=h;have hal:=iy.len h4;refine gx _ (ae (aB (i:=2) da.nd rfl 001 aA) (ae (aB (i:=3) da.nd rfl 001 0011) (ae (vp aa5 (a9 ij 034 072 077) (ae (aB (i:=4) da.nd rfl 001 (bB xt (bB gh 034 072) aA)) (af (aU (a9 (Qr (K:=K) rfl hr.units) (cj 043 04 (pv 4) 019) 014 077) (af (aB (i:=2) da.nd rfl 001 (bB gh (pv 4) aA))) (af (aB (i:=3) da.nd rfl 001 (pv 4))))))) (af (ai 034))))) ?_;kd_p;refine ay h1 T.cg T.bH fj ?_;kd_p;refine cf (.inl (ax.of h3)) ?_;kd_p;rw[aaa,hal]
 refine vK (λσ H'=>∃(lo hi:Nat) (m:Option V),σ=[some (.ref o),some v,some (.int lo),some (.int hi),m]/\H'=H/\lo<=hi/\hi<=pl.length/\(∀(j:Nat) (x:Pl),j<lo->pl[j]? =some x->HP.a_ x q=true)/\(∀(j:Nat) (x:Pl),hi<=j->pl[j]? =some x->HP.a_ x q=false))
  (λσ _=>match σ with|[_,_,some (.int lo),some (.int hi),_]=>(hi-lo).toNat|_=>0) ⟨0,pl.length,none,rfl,rfl,aaT _,aay _,λj x hj=>absurd hj (abR _),λj x hj e=>?_⟩ ?_ ?_
 ·rw[aaS hj] at e;cases e
 ·rintro σ H' ⟨lo,hi,m,rfl,rfl,i1,i2,i3,i4⟩;kd_p;refine cw (λhlt=>?_) (λhlt=>?_)
  ·kd_p;refine pM 075 ?_;have e:((lo:Int)+hi) / 2=(((lo+hi) / 2:Nat):Int):=by omega
   rw[e];kd_p;refine ay h1 T.cg T.bH fj ?_;kd_p;have hm:(lo+hi) / 2<pl.length:=by omega
   obtain⟨a,ha1,ha2,ha3⟩:=iy.get h4 (aab hm);refine eT (ax.of h3) ha2 ?_;kd_p;refine⟨_,q,ha3,hq,?_⟩;kd_p;refine jf (λz=>?_) (λz=>?_)
   ·kd_p;refine⟨⟨(lo+hi) / 2+1,hi,_,rfl,rfl,0018,i2,λj x hj e=>?_,i4⟩,?_⟩
    ·by_cases hjm:j=(lo+hi) / 2
     ·subst hjm;rw[aab hm] at e;rw[<-aac e];exact z
     ·have hp:=SM.um hris q
      have hx:x=pl[j]'03:=by
       rw[aab 03] at e;exact(aac e).symm
      rw[hx];exact abn.mp hp j _ 03 hm 03 z
    ·show((hi:Int)-(((lo+hi) / 2:Nat)+1:Int)).toNat<((hi:Int)-lo).toNat;omega
   ·kd_p;refine⟨⟨lo,(lo+hi) / 2,_,rfl,rfl,0018,0018,i3,λj x hj e=>?_⟩,?_⟩
    ·have hjl:j<pl.length:=by
      rcases aad.mp e with⟨q1,_⟩;exact q1
     have hx:x=pl[j]:=by
      rw[aab hjl] at e;exact(aac e).symm
     rw[hx];by_cases hjm:j=(lo+hi) / 2
     ·subst hjm;exact z
     ·cases hb:HP.a_ pl[j] q with
      |false=>rfl
      |true=>
       have hp:=SM.um hris q;have this:HP.a_ pl[(lo+hi) / 2] q=true:=abn.mp hp _ j hm hjl 03 hb;rw[z] at this;cases this
    ·show((((lo+hi) / 2:Nat):Int)-lo).toNat<((hi:Int)-lo).toNat;omega
  ·kd_p;have e:SM.cnt pl q=lo:=NZ 03 i3 λj x hj=>i4 j x 03;rw[e] at k;exact k
 ·intro σ H1 Q1 Q2 hq h;obtain⟨x,e1,h⟩:=lj.out h;obtain⟨y,e2,h⟩:=lj.out h;obtain⟨i,j,rfl,rfl,h⟩:=C7.out h;exact lj.mk e1 (lj.mk e2 (hq _ _ h))
structure kG(K:05)(A:aQ)(H:Hp)(o p:Addr)(od:0087)(u:Bool)(pl:List Pl):Prop where
 ob:OB K A H o p od u
 aO:iy K H p pl
 gL:oF od
 gO:SM.jB pl
 len:pl.length<=256
def kG.same{H H':Hp}{o p:Addr}{od:0087}{u:Bool}{pl:List Pl}(s:au H H')(h:0060):kG K A H' o p od u pl:=⟨h.ob.same s,h.aO.same s,h.gL,h.gO,h.len⟩
inductive xp(K:05)(A:aQ)(n:Int)(vs:0012)(H:Hp)(Q:VK)(E:XK):Prop
 |mk(o p r:Addr)(od:0087)(u:Bool)(pl:List Pl)(row:0017)(_:vs=[.ref o,.ref r])(_:0060)(_:Sq K H r (nV row))(_:068)(_:∀H',au H H'->Q (.int (SM.cnt pl (SM.aC od row,n):Nat)) H')
def c9(T:006):024 A.cO 5 "how_many_before_key" ["self","key"] (xp K A 0):=by
 refine T.mD.ok lO 02;obtain⟨o,p,r,od,u,pl,row,rfl,g,h3,h4,k⟩:=h;sleep 039;refine gx _ (af (ai (bE 0094 (cx T) 01 (aa (bE 0094 (bM T) 01 (aa (aD T.jo rfl) 0096)) ab)))) ?_;kd_p;sleep 006;kd_p;sleep 006;kd_p;refine⟨o,p,r,od,u,_,row,rfl,g.ob,g.gL,h3,h4,λH1 a s1 ha=>?_⟩;have g1:=g.same s1;exact⟨o,p,od,u,pl,_,_,rfl,g1.ob,g1.aO,g1.gO,g1.len,ha.at_,k _ s1⟩
def gc(T:006):024 A.cO 5 "how_many_up_to_key" ["self","key"] (xp K A 4294967295):=by
 refine T.mJ.ok mE 02;obtain⟨o,p,r,od,u,pl,row,rfl,g,h3,h4,k⟩:=h;sleep 039;refine gx _ (af (ai (bE 0094 (cx T) 01 (aa (bE 0094 (bM T) 01 (aa (aD T.rF rfl) 0096)) ab)))) ?_;kd_p;sleep 006;kd_p;sleep 006;kd_p;refine⟨o,p,r,od,u,_,row,rfl,g.ob,g.gL,h3,h4,λH1 a s1 ha=>?_⟩;have g1:=g.same s1;exact⟨o,p,od,u,pl,_,_,rfl,g1.ob,g1.aO,g1.gO,g1.len,ha.at_,k _ s1⟩
def h_{H:Hp}{a:Addr}{q:Pl}(h:bo K H 046 q):∃k,bw K H a [.ref k,.int q.2]/\bw K H k (q.1.map V.int):=by
 obtain⟨a',k,e,h1,h2⟩:=h;cases e;exact⟨k,h1,h2⟩
def OU{x:Str}{a:Addr}{q:Pl}(h:Kc K mg x a q)(H:Hp):bo K H 046 q:=by
 obtain⟨_,k,h1,h2⟩:=h;exact⟨a,k,rfl,h1 H,h2 H⟩
inductive yy(K:05)(A:aQ)(vs:0012)(H:Hp)(Q:VK)(E:XK):Prop
 |mk(o p b:Addr)(od:0087)(u:Bool)(pl:List Pl)(q:Pl)(_:vs=[.ref o,.ref b])(_:0060)(_:bo K H (.ref b) q)(_:∀H' a,au H H'->bo K H' (.ref a) ((pl[SM.cnt pl (q.1,q.2+1)]?).getD ([18446744073709551616],0))->Q (.ref a) H')
def kg(T:006):024 A.cO 2 "place_behind" ["self","place"] (yy K A):=by
 refine T.qI.ok j9 02;obtain⟨o,p,b,od,u,pl,q,rfl,g,hb,k⟩:=h;sleep 039;obtain⟨kk,hb1,hb2⟩:=h_ hb;refine gx _ (ae (aB (i:=2) j9.nd rfl 001 (bE 0094 (cx T) 01 (aa (JS (aa (cj 0039 014 aA 019) (aa (bB gh (cj 0039 014 aA 019) aA) ab))) ab))) (af (ai (jk (a9 ij 034 0011 077) (cj 043 04 034 019) (HG T.sO rfl))))) ?_;kd_p;sleep 006;kd_p;refine jv (j:=0) hb1 rfl ?_;kd_p;refine jv (j:=1) hb1 rfl ?_;kd_p;refine⟨Iv,λt ht=>?_⟩;have s1:au H (upd H t (.tup [.ref kk,.int (q.2+1)])):=.new ht;have g1:=g.same s1;have h1':=s1 _ _ h1;refine⟨o,p,od,u,pl,_,(q.1,q.2+1),rfl,g1.ob,g1.aO,g1.gO,g1.len,⟨t,kk,rfl,bw.of ah,s1.tup hb2⟩,?_⟩;kd_p;refine ay h1' T.cg T.bH fj ?_;kd_p;obtain⟨as,h3,h4⟩:=id g1.aO;refine cf (.inl (ax.of h3)) ?_;kd_p;rw[aaa,iy.len h4];refine cw (λz=>?_) (λz=>?_)
 ·kd_p;refine ay h1' T.cg T.bH fj ?_;kd_p;have hz:SM.cnt pl (q.1,q.2+1)<pl.length:=by omega
  obtain⟨a,ha1,ha2,ha3⟩:=iy.get h4 (aab hz);refine eT (ax.of h3) ha2 ?_;refine k _ a s1 ?_;rw[aab hz];exact ha3
 ·kd_p;refine k _ _ s1 ?_;rw[aaS 03];exact OU T.sO _
inductive yM(K:05)(A:aQ)(vs:0012)(H:Hp)(Q:VK)(E:XK):Prop
 |mk(o p b:Addr)(od:0087)(u:Bool)(pl:List Pl)(q:Pl)(_:vs=[.ref o,.ref b])(_:0060)(_:bo K H (.ref b) q)(_:∀H' a,au H H'->bo K H' (.ref a) (if SM.cnt pl q=0 then([-1],0) else(pl[SM.cnt pl q-1]?).getD ([-1],0))->Q (.ref a) H')
def p9(T:006):024 A.cO 2 "place_before" ["self","place"] (yM K A):=by
 refine T.qz.ok j_ 02;obtain⟨o,p,b,od,u,pl,q,rfl,g,hb,k⟩:=h;sleep 039;refine gx _ (ae (aB (i:=2) j_.nd rfl 001 (bB jJ (bE 0094 (cx T) 01 0096) aA)) (af (ai (jk (a9 qD 034 aA 077) (cj 043 04 034 019) (HG T.kO rfl))))) ?_;kd_p;sleep 006;kd_p;refine⟨o,p,od,u,pl,_,q,rfl,g.ob,g.aO,g.gO,g.len,hb,?_⟩;kd_p;obtain⟨as,h3,h4⟩:=id g.aO;refine cw (λz=>?_) (λz=>?_)
 ·kd_p;refine ay h1 T.cg T.bH fj ?_;kd_p;have hle:=SM.pE pl q;have hz:SM.cnt pl q-1<pl.length:=by omega
  obtain⟨a,ha1,ha2,ha3⟩:=iy.get h4 (aab hz);have e:(SM.cnt pl q:Int)-1=((SM.cnt pl q-1:Nat):Int):=by omega
  rw[e];refine eT (ax.of h3) ha2 ?_;refine k _ a 042 ?_;rw[aan 03,aab hz];exact ha3
 ·kd_p;refine k _ _ 042 ?_;rw[aav 03];exact OU T.kO _
def numAt(pl:List Pl)(j:Int):Int:=if j<0 then 0 else((pl[j.toNat]?).map (·.2)).getD 0
inductive r8(K:05)(A:aQ)(vs:0012)(H:Hp)(Q:VK)(E:XK):Prop
 |mk(o p:Addr)(od:0087)(u:Bool)(pl:List Pl)(j:Int)(_:vs=[.ref o,.int j])(_:OB K A H o p od u)(_:iy K H p pl)(_:Q (.int (numAt pl j)) H)
def gb(T:006):024 A.cO 1 "number_at" ["self","position"] (r8 K A):=by
 refine T.uK.ok r9 02;obtain⟨o,p,od,u,pl,j,rfl,⟨dx,c,h1,h2⟩,⟨as,h3,h4⟩,k⟩:=h;unfold numAt at k;refine gx _ (ae (aU (PW.pt (gq (a9 ij 014 aA 077) (gz (a9 qD 014 0011 077)))) (af (ai aA)) aE) (af (ai (cj 0039 (cj 043 04 014 019) aA 019)))) ?_;kd_p;refine cw (λz=>?_) (λz=>?_)
 ·kd_p;rw[aav z] at k;exact k
 ·rw[aan z] at k;kd_p;refine ay h1 T.cg T.bH fj ?_;kd_p;refine cf (.inl (ax.of h3)) ?_;kd_p;rw[aaa,iy.len h4];refine cw (λz2=>?_) (λz2=>?_)
  ·kd_p;rw[aaS 03] at k;exact k
  ·kd_p;refine ay h1 T.cg T.bH fj ?_;kd_p;obtain⟨n,rfl⟩:∃n:Nat,j=(n:Int):=⟨j.toNat,0018⟩;rw[aa0] at k;have hz:n<pl.length:=by omega
   obtain⟨a,ha1,ha2,ha3⟩:=iy.get h4 (aab hz);obtain⟨kk,b1,b2⟩:=h_ ha3;refine eT (ax.of h3) ha2 ?_;kd_p;refine jv (j:=1) b1 rfl ?_;rw[aab hz] at k;exact k
def E9(xs:0012){i j:Nat}(hi:i<=009)(hj:j<=009):lL xs (some (i:Int)) (some (j:Int))=(xs.drop i).take (j-i):=by
 unfold lL HT.lY
 have e1:∀n:Nat,n<=009->(if(n:Int)<0 then(max 0 ((n:Int)+009)).toNat else(min (n:Int) 009).toNat)=n:=λn hn=>by
  rw[aan 03];omega
 first
  |(rw[e1 i hi,e1 j hj])
  |(simp only[show¬((i:Int)<0) by omega,show¬((j:Int)<0) by omega,ab8,aa0,adX hi,adX hj])
end Bk
section
namespace L2
open PySem PySem.Spec PyProof.Rows
section
variable{nx bk ct:St->Hp->Prop}{rt Q:VK}{σ:St}{H H1:Hp}{te ta tb tc:TE}{K:05}{vs:015}{j:Nat}{D:Addr}
def fz{r:V->Option Int->Option Int->Hp->VK->Prop}{tl th:TO}(h:te σ H λx H1=>tl σ H1 λl H2=>th σ H2 λu H3=>r x l u H3 Q):Rx r te tl th σ H Q:=h
def cS{q:Option Int->Hp->Prop}(h:te σ H λx H1=>∃i,x= .int i/\q (some i) H1):LV te σ H q:=h
def cK{a:Int}{q:Int->Prop}(h:q a):∃i,V.int a= .int i/\q i:=⟨a,rfl,h⟩
def Paired.snoc{α β:Type}{F:0059}{l:076}{m:List β}{x:α}{y:β}(k:Paired F l m)(h:F x y):Paired F (l++[x]) (m++[y]):=by
 induction k with
 |nil=>exact .cons h .nil
 |cons r t ih=>exact .cons r ih
def Ku{d:Addr}{o:Obj}{kvs:031}{Qd:Hp->Prop}(R:Hp->V->Key×V->Prop)(hR:∀H H' y x,(∀b xs,H b=some 0064->H' b=some 0064)->R H y x->R H' y x)(hz:kvs.length<=sizeLine)(hD:H1 D=none)(hd:H1 d=some (.bK o 029))(hb:∀(i:Nat) (kv:Key×V) (H:Hp) (Q:VK),kvs[i]? =some kv->au H1 H->(∀H' y,au H H'->R H' y kv->Q y H')->te ((wipe σ vs).set j (some (kV kv.1))) H Q)(he:∀H ys,au H1 H->H D=some (.lst ys)->Paired (R H) ys kvs->Qd H)(hw:∀x,wipe 0015 vs=wipe σ vs:=by intro _;rfl):∃W:Nat->Nat->Hp->Prop,028/\∀i m H,W i m H->((yz d o kvs).stop i H/\Qd H)\/((yz d o kvs).go i H/\∃Nx:Hp->Prop,023/\∀x H',(yz d o kvs).ke i H x H'->fB j x 0097 H' λσ2 H2=>wipe σ2 vs=wipe σ vs/\jF σ2 H2 λb H3=>if b=true then te σ2 H3 λy H4=>∃acc,H4 D=some 0068/\acc.length<sizeLine/\Nx 021 else Nx H3):=by
 refine⟨λi m H=>m=kvs.length-i/\i<=kvs.length/\au H1 H/\∃ys,H D=some (.lst ys)/\Paired (R H) ys (kvs.take i),⟨kvs.length,0104,aaT _,.new hD,[],ah,.nil⟩,?_⟩;rintro i m H ⟨rfl,hi,s,ys,e,r⟩;by_cases hlt:i<kvs.length
 ·refine .inr ⟨⟨s _ _ hd,hlt⟩,λH'=>i+1<=kvs.length/\au H1 H'/\∃ys,H' D=some (.lst ys)/\Paired (R H') ys (kvs.take (i+1)),λH' p'=>⟨kvs.length-(i+1),0018,rfl,p'⟩,λx H' y=>?_⟩;obtain⟨e1,k,v,e2,rfl⟩:=y;subst e1;refine⟨hw _,?_⟩;refine Av (cD (hb i (k,v) _ _ e2 s λH2 y s2 hy=>⟨ys,s2 _ _ e,?_,hlt,λb u eb=>?_,ys++[y],ah,?_⟩))
  ·have:=aaY r;rw[aaH] at this;omega
  ·rw[aj (aG eb hD)];exact s2 _ _ (s _ _ eb)
  ·rw[take_snoc e2];have k3:∀z w',R H2 z w'->R (upd H2 D (.lst (ys++[y]))) z w':=λz w' q=>hR _ _ z w' (λb xs eb=>by rw[aj (cv eb (s2 _ _ e) 010)];exact eb) q;exact Paired.snoc (Paired.jE r λz w' q=>k3 z w' (hR _ _ z w' (λb xs eb=>s2 _ _ eb) q)) (k3 _ _ hy)
 ·have e1:i=kvs.length:=by omega
  subst e1;rw[abC] at r;exact .inl ⟨⟨s _ _ hd,aay _⟩,he H ys s e r⟩
end
section
variable{Q:VK}{σ:St}{H H1:Hp}{te td:TE}{vs:015}{j:Nat}
def Pp(te:TE)(σ:St)(vs:015)(j:Nat)(Q:VK)(x:V)(H1:Hp):Prop:=∃d o,x= .ref d/\((∃kvs,H1 d=some (.bK o 029)/\∀D,H1 D=none->∃W:Nat->Nat->Hp->Prop,028/\∀i m H,W i m H->((yz d o kvs).stop i H/\Q 0075 H)\/((yz d o kvs).go i H/\∃Nx:Hp->Prop,023/\∀x H',(yz d o kvs).ke i H x H'->fB j x 0097 H' λσ2 H2=>wipe σ2 vs=wipe σ vs/\jF σ2 H2 λb H3=>if b=true then te σ2 H3 λy H4=>∃acc,H4 D=some 0068/\acc.length<sizeLine/\Nx 021 else Nx H3))\/∃kvs,H1 d=some (.bK o (.dT kvs))/\∀D,H1 D=none->∃W:Nat->Nat->Hp->Prop,028/\∀i m H,W i m H->((AL d o kvs).stop i H/\Q 0075 H)\/((AL d o kvs).go i H/\∃Nx:Hp->Prop,023/\∀x H',(AL d o kvs).ke i H x H'->fB j x 0097 H' λσ2 H2=>wipe σ2 vs=wipe σ vs/\jF σ2 H2 λb H3=>if b=true then te σ2 H3 λy H4=>∃acc,H4 D=some 0068/\acc.length<sizeLine/\Nx 021 else Nx H3))
def dF(h:td σ H λx H1=>Pp te σ vs j Q x H1):wc (Mg td) (fB j) jF te vs σ H Q:=h
def LO{d:Addr}{o:PySem.Obj}{kvs:031}(R:Hp->V->Key×V->Prop)(hR:∀H H' y x,(∀b xs,H b=some 0064->H' b=some 0064)->R H y x->R H' y x)(hz:kvs.length<=PySem.sizeLine)(hd:H1 d=some (.bK o 029))(hb:∀(i:Nat) (kv:Key×V) (H:Hp) (Q:VK),kvs[i]? =some kv->au H1 H->(∀H' y,au H H'->R H' y kv->Q y H')->te ((wipe σ vs).set j (some (kV kv.1))) H Q)(he:∀D H ys,H1 D=none->au H1 H->H D=some (.lst ys)->PySem.Paired (R H) ys kvs->Q 0075 H)(hw:∀x,wipe 0015 vs=wipe σ vs:=by intro _;rfl):Pp te σ vs j Q (.ref d) H1:=
 ⟨d,o,rfl,.inl ⟨kvs,hd,λD hD=>Ku R hR hz hD hd hb (λH ys s e r=>he D H ys hD s e r) hw⟩⟩
def Jg{t:TE}{d:Addr}{u:HO}(h1:H d=some u)(h2:sr (some u))(h:∀od,t σ (upd H d 0078) λv H'=>H' d=some 0078/\Q v (upd H' d u)):Jv t σ H Q:=⟨d,u,h1,h2,h⟩
def MA{a:Addr}{n:Int}{v:V}{o:PySem.Obj}{kvs:031}(e:H a=some (.bK o 029))(hv:eR kvs (Sum.inl n)=some v)(h:Q v H):wo 046 (.int n) H Q:=⟨a,v,rfl,.inl ⟨kvs,Sum.inl n,.inr ⟨o,e⟩,rfl,hv.symm⟩,h⟩
end
end L2
namespace Bk
open PySem PyProof.Rows L2
open Standbook (Order Rows Table Mark Cursor Spot)
variable{P:027}{w:066}{K:05}{mg:005}{base:Heap}{A:aQ}
def mM(pl:List Pl)(i j:Nat):List Pl:=(pl.drop i).take (j-i)
def EO{H:Hp}{as:016}{pl:List Pl}(h:Paired 0079 as pl){i j:Nat}(hi:i<=pl.length)(hj:j<=pl.length):∃bs:List Addr,lL (as.map V.ref) (some (i:Int)) (some (j:Int))=bs.map V.ref/\Paired 0079 bs (mM pl i j):=by
 have hl:=iy.len h;refine⟨(as.drop i).take (j-i),?_,?_⟩
 ·rw[E9 _ (by rw[aaa];omega) (by rw[aaa];omega),abY,abZ]
 ·have d:∀{α β:Type} {F:0059} {l:076} {m:List β} (n:Nat),Paired F l m->Paired F (l.drop n) (m.drop n):=by
   intro α β F l m n r
   induction r generalizing n with
   |nil=>rw[aeq,aeq];exact .nil
   |cons r t ih=>
    cases n with
    |zero=>exact .cons r t
    |succ n=>exact ih n
  have tk:∀{α β:Type} {F:0059} {l:076} {m:List β} (n:Nat),Paired F l m->Paired F (l.take n) (m.take n):=by
   intro α β F l m n r
   induction r generalizing n with
   |nil=>rw[ac7,ac7];exact .nil
   |cons r t ih=>
    cases n with
    |zero=>exact .nil
    |succ n=>exact .cons r (ih n)
  exact tk _ (d _ h)
inductive wK(K:05)(A:aQ)(vs:0012)(H:Hp)(Q:VK)(E:XK):Prop
 |mk(o p r1 r2:Addr)(od:0087)(u:Bool)(pl:List Pl)(a b:0017)(_:vs=[.ref o,.ref r1,.ref r2])(_:0060)(_:Sq K H r1 (nV a))(_:Standbook.isRow a=true)(_:Sq K H r2 (nV b))(_:Standbook.isRow b=true)(_:∀H' l,au H H'->H' l=some (.lst ((mM pl (SM.cnt pl (SM.aC od a,0)) (SM.cnt pl (SM.aC od b,0))).map λq=>V.int q.2))->Q (.ref l) H')
def jb(T:006):024 A.cO 6 "numbers_between" ["self","first","end"] (wK K A):=by
 refine T.oq.ok eE 02;obtain⟨o,p,r1,r2,od,u,pl,a,b,rfl,g,ha,ha2,hb,hb2,k⟩:=h;sleep 039;refine gx _ (ae (aB (i:=3) eE.nd rfl 001 (bE 0094 (c9 T) 01 0096)) (ae (aB (i:=4) eE.nd rfl 001 (bE 0094 (c9 T) 01 0023)) (af (ai (gB (own:=[("place",5)]) rfl eE.nd (c8 (K:=K) rfl (lx (ko (K:=K) rfl) 04 (gR 072) (gR (pv 4)))) (c_ (by show gP ["self","first","end","start","stop","place"] (ag gQ) _ _=true;decide+kernel)) (λ_ _ _ _ _=>bC (i:=5) eE.nd rfl 001 0044) 067 (λ_ _ _ _ _=>(cj 0039 (pv 5) aA 019))))))) ?_;kd_p;sleep 006;kd_p;refine⟨o,p,r1,od,u,pl,a,rfl,g,ha,ha2,λH1 s1=>?_⟩;kd_p;refine aF (s1 _ _ h1) (eO 07) ?_;kd_p;refine⟨o,p,r2,od,u,pl,b,rfl,g.same s1,hb.same s1,hb2,λH2 s2=>?_⟩;have s12:=s1.trans s2;have g2:=g.same s12;obtain⟨as,h3,h4⟩:=id g2.aO;kd_p;refine ay (s12 _ _ h1) T.cg T.bH fj ?_;kd_p;refine⟨p,_,rfl,ax.of h3,λl hl=>?_⟩;obtain⟨bs,e1,e2⟩:=EO h4 (SM.pE pl (SM.aC od a,0)) (SM.pE pl (SM.aC od b,0));rw[e1];have s3:au H2 (upd H2 l (.lst (bs.map V.ref))):=.new hl;have hlen:=iy.len e2
 have hcl:(mM pl (SM.cnt pl (SM.aC od a,0)) (SM.cnt pl (SM.aC od b,0))).length<=256:=by
  unfold mM;rw[aaH,abh];have:=g.len;omega
 refine jS ((mM pl (SM.cnt pl (SM.aC od a,0)) (SM.cnt pl (SM.aC od b,0))).map λq=>V.int q.2) (ax.of ah) (by rw[aaa,aaa,hlen]) (by rw[aaa,hlen,aaC];omega) (λi x y H3 Q3 hx hy s4 q=>?_) λD H3 _ s4 e=>?_
 ·rw[aai] at hx hy
  cases e3:bs[i]? with
  |none=>rw[e3] at hx;cases hx
  |some z=>
   rw[e3] at hx;obtain⟨q0,e4,hz⟩:=km e2 e3;rw[e4] at hy;obtain rfl:V.ref z=x:=aac hx;obtain rfl:V.int q0.2=y:=aac hy;obtain⟨kk,b1,b2⟩:=h_ (bo.same (s3.trans s4) hz);kd_p;exact jv (j:=1) b1 rfl (q _ 042)
 ·exact k _ D (s12.trans (s3.trans s4)) e
inductive tI(K:05)(A:aQ)(vs:0012)(H:Hp)(Q:VK)(E:XK):Prop
 |mk(o p r:Addr)(od:0087)(u:Bool)(pl:List Pl)(n:Int)(row:0017)(_:vs=[.ref o,.int n,.ref r])(_:0060)(_:Sq K H r (nV row))(_:068)(_:∀H',au H H'->Q (.bl ((mM pl (SM.cnt pl (SM.aC od row,0)) (SM.cnt pl (SM.aC od row,4294967295))).any λq=> !decide (q.2=n))) H')
def tq(T:006):024 A.cO 6 "has_other" ["self","number","row"] (tI K A):=by
 refine T.uI.ok f9 02;obtain⟨o,p,r,od,u,pl,n,row,rfl,g,ha,ha2,k⟩:=h;sleep 039;refine gx _ (ae (aB (i:=3) f9.nd rfl 001 (bE 0094 (c9 T) 01 0023)) (ae (aB (i:=4) f9.nd rfl 001 (bE 0094 (gc T) 01 0023)) (af (ai (aI (L6 (K:=K) rfl rfl) rfl T.Ma IP (aa (gB (own:=[("place",5)]) rfl f9.nd (c8 (K:=K) rfl (lx (ko (K:=K) rfl) 04 (gR 072) (gR (pv 4)))) (c_ (by show gP ["self","number","row","start","stop","place"] (ag jG) _ _=true;decide+kernel)) (λ_ _ _ _ _=>bC (i:=5) f9.nd rfl 001 0044) 067 (λ_ _ _ _ _=>(ee AD (cj 0039 (pv 5) aA 019) 014 077))) ab)))))) ?_;kd_p;sleep 006;kd_p;refine⟨o,p,r,od,u,pl,row,rfl,g,ha,ha2,λH1 s1=>?_⟩;kd_p;refine aF (s1 _ _ h1) (eO 07) ?_;kd_p;refine⟨o,p,r,od,u,pl,row,rfl,g.same s1,ha.same s1,ha2,λH2 s2=>?_⟩;have s12:=s1.trans s2;have g2:=g.same s12;obtain⟨as,h3,h4⟩:=id g2.aO;kd_p;refine ay (s12 _ _ h1) T.cg T.bH fj ?_;kd_p;refine⟨p,_,rfl,ax.of h3,λl hl=>?_⟩;obtain⟨bs,e1,e2⟩:=EO h4 (SM.pE pl (SM.aC od row,0)) (SM.pE pl (SM.aC od row,4294967295));rw[e1];have s3:au H2 (upd H2 l (.lst (bs.map V.ref))):=.new hl;have hlen:=iy.len e2
 have hcl:(mM pl (SM.cnt pl (SM.aC od row,0)) (SM.cnt pl (SM.aC od row,4294967295))).length<=256:=by
  unfold mM;rw[aaH,abh];have:=g.len;omega
 refine jS (((mM pl (SM.cnt pl (SM.aC od row,0)) (SM.cnt pl (SM.aC od row,4294967295))).map λq=> !decide (q.2=n)).map V.bl) (ax.of ah) (by rw[aaa,aaa,aaa,hlen]) (by rw[aaa,hlen,aaC];omega) (λi x y H3 Q3 hx hy s4 q=>?_) λD H3 _ s4 e=>?_
 ·rw[aai] at hx
  cases e3:bs[i]? with
  |none=>rw[e3] at hx;cases hx
  |some z=>
   rw[e3] at hx;obtain⟨q0,e4,hz⟩:=km e2 e3;rw[iE e4 hy] at q;obtain rfl:V.ref z=x:=aac hx;obtain⟨kk,b1,b2⟩:=h_ (bo.same (s3.trans s4) hz);kd_p;refine jv (j:=1) b1 rfl ?_;kd_p;exact q _ 042
 ·kd_p;refine LP _ (ax.of e) ?_;rw[aeQ];exact k _ (s12.trans (s3.trans s4))
def Paired.ins{α β:Type}{F:0059}{l:076}{m:List β}{x:α}{y:β}(r:Paired F l m)(h:F x y)(i:Nat):Paired F (l.take i++x::l.drop i) (m.take i++y::m.drop i):=by
 induction r generalizing i with
 |nil=>rw[ac7,ac7,aeq,aeq];exact .cons h .nil
 |cons r t ih=>
  cases i with
  |zero=>exact .cons h (.cons r t)
  |succ i=>exact .cons r (ih i)
def Paired.del{α β:Type}{F:0059}{l:076}{m:List β}(r:Paired F l m)(i:Nat):Paired F (l.eraseIdx i) (m.eraseIdx i):=by
 induction r generalizing i with
 |nil=>exact .nil
 |cons r t ih=>
  cases i with
  |zero=>exact t
  |succ i=>exact .cons r (ih i)
theorem FG{α β:Type}(g:α->β):∀(l:076) (i:Nat),(l.map g).eraseIdx i=(l.eraseIdx i).map g
 |[],_=>rfl
 |_::_,0=>rfl
 |a::l,i+1=>by
  show g a::(l.map g).eraseIdx i=g a::(l.eraseIdx i).map g;rw[FG g l i]
inductive Di(K:05)(A:aQ)(vs:0012)(H:Hp)(Q:VK)(E:XK):Prop
 |mk(o p r:Addr)(od:0087)(u:Bool)(pl:List Pl)(n:Int)(row:0017)(_:vs=[.ref o,.int n,.ref r])(_:0060)(_:Sq K H r (nV row))(_:068)(_:∀H',Kp [p] H H'->OB K A H' o p od u->iy K H' p (pl.take (SM.cnt pl (SM.aC od row,n))++(SM.aC od row,n)::pl.drop (SM.cnt pl (SM.aC od row,n)))->Q .bS H')
def xq(T:006):024 A.cO 5 "stand" ["self","number","row"] (Di K A):=by
 refine T.Aj.ok pV 02;obtain⟨o,p,r,od,u,pl,n,row,rfl,g,ha,ha2,k⟩:=h;sleep 039;refine gx _ (ae (aB (i:=3) pV.nd rfl 001 (bE 0094 (bM T) 01 0103)) (af (bp (kW (K:=K) rfl aaJ aei PySem.F.type_list_insert Jq 04 (aa (bE 0094 (cx T) 01 (aa 072 ab)) (aa 072 ab)))))) ?_;kd_p;sleep 006;kd_p;refine⟨o,p,r,od,u,n,row,rfl,g.ob,g.gL,ha,ha2,λH1 a s1 hp=>?_⟩;have g1:=g.same s1;have h1':=s1 _ _ h1;obtain⟨as,h3,h4⟩:=id g1.aO;have hal:=iy.len h4;kd_p;refine ay h1' T.cg T.bH fj ?_;refine⟨.inl ⟨rfl,_,ax.of h3⟩,?_⟩;kd_p;refine aF h1' (eO 07) ?_;kd_p;refine⟨o,p,od,u,pl,_,_,rfl,g1.ob,g1.aO,g1.gO,g1.len,hp.at_,?_⟩;kd_p;have hle:=SM.pE pl (SM.aC od row,n);have hlen:=g.len;refine⟨p,_,_,SM.cnt pl (SM.aC od row,n),.ref a,rfl,rfl,h3,rfl,by rw[aaa];omega,by rw[aaa,aaC];omega,?_⟩
 have e:(as.map V.ref).take 0032++V.ref a::(as.map V.ref).drop 0032=(as.take 0032++a::as.drop 0032).map V.ref:=by
  rw[aaP,aaB,abY,abZ]
 rw[e];have kk:=Kp.lst h3 (.lst ((as.take 0032++a::as.drop 0032).map V.ref));refine k _ ((Kp.same s1).trans kk) ?_ ⟨_,ah,?_⟩
 ·obtain⟨dx',c',q1,q2⟩:=g1.ob;exact⟨dx',c',by rw[aj (cv q1 h3 010)];exact q1,bw.kp kk q2⟩
 ·exact Paired.ins (L2.Paired.jE h4 λ_ _ z=>bo.kp kk z) (bo.kp kk hp.at_) _
inductive BG(K:05)(A:aQ)(vs:0012)(H:Hp)(Q:VK)(E:XK):Prop
 |mk(o p r:Addr)(od:0087)(u:Bool)(pl:List Pl)(n:Int)(row:0017)(_:vs=[.ref o,.int n,.ref r])(_:0060)(_:Sq K H r (nV row))(_:068)(_:SM.cnt pl (SM.aC od row,n)<pl.length)(_:∀H',Kp [p] H H'->OB K A H' o p od u->iy K H' p (pl.eraseIdx (SM.cnt pl (SM.aC od row,n)))->Q .bS H')
def xD(T:006):024 A.cO 5 "leave" ["self","number","row"] (BG K A):=by
 refine T.zR.ok xX 02;obtain⟨o,p,r,od,u,pl,n,row,rfl,g,ha,ha2,hlt,k⟩:=h;sleep 039;refine gx _ (af (bp (kW (K:=K) rfl aaJ adB adA K8 04 (aa (bE 0094 (cx T) 01 (aa (bE 0094 (bM T) 01 0103) ab)) ab)))) ?_;kd_p;obtain⟨as0,h30,h40⟩:=id g.aO;refine ay h1 T.cg T.bH fj ?_;refine⟨.inl ⟨rfl,_,ax.of h30⟩,?_⟩;kd_p;sleep 006;kd_p;sleep 006;kd_p;refine⟨o,p,r,od,u,n,row,rfl,g.ob,g.gL,ha,ha2,λH1 a s1 hp=>?_⟩;have g1:=g.same s1;obtain⟨as,h3,h4⟩:=id g1.aO;have hal:=iy.len h4;refine⟨o,p,od,u,pl,_,_,rfl,g1.ob,g1.aO,g1.gO,g1.len,hp.at_,?_⟩;kd_p;have hlen:=g.len;obtain⟨b,hb1,hb2,hb3⟩:=iy.get h4 (aab hlt);refine⟨p,_,_,SM.cnt pl (SM.aC od row,n),_,rfl,rfl,h3,0018,0018,?_,hb2,?_⟩
 ·rw[aaa,hal];have:=seqIndex_of (k:=((SM.cnt pl (SM.aC od row,n):Nat):Int)) (n:=pl.length) 03 03;rw[aa0] at this;exact this
 ·rw[FG];have kk:=Kp.lst h3 (.lst ((as.eraseIdx 0032).map V.ref));refine k _ ((Kp.same s1).trans kk) ?_ ⟨_,ah,?_⟩
  ·obtain⟨dx',c',q1,q2⟩:=g1.ob;exact⟨dx',c',by rw[aj (cv q1 h3 010)];exact q1,bw.kp kk q2⟩
  ·exact Paired.del (L2.Paired.jE h4 λ_ _ z=>bo.kp kk z) _
end Bk
end
namespace Bk
open PySem PyProof.Rows L2
open Standbook (Order Rows Table Mark Cursor Spot)
variable{P:027}{w:066}{K:05}{mg:005}{base:Heap}{A:aQ}
def AU:∀{kvs:031} {i:Nat} {n:Int} {v:V},(kvs.map (·.1)).Nodup->kvs[i]? =some (Sum.inl n,v)->eR kvs (Sum.inl n)=some v:=by
 intro kvs i n v nd h;unfold eR;have hm:=aap h
 cases e:kvs.find? (λ(kv:Key×V)=>decide (kv.1=(Sum.inl n:Key))) with
 |none=>
  have:=acD.mp e _ hm;simp at this
 |some x=>
  have e1:x.1=Sum.inl n:=aar (List.find?_some (p:=λ(kv:Key×V)=>decide (kv.1=(Sum.inl n:Key))) e);have hx:=aec e;obtain⟨j,hj⟩:=aas.mp hx;have a1:(kvs.map (·.1))[i]? =some (Sum.inl n):=by rw[aai,h];rfl
  have a2:(kvs.map (·.1))[j]? =some (Sum.inl n):=by rw[aai,hj,<-e1];rfl
  have:i=j:=qM nd a1 a2;subst this;rw[h] at hj;injection hj with hj;rw[<-hj];rfl
def LD{H:Hp}{kvs:031}{rs:Rows}(r:0071):kvs.map (·.1)=rs.map λx=>(Sum.inl (x.1:Int):Key):=by
 induction r with
 |nil=>rfl
 |cons r t ih=>rw[aaB,aaB,ih,r.1]
def Kh{H:Hp}{kvs:031}{rs:Rows}(r:0071)(g:SM.Good rs):(kvs.map (·.1)).Nodup:=by
 rw[LD r];have:=g.nd;refine aaX.mpr ((aaX.mp this).imp λ{a b} q e=>q ?_);have:=aci e;exact ab1 this
def iz{H:Hp}{kvs:031}{rs:Rows}(r:0071)(g:SM.Good rs){n:Nat}{row:0017}(h:(n,row)∈rs):∃a,eR kvs 0006=some 046/\bw K H a (nV row):=by
 obtain⟨i,hi⟩:=aas.mp h;obtain⟨kv,h1,h2,a,h3,h4⟩:=vP r hi;refine⟨a,AU (Kh r g) (i:=i) ?_,h4⟩;rw[h1,<-h3,<-h2]
def iG{H:Hp}{kvs:031}{rs:Rows}(r:0071){n:Nat}(h:¬n∈rs.map (·.1)):eR kvs 0006=none:=by
 unfold eR;rw[adn,acD];intro kv hkv e;have e:=aar e;obtain⟨i,hi⟩:=aas.mp hkv;obtain⟨x,h1,h2,_⟩:=km r hi;rw[e] at h2;have:=ab1 (aci h2);exact h (aaw.mpr ⟨x,aap h1,this.symm⟩)
open Classical in noncomputable def mG (H:Hp) (a:Addr):Pl:=if h:∃q,md H a q then Classical.choose h else([],0)
def E1{H:Hp}{a:Addr}{q:Pl}(h:md H a q):mG H a=q:=by
 unfold mG;have hx:∃q,md H a q:=⟨q,h⟩;rw[dif_pos hx];exact md.inj (Classical.choose_spec hx) h
def O4{H:Hp}{as:016}{qs:List Pl}(r:Paired (λa q=>md H a q) as qs):as.map (mG H)=qs:=by
 induction r with
 |nil=>rfl
 |cons r t ih=>rw[aaB,ih,E1 r]
def PM{l:List Pl}(h1:l.Pairwise λx y=>HP.a_ y x=false)(h2:l.Nodup):SM.jB l:=by
 refine(h1.and h2).imp λ{a b} q=>?_
 cases e:HP.a_ a b with
 |true=>rfl
 |false=>exact absurd (HP.v9 _ _ e q.1) q.2
def Qe{od:0087}{rs:Rows}(g:SM.Good rs):(rs.map (SM.cZ od)).Nodup:=by
 refine aaX.mpr ((aaX.mp g.nd).imp λ{a b} q e=>q ?_);have:(a.1:Int)=(b.1:Int):=aby Prod.snd e;exact ab1 this
inductive si(K:05)(A:aQ)(vs:0012)(H:Hp)(Q:VK)(E:XK):Prop
 |mk(o p d:Addr)(od:0087)(u:Bool)(rows:Rows)(_:vs=[.ref o,.ref d])(_:OB K A H o p od u)(_:oF od)(_:fx K H d rows)(_:SM.Good rows)(_:(∀x∈rows,Standbook.isRow x.2=true))(_:rows.length<=256)(_:∀H' p',Kp [o] H H'->H p'=none->OB K A H' o p' od u->iy K H' p' (SM.aO od rows)->Q .bS H')
def ma(T:006):024 A.cO 5 "stand_all" ["self","rows"] (si K A):=by
 refine T.uJ.ok je 02;obtain⟨o,p,d,od,u,rows,rfl,hob,hcod,⟨kvs,rs,hd,hperm,hrel⟩,hg,hrow,hlen,k⟩:=h;have hgr:SM.Good rs:=hg.perm hperm;have hkl:kvs.length<=256:=by rw[aaY hrel,hperm.length_eq];exact hlen
 refine gx _ (af (bR (K:=K) rfl 0094 (aI (IL (K:=K) rfl hr.units) rfl T.Df yO (aa (ER (gB (own:=[("number",2)]) rfl je.nd (Fm 014) (c_ (by show gP ["self","rows","number"] (ag jD) _ _=true;decide+kernel)) (λ_ _ _ _ _=>bC (i:=2) je.nd rfl 001 0044) 067 (λ_ _ _ _ _=>(bE 0094 (bM T) 01 (aa 034 (aa (gG (dw hr) 014 034 019) ab)))))) ab)) rfl)) ?_;kd_p;refine Jg hd trivial λod'=>?_
 have nod:o≠d:=by
  obtain⟨dx,c,h1,_⟩:=hob;exact cv h1 hd 010
 have ktup:∀{b:Addr} {xs:0012},H b=some 0064->upd H d (.bK od' 029) b=some 0064:=λ{b xs} e=>by rw[aj (cv e hd 010)];exact e
 have kfrz:∀{b:Addr} {ob:Obj} {uu:HO},H b=some (.bK ob uu)->upd H d (.bK od' 029) b=some (.bK ob uu):=λ{b ob uu} e=>by rw[aj (cv e hd 010)];exact e
 have ksq:∀{b:Addr} {xs:0012},bw K H b xs->bw K (upd H d (.bK od' 029)) b xs:=λ{b xs} e=>by
  rcases e with(e|⟨ob,e⟩)|e
  ·exact .inl (.inl (ktup e))
  ·exact .inl (.inr ⟨ob,kfrz e⟩)
  ·exact .inr e
 have ob1:OB K A (upd H d (.bK od' (.dK kvs))) o p od u:=by
  obtain⟨dx,c,h1,h2⟩:=hob;exact⟨dx,c,by rw[aj nod];exact h1,ksq h2⟩
 kd_p;refine LO (o:=od') (kvs:=kvs) (λH y kv=>∃(a:Addr) (x:020),y= .ref a/\kv.1=Sum.inl (x.1:Int)/\x∈rs/\md H a (SM.cZ od x)) ?_ (by rw[aaC];omega) ah (λi kv H1 Q1 hkv s1 q=>?_) (λD H1 ys hD s1 e1 r1=>?_)
 ·rintro H1 H2 y kv ht ⟨a,x,e1,e2,e3,kk,e4,e5⟩;exact⟨a,x,e1,e2,e3,kk,ht _ _ e4,ht _ _ e5⟩
 ·obtain⟨x,hx,hx1,a,ha,hsq⟩:=km hrel hkv;obtain⟨dx,c,h1,h2⟩:=(ob1.same s1);obtain⟨kk,kv2⟩:=kv;subst hx1 ha;kd_p;sleep 006;kd_p;refine MA (s1 _ _ ah) (AU (Kh hrel hgr) hkv) ?_;kd_p;have hxm:x∈rows:=hperm.mem_iff.mp (aap hx);refine⟨o,p,a,od,u,_,x.2,rfl,ob1.same s1,hcod,.inr (s1.tup (ksq hsq)),hrow x hxm,λH2 b s2 hb=>?_⟩;exact q H2 _ s2 ⟨b,x,rfl,rfl,aap hx,hb⟩
 ·have hD':H D=none:=by
   by_cases e:D=d
   ·rw[e,ah] at hD;cases hD
   ·rw[aj e] at hD;exact hD
  have nDd:D≠d:=λe=>by rw[e,ah] at hD;cases hD
  refine⟨s1 _ _ ah,?_⟩
  obtain⟨as,rfl,r2⟩:∃as:List Addr,ys=as.map V.ref/\Paired (λa q=>md H1 a q) as (rs.map (SM.cZ od)):=by
   have key:∀{ys:0012} {kvs':031} {rs':Rows},(∀x∈rs',x∈rs)->Paired (λy (kv:Key×V)=>∃(a:Addr) (x:020),y= .ref a/\kv.1=Sum.inl (x.1:Int)/\x∈rs/\md H1 a (SM.cZ od x)) ys kvs'->Paired (eX K H) kvs' rs'->∃as:List Addr,ys=as.map V.ref/\Paired (λa q=>md H1 a q) as (rs'.map (SM.cZ od)):=by
    intro ys kvs' rs' hm r
    induction r generalizing rs' with
    |nil=>
     intro q;cases q;exact⟨[],rfl,.nil⟩
    |cons r t ih=>
     intro q
     cases q with
     | @cons _ x' _ xs' q1 q2=>
       obtain⟨as,e1,e2⟩:=ih (rs':=xs') (λy hy=>hm y (aag _ hy)) q2;obtain⟨a,x,f1,f2,f3,f4⟩:=r
       have hx:x=x':=by
        have e3:=q1.1;rw[f2] at e3;have e4:x.1=x'.1:=ab1 (aci e3);have m2:=hm x' aae;have:=SM.wJ hgr (n:=x.1) (r:=x.2) (r':=x'.2) f3 (by rw[e4];exact m2);exact aep e4 this
       subst hx;exact⟨a::as,by rw[f1,e1];rfl,.cons f4 e2⟩
   exact key (λx hx=>hx) r1 hrel
  have alen:as.length<=256:=by
   have:=aaY r2;rw[aaa,hperm.length_eq] at this;omega
  have apk:=O4 r2
  have amem:∀a∈as,md H1 a (mG H1 a):=λa ha=>by
   obtain⟨i,hi⟩:=aas.mp ha;obtain⟨q,_,hq⟩:=km r2 hi;rw[E1 hq];exact hq
  have sH:au H (upd H1 d 029):=λb ob e=>by
   by_cases hb:b=d
   ·subst hb;rw[hd] at e;cases e;exact ah
   ·rw[aj hb];exact s1 _ _ (by rw[aj hb];exact e)
  have kT:∀{b:Addr} {xs:0012},H1 b=some 0064->upd H1 d 029 b=some 0064:=λ{b xs} e=>by
   have hf:=s1 _ _ (ah (H:=H) (a:=d) (o:=HO.bK od' 029));rw[aj (cv e hf 010)];exact e
  have amem2:∀a∈as,md (upd H1 d 029) a (mG H1 a):=λa ha=>by
   obtain⟨kk,e4,e5⟩:=amem a ha;exact⟨kk,kT e4,kT e5⟩
  kd_p;refine⟨D,as,mG H1,rfl,ax.of (by rw[aj nDd];exact e1),λa ha=>(amem2 a ha).at_,λbs p' hb1 hb2 hp'=>?_⟩;have sH2:au H 0028:=sH.trans (.new hp');obtain⟨dx,c,h1,h2⟩:=hob.same sH2;kd_p;refine bL h1 T.cg T.bH 0057 ?_;rw[Ik];have kk:=Kp.ins h1 (.ins A.cO dx (fO c p' u));refine k _ p' ((Kp.same sH2).trans kk) (sH.free hp') ⟨dx,c,ah,bw.kp kk h2⟩ ⟨bs,?_,?_⟩
  ·have np:p'≠o:=cv ah h1 010;rw[aj np,ah]
  ·have e2:bs.map (mG H1)=SM.aO od rows:=by
    refine SM.wQ od hg ?_ ?_
    ·refine PM (aaX.mpr hb2) ?_;have p1:(bs.map (mG H1)).Perm (rs.map (SM.cZ od)):=by rw[<-apk];exact hb1.map _
     exact p1.nodup_iff.mpr (Qe hgr)
    ·have p1:(bs.map (mG H1)).Perm (rs.map (SM.cZ od)):=by rw[<-apk];exact hb1.map _
     exact p1.trans (hperm.map _)
   rw[<-e2];have s3:au (upd H1 d 029) 0028:=.new hp';have all:∀a∈bs,bo K (upd 0028 o (.ins A.cO dx (fO c p' u))) 046 (mG H1 a):=λa ha=>bo.kp kk (bo.same s3 (amem2 a (hb1.mem_iff.mp ha)).at_);clear hb1 hb2 e2
   have gen:∀l:List Addr,(∀a∈l,bo K (upd 0028 o (.ins A.cO dx (fO c p' u))) 046 (mG H1 a))->Paired (λa q=>bo K (upd 0028 o (.ins A.cO dx (fO c p' u))) 046 q) l (l.map (mG H1)):=by
    intro l
    induction l with
    |nil=>exact λ_=>.nil
    |cons a l ih=>exact λhl=>.cons (hl a aae) (ih λb hb=>hl b (aag _ hb))
   exact gen bs all
end Bk
namespace Bk
open PySem PyProof.Rows L2
open Standbook (Order Rows Table Mark Cursor Spot)
variable{P:027}{w:066}{K:05}{mg:005}{base:Heap}{A:aQ}
def fI(A:aQ)(H:Hp)(r a:Addr)(i:Nat):Prop:=∃dx,H r=some (.ins A.cR dx (fR a (i:Nat)))
def fI.kp{S:016}{H H':Hp}{r a:Addr}{i:Nat}(k:0089)(hs:r∉S)(h:fI A H r a i):fI A H' r a i:=by
 obtain⟨dx,e⟩:=h;exact⟨dx,k.keep _ _ e hs⟩
inductive pW(A:aQ)(vs:0012)(H:Hp)(Q:VK)(E:XK):Prop
 |mk(x dx a:Addr)(_:vs=[.ref x,.ref a])(_:H x=some (.ins A.cR dx []))(_:∀H',Kp [x] H H'->fI A H' x a 0->Q .bS H')
def zf(T:006):(zt P w K mg base) A.cR 1 "Reader" ["self","numbers"] (pW A):=by
 refine T.zN.ok yt 02;obtain⟨x,dx,a,rfl,hx,k⟩:=h;refine gx _ (ae (bR (K:=K) rfl 0094 014 rfl) (af (bR (K:=K) rfl 0094 aA rfl))) ?_;kd_p;refine bL hx T.fL T.ig (lt1000 sy) ?_;kd_p;refine bL ah T.fL T.di (lt1000 (iS sy)) ?_;rw[kn,fh,aV 07,fh];exact k _ (Kp.ins hx _) ⟨dx,ah⟩
inductive xl(K:05)(A:aQ)(vs:0012)(H:Hp)(Q:VK)(E:XK):Prop
 |mk(r a:Addr)(ns:015)(i:Nat)(_:vs=[.ref r])(_:fI A H r a i)(_:ax K H a (nV ns))(_:Q (.bl (decide (ns.length<=i))) H)
def uL(T:006):024 A.cR 1 "is_done" ["self"] (xl K A):=by
 refine T.vv.ok uE 02;obtain⟨r,a,ns,i,rfl,⟨dx,h1⟩,h2,k⟩:=h;refine gx _ (af (ai (ee qD 04 0011 077))) ?_;kd_p;refine ay h1 T.fL T.di iX ?_;kd_p;refine ay h1 T.fL T.ig qp ?_;kd_p;refine cf (.inl h2) ?_;kd_p;rw[aR];have e:decide ((ns.length:Int)<=(i:Int))=decide (ns.length<=i):=aa2.mpr 03;rw[e];exact k
inductive lD(K:05)(A:aQ)(vs:0012)(H:Hp)(Q:VK)(E:XK):Prop
 |mk(r a:Addr)(ns:015)(i n:Nat)(_:vs=[.ref r])(_:fI A H r a i)(_:ax K H a (nV ns))(_:ns[i]? =some n)(_:∀H',Kp [r] H H'->fI A H' r a (i+1)->Q (.int (n:Nat)) H')
def az(T:006):024 A.cR 1 "read_number" ["self"] (lD K A):=by
 refine T.qS.ok kb 02;obtain⟨r,a,ns,i,n,rfl,⟨dx,h1⟩,h2,hn,k⟩:=h;refine gx _ (ae (aB (i:=1) kb.nd rfl 001 (cj 043 04 04 019)) (ae (bR (K:=K) rfl 0094 (bB gh 04 aA) rfl) (af (ai 014)))) ?_;kd_p;refine ay h1 T.fL T.ig qp ?_;kd_p;refine ay h1 T.fL T.di iX ?_;kd_p;refine eT h2 (v:=.int n) (by unfold nV;rw[aai,hn];rfl) ?_;kd_p;refine ay h1 T.fL T.di iX ?_;kd_p;refine bL h1 T.fL T.di (by show 2<1000;decide) ?_;rw[u_];kd_p;exact k _ (Kp.ins h1 _) ⟨dx,ah⟩
def HK(ns:015){i n:Nat}(h:i+n<=ns.length):lL (nV ns) (some (i:Int)) (some ((i:Int)+(n:Int)))=nV ((ns.drop i).take n):=by
 have e:(i:Int)+(n:Int)=((i+n:Nat):Int):=by omega
 rw[e,E9 _ (by rw[aR];omega) (by rw[aR];omega)];unfold nV;rw[<-abZ,<-abY]
 congr 2
 omega
inductive oH(K:05)(A:aQ)(vs:0012)(H:Hp)(Q:VK)(E:XK):Prop
 |mk(r a:Addr)(ns:015)(i n:Nat)(_:vs=[.ref r,.int n])(_:fI A H r a i)(_:ax K H a (nV ns))(_:i+n<=ns.length)(_:∀H' l,Kp [r] H H'->fI A H' r a (i+n)->H l=none->H' l=some (.lst (nV ((ns.drop i).take n)))->Q (.ref l) H')
def ie(T:006):024 A.cR 1 "read_numbers" ["self","length"] (oH K A):=by
 refine T.pD.ok jK 02;obtain⟨r,a,ns,i,n,rfl,⟨dx,h1⟩,h2,hn,k⟩:=h;refine gx _ (ae (aB (i:=2) jK.nd rfl 001 04) (ae (bR (K:=K) rfl 0094 (bB gh 034 014) rfl) (af (ai (lx (ko (K:=K) rfl) 04 (gR 034) (gR 04)))))) ?_;kd_p;refine ay h1 T.fL T.di iX ?_;kd_p;refine bL h1 T.fL T.di (by show 2<1000;decide) ?_;rw[u_];have kk:=Kp.ins h1 (.ins A.cR dx (fR a ((i:Int)+(n:Int))));have h1':upd H r (.ins A.cR dx (fR a ((i:Int)+(n:Int)))) r=some (.ins A.cR dx (fR a ((i:Int)+(n:Int)))):=ah
 have h2':ax K (upd H r (.ins A.cR dx (fR a ((i:Int)+(n:Int))))) a (nV ns):=by
  rcases h2 with(h|⟨o,h⟩)|h
  ·exact .inl (.inl (by rw[aj (cv h h1 (by intro z;cases z))];exact h))
  ·exact .inl (.inr ⟨o,kk.eM _ _ _ h⟩)
  ·exact .inr h
 kd_p;refine ay h1' T.fL T.ig qp ?_;kd_p;refine ay h1' T.fL T.di iX ?_;kd_p;refine⟨a,_,rfl,h2',λl hl=>?_⟩;rw[HK ns hn];have hlr:l≠r:=λe=>by rw[e,ah] at hl;cases hl
 have hl':H l=none:=by rw[aj hlr] at hl;exact hl
 refine k _ l (kk.trans (Kp.same (.new hl))) ⟨dx,?_⟩ hl' ah;rw[aj (abl hlr),ah];have e:(i:Int)+(n:Int)=((i+n:Nat):Int):=by omega
 rw[e]
def ax.Rt{H H':Hp}{r a C dx:Addr}{fs:064}{xs:0012}(hr:H r=some (.ins C dx fs))(k:Kp [r] H H')(h:ax K H a xs):ax K H' a xs:=by
 rcases h with(h|⟨o,h⟩)|h
 ·exact .inl (.inl (k.keep _ _ h λz=>by rw[aT z,hr] at h;cases h))
 ·exact .inl (.inr ⟨o,k.eM _ _ _ h⟩)
 ·exact .inr h
inductive nv(K:05)(A:aQ)(vs:0012)(H:Hp)(Q:VK)(E:XK):Prop
 |mk(r a:Addr)(ns:015)(i n:Nat)(_:vs=[.ref r])(_:fI A H r a i)(_:ax K H a (nV ns))(_:ns[i]? =some n)(_:i+1+n<=ns.length)(_:∀H' l,Kp [r] H H'->fI A H' r a (i+1+n)->H l=none->H' l=some (.lst (nV ((ns.drop (i+1)).take n)))->Q (.ref l) H')
def aM(T:006):024 A.cR 2 "read_list" ["self"] (nv K A):=by
 refine T.t9.ok rU 02;obtain⟨r,a,ns,i,n,rfl,hrd,h2,hn,hlen,k⟩:=h;obtain⟨dx,h1⟩:=id hrd;refine gx _ (af (ai (bE 0094 (ie T) 01 (aa (bf 0094 (az T) 01) ab)))) ?_;kd_p;refine aF h1 (u9 07) ?_;kd_p;refine aF h1 (u9 07) ?_;kd_p;refine⟨r,a,ns,i,n,rfl,hrd,h2,hn,λH1 k1 r1=>?_⟩;refine⟨r,a,ns,i+1,n,rfl,r1,ax.Rt h1 k1 h2,hlen,λH2 l k2 r2 hl e=>?_⟩
 have hlr:l∉[r]:=λhm=>by
  have hm:l=r:=aT hm;obtain⟨dx1,e1⟩:=r1;rw[<-hm,hl] at e1;cases e1
 exact k H2 l (k1.trans k2) r2 (k1.free hl hlr) e
end Bk
section
namespace L2
open PySem PySem.Spec PyProof.Rows
section
variable{nx bk ct:St->Hp->Prop}{rt Q:VK}{σ:St}{H H1:Hp}{te ta tb tc tl td tv ty:TE}{K:05}{t:TS}{tA:TA}{wi:TI}{g:TG}
def kFor(g:TG)(tb:TS)(D:Ends)(σ:St)(J:It)(H1:Hp):Prop:=∃W:Nat->Nat->St->Hp->Prop,(∃m,W 0 m σ H1)/\∀i m σ H,W i m σ H->
 (J.stop i H/\D.nx σ H)\/(J.go i H/\∃N:St->Hp->Prop,080/\∀x H',J.ke i H x H'->g x σ H' λσ2 H2=>tb {D with nx:=N,ct:=N,bk:=D.nx} σ2 H2)
def dX{D:Ends}(h:wi σ H λJ H1=>kFor g t D σ J H1):Og wi g t D σ H:=h
def bV{R:It->Hp->Prop}(h:tl σ H λx H1=>∃a,x= .ref a/\(∃xs,ax K H1 a xs)/\R (kE K a) H1):vR K tl σ H R:=h
def cP{R:It->Hp->Prop}(h:tl σ H λx H1=>∃a,x= .ref a/\(∃xs,bw K H1 a xs)/\R (mR K a) H1):Hn K tl σ H R:=h
def b9{R:It->Hp->Prop}(h:tA σ H λvs H1=>∃a xs,vs=[.ref a]/\ax K H1 a xs/\R (LY K a) H1):Gr K tA σ H R:=h
def cQ{R:It->Hp->Prop}(h:tA σ H λvs H1=>∃(a:Addr) (xs:0012),vs=[.ref a]/\ax K H1 a xs/\R (LM K a 009) H1):Lh K tA σ H R:=h
def cb{R:It->Hp->Prop}(h:tA σ H λvs H1=>∃j:Int,vs=[.int j]∧-(2 ^ 62)<=j/\j<2 ^ 62/\R (lV 0 j.toNat) H1):Gh tA σ H R:=h
def b_{R:It->Hp->Prop}(h:td σ H λx H1=>∃d o kvs,x= .ref d/\H1 d=some (.bK o 029)/\R (LS d o kvs) H1):Ms td σ H R:=h
def bX(h:tv σ H λv H1=>td σ H1 λx H2=>ty σ H2 λy H3=>∃a H4,x= .ref a/\sX H3 a y v H4/\nx σ H4):Mq td ty tv 096 σ H:=h
def cU(h:td σ H λx H1=>∃a,x= .ref a/\NK H1 a/\ty σ H1 λy H2=>∃kvs k v,H2 a=some 029/\y=kV k/\eR kvs k=some v/\Q v (upd H2 a (.dK (gp kvs k)))):IY td ty σ H Q:=h
def y0{X:Cx}{e:Expr}{p pos tpos:Pos}{elts:0062}{kk:Nat}(hK:X.K=K)(hg:Gl X "enumerate")(hm:X.mg "enumerate"=none)(ha:PA X [e] tA)(hs:starEach [e] X.env=[037]:=by rfl):PI X (.Tuple elts kk tpos) (.Call (.Name "enumerate" p) [e] [] pos) (Gr K tA):=hK▸Na hg hm ha hs
def mi{K:05}{a:Addr}{xs:0012}{g:TG}{tb:TS}{D:Ends}{σ:St}{H:Hp}(Pv:0076)(h0:Pv 0 σ H)(hl:∀i σ H,i<=009->Pv i σ H->ax K H a xs)(hs:∀i x σ H,xs[i]? =some x->Pv i σ H->g x σ H λσ2 H2=>tb {D with nx:=Pv (i+1),ct:=Pv (i+1),bk:=D.nx} σ2 H2)(hd:0029):kFor g tb D σ (kE K a) H:=K2 Pv h0 hl hs hd
def BZ{K:05}{a:Addr}{xs:0012}{g:TG}{tb:TS}{D:Ends}{σ:St}{H:Hp}(Pv:0076)(h0:Pv 0 σ H)(hl:∀i σ H,i<=009->Pv i σ H->bw K H a xs)(hs:∀i x σ H,xs[i]? =some x->Pv i σ H->g x σ H λσ2 H2=>tb {D with nx:=Pv (i+1),ct:=Pv (i+1),bk:=D.nx} σ2 H2)(hd:0029):kFor g tb D σ (mR K a) H:=MS Pv h0 hl hs hd
def qw{lo:Int}{n:Nat}{g:TG}{tb:TS}{D:Ends}{σ:St}{H:Hp}(Pv:0076)(h0:Pv 0 σ H)(hs:∀i σ H,i<n->Pv i σ H->g (.int (lo+i)) σ H λσ2 H2=>tb {D with nx:=Pv (i+1),ct:=Pv (i+1),bk:=D.nx} σ2 H2)(hd:∀σ H,Pv n σ H->D.nx σ H):kFor g tb D σ (lV lo n) H:=IS Pv h0 hs hd
def yA{K:05}{a:Addr}{xs:0012}{g:TG}{tb:TS}{D:Ends}{σ:St}{H:Hp}(Pv:0076)(h0:Pv 0 σ H)(hl:∀i σ H,i<=009->Pv i σ H->ax K H a xs)(hs:∀i x σ H T,xs[i]? =some x->Pv i σ H->H T=none->g (.ref T) σ (upd H T (.tup [.int (i:Nat),x])) λσ2 H2=>tb {D with nx:=Pv (i+1),ct:=Pv (i+1),bk:=D.nx} σ2 H2)(hd:0029):kFor g tb D σ (LY K a) H:=by
 sleep 08
 ·refine .inr ⟨⟨xs,xs[i],q,by simp[hlt]⟩,Pv (i+1),λσ' H' p'=>0098,λx H' y=>?_⟩;obtain⟨T,z,rfl,hT,rfl,hz⟩:=y;exact hs i z σ H T (hz xs q) p hT
 ·have e:i=009:=by omega
  subst e;exact .inl ⟨⟨xs,q,aay _⟩,hd σ H p⟩
def KW{K:05}{a:Addr}{xs:0012}{g:TG}{tb:TS}{D:Ends}{σ:St}{H:Hp}(Pv:0076)(h0:Pv 0 σ H)(hl:∀i σ H,i<=009->Pv i σ H->ax K H a xs)(hs:∀i x σ H,xs.reverse[i]? =some x->Pv i σ H->g x σ H λσ2 H2=>tb {D with nx:=Pv (i+1),ct:=Pv (i+1),bk:=D.nx} σ2 H2)(hd:0029):kFor g tb D σ (LM K a 009) H:=by
 sleep 08
 ·have hi2:009-1-i<009:=by omega
  refine .inr ⟨⟨hlt,xs,xs[009-1-i],q,aab hi2⟩,Pv (i+1),λσ' H' p'=>0098,λx H' y=>?_⟩;obtain⟨rfl,hz⟩:=y;refine hs i x σ _ ?_ p;rw[List.getElem?_reverse hlt];exact hz xs q
 ·have e:i=009:=by omega
  subst e;exact .inl ⟨aay _,hd σ H p⟩
def FX{i j:Nat}{T:Addr}{x y:V}{q:St->Hp->Prop}(h:bw K H T [x,y])(k:q ((σ.set i (some x)).set j (some y)) H):Lm K 2 (Gx (fB i) (Gx (fB j) PK)) (.ref T) σ H q:=
 ⟨T,[x,y],rfl,h,rfl,x,[y],rfl,y,[],rfl,rfl,k⟩
end
end L2
namespace Bk
open PySem PyProof.Rows L2
open Standbook (Order Rows Table Mark Cursor Spot)
variable{P:027}{w:066}{K:05}{mg:005}{base:Heap}{A:aQ}
inductive pQ(A:aQ)(vs:0012)(H:Hp)(Q:VK)(E:XK):Prop
 |mk(x dx:Addr)(k:Int)(f:Bool)(_:vs=[.ref x,.int k,.bl f])(_:H x=some (.ins A.cC dx []))(_:∀H',Kp [x] H H'->H' x=some (.ins A.cC dx (fC k f A.pF))->Q .bS H')
def IM(T:006):(zt P w K mg base) A.cC 1 "Cursor" ["self","k","follows"] (pQ A):=by
 refine T.zP.ok xJ 02;obtain⟨x,dx,k,ff,rfl,hx,kk⟩:=h;refine gx _ (ae (bR (K:=K) rfl 0094 014 rfl) (ae (bR (K:=K) rfl 0094 034 rfl) (af (bR (K:=K) rfl 0094 (HG T.kO rfl) rfl)))) ?_;kd_p;refine bL hx T.bQ T.gE (lt1000 sy) ?_;kd_p;refine bL ah T.bQ T.mO (lt1000 (iS sy)) ?_;kd_p;refine bL ah T.bQ T.b7 (lt1000 (iS (iS sy))) ?_;rw[kn,kn,fh,aV 07,fh,aV 07,aV 07,fh];exact kk _ (Kp.ins hx _) ah
inductive nQ(K:05)(A:aQ)(vs:0012)(H:Hp)(Q:VK)(E:XK):Prop
 |mk(x dx d:Addr)(rows:Rows)(n c:Int)(_:vs=[.ref x,.ref d,.int n,.int c])(_:H x=some (.ins A.cM dx []))(_:fx K H d rows)(_:∀H' d',Kp [x] H H'->H d'=none->H' x=some (.ins A.cM dx (fM d' n c))->fx K H' d' rows->Q .bS H')
def M6(T:006):(zt P w K mg base) A.cM 1 "Mark" ["self","rows","next_number","changes"] (nQ K A):=by
 refine T.Et.ok A0 02;obtain⟨x,dx,d,rows,n,c,rfl,hx,⟨kvs,rs,hd,hp,hrel⟩,k⟩:=h;refine gx _ (ae (bR (K:=K) rfl 0094 (fi EF rfl T.J7 F1 0096) rfl) (ae (bR (K:=K) rfl 0094 034 rfl) (af (bR (K:=K) rfl 0094 072 rfl)))) ?_;kd_p;refine⟨d,kvs,rfl,hd,λp hp0=>?_⟩;have nx:x≠p:=aG hx hp0;kd_p;refine bL (by rw[aj nx];exact hx) T.m8 T.sA (lt1000 sy) ?_;kd_p;refine bL ah T.m8 T.lg (lt1000 (iS sy)) ?_;kd_p;refine bL ah T.m8 T.ow (lt1000 (iS (iS sy))) ?_;rw[kn,kn,fh,aV 07,fh,aV 07,aV 07,fh];have s1:au H (upd H p 029):=.new hp0;have kk:=(Kp.same (S:=[x]) s1).trans (Kp.ins (H:=upd H p 029) (p:=x) (by rw[aj nx];exact hx) (.ins A.cM dx [("rows",.ref p),("next_number",.int n),("changes",.int c)]));refine k _ p kk hp0 ah ⟨kvs,rs,?_,hp,L2.Paired.jE hrel λ_ _ z=>z.kp kk⟩;rw[aj (abl nx),ah]
def qy{t C dx p:Addr}{H H1:Hp}{fs fs':064}{o:HO}(k:Kp [t] H H1)(h1:H1 t=some (.ins C dx fs))(hp:H1 p=none):Kp [t] H (upd (upd H1 p o) t (.ins C dx fs'))/\upd (upd H1 p o) t (.ins C dx fs') t=some (.ins C dx fs')/\upd (upd H1 p o) t (.ins C dx fs') p=some o/\(∀b u,b≠t->H1 b=some u->upd (upd H1 p o) t (.ins C dx fs') b=some u)/\H p=none/\p≠t:=by
 have np:p≠t:=λe=>by rw[e,h1] at hp;cases hp
 refine⟨k.trans ((Kp.same (.new hp)).trans (Kp.ins (C:=C) (dx:=dx) (fs:=fs) (by rw[aj (abl np)];exact h1) _)),ah,by rw[aj np,ah],λb u hb e=>by rw[aj hb,aj (aG e hp)];exact e,k.free hp (by simpa using np),np⟩
structure Au(A:aQ)(H:Hp)(t dx d ol cd ml:Addr)(n ch:Int):Prop where
 obj:H t=some (.ins A.cT dx (fT d n ol cd ml ch))
 hd:H d=some (.dK [])
 iU:H ol=some 0035
 gD:H cd=some (.dK [])
 gJ:H ml=some 0035
 n1:d≠cd
 n2:ol≠ml
inductive CM(A:aQ)(vs:0012)(H:Hp)(Q:VK)(E:XK):Prop
 |mk(t dx:Addr)(fs:064)(_:vs=[.ref t])(_:H t=some (.ins A.cT dx fs))(_:(fs=[]\/∃d n ol cd ml ch,fs=fT d n ol cd ml ch))(_:∀H' d ol cd ml,Kp [t] H H'->H d=none->H ol=none->H cd=none->H ml=none->Au A H' t dx d ol cd ml 1 0->Q .bS H')
def M9:∀(fs:064),(fs=[]\/∃d n ol cd ml ch,fs=fT d n ol cd ml ch)->∀(d ol cd ml:Addr) (n ch:Int),bc "changes" (.int ch) (bc "marks" (.ref ml) (bc "cursors" (.ref cd) (bc "orders" (.ref ol) (bc "next_number" (.int n) (bc "rows" (.ref d) fs)))))=fT d n ol cd ml ch:=by
 intro fs h d ol cd ml n ch;rcases h with rfl|⟨d',n',ol',cd',ml',ch',rfl⟩
 ·have e2:bc "next_number" (V.int n) [(("rows":Str),V.ref d)]=[(("rows":Str),V.ref d),(("next_number":Str),V.int n)]:=by rw[aV (by decide+kernel),fh]
  have e3:bc "orders" (V.ref ol) [(("rows":Str),V.ref d),(("next_number":Str),V.int n)]=[(("rows":Str),V.ref d),(("next_number":Str),V.int n),(("orders":Str),V.ref ol)]:=by rw[aV (by decide+kernel),aV (by decide+kernel),fh]
  have e4:bc "cursors" (V.ref cd) [(("rows":Str),V.ref d),(("next_number":Str),V.int n),(("orders":Str),V.ref ol)]=[(("rows":Str),V.ref d),(("next_number":Str),V.int n),(("orders":Str),V.ref ol),(("cursors":Str),V.ref cd)]:=by rw[aV (by decide+kernel),aV (by decide+kernel),aV (by decide+kernel),fh]
  have e5:bc "marks" (V.ref ml) [(("rows":Str),V.ref d),(("next_number":Str),V.int n),(("orders":Str),V.ref ol),(("cursors":Str),V.ref cd)]=[(("rows":Str),V.ref d),(("next_number":Str),V.int n),(("orders":Str),V.ref ol),(("cursors":Str),V.ref cd),(("marks":Str),V.ref ml)]:=by
   rw[aV (by decide+kernel),aV (by decide+kernel),aV (by decide+kernel),aV (by decide+kernel),fh]
  have e6:bc "changes" (V.int ch) [(("rows":Str),V.ref d),(("next_number":Str),V.int n),(("orders":Str),V.ref ol),(("cursors":Str),V.ref cd),(("marks":Str),V.ref ml)]=fT d n ol cd ml ch:=by
   rw[aV (by decide+kernel),aV (by decide+kernel),aV (by decide+kernel),aV (by decide+kernel),aV (by decide+kernel),fh];rfl
  rw[fh,e2,e3,e4,e5,e6]
 ·rw[xN,pH,yJ,GX,KS,m6]
def NG{fs:064}(h:fs=[]\/∃d n ol cd ml ch,fs=fT d n ol cd ml ch):fs.length<=6:=by
 rcases h with rfl|⟨d',n',ol',cd',ml',ch',rfl⟩
 ·exact aaT _
 ·exact aay 6
def lA(T:006):024 A.cT 1 "begin" ["self"] (CM A):=by
 refine T.Ai.ok yi 02;obtain⟨t,dx,fs,rfl,ht,hfs,k⟩:=h;have hl:=NG hfs;refine gx _ (ae (bR (K:=K) rfl 0094 C8 rfl) (ae (bR (K:=K) rfl 0094 aA rfl) (ae (bR (K:=K) rfl 0094 (bu ab) rfl) (ae (bR (K:=K) rfl 0094 C8 rfl) (ae (bR (K:=K) rfl 0094 (bu ab) rfl) (af (bR (K:=K) rfl 0094 aA rfl))))))) ?_;kd_p;intro d hd;kd_p;have nd:t≠d:=aG ht hd;refine bL (by rw[aj nd];exact ht) T.ak T.aP (lt1000 hl) ?_;obtain⟨a1,a2,a3,a4,a5,a6⟩:=qy (o:=.dK []) (fs':=bc "rows" (.ref d) fs) (Kp.refl [t] H) ht hd;generalize upd (upd H d (.dK [])) t (.ins A.cT dx (bc "rows" (.ref d) fs))=H1 at a1 a2 a3 a4⊢;kd_p;refine bL a2 T.ak T.bg (lt1000 (iS hl)) ?_;have b1:Kp [t] H (upd H1 t (.ins A.cT dx 018)):=a1.trans (Kp.ins a2 _);have b2:upd H1 t (.ins A.cT dx 018) t=some (.ins A.cT dx 018):=ah;have b3:upd H1 t (.ins A.cT dx 018) d=some (.dK []):=by rw[aj a6];exact a3
 generalize upd H1 t (.ins A.cT dx 018)=H2 at b1 b2 b3⊢;kd_p;refine⟨by rw[aaC];exact aaT _,λol iU=>?_⟩;kd_p;have no:t≠ol:=aG b2 iU;refine bL (by rw[aj no];exact b2) T.ak T.aJ (lt1000 (iS (iS hl))) ?_;obtain⟨c1,c2,c3,c4,c5,c6⟩:=qy (o:=.lst []) (fs':=bc "orders" (.ref ol) 018) b1 b2 iU;have c7:=c4 d _ a6 b3;generalize upd (upd H2 ol 0035) t (.ins A.cT dx (bc "orders" (.ref ol) 018))=H3 at c1 c2 c3 c4 c7⊢;kd_p;intro cd gD;kd_p;have nc:t≠cd:=aG c2 gD;refine bL (by rw[aj nc];exact c2) T.ak T.bt (lt1000 (iS (iS (iS hl)))) ?_;obtain⟨d1,d2,d3,d4,d5,d6⟩:=qy (o:=.dK []) (fs':=bc "cursors" (.ref cd) (bc "orders" (.ref ol) 018)) c1 c2 gD;have n1:d≠cd:=aG c7 gD;have d7:=d4 d _ a6 c7;have d8:=d4 ol _ c6 c3;generalize upd (upd H3 cd (.dK [])) t (.ins A.cT dx (bc "cursors" (.ref cd) (bc "orders" (.ref ol) 018)))=H4 at d1 d2 d3 d4 d7 d8⊢;kd_p;refine⟨by rw[aaC];exact aaT _,λml gJ=>?_⟩;kd_p;have nm:t≠ml:=aG d2 gJ;refine bL (by rw[aj nm];exact d2) T.ak T.bW (lt1000 (iS (iS (iS (iS hl))))) ?_;obtain⟨e1,e2,e3,e4,e5,e6⟩:=qy (o:=.lst []) (fs':=bc "marks" (.ref ml) (bc "cursors" (.ref cd) (bc "orders" (.ref ol) 018))) d1 d2 gJ;have n2:ol≠ml:=aG d8 gJ;have e7:=e4 d _ a6 d7;have e8:=e4 ol _ c6 d8;have e9:=e4 cd _ d6 d3;generalize upd (upd H4 ml 0035) t (.ins A.cT dx (bc "marks" (.ref ml) (bc "cursors" (.ref cd) (bc "orders" (.ref ol) 018))))=H5 at e1 e2 e3 e4 e7 e8 e9⊢;kd_p;refine bL e2 T.ak T.fg (lt1000 (iS (iS (iS (iS (iS hl)))))) ?_;rw[M9 fs hfs];exact k _ d ol cd ml (e1.trans (Kp.ins e2 _)) a5 c5 d5 e5 ⟨ah,by rw[aj a6];exact e7,by rw[aj c6];exact e8,by rw[aj d6];exact e9,by rw[aj e6];exact e3,n1,n2⟩
inductive rh(A:aQ)(vs:0012)(H:Hp)(Q:VK)(E:XK):Prop
 |mk(t dx:Addr)(_:vs=[.ref t])(_:H t=some (.ins A.cT dx []))(_:∀H' d ol cd ml,Kp [t] H H'->H d=none->H ol=none->H cd=none->H ml=none->Au A H' t dx d ol cd ml 1 0->Q .bS H')
def Cg(T:006):(zt P w K mg base) A.cT 2 "Table" ["self"] (rh A):=by
 refine T.A7.ok Ac 02;obtain⟨t,dx,rfl,ht,k⟩:=h;refine gx _ (af (bp (bf 0094 (lA T) 01))) ?_;kd_p;refine aF ht rfl ?_;kd_p;exact⟨t,dx,[],rfl,ht,.inl rfl,λH' d ol cd ml k1 h1 h2 h3 h4 fr=>k H' d ol cd ml k1 h1 h2 h3 h4 fr⟩
def Au.tab{H:Hp}{t dx d ol cd ml:Addr}(f:Au A H t dx d ol cd ml 1 0):TabAt K A H t ⟨d,ol,cd,ml,[],[],[],[]⟩ Standbook.empty where
 wf:=SM.Wf.empty
 obj:=⟨dx,0,f.obj,λh=>absurd rfl h⟩
 rows:=⟨[],[],f.hd,acy _,.nil⟩
 aw:=⟨f.iU,rfl,rfl,λi o p x h=>by simp at h⟩
 bz:={
  gN:=f.gD
  nd:=ab5
  has:=λn=>by
   have e:Standbook.empty.cursor n=none:=by
    unfold Standbook.Table.cursor Standbook.empty;show((List.replicate Standbook.CURSORS none)[n]?).join=none;rw[ade]
    split<;>rfl
   rw[e];exact⟨λh=>(by cases h),λh=>(by cases h)⟩
  at_:=λn c cu h=>(by cases h)}
 marks:=⟨f.gJ,.nil⟩
 nd:=by
  have a1:t≠d:=cv f.obj f.hd 010;have a2:t≠ol:=cv f.obj f.iU 010;have a3:t≠cd:=cv f.obj f.gD 010;have a4:t≠ml:=cv f.obj f.gJ 010;have b1:d≠ol:=cv f.hd f.iU 010;have b2:d≠ml:=cv f.hd f.gJ 010;have b3:cd≠ml:=cv f.gD f.gJ 010;have b4:ol≠cd:=cv f.iU f.gD 010;have c1:=f.n1;have c2:=f.n2;simp[Lay.all,a1,a2,a3,a4,b1,b2,b3,b4,c1,c2]
end Bk
end
namespace Bk
open PySem PyProof.Rows L2
open Standbook (Order Rows Table Mark Cursor Spot)
variable{P:027}{w:066}{K:05}{mg:005}{base:Heap}{A:aQ}
section
variable{H:Hp}{t:Addr}{L:Lay}{T:049}
def TabAt.ord(h:012){k:Nat}(hk:k<T.orders.length):∃o p u,L.os[k]? =some o/\L.ps[k]? =some p/\T.orders[k]? =some (T.spec k,u)/\Standbook.sound 063=true/\kG K A H o p 063 u 0037:=by
 have l1:=h.aw.lo;have l2:=h.aw.lp;have e1:L.os[k]? =some L.os[k]:=aab 03;have e2:L.ps[k]? =some L.ps[k]:=aab 03;have e3:T.orders[k]? =some T.orders[k]:=aab hk
 have e4:T.spec k=T.orders[k].1:=by
  unfold Table.spec;rw[e3];rfl
 have hs:=h.wf.os _ (abL hk);have a:=h.aw.at_ k _ _ _ e1 e2 e3;refine⟨_,_,T.orders[k].2,e1,e2,by rw[e3,e4],by rw[e4];exact hs,?_⟩;rw[e4];exact⟨a.obj,a.aO,oF.of hs,SM.i6 _ h.wf.rows.good,by rw[SM.lN];exact h.wf.rows.len⟩
end
inductive s_(K:05)(A:aQ)(vs:0012)(H:Hp)(Q:VK)(E:XK):Prop
 |mk(t:Addr)(L:Lay)(T:049)(k:Nat)(_:vs=[.ref t,.int k])(_:012)(_:Q (.bl (T.has k)) H)
def eF(T:006):024 A.cT 1 "has_order" ["self","k"] (s_ K A):=by
 refine T.uF.ok tW 02;obtain⟨t,L,T',k,rfl,ht,kk⟩:=h;obtain⟨dx,ch,h1,_⟩:=ht.obj;refine gx _ (af (ai (ee ij 014 0011 077))) ?_;kd_p;sleep 023;kd_p;refine cf (.inl (ax.of ht.aw.lst)) ?_;kd_p;rw[aaa,ht.aw.lo];have e:decide ((k:Int)<(T'.orders.length:Int))=T'.has k:=aa2.mpr 03;rw[e];exact kk
def oh{H:Hp}{d:Addr}{rows:Rows}{kvs:031}{rs:Rows}(hp:rs.Perm rows)(r:0071):kvs.length=rows.length:=by rw[aaY r,hp.length_eq]
inductive u7(K:05)(A:aQ)(vs:0012)(H:Hp)(Q:VK)(E:XK):Prop
 |mk(t:Addr)(L:Lay)(T:049)(_:vs=[.ref t])(_:012)(_:Q (.bl (decide (T.rows.length<256)&&decide (T.next<=2147483647))) H)
def mX(T:006):024 A.cT 1 "has_room_for_row" ["self"] (u7 K A):=by
 refine T.nI.ok mZ 02;obtain⟨t,L,T',rfl,ht,kk⟩:=h;obtain⟨dx,ch,h1,_⟩:=ht.obj;sleep 031;refine gx _ (af (ai (sg (ee ij (aI By rfl T.bG bh (aa 04 ab)) (aD T.oP rfl) 077) (pT (ee jP 04 (aD T.mT rfl) 077))))) ?_;kd_p;sleep 011;kd_p;refine A6 hd ?_;kd_p;rw[oh (d:=L.d) hp hrel];sleep 018
 ·kd_p;refine ay h1 T.ak T.bg jt ?_;kd_p;rw[aaj (show T'.rows.length<256 by omega),abQ] at kk;have e:decide ((T'.next:Int)<=2147483647)=decide (T'.next<=2147483647):=aa2.mpr 03;rw[e];exact kk
 ·rw[aal (show¬T'.rows.length<256 by omega),abA] at kk;exact kk
def kl{H:Hp}{ml:Addr}{ms:List (Addr×Addr)}{marks:List Mark}(h:pS K A H ml ms marks.reverse):ms.length=marks.length:=by
 have:=aaY h.all;rw[abb] at this;exact this
inductive qd(K:05)(A:aQ)(vs:0012)(H:Hp)(Q:VK)(E:XK):Prop
 |mk(t:Addr)(L:Lay)(T:049)(_:vs=[.ref t])(_:012)(_:Q (.bl (!T.full)) H)
def il(T:006):024 A.cT 1 "has_room_for_change" ["self"] (qd K A):=by
 refine T.mj.ok lM 02;obtain⟨t,L,T',rfl,ht,kk⟩:=h;sleep 06;refine gx _ (af (ai (Rn (ee fA 0011 aA 077) (pT (ee ij 04 (aD T.sk rfl) 077))))) ?_;sleep 042;rw[aaa,kl ht.marks];unfold Table.full at kk;sleep 018
 ·have e:T'.marks=[]:=abm 03;rw[e] at kk;exact kk
 ·have e:T'.marks≠[]:=λz=>q (by rw[z];rfl);kd_p;refine ay h1 T.ak T.fg qi ?_;kd_p;rw[hch e]
  have e2:T'.marks.isEmpty=false:=by
   cases z:T'.marks with
   |nil=>exact absurd z e
   |cons a l=>rfl
  have e3:decide ((T'.changes:Int)<512)= !(!T'.marks.isEmpty&&decide (Standbook.CHANGES<=T'.changes)):=by
   rw[e2];show _= !decide (512<=T'.changes);by_cases z:T'.changes<512
   ·rw[aaj 03,aal 03];rfl
   ·rw[aal 03,aaj 03];rfl
  rw[e3];exact kk
def Oi:Option Nat->V
 |some k=>.int (k:Nat)
 |none=>.bS
def OW(wf:SM.Wf T')(od:0087)(u:Bool)(n:Nat)(row:0017):((mM (SM.aO od T'.rows) (SM.cnt (SM.aO od T'.rows) (SM.aC od row,0)) (SM.cnt (SM.aO od T'.rows) (SM.aC od row,4294967295))).any λq=> !decide (q.2=(n:Int)))=T'.rows.any λy=>y.1 !=n&&Standbook.before od y.2 row==0:=
 SM.Kv od wf.rows.good wf.rows.small n row
inductive wz(K:05)(A:aQ)(vs:0012)(H:Hp)(Q:VK)(E:XK):Prop
 |mk(t r:Addr)(L:Lay)(T:049)(n:Nat)(row:0017)(_:vs=[.ref t,.int n,.ref r])(_:012)(_:Sq K H r (nV row))(_:068)(_:∀H',au H H'->Q (Oi (T.clash row n)) H')
def px(T:006):024 A.cT 7 "barring_order" ["self","number","row"] (wz K A):=by
 refine T.pX.ok hU 02;obtain⟨t,r,L,T',n,row,rfl,ht,hrow,hi,kk⟩:=h;obtain⟨dx,ch,h1,_⟩:=ht.obj;refine gx _ (ae (g_ aa5 rfl (y0 (K:=K) rfl rfl T.vb (aa 04 ab)) (A3 (K:=K) (n:=2) rfl rfl (ql (bC (i:=3) hU.nd rfl 001) (ql (bC (i:=4) hU.nd rfl 001) FY))) (af (aU (PW.pt (Ba (br (aq (K:=K) rfl (pv 4) rfl)) (yk (br (bE (pv 4) (tq T) 01 0103))))) (af (ai 072)) aE))) (af (ai Jw))) ?_;kd_p;sleep 023;kd_p;refine⟨L.ol,_,rfl,ax.of ht.aw.lst,yA (xs:=L.os.map V.ref) (λi σ H'=>∃a b:Option V,σ=[some (.ref t),some (.int n),some (.ref r),a,b]/\au H H'/\∀(j:Nat) (x:Order×Bool),j<i->T'.orders[j]? =some x->(x.2&&T'.rows.any λy=>y.1 !=n&&Standbook.before x.1 y.2 row==0)=false) ⟨none,none,rfl,au.refl _,λj x hj=>absurd hj (abR _)⟩ (λi σ H' _ ⟨_,_,_,s1,_⟩=>ax.of (s1 _ _ ht.aw.lst)) ?_ ?_⟩
 ·rintro i x σ H' tt hx ⟨a,b,rfl,s1,ih⟩ htt;rw[aai] at hx
  cases e:L.os[i]? with
  |none=>rw[e] at hx;cases hx
  |some o=>
   rw[e] at hx;obtain rfl:V.ref o=x:=aac hx
   have hil:i<T'.orders.length:=by
    obtain⟨q,_⟩:=aad.mp e;have:=ht.aw.lo;omega
   have s2:au H (upd H' tt (.tup [.int (i:Nat),.ref o])):=s1.trans (.new htt);obtain⟨o',p,u,f1,f2,f3,f4,g⟩:=(ht.same s2).ord hil;rw[e] at f1;obtain rfl:o=o':=aac f1;obtain⟨dxo,c,ho,hc⟩:=id g.ob;refine FX (bw.of ah) ?_;kd_p;refine ay ho T.cg T.gY oN ?_;kd_p;have key:∀{H3:Hp},(x2:T'.orders[i]? =some (T'.spec i,u))->True:=λ_=>trivial;sleep 025
   ·kd_p;refine aF ho (eO 07) ?_;kd_p;refine⟨o,p,r,_,u,_,n,row,rfl,g,hrow.same s2,hi,λH3 s3=>?_⟩;rw[OW ht.wf (T'.spec i) u];kd_p;refine jf (λq2=>?_) (λq2=>?_)
    ·kd_p
     have e5:T'.clash row n=some i:=by
      unfold Table.clash;rw[abI];refine⟨hil,?_,λj hj=>?_⟩
      ·rw[aab hil] at f3;rw[aac f3];show(u&&_)=true;rw[q,q2];rfl
      ·have:=ih j _ hj 0093;rw[this];exact aau
     have:=kk H3 (s2.trans s3);rw[e5] at this;exact this
    ·kd_p;refine⟨_,_,rfl,s2.trans s3,λj x hj hx2=>?_⟩;by_cases hji:j=i
     ·subst hji;rw[f3] at hx2;rw[<-aac hx2];show(u&&_)=false;rw[q,q2];rfl
     ·exact ih j x 03 hx2
   ·kd_p;refine⟨_,_,rfl,s2,λj x hj hx2=>?_⟩;by_cases hji:j=i
    ·subst hji;rw[f3] at hx2;rw[<-aac hx2];show(u&&_)=false;rw[q];rfl
    ·exact ih j x 03 hx2
 ·rintro σ H' ⟨a,b,rfl,s1,ih⟩;kd_p
  have e5:T'.clash row n=none:=by
   unfold Table.clash;rw[acj];intro x hx;obtain⟨j,hj⟩:=aas.mp hx;obtain⟨hjl,_⟩:=aad.mp hj;exact ih j x (by rw[aaa,ht.aw.lo];exact hjl) hj
  have:=kk H' s1;rw[e5] at this;exact this
structure Apart(L:Lay)(t:Addr):Prop where
 os:L.os.Nodup
 ps:L.ps.Nodup
 cs:(L.cs.map (·.2)).Nodup
 m1:(L.ms.map (·.1)).Nodup
 m2:(L.ms.map (·.2)).Nodup
 bj:[t,L.d,L.ol,L.cd,L.ml].Nodup
 fQ:∀b∈L.os,b∉[t,L.d,L.ol,L.cd,L.ml]/\b∉L.ps/\b∉L.cs.map (·.2)/\b∉L.ms.map (·.1)/\b∉L.ms.map (·.2)
 fG:∀b∈L.ps,b∉[t,L.d,L.ol,L.cd,L.ml]/\b∉L.os/\b∉L.cs.map (·.2)/\b∉L.ms.map (·.1)/\b∉L.ms.map (·.2)
 gC:∀b∈L.cs.map (·.2),b∉[t,L.d,L.ol,L.cd,L.ml]/\b∉L.os/\b∉L.ps/\b∉L.ms.map (·.1)/\b∉L.ms.map (·.2)
 gI:∀b∈L.ms.map (·.1),b∉[t,L.d,L.ol,L.cd,L.ml]/\b∉L.os/\b∉L.ps/\b∉L.cs.map (·.2)/\b∉L.ms.map (·.2)
 ip:∀b∈L.ms.map (·.2),b∉[t,L.d,L.ol,L.cd,L.ml]/\b∉L.os/\b∉L.ps/\b∉L.cs.map (·.2)/\b∉L.ms.map (·.1)
def Lay.apart{L:Lay}{t:Addr}(h:(L.all t).Nodup):Apart L t:=by
 unfold Lay.all at h;obtain⟨h1,h2,s1⟩:=aaZ.mp h;obtain⟨h3,h4,s2⟩:=aaZ.mp h2;obtain⟨h5,h6,s3⟩:=aaZ.mp h4;obtain⟨h7,h8,s4⟩:=aaZ.mp h6;obtain⟨h9,h10,s5⟩:=aaZ.mp h8;have i1:∀{b:Addr},b∈L.os->b∈L.os++(L.ps++(L.cs.map (·.2)++(L.ms.map (·.1)++L.ms.map (·.2)))):=λhb=>abc _ hb;have i2:∀{b:Addr},b∈L.ps->b∈L.ps++(L.cs.map (·.2)++(L.ms.map (·.1)++L.ms.map (·.2))):=λhb=>abc _ hb;have i3:∀{b:Addr},b∈L.cs.map (·.2)->b∈L.cs.map (·.2)++(L.ms.map (·.1)++L.ms.map (·.2)):=λhb=>abc _ hb;have i4:∀{b:Addr},b∈L.ms.map (·.1)->b∈L.ms.map (·.1)++L.ms.map (·.2):=λhb=>abc _ hb;have i5:∀{b:Addr},b∈L.ms.map (·.2)->b∈L.ms.map (·.1)++L.ms.map (·.2):=λhb=>aam _ hb;refine⟨h3,h5,h7,h9,h10,h1,052,052,052,052,052⟩
 ·exact⟨λz=>s1 b z b (i1 hb) rfl,λz=>s2 b hb b (i2 z) rfl,λz=>s2 b hb b (aam _ (i3 z)) rfl,λz=>s2 b hb b (aam _ (aam _ (i4 z))) rfl,λz=>s2 b hb b (aam _ (aam _ (i5 z))) rfl⟩
 ·exact⟨λz=>s1 b z b (aam _ (i2 hb)) rfl,λz=>s2 b z b (i2 hb) rfl,λz=>s3 b hb b (i3 z) rfl,λz=>s3 b hb b (aam _ (i4 z)) rfl,λz=>s3 b hb b (aam _ (i5 z)) rfl⟩
 ·exact⟨λz=>s1 b z b (aam _ (aam _ (i3 hb))) rfl,λz=>s2 b z b (aam _ (i3 hb)) rfl,λz=>s3 b z b (i3 hb) rfl,λz=>s4 b hb b (i4 z) rfl,λz=>s4 b hb b (i5 z) rfl⟩
 ·exact⟨λz=>s1 b z b (aam _ (aam _ (aam _ (i4 hb)))) rfl,λz=>s2 b z b (aam _ (aam _ (i4 hb))) rfl,λz=>s3 b z b (aam _ (i4 hb)) rfl,λz=>s4 b z b (i4 hb) rfl,λz=>s5 b hb b z rfl⟩
 ·exact⟨λz=>s1 b z b (aam _ (aam _ (aam _ (i5 hb)))) rfl,λz=>s2 b z b (aam _ (aam _ (i5 hb))) rfl,λz=>s3 b z b (aam _ (i5 hb)) rfl,λz=>s4 b z b (i5 hb) rfl,λz=>s5 b z b hb rfl⟩
structure Core(K:05)(A:aQ)(H:Hp)(t:Addr)(L:Lay)(orders:033)(rows:Rows):Prop where
 obj:∃dx n ch,H t=some (.ins A.cT dx (fT L.d n L.ol L.cd L.ml ch))
 rws:fx K H L.d rows
 aw:gU K A H L.ol L.os L.ps orders λo=>SM.aO o rows
 snd:∀x∈orders,Standbook.sound x.1=true
 good:SM.Good rows
 xm:∀x∈rows,Standbook.isRow x.2=true
 len:rows.length<=256
 nd:(L.all t).Nodup
def TabAt.core{H:Hp}{t:Addr}{L:Lay}{T:049}(h:012):Core K A H t L T.orders T.rows:=by
 obtain⟨dx,ch,e,_⟩:=h.obj;exact⟨⟨dx,_,ch,e⟩,h.rows,h.aw,h.wf.os,h.wf.rows.good,λx hx=>(h.wf.rows.row x hx).2.2,h.wf.rows.len,h.nd⟩
def gU.perm{H:Hp}{ol:Addr}{os ps:016}{aw:033}{r r':Rows}(g:SM.Good r)(p:r.Perm r')(h:gU K A H ol os ps aw λo=>SM.aO o r):gU K A H ol os ps aw λo=>SM.aO o r':=
 ⟨h.lst,h.lo,h.lp,λi o q x a b c=>by rw[<-SM.Jx x.1 g p];exact h.at_ i o q x a b c⟩
def Bm(K:05)(A:aQ)(H:Hp)(os ps:016)(aw:033)(r r':Rows)(i:Nat):Prop:=
 ∀(j:Nat) (o p:Addr) (x:Order×Bool),os[j]? =some o->ps[j]? =some p->aw[j]? =some x->qC K A H o p x.1 x.2 (SM.aO x.1 (if j<i then r' else r))
def Bm.step{H H':Hp}{os ps:016}{aw:033}{r r':Rows}{i:Nat}{o p:Addr}{x:Order×Bool}(h:Bm K A H os ps aw r r' i)(h1:os[i]? =some o)(h2:ps[i]? =some p)(h3:aw[i]? =some x)(hps:ps.Nodup)(hop:∀b∈os,b∉ps)(k:Kp [p] H H')(new:qC K A H' o p x.1 x.2 (SM.aO x.1 r')):Bm K A H' os ps aw r r' (i+1):=by
 intro j o' p' x' a b c;by_cases e:j=i
 ·subst e;rw[h1] at a;rw[h2] at b;rw[h3] at c;cases a;cases b;cases c;rw[aav (acb _)];exact new
 ·have q:=h j o' p' x' a b c
  have e2:(if j<i+1 then r' else r)=if j<i then r' else r:=by
   by_cases z:j<i
   ·rw[aav z,aav 03]
   ·rw[aan z,aan 03]
  rw[e2];refine q.kp k (λz=>hop o' (aap a) ?_) (λz=>e (qM hps b ?_))
  ·rw[aT z];exact aap h2
  ·rw[aT z];exact h2
def GH{od:0087}{rows:Rows}(g:SM.Good rows){n:Nat}{row:0017}(h:(n,row)∈rows):SM.cnt (SM.aO od rows) (SM.aC od row,(n:Int))<(SM.aO od rows).length:=by
 have:=SM.JM (o:=od) g (SM.FZ (o:=od) h);exact(aad.mp this).1
inductive xk(K:05)(A:aQ)(vs:0012)(H:Hp)(Q:VK)(E:XK):Prop
 |mk(t r:Addr)(L:Lay)(aw:033)(rows:Rows)(n:Nat)(row:0017)(_:vs=[.ref t,.int n,.ref r])(_:Core K A H t L aw rows)(_:¬n∈rows.map (·.1))(_:rows.length<256)(_:ax K H r (nV row))(_:r∉L.all t)(_:068)(_:∀H',Kp (L.d::L.ps) H H'->(∀rows',rows'.Perm ((n,row)::rows)->Core K A H' t L aw rows')->Q .bS H')
def nu(T:006):024 A.cT 6 "add_row" ["self","number","row"] (xk K A):=by
 refine T.wO.ok n9 02;obtain⟨t,r,L,aw,rows,n,row,rfl,hc,hn,hlen,hr1,hr2,hi,k⟩:=h;have ap:=Lay.apart hc.nd;obtain⟨dx,nn,ch,h1⟩:=hc.obj;obtain⟨kvs,rs,hd,hp,hrel⟩:=hc.rws;have g2:SM.Good ((n,row)::rows):=⟨by rw[aaB];exact aa6.mpr ⟨hn,hc.good.nd⟩⟩;refine gx _ (ae (xZ (dw hr) 04 014 (fi (kY (K:=K) rfl) rfl T.p8 nY 0023) rfl) (af (g_ aa5 rfl (c8 (K:=K) rfl 04) (bC (i:=3) n9.nd rfl 001) (af (bp (bE 072 (xq T) 01 0103)))))) ?_;kd_p;refine⟨r,_,rfl,.inl ⟨hr1,λtu htu=>?_⟩⟩;have s1:au H (upd H tu (.tup (nV row))):=.new htu;kd_p;refine ay (s1 _ _ h1) T.ak T.aP cA ?_;kd_p;have hkn:eR kvs 0006=none:=iG hrel λz=>hn (((hp.map (·.1)).mem_iff).mp z);have hkl:kvs.length<sizeLine:=by rw[aaY hrel,hp.length_eq,aaC];omega
 refine⟨L.d,_,rfl,sX.k (k:=Sum.inl (n:Int)) (s1 _ _ hd) hkl,?_⟩;rw[BH _ hkn];have k1:Kp [L.d] H (upd (upd H tu (.tup (nV row))) L.d 0034):=(Kp.same s1).trans (Kp.gN (s1 _ _ hd) _);have hd1:upd (upd H tu (.tup (nV row))) L.d 0034 L.d=some 0034:=ah;have ntd:tu≠L.d:=λe=>by rw[e,hd] at htu;cases htu
 have htu1:upd (upd H tu (.tup (nV row))) L.d 0034 tu=some (.tup (nV row)):=by rw[aj ntd,ah]
 generalize upd (upd H tu (.tup (nV row))) L.d 0034=H1 at k1 hd1 htu1⊢;have bj:=ap.bj;have ntd:t≠L.d:=yo bj im;have nold:L.ol≠L.d:=yo bj im;have ho1:=k1.keep _ _ hc.aw.lst (fN nold);have ht1:=k1.keep _ _ h1 (fN ntd);have dps:∀b∈L.ps,b≠L.d:=λb hb e=>(ap.fG b hb).1 (by simp[e]);have dos:∀b∈L.os,b≠L.d:=λb hb e=>(ap.fQ b hb).1 (by simp[e]);kd_p;refine ay ht1 T.ak T.aJ bA ?_;refine⟨L.ol,rfl,⟨_,ax.of ho1⟩,mi (xs:=L.os.map V.ref) (λi σ H'=>∃a:Option V,σ=[some (.ref t),some (.int n),some (.ref r),a]/\Kp L.ps H1 H'/\Bm K A H' L.os L.ps aw rows ((n,row)::rows) i) ⟨none,rfl,Kp.refl _ _,λj o p x a b c=>?_⟩ (λi σ H' _ ⟨_,_,k2,_⟩=>ax.of (k2.keep _ _ ho1 λz=>(ap.fG _ z).1 im)) ?_ ?_⟩
 ·rw[aan (abR _)];exact(hc.aw.at_ j o p x a b c).kp k1 (fN (dos o (aap a))) (fN (dps p (aap b)))
 ·rintro i y σ H' hy ⟨a,rfl,k2,hh⟩;rw[aai] at hy
  cases e:L.os[i]? with
  |none=>rw[e] at hy;cases hy
  |some o=>
   rw[e] at hy;obtain rfl:V.ref o=y:=aac hy;have l1:=hc.aw.lo;have l2:=hc.aw.lp;have hil:i<L.os.length:=(aad.mp e).1;have e2:L.ps[i]? =some L.ps[i]:=aab 03;have e3:aw[i]? =some aw[i]:=aab 03;have q:=hh i o _ _ e e2 e3;rw[aan (abu _)] at q;have hs:=hc.snd _ (abL (show i<aw.length by omega));obtain⟨dxo,c,ho,hcc⟩:=id q.obj;have g:kG K A H' o L.ps[i] aw[i].1 aw[i].2 (SM.aO aw[i].1 rows):=⟨q.obj,q.aO,oF.of hs,SM.i6 _ hc.good,by rw[SM.lN];exact hc.len⟩;have hrr:ax K H' r (nV row):=ax.kp k2 (λz=>hr2 (Lay.GC z)) (ax.kp k1 (fN λz=>hr2 (by rw[z];exact Lay.LW)) hr1);kd_p;refine aF ho (eO 07) ?_;kd_p;refine⟨o,L.ps[i],r,_,_,_,n,row,rfl,g,.inl hrr,hi,λH2 k3 ob2 pl2=>?_⟩;refine⟨_,rfl,k2.trans (k3.mono λb hb=>by rw[aT hb];exact abL _),?_⟩;refine hh.step e e2 e3 ap.ps (λb hb=>(ap.fQ b hb).2.1) k3 ⟨ob2,?_⟩;have e5:=SM.MH (o:=aw[i].1) (m:=(n,row)::rows) hc.good hn (acy _);rw[<-e5];exact pl2
 ·rintro σ H' ⟨a,rfl,k2,hh⟩;rw[aaa] at hh;have kk:Kp (L.d::L.ps) H H':=(k1.mono λb hb=>by rw[aT hb];exact aae).trans (k2.mono λb hb=>aag _ hb);refine k H' kk λrows' hp'=>?_;have nps:∀{b:Addr},b∈[t,L.d,L.ol,L.cd,L.ml]->b∉L.ps:=λhb z=>(ap.fG _ z).1 hb
  exact{
   obj:=⟨dx,nn,ch,k2.keep _ _ ht1 (nps im)⟩
   rws:=by
    refine⟨kvs++[(Sum.inl (n:Int),.ref tu)],rs++[(n,row)],k2.keep _ _ hd1 (nps im),?_,?_⟩
    ·exact((List.perm_append_comm).trans (hp.cons (n,row))).trans hp'.symm
    ·exact L2.Paired.snoc (L2.Paired.jE hrel λ_ _ z=>(z.kp k1).kp k2) ⟨rfl,tu,rfl,bw.kp k2 (bw.of htu1)⟩
   aw:=by
    refine gU.perm g2 hp'.symm ⟨k2.keep _ _ ho1 (nps im),hc.aw.lo,hc.aw.lp,λj o p x a b c=>?_⟩;have:=hh j o p x a b c;rw[aav (aad.mp a).1] at this;exact this
   snd:=hc.snd
   good:=g2.perm hp'
   xm:=λx hx=>by
    rcases aao.mp (hp'.mem_iff.mp hx) with rfl|z
    ·exact hi
    ·exact hc.xm x z
   len:=by rw[hp'.length_eq,aat];omega
   nd:=hc.nd}
inductive rC(K:05)(A:aQ)(vs:0012)(H:Hp)(Q:VK)(E:XK):Prop
 |mk(t:Addr)(L:Lay)(aw:033)(rows:Rows)(n:Nat)(row:0017)(_:vs=[.ref t,.int n])(_:Core K A H t L aw rows)(_:(n,row)∈rows)(_:∀H',Kp (L.d::L.ps) H H'->(∀rows',rows.Perm ((n,row)::rows')->Core K A H' t L aw rows')->Q .bS H')
def Kw{H:Hp}{kvs:031}{rs:Rows}{n:Nat}(r:0071):Paired (eX K H) (gp kvs 0006) (rs.filter λ(x:020)=>x.1 !=n):=by
 induction r with
 |nil=>exact .nil
 | @cons kv x kvs rs q t ih=>
   by_cases e:x.1=n
   ·rw[Iu (by rw[q.1,e]),acu (by rw[e];simp)];exact ih
   ·rw[J6 (by
     rw[q.1];intro z
     exact e (ab1 (aci z))),acs (p:=λ(x:020)=>x.1 !=n) (abE.mpr e)]
    exact .cons q ih
def ll(T:006):024 A.cT 6 "remove_row" ["self","number"] (rC K A):=by
 refine T.sR.ok i7 02;obtain⟨t,L,aw,rows,n,row,rfl,hc,hn,k⟩:=h;have ap:=Lay.apart hc.nd;obtain⟨dx,nn,ch,h1⟩:=hc.obj;obtain⟨kvs,rs,hd,hp,hrel⟩:=hc.rws;have hi:=hc.xm _ hn;have hp2:rows.Perm ((n,row)::rows.filter λ(x:020)=>x.1 !=n):=SM.me hc.good hn;have hgr:SM.Good rs:=hc.good.perm hp;obtain⟨ra,hv,hra⟩:=iz hrel hgr (hp.mem_iff.mpr hn);refine gx _ (ae (aB (i:=2) i7.nd rfl 001 (BC 04 014 ⟨rfl,rfl,rfl,rfl⟩)) (af (g_ aa5 rfl (c8 (K:=K) rfl 04) (bC (i:=3) i7.nd rfl 001) (af (bp (bE 072 (xD T) 01 0103)))))) ?_;kd_p;sleep 011;refine⟨L.d,rfl,.inl ⟨kvs,.inl hd⟩,?_⟩;kd_p;refine⟨kvs,Sum.inl (n:Int),.ref ra,hd,rfl,hv,?_⟩;have k1:Kp [L.d] H (upd H L.d (.dK (gp kvs 0006))):=Kp.gN hd _;have hd1:upd H L.d (.dK (gp kvs 0006)) L.d=some (.dK (gp kvs 0006)):=ah;generalize upd H L.d (.dK (gp kvs 0006))=H1 at k1 hd1⊢;have bj:=ap.bj;have ntd:t≠L.d:=yo bj im;have nold:L.ol≠L.d:=yo bj im;have ho1:=k1.keep _ _ hc.aw.lst (fN nold);have ht1:=k1.keep _ _ h1 (fN ntd);have dps:∀b∈L.ps,b≠L.d:=λb hb e=>(ap.fG b hb).1 (by simp[e]);have dos:∀b∈L.os,b≠L.d:=λb hb e=>(ap.fQ b hb).1 (by simp[e]);kd_p;refine ay ht1 T.ak T.aJ bA ?_;refine⟨L.ol,rfl,⟨_,ax.of ho1⟩,mi (xs:=L.os.map V.ref) (λi σ H'=>∃a:Option V,σ=[some (.ref t),some (.int n),some (.ref ra),a]/\Kp L.ps H1 H'/\Bm K A H' L.os L.ps aw rows (rows.filter λ(x:020)=>x.1 !=n) i) ⟨none,rfl,Kp.refl _ _,λj o p x a b c=>?_⟩ (λi σ H' _ ⟨_,_,k2,_⟩=>ax.of (k2.keep _ _ ho1 λz=>(ap.fG _ z).1 im)) ?_ ?_⟩
 ·rw[aan (abR _)];exact(hc.aw.at_ j o p x a b c).kp k1 (fN (dos o (aap a))) (fN (dps p (aap b)))
 ·rintro i y σ H' hy ⟨a,rfl,k2,hh⟩;rw[aai] at hy
  cases e:L.os[i]? with
  |none=>rw[e] at hy;cases hy
  |some o=>
   rw[e] at hy;obtain rfl:V.ref o=y:=aac hy;have l1:=hc.aw.lo;have l2:=hc.aw.lp;have hil:i<L.os.length:=(aad.mp e).1;have e2:L.ps[i]? =some L.ps[i]:=aab 03;have e3:aw[i]? =some aw[i]:=aab 03;have q:=hh i o _ _ e e2 e3;rw[aan (abu _)] at q;have hs:=hc.snd _ (abL (show i<aw.length by omega));obtain⟨dxo,c,ho,hcc⟩:=id q.obj;have g:kG K A H' o L.ps[i] aw[i].1 aw[i].2 (SM.aO aw[i].1 rows):=⟨q.obj,q.aO,oF.of hs,SM.i6 _ hc.good,by rw[SM.lN];exact hc.len⟩;kd_p;refine aF ho (eO 07) ?_;kd_p;refine⟨o,L.ps[i],ra,_,_,_,n,row,rfl,g,.inr (bw.kp k2 (bw.kp k1 hra)),hi,GH hc.good hn,λH2 k3 ob2 pl2=>?_⟩;refine⟨_,rfl,k2.trans (k3.mono λb hb=>by rw[aT hb];exact abL _),?_⟩;refine hh.step e e2 e3 ap.ps (λb hb=>(ap.fQ b hb).2.1) k3 ⟨ob2,?_⟩;have e5:=SM.MD (o:=aw[i].1) hc.good hp2;rw[<-e5];exact pl2
 ·rintro σ H' ⟨a,rfl,k2,hh⟩;rw[aaa] at hh;have kk:Kp (L.d::L.ps) H H':=(k1.mono λb hb=>by rw[aT hb];exact aae).trans (k2.mono λb hb=>aag _ hb);refine k H' kk λrows' hp'=>?_;have hp3:(rows.filter λ(x:020)=>x.1 !=n).Perm rows':=adj (hp2.symm.trans hp');have nps:∀{b:Addr},b∈[t,L.d,L.ol,L.cd,L.ml]->b∉L.ps:=λhb z=>(ap.fG _ z).1 hb;have gf:SM.Good (rows.filter λ(x:020)=>x.1 !=n):=(hc.good.perm hp2.symm).tail
  exact{
   obj:=⟨dx,nn,ch,k2.keep _ _ ht1 (nps im)⟩
   rws:=by
    refine⟨_,rs.filter λ(x:020)=>x.1 !=n,k2.keep _ _ hd1 (nps im),(hp.filter _).trans hp3,?_⟩;exact L2.Paired.jE (Kw hrel) λ_ _ z=>(z.kp k1).kp k2
   aw:=by
    refine gU.perm gf hp3 ⟨k2.keep _ _ ho1 (nps im),hc.aw.lo,hc.aw.lp,λj o p x a b c=>?_⟩;have:=hh j o p x a b c;rw[aav (aad.mp a).1] at this;exact this
   snd:=hc.snd
   good:=gf.perm hp3.symm
   xm:=λx hx=>hc.xm x (hp'.mem_iff.mpr (aag _ hx))
   len:=by
    have:=hp'.length_eq;rw[aat] at this;have:=hc.len;omega
   nd:=hc.nd}
structure jQ(K:05)(A:aQ)(H:Hp)(ol:Addr)(os:016)(aw:033):Prop where
 lst:H ol=some (.lst (os.map V.ref))
 lo:os.length=aw.length
 at_:∀(i:Nat) (o:Addr) (x:Order×Bool),os[i]? =some o->aw[i]? =some x->∃p,OB K A H o p x.1 x.2
def gU.b{H:Hp}{ol:Addr}{os ps:016}{aw:033}{pl:Order->List Pl}(h:gU K A H ol os ps aw pl):jQ K A H ol os aw:=by
 refine⟨h.lst,h.lo,λi o x a b=>?_⟩;have l1:=h.lo;have l2:=h.lp;have hi:=(aad.mp a).1;exact⟨_,(h.at_ i o _ x a 0093 b).obj⟩
def OB.kp{S:016}{H H':Hp}{o p:Addr}{od:0087}{u:Bool}(k:0089)(h:o∉S)(b:OB K A H o p od u):OB K A H' o p od u:=by
 obtain⟨dx,c,h1,h2⟩:=b;exact⟨dx,c,k.keep _ _ h1 h,bw.kp k h2⟩
def jQ.kp{S:016}{H H':Hp}{ol:Addr}{os:016}{aw:033}(k:0089)(h0:ol∉S)(h1:∀o∈os,o∉S)(h:jQ K A H ol os aw):jQ K A H' ol os aw:=
 ⟨k.keep _ _ h.lst h0,h.lo,λi o x a b=>let⟨p,q⟩:=h.at_ i o x a b;⟨p,q.kp k (h1 o (aap a))⟩⟩
inductive rq(K:05)(A:aQ)(vs:0012)(H:Hp)(Q:VK)(E:XK):Prop
 |mk(t dx d ol cd ml:Addr)(n ch:Int)(os:016)(aw:033)(rows:Rows)(_:vs=[.ref t])(_:H t=some (.ins A.cT dx (fT d n ol cd ml ch)))(_:jQ K A H ol os aw)(_:os.Nodup)(_:t∉os)(_:(∀x∈aw,Standbook.sound x.1=true))(_:fx K H d rows)(_:SM.Good rows)(_:(∀x∈rows,Standbook.isRow x.2=true))(_:rows.length<=256)(_:∀H' ps,Kp os H H'->ps.Nodup->(∀p∈ps,H p=none)->gU K A H' ol os ps aw (λo=>SM.aO o rows)->Q .bS H')
def lh(T:006):024 A.cT 6 "stand_rows" ["self"] (rq K A):=by
 refine T.sI.ok lu 02;obtain⟨t,dx,d,ol,cd,ml,n,ch,os,aw,rows,rfl,h1,hb,hnd,hto,hs,hrw,hg,hi,hl,k⟩:=h
 have odo:ol∉os:=λz=>by
  obtain⟨i,hx⟩:=aas.mp z;have hi2:=(aad.mp hx).1;have l1:=hb.lo;obtain⟨p,dxo,c,e,_⟩:=hb.at_ i _ _ hx 0093;rw[hb.lst] at e;cases e
 have ddo:d∉os:=λz=>by
  obtain⟨i,hx⟩:=aas.mp z;have hi2:=(aad.mp hx).1;have l1:=hb.lo;obtain⟨p,dxo,c,e,_⟩:=hb.at_ i _ _ hx 0093;obtain⟨kvs,rs,e2,_⟩:=hrw;rw[e2] at e;cases e
 refine gx _ (af (g_ aa5 rfl (c8 (K:=K) rfl 04) (bC (i:=1) lu.nd rfl 001) (af (bp (bE 014 (ma T) 01 (aa 04 ab)))))) ?_;kd_p;sleep 023;refine⟨ol,rfl,⟨_,ax.of hb.lst⟩,mi (xs:=os.map V.ref) (λi σ H'=>∃(a:Option V) (ps:016),σ=[some (.ref t),a]/\Kp os H H'/\ps.length=i/\ps.Nodup/\(∀p∈ps,H p=none)/\(∀p∈ps,∃xs,H' p=some 0090)/\(∀(j:Nat) (o p:Addr) (x:Order×Bool),os[j]? =some o->ps[j]? =some p->aw[j]? =some x->qC K A H' o p x.1 x.2 (SM.aO x.1 rows))/\(∀(j:Nat) (o:Addr) (x:Order×Bool),i<=j->os[j]? =some o->aw[j]? =some x->∃p,OB K A H' o p x.1 x.2)) ⟨none,[],rfl,Kp.refl _ _,rfl,ab5,λp hp=>(by cases hp),λp hp=>(by cases hp),λj o p x _ e=>(by simp at e),λj o x _ a b=>hb.at_ j o x a b⟩ (λi σ H' _ ⟨_,_,_,k2,_⟩=>ax.of (k2.keep _ _ hb.lst odo)) ?_ ?_⟩
 ·rintro i y σ H' hy ⟨a,ps,rfl,k2,pl,pn,pf,pe,dn,td⟩;rw[aai] at hy
  cases e:os[i]? with
  |none=>rw[e] at hy;cases hy
  |some o=>
   rw[e] at hy;obtain rfl:V.ref o=y:=aac hy;have l1:=hb.lo;have hil:i<os.length:=(aad.mp e).1;have e3:aw[i]? =some aw[i]:=aab 03;obtain⟨p0,hob⟩:=td i o _ 097 e e3;obtain⟨dxo,c,ho,hcc⟩:=id hob;have hs':=hs _ (abL (show i<aw.length by omega));kd_p;refine aF ho (eO 07) ?_;kd_p;refine ay (k2.keep _ _ h1 hto) T.ak T.aP cA ?_;kd_p;refine⟨o,p0,d,_,_,rows,rfl,hob,oF.of hs',hrw.kp k2 ddo,hg,hi,hl,λH2 p' k3 hp' ob2 pl2=>?_⟩
   have hpH:H p'=none:=k2.free hp' λz=>by
    obtain⟨j,hj⟩:=aas.mp z;by_cases hji:i<=j
    ·obtain⟨pp,dd,cc,e5,_⟩:=td j p' _ hji hj (aab (by
      have:=(aad.mp hj).1
      omega))
     rw[hp'] at e5;cases e5
    ·have hjl:=(aad.mp hj).1;obtain⟨dd,cc,e5,_⟩:=(dn j p' _ _ hj 0093 0093).obj;rw[hp'] at e5;cases e5
   have hnp:p'∉ps:=λz=>by
    obtain⟨xs,e5⟩:=pe p' z;rw[hp'] at e5;cases e5
   have nop:∀p∈ps,p∉[o]:=λp hp z=>by
    obtain⟨xs,e5⟩:=pe p hp;rw[aT z,ho] at e5;cases e5
   refine⟨_,ps++[p'],rfl,k2.trans (k3.mono λb hb=>by rw[aT hb];exact aap e),by rw[aah,abS,pl],?_,?_,?_,?_,?_⟩
   ·exact j8 pn hnp
   ·intro p hp;rcases aax.mp hp with z|z
    ·exact pf p z
    ·rw[aT z];exact hpH
   ·intro p hp;rcases aax.mp hp with z|z
    ·obtain⟨xs,e5⟩:=pe p z;exact⟨xs,k3.keep _ _ e5 (nop p z)⟩
    ·rw[aT z];obtain⟨as,e5,_⟩:=pl2;exact⟨_,e5⟩
   ·intro j o' p x ha hp hx;by_cases hji:j<i
    ·rw[abo 03] at hp;have q:=dn j o' p x ha hp hx;refine q.kp k3 (λz=>?_) (nop p (aap hp));have:o'=o:=aT z;subst this;have:=qM hnd ha e;omega
    ·have hjl:j=i:=by
      have:=(aad.mp hp).1;rw[aah,abS] at this;omega
     subst hjl;rw[e] at ha;cases ha;rw[e3] at hx;cases hx;rw[aa4 03,pl,adC] at hp;cases hp;exact⟨ob2,pl2⟩
   ·intro j o' x hj ha hx;obtain⟨p,q⟩:=td j o' x 03 ha hx;refine⟨p,q.kp k3 λz=>?_⟩;have:o'=o:=aT z;subst this;have:=qM hnd ha e;omega
 ·rintro σ H' ⟨a,ps,rfl,k2,pl,pn,pf,pe,dn,td⟩;rw[aaa] at pl;exact k H' ps k2 pn pf ⟨k2.keep _ _ hb.lst odo,hb.lo,pl.trans hb.lo,dn⟩
inductive wk(K:05)(A:aQ)(vs:0012)(H:Hp)(Q:VK)(E:XK):Prop
 |mk(t dx d ol cd ml dm:Addr)(n n' ch:Int)(os:016)(aw:033)(rows:Rows)(_:vs=[.ref t,.ref dm,.int n'])(_:H t=some (.ins A.cT dx (fT d n ol cd ml ch)))(_:jQ K A H ol os aw)(_:os.Nodup)(_:t∉os)(_:(∀x∈aw,Standbook.sound x.1=true))(_:fx K H dm rows)(_:SM.Good rows)(_:(∀x∈rows,Standbook.isRow x.2=true))(_:rows.length<=256)(_:∀H' d' ps,Kp (t::os) H H'->H d'=none->ps.Nodup->(∀p∈ps,H p=none)->H' t=some (.ins A.cT dx (fT d' n' ol cd ml ch))->fx K H' d' rows->gU K A H' ol os ps aw (λo=>SM.aO o rows)->Q .bS H')
def vo(T:006):024 A.cT 7 "restore" ["self","rows","next_number"] (wk K A):=by
 refine T.w4.ok vA 02;obtain⟨t,dx,d,ol,cd,ml,dm,n,n',ch,os,aw,rows,rfl,h1,hb,hnd,hto,hs,⟨kvs,rs,hd,hp,hrel⟩,hg,hi,hl,k⟩:=h;refine gx _ (ae (bR (K:=K) rfl 0094 (fi EF rfl T.J7 F1 0096) rfl) (ae (bR (K:=K) rfl 0094 034 rfl) (af (bp (bf 0094 (lh T) 01))))) ?_;kd_p;refine⟨dm,kvs,rfl,hd,λd' hd'=>?_⟩;kd_p;have nt:t≠d':=aG h1 hd';refine bL (by rw[aj nt];exact h1) T.ak T.aP 0002 ?_;rw[xN];kd_p;refine bL ah T.ak T.bg 0002 ?_;rw[pH,kn];have k1:Kp [t] H (upd (upd H d' 029) t 0042):=(Kp.same (.new hd')).trans (Kp.ins (by rw[aj nt];exact h1) _);have t1:upd (upd H d' 029) t 0042 t=some 0042:=ah;have d1:upd (upd H d' 029) t 0042 d'=some 029:=by rw[aj (abl nt),ah]
 generalize upd (upd H d' 029) t 0042=H1 at k1 t1 d1⊢;have rw1:fx K H1 d' rows:=⟨kvs,rs,d1,hp,L2.Paired.jE hrel λ_ _ z=>z.kp k1⟩;have kP:∀o∈os,o∉[t]:=λo ho z=>hto (by rw[<-aT z];exact ho)
 have olt:ol∉[t]:=λz=>by
  have e:=hb.lst;rw[aT z,h1] at e;cases e
 have hb1:=hb.kp k1 olt kP;kd_p;refine aF t1 (iw 07) ?_;kd_p;refine⟨t,dx,d',ol,cd,ml,n',ch,os,aw,rows,rfl,t1,hb1,hnd,hto,hs,rw1,hg,hi,hl,λH2 ps k2 hp1 hp2 ho2=>?_⟩
 have d'o:d'∉os:=λz=>by
  obtain⟨i,hx⟩:=aas.mp z;have hi2:=(aad.mp hx).1;have l1:=hb.lo;obtain⟨p,dxo,c,e,_⟩:=hb.at_ i _ _ hx 0093;rw[hd'] at e;cases e
 refine k H2 d' ps ((k1.mono λb hb=>by rw[aT hb];exact aae).trans (k2.mono λb hb=>aag _ hb)) hd' hp1 (λp hpp=>?_) (k2.keep _ _ t1 hto) (rw1.kp k2 d'o) ho2;refine k1.free (hp2 p hpp) λz=>?_;have e:=hp2 p hpp;rw[aT z,t1] at e;cases e
inductive zB(A:aQ)(vs:0012)(H:Hp)(Q:VK)(E:XK):Prop
 |mk(t dx d ol cd ml t2 dx2 d2 ol2 cd2 ml2:Addr)(n ch n2 ch2:Int)(_:vs=[.ref t,.ref t2])(_:t≠t2)(_:H t=some (.ins A.cT dx (fT d n ol cd ml ch)))(_:H t2=some (.ins A.cT dx2 (fT d2 n2 ol2 cd2 ml2 ch2)))(_:∀H' cd' ml',Kp [t] H H'->H cd'=none->H ml'=none->cd'≠ml'->H' t=some (.ins A.cT dx (fT d2 n2 ol2 cd' ml' 0))->H' cd'=some (.dK [])->H' ml'=some (.lst [])->Q .bS H')
def v7(T:006):024 A.cT 2 "become" ["self","other"] (zB A):=by
 refine T.xH.ok xc 02;obtain⟨t,dx,d,ol,cd,ml,t2,dx2,d2,ol2,cd2,ml2,n,ch,n2,ch2,rfl,hne,h1,h2,k⟩:=h;refine gx _ (ae (bp (bf 0094 (lA T) 01)) (ae (bR (K:=K) rfl 0094 0022 rfl) (ae (bR (K:=K) rfl 0094 0022 rfl) (af (bR (K:=K) rfl 0094 0022 rfl))))) ?_;kd_p;sleep 014;kd_p;refine⟨t,dx,_,rfl,h1,.inr ⟨d,n,ol,cd,ml,ch,rfl⟩,λH1 d' ol' cd' ml' k1 f1 f2 f3 f4 fr=>?_⟩;have t2n:t2∉[t]:=by simpa using abl hne
 have h2':=k1.keep _ _ h2 t2n;kd_p;refine ay h2' T.ak T.aP cA ?_;kd_p;refine bL fr.obj T.ak T.aP 0002 ?_;rw[xN];kd_p;refine ay (by rw[aj (abl hne)];exact h2') T.ak T.bg jt ?_;kd_p;refine bL ah T.ak T.bg 0002 ?_;rw[pH,kn];kd_p;refine ay (by rw[aj (abl hne)];exact h2') T.ak T.aJ bA ?_;kd_p;refine bL ah T.ak T.aJ 0002 ?_;rw[yJ,kn];have nc:cd'≠t:=cv fr.gD fr.obj 010;have nm:ml'≠t:=cv fr.gJ fr.obj 010;exact k _ cd' ml' (k1.trans (Kp.ins fr.obj _)) f3 f4 (cv fr.gD fr.gJ 010) ah (by rw[aj nc];exact fr.gD) (by rw[aj nm];exact fr.gJ)
inductive E5(A:aQ)(vs:0012)(H:Hp)(Q:VK)(E:XK):Prop
 |mk(t dx d ol cd ml:Addr)(n ch:Int)(_:vs=[.ref t])(_:H t=some (.ins A.cT dx (fT d n ol cd ml ch)))(_:∀H',Kp [t] H H'->H' t=some (.ins A.cT dx (fT d n ol cd ml (ch+1)))->Q .bS H')
def iL(T:006):024 A.cT 1 "note_change" ["self"] (E5 A):=by
 refine T.rW.ok qN 02;obtain⟨t,dx,d,ol,cd,ml,n,ch,rfl,h1,k⟩:=h;refine gx _ (af (bR (K:=K) rfl 0094 (bB gh 04 aA) rfl)) ?_;kd_p;refine ay h1 T.ak T.fg qi ?_;kd_p;refine bL h1 T.ak T.fg 0002 ?_;rw[m6];exact k _ (Kp.ins h1 _) ah
end Bk
section
namespace L2
open PySem PySem.Spec PyProof.Rows
def Jr{d:Addr}{o:Obj}{kvs:031}{g:TG}{tb:TS}{D:Ends}{σ:St}{H:Hp}(Pv:0076)(h0:Pv 0 σ H)(hl:∀i σ H,i<=kvs.length->Pv i σ H->H d=some (.bK o 029))(hs:∀i k x σ H,kvs[i]? =some (k,x)->Pv i σ H->g x σ H λσ2 H2=>tb {D with nx:=Pv (i+1),ct:=Pv (i+1),bk:=D.nx} σ2 H2)(hd:∀σ H,Pv kvs.length σ H->D.nx σ H):kFor g tb D σ (LS d o kvs) H:=by
 refine⟨λi m σ H=>m=kvs.length-i/\i<=kvs.length/\Pv i σ H,⟨kvs.length,0104,aaT _,h0⟩,?_⟩;rintro i m σ H ⟨rfl,hi,p⟩;have q:=hl i σ H hi p;by_cases hlt:i<kvs.length
 ·refine .inr ⟨⟨q,hlt⟩,Pv (i+1),λσ' H' p'=>⟨kvs.length-(i+1),0018,rfl,hlt,p'⟩,λx H' y=>?_⟩;obtain⟨rfl,k,e⟩:=y;exact hs i k x σ _ e p
 ·have e:i=kvs.length:=by omega
  subst e;exact .inl ⟨⟨q,aay _⟩,hd σ H p⟩
def MO{nx bk ct:St->Hp->Prop}{rt:VK}{σ:St}{H:Hp}{t:TS}{d:Addr}{u:HO}(h1:H d=some u)(h2:sr (some u))(h:∀od,t ⟨λσ' H'=>H' d=some 0078/\nx σ' (upd H' d u),λv H'=>H' d=some 0078/\rt v (upd H' d u),λσ' H'=>H' d=some 0078/\bk σ' (upd H' d u),λσ' H'=>H' d=some 0078/\ct σ' (upd H' d u)⟩ σ (upd H d 0078)):Mh t 096 σ H:=⟨d,u,h1,h2,h⟩
end L2
namespace Bk
open PySem PyProof.Rows L2
open Standbook (Order Rows Table Mark Cursor Spot)
variable{P:027}{w:066}{K:05}{mg:005}{base:Heap}{A:aQ}
def jx:Spot->Nat
 |.at_ _ n=>n
 |_=>0
def sV(od:0087)(s:Spot):(SM.dA od s).2=(jx s:Int):=by cases s<;>rfl
def wg(T:049)(cu:Cursor):Nat:=match cu.spot with
 |.at_ _ n=>if cu.isAt T n=true then n else 0
 |_=>0
def LF{T:049}{cu:Cursor}(h:T.row (jx cu.spot)=none):wg T cu=0:=by
 unfold wg
 cases e:cu.spot with
 |first=>rfl
 |last=>rfl
 |at_ r n=>
  rw[e] at h;have h:T.row n=none:=h
  have e2:cu.isAt T n=false:=by
   unfold Cursor.isAt;rw[e];show(n==n&&(match T.row n with|some x=>Standbook.before (T.spec cu.order) x r==0|none=>false))=false;rw[h,acz]
  show(if cu.isAt T n=true then n else 0)=0;rw[e2];rfl
def LA{T:049}(wf:SM.Wf T){cu:Cursor}{x:0017}(h:T.row (jx cu.spot)=some x):wg T cu=if SM.cZ (T.spec cu.order) (jx cu.spot,x)=SM.dA (T.spec cu.order) cu.spot then jx cu.spot else 0:=by
 have hn:1<=jx cu.spot:=(wf.rows.row _ (SM.gu h)).1;unfold wg
 cases e:cu.spot with
 |first=>rw[e] at hn;exact absurd hn 0010
 |last=>rw[e] at hn;exact absurd hn 0010
 |at_ r n=>
  rw[e] at h hn;have hn:1<=n:=hn;have h:T.row n=some x:=h;have q:=SM.LC (t:=T) (c:=cu) hn h;rw[e] at q;show(if cu.isAt T n=true then n else 0)=if SM.cZ (T.spec cu.order) (n,x)=SM.dA (T.spec cu.order) (.at_ r n) then n else 0
  by_cases z:cu.isAt T n=true
  ·rw[aav z,aav (q.mp z)]
  ·rw[aan z,aan λy=>z (q.mpr y)]
def Core.ord{H:Hp}{t:Addr}{L:Lay}{T:049}(h:Core K A H t L T.orders T.rows){k:Nat}(hk:k<T.orders.length):∃o p u,L.os[k]? =some o/\(L.os.map V.ref)[k]? =some (.ref o)/\T.orders[k]? =some (T.spec k,u)/\kG K A H o p 063 u 0037:=by
 have l1:=h.aw.lo;have l2:=h.aw.lp;have e1:L.os[k]? =some L.os[k]:=aab 03;have e2:L.ps[k]? =some L.ps[k]:=aab 03;have e3:T.orders[k]? =some T.orders[k]:=aab hk
 have e4:T.spec k=T.orders[k].1:=by
  unfold Table.spec;rw[e3];rfl
 have hs:=h.snd _ (abL hk);have a:=h.aw.at_ k _ _ _ e1 e2 e3;refine⟨_,L.ps[k],T.orders[k].2,e1,by rw[aai,e1];rfl,by rw[e3,e4],?_⟩;rw[e4];exact⟨a.obj,a.aO,oF.of hs,SM.i6 _ h.good,by rw[SM.lN];exact h.len⟩
def Core.kp{S:016}{H H':Hp}{t:Addr}{L:Lay}{aw:033}{rows:Rows}(k:0089)(h1:t∉S)(h2:L.d∉S)(h3:L.ol∉S)(h4:∀b∈L.os,b∉S)(h5:∀b∈L.ps,b∉S)(h:Core K A H t L aw rows):Core K A H' t L aw rows:=by
 obtain⟨dx,n,ch,e⟩:=h.obj;exact⟨⟨dx,n,ch,k.keep _ _ e h1⟩,h.rws.kp k h2,h.aw.kp k h3 h4 h5,h.snd,h.good,h.xm,h.len,h.nd⟩
inductive zy(K:05)(A:aQ)(vs:0012)(H:Hp)(Q:VK)(E:XK):Prop
 |mk(t c:Addr)(L:Lay)(T:049)(cu:Cursor)(_:vs=[.ref t,.ref c])(_:Core K A H t L T.orders T.rows)(_:SM.Wf T)(_:mW K A H c cu (T.spec cu.order))(_:cu.order<T.orders.length)(_:∀H',au H H'->Q (.int (wg T cu:Nat)) H')
def oy(T:006):024 A.cT 5 "row_at" ["self","cursor"] (zy K A):=by
 refine T.xy.ok kK 02;obtain⟨t,c,L,T',cu,rfl,hc,wf,⟨dxc,a,c1,c2⟩,ho,k⟩:=h;obtain⟨dx,nn,ch,h1⟩:=hc.obj;obtain⟨kvs,rs,hd,hp,hrel⟩:=hc.rws;obtain⟨kk,p1,p2⟩:=h_ c2;rw[sV] at p1;refine gx _ (ae (aB (i:=2) kK.nd rfl 001 (cj 0039 0022 aA 019)) (ae (aU (hJ (fq (dw hr) 034 04)) (af (ai aA)) aE) (ae (aB (i:=3) kK.nd rfl 001 (bE (cj 043 04 0022 019) (bM T) 01 (aa 034 (aa (gG (dw hr) 04 034 019) ab)))) (af (ai (jk (a9 (QU (K:=K) rfl hr.units) 072 0022 077) 034 aA)))))) ?_;kd_p;refine ay c1 T.bQ T.b7 lF ?_;kd_p;refine jv (j:=1) p1 rfl ?_;kd_p;sleep 011;refine fU hd ?_;kd_p
 cases e:T'.row (jx cu.spot) with
 |none=>
  have hv:eR kvs (Sum.inl (jx cu.spot:Int))=none:=iG hrel λz=>SM.iI e (((hp.map (·.1)).mem_iff).mp z);rw[hv];sleep 005;kd_p;have:=k H 042;rw[LF e] at this;exact this
 |some x=>
  have hm:=SM.gu e;obtain⟨ra,hv,hra⟩:=iz hrel (hc.good.perm hp) (hp.mem_iff.mpr hm);sleep 004;kd_p;sleep 023;kd_p;refine ay c1 T.bQ T.gE vn ?_;kd_p;obtain⟨o,p,u,o1,o2,o3,g⟩:=hc.ord ho;obtain⟨dxo,co,b1,b2⟩:=id g.ob;refine eT (ax.of hc.aw.lst) o2 ?_;sleep 04;sleep 011;kd_p;refine iT hd hv ?_;kd_p;refine⟨o,p,ra,_,u,_,x,rfl,g.ob,g.gL,.inr hra,hc.xm _ hm,λH1 pa s1 hpa=>?_⟩;kd_p;refine ay (s1 _ _ c1) T.bQ T.b7 lF ?_;refine⟨_,_,hpa.at_,bo.same s1 c2,?_⟩;kd_p;have fin:=k H1 s1;rw[LA wf e] at fin;sleep 018
  ·kd_p;rw[aav (show SM.cZ 026 (jx cu.spot,x)=_ from q)] at fin;exact fin
  ·kd_p;rw[aan (show¬SM.cZ 026 (jx cu.spot,x)=_ from q)] at fin;exact fin
def followed(T:049)(n:Nat)(row:0017)(c:Cursor):Cursor:=if(c.follows&&c.isAt T n)=true then{c with spot:=.at_ row n} else c
def zY(T:049)(n:Nat)(row:0017)(k:Nat):({T with cursors:=T.follow n row}:Table).cursor k=(T.cursor k).map (followed T n row):=by
 unfold Table.cursor Table.follow;rw[aai]
 cases T.cursors[k]? with
 |none=>rfl
 |some x=>cases x<;>rfl
def Jz{T:049}(wf:SM.Wf T){cu:Cursor}{n:Nat}(hn:1<=n):wg T cu=n↔cu.isAt T n=true:=by
 unfold wg
 cases e:cu.spot with
 |first=>
  refine⟨λh=>absurd h (by show¬0=n;omega),λh=>?_⟩;unfold Cursor.isAt at h;rw[e] at h;cases h
 |last=>
  refine⟨λh=>absurd h (by show¬0=n;omega),λh=>?_⟩;unfold Cursor.isAt at h;rw[e] at h;cases h
 |at_ r m=>
  show(if cu.isAt T m=true then m else 0)=n↔_;by_cases z:cu.isAt T m=true
  ·rw[aav z];refine⟨λh=>by rw[<-h];exact z,λh=>?_⟩;unfold Cursor.isAt at h;rw[e,aak] at h;exact abi.mp h.1
  ·rw[aan z];refine⟨λh=>by omega,λh=>?_⟩;have h':=h;unfold Cursor.isAt at h';rw[e,aak] at h';have:m=n:=abi.mp h'.1;subst this;exact absurd h z
inductive E4(K:05)(A:aQ)(vs:0012)(H:Hp)(Q:VK)(E:XK):Prop
 |mk(t r:Addr)(L:Lay)(T:049)(n:Nat)(row:0017)(_:vs=[.ref t,.int n,.ref r])(_:012)(_:1<=n)(_:ax K H r (nV row))(_:r∉L.all t)(_:068)(_:∀H',Kp (L.cs.map (·.2)) H H'->oj K A H' L.cd L.cs (λk=>(T.cursor k).map (followed T n row)) T.spec->Q .bS H')
def ot(T:006):024 A.cT 6 "move_followers" ["self","number","row"] (E4 K A):=by
 refine T.pq.ok jy 02;obtain⟨t,r,L,T',n,row,rfl,ht,hn,hr1,hr2,hi,k⟩:=h;sleep 010;obtain⟨dx,ch,h1,_⟩:=ht.obj;have gD:=ht.bz.gN;refine gx _ (af (M7 (g_ aa5 rfl (Il 04) (bC (i:=3) jy.nd rfl 001) (af (aU (PW.pt (Ba (br (aq (K:=K) rfl 072 rfl)) (yk (a9 fA (bE 0094 (oy T) 01 (aa 072 ab)) 014 077)))) (af (bR (K:=K) rfl 072 (bE (cj 043 04 (aq (K:=K) rfl 072 rfl) 019) (bM T) 01 0103) rfl)) aE))))) ?_;refine MO gD trivial λod=>?_;have ntc:t≠L.cd:=B9 bj im;have ndc:L.d≠L.cd:=B9 bj im;have noc:L.ol≠L.cd:=B9 bj im;have k0:Kp [L.cd] H (upd H L.cd (.bK od (.dK (e_ L.cs)))):=Kp.gN gD _;have c0:upd H L.cd (.bK od (.dK (e_ L.cs))) L.cd=some (.bK od (.dK (e_ L.cs))):=ah;generalize hH0:upd H L.cd (.bK od (.dK (e_ L.cs)))=H0 at k0 c0⊢;have zo:∀b∈L.os,b∉[L.cd]:=λb hb z=>(ap.fQ b hb).1 (by simp[aT z]);have psn:∀b∈L.ps,b∉[L.cd]:=λb hb z=>(ap.fG b hb).1 (by simp[aT z]);have csn:∀b∈L.cs.map (·.2),b∉[L.cd]:=λb hb z=>(ap.gC b hb).1 (by simp[aT z]);have core0:Core K A H0 t L T'.orders T'.rows:=ht.core.kp k0 (fN ntc) (fN ndc) (fN noc) zo psn;have cdn:L.cd∉L.cs.map (·.2):=λz=>(ap.gC _ z).1 im;have hr0:ax K H0 r (nV row):=ax.kp k0 (fN λz=>hr2 (by rw[z];exact Lay.vH)) hr1;have nocs:∀{b:Addr},b∈[t,L.d,L.ol,L.cd,L.ml]->b∉L.cs.map (·.2):=λhb z=>(ap.gC _ z).1 hb;kd_p;refine ay (k0.keep _ _ h1 (fN ntc)) T.ak T.bt dk ?_;refine⟨L.cd,od,_,rfl,c0,Jr (λi σ H'=>∃a:Option V,σ=[some (.ref t),some (.int n),some (.ref r),a]/\Kp (L.cs.map (·.2)) H0 H'/\∀(j m:Nat) (c:Addr) (cu:Cursor),L.cs[j]? =some (m,c)->T'.cursor m=some cu->mW K A H' c (if j<i then followed T' n row cu else cu) 026) ⟨none,rfl,Kp.refl _ _,λj m c cu e1 e2=>?_⟩ (λi σ H' _ ⟨_,_,k2,_⟩=>k2.keep _ _ c0 cdn) ?_ ?_⟩
 ·rw[aan (abR _)];exact(ht.bz.at_ m c cu (aap e1) e2).kp k0 (csn c (aaw.mpr ⟨_,aap e1,rfl⟩))
 ·rintro i key x σ H' hx ⟨a,rfl,k2,cc⟩;unfold e_ at hx;rw[aai] at hx
  cases e:L.cs[i]? with
  |none=>rw[e] at hx;cases hx
  |some mc=>
   obtain⟨m,c⟩:=mc;rw[e] at hx;have hx':=aac hx;obtain rfl:V.ref c=x:=aby Prod.snd hx';have hmem:(m,c)∈L.cs:=aap e;obtain⟨cu,hcu⟩:=abW.mp ((ht.bz.has m).mpr (aaw.mpr ⟨_,hmem,rfl⟩))
   have hin:some cu∈T'.cursors:=by
    unfold Table.cursor at hcu
    cases e5:T'.cursors[m]? with
    |none=>rw[e5] at hcu;cases hcu
    |some y=>
     rw[e5] at hcu;have:y=some cu:=hcu;rw[<-this];exact aap e5
   have hck:=ht.wf.ck cu hin;have q:=cc i m c cu e hcu;rw[aan (abu _)] at q;obtain⟨dxc,pa,c1,c2⟩:=id q;have hcm:c∈L.cs.map (·.2):=aaw.mpr ⟨_,hmem,rfl⟩;have core1:Core K A H' t L T'.orders T'.rows:=core0.kp k2 (nocs im) (nocs im) (nocs im) (λb hb z=>(ap.fQ b hb).2.2.1 z) (λb hb z=>(ap.fG b hb).2.2.1 z);obtain⟨dxt,nn,ch2,t1⟩:=core1.obj
   have mL:∀{H2:Hp},au H' H2->followed T' n row cu=cu->∃a':Option V,[some (V.ref t),some (.int n),some (.ref r),some (V.ref c)]=[some (V.ref t),some (.int n),some (.ref r),a']/\Kp (L.cs.map (·.2)) H0 H2/\
     ∀(j m:Nat) (c:Addr) (cu:Cursor),L.cs[j]? =some (m,c)->T'.cursor m=some cu->mW K A H2 c (if j<i+1 then followed T' n row cu else cu) 026:=by
    intro H2 s2 ef;refine⟨_,rfl,k2.trans (Kp.same s2),λj m' c' cu' e1 e2=>?_⟩;have q:=(cc j m' c' cu' e1 e2).kp (S:=[]) (Kp.same s2) 017;by_cases z:j<i
    ·rw[aav z] at q;rw[aav 03];exact q
    ·by_cases z2:j=i
     ·subst z2;rw[e] at e1;cases e1;rw[hcu] at e2;cases e2;rw[aav (acb _),ef];rw[aan z] at q;exact q
     ·rw[aan z] at q;rw[aan 03];exact q
   kd_p;refine ay c1 T.bQ T.mO Hb ?_;kd_p;refine jf (λz=>?_) (λz=>?_)
   ·kd_p;refine aF t1 (iw 07) ?_;kd_p;refine⟨t,c,L,T',cu,rfl,core1,ht.wf,q,hck.1,λH2 s2=>?_⟩;kd_p;refine cw (λz2=>?_) (λz2=>?_)
    ·have hat:cu.isAt T' n=true:=(Jz ht.wf hn).mp 03
     have ef:followed T' n row cu={cu with spot:=.at_ row n}:=by
      unfold followed;rw[z,hat];rfl
     kd_p;refine ay (s2 _ _ t1) T.ak T.aJ bA ?_;kd_p;refine ay (s2 _ _ c1) T.bQ T.gE vn ?_;kd_p;obtain⟨o,p,u,o1,o2,o3,g⟩:=core1.ord hck.1;have g2:=g.same s2;obtain⟨dxo,co,b1,b2⟩:=id g2.ob;refine eT (ax.of (s2 _ _ core1.aw.lst)) o2 ?_;sleep 04;have hr3:ax K H2 r (nV row):=s2.seq (ax.kp k2 (λz=>hr2 (Lay.sJ z)) hr0);refine⟨o,p,r,_,u,_,row,rfl,g2.ob,g2.gL,.inl hr3,hi,λH3 pb s3 hpb=>?_⟩;kd_p;have s23:=s2.trans s3;refine bL (s23 _ _ c1) T.bQ T.b7 0057 ?_;rw[lJ];have k4:=Kp.ins (s23 _ _ c1) 060;refine⟨_,rfl,(k2.trans (Kp.same s23)).trans (k4.mono λb hb=>by rw[aT hb];exact hcm),λj m' c' cu' e1 e2=>?_⟩;by_cases z3:j=i
     ·subst z3;rw[e] at e1;cases e1;rw[hcu] at e2;cases e2;rw[aav (acb _),ef];exact⟨dxc,pb,ah,bo.kp k4 hpb.at_⟩
     ·have q:=(cc j m' c' cu' e1 e2).kp (S:=[]) (Kp.same s23) 017
      have e6:(if j<i+1 then followed T' n row cu' else cu')=if j<i then followed T' n row cu' else cu':=by
       by_cases z4:j<i
       ·rw[aav z4,aav 03]
       ·rw[aan z4,aan 03]
      rw[e6];refine q.kp k4 λz5=>z3 ?_;have z6:c'=c:=aT z5;subst z6;exact qM ap.cs (i:=j) (j:=i) (x:=c') (by rw[aai,e1];rfl) (by rw[aai,e];rfl)
    ·kd_p;refine mL s2 ?_;unfold followed;rw[aan];rw[aak];rintro⟨_,y⟩;exact z2 (by have:=(Jz ht.wf hn).mpr y;omega)
   ·kd_p;refine mL 042 ?_;unfold followed;rw[z];rfl
 ·rintro σ H' ⟨a,rfl,k2,cc⟩;have hlen:(e_ L.cs).length=L.cs.length:=by unfold e_;rw[aaa]
  rw[hlen] at cc;have c5:=k2.keep _ _ c0 cdn;refine⟨c5,?_⟩
  have k6:Kp (L.cs.map (·.2)) H (upd H' L.cd (.dK (e_ L.cs))):=by
   refine⟨λb o e hb=>?_,λb xs e=>?_,λb o u e=>?_⟩
   ·by_cases z:b=L.cd
    ·subst z;rw[gD] at e;cases e;exact ah
    ·rw[aj z];exact k2.keep _ _ (k0.keep _ _ e 0084) hb
   ·have z:b≠L.cd:=cv e gD 010;rw[aj z];exact k2.fP _ _ (k0.fP _ _ e)
   ·have z:b≠L.cd:=cv e gD 010;rw[aj z];exact k2.eM _ _ _ (k0.eM _ _ _ e)
  refine k _ k6 ⟨ah,ht.bz.nd,λm=>?_,λm c cu' hm e=>?_⟩
  ·rw[ads];exact ht.bz.has m
  ·obtain⟨j,hj⟩:=aas.mp hm
   cases e5:T'.cursor m with
   |none=>rw[e5] at e;cases e
   |some cu=>
    rw[e5] at e;have e:followed T' n row cu=cu':=aac e;have q:=cc j m c cu hj e5;rw[aav (aad.mp hj).1,e] at q
    have eo:cu'.order=cu.order:=by
     rw[<-e];unfold followed
     split<;>rfl
    rw[eo];obtain⟨dxc,pa,c1,kk,p1,p2,p3⟩:=q;have zc:c≠L.cd:=λz=>cdn (by rw[<-z];exact aaw.mpr ⟨_,hm,rfl⟩);have kt:Kp [L.cd] H' (upd H' L.cd (.dK (e_ L.cs)))\/True:=.inr trivial
    have sq:∀{b:Addr} {xs:0012},bw K H' b xs->bw K (upd H' L.cd (.dK (e_ L.cs))) b xs:=λ{b xs} h=>by
     rcases h with(h|⟨o,h⟩)|h
     ·exact .inl (.inl (by rw[aj (cv h c5 (by intro z;cases z))];exact h))
     ·by_cases z:b=L.cd
      ·subst z;rw[c5] at h;cases h
      ·exact .inl (.inr ⟨o,by rw[aj z];exact h⟩)
     ·exact .inr h
    exact⟨dxc,pa,by rw[aj zc];exact c1,kk,p1,p2,sq p3.1,sq p3.2⟩
end Bk
end
namespace Bk
open PySem PyProof.Rows L2
open Standbook (Order Rows Table Mark Cursor Spot)
variable{P:027}{w:066}{K:05}{mg:005}{base:Heap}{A:aQ}
inductive rm(K:05)(A:aQ)(vs:0012)(H:Hp)(Q:VK)(E:XK):Prop
 |mk(t:Addr)(L:Lay)(T:049)(_:vs=[.ref t])(_:012)(_:∀H' L',TabAt K A H' t L' Standbook.empty->Fr t H L H' L'->Q (.int 0) H')
def zQ(T:006):000 2 "begin_anew" ["table"] (rm K A):=by
 refine T.Dg.ok zI 02;obtain⟨t,L,T',rfl,ht,k⟩:=h;obtain⟨dx,ch,h1,_⟩:=ht.obj;refine gx _ (ae (bp (bf 0094 (lA T) 01)) (af (ai aA))) ?_;kd_p;sleep 014;kd_p;refine⟨t,dx,_,rfl,h1,.inr ⟨_,_,_,_,_,_,rfl⟩,λH1 d ol cd ml k1 f1 f2 f3 f4 fr=>?_⟩;kd_p;refine k H1 _ fr.tab ⟨k1.mono λb hb=>by rw[aT hb];exact Lay.pP,052⟩;have hb:b=t\/b=d\/b=ol\/b=cd\/b=ml:=by simpa[Lay.all] using hb
 rcases hb with rfl|rfl|rfl|rfl|rfl
 ·exact .inl Lay.pP
 ·exact .inr f1
 ·exact .inr f2
 ·exact .inr f3
 ·exact .inr f4
def B6(T:049)(row:0017)(n:Nat):Int:=match T.clash row n with
 |some k=> -20-(k:Int)
 |none=>if T.full=true then-9 else 0
def sC{T:049}{row:0017}{n j:Nat}(h:T.clash row n=some j):B6 T row n= -20-(j:Int):=by unfold B6;rw[h]
def tS{T:049}{row:0017}{n:Nat}(h:T.clash row n=none):B6 T row n=if T.full=true then-9 else 0:=by unfold B6;rw[h]
theorem vX{α:Type}{f g:α->Bool}:∀{l:076},(∀y∈l,f y=g y)->l.any f=l.any g
 |[],_=>rfl
 |a::l,h=>by rw[ach,ach,h a aae,vX λy hy=>h y (aag _ hy)]
inductive wG(K:05)(A:aQ)(vs:0012)(H:Hp)(Q:VK)(E:XK):Prop
 |mk(t r:Addr)(L:Lay)(T:049)(n:Nat)(row:0017)(_:vs=[.ref t,.int n,.ref r])(_:012)(_:Sq K H r (nV row))(_:068)(_:∀H',au H H'->Q (.int (B6 T row n)) H')
def kL(T:006):000 8 "refusal_of_fields" ["table","number","row"] (wG K A):=by
 refine T.rY.ok kU 02;obtain⟨t,r,L,T',n,row,rfl,ht,hr1,hi,k⟩:=h;obtain⟨dx,ch,h1,_⟩:=ht.obj;refine gx _ (ae (aB (i:=3) kU.nd rfl 001 (bE 0094 (px T) 01 0103)) (ae (aU (a9 MK 072 Jw 077) (af (ai (bB jJ (aD T.Ey rfl) 072))) aE) (ae (aU (bT (br (bf 0094 (il T) 01))) (af (ai (aD T.oX rfl))) aE) (af (ai aA))))) ?_;kd_p;sleep 014;kd_p;refine⟨t,r,L,T',n,row,rfl,ht,hr1,hi,λH1 s1=>?_⟩;have h1':=s1 _ _ h1
 cases e:T'.clash row n with
 |some j=>
  rw[sC e] at k;rw[show Oi (some j)=V.int (j:Nat) from rfl];kd_p;refine 0091;kd_p;rw[aal 010];sleep 005;kd_p;exact k _ s1
 |none=>
  rw[tS e] at k;rw[show Oi none=V.bS from rfl];kd_p;refine 0091;kd_p;rw[aaj rfl];show if false=true then _ else _
  kd_p;refine aF h1' (iw 07) ?_;kd_p;refine⟨t,L,T',rfl,ht.same s1,?_⟩;kd_p;rw[aeR];sleep 025
  ·kd_p;have:=k _ s1;rw[aav q] at this;exact this
  ·kd_p;have:=k _ s1;rw[aan 091] at this;exact this
def Je{H H':Hp}{t dx:Addr}{L:Lay}{T T':049}{ch:Int}(ht:012)(k:Kp (t::L.d::L.ps) H H')(core:Core K A H' t L T'.orders T'.rows)(wf:SM.Wf T')(obj:H' t=some (.ins A.cT dx (fT L.d (T'.next:Nat) L.ol L.cd L.ml ch)))(hch:T'.marks≠[]->ch=(T'.changes:Nat))(h2:T'.cursors=T.cursors)(h3:T'.marks=T.marks)(h4:T'.orders=T.orders):TabAt K A H' t L T':=by
 sleep 010
 have nS:∀{b:Addr},b≠t->b≠L.d->b∉L.ps->b∉t::L.d::L.ps:=λh1 h2 h3 z=>by
  sleep 021
  ·exact h1 z
  ·sleep 021
   ·exact h2 z
   ·exact h3 z
 have nps:∀{b:Addr},b∈[t,L.d,L.ol,L.cd,L.ml]->b∉L.ps:=λhb z=>(ap.fG _ z).1 hb;have c1:L.cd≠t:=xr bj im;have c2:L.cd≠L.d:=yo bj im;have m1:L.ml≠t:=xr bj im;have m2:L.ml≠L.d:=yo bj im;have off:∀{b:Addr},b∉[t,L.d,L.ol,L.cd,L.ml]->b∉L.ps->b∉t::L.d::L.ps:=λh1 h2=>nS (λe=>h1 (by simp[e])) (λe=>h1 (by simp[e])) h2;have hcur:T'.cursor=T.cursor:=by unfold Table.cursor;rw[h2]
 have hspec:T'.spec=T.spec:=by unfold Table.spec;rw[h4]
 refine⟨wf,⟨dx,ch,obj,hch⟩,core.rws,core.aw,?_,?_,ht.nd⟩
 ·rw[hcur,hspec];exact ht.bz.kp k (nS c1 c2 (nps im)) λc hc=>off (ap.gC c hc).1 (ap.gC c hc).2.2.1
 ·rw[h3];exact ht.marks.kp k (nS m1 m2 (nps im)) (λc hc=>off (ap.gI c hc).1 (ap.gI c hc).2.2.1) λc hc=>off (ap.ip c hc).1 (ap.ip c hc).2.2.1
def kP{L:Lay}{t b:Addr}(h:b∉[t,L.d,L.ol,L.cd,L.ml]):b∉[t]:=λz=>h (by
 have e:b=t:=aT z;rw[e]
 exact aae)
def Kp.BW{H H':Hp}{t:Addr}{L:Lay}(k:Kp (t::L.d::L.ps) H H'):Kp (L.all t) H H':=k.mono λb hb=>by
 rcases aao.mp hb with rfl|hb
 ·exact Lay.pP
 ·rcases aao.mp hb with rfl|hb
  ·exact Lay.LW
  ·exact Lay.GC hb
def w6{T:049}(wf:SM.Wf T)(row:0017):T.clash row T.next=T.clash row 0:=by
 unfold Table.clash
 congr 1
 funext x
 congr 1
 refine vX λy hy=>?_;have h:=wf.rows.row y hy;have e1:(y.1 !=T.next)=true:=abE.mpr 03;have e2:(y.1 !=0)=true:=abE.mpr 03;rw[e1,e2]
inductive Kb(K:05)(A:aQ)(vs:0012)(H:Hp)(Q:VK)(E:XK):Prop
 |mk(t r:Addr)(L:Lay)(T:049)(ns:015)(_:vs=[.ref t,.ref r])(_:012)(_:ax K H r (nV ns))(_:r∉L.all t)(_:0086)(_:∀H' L',TabAt K A H' t L' (if Standbook.isRow ns=true then(T.put ns).1 else T)->Fr t H L H' L'->L'.os=L.os->Q (.int (if Standbook.isRow ns=true then(T.put ns).2 else-1)) H')
def vZ(T:006):000 9 "put_row" ["table","row"] (Kb K A):=by
 refine T.J4.ok rg 02;obtain⟨t,r,L,T',ns,rfl,ht,hr1,hr2,hl,k⟩:=h;sleep 06;refine gx _ (ae (aU (bT (br (aS (fk T) 01 rfl 0096))) 0003 aE) (ae (aU (bT (br (bf 0094 (mX T) 01))) (af (ai (aD T.oI rfl))) aE) (ae (aB (i:=2) rg.nd rfl 001 04) (ae (aB (i:=3) rg.nd rfl 001 (aS (kL T) 01 rfl (aa 0094 (aa 034 0096)))) (ae (aU (a9 ij 072 aA 077) (af (ai 072)) aE) (ae (bp (bE 0094 (nu T) 01 (aa 034 0096))) (ae (bR (K:=K) rfl 0094 (bB gh 034 aA) rfl) (ae (bp (bf 0094 (iL T) 01)) (af (ai 034)))))))))) ?_;sleep 055;refine dz 0063 0063
 ·kd_p;have:=k H1 L (by rw[q];exact ht1) (Fr.same s1) rfl;rw[q] at this;exact this
 ·rw[q] at k
  have k:∀H' L',TabAt K A H' t L' (T'.put ns).1->Fr t H L H' L'->L'.os=L.os->Q (.int (T'.put ns).2) H':=λH' L' a b=>by
   have:=k H' L' (by rw[aav rfl];exact a) b;rw[aav rfl] at this;exact this
  unfold Table.put at k;kd_p;refine aF h1' (iw 07) ?_;kd_p;refine⟨t,L,T',rfl,ht1,?_⟩;kd_p;sleep 038
  ·kd_p
   have hc:Standbook.ROWS<=T'.rows.length\/Standbook.NUMBERS<T'.next:=by
    show 256<=T'.rows.length\/2147483647<T'.next;by_cases z:T'.rows.length<256
    ·rw[aaj z,abQ] at q2;exact .inr (by have:=abx q2;omega)
    ·exact .inl 03
   rw[aav hc] at k;exact k H1 L ht1 (Fr.same s1) rfl
  ·have q3:=q2;rw[aak] at q3;have z1:=aar q3.1;have z2:=aar q3.2
   have hc:¬(Standbook.ROWS<=T'.rows.length\/Standbook.NUMBERS<T'.next):=by
    show¬(256<=T'.rows.length\/2147483647<T'.next);omega
   rw[aan hc] at k;kd_p;refine ay h1' T.ak T.bg jt ?_;kd_p;refine⟨t,r,L,T',T'.next,ns,rfl,ht1,.inl (s1.seq hr1),q,λH2 s2=>?_⟩;have s12:=s1.trans s2;have ht2:=ht.same s12
   cases e:T'.clash ns 0 with
   |some j=>
    rw[e] at k;rw[sC ((w6 ht.wf ns).trans e)];kd_p;refine cw (λ_=>?_) (λz=>absurd z 03);kd_p;exact k H2 L ht2 (Fr.same s12) rfl
   |none=>
    rw[e] at k;rw[tS ((w6 ht.wf ns).trans e)];kd_p
    cases ef:T'.full with
    |true=>
     rw[ef] at k;kd_p;refine cw (λ_=>?_) (λz=>absurd z 0010);kd_p;exact k H2 L ht2 (Fr.same s12) rfl
    |false=>
     rw[ef] at k;kd_p;refine cw (λz=>absurd z 0010) (λ_=>?_);kd_p;have h2':=s12 _ _ h1;refine aF h2' (iw 07) ?_;kd_p;refine⟨t,r,L,T'.orders,T'.rows,T'.next,ns,rfl,ht2.core,ht.wf.rows.fresh,z1,s12.seq hr1,hr2,q,λH3 k3 c3=>?_⟩;have core3:=c3 (T'.rows++[(T'.next,ns)]) (List.perm_append_comm);obtain⟨dx3,n3,ch3,t3⟩:=core3.obj;have ap:=Lay.apart ht.nd
     have tn:t∉L.d::L.ps:=λz=>by
      sleep 021
      ·have bj:=ap.bj;simp[z] at bj
      ·exact(ap.fG _ z).1 im
     have t3':=k3.keep _ _ h2' tn;kd_p;refine bL t3' T.ak T.bg 0002 ?_;rw[pH];have k4:=Kp.ins t3' (.ins A.cT dx (fT L.d ((T'.next:Int)+1) L.ol L.cd L.ml ch));kd_p;refine aF ah (iw 07) ?_;kd_p;refine⟨t,dx,_,_,_,_,_,_,rfl,ah,λH5 k5 t5=>?_⟩;kd_p;have k45:Kp [t] H3 H5:=k4.trans k5;have kall:Kp (t::L.d::L.ps) H H5:=((Kp.same s12).trans (k3.mono λb hb=>aag _ hb)).trans (k45.mono λb hb=>by rw[aT hb];exact aae);have bj:=ap.bj
     have ntd:L.d∉[t]:=by
      intro z;rw[aT z] at bj;simp at bj
     have nto:L.ol∉[t]:=by
      intro z;rw[aT z] at bj;simp at bj
     have core5:Core K A H5 t L T'.orders (T'.rows++[(T'.next,ns)]):=by
      refine⟨⟨dx,_,_,t5⟩,core3.rws.kp k45 ntd,core3.aw.kp k45 nto (λb hb=>kP (ap.fQ b hb).1) (λb hb=>kP (ap.fG b hb).1),core3.snd,core3.good,core3.xm,core3.len,core3.nd⟩
     refine k H5 L (Je (dx:=dx) (T':={T'.changed (T'.rows++[(T'.next,ns)]) with next:=T'.next+1}) (ch:=ch+1) ht kall core5 (ht.wf.Rm q z1 z2) ?_ (λhm=>?_) rfl rfl rfl) ⟨kall.BW,λb hb=>.inl hb⟩ rfl
     ·rw[t5];rfl
     ·have hm:T'.marks≠[]:=hm;have e7:=hch hm;show ch+1=((if T'.marks.isEmpty=true then 0 else T'.changes+1:Nat):Int)
      have e8:T'.marks.isEmpty=false:=by
       cases z:T'.marks with
       |nil=>exact absurd z hm
       |cons a l=>rfl
      rw[e8,e7];rfl
def wC{T:049}{ch:Int}{l:Rows}(hch:T.marks≠[]->ch=(T.changes:Nat)):(T.changed l).marks≠[]->ch+1=((T.changed l).changes:Nat):=λhm=>by
 have hm:T.marks≠[]:=hm;have e7:=hch hm;show ch+1=((if T.marks.isEmpty=true then 0 else T.changes+1:Nat):Int)
 have e8:T.marks.isEmpty=false:=by
  cases z:T.marks with
  |nil=>exact absurd z hm
  |cons a l=>rfl
 rw[e8,e7];rfl
def Apart.KP{L:Lay}{t:Addr}(ap:Apart L t):t∉L.d::L.ps:=λz=>by
 sleep 021
 ·have bj:=ap.bj;simp[z] at bj
 ·exact(ap.fG _ z).1 im
def Core.JK{H H':Hp}{t dx:Addr}{L:Lay}{aw:033}{rows:Rows}{n ch:Int}(c:Core K A H t L aw rows)(k:Kp [t] H H')(e:H' t=some (.ins A.cT dx (fT L.d n L.ol L.cd L.ml ch))):Core K A H' t L aw rows:=by
 have ap:=Lay.apart c.nd;have bj:=ap.bj
 have ntd:L.d∉[t]:=by
  intro z;rw[aT z] at bj;simp at bj
 have nto:L.ol∉[t]:=by
  intro z;rw[aT z] at bj;simp at bj
 exact⟨⟨dx,_,_,e⟩,c.rws.kp k ntd,c.aw.kp k nto (λb hb=>kP (ap.fQ b hb).1) (λb hb=>kP (ap.fG b hb).1),c.snd,c.good,c.xm,c.len,c.nd⟩
inductive EX(K:05)(A:aQ)(vs:0012)(H:Hp)(Q:VK)(E:XK):Prop
 |mk(t:Addr)(L:Lay)(T:049)(n:Nat)(_:vs=[.ref t,.int n])(_:012)(_:∀H' L',TabAt K A H' t L' (T.take n).1->Fr t H L H' L'->L'.os=L.os->Q (.int (T.take n).2) H')
def ve(T:006):000 7 "take_row" ["table","number"] (EX K A):=by
 refine T.Gq.ok Ef 02;obtain⟨t,L,T',n,rfl,ht,k⟩:=h;sleep 06;sleep 031;have ap:=Lay.apart ht.nd;unfold Table.take at k;refine gx _ (ae 0025 (ae (aU (bT (br (bf 0094 (il T) 01))) (af (ai (aD T.oX rfl))) aE) (ae (bp (bE 0094 (ll T) 01 0096)) (ae (bp (bf 0094 (iL T) 01)) (af (ai aA)))))) ?_;kd_p;sleep 011;refine fU hd ?_;kd_p
 cases e:T'.row n with
 |none=>
  rw[e] at k;have hv:eR kvs 0006=none:=iG hrel λz=>SM.iI e (((hp.map (·.1)).mem_iff).mp z);rw[hv];sleep 005;kd_p;exact k H L ht Fr.refl rfl
 |some x=>
  rw[e] at k;have hm:=SM.gu e;obtain⟨ra,hv,hra⟩:=iz hrel 0051 (hp.mem_iff.mpr hm);sleep 004;kd_p;sleep 014;kd_p;refine⟨t,L,T',rfl,ht,?_⟩;kd_p;rw[aeR];sleep 025
  ·kd_p;rw[q] at k;exact k H L ht Fr.refl rfl
  ·rw[q] at k;kd_p;sleep 014;kd_p;refine⟨t,L,T'.orders,T'.rows,n,x,rfl,ht.core,hm,λH3 k3 c3=>?_⟩;have core3:=c3 (T'.rows.filter λ(x:020)=>x.1 !=n) (SM.me ht.wf.rows.good hm);have t3:=k3.keep _ _ h1 ap.KP;kd_p;refine aF t3 (iw 07) ?_;kd_p;refine⟨t,dx,_,_,_,_,_,_,rfl,t3,λH5 k5 t5=>?_⟩;kd_p;have kall:Kp (t::L.d::L.ps) H H5:=(k3.mono λb hb=>aag _ hb).trans (k5.mono λb hb=>by rw[aT hb];exact aae);exact k H5 L (Je (dx:=dx) (T':=T'.changed (T'.rows.filter λ(x:020)=>x.1 !=n)) (ch:=ch+1) ht kall (core3.JK k5 t5) (ht.wf.NN n) t5 (wC hch) rfl rfl rfl) ⟨kall.BW,λb hb=>.inl hb⟩ rfl
inductive Kf(K:05)(A:aQ)(vs:0012)(H:Hp)(Q:VK)(E:XK):Prop
 |mk(t r:Addr)(L:Lay)(T:049)(n:Nat)(ns:015)(_:vs=[.ref t,.int n,.ref r])(_:012)(_:ax K H r (nV ns))(_:r∉L.all t)(_:0086)(_:∀H' L',TabAt K A H' t L' (if Standbook.isRow ns=true then(T.set n ns).1 else T)->Fr t H L H' L'->L'.os=L.os->Q (.int (if Standbook.isRow ns=true then(T.set n ns).2 else-1)) H')
def vW(T:006):000 9 "set_row" ["table","number","row"] (Kf K A):=by
 refine T.Kj.ok v5 02;obtain⟨t,r,L,T',n,ns,rfl,ht,hr1,hr2,hl,k⟩:=h;sleep 06;have ap:=Lay.apart ht.nd;refine gx _ (ae (aU (bT (br (aS (fk T) 01 rfl 0023))) 0003 aE) (ae 0025 (ae (aB (i:=3) v5.nd rfl 001 (aS (kL T) 01 rfl (aa 0094 0103))) (ae (aU (a9 ij 072 aA 077) (af (ai 072)) aE) (ae (bp (bE 0094 (ot T) 01 0103)) (ae (bp (bE 0094 (ll T) 01 0096)) (ae (bp (bE 0094 (nu T) 01 0103)) (ae (bp (bf 0094 (iL T) 01)) (af (ai aA)))))))))) ?_;sleep 055;refine dz 0063 0063
 ·kd_p;have:=k H1 L (by rw[q];exact ht1) (Fr.same s1) rfl;rw[q] at this;exact this
 ·rw[q] at k
  have k:∀H' L',TabAt K A H' t L' (T'.set n ns).1->Fr t H L H' L'->L'.os=L.os->Q (.int (T'.set n ns).2) H':=λH' L' a b=>by
   have:=k H' L' (by rw[aav rfl];exact a) b;rw[aav rfl] at this;exact this
  unfold Table.set at k;obtain⟨kvs,rs,hd,hp,hrel⟩:=ht1.rows;kd_p;refine ay h1' T.ak T.aP cA ?_;refine fU hd ?_;kd_p
  cases e:T'.row n with
  |none=>
   rw[e] at k;have hv:eR kvs 0006=none:=iG hrel λz=>SM.iI e (((hp.map (·.1)).mem_iff).mp z);rw[hv];sleep 005;kd_p;exact k H1 L ht1 (Fr.same s1) rfl
  |some x=>
   rw[e] at k;have hm:=SM.gu e;have hn1:1<=n:=(ht.wf.rows.row _ hm).1
   have hn2:n<=4294967295:=by
    have:=(ht.wf.rows.row _ hm).2.1;have:=ht.wf.rows.nx.2;omega
   obtain⟨ra,hv,hra⟩:=iz hrel 0051 (hp.mem_iff.mpr hm);sleep 004;kd_p;refine⟨t,r,L,T',n,ns,rfl,ht1,.inl (s1.seq hr1),q,λH2 s2=>?_⟩;have s12:=s1.trans s2;have ht2:=ht.same s12;have h2':=s12 _ _ h1
   cases e2:T'.clash ns n with
   |some j=>
    rw[e2] at k;rw[sC e2];kd_p;refine cw (λ_=>?_) (λz=>absurd z 03);kd_p;exact k H2 L ht2 (Fr.same s12) rfl
   |none=>
    rw[e2] at k;rw[tS e2];kd_p
    cases ef:T'.full with
    |true=>
     rw[ef] at k;kd_p;refine cw (λ_=>?_) (λz=>absurd z 0010);kd_p;exact k H2 L ht2 (Fr.same s12) rfl
    |false=>
     rw[ef] at k;kd_p;refine cw (λz=>absurd z 0010) (λ_=>?_);kd_p;refine aF h2' (iw 07) ?_;kd_p;refine⟨t,r,L,T',n,ns,rfl,ht2,hn1,s12.seq hr1,hr2,q,λH3 k3 cu3=>?_⟩;have nocs:∀{b:Addr},b∈[t,L.d,L.ol,L.cd,L.ml]->b∉L.cs.map (·.2):=λhb z=>(ap.gC _ z).1 hb;have core3:Core K A H3 t L T'.orders T'.rows:=ht2.core.kp k3 (nocs im) (nocs im) (nocs im) (λb hb z=>(ap.fQ b hb).2.2.1 z) (λb hb z=>(ap.fG b hb).2.2.1 z);have t3:=k3.keep _ _ h2' (nocs im);kd_p;refine aF t3 (iw 07) ?_;kd_p;refine⟨t,L,T'.orders,T'.rows,n,x,rfl,core3,hm,λH4 k4 c4=>?_⟩;have core4:=c4 (T'.rows.filter λ(x:020)=>x.1 !=n) (SM.me ht.wf.rows.good hm);have t4:=k4.keep _ _ t3 ap.KP
     have r_dp:r∉L.d::L.ps:=λz=>by
      sleep 021
      ·exact hr2 (by rw[z];exact Lay.LW)
      ·exact hr2 (Lay.GC z)
     have hr4:ax K H4 r (nV ns):=ax.kp k4 r_dp (ax.kp k3 (λz=>hr2 (Lay.sJ z)) (s12.seq hr1))
     have flen:(T'.rows.filter λ(x:020)=>x.1 !=n).length<256:=by
      have:=(SM.me ht.wf.rows.good hm).length_eq;rw[aat] at this;have:=ht.wf.rows.len;omega
     kd_p;refine aF t4 (iw 07) ?_;kd_p;refine⟨t,r,L,T'.orders,_,n,ns,rfl,core4,SM.Gi,flen,hr4,hr2,q,λH5 k5 c5=>?_⟩;have core5:=c5 (T'.rows.map λ(x:020)=>if x.1=n then(n,ns) else x) (SM.Lw ht.wf.rows.good hm);have t5:=k5.keep _ _ t4 ap.KP;kd_p;refine aF t5 (iw 07) ?_;kd_p;refine⟨t,dx,_,_,_,_,_,_,rfl,t5,λH6 k6 t6=>?_⟩;kd_p;have k46:Kp (t::L.d::L.ps) H3 H6:=((k4.trans k5).mono λb hb=>aag _ hb).trans (k6.mono λb hb=>by rw[aT hb];exact aae)
     have offS:∀{b:Addr},b∉[t,L.d,L.ol,L.cd,L.ml]->b∉L.ps->b∉t::L.d::L.ps:=λh1 h2 z=>by
      sleep 021
      ·exact h1 (by rw[z];simp)
      ·sleep 021
       ·exact h1 (by rw[z];simp)
       ·exact h2 z
     have bj:=ap.bj
     have cdS:L.cd∉t::L.d::L.ps:=λz=>by
      sleep 021
      ·simp[z] at bj
      ·sleep 021
       ·simp[z] at bj
       ·exact(ap.fG _ z).1 im
     have mlS:L.ml∉t::L.d::L.ps:=λz=>by
      sleep 021
      ·simp[z] at bj
      ·sleep 021
       ·simp[z] at bj
       ·exact(ap.fG _ z).1 im
     have core6:=core5.JK k6 t6;refine k H6 L ⟨ht.wf.Qs q hn2,⟨dx,ch+1,t6,wC (l:=T'.rows.map λ(x:020)=>if x.1=n then(n,ns) else x) hch⟩,core6.rws,core6.aw,?_,?_,ht.nd⟩ ⟨?_,λb hb=>.inl hb⟩ rfl
     ·have e9:({T'.changed (T'.rows.map λ(x:020)=>if x.1=n then(n,ns) else x) with cursors:=T'.follow n ns}:Table).cursor=λk=>(T'.cursor k).map (followed T' n ns):=funext λk=>zY T' n ns k;have:=cu3.kp k46 cdS λc hc=>offS (ap.gC c hc).1 (ap.gC c hc).2.2.1;rw[<-e9] at this;exact this
     ·exact(ht2.marks.kp k3 (nocs im) (λc hc z=>(ap.gI c hc).2.2.2.1 z) (λc hc z=>(ap.ip c hc).2.2.2.1 z)).kp k46 mlS (λc hc=>offS (ap.gI c hc).1 (ap.gI c hc).2.2.1) (λc hc=>offS (ap.ip c hc).1 (ap.ip c hc).2.2.1)
     ·exact((Kp.same s12).trans (k3.mono λb hb=>Lay.sJ hb)).trans k46.BW
def zV(l:025):List V:=l.map V.int
def RZ(l:015):nV l=zV (Standbook.nats l):=Fy l
inductive wx(K:05)(A:aQ)(vs:0012)(H:Hp)(Q:VK)(E:XK):Prop
 |mk(t:Addr)(L:Lay)(T:049)(n:Nat)(_:vs=[.ref t,.int n])(_:012)(_:Q (.int (if(T.row n).isSome=true then 1 else 0)) H)
def Hk{H:Hp}{kvs:031}{rs:Rows}{T:049}(g:SM.Good T.rows)(hp:rs.Perm T.rows)(hrel:0071)(n:Nat):(eR kvs 0006).isSome=(T.row n).isSome:=by
 cases e:T.row n with
 |none=>rw[iG hrel λz=>SM.iI e (((hp.map (·.1)).mem_iff).mp z)];rfl
 |some x=>
  obtain⟨ra,hv,hra⟩:=iz hrel (g.perm hp) (hp.mem_iff.mpr (SM.gu e));rw[hv];rfl
def Ho(T:006):000 1 "has_row" ["table","number"] (wx K A):=by
 refine T.Ie.ok F4 02;obtain⟨t,L,T',n,rfl,ht,k⟩:=h;sleep 06;sleep 031;refine gx _ (af (ai (jk (hJ (O3 (dw hr) 014 04)) aA aA))) ?_;kd_p;sleep 011;refine Q9 hd ?_;kd_p;rw[Hk ht.wf.rows.good hp hrel];sleep 025
 ·kd_p;rw[aav q] at k;exact k
 ·kd_p;rw[aan 091] at k;exact k
def xT(H H':Hp)(l:Addr)(z:025):Prop:=au H H'/\H l=none/\H' l=some (.lst (zV z))
def pK(T:049)(n:Nat):List Int:=match T.row n with
 |none=>[-4]
 |some r=>Standbook.nats r
def one_le{x:V}:[x].length<=sizeLine:=by rw[aaC];show 1<=_;decide
inductive yH(K:05)(A:aQ)(vs:0012)(H:Hp)(Q:VK)(E:XK):Prop
 |mk(t:Addr)(L:Lay)(T:049)(n:Nat)(_:vs=[.ref t,.int n])(_:012)(_:∀H' l,xT H H' l (pK T n)->Q (.ref l) H')
def vt(T:006):000 1 "fields_of_row" ["table","number"] (yH K A):=by
 refine T.wD.ok vG 02;obtain⟨t,L,T',n,rfl,ht,k⟩:=h;sleep 06;sleep 031;refine gx _ (ae (aU (hJ (fq (dw hr) 014 04)) (af (ai (bu (aa (aD T.eI rfl) ab)))) aE) (af (ai (fi (tE (K:=K) rfl) rfl T.pY xY (aa 0056 ab))))) ?_;kd_p;sleep 011;refine fU hd ?_;kd_p;unfold pK at k
 cases e:T'.row n with
 |none=>
  rw[e] at k;rw[iG hrel λz=>SM.iI e (((hp.map (·.1)).mem_iff).mp z)];sleep 005;kd_p;exact⟨one_le,λl hl=>k _ l ⟨.new hl,hl,ah⟩⟩
 |some x=>
  rw[e] at k;obtain⟨ra,hv,hra⟩:=iz hrel 0051 (hp.mem_iff.mpr (SM.gu e));sleep 004;kd_p;sleep 011;kd_p;refine iT hd hv ?_;kd_p;refine⟨ra,_,rfl,.inr hra,λl hl=>k _ l ⟨.new hl,hl,?_⟩⟩;rw[ah,RZ]
inductive yV(K:05)(A:aQ)(vs:0012)(H:Hp)(Q:VK)(E:XK):Prop
 |mk(t:Addr)(L:Lay)(T:049)(_:vs=[.ref t])(_:012)(_:∀H' l,xT H H' l (Standbook.nats [T.rows.length,T.orders.length,T.marks.length,T.next])->Q (.ref l) H')
def Ii(T:006):000 1 "counts" ["table"] (yV K A):=by
 refine T.Kn.ok HR 02;obtain⟨t,L,T',rfl,ht,k⟩:=h;sleep 06;sleep 031;refine gx _ (af (ai (bu (aa (aI By rfl T.bG bh (aa 04 ab)) (aa 0011 (aa 0011 (aa 04 ab))))))) ?_;kd_p;sleep 011;kd_p;refine A6 hd ?_;kd_p;sleep 023;kd_p;refine cf (.inl (ax.of ht.aw.lst)) ?_;sleep 042;refine ay h1 T.ak T.bg jt ?_;kd_p;rw[oh (d:=L.d) hp hrel,aaa,aaa,ht.aw.lo,kl ht.marks];exact⟨by rw[aaC];show 4<=_;decide,λl hl=>k _ l ⟨.new hl,hl,ah⟩⟩
def oA(od:0087)(rows:Rows)(j:Nat):numAt (SM.aO od rows) (j:Int)=(Standbook.numberOf ((SM.fy od rows)[j]?):Nat):=by
 unfold numAt SM.aO Standbook.numberOf;rw[aan 03,aa0,aai];cases(SM.fy od rows)[j]? <;>rfl
def vV(od:0087)(rows:Rows)(c:Nat):numAt (SM.aO od rows) ((c:Int)-1)=(Standbook.numberOf (if c=0 then none else(SM.fy od rows)[c-1]?):Nat):=by
 by_cases e:c=0
 ·subst e;rw[aav rfl];unfold numAt;rw[aav 03];rfl
 ·rw[aan e,show(c:Int)-1=((c-1:Nat):Int) by omega,oA]
def ofOrd(T:049)(k:Nat)(z:Int):Int:=if T.has k=true then z else-2
inductive JU(K:05)(A:aQ)(vs:0012)(H:Hp)(Q:VK)(E:XK):Prop
 |mk(t:Addr)(L:Lay)(T:049)(k j:Nat)(_:vs=[.ref t,.int k,.int j])(_:012)(_:Q (.int (ofOrd T k (Standbook.numberOf ((T.inOrder k)[j]?):Nat))) H)
def Hl(T:006):000 2 "nth_row" ["table","k","position"] (JU K A):=by
 refine T.Ib.ok Hu 02;obtain⟨t,L,T',k,j,rfl,ht,kk⟩:=h;sleep 06;refine gx _ (ae 0013 (af (ai (bE (cj 043 04 014 019) (gb T) 01 0023)))) ?_;kd_p;sleep 014;kd_p;refine⟨t,L,T',k,rfl,ht,?_⟩;unfold ofOrd at kk;kd_p;refine dz 0063 0063
 ·kd_p;rw[aan 091] at kk;exact kk
 ·kd_p;rw[aav q] at kk;sleep 023;kd_p;obtain⟨o,p,u,o1,o2,o3,g⟩:=ht.core.ord (aar q);sleep 015;sleep 04;refine⟨o,p,_,u,_,_,rfl,g.ob,g.aO,?_⟩;rw[oA];exact kk
def Ax(T:049)(k n:Nat):Int:=match(T.inOrder k).findIdx? λ(x:020)=>x.1==n with
 |some j=>(j:Nat)
 |none=> -4
inductive Ff(K:05)(A:aQ)(vs:0012)(H:Hp)(Q:VK)(E:XK):Prop
 |mk(t:Addr)(L:Lay)(T:049)(k n:Nat)(_:vs=[.ref t,.int k,.int n])(_:012)(_:∀H',au H H'->Q (.int (ofOrd T k (Ax T k n))) H')
def xO(T:006):000 5 "rank_of_row" ["table","k","number"] (Ff K A):=by
 refine T.z_.ok pR 02;obtain⟨t,L,T',k,n,rfl,ht,kk⟩:=h;sleep 06;sleep 031;refine gx _ (ae 0013 (ae (aU (hJ (fq (dw hr) 034 04)) 073 aE) (ae (aB (i:=3) pR.nd rfl 001 (cj 043 04 014 019)) (af (ai (bE 072 (cx T) 01 (aa (bE 072 (bM T) 01 (aa 034 (aa (gG (dw hr) 04 034 019) ab))) ab))))))) ?_;kd_p;sleep 014;kd_p;refine⟨t,L,T',k,rfl,ht,?_⟩;unfold ofOrd at kk;kd_p;refine dz 0063 0063
 ·kd_p;have:=kk H 042;rw[aan 091] at this;exact this
 ·kd_p;rw[aav q] at kk;sleep 011;refine fU hd ?_;kd_p;unfold Ax at kk
  cases e:T'.row n with
  |none=>
   rw[iG hrel λz=>SM.iI e (((hp.map (·.1)).mem_iff).mp z)];sleep 005;kd_p;have:=kk H 042;rw[SM.gF,SM.HZ (SM.iI e)] at this;exact this
  |some x=>
   have hm:=SM.gu e;obtain⟨ra,hv,hra⟩:=iz hrel 0051 (hp.mem_iff.mpr hm);sleep 004;kd_p;sleep 023;kd_p;obtain⟨o,p,u,o1,o2,o3,g⟩:=ht.core.ord (aar q);sleep 015;kd_p;sleep 04;sleep 04;sleep 011;kd_p;refine iT hd hv ?_;kd_p;refine⟨o,p,ra,_,u,_,x,rfl,g.ob,g.gL,.inr hra,(ht.wf.rows.row _ hm).2.2,λH1 pa s1 hpa=>?_⟩;have g1:=g.same s1;refine⟨o,p,_,u,_,_,_,rfl,g1.ob,g1.aO,g1.gO,g1.len,hpa.at_,?_⟩;have:=kk H1 s1;rw[SM.gF,SM.M0 ht.wf.rows.good hm] at this;exact this
def findZ(T:049)(k how:Nat)(ns:015):Int:=if Standbook.isRow ns=false\/3<how then-1 else ofOrd T k (T.find k ns how:Nat)
inductive EJ(K:05)(A:aQ)(vs:0012)(H:Hp)(Q:VK)(E:XK):Prop
 |mk(t r:Addr)(L:Lay)(T:049)(k how:Nat)(ns:015)(_:vs=[.ref t,.int k,.int how,.ref r])(_:012)(_:ax K H r (nV ns))(_:0086)(_:∀H',au H H'->Q (.int (findZ T k how ns)) H')
def find_eq{T:049}(wf:SM.Wf T)(k:Nat)(ns:015):T.find k ns 0=Standbook.numberOf ((SM.fy 063 T.rows)[SM.cnt 0037 (SM.aC 063 ns,0)]?)/\T.find k ns 1=Standbook.numberOf ((SM.fy 063 T.rows)[SM.cnt 0037 (SM.aC 063 ns,4294967295)]?)/\T.find k ns 2=Standbook.numberOf (if SM.cnt 0037 (SM.aC 063 ns,0)=0 then none else(SM.fy 063 T.rows)[SM.cnt 0037 (SM.aC 063 ns,0)-1]?)/\T.find k ns 3=Standbook.numberOf (if SM.cnt 0037 (SM.aC 063 ns,4294967295)=0 then none else(SM.fy 063 T.rows)[SM.cnt 0037 (SM.aC 063 ns,4294967295)-1]?):=by
 have g:=wf.rows.good;have small:∀x∈SM.fy (T.spec k) T.rows,x.1<4294967295:=λx hx=>wf.rows.small x ((SM.cY _ _).mem_iff.mp hx)
 have fc:∀{p q:Nat×Standbook.Row->Bool} {l:Rows},(∀x∈l,p x=q x)->l.find? p=l.find? q:=by
  intro p q l h
  induction l with
  |nil=>rfl
  |cons a l ih=>
   rw[abJ,abJ,h a aae,ih λx hx=>h x (aag _ hx)]
 refine⟨?_,?_,?_,?_⟩
 ·rw[<-SM.xC _ g];show Standbook.numberOf ((T.inOrder k).find? λ(x:020)=>decide (0<=Standbook.before 063 x.2 ns))=_
  congr 1
  refine fc λx _=>?_;rw[SM.tR];by_cases z:Standbook.before 063 x.2 ns<0
  ·rw[aaj z,aal 03];rfl
  ·rw[aal z,aaj 03];rfl
 ·rw[<-SM.xC _ g];show Standbook.numberOf ((T.inOrder k).find? λ(x:020)=>decide (0<Standbook.before 063 x.2 ns))=_
  congr 1
  refine fc λx hx=>?_;rw[SM.CK _ _ _ (small x hx)];by_cases z:Standbook.before 063 x.2 ns<=0
  ·rw[aaj z,aal 03];rfl
  ·rw[aal z,aaj 03];rfl
 ·rw[<-SM.xF _ g];show Standbook.numberOf ((T.inOrder k).reverse.find? λ(x:020)=>decide (Standbook.before 063 x.2 ns<0))=_
  congr 1
  exact fc λx _=>(SM.tR _ _ _).symm
 ·rw[<-SM.xF _ g];show Standbook.numberOf ((T.inOrder k).reverse.find? λ(x:020)=>decide (Standbook.before 063 x.2 ns<=0))=_
  congr 1
  exact fc λx hx=>(SM.CK _ _ _ (small x (List.mem_reverse.mp hx))).symm
def DO(T:006):000 6 "find_row" ["table","k","how","key"] (EJ K A):=by
 refine T.HC.ok vg 02;obtain⟨t,r,L,T',k,how,ns,rfl,ht,hr1,hl,kk⟩:=h;sleep 06;unfold findZ at kk;refine gx _ (ae (aU (PW.pt (gq (a9 lQ 034 (aD T.G_ rfl) 077) (gz 0033))) 0003 aE) (ae 0013 (ae (aB (i:=4) vg.nd rfl 001 (cj 043 04 014 019)) (ae (aU (a9 fA 034 aA 077) (af (ai (bE (pv 4) (gb T) 01 (aa (bE (pv 4) (c9 T) 01 (aa 072 ab)) ab)))) aE) (ae (aU (a9 fA 034 aA 077) (af (ai (bE (pv 4) (gb T) 01 (aa (bE (pv 4) (gc T) 01 (aa 072 ab)) ab)))) aE) (ae (aU (a9 fA 034 aA 077) (af (ai (bE (pv 4) (gb T) 01 (aa (bB jJ (bE (pv 4) (c9 T) 01 (aa 072 ab)) aA) ab)))) aE) (af (ai (bE (pv 4) (gb T) 01 (aa (bB jJ (bE (pv 4) (gc T) 01 (aa 072 ab)) aA) ab)))))))))) ?_;kd_p;sleep 018
 ·kd_p;have:=kk H 042;rw[aav (.inr 03)] at this;exact this
 ·sleep 055;sleep 038
  ·kd_p;have:=kk H1 s1;rw[aav (.inl q2)] at this;exact this
  ·have hi:=q2;kd_p;refine aF h1' (iw 07) ?_;kd_p;refine⟨t,L,T',k,rfl,ht1,?_⟩;rw[aan (show¬(Standbook.isRow ns=false\/3<how) by rw[hi];simp;omega)] at kk;unfold ofOrd at kk;kd_p;refine dz 0077 0077
   ·kd_p;have:=kk H1 s1;rw[aan (by rw[q3];exact aau)] at this;exact this
   ·rw[aav q3] at kk;kd_p;refine ay h1' T.ak T.aJ bA ?_;kd_p;obtain⟨o,p,u,o1,o2,o3,g⟩:=ht1.core.ord (aar q3);obtain⟨dxo,co,b1,b2⟩:=id g.ob;obtain⟨f0,f1,f2,f3⟩:=find_eq ht.wf k ns;refine eT (ax.of ht1.aw.lst) o2 ?_;kd_p;refine cw (λe=>?_) (λe0=>?_)
    ·have e:how=0:=by omega
     subst e;kd_p;sleep 047;refine⟨o,p,_,u,_,_,rfl,g.ob.same s2,g.aO.same s2,?_⟩;rw[oA,<-f0];exact kk _ (s1.trans s2)
    ·kd_p;refine cw (λe=>?_) (λe1=>?_)
     ·have e:how=1:=by omega
      subst e;kd_p;sleep 047;refine⟨o,p,_,u,_,_,rfl,g.ob.same s2,g.aO.same s2,?_⟩;rw[oA,<-f1];exact kk _ (s1.trans s2)
     ·kd_p;refine cw (λe=>?_) (λe2=>?_)
      ·have e:how=2:=by omega
       subst e;kd_p;sleep 047;kd_p;refine⟨o,p,_,u,_,_,rfl,g.ob.same s2,g.aO.same s2,?_⟩;rw[vV,<-f2];exact kk _ (s1.trans s2)
      ·have e:how=3:=by omega
       subst e;kd_p;sleep 047;kd_p;refine⟨o,p,_,u,_,_,rfl,g.ob.same s2,g.aO.same s2,?_⟩;rw[vV,<-f3];exact kk _ (s1.trans s2)
def uM{T:049}(wf:SM.Wf T)(k:Nat)(a b:015):mM 0037 (SM.cnt 0037 (SM.aC 063 a,0)) (SM.cnt 0037 (SM.aC 063 b,0))=(T.stretch k a b).map (SM.cZ 063):=by
 unfold Table.stretch mM;rw[SM.gF,SM.G0 _ wf.rows.good,abY,abZ];rfl
def AE(T:049)(k:Nat)(a b:015):Int:=if Standbook.isRow a=false\/Standbook.isRow b=false then-1 else ofOrd T k ((T.stretch k a b).length:Nat)
inductive Fu(K:05)(A:aQ)(vs:0012)(H:Hp)(Q:VK)(E:XK):Prop
 |mk(t r1 r2:Addr)(L:Lay)(T:049)(k:Nat)(a b:015)(_:vs=[.ref t,.int k,.ref r1,.ref r2])(_:012)(_:ax K H r1 (nV a))(_:a.length<=20000)(_:ax K H r2 (nV b))(_:b.length<=20000)(_:∀H',au H H'->Q (.int (AE T k a b)) H')
def rZ(T:006):000 7 "how_many_between" ["table","k","first","end"] (Fu K A):=by
 refine T.tj.ok rV 02;obtain⟨t,r1,r2,L,T',k,a,b,rfl,ht,ha,la,hb,lb,kk⟩:=h;sleep 06;unfold AE at kk;refine gx _ (ae (aU (PW.pt (gq (bT (br (aS (fk T) 01 rfl 0023))) (gz 0033))) 0003 aE) (ae 0013 (af (ai (aI 022 rfl T.bG bh (aa (bE (cj 043 04 014 019) (jb T) 01 (aa 034 (aa 072 ab))) ab)))))) ?_;kd_p;refine⟨r1,a,rfl,ha,la,λH1 s1=>?_⟩;kd_p;refine dz 0063 (λqa=>?_)
 ·kd_p;have:=kk H1 s1;rw[aav (.inl q)] at this;exact this
 ·kd_p;refine⟨r2,b,rfl,s1.seq hb,lb,λH2 s2=>?_⟩;have s12:=s1.trans s2;have ht2:=ht.same s12;have h2:=s12 _ _ h1;kd_p;refine dz 0063 (λqb=>?_)
  ·kd_p;have:=kk H2 s12;rw[aav (.inr q)] at this;exact this
  ·rw[aan (by rw[qa,qb];simp)] at kk;kd_p;refine aF h2 (iw 07) ?_;kd_p;refine⟨t,L,T',k,rfl,ht2,?_⟩;unfold ofOrd at kk;kd_p;refine dz 0077 0077
   ·kd_p;have:=kk H2 s12;rw[aan (by rw[q3];exact aau)] at this;exact this
   ·rw[aav q3] at kk;kd_p;refine ay h2 T.ak T.aJ bA ?_;kd_p;obtain⟨o,p,u,o1,o2,o3,g⟩:=ht2.core.ord (aar q3);obtain⟨dxo,co,b1,b2⟩:=id g.ob;refine eT (ax.of ht2.aw.lst) o2 ?_;sleep 04;refine⟨o,p,r1,r2,_,u,_,a,b,rfl,g,.inl (s12.seq ha),qa,.inl (s12.seq hb),qb,λH3 l s3 e=>?_⟩;refine cf (.inl (ax.of e)) ?_;rw[aaa,uM ht.wf,aaa];exact kk _ (s12.trans s3)
def sumZ(T:049)(k f:Nat)(a b:015):Int:=if Standbook.isRow a=false\/Standbook.isRow b=false\/3<f then-1 else ofOrd T k (((T.stretch k a b).map λ(x:020)=>Standbook.field x.2 f).sum:Nat)
inductive Jc(K:05)(A:aQ)(vs:0012)(H:Hp)(Q:VK)(E:XK):Prop
 |mk(t r1 r2:Addr)(L:Lay)(T:049)(k f:Nat)(a b:015)(_:vs=[.ref t,.int k,.int f,.ref r1,.ref r2])(_:012)(_:ax K H r1 (nV a))(_:a.length<=20000)(_:ax K H r2 (nV b))(_:b.length<=20000)(_:∀H',au H H'->Q (.int (sumZ T k f a b)) H')
theorem BJ:∀l:List Nat,((l.sum:Nat):Int)=(l.map λ(n:Nat)=>(n:Int)).sum
 |[]=>rfl
 |a::l=>by
  rw[List.sum_cons,aaB,List.sum_cons,<-BJ l];omega
def xB(T:006):000 7 "sum_between" ["table","k","field","first","end"] (Jc K A):=by
 refine T.Ak.ok lH 02;obtain⟨t,r1,r2,L,T',k,ff,a,b,rfl,ht,ha,la,hb,lb,kk⟩:=h;sleep 06;unfold sumZ at kk;refine gx _ (ae (aU (PW.pt (gq (a9 qD 034 (aD T.iK rfl) 077) (gq 0033 (gz (bT (br (aS (fk T) 01 rfl (aa (pv 4) ab)))))))) 0003 aE) (ae 0013 (af (ai (aI (QM (K:=K) rfl rfl) rfl T.Rg Qi (aa (gB (own:=[("number",5)]) rfl lH.nd (c8 (K:=K) rfl (bE (cj 043 04 014 019) (jb T) 01 (aa 072 (aa (pv 4) ab)))) (c_ (by show gP ["table","k","field","first","end","number"] (ag (top 29)) _ _=true;decide+kernel)) (λ_ _ _ _ _=>bC (i:=5) lH.nd rfl 001 0044) 067 (λ_ _ _ _ _=>(cj 0039 (gG (dw hr) 04 (pv 5) 019) 034 019))) ab)))))) ?_;kd_p;refine cw 0063 (λqf=>?_)
 ·kd_p;have:=kk H 042;rw[aav (.inr (.inr 03))] at this;exact this
 kd_p;refine⟨r1,a,rfl,ha,la,λH1 s1=>?_⟩;kd_p;refine dz 0063 (λqa=>?_)
 ·kd_p;have:=kk H1 s1;rw[aav (.inl q)] at this;exact this
 ·kd_p;refine⟨r2,b,rfl,s1.seq hb,lb,λH2 s2=>?_⟩;have s12:=s1.trans s2;have ht2:=ht.same s12;have h2:=s12 _ _ h1;kd_p;refine dz 0063 (λqb=>?_)
  ·kd_p;have:=kk H2 s12;rw[aav (.inr (.inl q))] at this;exact this
  ·rw[aan (by rw[qa,qb];simp;omega)] at kk;kd_p;refine aF h2 (iw 07) ?_;kd_p;refine⟨t,L,T',k,rfl,ht2,?_⟩;unfold ofOrd at kk;kd_p;refine dz 0077 0077
   ·kd_p;have:=kk H2 s12;rw[aan (by rw[q3];exact aau)] at this;exact this
   ·rw[aav q3] at kk;kd_p;refine ay h2 T.ak T.aJ bA ?_;kd_p;obtain⟨o,p,u,o1,o2,o3,g⟩:=ht2.core.ord (aar q3);obtain⟨dxo,co,b1,b2⟩:=id g.ob;refine eT (ax.of ht2.aw.lst) o2 ?_;sleep 04;refine⟨o,p,r1,r2,_,u,_,a,b,rfl,g,.inl (s12.seq ha),qa,.inl (s12.seq hb),qb,λH3 l s3 e=>?_⟩;rw[uM ht.wf,aaN] at e;have s13:=s12.trans s3;have ht3:=ht.same s13;obtain⟨kvs,rs,hd,hp,hrel⟩:=ht3.rows
    have hlen:(T'.stretch k a b).length<=256:=by
     unfold Table.stretch;refine aa8 (acF _ _) ?_;rw[SM.gF,(SM.cY _ _).length_eq];exact ht.wf.rows.len
    refine jS ((T'.stretch k a b).map λ(x:020)=>V.int (Standbook.field x.2 ff:Nat)) (ax.of e) (by rw[aaa,aaa]) (by rw[aaa,aaC];omega) (λi x y H4 Q4 hx hy s4 q=>?_) λD H4 _ s4 e4=>?_
    ·rw[aai] at hx hy
     cases e5:(T'.stretch k a b)[i]? with
     |none=>rw[e5] at hx;cases hx
     |some z=>
      rw[e5] at hx hy;obtain rfl:V.int (z.1:Int)=x:=aac hx;obtain rfl:V.int (Standbook.field z.2 ff:Nat)=y:=aac hy
      have hz:z∈T'.rows:=by
       have:=aap e5;unfold Table.stretch at this;exact(SM.cY _ _).mem_iff.mp (abH.mp this).1
      obtain⟨ra,hv,hra⟩:=iz hrel 0051 (n:=z.1) (row:=z.2) (hp.mem_iff.mpr hz);kd_p;refine ay (s4 _ _ (s13 _ _ h1)) T.ak T.aP cA ?_;kd_p;refine iT (s4 _ _ hd) hv ?_;kd_p;refine jv (s4.tup hra) (t_ (ht.wf.rows.row z hz).2.2 (f:=ff) 03) ?_;exact q _ 042
    ·kd_p
     have e6:((T'.stretch k a b).map λ(x:020)=>V.int (Standbook.field x.2 ff:Nat))=(((T'.stretch k a b).map λ(x:020)=>Standbook.field x.2 ff).map λ(n:Nat)=>(n:Int)).map V.int:=by
      rw[aaN,aaN];rfl
     rw[e6] at e4;refine⟨D,_,rfl,ax.of e4,?_⟩;rw[<-BJ];exact kk _ (s13.trans s4)
def gZ{T:049}(wf:SM.Wf T){c:Nat}{cu:Cursor}(h:T.cursor c=some cu):c<16/\cu.order<T.orders.length/\SM.mm cu.spot:=by
 unfold Table.cursor at h
 cases e:T.cursors[c]? with
 |none=>rw[e] at h;cases h
 |some y=>
  rw[e] at h;have h:y=some cu:=h;subst h;have:=(aad.mp e).1;rw[wf.cl] at this;exact⟨this,wf.ck cu (aap e)⟩
def ly{H:Hp}{cd:Addr}{cs:List (Nat×Addr)}{cur:Nat->Option Cursor}{spec:Nat->Order}(h:oj K A H cd cs cur spec){c:Nat}{cu:Cursor}(e:cur c=some cu):∃a,(c,a)∈cs/\eR (e_ cs) (Sum.inl (c:Int))=some 046/\mW K A H a cu (spec cu.order):=by
 obtain⟨x,hx,hx1⟩:=aaw.mp ((h.has c).mp (by rw[e];rfl));obtain⟨c',a⟩:=x;have hx1:c'=c:=hx1;subst hx1;obtain⟨i,hi⟩:=aas.mp hx;refine⟨a,hx,?_,h.at_ _ a cu hx e⟩;refine AU (i:=i) ?_ ?_
 ·unfold e_;rw[aaN];refine aaX.mpr ((aaX.mp h.nd).imp λ{x y} q z=>q ?_);exact ab1 (aci z)
 ·unfold e_;rw[aai,hi];rfl
def iD{H:Hp}{cd:Addr}{cs:List (Nat×Addr)}{cur:Nat->Option Cursor}{spec:Nat->Order}(h:oj K A H cd cs cur spec){c:Nat}(e:cur c=none):eR (e_ cs) (Sum.inl (c:Int))=none:=by
 unfold eR e_;rw[adn,acD];intro kv hkv z;obtain⟨x,hx,rfl⟩:=aaw.mp hkv;have z:=aar z;have:x.1=c:=ab1 (aci z);have:=(h.has c).mpr (aaw.mpr ⟨x,hx,this⟩);rw[e] at this;cases this
def fW{T:049}(wf:SM.Wf T){c:Nat}(hc:c<16)(x:Option Cursor)(m:Nat):(T.cursorSet c x).cursor m=if m=c then x else T.cursor m:=by
 unfold Table.cursorSet Table.cursor;show((T.cursors.set c x)[m]?).join=_;rw[List.getElem?_set];by_cases e:m=c
 ·subst e;rw[aav rfl,aav rfl,aav (by rw[wf.cl];exact hc)];rfl
 ·rw[aan (λz=>e z.symm),aan e]
def pJ{H H':Hp}{t a dxc:Addr}{L:Lay}{T:049}{c:Nat}{cu cu':Cursor}{pb:Addr}(ht:012)(hc:T.cursor c=some cu)(hm:(c,a)∈L.cs)(k:Kp [a] H H')(e:H' a=some (.ins A.cC dxc (fC (cu'.order:Nat) cu'.follows pb)))(hp:bo K H' (.ref pb) (SM.dA (T.spec cu'.order) cu'.spot))(ho:cu'.order<T.orders.length/\SM.mm cu'.spot):TabAt K A H' t L (T.cursorSet c (some cu'))/\Fr t H L H' L:=by
 sleep 010;have ha:a∈L.cs.map (·.2):=aaw.mpr ⟨_,hm,rfl⟩;have off:∀{b:Addr},b∉L.cs.map (·.2)->b∉[a]:=λ{b} h z=>h (by rw[aT z];exact ha);have n5:∀{b:Addr},b∈[t,L.d,L.ol,L.cd,L.ml]->b∉[a]:=λhb=>off λz=>(ap.gC _ z).1 hb;obtain⟨hlt,_⟩:=gZ ht.wf hc;sleep 06;refine⟨⟨ht.wf.cursorSet c (λy hy=>by cases hy;exact ho),⟨dx,ch,k.keep _ _ h1 (n5 im),hch⟩,ht.rows.kp k (n5 im),ht.aw.kp k (n5 im) (λb hb=>off (ap.fQ b hb).2.2.1) (λb hb=>off (ap.fG b hb).2.2.1),?_,ht.marks.kp k (n5 im) (λb hb=>off (ap.gI b hb).2.2.2.1) (λb hb=>off (ap.ip b hb).2.2.2.1),ht.nd⟩,⟨k.mono λb hb=>by rw[aT hb];exact Lay.sJ ha,λb hb=>.inl hb⟩⟩;refine⟨k.keep _ _ ht.bz.gN (n5 im),ht.bz.nd,λm=>?_,λm b cu2 hb e2=>?_⟩
 ·rw[fW ht.wf hlt];by_cases z:m=c
  ·subst z;rw[aav rfl];exact⟨λ_=>aaw.mpr ⟨_,hm,rfl⟩,λ_=>rfl⟩
  ·rw[aan z];exact ht.bz.has m
 ·rw[fW ht.wf hlt] at e2;by_cases z:m=c
  ·subst z;rw[aav rfl] at e2;cases e2
   have e3:b=a:=by
    obtain⟨i,hi⟩:=aas.mp hb;obtain⟨j,hj⟩:=aas.mp hm;have:i=j:=qM ht.bz.nd (x:=m) (by rw[aai,hi];rfl) (by rw[aai,hj];rfl);subst this;rw[hi] at hj;cases hj;rfl
   subst e3;exact⟨dxc,pb,e,hp⟩
  ·rw[aan z] at e2;refine(ht.bz.at_ m b cu2 hb e2).kp k λy=>z ?_;have y:b=a:=aT y;subst y;obtain⟨i,hi⟩:=aas.mp hb;obtain⟨j,hj⟩:=aas.mp hm;have:i=j:=qM ap.cs (x:=b) (by rw[aai,hi];rfl) (by rw[aai,hj];rfl);subst this;rw[hi] at hj;cases hj;rfl
inductive nU(K:05)(A:aQ)(vs:0012)(H:Hp)(Q:VK)(E:XK):Prop
 |mk(t:Addr)(L:Lay)(T:049)(c:Nat)(_:vs=[.ref t,.int c])(_:012)(_:∀H',au H H'->Q (.int (match T.cursor c with|none=> -4|some cu=>(wg T cu:Nat))) H')
def vL(T:006):000 6 "row_at_cursor" ["table","c"] (nU K A):=by
 refine T.wA.ok vI 02;obtain⟨t,L,T',c,rfl,ht,k⟩:=h;sleep 06;refine gx _ (ae 0025 (af (ai (bE 0094 (oy T) 01 (aa 0056 ab))))) ?_;kd_p;sleep 024;kd_p
 cases e:T'.cursor c with
 |none=>
  rw[e] at k;rw[iD ht.bz e];sleep 005;kd_p;exact k H 042
 |some cu=>
  rw[e] at k;obtain⟨a,hm,hv,hca⟩:=ly ht.bz e;sleep 004;kd_p;sleep 014;kd_p;refine ay h1 T.ak T.bt dk ?_;kd_p;refine iT ht.bz.gN hv ?_;kd_p;exact⟨t,a,L,T',cu,rfl,ht.core,ht.wf,hca,(gZ ht.wf e).2.1,k⟩
abbrev TZ:=Table×Int
def Ht(T:049)(c n:Nat):TZ:=match T.cursor c with
 |none=>(T,-4)
 |some x=>match T.row n with
  |none=>(T,-4)
  |some r=>(T.cursorSet c (some {x with spot:=.at_ r n}),0)
inductive G6(K:05)(A:aQ)(f:Table->Nat->Nat->TZ)(vs:0012)(H:Hp)(Q:VK)(E:XK):Prop
 |mk(t:Addr)(L:Lay)(T:049)(c n:Nat)(_:vs=[.ref t,.int c,.int n])(_:012)(_:∀H' L',TabAt K A H' t L' (f T c n).1->Fr t H L H' L'->Q (.int (f T c n).2) H')
def Br(T:006):000 5 "go_to_row" ["table","c","number"] (G6 K A Ht):=by
 refine T.D5.ok sG 02;obtain⟨t,L,T',c,n,rfl,ht,k⟩:=h;sleep 06;sleep 031;unfold Ht at k;refine gx _ (ae (aU (PW.pt (gq (hJ (fq (dw hr) 014 04)) (gz (hJ (fq (dw hr) 034 04))))) 073 aE) (ae (aB (i:=3) sG.nd rfl 001 0056) (ae (bR (K:=K) rfl 072 (bE (cj 043 04 (aq (K:=K) rfl 072 rfl) 019) (bM T) 01 (aa 034 (aa (gG (dw hr) 04 034 019) ab))) rfl) (af (ai aA))))) ?_;kd_p;sleep 024;kd_p
 cases e:T'.cursor c with
 |none=>
  rw[e] at k;rw[iD ht.bz e];sleep 005;kd_p;exact k H L ht Fr.refl
 |some cu=>
  rw[e] at k;obtain⟨a,hm,hv,dxc,pa,c1,c2⟩:=ly ht.bz e;sleep 004;kd_p;sleep 011;refine fU hd ?_;kd_p
  cases e2:T'.row n with
  |none=>
   rw[e2] at k;rw[iG hrel λz=>SM.iI e2 (((hp.map (·.1)).mem_iff).mp z)];sleep 005;kd_p;exact k H L ht Fr.refl
  |some x=>
   rw[e2] at k;have hmr:=SM.gu e2;have hrow:=ht.wf.rows.row _ hmr;obtain⟨ra,hv2,hra⟩:=iz hrel 0051 (hp.mem_iff.mpr hmr);rw[hv2];show if false=true then _ else _
   kd_p;refine ay h1 T.ak T.bt dk ?_;kd_p;refine iT ht.bz.gN hv ?_;kd_p;sleep 023;kd_p;refine ay c1 T.bQ T.gE vn ?_;kd_p;have hck:=gZ ht.wf e;obtain⟨o,p,u,o1,o2,o3,g⟩:=ht.core.ord hck.2.1;sleep 015;sleep 04;sleep 011;kd_p;refine iT hd hv2 ?_;kd_p;refine⟨o,p,ra,_,u,_,x,rfl,g.ob,g.gL,.inr hra,hrow.2.2,λH1 pb s1 hpb=>?_⟩;kd_p;refine bL (s1 _ _ c1) T.bQ T.b7 0057 ?_;rw[lJ];kd_p;have k4:=Kp.ins (s1 _ _ c1) 060;have nx:=ht.wf.rows.nx.2;have hrw2:=hrow.2.1;obtain⟨f1,f2⟩:=pJ (cu':={cu with spot:=.at_ x n}) (ht.same s1) e hm k4 ah (bo.kp k4 hpb.at_) ⟨hck.2.1,hrow.2.2,by show n<=4294967295;omega⟩;exact k _ L f1 ((Fr.same s1).trans f2)
def tZ(T:049)(c b:Nat)(ns:015):TZ:=if Standbook.isRow ns=false\/1<b then(T,-1) else match T.cursor c with
 |none=>(T,-4)
 |some x=>(T.cursorSet c (some {x with spot:=.at_ ns (if b=0 then 0 else 4294967295)}),0)
inductive Fh(K:05)(A:aQ)(vs:0012)(H:Hp)(Q:VK)(E:XK):Prop
 |mk(t r:Addr)(L:Lay)(T:049)(c b:Nat)(ns:015)(_:vs=[.ref t,.int c,.int b,.ref r])(_:012)(_:ax K H r (nV ns))(_:0086)(_:∀H' L',TabAt K A H' t L' (tZ T c b ns).1->Fr t H L H' L'->Q (.int (tZ T c b ns).2) H')
def D4(T:006):000 5 "seek_key" ["table","c","behind","key"] (Fh K A):=by
 refine T.GP.ok ph 02;obtain⟨t,r,L,T',c,b,ns,rfl,ht,hr1,hl,k⟩:=h;sleep 06;unfold tZ at k;refine gx _ (ae (aU (PW.pt (gq (a9 lQ 034 aA 077) (gz 0033))) 0003 aE) (ae 0025 (ae (aB (i:=4) ph.nd rfl 001 0056) (ae (aB (i:=5) ph.nd rfl 001 (jk (a9 fA 034 aA 077) (aD T.rF rfl) (aD T.jo rfl))) (ae (bR (K:=K) rfl (pv 4) (bE (cj 043 04 (aq (K:=K) rfl (pv 4) rfl) 019) (bM T) 01 (aa (pv 5) (aa 072 ab))) rfl) (af (ai aA))))))) ?_;kd_p;sleep 018
 ·kd_p;rw[aav (.inr 03)] at k;exact k H L ht Fr.refl
 ·sleep 055;sleep 038
  ·kd_p;rw[aav (.inl q2)] at k;exact k H1 L ht1 (Fr.same s1)
  ·rw[aan (by rw[q2];simp;omega)] at k;kd_p;refine ay h1' T.ak T.bt dk ?_;refine fU ht1.bz.gN ?_;kd_p
   cases e:T'.cursor c with
   |none=>
    rw[e] at k;rw[iD ht1.bz e];sleep 005;kd_p;exact k H1 L ht1 (Fr.same s1)
   |some cu=>
    rw[e] at k;obtain⟨a,hm,hv,dxc,pa,c1,c2⟩:=ly ht1.bz e;sleep 004;kd_p;refine ay h1' T.ak T.bt dk ?_;kd_p;refine iT ht1.bz.gN hv ?_;kd_p;have hck:=gZ ht.wf e;obtain⟨o,p,u,o1,o2,o3,g⟩:=ht1.core.ord hck.2.1;obtain⟨dxo,co,b1,b2⟩:=id g.ob;refine cw (λz=>?_) (λz=>?_)
    ·have hb:b=1:=by omega
     subst hb;kd_p;refine ay h1' T.ak T.aJ bA ?_;kd_p;refine ay c1 T.bQ T.gE vn ?_;kd_p;refine eT (ax.of ht1.aw.lst) o2 ?_;sleep 04;refine⟨o,p,r,_,u,_,ns,rfl,g.ob,g.gL,.inl (s1.seq hr1),q2,λH2 pb s2 hpb=>?_⟩;kd_p;refine bL (s2 _ _ c1) T.bQ T.b7 0057 ?_;rw[lJ];kd_p;have k4:=Kp.ins (s2 _ _ c1) 060;obtain⟨f1,f2⟩:=pJ (cu':={cu with spot:=.at_ ns 4294967295}) (ht1.same s2) e hm k4 ah (bo.kp k4 hpb.at_) ⟨hck.2.1,q2,aay _⟩;exact k _ L f1 ((Fr.same (s1.trans s2)).trans f2)
    ·have hb:b=0:=by omega
     subst hb;kd_p;refine ay h1' T.ak T.aJ bA ?_;kd_p;refine ay c1 T.bQ T.gE vn ?_;kd_p;refine eT (ax.of ht1.aw.lst) o2 ?_;sleep 04;refine⟨o,p,r,_,u,_,ns,rfl,g.ob,g.gL,.inl (s1.seq hr1),q2,λH2 pb s2 hpb=>?_⟩;kd_p;refine bL (s2 _ _ c1) T.bQ T.b7 0057 ?_;rw[lJ];kd_p;have k4:=Kp.ins (s2 _ _ c1) 060;obtain⟨f1,f2⟩:=pJ (cu':={cu with spot:=.at_ ns 0}) (ht1.same s2) e hm k4 ah (bo.kp k4 hpb.at_) ⟨hck.2.1,q2,aaT _⟩;exact k _ L f1 ((Fr.same (s1.trans s2)).trans f2)
def j5(y:Option (Nat×Standbook.Row))(end_:Spot):Spot:=match y with
 |some z=>.at_ z.2 z.1
 |none=>end_
def C6(T:049)(c:Nat)(x:Cursor)(y:Option (Nat×Standbook.Row))(end_:Spot)(hend:jx end_=0):T.moved c x y end_=(T.cursorSet c (some {x with spot:=j5 y end_}),((jx (j5 y end_):Nat):Int)):=by
 cases y with
 |none=>
  show(T.cursorSet c (some {x with spot:=end_}),(0:Int))=(T.cursorSet c (some {x with spot:=end_}),((jx end_:Nat):Int));rw[hend];rfl
 |some z=>rfl
inductive ug(K:05)(A:aQ)(f:Table->Nat->TZ)(vs:0012)(H:Hp)(Q:VK)(E:XK):Prop
 |mk(t:Addr)(L:Lay)(T:049)(c:Nat)(_:vs=[.ref t,.int c])(_:012)(_:∀H' L',TabAt K A H' t L' (f T c).1->Fr t H L H' L'->Q (.int (f T c).2) H')
def ue{T:049}(wf:SM.Wf T){k:Nat}{y:Option (Nat×Standbook.Row)}(hy:∀z,y=some z->z∈T.rows)(end_:Spot)(he:SM.mm end_):SM.mm (j5 y end_):=by
 cases y with
 |none=>exact he
 |some z=>
  have:=wf.rows.row z (hy z rfl);have:=wf.rows.nx.2;exact⟨(wf.rows.row z (hy z rfl)).2.2,by show z.1<=4294967295;omega⟩
def ES{od:0087}{rows:Rows}{i:Nat}{z:020}(h:(SM.fy od rows)[i]? =some z):z∈rows:=(SM.cY _ _).mem_iff.mp (aap h)
def Hf(T:006):000 3 "step_on" ["table","c"] (ug K A Table.next_):=by
 refine T.J_.ok vQ 02;obtain⟨t,L,T',c,rfl,ht,k⟩:=h;sleep 06;unfold Table.next_ at k;refine gx _ (ae 0025 (ae (aB (i:=2) vQ.nd rfl 001 0056) (ae (bR (K:=K) rfl 034 (bE (cj 043 04 0058 019) (kg T) 01 (aa 0058 ab)) rfl) (af (ai (cj 0039 0058 aA 019)))))) ?_;kd_p;sleep 024;kd_p
 cases e:T'.cursor c with
 |none=>
  rw[e] at k;rw[iD ht.bz e];sleep 005;kd_p;exact k H L ht Fr.refl
 |some cu=>
  rw[e] at k;have hck:=gZ ht.wf e;obtain⟨o0,p0,u0,_,_,_,hs,_⟩:=ht.ord hck.2.1;have k:∀H' L',TabAt K A H' t L' (T'.moved c cu (T'.after cu.order cu.spot) .last).1->Fr t H L H' L'->Q (.int (T'.moved c cu (T'.after cu.order cu.spot) .last).2) H':=k;rw[C6 _ _ _ _ _ rfl] at k;obtain⟨a,hm,hv,dxc,pa,c1,c2⟩:=ly ht.bz e;sleep 004;kd_p;refine ay h1 T.ak T.bt dk ?_;kd_p;refine iT ht.bz.gN hv ?_;kd_p;sleep 023;kd_p;refine ay c1 T.bQ T.gE vn ?_;kd_p;obtain⟨o,p,u,o1,o2,o3,g⟩:=ht.core.ord hck.2.1;sleep 015;sleep 04;refine ay c1 T.bQ T.b7 lF ?_;kd_p;refine⟨o,p,pa,_,u,_,_,rfl,g,c2,λH1 pb s1 hpb=>?_⟩;have ea:=SM.Ci ht.wf hs cu.spot
  have ep:(0072[SM.cnt 0072 ((SM.dA 026 cu.spot).1,(SM.dA 026 cu.spot).2+1)]?).getD ([18446744073709551616],0)=SM.dA 026 (j5 (T'.after cu.order cu.spot) .last):=by
   rw[ea];show(((SM.fy 026 T'.rows).map (SM.cZ 026))[_]?).getD _=_;rw[aai];cases(SM.fy 026 T'.rows)[SM.cnt 0072 ((SM.dA 026 cu.spot).1,(SM.dA 026 cu.spot).2+1)]? <;>rfl
  rw[ep] at hpb;kd_p;refine bL (s1 _ _ c1) T.bQ T.b7 0057 ?_;rw[lJ];have k4:=Kp.ins (s1 _ _ c1) 060;obtain⟨f1,f2⟩:=pJ (cu':={cu with spot:=j5 (T'.after cu.order cu.spot) .last}) (ht.same s1) e hm k4 ah (bo.kp k4 hpb) ⟨hck.2.1,ue ht.wf (k:=cu.order) (λz hz=>by rw[ea] at hz;exact ES hz) _ trivial⟩;obtain⟨kk,q1,q2⟩:=h_ (bo.kp k4 hpb);rw[sV] at q1;kd_p;refine ay ah T.bQ T.b7 lF ?_;kd_p;refine jv (j:=1) q1 rfl ?_;exact k _ L f1 ((Fr.same s1).trans f2)
def AK(T:006):000 3 "step_back" ["table","c"] (ug K A Table.prev):=by
 refine T.Eo.ok sQ 02;obtain⟨t,L,T',c,rfl,ht,k⟩:=h;sleep 06;unfold Table.prev at k;refine gx _ (ae 0025 (ae (aB (i:=2) sQ.nd rfl 001 0056) (ae (bR (K:=K) rfl 034 (bE (cj 043 04 0058 019) (p9 T) 01 (aa 0058 ab)) rfl) (af (ai (cj 0039 0058 aA 019)))))) ?_;kd_p;sleep 024;kd_p
 cases e:T'.cursor c with
 |none=>
  rw[e] at k;rw[iD ht.bz e];sleep 005;kd_p;exact k H L ht Fr.refl
 |some cu=>
  rw[e] at k;have hck:=gZ ht.wf e;obtain⟨o0,p0,u0,_,_,_,hs,_⟩:=ht.ord hck.2.1;have k:∀H' L',TabAt K A H' t L' (T'.moved c cu (T'.prior cu.order cu.spot) .first).1->Fr t H L H' L'->Q (.int (T'.moved c cu (T'.prior cu.order cu.spot) .first).2) H':=k;rw[C6 _ _ _ _ _ rfl] at k;obtain⟨a,hm,hv,dxc,pa,c1,c2⟩:=ly ht.bz e;sleep 004;kd_p;refine ay h1 T.ak T.bt dk ?_;kd_p;refine iT ht.bz.gN hv ?_;kd_p;sleep 023;kd_p;refine ay c1 T.bQ T.gE vn ?_;kd_p;obtain⟨o,p,u,o1,o2,o3,g⟩:=ht.core.ord hck.2.1;sleep 015;sleep 04;refine ay c1 T.bQ T.b7 lF ?_;kd_p;refine⟨o,p,pa,_,u,_,_,rfl,g,c2,λH1 pb s1 hpb=>?_⟩;have ea:=SM.Lf ht.wf hs cu.spot
  have ep:(if SM.cnt 0072 (SM.dA 026 cu.spot)=0 then([-1],0) else(0072[SM.cnt 0072 (SM.dA 026 cu.spot)-1]?).getD ([-1],0))=SM.dA 026 (j5 (T'.prior cu.order cu.spot) .first):=by
   rw[ea];by_cases z:SM.cnt 0072 (SM.dA 026 cu.spot)=0
   ·rw[aav z,aav z];rfl
   ·rw[aan z,aan z];show(((SM.fy 026 T'.rows).map (SM.cZ 026))[_]?).getD _=_;rw[aai];cases(SM.fy 026 T'.rows)[SM.cnt 0072 (SM.dA 026 cu.spot)-1]? <;>rfl
  rw[ep] at hpb;kd_p;refine bL (s1 _ _ c1) T.bQ T.b7 0057 ?_;rw[lJ];have k4:=Kp.ins (s1 _ _ c1) 060
  have hy:∀z,T'.prior cu.order cu.spot=some z->z∈T'.rows:=λz hz=>by
   rw[ea] at hz
   split at hz
   ·cases hz
   ·exact ES hz
  obtain⟨f1,f2⟩:=pJ (cu':={cu with spot:=j5 (T'.prior cu.order cu.spot) .first}) (ht.same s1) e hm k4 ah (bo.kp k4 hpb) ⟨hck.2.1,ue ht.wf (k:=cu.order) hy _ trivial⟩;obtain⟨kk,q1,q2⟩:=h_ (bo.kp k4 hpb);rw[sV] at q1;kd_p;refine ay ah T.bQ T.b7 lF ?_;kd_p;refine jv (j:=1) q1 rfl ?_;exact k _ L f1 ((Fr.same s1).trans f2)
def iB{H H2:Hp}{x dx:Addr}{o:HO}(h1:H x=none)(h2:H dx=none)(k:Kp [x] (upd (upd H dx (.own x)) x o) H2):au H H2:=λb u e=>by
 have n1:b≠x:=aG e h1;exact k.keep _ _ (by rw[aj n1,aj (aG e h2)];exact e) (fN n1)
def Ot{α:Type}{l m:076}{x:α}(h:(l++m).Nodup)(hx:x∉l++m):(l++x::m).Nodup:=by
 have p:(l++x::m).Perm (x::(l++m)):=List.perm_middle;exact p.nodup_iff.mpr (aa6.mpr ⟨hx,h⟩)
def Lay.Qn{L:Lay}{t x:Addr}{i:Nat}(h:(L.all t).Nodup)(hx:x∉L.all t):(({L with cs:=L.cs++[(i,x)]}:Lay).all t).Nodup:=by
 have e:({L with cs:=L.cs++[(i,x)]}:Lay).all t=([t,L.d,L.ol,L.cd,L.ml]++(L.os++(L.ps++L.cs.map (·.2))))++x::(L.ms.map (·.1)++L.ms.map (·.2)):=by
  unfold Lay.all;simp only[aaP,aaB,acY,aaL,List.cons_append,List.nil_append]
 have e2:L.all t=([t,L.d,L.ol,L.cd,L.ml]++(L.os++(L.ps++L.cs.map (·.2))))++(L.ms.map (·.1)++L.ms.map (·.2)):=by
  unfold Lay.all;simp only[aaL]
 rw[e];rw[e2] at h hx;exact Ot h hx
def Lay.Pd{L:Lay}{t x b:Addr}{i:Nat}(h:b∈({L with cs:=L.cs++[(i,x)]}:Lay).all t):b=x\/b∈L.all t:=by
 unfold Lay.all at h⊢;simp only[aaP,aaB,acY,aax,aao,aev,or_false] at h⊢
 grind
def xi(T:049)(k f:Nat):TZ:=if 1<f then(T,-1) else if T.has k=false then(T,-2) else match T.free with
 |some c=>(T.cursorSet c (some ⟨k,f==1,.first⟩),(c:Nat))
 |none=>(T,-3)
def oT{T:049}(wf:SM.Wf T){c:Nat}(h1:c<16)(h2:T.cursor c=none)(h3:∀j,j<c->(T.cursor j).isSome=true):T.free=some c:=by
 unfold Table.free;have hl:=wf.cl;rw[abI];refine⟨0018,?_,λj hj=>?_⟩
 ·unfold Table.cursor at h2;rw[aab 03] at h2;have h2:T.cursors[c]=none:=h2;rw[h2];rfl
 ·have:=h3 j hj;unfold Table.cursor at this;rw[aab 03] at this;have this:(T.cursors[j]'03).isSome=true:=this;intro z;rw[Option.isNone_iff_eq_none] at z;rw[z] at this;cases this
def IT{T:049}(wf:SM.Wf T)(h3:∀j,j<16->(T.cursor j).isSome=true):T.free=none:=by
 unfold Table.free;rw[acj];intro x hx;obtain⟨j,hj⟩:=aas.mp hx;have hl:=(aad.mp hj).1;rw[wf.cl] at hl;have:=h3 j hl;unfold Table.cursor at this;rw[hj] at this;have this:x.isSome=true:=this
 cases x with
 |none=>cases this
 |some y=>rfl
def An(T:006):000 3 "add_cursor" ["table","k","follows"] (G6 K A xi):=by
 refine T.AZ.ok rN 02;obtain⟨t,L,T',k,f,rfl,ht,kk⟩:=h;sleep 06;unfold xi at kk;refine gx _ (ae (aU (a9 lQ 034 aA 077) 0003 aE) (ae 0013 (ae (g_ aa5 rfl (mC rfl T.ng (aa (aD T.sN rfl) ab)) (bC (i:=3) rN.nd rfl 001) (af (aU (hJ (fq (dw hr) 072 04)) (ae (xZ (dw hr) 04 072 (xM (IM T) 01 rfl (aa 014 (aa (ee fA 034 aA 077) ab))) rfl) (af (ai 072))) aE))) (af (ai (aD T.oI rfl)))))) ?_;kd_p;sleep 018
 ·kd_p;rw[aav 03] at kk;exact kk H L ht Fr.refl
 ·rw[aan 03] at kk;kd_p;sleep 014;kd_p;refine⟨t,L,T',k,rfl,ht,?_⟩;kd_p;refine dz 0077 0077
  ·kd_p;rw[aav q3] at kk;exact kk H L ht Fr.refl
  ·rw[aan (by rw[q3];simp)] at kk;kd_p;refine⟨16,rfl,by decide,by decide,qw (n:=16) (λi σ H'=>∃a:Option V,σ=[some (.ref t),some (.int k),some (.int f),a]/\H'=H/\∀j,j<i->(T'.cursor j).isSome=true) ⟨none,rfl,rfl,λj hj=>absurd hj (abR _)⟩ ?_ ?_⟩
   ·rintro i σ H' hi ⟨a,rfl,rfl,ih⟩;rw[Int.zero_add];kd_p;sleep 024;kd_p
    cases e:T'.cursor i with
    |some cu=>
     obtain⟨a,hm,hv,hca⟩:=ly ht.bz e;sleep 004;kd_p;refine⟨_,rfl,rfl,λj hj=>?_⟩;by_cases z:j=i
     ·rw[z,e];rfl
     ·exact ih j 03
    |none=>
     rw[oT ht.wf hi e ih] at kk;rw[iD ht.bz e];sleep 005;kd_p;intro x dxc hx hdx hne;kd_p;refine⟨x,dxc,k,_,rfl,ah,λH2 k2 e2=>0091⟩;have s2:au H' H2:=iB hx hdx k2;have ht2:=ht.same s2;have hxn:x∉L.all t:=ht.iZ hx;kd_p;refine ay (s2 _ _ h1) T.ak T.bt dk ?_;kd_p
     have hcl:L.cs.length<=16:=by
      have:(L.cs.map (·.1)).Nodup:=ht.bz.nd
      have hsub:∀y∈L.cs.map (·.1),y∈List.range 16:=λy hy=>by
       obtain⟨cu,hcu⟩:=abW.mp ((ht.bz.has y).mpr hy);exact adx.mpr (gZ ht.wf hcu).1
      have:=List.Nodup.length_le_of_subset this hsub;rw[aaa,abe] at this;exact this
     refine⟨L.cd,_,rfl,sX.k (k:=Sum.inl (i:Int)) ht2.bz.gN (by unfold e_;rw[aaa,aaC];omega),?_⟩;rw[BH _ (iD ht.bz e)];kd_p
     have ecs:e_ L.cs++[(Sum.inl (i:Int),V.ref x)]=e_ (L.cs++[(i,x)]):=by
      unfold e_;rw[aaP];rfl
     rw[ecs];have k3:=Kp.gN ht2.bz.gN (.dK (e_ (L.cs++[(i,x)])));sleep 010;have ncd:∀{b:Addr},b∈[t,L.d,L.ol,L.ml]->b∉[L.cd]:=λhb=>fN (B9 bj hb);have off:∀{b:Addr},b∉[t,L.d,L.ol,L.cd,L.ml]->b∉[L.cd]:=λh=>xW h;have xcd:x≠L.cd:=λz=>hxn (by rw[z];exact Lay.vH);have hkl:k<T'.orders.length:=aar q3;refine kk _ {L with cs:=L.cs++[(i,x)]} ?_ ⟨?_,052⟩
     ·refine⟨ht.wf.cursorSet i (λy hy=>by cases hy;exact⟨hkl,trivial⟩),⟨dx,ch,k3.keep _ _ (s2 _ _ h1) (ncd im),hch⟩,ht2.rows.kp k3 (ncd im),ht2.aw.kp k3 (ncd im) (λb hb=>off (ap.fQ b hb).1) (λb hb=>off (ap.fG b hb).1),?_,ht2.marks.kp k3 (ncd im) (λb hb=>off (ap.gI b hb).1) (λb hb=>off (ap.ip b hb).1),Lay.Qn ht.nd hxn⟩
      have hnot:¬i∈L.cs.map (·.1):=λz=>by
       have:=(ht.bz.has i).mpr z;rw[e] at this;cases this
      refine⟨ah,?_,λm=>?_,λm b cu2 hb e3=>?_⟩
      ·rw[aaP];exact j8 ht.bz.nd hnot
      ·rw[fW ht.wf hi,aaP,aax];by_cases z:m=i
       ·subst z;rw[aav rfl];exact⟨λ_=>.inr 017,λ_=>rfl⟩
       ·rw[aan z];refine⟨λy=>.inl ((ht.bz.has m).mp y),λy=>?_⟩;rcases y with y|y
        ·exact(ht.bz.has m).mpr y
        ·exact absurd (by simpa using y) z
      ·rw[fW ht.wf hi] at e3;rcases aax.mp hb with hb|hb
       ·have z:m≠i:=λz=>hnot (by rw[<-z];exact aaw.mpr ⟨_,hb,rfl⟩);rw[aan z] at e3;exact(ht2.bz.at_ m b cu2 hb e3).kp k3 (off (ap.gC b (aaw.mpr ⟨_,hb,rfl⟩)).1)
       ·have hb:(m,b)=(i,x):=by simpa using hb
        cases hb;rw[aav rfl] at e3;cases e3
        have ef:decide ((f:Int)=1)=(f==1):=by
              by_cases z:f=1
              ·subst z;rfl
              ·rw[aal 03];exact(aaV.mpr z).symm
        refine⟨dxc,A.pF,?_,OU T.kO _⟩;rw[aj xcd,e2,ef]
     ·exact(Kp.same s2).trans (k3.mono λb hb=>by rw[aT hb];exact Lay.vH)
     ·rcases Lay.Pd hb with rfl|hb
      ·exact .inr hx
      ·exact .inl hb
   ·rintro σ H' ⟨a,rfl,rfl,ih⟩;kd_p;rw[IT ht.wf ih] at kk;exact kk H' L ht Fr.refl
def uD(T:049)(c:Nat):TZ:=match T.cursor c with
 |none=>(T,-4)
 |some _=>(T.cursorSet c none,0)
def Lay.JJ{L:Lay}{t:Addr}{cs':List (Nat×Addr)}(s:cs'.Sublist L.cs):(({L with cs:=cs'}:Lay).all t).Sublist (L.all t):=by
 unfold Lay.all;exact(abP _).append ((abP _).append ((abP _).append ((s.map _).append (abP _))))
def xE(T:006):000 1 "drop_cursor" ["table","c"] (ug K A uD):=by
 refine T.zK.ok yq 02;obtain⟨t,L,T',c,rfl,ht,k⟩:=h;sleep 06;unfold uD at k;refine gx _ (ae 0025 (ae (bp (BC 04 014 ⟨rfl,rfl,rfl,rfl⟩)) (af (ai aA)))) ?_;kd_p;sleep 024;kd_p
 cases e:T'.cursor c with
 |none=>
  rw[e] at k;rw[iD ht.bz e];sleep 005;kd_p;exact k H L ht Fr.refl
 |some cu=>
  rw[e] at k;have hlt:=(gZ ht.wf e).1;obtain⟨a,hm,hv,hca⟩:=ly ht.bz e;sleep 004;kd_p;refine ay h1 T.ak T.bt dk ?_;refine⟨L.cd,rfl,.inl ⟨_,.inl ht.bz.gN⟩,?_⟩;kd_p;refine⟨_,Sum.inl (c:Int),_,ht.bz.gN,rfl,hv,?_⟩;kd_p
  have ecs:gp (e_ L.cs) (Sum.inl (c:Int))=e_ (L.cs.filter λx=>x.1 !=c):=by
   unfold gp e_;rw[List.filter_map]
   congr 1
   refine aek λx _=>?_;show decide ((Sum.inl (x.1:Int):Key)≠Sum.inl (c:Int))=(x.1 !=c);by_cases z:x.1=c
   ·rw[aal (by rw[z];simp),z];simp
   ·rw[aaj (by
     intro y
     exact z (ab1 (aci y)))]
    exact(abE.mpr z).symm
  rw[ecs];have k3:=Kp.gN ht.bz.gN (.dK (e_ (L.cs.filter λx=>x.1 !=c)));sleep 010;have ncd:∀{b:Addr},b∈[t,L.d,L.ol,L.ml]->b∉[L.cd]:=λhb=>fN (B9 bj hb);have off:∀{b:Addr},b∉[t,L.d,L.ol,L.cd,L.ml]->b∉[L.cd]:=λh=>xW h;have hsub:(L.cs.filter λx=>x.1 !=c).Sublist L.cs:=List.filter_sublist;refine k _ {L with cs:=L.cs.filter λx=>x.1 !=c} ?_ ⟨k3.mono λb hb=>by rw[aT hb];exact Lay.vH,λb hb=>.inl ((Lay.JJ hsub).mem hb)⟩;refine⟨ht.wf.cursorSet c (λy hy=>by cases hy),⟨dx,ch,k3.keep _ _ h1 (ncd im),hch⟩,ht.rows.kp k3 (ncd im),ht.aw.kp k3 (ncd im) (λb hb=>off (ap.fQ b hb).1) (λb hb=>off (ap.fG b hb).1),?_,ht.marks.kp k3 (ncd im) (λb hb=>off (ap.gI b hb).1) (λb hb=>off (ap.ip b hb).1),ht.nd.sublist (Lay.JJ hsub)⟩;refine⟨ah,ht.bz.nd.sublist (hsub.map _),λm=>?_,λm b cu2 hb e3=>?_⟩
  ·rw[fW ht.wf hlt];by_cases z:m=c
   ·subst z;rw[aav rfl];refine⟨λy=>(by cases y),λy=>?_⟩;obtain⟨x,hx,hx1⟩:=aaw.mp y;exact absurd hx1 (abE.mp (abH.mp hx).2)
   ·rw[aan z,ht.bz.has m];refine⟨λy=>?_,λy=>?_⟩
    ·obtain⟨x,hx,hx1⟩:=aaw.mp y;exact aaw.mpr ⟨x,abH.mpr ⟨hx,abE.mpr (by rw[hx1];exact z)⟩,hx1⟩
    ·obtain⟨x,hx,hx1⟩:=aaw.mp y;exact aaw.mpr ⟨x,(abH.mp hx).1,hx1⟩
  ·rw[fW ht.wf hlt] at e3;by_cases z:m=c
   ·rw[aav z] at e3;cases e3
   ·rw[aan z] at e3;have hb':=(abH.mp hb).1;exact(ht.bz.at_ m b cu2 hb' e3).kp k3 (off (ap.gC b (aaw.mpr ⟨_,hb',rfl⟩)).1)
inductive G8(K:05)(A:aQ)(f:Table->TZ)(vs:0012)(H:Hp)(Q:VK)(E:XK):Prop
 |mk(t:Addr)(L:Lay)(T:049)(_:vs=[.ref t])(_:012)(_:∀H' L',TabAt K A H' t L' (f T).1->Fr t H L H' L'->Q (.int (f T).2) H')
def Apart.nodup{L:Lay}{t:Addr}(a:Apart L t):(L.all t).Nodup:=by
 unfold Lay.all;refine aaZ.mpr ⟨a.bj,aaZ.mpr ⟨a.os,aaZ.mpr ⟨a.ps,aaZ.mpr ⟨a.cs,aaZ.mpr ⟨a.m1,a.m2,λx hx y hy e=>?_⟩,λx hx y hy e=>?_⟩,λx hx y hy e=>?_⟩,λx hx y hy e=>?_⟩,λx hx y hy e=>?_⟩
 ·subst e;exact(a.gI x hx).2.2.2.2 hy
 ·subst e;rcases aax.mp hy with z|z
  ·exact(a.gC x hx).2.2.2.1 z
  ·exact(a.gC x hx).2.2.2.2 z
 ·subst e;rcases aax.mp hy with z|z
  ·exact(a.fG x hx).2.2.1 z
  ·sleep 020
   ·exact(a.fG x hx).2.2.2.1 z
   ·exact(a.fG x hx).2.2.2.2 z
 ·subst e;rcases aax.mp hy with z|z
  ·exact(a.fQ x hx).2.1 z
  ·sleep 020
   ·exact(a.fQ x hx).2.2.1 z
   ·sleep 020
    ·exact(a.fQ x hx).2.2.2.1 z
    ·exact(a.fQ x hx).2.2.2.2 z
 ·subst e;rcases aax.mp hy with z|z
  ·exact(a.fQ x z).1 hx
  ·sleep 020
   ·exact(a.fG x z).1 hx
   ·sleep 020
    ·exact(a.gC x z).1 hx
    ·sleep 020
     ·exact(a.gI x z).1 hx
     ·exact(a.ip x z).1 hx
def jn{L:Lay}{t b:Addr}:b∈L.all t↔b∈[t,L.d,L.ol,L.cd,L.ml]\/b∈L.os\/b∈L.ps\/b∈L.cs.map (·.2)\/b∈L.ms.map (·.1)\/b∈L.ms.map (·.2):=by
 unfold Lay.all;rw[aax,aax,aax,aax,aax]
def Apart.mark{L:Lay}{t x d':Addr}(a:Apart L t)(hx:x∉L.all t)(hd:d'∉L.all t)(hne:x≠d'):Apart {L with ms:=L.ms++[(x,d')]} t:=by
 rw[jn] at hx hd;simp only[not_or] at hx hd;obtain⟨x1,x2,x3,x4,x5,x6⟩:=hx;obtain⟨d1,d2,d3,d4,d5,d6⟩:=hd;have e1:(L.ms++[(x,d')]).map (·.1)=L.ms.map (·.1)++[x]:=by rw[aaP];rfl
 have e2:(L.ms++[(x,d')]).map (·.2)=L.ms.map (·.2)++[d']:=by rw[aaP];rfl
 have n1:∀{b:Addr},b∉L.ms.map (·.1)->b≠x->b∉(L.ms++[(x,d')]).map (·.1):=λh1 h2 z=>by
  rw[e1] at z;sleep 020
  ·exact h1 z
  ·exact h2 0084
 have n2:∀{b:Addr},b∉L.ms.map (·.2)->b≠d'->b∉(L.ms++[(x,d')]).map (·.2):=λh1 h2 z=>by
  rw[e2] at z;sleep 020
  ·exact h1 z
  ·exact h2 0084
 refine⟨a.os,a.ps,a.cs,?_,?_,a.bj,052,052,052,052,052⟩
 ·show((L.ms++[(x,d')]).map (·.1)).Nodup;rw[e1];exact j8 a.m1 x5
 ·show((L.ms++[(x,d')]).map (·.2)).Nodup;rw[e2];exact j8 a.m2 d6
 ·obtain⟨p1,p2,p3,p4,p5⟩:=a.fQ b hb;exact⟨p1,p2,p3,n1 p4 (λe=>x2 (e▸hb)),n2 p5 (λe=>d2 (e▸hb))⟩
 ·obtain⟨p1,p2,p3,p4,p5⟩:=a.fG b hb;exact⟨p1,p2,p3,n1 p4 (λe=>x3 (e▸hb)),n2 p5 (λe=>d3 (e▸hb))⟩
 ·obtain⟨p1,p2,p3,p4,p5⟩:=a.gC b hb;exact⟨p1,p2,p3,n1 p4 (λe=>x4 (e▸hb)),n2 p5 (λe=>d4 (e▸hb))⟩
 ·have hb:b∈(L.ms++[(x,d')]).map (·.1):=hb;rw[e1] at hb;rcases aax.mp hb with z|z
  ·obtain⟨p1,p2,p3,p4,p5⟩:=a.gI b z;exact⟨p1,p2,p3,p4,n2 p5 (λe=>d5 (e▸z))⟩
  ·have:b=x:=aT z;subst this;exact⟨x1,x2,x3,x4,n2 x6 hne⟩
 ·have hb:b∈(L.ms++[(x,d')]).map (·.2):=hb;rw[e2] at hb;rcases aax.mp hb with z|z
  ·obtain⟨p1,p2,p3,p4,p5⟩:=a.ip b z;exact⟨p1,p2,p3,p4,n1 p5 (λe=>x6 (e▸z))⟩
  ·have:b=d':=aT z;subst this;exact⟨d1,d2,d3,d4,n1 d5 (abl hne)⟩
def Lay.HS{L:Lay}{t:Addr}{ms':List (Addr×Addr)}(s:ms'.Sublist L.ms):(({L with ms:=ms'}:Lay).all t).Sublist (L.all t):=by
 unfold Lay.all;exact(abP _).append ((abP _).append ((abP _).append ((abP _).append ((s.map _).append (s.map _)))))
def Ex(T:006):000 3 "set_mark" ["table"] (G8 K A Table.mark):=by
 refine T.G9.ok DH 02;obtain⟨t,L,T',rfl,ht,k⟩:=h;sleep 06;sleep 010;have gJ:=kl ht.marks;unfold Table.mark at k;refine gx _ (ae (aU (a9 qD 0011 (aD T.vk rfl) 077) (af (ai (aD T.oI rfl))) aE) (ae (aU (a9 fA 0011 aA 077) (af (bR (K:=K) rfl 0094 aA rfl)) aE) (ae (bp (kW (K:=K) rfl aaJ abV abU lW 04 (aa (xM (M6 T) 01 rfl (aa 04 (aa 04 (aa 04 ab)))) ab))) (af (ai 0011))))) ?_;sleep 042;rw[aaa,gJ];sleep 018
 ·kd_p;rw[aav (show Standbook.MARKS<=T'.marks.length by show 8<=_;omega)] at k;exact k H L ht Fr.refl
 ·rw[aan (show¬Standbook.MARKS<=T'.marks.length by show¬8<=_;omega)] at k;have q8:T'.marks.length<8:=by omega
  have rest:∀H1,Kp [t] H H1->H1 t=some (.ins A.cT dx (fT L.d (T'.next:Nat) L.ol L.cd L.ml (T'.changes:Nat)))->
    CP (AA (JD K "list" uo (nD K (kC 0) "marks") (jR (uj A.cM (nQ K A) [] E0 (jR (nD K (kC 0) "rows") (jR (nD K (kC 0) "next_number") (jR (nD K (kC 0) "changes") jC)))) jC)))
     (yn (B8 (xQ K) (jR (nD K (kC 0) "marks") jC))) 045 (L2.start ["table"] [.ref t]) H1:=by
   intro H1 k1 t1
   have ht1:TabAt K A H1 t L T':=by
    have nt5:∀{b:Addr},b∈[L.d,L.ol,L.cd,L.ml]->b∉[t]:=λhb=>fN (xr bj hb);exact⟨ht.wf,⟨dx,_,t1,λ_=>rfl⟩,ht.rows.kp k1 (nt5 im),ht.aw.kp k1 (nt5 im) (λb hb=>kP (ap.fQ b hb).1) (λb hb=>kP (ap.fG b hb).1),ht.bz.kp k1 (nt5 im) (λb hb=>kP (ap.gC b hb).1),ht.marks.kp k1 (nt5 im) (λb hb=>kP (ap.gI b hb).1) (λb hb=>kP (ap.ip b hb).1),ht.nd⟩
   kd_p;refine ay t1 T.ak T.bW fX ?_;refine⟨.inl ⟨rfl,_,ax.of ht1.marks.lst⟩,?_⟩;kd_p;refine ay t1 T.ak T.aP cA ?_;kd_p;refine ay t1 T.ak T.bg jt ?_;kd_p;refine ay t1 T.ak T.fg qi ?_;kd_p;intro x dxm hx hdx hne;have sm:au H1 (upd (upd H1 dxm (.own x)) x (.ins A.cM dxm [])):=λb u e=>by rw[aj (aG e hx),aj (aG e hdx)];exact e
   refine⟨x,dxm,L.d,T'.rows,_,_,rfl,ah,ht1.rows.kp (S:=[]) (Kp.same sm) 017,λH2 d' k2 hd' e2 r2=>0091⟩;have s2:au H1 H2:=iB hx hdx k2;have ht2:=ht1.same s2;have hxn:x∉L.all t:=ht1.iZ hx;have hdn:d'∉L.all t:=ht1.iZ (sm.free hd');have hxd:x≠d':=λz=>by rw[<-z,ah] at hd';cases hd'
   have hd1:H1 d'=none:=sm.free hd';have hms:L.ms.length<sizeLine:=by rw[aaC];omega
   kd_p;refine⟨L.ml,_,.ref x,rfl,rfl,ht2.marks.lst,by rw[aaa];exact hms,?_⟩;have k3:=Kp.lst ht2.marks.lst (.lst (L.ms.map 0004++[V.ref x]));have e3:upd H2 L.ml (.lst (L.ms.map 0004++[V.ref x])) L.ml=some (.lst (L.ms.map 0004++[V.ref x])):=ah;generalize upd H2 L.ml (.lst (L.ms.map 0004++[V.ref x]))=H3 at k3 e3⊢;have nml:∀{b:Addr},b∈[t,L.d,L.ol,L.cd]->b∉[L.ml]:=λhb=>fN (KY bj hb);have off:∀{b:Addr},b∉[t,L.d,L.ol,L.cd,L.ml]->b∉[L.ml]:=λh=>xW h;have t3:=k3.keep _ _ (s2 _ _ t1) (nml im);have xml:x∉[L.ml]:=λz=>hxn (by rw[aT z];exact Lay.sW);have dml:d'∉[L.ml]:=λz=>hdn (by rw[aT z];exact Lay.sW);kd_p;refine ay t3 T.ak T.bW fX ?_;kd_p;refine cf (.inl (ax.of e3)) ?_;have el:(L.ms.map 0004++[V.ref x]).length=T'.marks.length+1:=by rw[aah,aaa,gJ];rfl
   rw[el];refine k H3 {L with ms:=L.ms++[(x,d')]} ?_ ⟨?_,052⟩
   ·refine⟨ht.wf.NX q8,⟨dx,_,t3,λ_=>rfl⟩,ht2.rows.kp k3 (nml im),ht2.aw.kp k3 (nml im) (λb hb=>off (ap.fQ b hb).1) (λb hb=>off (ap.fG b hb).1),ht2.bz.kp k3 (nml im) (λb hb=>off (ap.gC b hb).1),⟨?_,?_⟩,(ap.mark hxn hdn hxd).nodup⟩
    ·rw[e3];show _=some (HO.lst ((L.ms++[(x,d')]).map λx=>V.ref x.1));rw[aaP];rfl
    ·show Paired _ (L.ms++[(x,d')]) ((⟨T'.rows,T'.next,T'.changes⟩::T'.marks:List Mark).reverse);rw[List.reverse_cons];refine L2.Paired.snoc (Paired.imp_mem ht2.marks.all λy mk hy z=>z.kp k3 (off (ap.gI _ (aaw.mpr ⟨y,hy,rfl⟩)).1) (off (ap.ip _ (aaw.mpr ⟨y,hy,rfl⟩)).1)) ?_;exact⟨⟨dxm,k3.keep _ _ e2 xml⟩,r2.kp k3 dml⟩
   ·exact((k1.mono λb hb=>by rw[aT hb];exact Lay.pP).trans (Kp.same s2)).trans (k3.mono λb hb=>by rw[aT hb];exact Lay.sW)
   ·rw[jn] at hb;show b∈L.all t\/H b=none;rw[jn];have fr:∀{b:Addr},H1 b=none->b∉L.all t->H b=none:=λ{b} h1 h2=>k1.free h1 λz=>h2 (by rw[aT z];exact Lay.pP);rcases hb with z|z|z|z|z|z
    ·exact .inl (.inl z)
    ·exact .inl (.inr (.inl z))
    ·exact .inl (.inr (.inr (.inl z)))
    ·exact .inl (.inr (.inr (.inr (.inl z))))
    ·have z:b∈(L.ms++[(x,d')]).map (·.1):=z;rw[aaP,aax] at z;rcases z with z|z
     ·exact .inl (.inr (.inr (.inr (.inr (.inl z)))))
     ·have:b=x:=aT z;subst this;exact .inr (fr hx hxn)
    ·have z:b∈(L.ms++[(x,d')]).map (·.2):=z;rw[aaP,aax] at z;rcases z with z|z
     ·exact .inl (.inr (.inr (.inr (.inr (.inr z)))))
     ·have:b=d':=aT z;subst this;exact .inr (fr hd1 hdn)
  sleep 042;rw[aaa,gJ];refine cw (λz=>?_) (λz=>?_)
  ·kd_p;refine bL h1 T.ak T.fg (by show 6<1000;decide) ?_;rw[m6];have e0:T'.changes=0:=ht.wf.m0 (abm (by omega));refine rest _ (Kp.ins h1 _) ?_;rw[ah,e0];rfl
  ·refine ba ?_;have e0:T'.marks≠[]:=λy=>z (by rw[y];rfl);refine rest H (Kp.refl _ _) ?_;rw[h1,hch e0]
def yx{H:Hp}{t:Addr}{L:Lay}{T:049}(ht:012){m:Mark}{l:List Mark}(e:T.marks=m::l):∃x d ms,L.ms=ms++[(x,d)]/\mq K A H x d m/\Paired (λx mk=>mq K A H x.1 x.2 mk) ms l.reverse:=by
 have r:=ht.marks.all;rw[e,List.reverse_cons] at r
 have key:∀{α β:Type} {F:0059} {xs:076} {ys:List β} {y:β},Paired F xs (ys++[y])->∃xs' x,xs=xs'++[x]/\F x y/\Paired F xs' ys:=by
  intro α β F xs ys y
  induction ys generalizing xs with
  |nil=>
   intro q
   cases q with
   | @cons a _ as _ q1 q2=>
     cases q2;exact⟨[],a,rfl,q1,.nil⟩
  |cons b ys ih=>
   intro q
   cases q with
   | @cons a _ as _ q1 q2=>
     obtain⟨xs',x,e1,e2,e3⟩:=ih q2;exact⟨a::xs',x,by rw[e1];rfl,e2,.cons q1 e3⟩
 obtain⟨ms,xd,e1,e2,e3⟩:=key r;exact⟨xd.1,xd.2,ms,e1,e2,e3⟩
def CO(T:006):000 1 "keep_rows" ["table"] (G8 K A Table.keep):=by
 refine T.Eg.ok A5 02;obtain⟨t,L,T',rfl,ht,k⟩:=h;sleep 06;sleep 010;have gJ:=kl ht.marks;unfold Table.keep at k;refine gx _ (ae (aU (a9 fA 0011 aA 077) 073 aE) (ae (bp (Mn (K:=K) rfl aaJ adB adA IH 04)) (af (ai 0011)))) ?_;sleep 042;rw[aaa,gJ]
 cases e:T'.marks with
 |nil=>
  rw[e] at k;refine cw (λ_=>?_) (λz=>absurd rfl z);kd_p;exact k H L ht Fr.refl
 |cons m l=>
  rw[e] at k;refine cw (λz=>absurd z (by rw[aat];omega)) (λ_=>?_);obtain⟨x,d,ms,e1,e2,e3⟩:=yx ht e;have hl:=ht.marks.lst;rw[e1,aaP] at hl;kd_p;refine ay h1 T.ak T.bW fX ?_;refine⟨.inl ⟨rfl,_,ax.of hl⟩,?_⟩;refine⟨L.ml,_,.ref x,rfl,rfl,hl,?_,?_⟩
  ·rw[aah,aaa];show(ms.map 0004++[V.ref x])[ms.length+1-1]? =_;rw[aa4 (by rw[aaa];omega),aaa];simp
  ·have ed:(ms.map 0004++[(x,d)].map 0004).dropLast=ms.map λx=>V.ref x.1:=by
    show(ms.map 0004++[V.ref x]).dropLast=_;exact List.dropLast_concat
   rw[ed];have k3:=Kp.lst hl 065;have e4:upd H L.ml 065 L.ml=some 065:=ah;generalize upd H L.ml 065=H3 at k3 e4⊢;have nml:∀{b:Addr},b∈[t,L.d,L.ol,L.cd]->b∉[L.ml]:=λhb=>fN (KY bj hb);have off:∀{b:Addr},b∉[t,L.d,L.ol,L.cd,L.ml]->b∉[L.ml]:=λh=>xW h;have t3:=k3.keep _ _ h1 (nml im);kd_p;refine ay t3 T.ak T.bW fX ?_;kd_p;refine cf (.inl (ax.of e4)) ?_
   have hlen:(ms.map λx=>V.ref x.1).length=l.length:=by
    have:=aaY e3;rw[abb] at this;rw[aaa];exact this
   rw[hlen];have sub:ms.Sublist L.ms:=by rw[e1];exact aej _ _
   refine k H3 {L with ms:=ms} ?_ ⟨k3.mono λb hb=>by rw[aT hb];exact Lay.sW,λb hb=>.inl ((Lay.HS sub).mem hb)⟩;refine⟨ht.wf.OR e,⟨dx,ch,t3,λhm=>?_⟩,ht.rows.kp k3 (nml im),ht.aw.kp k3 (nml im) (λb hb=>off (ap.fQ b hb).1) (λb hb=>off (ap.fG b hb).1),ht.bz.kp k3 (nml im) (λb hb=>off (ap.gC b hb).1),⟨e4,?_⟩,ht.nd.sublist (Lay.HS sub)⟩
   ·have hm:l≠[]:=hm;have e7:=hch (by rw[e];intro z;cases z)
    have e8:l.isEmpty=false:=by
     cases z:l with
     |nil=>exact absurd z hm
     |cons a l=>rfl
    show ch=((if l.isEmpty=true then 0 else T'.changes:Nat):Int);rw[e8,e7];rfl
   ·exact Paired.imp_mem e3 λy mk hy z=>z.kp k3 (off (ap.gI _ 071).1) (off (ap.ip _ 071).1)
inductive LR(K:05)(A:aQ)(vs:0012)(H:Hp)(Q:VK)(E:XK):Prop
 |mk(t:Addr)(L:Lay)(T:049)(_:vs=[.ref t])(_:012)(_:∀H' L',TabAt K A H' t L' T.back.1->Fr t H L H' L'->L'.os=L.os->Q (.int T.back.2) H')
def wm(T:006):000 8 "go_back" ["table"] (LR K A):=by
 refine T.Ju.ok wu 02;obtain⟨t,L,T',rfl,ht,k⟩:=h;sleep 06;sleep 010;have gJ:=kl ht.marks;unfold Table.back at k;refine gx _ (ae (aU (a9 fA 0011 aA 077) 073 aE) (ae (aB (i:=1) wu.nd rfl 001 (Mn (K:=K) rfl aaJ adB adA IH 04)) (ae (bp (bE 0094 (vo T) 01 (aa 0022 (aa 0022 ab)))) (ae (bR (K:=K) rfl 0094 0022 rfl) (af (ai 0011)))))) ?_;sleep 042;rw[aaa,gJ]
 cases e:T'.marks with
 |nil=>
  rw[e] at k;refine cw (λ_=>?_) (λz=>absurd rfl z);kd_p;exact k H L ht Fr.refl rfl
 |cons m l=>
  rw[e] at k;refine cw (λz=>absurd z (by rw[aat];omega)) (λ_=>?_);obtain⟨x,d,ms,e1,e2,e3⟩:=yx ht e;have hl:=ht.marks.lst;rw[e1,aaP] at hl;have hmr:=ht.wf.mr m (by rw[e];exact aae);kd_p;refine ay h1 T.ak T.bW fX ?_;refine⟨.inl ⟨rfl,_,ax.of hl⟩,?_⟩;refine⟨L.ml,_,.ref x,rfl,rfl,hl,?_,?_⟩
  ·rw[aah,aaa];show(ms.map 0004++[V.ref x])[ms.length+1-1]? =_;rw[aa4 (by rw[aaa];omega),aaa];simp
  ·have ed:(ms.map 0004++[(x,d)].map 0004).dropLast=ms.map λx=>V.ref x.1:=by
    show(ms.map 0004++[V.ref x]).dropLast=_;exact List.dropLast_concat
   rw[ed];have k3:=Kp.lst hl 065;have e4:upd H L.ml 065 L.ml=some 065:=ah;generalize upd H L.ml 065=H3 at k3 e4⊢;have nml:∀{b:Addr},b∈[t,L.d,L.ol,L.cd]->b∉[L.ml]:=λhb=>fN (KY bj hb);have off:∀{b:Addr},b∉[t,L.d,L.ol,L.cd,L.ml]->b∉[L.ml]:=λh=>xW h;have t3:=k3.keep _ _ h1 (nml im);have xin:x∈L.ms.map (·.1):=by rw[e1];simp
   have din:d∈L.ms.map (·.2):=by rw[e1];simp
   have m3:=e2.kp k3 (off (ap.gI x xin).1) (off (ap.ip d din).1);obtain⟨dxm,o3⟩:=m3.obj;kd_p;refine aF t3 (iw 07) ?_;kd_p;refine ay o3 T.m8 T.sA Nf ?_;kd_p;refine ay o3 T.m8 T.lg MQ ?_;kd_p;have tno:t∉L.os:=λz=>(ap.fQ t z).1 017;refine⟨t,dx,_,L.ol,L.cd,L.ml,d,_,_,ch,L.os,T'.orders,m.rows,rfl,t3,ht.aw.b.kp k3 (nml im) (λb hb=>off (ap.fQ b hb).1),ap.os,tno,ht.wf.os,m3.rows,hmr.good,λy hy=>(hmr.row y hy).2.2,hmr.len,λH4 d' ps k4 hd' pn pf t4 r4 o4=>?_⟩
   have xno:x∉t::L.os:=λz=>by
    sleep 021
    ·exact(ap.gI x xin).1 (by rw[z];simp)
    ·exact(ap.gI x xin).2.1 z
   kd_p;refine ay (k4.keep _ _ o3 xno) T.m8 T.ow Hd ?_;kd_p;refine bL t4 T.ak T.fg 0002 ?_;rw[m6];have k5:=Kp.ins t4 084;have t5:upd H4 t 084 t=some 084:=ah;generalize upd H4 t 084=H5 at k5 t5⊢;have k45:Kp (t::L.os) H3 H5:=k4.trans (k5.mono λb hb=>by rw[aT hb];exact aae)
   have n45:∀{b:Addr},b≠t->b∉L.os->b∉t::L.os:=λh1 h2 z=>by
    sleep 021
    ·exact h1 z
    ·exact h2 z
   have mlt:L.ml≠t:=xr bj im;have cdt:L.cd≠t:=xr bj im;have olt:L.ol≠t:=xr bj im;have v8:∀{b:Addr},b∈[t,L.d,L.ol,L.cd,L.ml]->b∉L.os:=λhb z=>(ap.fQ _ z).1 hb;have e5:=k45.keep _ _ e4 (n45 mlt (v8 im));kd_p;refine ay t5 T.ak T.bW fX ?_;kd_p;refine cf (.inl (ax.of e5)) ?_
   have hlen:(ms.map λx=>V.ref x.1).length=l.length:=by
    have:=aaY e3;rw[abb] at this;rw[aaa];exact this
   rw[hlen];have sub:ms.Sublist L.ms:=by rw[e1];exact aej _ _
   have all3:∀b∈L.all t,∃o,H3 b=some o:=λb hb=>by
    obtain⟨o,ho,_⟩:=ht.there b hb;by_cases z:b=L.ml
    ·exact⟨_,by rw[z];exact e4⟩
    ·exact⟨o,k3.keep _ _ ho 0084⟩
   have newall:∀{b:Addr},H3 b=none->b∉L.all t:=λhb z=>by
    obtain⟨o,ho⟩:=all3 _ z;rw[hb] at ho;cases ho
   have new0:∀{b:Addr},H3 b=none->H b=none:=λ{b} hb=>k3.free hb λz=>by
    rw[aT z,e4] at hb;cases hb
   have d'n:=newall hd';have psn:∀p∈ps,p∉L.all t:=λp hp=>newall (pf p hp)
   have pd':∀p∈ps,p≠d':=λp hp z=>by
    obtain⟨kvs,rs,q1,_⟩:=r4;obtain⟨i,hi⟩:=aas.mp hp;have hil:=(aad.mp hi).1;have l1:=o4.lo;have l2:=o4.lp;obtain⟨as,q2,_⟩:=(o4.at_ i _ p _ 0093 hi 0093).aO;rw[z,q1] at q2;cases q2
   have five':[t,d',L.ol,L.cd,L.ml].Nodup:=by
    have q1:t≠d':=λz=>d'n (by rw[<-z];exact Lay.pP);have q2:L.ol≠d':=λz=>d'n (by rw[<-z];exact Lay.yr);have q3:L.cd≠d':=λz=>d'n (by rw[<-z];exact Lay.vH);have q4:L.ml≠d':=λz=>d'n (by rw[<-z];exact Lay.sW);simp at bj⊢
    grind
   have in5:∀{b:Addr},b∉[t,L.d,L.ol,L.cd,L.ml]->b≠d'->b∉[t,d',L.ol,L.cd,L.ml]:=λh1 h2=>by
    simp at h1⊢
    grind
   have ap':Apart {L with d:=d',ps:=ps,ms:=ms} t:=by
    refine⟨ap.os,pn,ap.cs,ap.m1.sublist (sub.map _),ap.m2.sublist (sub.map _),five',052,052,052,052,052⟩
    ·obtain⟨p1,p2,p3,p4,p5⟩:=ap.fQ b hb;exact⟨in5 p1 λz=>d'n (z▸Lay.Dn hb),λz=>psn b z (Lay.Dn hb),p3,λz=>p4 0073,λz=>p5 0073⟩
    ·have q:=psn b hb;rw[jn] at q;simp only[not_or] at q;exact⟨in5 q.1 (pd' b hb),q.2.1,q.2.2.2.1,λz=>q.2.2.2.2.1 0073,λz=>q.2.2.2.2.2 0073⟩
    ·obtain⟨p1,p2,p3,p4,p5⟩:=ap.gC b hb;exact⟨in5 p1 λz=>d'n (z▸Lay.sJ hb),p2,λz=>psn b z (Lay.sJ hb),λz=>p4 0073,λz=>p5 0073⟩
    ·have hb':=(sub.map (·.1)).mem hb;obtain⟨p1,p2,p3,p4,p5⟩:=ap.gI b hb';exact⟨in5 p1 λz=>d'n (z▸Lay.Hy hb'),p2,λz=>psn b z (Lay.Hy hb'),p4,λz=>p5 0073⟩
    ·have hb':=(sub.map (·.2)).mem hb;obtain⟨p1,p2,p3,p4,p5⟩:=ap.ip b hb';exact⟨in5 p1 λz=>d'n (z▸Lay.GI hb'),p2,λz=>psn b z (Lay.GI hb'),p4,λz=>p5 0073⟩
   have nt:∀{b:Addr},b∉[t,L.d,L.ol,L.cd,L.ml]->b≠t:=λh z=>h (by rw[z];simp);refine k H5 {L with d:=d',ps:=ps,ms:=ms} ⟨ht.wf.backTo e,⟨dx,_,t5,λ_=>rfl⟩,?_,?_,?_,⟨e5,?_⟩,ap'.nodup⟩ ⟨?_,052⟩ rfl
   ·exact r4.kp k5 (λz=>d'n (by rw[show d'=t from aT z];exact Lay.pP))
   ·exact o4.kp k5 (by simpa using olt) (λb hb=>by simpa using nt (ap.fQ b hb).1) (λb hb z=>psn b hb (by rw[aT z];exact Lay.pP))
   ·exact(ht.bz.kp k3 (nml im) (λb hb=>off (ap.gC b hb).1)).kp k45 (n45 cdt (v8 im)) λb hb=>n45 (nt (ap.gC b hb).1) (ap.gC b hb).2.1
   ·exact Paired.imp_mem e3 λy mk hy z=>(z.kp k3 (off (ap.gI _ 071).1) (off (ap.ip _ 071).1)).kp k45
     (n45 (nt (ap.gI _ 071).1) (ap.gI _ 071).2.1) (n45 (nt (ap.ip _ 071).1) (ap.ip _ 071).2.1)
   ·refine(k3.mono λb hb=>?_).trans (k45.mono λb hb=>?_)
    ·rw[aT hb];exact Lay.sW
    ·rcases aao.mp hb with rfl|hb
     ·exact Lay.pP
     ·exact Lay.Dn hb
   ·rw[jn] at hb;rcases hb with z|z|z|z|z|z
    ·have z:b=t\/b=d'\/b=L.ol\/b=L.cd\/b=L.ml:=by simpa using z
     rcases z with rfl|rfl|rfl|rfl|rfl
     ·exact .inl Lay.pP
     ·exact .inr (new0 hd')
     ·exact .inl Lay.yr
     ·exact .inl Lay.vH
     ·exact .inl Lay.sW
    ·exact .inl (Lay.Dn z)
    ·exact .inr (new0 (pf b z))
    ·exact .inl (Lay.sJ z)
    ·exact .inl (Lay.Hy ((sub.map _).mem z))
    ·exact .inl (Lay.GI ((sub.map _).mem z))
end Bk
section
namespace L2
open PySem PySem.Spec PyProof.Rows
def Pe{X:Cx}{K:05}(hK:X.K=K)(hc:0009)(hu:062):dM X (.type "set") (LU K):=hK▸IC hc hu
def P1{X:Cx}:dM X 0070 F7:=Jt
def Oo{H:Hp}{a:Addr}{n:Nat}{Q:VK}(h:H a=some (qt a n))(q:Q (.int n) H):F7 [.ref a] H Q:=⟨a,n,rfl,h,q⟩
end L2
namespace Bk
open PySem PyProof.Rows L2
open Standbook (Order Rows Table Mark Cursor Spot)
variable{P:027}{w:066}{K:05}{mg:005}{base:Heap}{A:aQ}
def K4{H:Hp}{as:016}{pl:List Pl}(h0:Paired 0079 as pl):∃ks:List Addr,ks.length=pl.length/\∀(i:Nat) (a k:Addr) (q:Pl),as[i]? =some a->ks[i]? =some k->pl[i]? =some q->bw K H a [.ref k,.int q.2]/\bw K H k (q.1.map V.int):=by
 induction h0 with
 |nil=>exact⟨[],rfl,λi a k q h=>by simp at h⟩
 | @cons a q as pl h t ih=>
   obtain⟨kk,b1,b2⟩:=h_ h;obtain⟨ks,h1,h2⟩:=ih;refine⟨kk::ks,by simp[h1],λi a' k' q' ha hk hq=>?_⟩
   cases i with
   |zero=>
    obtain rfl:a=a':=aac ha;obtain rfl:kk=k':=aac hk;obtain rfl:q=q':=aac hq;exact⟨b1,b2⟩
   |succ i=>exact h2 i a' k' q' ha hk hq
def JZ(ks:0066):decide ((ST.i8 (λi=>ks.getD i []) ks.length).length<ks.length)= !decide ks.Nodup:=by
 have key:(ST.i8 (λi=>ks.getD i []) ks.length).length<ks.length↔¬ks.Nodup:=by
  rw[ST.Fi];have gd:∀i,(h:i<ks.length)->ks.getD i []=ks[i]:=λi h=>by rw[aaF,aab h];rfl
  constructor
  ·rintro⟨i,j,h1,h2,h3⟩ hn;rw[gd i 03,gd j h2] at h3;exact abn.mp hn i j 03 h2 h1 h3
  ·intro hn;apply ack;intro hc;refine hn (abn.mpr λi j hi hj hij e=>hc ⟨i,j,hij,hj,?_⟩);rw[gd i hi,gd j hj];exact e
 by_cases h:ks.Nodup
 ·rw[aaj h,aal λz=>key.mp z h];rfl
 ·rw[aal h,aaj (key.mpr h)];rfl
inductive Fq(K:05)(A:aQ)(vs:0012)(H:Hp)(Q:VK)(E:XK):Prop
 |mk(o p:Addr)(od:0087)(u:Bool)(pl:List Pl)(_:vs=[.ref o])(_:OB K A H o p od u)(_:iy K H p pl)(_:pl.length<=256)(_:∀H',au H H'->Q (.bl (!decide (pl.map (·.1)).Nodup)) H')
def jM(T:006):024 A.cO 1 "has_same_keys" ["self"] (Fq K A):=by
 refine T.qe.ok ic 02;obtain⟨o,p,od,u,pl,rfl,hob,⟨as,h3,h4⟩,hn,k⟩:=h;obtain⟨dx,c,h1,h2⟩:=hob;obtain⟨ks,hkl,hks⟩:=K4 h4;have hlen:=iy.len h4;refine gx _ (af (ai (ee ij (aI P1 rfl T.bG bh (aa (fi (Pe (K:=K) rfl rfl hr.units) rfl T.GL C5 (aa (gB (own:=[("place",1)]) rfl ic.nd (c8 (K:=K) rfl 04) (c_ (by show gP ["self","place"] (ag ir) _ _=true;decide+kernel)) (λ_ _ _ _ _=>bC (i:=1) ic.nd rfl 001 0044) 067 (λ_ _ _ _ _=>(cj 0039 014 aA 019))) ab)) ab)) 0011 077))) ?_;kd_p;refine ay h1 T.cg T.bH fj ?_;kd_p;refine jS (ks.map V.ref) (ax.of h3) (by rw[aaa,aaa,hlen,hkl]) (by rw[aaa,hlen,aaC];omega) (λi x y H3 Q3 hx hy s4 q=>?_) λD H3 _ s4 e=>?_
 ·rw[aai] at hx hy;obtain⟨a,ea,rfl⟩:=aaI.mp hx;obtain⟨kk,ek,rfl⟩:=aaI.mp hy;obtain⟨q0,e4,_⟩:=km h4 ea;obtain⟨b1,_⟩:=hks i a kk q0 ea ek e4;kd_p;exact jv (j:=0) (s4.tup b1) rfl (q _ 042)
 ·refine⟨D,ks,pl.map (·.1),rfl,ax.of e,by omega,by rw[aaa];exact hkl,λi a kk ha hk=>?_,λp' hp'=>?_⟩
  ·rw[aai] at hk;obtain⟨q0,e4,rfl⟩:=aaI.mp hk;obtain⟨z,ez,_⟩:=vP h4 e4;exact s4.tup (hks i z a q0 ez ha e4).2
  ·kd_p;refine Oo ah ?_;have s5:au H (upd H3 p' (qt p' (ST.i8 (λi=>(pl.map (·.1)).getD i []) (pl.map (·.1)).length).length)):=s4.trans (.new hp');generalize upd H3 p' (qt p' (ST.i8 (λi=>(pl.map (·.1)).getD i []) (pl.map (·.1)).length).length)=H4 at s5⊢;kd_p;refine ay (s5 _ _ h1) T.cg T.bH fj ?_;kd_p;refine cf (.inl (ax.of (s5 _ _ h3))) ?_;kd_p;have em:=JZ (pl.map (·.1));have e1:(pl.map (·.1)).length=pl.length:=aaa _;rw[e1] at em⊢;rw[aaa,hlen];have e2:decide (((ST.i8 (λi=>(pl.map (·.1)).getD i []) pl.length).length:Int)<(pl.length:Int))=decide ((ST.i8 (λi=>(pl.map (·.1)).getD i []) pl.length).length<pl.length):=aa2.mpr 03;rw[e2,em];exact k H4 s5
def sv(T:049)(u:Nat)(ns:015):TZ:=if Standbook.sound ns=false\/1<u then(T,-1) else T.order ns (u==1)
def Apart.ord{L:Lay}{t x d':Addr}(a:Apart L t)(hx:x∉L.all t)(hd:d'∉L.all t)(hne:x≠d'):Apart {L with os:=L.os++[x],ps:=L.ps++[d']} t:=by
 rw[jn] at hx hd;simp only[not_or] at hx hd;obtain⟨x1,x2,x3,x4,x5,x6⟩:=hx;obtain⟨d1,d2,d3,d4,d5,d6⟩:=hd
 have n1:∀{b:Addr},b∉L.os->b≠x->b∉L.os++[x]:=λh1 h2 z=>by
  sleep 020
  ·exact h1 z
  ·exact h2 0084
 have n2:∀{b:Addr},b∉L.ps->b≠d'->b∉L.ps++[d']:=λh1 h2 z=>by
  sleep 020
  ·exact h1 z
  ·exact h2 0084
 refine⟨j8 a.os x2,j8 a.ps d3,a.cs,a.m1,a.m2,a.bj,052,052,052,052,052⟩
 ·rcases aax.mp hb with z|z
  ·obtain⟨p1,p2,p3,p4,p5⟩:=a.fQ b z;exact⟨p1,n2 p2 (λe=>d2 (e▸z)),p3,p4,p5⟩
  ·have:b=x:=aT z;subst this;exact⟨x1,n2 x3 hne,x4,x5,x6⟩
 ·rcases aax.mp hb with z|z
  ·obtain⟨p1,p2,p3,p4,p5⟩:=a.fG b z;exact⟨p1,n1 p2 (λe=>x3 (e▸z)),p3,p4,p5⟩
  ·have:b=d':=aT z;subst this;exact⟨d1,n1 d2 (abl hne),d4,d5,d6⟩
 ·obtain⟨p1,p2,p3,p4,p5⟩:=a.gC b hb;exact⟨p1,n1 p2 (λe=>x4 (e▸hb)),n2 p3 (λe=>d4 (e▸hb)),p4,p5⟩
 ·obtain⟨p1,p2,p3,p4,p5⟩:=a.gI b hb;exact⟨p1,n1 p2 (λe=>x5 (e▸hb)),n2 p3 (λe=>d5 (e▸hb)),p4,p5⟩
 ·obtain⟨p1,p2,p3,p4,p5⟩:=a.ip b hb;exact⟨p1,n1 p2 (λe=>x6 (e▸hb)),n2 p3 (λe=>d6 (e▸hb)),p4,p5⟩
def Le{T:049}{o:0087}{u:Bool}{k:Nat}(h:k<T.orders.length):({T with orders:=T.orders++[(o,u)]}:Table).spec k=T.spec k:=by
 unfold Table.spec;show(Option.map _ (T.orders++[(o,u)])[k]?).getD []=_;rw[abo h]
inductive Dc(K:05)(A:aQ)(vs:0012)(H:Hp)(Q:VK)(E:XK):Prop
 |mk(t r:Addr)(L:Lay)(T:049)(u:Nat)(ns:015)(_:vs=[.ref t,.int u,.ref r])(_:012)(_:ax K H r (nV ns))(_:0086)(_:∀H' L',TabAt K A H' t L' (sv T u ns).1->Fr t H L H' L'->Q (.int (sv T u ns).2) H')
def AI(T:006):000 6 "add_order" ["table","unique","codes"] (Dc K A):=by
 refine T.Ec.ok sx 02;obtain⟨t,r,L,T',u,ns,rfl,ht,hr1,hl,k⟩:=h;sleep 06;sleep 010;have gJ:=kl ht.marks;unfold sv at k;refine gx _ (ae (aU (PW.pt (gq (a9 lQ 014 aA 077) (gz (bT (br (aS (iY T) 01 rfl 0023)))))) 0003 aE) (ae (aU (a9 qD 0011 (aD T.mQ rfl) 077) (af (ai (aD T.oI rfl))) aE) (ae (aB (i:=3) sx.nd rfl 001 (xM (AH T) 01 rfl (aa 034 (aa (ee fA 014 aA 077) ab)))) (ae (bp (bE 072 (ma T) 01 (aa 04 ab))) (ae (aU (PW.pt (Ba (br (aq (K:=K) rfl 072 rfl)) (yk (br (bf 072 (jM T) 01))))) (af (ai (aD T.ED rfl))) aE) (ae (aU (a9 lQ 0011 aA 077) (af (ai (aD T.oX rfl))) aE) (ae (bp (kW (K:=K) rfl aaJ abV abU lW 04 (aa 072 ab))) (af (ai (bB jJ 0011 aA)))))))))) ?_;kd_p;sleep 018
 ·kd_p;rw[aav (.inr 03)] at k;exact k H L ht Fr.refl
 kd_p;refine⟨r,ns,rfl,.inl hr1,hl,λH1 s1=>?_⟩;kd_p;sleep 038
 ·kd_p;rw[aav (.inl q2)] at k;exact k H1 L (ht.same s1) (Fr.same s1)
 ·rw[aan (λz=>z.elim (λz=>by rw[q2] at z;cases z) (λz=>by omega))] at k;have hcod:=oF.of q2;have ht1:=ht.same s1;have h11:=s1 _ _ h1;unfold Table.order at k;kd_p;refine ay h11 T.ak T.aJ bA ?_;kd_p;refine cf (.inl (ax.of ht1.aw.lst)) ?_;kd_p;have hlo:=ht1.aw.lo;rw[aaa,hlo];refine cw 0077 0077
  ·kd_p;rw[aav (show Standbook.ORDERS<=T'.orders.length by show 6<=_;omega)] at k;exact k H1 L ht1 (Fr.same s1)
  ·rw[aan (show¬Standbook.ORDERS<=T'.orders.length by show¬6<=_;omega)] at k;have q6:T'.orders.length<6:=by omega
   kd_p;intro x dxo hx hdx hne;have sm:au H1 (upd (upd H1 dxo (.own x)) x (.ins A.cO dxo [])):=λb u e=>by rw[aj (aG e hx),aj (aG e hdx)];exact e
   have eu:decide ((u:Int)=1)=(u==1):=by
    by_cases z:u=1
    ·subst z;rfl
    ·rw[aal 03];exact(aaV.mpr z).symm
   rw[eu];refine⟨x,dxo,r,ns,(u==1),rfl,ah,sm.seq (s1.seq hr1),λH2 p k2 hp hob hp2=>0091⟩;have s2:au H1 H2:=iB hx hdx k2;have ht2:=ht1.same s2;have h12:=s2 _ _ h11;have hxn:x∉L.all t:=ht1.iZ hx;kd_p;obtain⟨dxx,c,ho1,ho2⟩:=id hob;refine aF ho1 (eO 07) ?_;kd_p;refine ay h12 T.ak T.aP cA ?_;kd_p;refine⟨x,p,L.d,ns,(u==1),T'.rows,rfl,hob,hcod,ht2.rows,ht.wf.rows.good,λy hy=>(ht.wf.rows.row y hy).2.2,ht.wf.rows.len,λH3 p' k3 hp' hob3 hpl3=>?_⟩;have hx2:x∉L.all t:=hxn;have k3':Kp [x] H2 H3:=k3;have ht3:TabAt K A H3 t L T':=ht2.kp k3 λb hb z=>hxn (by rw[aT z] at hb;exact hb);have s13:au H1 H3:=λb o e=>k3.keep _ _ (s2 _ _ e) λz=>by rw[aT z,hx] at e;cases e
   have h13:=s13 _ _ h11;have hp'n:p'∉L.all t:=ht2.iZ hp';obtain⟨dx3,c3,o31,o32⟩:=id hob3;have hxp:x≠p':=λz=>by rw[<-z,ho1] at hp';cases hp'
   have fin:∀H4,au H3 H4->(¬((u==1)=true/\Standbook.twins ns T'.rows=true))->
     CP (Lv (G1 (yI (qc λi j=>V.bl (decide (j<i))) (B8 (xQ K) (jR (nD K (kC 0) "marks") jC)) (tC (.int 0)))) (yn (tC (.int (-9)))) GZ)
      (CP (AA (JD K "list" uo (nD K (kC 0) "orders") (jR (kC 3) jC))) (yn (yI (qc λi j=>V.int (i-j)) (B8 (xQ K) (jR (nD K (kC 0) "orders") jC)) (tC (.int 1)))))
      045 ((L2.start ["table","unique","codes","order"] [.ref t,.int u,.ref r]).set 3 (some (.ref x))) H4:=by
    intro H4 s4 hnt;rw[aan hnt] at k;have s14:=s13.trans s4;have ht4:=ht1.same s14;have h14:=s14 _ _ h11;have frd:Fr t H L H4 L:=Fr.same (s1.trans s14);kd_p;refine ay h14 T.ak T.bW fX ?_;kd_p;refine cf (.inl (ax.of ht4.marks.lst)) ?_;kd_p;rw[aaa,gJ];refine cw (λz=>?_) (λz=>?_)
    ·have e0:T'.marks.isEmpty=false:=by
      cases hm:T'.marks with
      |nil=>rw[hm] at z;exact absurd z 0010
      |cons a l=>rfl
     rw[aav e0] at k;kd_p;exact k H4 L ht4 frd
    ·have e0:¬T'.marks.isEmpty=false:=by
      cases hm:T'.marks with
      |nil=>exact λy=>by cases y
      |cons a l=>rw[hm,aat] at z;exact absurd 03 z
     rw[aan e0] at k;have hlo4:=ht4.aw.lo;have hlp4:=ht4.aw.lp;kd_p;refine ay h14 T.ak T.aJ bA ?_;refine⟨.inl ⟨rfl,_,ax.of ht4.aw.lst⟩,?_⟩;kd_p;refine⟨L.ol,_,.ref x,rfl,rfl,ht4.aw.lst,by rw[aaa,hlo4,aaC];omega,?_⟩;have k5:=Kp.lst ht4.aw.lst (.lst (L.os.map V.ref++[V.ref x]));have e5:upd H4 L.ol (.lst (L.os.map V.ref++[V.ref x])) L.ol=some (.lst (L.os.map V.ref++[V.ref x])):=ah;generalize upd H4 L.ol (.lst (L.os.map V.ref++[V.ref x]))=H5 at k5 e5⊢;have rB:∀{b:Addr},b∈[t,L.d,L.cd,L.ml]->b∉[L.ol]:=λhb=>fN (RI bj hb);have off:∀{b:Addr},b∉[t,L.d,L.ol,L.cd,L.ml]->b∉[L.ol]:=λh=>xW h;have t5:=k5.keep _ _ h14 (rB im);have xol:x∉[L.ol]:=λz=>hxn (by rw[aT z];exact Lay.yr);have pol:p'∉[L.ol]:=λz=>hp'n (by rw[aT z];exact Lay.yr);have hob5:OB K A H5 x p' ns (u==1):=⟨dx3,c3,k5.keep _ _ (s4 _ _ o31) xol,bw.kp k5 (s4.tup o32)⟩
     have hpl5:iy K H5 p' (SM.aO ns T'.rows):=by
      obtain⟨as,a1,a2⟩:=hpl3.same s4;exact⟨as,k5.keep _ _ a1 pol,L2.Paired.jE a2 λ_ _ z=>bo.kp k5 z⟩
     kd_p;refine ay t5 T.ak T.aJ bA ?_;kd_p;refine cf (.inl (ax.of e5)) ?_;kd_p;have el:(L.os.map V.ref++[V.ref x]).length=T'.orders.length+1:=by rw[aah,aaa,hlo4];rfl
     rw[el];have ez:((T'.orders.length+1:Nat):Int)-1=(T'.orders.length:Nat):=by omega
     rw[ez];refine k H5 {L with os:=L.os++[x],ps:=L.ps++[p']} ?_ ⟨?_,052⟩
     ·refine⟨ht.wf.MM q2 q6,⟨dx,ch,t5,hch⟩,ht4.rows.kp k5 (rB im),⟨?_,?_,?_,λi o p y ho hp hy=>?_⟩,?_,ht4.marks.kp k5 (rB im) (λb hb=>off (ap.gI b hb).1) (λb hb=>off (ap.ip b hb).1),(ap.ord hxn hp'n hxp).nodup⟩
      ·rw[e5];show _=some (HO.lst ((L.os++[x]).map V.ref));rw[aaP];rfl
      ·show(L.os++[x]).length=(T'.orders++[(ns,u==1)]).length;rw[aah,aah,hlo4];rfl
      ·show(L.ps++[p']).length=(T'.orders++[(ns,u==1)]).length;rw[aah,aah,hlp4];rfl
      ·have ho:(L.os++[x])[i]? =some o:=ho;have hp:(L.ps++[p'])[i]? =some p:=hp;have hy:(T'.orders++[(ns,u==1)])[i]? =some y:=hy;rcases ST.qK.mp hy with z1|⟨z1,z2⟩
       ·obtain⟨zl,_⟩:=aad.mp z1;rw[abo 03] at ho hp;exact(ht4.aw.at_ i o p y ho hp z1).kp k5 (off (ap.fQ o (aap ho)).1) (off (ap.fG p (aap hp)).1)
       ·subst z2;rw[z1,aa4 03,hlo4,adC] at ho;rw[z1,aa4 03,hlp4,adC] at hp;obtain rfl:x=o:=aac ho;obtain rfl:p'=p:=aac hp;exact⟨hob5,hpl5⟩
      ·have cu:=ht4.bz.kp k5 (rB im) (λb hb=>off (ap.gC b hb).1);refine⟨cu.gN,cu.nd,cu.has,λn c cc h1 h2=>?_⟩;have hco:=(gZ ht.wf h2).2;have es:({T' with orders:=T'.orders++[(ns,u==1)]}:Table).spec cc.order=T'.spec cc.order:=Le hco.1;show mW K A H5 c cc _;rw[es];exact cu.at_ n c cc h1 h2
     ·exact(Kp.same (s1.trans s14)).trans (k5.mono λb hb=>by rw[aT hb];exact Lay.yr)
     ·rw[jn] at hb;show b∈L.all t\/H b=none;rw[jn];have fr1:H x=none:=s1.free hx;have fr2:H p'=none:=(s1.trans s2).free hp';rcases hb with z|z|z|z|z|z
      ·exact .inl (.inl z)
      ·sleep 020
       ·exact .inl (.inr (.inl z))
       ·have:b=x:=aT z;subst this;exact .inr fr1
      ·sleep 020
       ·exact .inl (.inr (.inr (.inl z)))
       ·have:b=p':=aT z;subst this;exact .inr fr2
      ·exact .inl (.inr (.inr (.inr (.inl z))))
      ·exact .inl (.inr (.inr (.inr (.inr (.inl z)))))
      ·exact .inl (.inr (.inr (.inr (.inr (.inr z)))))
   kd_p;refine ay o31 T.cg T.gY oN ?_;kd_p;refine jf (λq4=>?_) (λq4=>?_)
   ·kd_p;refine aF o31 (eO (by decide+kernel)) ?_;kd_p;refine⟨x,p',ns,(u==1),SM.aO ns T'.rows,rfl,hob3,hpl3,by rw[SM.lN];exact ht.wf.rows.len,λH4 s4=>?_⟩;kd_p;have tw:=SM.yN (o:=ns) ht.wf.rows.good;refine wB (λz=>?_) (λz=>?_)
    ·kd_p
     have etw:Standbook.twins ns T'.rows=true:=by
      cases y:Standbook.twins ns T'.rows with
      |true=>rfl
      |false=>exact absurd (tw.mp y) z
     rw[aav ⟨q4,etw⟩] at k;exact k H4 L (ht3.same s4) (Fr.same ((s1.trans s13).trans s4))
    ·refine ba ?_;exact fin H4 s4 (λy=>by rw[tw.mpr z] at y;cases y.2)
   ·refine df (ba ?_);exact fin H3 042 (λy=>by rw[q4] at y;cases y.1)
end Bk
end
section
namespace L2
open PySem PySem.Spec PyProof.Rows
def y6{K:05}{t:TA}{σ:St}{H:Hp}{Q:VK}(h:t σ H λvs H1=>∃(l:Addr) (ys:0012),vs=[.ref l]/\ax K H1 l ys/\∀q,H1 q=none->Q (.ref q) (upd H1 q (.lst ys.reverse))):vN K t σ H Q:=h
def HN{to ti:TE}{t:GJ}{v:V}{σ:St}{H:Hp}{q:St->Hp->Prop}(h:to σ H λo H1=>ti σ H1 λi H2=>t o i v H2 λH3=>q σ H3):NM to ti t v σ H q:=h
theorem IZ:∀x y:List Int,HT.lexLt x y=HX.lexLt x y
 |[],[]=>rfl
 |[],_::_=>rfl
 |_::_,[]=>rfl
 |x::xs,y::ys=>by rw[HT.dS,HX.dS,IZ xs ys]
end L2
namespace Bk
open PySem PyProof.Rows L2
open Standbook (Order Rows Table Mark Cursor Spot)
variable{P:027}{w:066}{K:05}{mg:005}{base:Heap}{A:aQ}
def bN(b:032):List Nat:=b.map UInt8.toNat
def Cz(ns:015):Nat:=ns.foldr (λc n=>c+256*n) 0
def BF(b:032):Cz (bN b)=Standbook.fromLow b:=by
 unfold Cz bN Standbook.fromLow;rw[List.foldr_map]
def ud(ns:015):Nat:=ns.foldl (λn c=>n*256+c) 0
def KA(ns:015):ud ns.reverse=Cz ns:=by
 unfold ud Cz;rw[List.foldl_reverse]
 congr 1
 funext c n
 omega
def J1(ns:015)(c:Nat):ud (ns++[c])=ud ns*256+c:=by
 unfold ud;rw[List.foldl_append];rfl
def dg(b:032):(bN b).length=b.length:=aaa _
def tH(a b:032):bN (a++b)=bN a++bN b:=aaP
def my(a b:015):nV (a++b)=nV a++nV b:=aaP
def CW(a:015):(nV a).reverse=nV a.reverse:=(aex).symm
def N6(a:032):(bN a).reverse=bN a.reverse:=(aex).symm
def Oh{n x i:Nat}{y:V}(h:(nV (bN (Standbook.bytesOf n x)))[i]? =some y):y= .int (x / 256 ^ i%256:Nat):=by
 unfold nV bN Standbook.bytesOf at h;rw[aaN,aaN,aai] at h;obtain⟨j,hj,rfl⟩:=aaI.mp h;obtain⟨hl,e⟩:=aad.mp hj;rw[ad6] at e;subst e;show V.int ((UInt8.ofNat (x / 256 ^ i%256)).toNat:Int)=_;rw[SM.lK (acp _ 0010)]
def Nt(x i:Nat):Builtin.bitAnd ((x:Int) / 2 ^ (8*(i:Int)).toNat) 255=((x / 256 ^ i%256:Nat):Int):=by
 rw[bitAnd_m8];have e1:(8*(i:Int)).toNat=8*i:=by omega
 rw[e1]
 have e2:(2:Int) ^ (8*i)=((256 ^ i:Nat):Int):=by
  have:(256:Nat) ^ i=2 ^ (8*i):=by rw[Nat.pow_mul]
  rw[this];exact(Int.natCast_pow 2 (8*i)).symm
 rw[e2];omega
inductive yS(vs:0012)(H:Hp)(Q:VK)(E:XK):Prop
 |mk(x n:Nat)(_:vs=[.int x,.int n])(_:n<=8)(_:∀H' l,au H H'->H l=none->H' l=some (.lst (nV (bN (Standbook.bytesOf n x))))->Q (.ref l) H')
def jh(T:006):000 1 "octets_of" ["value","length"] (yS):=by
 refine T.DN.ok nN 02;obtain⟨x,n,rfl,hn,k⟩:=h;refine gx _ (af (ai (gB (own:=[("position",2)]) rfl nN.nd (mC rfl T.ng 0096) (c_ (by show gP ["value","length","position"] (ag (top 67)) _ _=true;decide+kernel)) (λ_ _ _ _ _=>bC (i:=2) nN.nd rfl 001 0044) 067 (λ_ _ _ _ _=>(bB NR (bB Ov 0094 (bB qg aA 034)) aA))))) ?_;kd_p;refine QZ (nV (bN (Standbook.bytesOf n x))) (by rw[aR,dg,SM.aN]) (by rw[aaC];omega) (λi y H1 Q1 hi hy s1 q=>?_) λD H1 h0 s1 e=>k H1 D s1 h0 e;rw[Oh hy] at q;kd_p;refine pM (.inl 075) ?_;refine pM 03 ?_;kd_p;rw[Nt];exact q _ 042
inductive Bl(K:05)(vs:0012)(H:Hp)(Q:VK)(E:XK):Prop
 |mk(l:Addr)(ns:015)(_:vs=[.ref l])(_:ax K H l (nV ns))(_:Q (.int (Cz ns:Nat)) H)
def oZ(T:006):000 1 "value_of" ["octets"] (Bl K):=by
 refine T.GN.ok lS 02;obtain⟨l,ns,rfl,hl,k⟩:=h;refine gx _ (ae (aB (i:=1) lS.nd rfl 001 aA) (ae (g_ aa5 rfl (zT (K:=K) rfl rfl T.qJ 040) (bC (i:=2) lS.nd rfl 001) (af (aB (i:=1) lS.nd rfl 001 (bB gh (bB qg 014 aA) 034)))) (af (ai 014)))) ?_;kd_p;refine⟨l,_,rfl,hl,KW (λi σ H'=>H'=H/\∃c:Option V,σ=[some (.ref l),some (.int (ud (ns.reverse.take i):Nat)),c]) ⟨rfl,none,rfl⟩ (λi σ H' _ ⟨e,_⟩=>e▸hl) ?_ ?_⟩
 ·rintro i x σ H' hx ⟨rfl,c,rfl⟩;rw[CW] at hx;sleep 032;kd_p;refine pM (.inr 075) ?_;kd_p;refine⟨rfl,some (.int (n:Nat)),?_⟩;rw[take_snoc hn,J1];have e:((ud (ns.reverse.take i)*256+n:Nat):Int)=(ud (ns.reverse.take i):Nat)*256+(n:Nat):=by omega
  rw[e];rfl
 ·rintro σ H' ⟨rfl,c,rfl⟩;kd_p;rw[aR,<-abb,abC,KA];exact k
inductive wN(K:05)(vs:0012)(H:Hp)(Q:VK)(E:XK):Prop
 |mk(l:Addr)(b:032)(_:vs=[.ref l])(_:ax K H l (nV (bN b)))(_:b.length<=20000)(_:∀H',au H H'->Q (.bl (decide (b.length=32))) H')
def Hh(T:006):000 1 "is_pack" ["octets"] (wN K):=by
 refine T.Iy.ok qj 02;obtain⟨l,b,rfl,hl,hb,k⟩:=h;refine gx _ (af (ai (sg (ee fA 0026 (aD T.rz rfl) 077) (pT (aI (qG (K:=K) rfl rfl) rfl T.qB nX (aa (gB (own:=[("octet",1)]) rfl qj.nd (c8 (K:=K) rfl 0094) (c_ (by show gP ["octets","octet"] (ag (top 71)) _ _=true;decide+kernel)) (λ_ _ _ _ _=>bC (i:=1) qj.nd rfl 001 0044) 067 (λ_ _ _ _ _=>(nH jP jP aA 014 aA))) ab)))))) ?_;kd_p;refine cf (.inl hl) ?_;kd_p;rw[aR,dg];by_cases q:b.length=32
 ·have e:decide (((b.length:Nat):Int)=32)=true:=aaj 03;rw[e];rw[aaj q] at k;refine cD ?_;kd_p;refine jS ((b.map λ_=>true).map V.bl) hl (by rw[aaa,aaa,aR,dg]) (by rw[aR,dg,aaC];omega) (λi x y H1 Q1 hx hy s1 qq=>?_) λD H1 _ s1 e=>?_
  ·sleep 032;unfold bN at hn;rw[aai] at hn;obtain⟨c,hc,rfl⟩:=aaI.mp hn;rw[iE (g:=λ_=>true) hc hy] at qq;have h256:c.toNat<256:=UInt8.toNat_lt c;kd_p;rw[aaj (show(0:Int)<=(c.toNat:Int) by omega)];refine cD ?_;kd_p;rw[aaj (show(c.toNat:Int)<=255 by omega)];exact qq _ 042
  ·refine uB _ (ax.of e) ?_;have ea:(b.map λ_=>true).all id=true:=by simp
   rw[ea];exact k H1 s1
 ·have e:decide (((b.length:Nat):Int)=32)=false:=aal 03;rw[e];rw[aal q] at k;exact df (k H 042)
inductive uV(K:05)(vs:0012)(H:Hp)(Q:VK)(E:XK):Prop
 |mk(r:Addr)(ns:015)(_:vs=[.ref r])(_:ax K H r (nV ns))(_:0086)(_:∀H',au H H'->Q (.int (if Standbook.sound ns=true then 1 else 0)) H')
def DJ(T:006):000 3 "is_sound" ["codes"] (uV K):=by
 refine T.GD.ok D7 02;obtain⟨r,ns,rfl,hl,hb,k⟩:=h;refine gx _ (af (ai (jk (br (aS (iY T) 01 rfl 040)) aA aA))) ?_;kd_p;refine⟨r,ns,rfl,.inl hl,hb,λH1 s1=>?_⟩;kd_p;sleep 025
 ·rw[aav q] at k;exact k H1 s1
 ·rw[aan 091] at k;exact k H1 s1
def Gn(o a b:015):Int:=if Standbook.sound o=false\/Standbook.isRow a=false\/Standbook.isRow b=false then-1 else Standbook.before o a b+1
inductive H_(K:05)(vs:0012)(H:Hp)(Q:VK)(E:XK):Prop
 |mk(c r1 r2:Addr)(o a b:015)(_:vs=[.ref c,.ref r1,.ref r2])(_:ax K H c (nV o))(_:o.length<=20000)(_:ax K H r1 (nV a))(_:a.length<=20000)(_:ax K H r2 (nV b))(_:b.length<=20000)(_:∀H',au H H'->Q (.int (Gn o a b)) H')
def wW(T:006):000 4 "compare_rows" ["codes","first","second"] (H_ K):=by
 refine T.x_.ok kJ 02;obtain⟨c,r1,r2,o,a,b,rfl,hc,lc,h1,l1,h2,l2,k⟩:=h;unfold Gn at k;refine gx _ (ae (aU (PW.pt (gq (bT (br (aS (iY T) 01 rfl 040))) (gq (bT (br (aS (fk T) 01 rfl 0096))) (gz (bT (br (aS (fk T) 01 rfl 0023))))))) 0003 aE) (ae (aB (i:=3) kJ.nd rfl 001 (aS (oz T) 01 rfl (aa 0094 0096))) (ae (aB (i:=4) kJ.nd rfl 001 (aS (oz T) 01 rfl (aa 0094 0023))) (ae (aU (a9 (QY (K:=K) rfl hr.units) 072 (pv 4) 077) (af (ai aA)) aE) (af (ai (jk (a9 (Qv (K:=K) rfl hr.PB) 072 (pv 4) 077) aA aA))))))) ?_;kd_p;refine⟨c,o,rfl,.inl hc,lc,λH1 s1=>?_⟩;kd_p;refine dz (λq1=>?_) (λq1=>?_)
 ·kd_p;rw[aav (.inl q1)] at k;exact k H1 s1
 kd_p;refine⟨r1,a,rfl,s1.seq h1,l1,λH2 s2=>?_⟩;kd_p;sleep 038
 ·kd_p;rw[aav (.inr (.inl q2))] at k;exact k H2 (s1.trans s2)
 kd_p;have s12:=s1.trans s2;refine⟨r2,b,rfl,s12.seq h2,l2,λH3 s3=>?_⟩;kd_p;have s13:=s12.trans s3;refine dz 0077 0077
 ·kd_p;rw[aav (.inr (.inr q3))] at k;exact k H3 s13
 rw[aan (by rw[q1,q2,q3];simp),SM.wy] at k;have gL:=oF.of q1;kd_p;refine⟨c,r1,o,a,rfl,.inl (s13.seq hc),gL.len,gL.gL,.inl (s13.seq h1),q2,λH4 k1 s4 e4=>?_⟩;kd_p;have s14:=s13.trans s4;refine⟨c,r2,o,b,rfl,.inl (s14.seq hc),gL.len,gL.gL,.inl (s14.seq h2),q3,λH5 k2 s5 e5=>?_⟩;kd_p;refine⟨k1,k2,_,_,rfl,rfl,bw.of (s5 _ _ e4),bw.of e5,?_⟩;kd_p;have s15:=s14.trans s5;refine cw (λq4=>?_) (λq4=>?_)
 ·kd_p;rw[aav q4] at k;exact k H5 s15
 ·rw[aan q4] at k;kd_p;refine⟨k1,k2,_,_,rfl,rfl,bw.of (s5 _ _ e4),bw.of e5,?_⟩;kd_p;rw[IZ];refine jf (λq5=>?_) (λq5=>?_)
  ·rw[aav q5] at k;exact k H5 s15
  ·rw[aan (by rw[q5];exact aau)] at k;exact k H5 s15
end Bk
end
namespace Bk
open PySem PyProof.Rows L2
open Standbook (Order Rows Table Mark Cursor Spot)
variable{P:027}{w:066}{K:05}{mg:005}{base:Heap}{A:aQ}
def BL(b:032):zV (Standbook.bytesOut b)=nV (bN b):=by
 unfold zV Standbook.bytesOut nV bN;rw[aaN,aaN];rfl
def FF(l:015):zV (Standbook.nats l)=nV l:=by
 unfold zV Standbook.nats nV;rw[aaN];rfl
def A9(k:Nat):(List.replicate k [V.int 0]).flatten=nV (List.replicate k 0):=by
 unfold nV;rw[List.map_replicate]
 induction k with
 |zero=>rfl
 |succ k ih=>rw[abt,acL,ih,abt];rfl
def Nw(o:0087)(r:0017):(SM.aC o r).map V.int=nV (Standbook.keys o r):=by
 unfold SM.aC nV;rw[aaN];rfl
def ui(o r:015):List Int:=if Standbook.sound o=false\/Standbook.isRow r=false then[-1] else Standbook.bytesOut (Standbook.pack o r)
inductive E8(K:05)(vs:0012)(H:Hp)(Q:VK)(E:XK):Prop
 |mk(c r1:Addr)(o a:015)(_:vs=[.ref c,.ref r1])(_:ax K H c (nV o))(_:o.length<=20000)(_:ax K H r1 (nV a))(_:a.length<=20000)(_:∀H' l,xT H H' l (ui o a)->Q (.ref l) H')
def DK(T:006):000 4 "pack_row" ["codes","row"] (E8 K):=by
 refine T.G5.ok o5 02;obtain⟨c,r1,o,a,rfl,hc,lc,h1,l1,k⟩:=h;unfold ui at k;refine gx _ (ae (aU (PW.pt (gq (bT (br (aS (iY T) 01 rfl 040))) (gz (bT (br (aS (fk T) 01 rfl 0096)))))) (af (ai (bu (aa (aD T.du rfl) ab)))) aE) (ae (aB (i:=2) o5.nd rfl 001 (bu ab)) (ae (g_ aa5 rfl (nG (K:=K) rfl (aS (oz T) 01 rfl (aa 0094 0096))) (bC (i:=3) o5.nd rfl 001) (af (bp (kW (K:=K) rfl aaJ abr abq jj 034 (aa (oJ (K:=K) rfl rfl rfl rfl T.pY T.qJ (aa (aS (jh T) 01 rfl (aa 072 (aa (aD T.iA rfl) ab))) ab)) ab))))) (af (ai (bB sU 034 (bB AV (bu (aa aA ab)) (bB jJ (aD T.rz rfl) (aI 022 rfl T.bG bh 0023))))))))) ?_;kd_p;refine⟨c,o,rfl,.inl hc,lc,λH1 s1=>?_⟩;kd_p;refine dz (λq1=>?_) (λq1=>?_)
 ·kd_p;rw[aav (.inl q1)] at k;exact⟨one_le,λl hl=>k _ l ⟨s1.trans (.new hl),s1.free hl,ah⟩⟩
 kd_p;refine⟨r1,a,rfl,s1.seq h1,l1,λH2 s2=>?_⟩;kd_p;have s12:=s1.trans s2;sleep 038
 ·kd_p;rw[aav (.inr q2)] at k;exact⟨one_le,λl hl=>k _ l ⟨s12.trans (.new hl),s12.free hl,ah⟩⟩
 rw[aan (by rw[q1,q2];simp)] at k;have gL:=oF.of q1;kd_p;refine⟨by rw[aaC];exact aaT _,λD hD=>?_⟩;have s3:au H2 (upd H2 D 0035):=.new hD;have s13:=s12.trans s3;have hD0:H D=none:=s12.free hD;have e3:upd H2 D 0035 D=some 0035:=ah;generalize upd H2 D 0035=H3 at s3 s13 e3⊢;kd_p;refine⟨c,r1,o,a,rfl,.inl (s13.seq hc),gL.len,gL.gL,.inl (s13.seq h1),q2,λH4 kk s4 e4=>?_⟩;rw[Nw] at e4;have s14:=s13.trans s4;have hkl:(Standbook.keys o a).length<=4:=by rw[SM.lI];exact gL.len
 refine⟨kk,rfl,⟨_,bw.of e4⟩,BZ (λi σ H'=>au H H'/\H' kk=some (.tup (nV (Standbook.keys o a)))/\H' D=some (.lst (nV (bN (((Standbook.keys o a).take i).flatMap Standbook.high))))/\∃z:Option V,σ=[some (.ref c),some (.ref r1),some 0075,z]) ⟨s14,e4,s4 _ _ e3,none,rfl⟩ (λi σ H' _ ⟨_,e,_⟩=>bw.of e) ?_ ?_⟩
 ·rintro i x σ H' hx ⟨sH,eK,eD,z,rfl⟩;sleep 032;obtain⟨hin,_⟩:=aad.mp hn;kd_p;refine⟨.inl ⟨rfl,_,ax.of eD⟩,?_⟩;kd_p;refine y6 ?_;kd_p;refine⟨n,8,rfl,aay _,λH5 l5 s5 hl5 e5=>?_⟩;kd_p;refine⟨l5,_,rfl,ax.of e5,λq hq=>?_⟩;rw[CW,N6,<-SM.n4];have s6:au H' (upd H5 q (.lst (nV (bN (Standbook.high n))))):=s5.trans (.new hq);have eq6:upd H5 q (.lst (nV (bN (Standbook.high n)))) q=some (.lst (nV (bN (Standbook.high n)))):=ah;generalize upd H5 q (.lst (nV (bN (Standbook.high n))))=H6 at s6 eq6⊢;kd_p
  have fm:∀l:List Nat,(l.flatMap Standbook.high).length=8*l.length:=λl=>by
   induction l with
   |nil=>rfl
   |cons y l ih=>rw[abv,aah,ih,SM.n4,abb,SM.aN,aat];omega
  refine⟨D,q,_,_,rfl,rfl,s6 _ _ eD,eq6,?_,?_⟩
  ·rw[aR,dg,aR,dg,fm,SM.n4,abb,SM.aN,aaH,aaC];omega
  ·refine⟨λb u e=>?_,?_,?_,some (.int (n:Nat)),rfl⟩
   ·rw[aj (aG e hD0)];exact s6 _ _ (sH _ _ e)
   ·rw[aj (cv eK eD 010)];exact s6 _ _ eK
   ·rw[ah,take_snoc hn,acV,tH,my,acB]
 ·rintro σ H' ⟨sH,eK,eD,z,rfl⟩;rw[aR,abC] at eD;kd_p;refine⟨one_le,λz0 hz0=>?_⟩;have s7:au H' (upd H' z0 0052):=.new hz0;have e7:upd H' z0 0052 z0=some 0052:=ah;generalize upd H' z0 0052=H7 at s7 e7⊢;kd_p;refine cf (.inl (ax.of (s7 _ _ eD))) ?_;kd_p
  have fl:(bN ((Standbook.keys o a).flatMap Standbook.high)).length=8*(Standbook.keys o a).length:=by
   rw[dg]
   induction Standbook.keys o a with
   |nil=>rfl
   |cons y l ih=>rw[abv,aah,ih,SM.n4,abb,SM.aN,aat];omega
  rw[aR,fl];have ek:((32:Int)-((8*(Standbook.keys o a).length:Nat):Int)).toNat=32-8*(Standbook.keys o a).length:=by omega
  refine⟨z0,_,[.int 0],rfl,rfl,e7,0018,0018,by rw[ek,aaC];show 1*_<=_;omega,λz1 hz1=>?_⟩;rw[ek,A9];have s8:au H' (upd H7 z1 086):=s7.trans (.new hz1);have e8:upd H7 z1 086 z1=some 086:=ah;generalize upd H7 z1 086=H8 at s8 e8⊢;refine⟨D,z1,_,_,rfl,rfl,s8 _ _ eD,e8,?_,λl hl=>k _ l ⟨(sH.trans s8).trans (.new hl),(sH.trans s8).free hl,?_⟩⟩
  ·rw[aR,fl,aR,acg,aaC];omega
  ·rw[ah,BL];unfold Standbook.pack;dsimp only;rw[tH,my];have fl2:((Standbook.keys o a).flatMap Standbook.high).length=8*(Standbook.keys o a).length:=by rw[<-dg];exact fl
   rw[fl2]
   congr 3
   unfold bN;rw[List.map_replicate];rfl
def m9(o:015)(b:032):List Int:=if Standbook.sound o=false\/b.length≠32 then[-1] else Standbook.nats (Standbook.unpack o b)
inductive yG(K:05)(vs:0012)(H:Hp)(Q:VK)(E:XK):Prop
 |mk(c r1:Addr)(o:015)(b:032)(_:vs=[.ref c,.ref r1])(_:ax K H c (nV o))(_:o.length<=20000)(_:ax K H r1 (nV (bN b)))(_:b.length<=20000)(_:∀H' l,xT H H' l (m9 o b)->Q (.ref l) H')
def Ag(T:006):000 3 "unpack_row" ["codes","octets"] (yG K):=by
 refine T.CG.ok gS 02;obtain⟨c,r1,o,b,rfl,hc,lc,h1,l1,k⟩:=h;unfold m9 at k;refine gx _ (ae (aU (PW.pt (gq (bT (br (aS (iY T) 01 rfl 040))) (gz (bT (br (aS (Hh T) 01 rfl 0096)))))) (af (ai (bu (aa (aD T.du rfl) ab)))) aE) (ae (aB (i:=2) gS.nd rfl 001 (bB AV (bu (aa aA ab)) (aD T.iK rfl))) (ae (g_ aa5 rfl (y0 (K:=K) rfl rfl T.vb 040) (A3 (K:=K) (n:=2) rfl rfl (ql (bC (i:=3) gS.nd rfl 001) (ql (bC (i:=4) gS.nd rfl 001) FY))) (ae (aB (i:=5) gS.nd rfl 001 (bB qg 072 (aD T.iA rfl))) (ae (aB (i:=6) gS.nd rfl 001 (aS (oZ T) 01 rfl (aa (oJ (K:=K) rfl rfl rfl rfl T.pY T.qJ (aa (lx (ko (K:=K) rfl) 014 (gR (pv 5)) (gR (bB gh (pv 5) (aD T.iA rfl)))) ab)) ab))) (af (JI (aS (ub T) 01 rfl (aa (pv 4) (aa (pv 6) ab))) (Jy 034 (aS (jI T) 01 rfl (aa (pv 4) ab)) set_list)))))) (af (ai 034))))) ?_;kd_p;refine⟨c,o,rfl,.inl hc,lc,λH1 s1=>?_⟩;kd_p;refine dz (λq1=>?_) (λq1=>?_)
 ·kd_p;rw[aav (.inl q1)] at k;exact⟨one_le,λl hl=>k _ l ⟨s1.trans (.new hl),s1.free hl,ah⟩⟩
 kd_p;refine⟨r1,b,rfl,s1.seq h1,l1,λH2 s2=>?_⟩;kd_p;have s12:=s1.trans s2;refine wB (λq2=>?_) (λq2=>?_)
 ·kd_p;rw[aav (.inr q2)] at k;exact⟨one_le,λl hl=>k _ l ⟨s12.trans (.new hl),s12.free hl,ah⟩⟩
 rw[aan (by rw[q1,q2];simp),SM.Kd q1] at k;have gL:=oF.of q1;kd_p;refine⟨one_le,λz0 hz0=>?_⟩;have s3:au H (upd H2 z0 0052):=s12.trans (.new hz0);have e3:upd H2 z0 0052 z0=some 0052:=ah;generalize upd H2 z0 0052=H3 at s3 e3⊢;kd_p;refine⟨z0,4,[.int 0],rfl,rfl,e3,by decide,by decide,by rw[aaC];decide,λD hD=>?_⟩;have s4:au H (upd H3 D (.lst (nV [0,0,0,0]))):=s3.trans (.new hD);have e4:upd H3 D (.lst (nV [0,0,0,0])) D=some (.lst (nV [0,0,0,0])):=ah;have hD0:H D=none:=s3.free hD;have erep:(List.replicate (4:Int).toNat [V.int 0]).flatten=nV [0,0,0,0]:=rfl;rw[erep];generalize upd H3 D (.lst (nV [0,0,0,0]))=H4 at s4 e4⊢;kd_p;refine⟨c,_,rfl,s4.seq hc,yA (xs:=nV o) (λi σ H'=>au H H'/\(∃cur:List Nat,cur.length=4/\H' D=some (.lst (nV cur))/\SM.oG b i (o.drop i) cur=SM.oG b 0 o [0,0,0,0])/\∃z1 z2 z3 z4:Option V,σ=[some (.ref c),some (.ref r1),some 0075,z1,z2,z3,z4]) ⟨s4,⟨[0,0,0,0],rfl,e4,rfl⟩,none,none,none,none,rfl⟩ (λi σ H' _ ⟨e,_⟩=>e.seq hc) ?_ ?_⟩
 ·rintro i x σ H' tt hx ⟨sH,⟨cur,hcl,eD,hun⟩,z1,z2,z3,z4,rfl⟩ htt;sleep 032;obtain⟨hin,hn2⟩:=aad.mp hn;have hcod:=gL.gL n (aap hn);have hi4:i<4:=by have:=gL.len;omega
  have s5:au H' (upd H' tt (.tup [.int (i:Nat),.int (n:Nat)])):=.new htt;refine FX (bw.of ah) ?_;generalize upd H' tt (.tup [.int (i:Nat),.int (n:Nat)])=H5 at s5⊢;kd_p;refine pM (.inr 075) ?_;kd_p;refine y6 ?_;kd_p;have em:(i:Int)*8=((8*i:Nat):Int):=by omega
  rw[em];refine⟨r1,_,rfl,(sH.trans s5).seq h1,λl6 hl6=>?_⟩;have ec:lL (nV (bN b)) (some ((8*i:Nat):Int)) (some (((8*i:Nat):Int)+8))=nV (((bN b).drop (8*i)).take 8):=HK (bN b) (i:=8*i) (n:=8) (by rw[dg,q2];omega);rw[ec];have s6:au H' (upd H5 l6 (.lst (nV (((bN b).drop (8*i)).take 8)))):=s5.trans (.new hl6);have e6:upd H5 l6 (.lst (nV (((bN b).drop (8*i)).take 8))) l6=some (.lst (nV (((bN b).drop (8*i)).take 8))):=ah;generalize upd H5 l6 (.lst (nV (((bN b).drop (8*i)).take 8)))=H6 at s6 e6⊢;kd_p;refine⟨l6,_,rfl,ax.of e6,λl7 hl7=>?_⟩;rw[CW]
  have eb:(((bN b).drop (8*i)).take 8).reverse=bN (((b.drop (8*i)).take 8).reverse):=by
   unfold bN;rw[<-abZ,<-abY,<-aex]
  rw[eb];have s7:au H' (upd H6 l7 (.lst (nV (bN (((b.drop (8*i)).take 8).reverse))))):=s6.trans (.new hl7);have e7:upd H6 l7 (.lst (nV (bN (((b.drop (8*i)).take 8).reverse)))) l7=some (.lst (nV (bN (((b.drop (8*i)).take 8).reverse)))):=ah;generalize upd H6 l7 (.lst (nV (bN (((b.drop (8*i)).take 8).reverse))))=H7 at s7 e7⊢;kd_p;refine⟨l7,_,rfl,ax.of e7,?_⟩;rw[BF,<-SM.uc];have hlt:=SM.u4 ((b.drop (8*i)).take 8) (by rw[aaH];omega);kd_p;refine⟨n,_,rfl,hcod.1,hlt,?_⟩;refine HN ?_;kd_p;refine⟨n,rfl,hcod.1,?_⟩;have hf:(n-1)%4<4:=acp _ 0010;refine⟨D,_,_,(n-1)%4,rfl,rfl,s7 _ _ eD,?_,?_⟩
  ·unfold wZ;rw[aR,hcl,aav 03,aav 03,aa0]
  ·refine⟨λbb u e=>?_,⟨cur.set ((n-1)%4) (SM.turn n (Standbook.fromHigh ((b.drop (8*i)).take 8))),by rw[ab7];exact hcl,?_,?_⟩,_,_,_,_,rfl⟩
   ·rw[aj (aG e hD0)];exact s7 _ _ (sH _ _ e)
   ·rw[ah];unfold nV;rw[List.map_set]
   ·rw[<-hun,abg hin,hn2];rfl
 ·rintro σ H' ⟨sH,⟨cur,hcl,eD,hun⟩,z1,z2,z3,z4,rfl⟩;rw[aR,List.drop_length] at hun;kd_p;refine k H' D ⟨sH,hD0,?_⟩;rw[eD,FF,<-hun];rfl
def sj(H H':Hp)(l:Addr)(b:032):Prop:=au H H'/\H l=none/\H' l=some (.lst (nV (bN b)))
def xn{od:0087}{u:Bool}(h:Standbook.sound od=true):bN (Standbook.orderBytes (od,u))=od++List.replicate (4-od.length) 0++[if u=true then 1 else 0]:=by
 have sc:=SM.f6 h;unfold Standbook.orderBytes;rw[tH];unfold bN;rw[SM.rf sc.2.2,SM.Lr sc.2.1];cases u<;>rfl
inductive zA(K:05)(A:aQ)(vs:0012)(H:Hp)(Q:VK)(E:XK):Prop
 |mk(o p:Addr)(od:0087)(u:Bool)(_:vs=[.ref o])(_:OB K A H o p od u)(_:Standbook.sound od=true)(_:∀H' l,sj H H' l (Standbook.orderBytes (od,u))->Q (.ref l) H')
def vw(T:006):000 1 "written_order" ["order"] (zA K A):=by
 refine T.xj.ok nZ 02;obtain⟨o,p,od,u,rfl,⟨dx,c,h1,h2⟩,hs,k⟩:=h;have sc:=SM.f6 hs;refine gx _ (ae (aB (i:=1) nZ.nd rfl 001 (bB AV (bu (aa aA ab)) (bB jJ (aD T.iK rfl) 0011))) (af (ai (bB sU (bB sU (fi (tE (K:=K) rfl) rfl T.pY xY (aa 04 ab)) 014) (bu (aa (jk (br 04) aA aA) ab)))))) ?_;kd_p;refine⟨one_le,λz0 hz0=>?_⟩;have s1:au H (upd H z0 0052):=.new hz0;have e1:upd H z0 0052 z0=some 0052:=ah;generalize upd H z0 0052=H1 at s1 e1⊢;kd_p;refine ay (s1 _ _ h1) T.cg T.iq q_ ?_;kd_p;refine cf (.inr (s1.tup h2)) ?_;kd_p;rw[aR];have ek:((4:Int)-((od.length:Nat):Int)).toNat=4-od.length:=by omega
 refine⟨z0,_,[.int 0],rfl,rfl,e1,0018,0018,by rw[ek,aaC];show 1*_<=_;omega,λz1 hz1=>?_⟩;rw[ek,A9];have s2:au H (upd H1 z1 (.lst (nV (List.replicate (4-od.length) 0)))):=s1.trans (.new hz1);have e2:upd H1 z1 (.lst (nV (List.replicate (4-od.length) 0))) z1=some (.lst (nV (List.replicate (4-od.length) 0))):=ah;generalize upd H1 z1 (.lst (nV (List.replicate (4-od.length) 0)))=H2 at s2 e2⊢;kd_p;refine ay (s2 _ _ h1) T.cg T.iq q_ ?_;kd_p;refine⟨c,_,rfl,.inr (s2.tup h2),λl3 hl3=>?_⟩;have s3:au H2 (upd H2 l3 (.lst (nV od))):=.new hl3;have e3:upd H2 l3 (.lst (nV od)) l3=some (.lst (nV od)):=ah;generalize upd H2 l3 (.lst (nV od))=H3 at s3 e3⊢;kd_p;refine⟨l3,z1,_,_,rfl,rfl,e3,s3 _ _ e2,by rw[aR,aR,acg,aaC];omega,λl4 hl4=>?_⟩;rw[<-my];have s4:au H (upd H3 l4 (.lst (nV (od++List.replicate (4-od.length) 0)))):=(s2.trans s3).trans (.new hl4);have e4:upd H3 l4 (.lst (nV (od++List.replicate (4-od.length) 0))) l4=some (.lst (nV (od++List.replicate (4-od.length) 0))):=ah;generalize upd H3 l4 (.lst (nV (od++List.replicate (4-od.length) 0)))=H4 at s4 e4⊢;kd_p;refine ay (s4 _ _ h1) T.cg T.gY oN ?_;kd_p
 have fin:∀v:Nat,v=(if u=true then 1 else 0)->[V.int (v:Nat)].length<=sizeLine/\∀p,H4 p=none->Hw (.ref l4) (.ref p) (upd H4 p (.lst [V.int (v:Nat)])) Q:=λv hv=>
  ⟨one_le,λp hp=>⟨l4,p,_,_,rfl,rfl,au.new hp _ _ e4,ah,by rw[aR,aah,acg,aaC];show _+1<=_;omega,λq hq=>k _ q ⟨(s4.trans (.new hp)).trans (.new hq),(s4.trans (.new hp)).free hq,by
   rw[ah,xn hs,my (od++_),hv]
   rfl⟩⟩⟩
 sleep 025
 ·kd_p;exact fin 1 (by rw[aav q])
 ·kd_p;exact fin 0 (by rw[aan 091])
def zZ{r:0017}(h:Standbook.isRow r=true):Standbook.rowBytes r=r.flatMap (Standbook.bytesOf 8):=by
 obtain⟨hl,_⟩:=SM.hZ h;rw[SM.pd]
 match r,hl with
 |[a,b,c,d],_=>simp[Standbook.field]
def IG(l:015):(l.flatMap (Standbook.bytesOf 8)).length=8*l.length:=by
 induction l with
 |nil=>rfl
 |cons y l ih=>rw[abv,aah,ih,SM.aN,aat];omega
inductive Fe(K:05)(vs:0012)(H:Hp)(Q:VK)(E:XK):Prop
 |mk(n:Nat)(a:Addr)(r:0017)(_:vs=[.int n,.ref a])(_:bw K H a (nV r))(_:Standbook.isRow r=true)(_:∀H' l,sj H H' l (Standbook.bytesOf 4 n++Standbook.rowBytes r)->Q (.ref l) H')
def xK(T:006):000 2 "written_row" ["number","row"] (Fe K):=by
 refine T.zH.ok lz 02;obtain⟨n,a,r,rfl,ha,hi,k⟩:=h;obtain⟨hl4,_⟩:=SM.hZ hi;refine gx _ (ae (aB (i:=2) lz.nd rfl 001 (aS (jh T) 01 rfl (aa 0094 (aa (aD T.dY rfl) ab)))) (ae (g_ aa5 rfl (nG (K:=K) rfl 014) (bC (i:=3) lz.nd rfl 001) (af (bp (kW (K:=K) rfl aaJ abr abq jj 034 (aa (aS (jh T) 01 rfl (aa 072 (aa (aD T.iA rfl) ab))) ab))))) (af (ai 034)))) ?_;kd_p;refine⟨n,4,rfl,by decide,λH1 D s1 hD e1=>?_⟩;kd_p;refine⟨a,rfl,⟨_,s1.tup ha⟩,BZ (xs:=nV r) (λi σ H'=>au H H'/\H' D=some (.lst (nV (bN (Standbook.bytesOf 4 n++(r.take i).flatMap (Standbook.bytesOf 8)))))/\∃z:Option V,σ=[some (.int (n:Nat)),some 046,some 0075,z]) ⟨s1,by rw[e1,aea,aey,aa7],none,rfl⟩ (λi σ H' _ ⟨e,_⟩=>e.tup ha) ?_ ?_⟩
 ·rintro i x σ H' hx ⟨sH,eD,z,rfl⟩;obtain⟨m,hm,rfl⟩:=iV hx;obtain⟨hin,_⟩:=aad.mp hm;kd_p;refine⟨.inl ⟨rfl,_,ax.of eD⟩,?_⟩;kd_p;refine⟨m,8,rfl,aay _,λH5 l5 s5 hl5 e5=>?_⟩;kd_p;refine⟨D,l5,_,_,rfl,rfl,s5 _ _ eD,e5,?_,?_⟩
  ·rw[aR,dg,aR,dg,aah,IG,SM.aN,SM.aN,aaH,aaC];omega
  ·refine⟨λb u e=>?_,?_,some (.int (m:Nat)),rfl⟩
   ·rw[aj (aG e hD)];exact s5 _ _ (sH _ _ e)
   ·rw[ah,take_snoc hm,acV,acB,<-aaL,tH (_++_),my]
 ·rintro σ H' ⟨sH,eD,z,rfl⟩;rw[aR,abC,<-zZ hi] at eD;kd_p;exact k H' D ⟨sH,hD,eD⟩
structure WT(K:05)(A:aQ)(H:Hp)(t:Addr)(os:016)(aw:033)(rows:Rows)(next:Nat):Prop where
 obj:∃dx d ol cd ml ch,H t=some (.ins A.cT dx (fT d (next:Nat) ol cd ml ch))/\jQ K A H ol os aw/\fx K H d rows
 so:∀x∈aw,Standbook.sound x.1=true
 ol:aw.length<=6
 rl:rows.length<=256
 gO:(rows.map (·.1)).Pairwise (·<·)
 row:∀x∈rows,Standbook.isRow x.2=true
def jQ.same{H H':Hp}{ol:Addr}{os:016}{aw:033}(s:au H H')(h:jQ K A H ol os aw):jQ K A H' ol os aw:=h.kp (S:=[]) (Kp.same s) 017 017
def fx.same{H H':Hp}{d:Addr}{rows:Rows}(s:au H H')(h:fx K H d rows):fx K H' d rows:=h.kp (S:=[]) (Kp.same s) 017
def Aq(os:033):(os.flatMap Standbook.orderBytes).length=5*os.length:=SM.qT os
def Pj(l:Rows):(l.flatMap λ(x:020)=>Standbook.bytesOf 4 x.1++Standbook.rowBytes x.2).length=36*l.length:=SM.oh l
def grow{H H' H5:Hp}{D l5:Addr}{b c:032}(hD:H D=none)(sH:au H H')(eD:H' D=some (.lst (nV (bN b))))(n5:sj H' H5 l5 c):au H (upd H5 D (.lst (nV (bN b)++nV (bN c))))/\upd H5 D (.lst (nV (bN b)++nV (bN c))) D=some (.lst (nV (bN (b++c))))/\∀q o,q≠D->H' q=some o->upd H5 D (.lst (nV (bN b)++nV (bN c))) q=some o:=by
 obtain⟨s5,h5,e5⟩:=n5;refine⟨λq u e=>?_,by rw[ah,tH,my],λq o hq e=>by rw[aj hq];exact s5 _ _ e⟩;rw[aj (aG e hD)];exact s5 _ _ (sH _ _ e)
inductive zj(K:05)(A:aQ)(vs:0012)(H:Hp)(Q:VK)(E:XK):Prop
 |mk(t:Addr)(os:016)(aw:033)(rows:Rows)(next:Nat)(_:vs=[.ref t])(_:WT K A H t os aw rows next)(_:∀H' l,sj H H' l (Table.bytes {Standbook.empty with orders:=aw,rows:=rows,next:=next})->Q (.ref l) H')
def perm_keys{rows:Rows}(hr:(rows.map (·.1)).Pairwise (·<·)){ns':025}(hp:ns'.Perm (rows.map λx=>(x.1:Int)))(hs:ns'.Pairwise (·<=·)):ns'=rows.map λx=>(x.1:Int):=by
 have h2:(rows.map λx=>(x.1:Int)).Pairwise (·<=·):=by
  rw[aaX] at hr⊢;exact hr.imp λh=>by omega
 exact hp.eq_of_pairwise (λa b _ _ h1 h2=>Int.le_antisymm h1 h2) hs h2
def om(T:006):000 3 "written_table" ["table"] (zj K A):=by
 refine T.xo.ok iH 02;obtain⟨t,os,aw,rows,next,rfl,⟨⟨dx,d,ol,cd,ml,ch,h1,ho,hrow⟩,hso,iU,hrl,hris,hrw⟩,k⟩:=h;have good:SM.Good rows:=⟨hris.imp λ{a b} q e=>by omega⟩;have lo:=ho.lo;refine gx _ (ae (aB (i:=1) iH.nd rfl 001 (bu (aa 0011 ab))) (ae (g_ aa5 rfl (c8 (K:=K) rfl 04) (bC (i:=2) iH.nd rfl 001) (af (bp (kW (K:=K) rfl aaJ abr abq jj 014 (aa (aS (vw T) 01 rfl 0023) ab))))) (ae (bp (kW (K:=K) rfl aaJ abr abq jj 014 (aa (aS (jh T) 01 rfl (aa (aI By rfl T.bG bh (aa 04 ab)) (aa (aD T.dY rfl) ab))) ab))) (ae (bp (kW (K:=K) rfl aaJ abr abq jj 014 (aa (aS (jh T) 01 rfl (aa 04 (aa (aD T.dY rfl) ab))) ab))) (ae (g_ aa5 rfl (c8 (K:=K) rfl (aI (Ir rfl) rfl T.Df yO (aa 04 ab))) (bC (i:=3) iH.nd rfl 001) (af (bp (kW (K:=K) rfl aaJ abr abq jj 014 (aa (aS (xK T) 01 rfl (aa 072 (aa (gG (dw hr) 04 072 019) ab))) ab))))) (af (ai 014))))))) ?_;kd_p;sleep 023;kd_p;refine cf (.inl (ax.of ho.lst)) ?_;kd_p;rw[aaa,lo];refine⟨one_le,λD hD=>?_⟩;have s1:au H (upd H D (.lst [.int (aw.length:Nat)])):=.new hD
 have e1:upd H D (.lst [.int (aw.length:Nat)]) D=some (.lst (nV (bN (Standbook.bytesOf 1 aw.length++(aw.take 0).flatMap Standbook.orderBytes)))):=by
  rw[ah,aea,aey,aa7,SM.tm];show _=some (HO.lst [V.int ((UInt8.ofNat (aw.length%256)).toNat:Int)]);rw[SM.lK (acp _ 0010),adH 03]
 generalize upd H D (.lst [.int (aw.length:Nat)])=H1 at s1 e1⊢;kd_p;refine ay (s1 _ _ h1) T.ak T.aJ bA ?_;refine⟨ol,rfl,⟨_,ax.of (ho.same s1).lst⟩,mi (xs:=os.map V.ref) (λi σ H'=>au H H'/\H' D=some (.lst (nV (bN (Standbook.bytesOf 1 aw.length++(aw.take i).flatMap Standbook.orderBytes))))/\∃z:Option V,σ=[some (.ref t),some 0075,z,none]) ⟨s1,e1,none,rfl⟩ (λi σ H' _ ⟨e,_⟩=>ax.of (ho.same e).lst) ?_ ?_⟩
 ·rintro i x σ H' hx ⟨sH,eD,z,rfl⟩;rw[aai] at hx;obtain⟨o,eo,rfl⟩:=aaI.mp hx;obtain⟨hil,_⟩:=aad.mp eo;have ey:aw[i]? =some aw[i]:=aab 03;obtain⟨p,hob⟩:=(ho.same sH).at_ i o _ eo ey;kd_p;refine⟨.inl ⟨rfl,_,ax.of eD⟩,?_⟩;kd_p;refine⟨o,p,_,_,rfl,hob,hso _ (aap ey),λH5 l5 n5=>?_⟩;kd_p;refine⟨D,l5,_,_,rfl,rfl,n5.1 _ _ eD,n5.2.2,?_,?_⟩
  ·rw[aR,dg,aR,dg,aah,Aq,SM.aN,SM.jq,aaH,aaC];omega
  ·obtain⟨g1,g2,g3⟩:=grow hD sH eD n5;refine⟨g1,?_,_,rfl⟩;rw[g2,take_snoc ey,acV,acB,aaL]
 ·rintro σ H2 ⟨s2,e2,z,rfl⟩;rw[aaa,lo,abC] at e2;obtain⟨kvs,rs,hd,hp,hrel⟩:=hrow;have hkl:kvs.length=rows.length:=(aaY hrel).trans hp.length_eq;kd_p;refine⟨.inl ⟨rfl,_,ax.of e2⟩,?_⟩;kd_p;refine ay (s2 _ _ h1) T.ak T.aP cA ?_;kd_p;refine A6 (s2 _ _ hd) ?_;rw[hkl];kd_p;refine⟨rows.length,4,rfl,by decide,λH3 l3 s3 hl3 e3=>?_⟩;kd_p;obtain⟨g1,g2,g3⟩:=grow hD s2 e2 (⟨s3,hl3,e3⟩:sj H2 H3 l3 _);refine⟨D,l3,_,_,rfl,rfl,s3 _ _ e2,e3,?_,?_⟩
  ·rw[aR,dg,aR,dg,aah,Aq,SM.aN,SM.aN,aaC];omega
  generalize upd H3 D (.lst (nV (bN (Standbook.bytesOf 1 aw.length++aw.flatMap Standbook.orderBytes))++nV (bN (Standbook.bytesOf 4 rows.length))))=H4 at g1 g2⊢;kd_p;refine⟨.inl ⟨rfl,_,ax.of g2⟩,?_⟩;kd_p;refine ay (g1 _ _ h1) T.ak T.bg jt ?_;kd_p;refine⟨next,4,rfl,by decide,λH5 l5 s5 hl5 e5=>?_⟩;kd_p;obtain⟨g4,g5,g6⟩:=grow hD g1 g2 (⟨s5,hl5,e5⟩:sj H4 H5 l5 _);refine⟨D,l5,_,_,rfl,rfl,s5 _ _ g2,e5,?_,?_⟩
  ·rw[aR,dg,aR,dg,aah,aah,Aq,SM.aN,SM.aN,SM.aN,aaC];omega
  generalize upd H5 D (.lst (nV (bN (Standbook.bytesOf 1 aw.length++aw.flatMap Standbook.orderBytes++Standbook.bytesOf 4 rows.length))++nV (bN (Standbook.bytesOf 4 next))))=H6 at g4 g5⊢
  have hpre:(Standbook.bytesOf 1 aw.length++aw.flatMap Standbook.orderBytes++Standbook.bytesOf 4 rows.length++Standbook.bytesOf 4 next).length<=39:=by
   rw[aah,aah,aah,Aq,SM.aN,SM.aN,SM.aN];omega
  generalize hpe:Standbook.bytesOf 1 aw.length++aw.flatMap Standbook.orderBytes++Standbook.bytesOf 4 rows.length++Standbook.bytesOf 4 next=pre at g5 hpre;kd_p;refine ay (g4 _ _ h1) T.ak T.aP cA ?_;kd_p;refine⟨d,kvs,rs.map λx=>(x.1:Int),rfl,g4 _ _ hd,?_,λns' p7 hperm hsrt hp7=>?_⟩
  ·have:∀{kvs:031} {rs:Rows},Paired (eX K H) kvs rs->kvs.map (·.1)=(rs.map λx=>(x.1:Int)).map Sum.inl:=by
    intro kvs rs h
    induction h with
    |nil=>rfl
    |cons h _ ih=>rw[aaB,ih,h.1];rfl
   exact this hrel
  have hns:=perm_keys hris (hperm.trans (hp.map _)) hsrt;subst hns;have s7:au H6 (upd H6 p7 098):=.new hp7;have e7:upd H6 p7 098 p7=some 098:=ah;generalize upd H6 p7 098=H7 at s7 e7⊢;have s17:=g4.trans s7;have p7D:p7≠D:=λz=>by rw[z,g5] at hp7;cases hp7
  refine⟨p7,rfl,⟨_,ax.of e7⟩,mi (xs:=(rows.map λx=>(x.1:Int)).map V.int) (λi σ H'=>au H H'/\H' p7=some 098/\H' D=some (.lst (nV (bN (pre++(rows.take i).flatMap λ(x:020)=>Standbook.bytesOf 4 x.1++Standbook.rowBytes x.2))))/\∃y1 y2:Option V,σ=[some (.ref t),some 0075,y1,y2]) ⟨s17,e7,by rw[s7 _ _ g5,aea,aey,aa7],_,_,rfl⟩ (λi σ H' _ ⟨_,e,_⟩=>ax.of e) ?_ ?_⟩
  ·rintro i x σ H' hx ⟨sH,eP,eD,y1,y2,rfl⟩;rw[aai,aai] at hx;obtain⟨zz,hz,rfl⟩:=aaI.mp hx;obtain⟨⟨n,rw1⟩,hnr,rfl⟩:=aaI.mp hz;have hmem:=aap hnr;obtain⟨hil,_⟩:=aad.mp hnr;obtain⟨ra,hv,hra⟩:=iz hrel (good.perm hp) (hp.mem_iff.mpr hmem);kd_p;refine⟨.inl ⟨rfl,_,ax.of eD⟩,?_⟩;kd_p;refine ay (sH _ _ h1) T.ak T.aP cA ?_;kd_p;refine iT (sH _ _ hd) hv ?_;kd_p;refine⟨n,ra,rw1,rfl,sH.tup hra,hrw _ hmem,λH8 l8 n8=>?_⟩;kd_p;obtain⟨g7,g8,g9⟩:=grow hD sH eD n8;refine⟨D,l8,_,_,rfl,rfl,n8.1 _ _ eD,n8.2.2,?_,?_⟩
   ·rw[aR,dg,aR,dg,aah,aah,Pj,SM.aN,SM.n6,aaH,aaC];omega
   ·refine⟨g7,g9 _ _ p7D eP,?_,_,_,rfl⟩;rw[g8,take_snoc hnr,acV,acB,aaL]
  ·rintro σ H' ⟨sH,eP,eD,y1,y2,rfl⟩;rw[aaa,aaa,abC] at eD;kd_p;refine k H' D ⟨sH,hD,?_⟩;rw[eD,<-hpe];unfold Table.bytes;simp only[aaL]
inductive EI(K:05)(A:aQ)(vs:0012)(H:Hp)(Q:VK)(E:XK):Prop
 |mk(t:Addr)(L:Lay)(T:049)(_:vs=[.ref t])(_:012)(_:∀H' l,xT H H' l (Standbook.nats [T.bytes.length]++Standbook.bytesOut T.bytes)->Q (.ref l) H')
def TabAt.wt{H:Hp}{t:Addr}{L:Lay}{T:049}(h:012):WT K A H t L.os T.orders T.rows T.next:=by
 obtain⟨dx,ch,h1,_⟩:=h.obj;exact⟨⟨dx,L.d,L.ol,L.cd,L.ml,ch,h1,h.aw.b,h.rows⟩,h.wf.os,h.wf.ol,h.wf.rows.len,h.wf.rows.gO,λx hx=>(h.wf.rows.row x hx).2.2⟩
def zX(T:006):000 4 "save_table" ["table"] (EI K A):=by
 refine T.C2.ok rT 02;obtain⟨t,L,T',rfl,ht,k⟩:=h;refine gx _ (ae (aB (i:=1) rT.nd rfl 001 (aS (om T) 01 rfl 040)) (af (ai (bB sU (bu (aa (aI 022 rfl T.bG bh 0096) ab)) 014)))) ?_;kd_p;refine⟨t,L.os,T'.orders,T'.rows,T'.next,rfl,ht.wt,λH1 l n1=>?_⟩;have n1:sj H H1 l T'.bytes:=n1;obtain⟨s1,hl,e1⟩:=n1;have hbl:=SM.su T';have iU:=ht.wf.ol;have hrl:=ht.wf.rows.len;kd_p;refine cf (.inl (ax.of e1)) ?_;rw[aR,dg];kd_p;refine⟨one_le,λp hp=>?_⟩;kd_p;refine⟨p,l,_,_,rfl,rfl,ah,au.new hp _ _ e1,by rw[aR,dg,aaC];show 1+_<=_;omega,λq hq=>k _ q ⟨(s1.trans (.new hp)).trans (.new hq),(s1.trans (.new hp)).free hq,?_⟩⟩;rw[ah];unfold zV;rw[aaP];have:=BL T'.bytes;unfold zV at this;rw[this];rfl
end Bk
section
namespace L2
open PySem PySem.Spec PyProof.Rows
section
variable{K:05}{a:Addr}{xs:0012}{te:TE}{tt:TT}{vs:015}{σ:St}{H1:Hp}{j:Nat}
def OP(K:05)(tt:TT)(te:TE)(σ:St)(vs:015)(j:Nat)(Q:VK)(x:V)(H1:Hp):Prop:=∃a,x= .ref a/\(∃xs,ax K H1 a xs)/\∀D,H1 D=none->∃W:Nat->Nat->Hp->Prop,028/\∀i m H,W i m H->
   ((kE K a).stop i H/\Q 0075 H)\/((kE K a).go i H/\∃Nx:Hp->Prop,023/\∀x H',(kE K a).ke i H x H'->fB j x 0097 H' λσ2 H2=>wipe σ2 vs=wipe σ vs/\tt σ2 H2 λb H3=>if b=true then te σ2 H3 λy H4=>∃acc,H4 D=some 0068/\acc.length<sizeLine/\Nx 021 else Nx H3)
def Rl{tl:TE}{H:Hp}{Q:VK}(h:tl σ H λx H1=>OP K tt te σ vs j Q x H1):wc (vR K tl) (fB j) tt te vs σ H Q:=h
def QQ{Q:VK}(p:V->Bool)(hx:ax K H1 a xs)(hz:009<=sizeLine)(ht:∀(i:Nat) (x:V) (H:Hp) (q:0081),xs[i]? =some x->au H1 H->q (p x) H->tt 0015 H q)(hb:∀(i:Nat) (x:V) (H:Hp) (Q:VK),xs[i]? =some x->au H1 H->Q x H->te 0015 H Q)(hd:∀D H2,H1 D=none->au H1 H2->H2 D=some (.lst (xs.filter p))->Q 0075 H2)(hw:∀x,wipe 0015 vs=wipe σ vs:=by intro _;rfl):OP K tt te σ vs j Q 046 H1:=by
 refine⟨a,rfl,⟨xs,hx⟩,λD hD=>?_⟩;refine Fj (λi H=>au H1 H/\H D=some (.lst ((xs.take i).filter p))) ⟨.new hD,ah⟩ (λi H _ q=>q.1.seq hx) (λi x H hx' q=>?_) λH q=>hd D H hD q.1 (by rw[q.2,abC]);obtain⟨p1,p2⟩:=q;obtain⟨hlt,_⟩:=aad.mp hx';have hfl:((xs.take i).filter p).length<=i:=aa8 (acF _ _) (by rw[aaH];omega);refine⟨hw x,ht i x H _ hx' p1 ?_⟩
 have et:(xs.take (i+1)).filter p=(xs.take i).filter p++(if p x=true then[x] else[]):=by
  rw[take_snoc hx',List.filter_append]
  congr 1
  by_cases h:p x=true
  ·rw[aav h,acs h];rfl
  ·rw[aan h,acu h];rfl
 sleep 025
 ·refine hb i x H _ hx' p1 ⟨_,p2,0018,λb o e=>?_,?_⟩
  ·rw[aj (aG e hD)];exact p1 _ _ e
  ·rw[ah,et,aav q]
 ·refine⟨p1,?_⟩;rw[p2,et,aan 091,aa7]
def OV{Q:VK}{n:Nat}(Pv:Addr->Nat->Hp->Prop)(hz:n<=sizeLine)(h0:∀D,H1 D=none->Pv D 0 (upd H1 D 0035))(hs:∀D i H,i<n->Pv D i H->te ((wipe σ vs).set j (some (.int (i:Nat)))) H λy H4=>∃acc,H4 D=some 0068/\acc.length<sizeLine/\Pv D (i+1) 021)(hd:∀D H,H1 D=none->Pv D n H->Q 0075 H)(hw:∀x,wipe 0015 vs=wipe σ vs:=by intro _;rfl):K9 te σ vs j Q [.int (n:Nat)] H1:=by
 rw[aaC] at hz;refine⟨n,rfl,0018,0018,λD hD=>?_⟩;rw[aa0];refine AG (Pv D) (h0 D hD) (λi H hi p=>?_) λH p=>hd D H hD p;refine⟨hw _,Av (cD ?_)⟩;rw[Int.zero_add];exact hs D i H hi p
end
end L2
namespace Bk
open PySem PyProof.Rows L2
open Standbook (Order Rows Table Mark Cursor Spot)
variable{P:027}{w:066}{K:05}{mg:005}{base:Heap}{A:aQ}
def Fl(ns:015)(i n:Nat):lL (nV ns) (some (i:Int)) (some ((i:Int)+(n:Int)))=nV ((ns.drop i).take n):=by
 have e:(i:Int)+(n:Int)=((i+n:Nat):Int):=by omega
 rw[e];unfold lL;rw[HT.Fs,HT.Fs,aR];unfold nV;rw[<-abZ,<-abY]
 congr 1
 by_cases h:i<=ns.length
 ·rw[adX h];by_cases h2:i+n<=ns.length
  ·rw[adX h2]
   congr 1
   omega
  ·rw[Nat.min_eq_right 03,abz (by rw[abh];omega),abz (by rw[abh];omega)]
 ·have e1:ns.drop (min i ns.length)=[]:=acC 03;have e2:ns.drop i=[]:=acC 03;rw[e1,e2,ac7,ac7]
def BI(b:032)(i n:Nat):((bN b).drop i).take n=bN ((b.drop i).take n):=by
 unfold bN;rw[<-abZ,<-abY]
def Fd{b:032}(h:1<=b.length):(nV (bN b))[0]? =some (.int ((b.headD 0).toNat:Nat)):=by
 cases b with
 |nil=>simp at h
 |cons c b=>rfl
inductive yD(K:05)(vs:0012)(H:Hp)(Q:VK)(E:XK):Prop
 |mk(l:Addr)(b:032)(_:vs=[.ref l])(_:ax K H l (nV (bN b)))(_:∀H',au H H'->Q (.bl (SM.iO b)) H')
def rX(T:006):000 2 "has_table_length" ["octets"] (yD K):=by
 refine T.sL.ok gM 02;obtain⟨l,b,rfl,hl,k⟩:=h;unfold SM.iO at k;refine gx _ (ae (aU (PW.pt (gq (a9 ij 0026 aA 077) (gz (a9 lQ (cj 043 0094 aA 019) (aD T.mQ rfl) 077)))) (af (ai m4)) aE) (ae (aB (i:=1) gM.nd rfl 001 (bB gh aA (bB qg (cj 043 0094 aA 019) (aD T.yf rfl)))) (ae (aB (i:=2) gM.nd rfl 001 (aS (oZ T) 01 rfl (aa (lx (ko (K:=K) rfl) 0094 (gR 014) (gR (bB gh 014 (aD T.dY rfl)))) ab))) (ae (aB (i:=3) gM.nd rfl 001 (bB gh (bB gh (bB gh 014 (aD T.dY rfl)) (aD T.dY rfl)) (bB qg 034 (aD T.CD rfl)))) (af (ai (sg (ee jP 034 (aD T.oP rfl) 077) (pT (ee fA 0026 072 077))))))))) ?_;kd_p;refine cf (.inl hl) ?_;kd_p;rw[aR,dg];sleep 018
 ·kd_p;have e:decide (1<=b.length)=false:=aal 03;rw[e] at k;simp only[abA] at k;exact k H 042
 ·have h1:1<=b.length:=by omega
  kd_p;refine eT (j:=0) hl (Fd h1) ?_;kd_p;refine cw (λq2=>?_) (λq2=>?_)
  ·kd_p;have e:decide ((b.headD 0).toNat<=6)=false:=aal 03;rw[e] at k;simp only[acz,abA] at k;exact k H 042
  ·have h2:(b.headD 0).toNat<=6:=by omega
   rw[aaj h1,aaj h2] at k;simp only[abQ] at k;kd_p;refine eT (j:=0) hl (Fd h1) ?_;kd_p;refine pM (.inr 075) ?_;kd_p;have es:(1:Int)+((b.headD 0).toNat:Nat)*5=((1+5*(b.headD 0).toNat:Nat):Int):=by omega
   rw[es];generalize hst:1+5*(b.headD 0).toNat=st at k⊢;refine⟨l,_,rfl,hl,λl1 hl1=>?_⟩;have ec:lL (nV (bN b)) (some ((st:Nat):Int)) (some (((st:Nat):Int)+4))=nV (bN ((b.drop st).take 4)):=by rw[<-BI];exact Fl (bN b) st 4
   rw[ec];have s1:au H (upd H l1 (.lst (nV (bN ((b.drop st).take 4))))):=.new hl1;have e1:upd H l1 (.lst (nV (bN ((b.drop st).take 4)))) l1=some (.lst (nV (bN ((b.drop st).take 4)))):=ah;generalize upd H l1 (.lst (nV (bN ((b.drop st).take 4))))=H1 at s1 e1⊢;kd_p;refine⟨l1,_,rfl,ax.of e1,?_⟩;rw[BF];generalize Standbook.fromLow ((b.drop st).take 4)=rows at k⊢;kd_p;refine pM (.inr 075) ?_;kd_p;by_cases q3:rows<=256
   ·rw[aaj (show(rows:Int)<=256 by omega)];rw[aaj q3] at k;refine cD ?_;kd_p;refine cf (.inl (s1.seq hl)) ?_;rw[aR,dg];kd_p;simp only[abQ] at k;have e9:decide (((b.length:Nat):Int)=((st:Nat):Int)+4+4+((rows:Nat):Int)*36)=decide (b.length=st+4+4+36*rows):=aa2.mpr 03;rw[e9];exact k H1 s1
   ·rw[aal (show¬(rows:Int)<=256 by omega)];rw[aal q3] at k;simp only[abA] at k;exact df (k H1 s1)
inductive rQ(K:05)(A:aQ)(vs:0012)(H:Hp)(Q:VK)(E:XK):Prop
 |mk(r a:Addr)(b:032)(i n:Nat)(_:vs=[.ref r,.int n])(_:fI A H r a i)(_:ax K H a (nV (bN b)))(_:i+n<=b.length)(_:∀H',Kp [r] H H'->fI A H' r a (i+n)->Q (.int (Standbook.fromLow ((b.drop i).take n):Nat)) H')
def jU(T:006):000 2 "read_value" ["reader","length"] (rQ K A):=by
 refine T.C_.ok z8 02;obtain⟨r,a,b,i,n,rfl,hrd,ha,hin,k⟩:=h;obtain⟨dx,h1⟩:=id hrd;refine gx _ (af (ai (aS (oZ T) 01 rfl (aa (bE 0094 (ie T) 01 0096) ab)))) ?_;kd_p;refine aF h1 (u9 07) ?_;kd_p;refine⟨r,a,bN b,i,n,rfl,hrd,ha,by rw[dg];exact hin,λH1 l k1 r1 hl e1=>?_⟩;rw[BI] at e1;kd_p;refine⟨l,_,rfl,ax.of e1,?_⟩;rw[BF];exact k H1 k1 r1
def iN(b:032):Order×Bool:=((((b.take 4).map UInt8.toNat)).filter (λ(x:Nat)=>x !=0),b.getD 4 0==1)
inductive rK(K:05)(A:aQ)(vs:0012)(H:Hp)(Q:VK)(E:XK):Prop
 |mk(r a:Addr)(b:032)(i:Nat)(_:vs=[.ref r])(_:fI A H r a i)(_:ax K H a (nV (bN b)))(_:a≠r)(_:i+5<=b.length)(_:∀H' x p,Kp [r] H H'->fI A H' r a (i+5)->H x=none->H p=none->x≠p->OB K A H' x p (iN (b.drop i)).1 (iN (b.drop i)).2->H' p=some (.lst [])->Q (.ref x) H')
def zO(T:006):000 3 "read_order" ["reader"] (rK K A):=by
 refine T.Bc.ok mF 02;obtain⟨r,a,b,i,rfl,hrd,ha,har,hin,k⟩:=h;obtain⟨dx,h1⟩:=id hrd;refine gx _ (ae (LI (i:=1) (own:=[("code",2)]) rfl mF.nd (c8 (K:=K) rfl (bE 0094 (ie T) 01 (aa (aD T.iK rfl) ab))) (c_ (by show gP ["reader","codes","code"] (ag (top 87)) _ _=true;decide+kernel)) (λ_ _ _ _ _=>bC (i:=2) mF.nd rfl 001 0044) (λ_ _ _ _ _=>(MW (a9 AD 034 aA 077))) (λ_ _ _ _ _=>(pv 2)) (hy:=rfl) (hyl:=rfl) (hsw:=Nk rfl rfl rfl rfl)) (af (ai (xM (AH T) 01 rfl (aa 014 (aa (ee fA (bf 0094 (az T) 01) aA 077) ab)))))) ?_;kd_p;refine Rl ?_;kd_p;refine aF h1 (u9 07) ?_;kd_p;refine⟨r,a,bN b,i,4,rfl,hrd,ha,by rw[dg];omega,λH1 l k1 r1 hl e1=>?_⟩;rw[BI] at e1;refine QQ (λv=>match v with|.int z=>z !=0|_=>true) (ax.of e1) (by rw[aR,dg,aaH,aaC];omega) (λj x H2 q hx s2 hq=>?_) (λj x H2 Q2 hx s2 hq=>?_) (λD H2 hD s2 e2=>?_)
 ·sleep 032;kd_p
  have eb:(!decide ((n:Int)=0))=((n:Int) !=0):=by
   by_cases z:(n:Int)=0
   ·rw[z];rfl
   ·rw[aal z];exact(abE.mpr z).symm
  rw[eb];exact hq
 ·kd_p;exact hq
 ·have ef:(nV (bN ((b.drop i).take 4))).filter (λv=>match v with|.int z=>z !=0|_=>true)=nV (iN (b.drop i)).1:=by
   unfold nV iN bN;rw[List.filter_map]
   congr 1
   apply aek;intro n _;show((n:Int) !=0)=(n !=0);by_cases z:n=0
   ·subst z;rfl
   ·rw[abE.mpr z];exact abE.mpr 03
  rw[ef] at e2;have k12:Kp [r] H H2:=k1.trans (Kp.same s2)
  obtain⟨dx2,r2⟩:fI A H2 r a (i+4):=by
   obtain⟨dx2,r2⟩:=r1;exact⟨dx2,s2 _ _ r2⟩
  kd_p;refine aF r2 (u9 07) ?_;kd_p
  have hb4:(bN b)[i+4]? =some (b.getD (i+4) 0).toNat:=by
   unfold bN;rw[aai,aaF,aab 03];rfl
  refine⟨r,a,bN b,i+4,_,rfl,⟨dx2,r2⟩,ax.kp k12 (fN har) ha,hb4,λH3 k3 r3=>?_⟩;kd_p;intro x dxo hx hdx hne;have sm:au H3 (upd (upd H3 dxo (.own x)) x (.ins A.cO dxo [])):=λb u e=>by rw[aj (aG e hx),aj (aG e hdx)];exact e
  have hDr:D≠r:=λz=>by rw[z] at hD;obtain⟨_,rr⟩:=r1;rw[rr] at hD;cases hD
  have eD3:H3 D=some (.lst (nV (iN (b.drop i)).1)):=k3.keep _ _ e2 (fN hDr);refine⟨x,dxo,D,(iN (b.drop i)).1,decide (((b.getD (i+4) 0).toNat:Int)=1),rfl,ah,sm.seq (ax.of eD3),λH4 p k4 hp hob hp4=>0091⟩;have s34:au H3 H4:=iB hx hdx k4;have kf:Kp [r] H H4:=(k12.trans k3).trans (Kp.same s34);have rH:H r=some (.ins A.cR dx (fR a (i:Nat))):=h1
  have fr:∀{q:Addr},H3 q=none->H q=none:=λ{q} hq=>(k12.trans k3).free hq λz=>by
   rw[aT z] at hq;obtain⟨_,rr⟩:=r3;rw[rr] at hq;cases hq
  have hpx:x≠p:=λz=>by rw[<-z,ah] at hp;cases hp
  refine k H4 x p kf ⟨r3.choose,s34 _ _ r3.choose_spec⟩ (fr hx) (fr (sm.free hp)) hpx ?_ hp4
  have eu:decide (((b.getD (i+4) 0).toNat:Int)=1)=(iN (b.drop i)).2:=by
   unfold iN;show _=((b.drop i).getD 4 0==1);have eg:(b.drop i).getD 4 0=b.getD (i+4) 0:=by rw[aaF,aaF,adf]
   rw[eg];by_cases z:b.getD (i+4) 0=1
   ·rw[z];rfl
   ·rw[aaV.mpr z];refine aal λy=>z (UInt8.toNat_inj.mp ?_);show(b.getD (i+4) 0).toNat=1;omega
  rw[<-eu];exact hob
end Bk
end
namespace Bk
open PySem PyProof.Rows L2
open Standbook (Order Rows Table Mark Cursor Spot)
variable{P:027}{w:066}{K:05}{mg:005}{base:Heap}{A:aQ}
theorem EL:∀(n:Nat) (c:032) (j:Nat),j<n->(SM.cH n c)[j]? =some (iN (c.drop (5*j)))
 |0,c,j,h=>by omega
 |n+1,c,0,h=>rfl
 |n+1,c,j+1,h=>by
  show(SM.cH n (c.drop 5))[j]? =_;rw[EL n (c.drop 5) j 03,abd,show 5+5*j=5*(j+1) by omega]
theorem vU:∀(n:Nat) (c:032) (j:Nat),j<n->(Standbook.rowsIn n c)[j]? =some (Standbook.fromLow ((c.drop (36*j)).take 4),Standbook.rowIn ((c.drop (36*j)).drop 4))
 |0,c,j,h=>by omega
 |n+1,c,0,h=>rfl
 |n+1,c,j+1,h=>by
  show(Standbook.rowsIn n (c.drop 36))[j]? =_;rw[vU n (c.drop 36) j 03,abd,show 36+36*j=36*(j+1) by omega]
def Ng{H:Hp}:∀{kvs:031} {rs:Rows},Paired (eX K H) kvs rs->∀{a:Addr} {n:Nat} {row:0017},bw K H a (nV row)->Paired (eX K H) (putK kvs 0006 046) (SM.putN rs n row):=by
 intro kvs rs h a n row ha
 have hany:(kvs.any λkv=>decide (kv.1=(Sum.inl (n:Int):Key)))=rs.any λx=>x.1==n:=by
  induction h with
  |nil=>rfl
  | @cons kv x kvs rs h t ih=>
    rw[ach,ach,ih,h.1]
    congr 1
    by_cases e:x.1=n
    ·rw[e];simp
    ·rw[aaV.mpr e];refine aal λz=>e ?_;have:=aci z;omega
 unfold putK SM.putN;rw[hany]
 split
 ·rename_i hsp;clear hany hsp
  induction h with
  |nil=>exact .nil
  | @cons kv x kvs rs h t ih=>
    rw[aaB,aaB];refine .cons ?_ ih;by_cases e:x.1=n
    ·have e2:kv.1=(Sum.inl (n:Int):Key):=by rw[h.1,e]
     rw[aav e2,aav e];exact⟨e2,a,rfl,ha⟩
    ·have e2:¬kv.1=(Sum.inl (n:Int):Key):=λz=>e (by
      rw[h.1] at z;have:=aci z
      omega)
     rw[aan e2,aan e];exact h
 ·exact L2.Paired.snoc h ⟨rfl,a,rfl,ha⟩
def Kp.plus{r x:Addr}{H H1 H2:Hp}(k1:Kp [r] H H1)(k2:Kp [x] H1 H2)(hx:H x=none):Kp [r] H H2 where
 keep:=λq o e hq=>k2.keep _ _ (k1.keep q o e hq) λy=>by
  rw[aT y,hx] at e;cases e
 fP:=λq xs e=>k2.fP _ _ (k1.fP _ _ e)
 eM:=λq o u e=>k2.eM _ _ _ (k1.eM _ _ _ e)
structure ze(K:05)(A:aQ)(H H':Hp)(r a t dx d ol cd ml:Addr)(next:Nat)(os:016)(aw:033):Prop where
 kp:Kp [r] H H'
 nt:H t=none
 nd:H d=none
 rB:H ol=none
 v8:∀o∈os,H o=none
 CJ:t∉os
 zo:os.Nodup
 obj:H' t=some (.ins A.cT dx (fT d (next:Nat) ol cd ml 0))
 jA:jQ K A H' ol os aw
def ze.step{H H' H2:Hp}{r a t dx d ol cd ml:Addr}{next:Nat}{os:016}{aw:033}(h:ze K A H H' r a t dx d ol cd ml next os aw)(k:Kp [r] H' H2)(hr:H r≠none):ze K A H H2 r a t dx d ol cd ml next os aw:=by
 have nr:∀{b:Addr},H b=none->b∉[r]:=λhb z=>hr (by rw[<-aT z];exact hb);exact⟨h.kp.trans k,h.nt,h.nd,h.rB,h.v8,h.CJ,h.zo,k.keep _ _ h.obj (nr h.nt),h.jA.kp k (nr h.rB) λo ho=>nr (h.v8 o ho)⟩
inductive rp(K:05)(A:aQ)(vs:0012)(H:Hp)(Q:VK)(E:XK):Prop
 |mk(r a:Addr)(b:032)(_:vs=[.ref r])(_:fI A H r a 0)(_:ax K H a (nV (bN b)))(_:a≠r)(_:SM.iO b=true)(_:∀H' t dx d ol cd ml os,ze K A H H' r a t dx d ol cd ml (SM.aW b).next os (SM.aW b).orders->fx K H' d (SM.aW b).rows->Q (.ref t) H')
def Ao(T:006):000 4 "read_table" ["reader"] (rp K A):=by
 refine T.CC.ok eZ 02;obtain⟨r,a,b,rfl,hrd,ha,har,hlen,k⟩:=h;obtain⟨dxr,h1⟩:=id hrd;unfold SM.iO at hlen;simp only[aak,abN] at hlen;obtain⟨⟨⟨b1,b6⟩,b256⟩,blen⟩:=hlen;unfold SM.aW SM.ka at k;generalize hn:(b.headD 0).toNat=n at b6 b256 blen k;generalize hm:Standbook.fromLow ((b.drop (1+5*n)).take 4)=m at b256 blen k;have hHr:H r≠none:=by rw[h1];intro z;cases z
 have nr:∀{q:Addr},H q=none->q∉[r]:=λhb z=>hHr (by rw[<-aT z];exact hb);refine gx _ (ae (aB (i:=1) eZ.nd rfl 001 (Mb (Cg T) 01 rfl)) (ae (aB (i:=2) eZ.nd rfl 001 (bf 0094 (az T) 01)) (ae (g_ aa5 rfl (mC rfl T.ng 0023) (bC (i:=3) eZ.nd rfl 001) (af (bp (kW (K:=K) rfl aaJ abV abU lW 0022 (aa (aS (zO T) 01 rfl 040) ab))))) (ae (aB (i:=4) eZ.nd rfl 001 (aS (jU T) 01 rfl (aa 0094 (aa (aD T.dY rfl) ab)))) (ae (bR (K:=K) rfl 014 (aS (jU T) 01 rfl (aa 0094 (aa (aD T.dY rfl) ab))) rfl) (ae (g_ aa5 rfl (mC rfl T.ng (aa (pv 4) ab)) (bC (i:=3) eZ.nd rfl 001) (ae (aB (i:=5) eZ.nd rfl 001 (aS (jU T) 01 rfl (aa 0094 (aa (aD T.dY rfl) ab)))) (af (xZ (dw hr) 0022 (pv 5) (fi (kY (K:=K) rfl) rfl T.p8 nY (aa (gB (own:=[("field",6)]) rfl eZ.nd (mC rfl T.ng (aa (aD T.iK rfl) ab)) (c_ (by show gP ["reader","table","orders","each","rows","number","field"] (ag (top 88)) _ _=true;decide+kernel)) (λ_ _ _ _ _=>bC (i:=6) eZ.nd rfl 001 0044) 067 (λ_ _ _ _ _=>(aS (jU T) 01 rfl (aa 0094 (aa (aD T.iA rfl) ab))))) ab)) rfl)))) (af (ai 014)))))))) ?_;kd_p;intro t dx ht hdx hne;refine⟨t,dx,rfl,ah,λH1 d ol cd ml k1 hd iU gD gJ fr=>0091⟩;have s1:au H H1:=iB ht hdx k1;have sm:au H (upd (upd H dx (.own t)) t (.ins A.cT dx [])):=λq u e=>by rw[aj (aG e ht),aj (aG e hdx)];exact e
 have tol:t≠ol:=λz=>by rw[<-z,ah] at iU;cases iU
 have td:t≠d:=λz=>by rw[<-z,ah] at hd;cases hd
 have dol:d≠ol:=cv fr.hd fr.iU 010;kd_p;refine aF (s1 _ _ h1) (u9 07) ?_;kd_p
 have hb0:(bN b)[0]? =some n:=by
  cases b with
  |nil=>simp at b1
  |cons c b'=>rw[<-hn];rfl
 refine⟨r,a,bN b,0,n,rfl,⟨dxr,s1 _ _ h1⟩,s1.seq ha,hb0,λH2 k2 r2=>?_⟩
 have R0:ze K A H H2 r a t dx d ol cd ml 1 [] ((SM.cH n (b.drop 1)).take 0):=
  ⟨(Kp.same s1).trans k2,ht,sm.free hd,sm.free iU,0104,0104,0104,k2.keep _ _ fr.obj (nr ht),⟨k2.keep _ _ fr.iU (nr (sm.free iU)),rfl,λi o x z=>by simp at z⟩⟩
 have e2:H2 d=some (.dK []):=k2.keep _ _ fr.hd (nr (sm.free hd));kd_p;refine⟨n,rfl,0018,0018,?_⟩;rw[aa0];refine qw (λi σ H'=>∃os:List Addr,os.length=i/\ze K A H H' r a t dx d ol cd ml 1 os ((SM.cH n (b.drop 1)).take i)/\H' d=some (.dK [])/\fI A H' r a (1+5*i)/\∃z:Option V,σ=[some (.ref r),some (.ref t),some (.int (n:Nat)),z,none,none,none]) ⟨[],rfl,R0,e2,r2,none,rfl⟩ ?_ ?_
 ·rintro i σ H' hi ⟨os,hol',R,eD,rd,z,rfl⟩;kd_p;refine ay R.obj T.ak T.aJ bA ?_;refine⟨.inl ⟨rfl,_,ax.of R.jA.lst⟩,?_⟩;kd_p;refine⟨r,a,b,1+5*i,rfl,rd,ax.kp R.kp (fN har) ha,har,0018,λH3 x p k3 rd3 hx hp hxp hob hp3=>?_⟩;have R3:=R.step k3 hHr;kd_p;refine⟨ol,_,.ref x,rfl,rfl,R3.jA.lst,by rw[aaa,hol',aaC];omega,?_⟩;have k4:=Kp.lst R3.jA.lst (.lst (os.map V.ref++[V.ref x]));have e4:upd H3 ol (.lst (os.map V.ref++[V.ref x])) ol=some (.lst (os.map V.ref++[V.ref x])):=ah;generalize upd H3 ol (.lst (os.map V.ref++[V.ref x]))=H4 at k4 e4⊢
  have hxH:H x=none:=R.kp.free hx λy=>hHr (by
   have:=R.kp;have e:x=r:=aT y;obtain⟨_,rr⟩:=rd;rw[e,rr] at hx
   cases hx)
  have xol:x∉[ol]:=λy=>by rw[aT y,R.jA.lst] at hx;cases hx
  have hosl:∀o∈os,o∉[ol]:=λo ho y=>by
   obtain⟨j,hj⟩:=aas.mp ho;obtain⟨hjl,_⟩:=aad.mp hj;have hlo:=R3.jA.lo;obtain⟨p',⟨dx',c',q1,q2⟩⟩:=R3.jA.at_ j o _ hj 0093;rw[aT y,R3.jA.lst] at q1;cases q1
  have kH:Kp [r] H H4:=R3.kp.plus k4 R.rB;refine⟨os++[x],by rw[aah,hol'];rfl,⟨kH,ht,R.nd,R.rB,λo ho=>?_,λy=>?_,j8 R.zo λy=>?_,k4.keep _ _ R3.obj (by simpa using tol),⟨?_,?_,λj o y hj hy=>?_⟩⟩,k4.keep _ _ (k3.keep _ _ eD (nr R.nd)) (by simpa using dol),?_,_,rfl⟩
  ·rcases aax.mp ho with y|y
   ·exact R.v8 o y
   ·rw[aT y];exact hxH
  ·rcases aax.mp y with y|y
   ·exact R.CJ y
   ·rw[<-aT y,R.obj] at hx;cases hx
  ·obtain⟨j,hj⟩:=aas.mp y;obtain⟨hjl,_⟩:=aad.mp hj;have hlo:=R.jA.lo;obtain⟨p',⟨dx',c',q1,q2⟩⟩:=R.jA.at_ j x _ hj 0093;rw[hx] at q1;cases q1
  ·rw[e4,aaP];rfl
  ·rw[aah,hol',aaH,SM.pB];show i+1=_;omega
  ·have hy2:(SM.cH n (b.drop 1))[j]? =some y:=by
    rw[adb] at hy
    split at hy
    ·exact hy
    ·cases hy
   rcases ST.qK.mp hj with q|⟨q1,q2⟩
   ·obtain⟨hjl,_⟩:=aad.mp q;obtain⟨p',hp'⟩:=R3.jA.at_ j o y q (by rw[adb,aav 03];exact hy2);exact⟨p',hp'.kp k4 (hosl o (aap q))⟩
   ·subst q2;rw[q1,hol',EL n _ i hi,abd] at hy2;rw[<-aac hy2];exact⟨p,hob.kp k4 xol⟩
  ·have:fI A H4 r a (1+5*i+5):=rd3.kp k4 λy=>by
    obtain⟨_,rr⟩:=rd3;rw[aT y,R3.jA.lst] at rr;cases rr
   rw[show 1+5*(i+1)=1+5*i+5 by omega];exact this
 ·rintro σ H3 ⟨os,hol',R,eD,rd,z,rfl⟩;have etk:(SM.cH n (b.drop 1)).take n=SM.cH n (b.drop 1):=abz (by rw[SM.pB];exact aay _);rw[etk] at R;kd_p;refine⟨r,a,b,1+5*n,4,rfl,rd,ax.kp R.kp (fN har) ha,0018,λH4 k4 rd4=>?_⟩;rw[hm];have R4:=R.step k4 hHr;kd_p;refine⟨r,a,b,1+5*n+4,4,rfl,rd4,ax.kp R4.kp (fN har) ha,0018,λH5 k5 rd5=>?_⟩;have R5:=R4.step k5 hHr;have ednx:(b.drop (1+5*n+4)).take 4=((b.drop (1+5*n)).drop 4).take 4:=by rw[abd]
  rw[ednx];generalize hnx:Standbook.fromLow (((b.drop (1+5*n)).drop 4).take 4)=nx at k⊢;kd_p;refine bL R5.obj T.ak T.bg 0002 ?_;rw[pH];have eD5:H5 d=some (.dK []):=k5.keep _ _ (k4.keep _ _ eD (nr R.nd)) (nr R.nd);have k6:=Kp.ins R5.obj (.ins A.cT dx (fT d (nx:Nat) ol cd ml 0));have t6:upd H5 t (.ins A.cT dx (fT d (nx:Nat) ol cd ml 0)) t=some (.ins A.cT dx (fT d (nx:Nat) ol cd ml 0)):=ah;generalize upd H5 t (.ins A.cT dx (fT d (nx:Nat) ol cd ml 0))=H6 at k6 t6⊢;have ntos:∀o∈os,o∉[t]:=λo ho y=>R.CJ (by rw[<-aT y];exact ho);have kH6:Kp [r] H H6:=R5.kp.plus k6 ht;have R6:ze K A H H6 r a t dx d ol cd ml nx os (SM.cH n (b.drop 1)):=⟨kH6,ht,R.nd,R.rB,R.v8,R.CJ,R.zo,t6,R5.jA.kp k6 (fN (abl tol)) ntos⟩;have eD6:H6 d=some (.dK []):=k6.keep _ _ eD5 (fN (abl td));have tr:t≠r:=λy=>hHr (y▸ht);have rd6:fI A H6 r a (1+5*n+8+36*0):=rd5.kp k6 (fN (abl tr));kd_p;refine⟨m,rfl,0018,0018,?_⟩;rw[aa0]
  let c:=(b.drop (1+5*n)).drop 8
  have hc:c=b.drop (1+5*n+8):=abd
  refine qw (λi σ H'=>ze K A H H' r a t dx d ol cd ml nx os (SM.cH n (b.drop 1))/\(∃kvs,H' d=some 029/\Paired (eX K H') kvs (((Standbook.rowsIn m c).take i).foldl (λd x=>SM.putN d x.1 x.2) []))/\fI A H' r a (1+5*n+8+36*i)/\∃z1 z2 z3:Option V,σ=[some (.ref r),some (.ref t),some (.int (n:Nat)),z1,some (.int (m:Nat)),z2,z3])
   ⟨R6,⟨[],eD6,.nil⟩,rd6,_,_,_,rfl⟩ ?_ ?_
  ·rintro i σ H' hi ⟨R',⟨kvs,ekv,hrel⟩,rd',z1,z2,z3,rfl⟩;have hbound:1+5*n+8+36*i+36<=b.length:=by omega
   generalize hpos:1+5*n+8+36*i=pos at rd' hbound;kd_p;refine⟨r,a,b,pos,4,rfl,rd',ax.kp R'.kp (fN har) ha,0018,λH7 k7 rd7=>?_⟩;have R7:=R'.step k7 hHr;kd_p;refine OV (n:=4) (λD j H8=>Kp [r] H7 H8/\H7 D=none/\H8 D=some (.lst (nV ((List.range j).map λf=>Standbook.fromLow ((b.drop (pos+4+8*f)).take 8))))/\fI A H8 r a (pos+4+8*j)) (by rw[aaC];decide) (λD hD=>?_) (λD j H8 hj q=>?_) λD H8 hD q=>?_
   ·have s8:au H7 (upd H7 D 0035):=.new hD;obtain⟨dd,q⟩:=rd7;exact⟨Kp.same s8,hD,ah,dd,s8 _ _ q⟩
   ·obtain⟨k8,hD,e8,rd8⟩:=q;have R8:=R7.step k8 hHr
    have hDr:D∉[r]:=λy=>by
     obtain⟨_,rr⟩:=rd7;rw[aT y,rr] at hD;cases hD
    kd_p;refine⟨r,a,b,pos+4+8*j,8,rfl,rd8,ax.kp R8.kp (fN har) ha,0018,λH9 k9 rd9=>?_⟩;have e9:=k9.keep _ _ e8 hDr;refine⟨_,e9,by rw[aR,aaa,abe,aaC];omega,?_,hD,?_,?_⟩
    ·have kx:Kp [D] H9 (upd H9 D (.lst (nV ((List.range j).map λf=>Standbook.fromLow ((b.drop (pos+4+8*f)).take 8))++[V.int (Standbook.fromLow ((b.drop (pos+4+8*j)).take 8):Nat)]))):=Kp.lst e9 _;exact(k8.trans k9).plus kx hD
    ·rw[ah,List.range_succ,aaP,my];rfl
    ·obtain⟨dd,q9⟩:=rd9;refine⟨dd,?_⟩;rw[aj (by simpa using λy=>hDr (by rw[<-y];simp)),q9,show pos+4+8*(j+1)=pos+4+8*j+8 by omega]
   ·obtain⟨k8,_,e8,rd8⟩:=q;have R8:=R7.step k8 hHr;refine⟨D,_,rfl,.inl ⟨ax.of e8,λtu htu=>?_⟩⟩
    have er:nV ((List.range 4).map λf=>Standbook.fromLow ((b.drop (pos+4+8*f)).take 8))=nV 0005:=by
     unfold Standbook.rowIn
     congr 1
     apply abD;intro f _;rw[hc,abd,abd,abd,<-hpos,show 1+5*n+8+36*i+4+8*f=1+5*n+8+(36*i+(4+8*f)) by omega]
    rw[er];have s9:au H8 (upd H8 tu (.tup (nV 0005))):=.new htu;have e9:upd H8 tu (.tup (nV 0005)) tu=some (.tup (nV 0005)):=ah;generalize upd H8 tu (.tup (nV 0005))=H9 at s9 e9⊢;have R9:=R8.step (Kp.same s9) hHr;have kd:Kp [r] H' H9:=(k7.trans k8).trans (Kp.same s9);have ekv9:=kd.keep _ _ ekv (nr R'.nd);have hrel9:=L2.Paired.jE hrel λ_ _ y=>eX.kp kd y;kd_p;refine ay R9.obj T.ak T.aP cA ?_;kd_p
    have hkl:kvs.length<sizeLine:=by
     have:=SM.CI ((Standbook.rowsIn m c).take i) [];rw[aaH,abj] at this;have e:=aaY hrel;rw[e,aaC];exact Nat.lt_of_le_of_lt this 03
    refine⟨d,_,rfl,sX.k (k:=Sum.inl _) ekv9 hkl,?_⟩;have efl:(b.drop pos).take 4=(c.drop (36*i)).take 4:=by rw[hc,abd,<-hpos]
    rw[efl];have kx:=Kp.gN ekv9 051;have ex:upd H9 d 051 d=some 051:=ah;generalize upd H9 d 051=H10 at kx ex⊢
    have tosd:∀o∈os,o∉[d]:=λo ho y=>by
     obtain⟨j,hj⟩:=aas.mp ho;obtain⟨hjl,_⟩:=aad.mp hj;have hlo:=R9.jA.lo;obtain⟨p',⟨dx',c',q1,q2⟩⟩:=R9.jA.at_ j o _ hj 0093;rw[aT y,ekv9] at q1;cases q1
    have kH:Kp [r] H H10:=R9.kp.plus kx R.nd;refine⟨⟨kH,ht,R.nd,R.rB,R.v8,R.CJ,R.zo,kx.keep _ _ R9.obj (by simpa using td),R9.jA.kp kx (fN (abl dol)) tosd⟩,⟨_,ex,?_⟩,?_,_,_,_,rfl⟩
    ·rw[take_snoc (vU m c i hi),List.foldl_append];exact Ng (L2.Paired.jE hrel9 λ_ _ y=>eX.kp kx y) (bw.kp kx (bw.of e9))
    ·obtain⟨dd,q8⟩:=rd8;refine⟨dd,?_⟩;have:=kx.keep _ _ (s9 _ _ q8) (λy=>nr R.nd (by rw[<-aT y];simp));rw[this];have e0:1+5*n+8+36*(i+1)=pos+4+8*4:=by omega
     rw[e0]
  ·rintro σ H' ⟨R',⟨kvs,ekv,hrel⟩,rd',z1,z2,z3,rfl⟩;have etm:(Standbook.rowsIn m c).take m=Standbook.rowsIn m c:=abz (by rw[SM.m5];exact aay _);rw[etm] at hrel;kd_p;exact k H' t dx d ol cd ml os R' ⟨kvs,_,ekv,(SM.jr _).symm,hrel⟩
def KL{α:Type}{l m:076}(h:l.Perm m)(f:α->Bool):l.all f=m.all f:=by
 induction h with
 |nil=>rfl
 |cons x _ ih=>rw[adO,adO,ih]
 |swap x y l=>simp only[adO];rw[<-Bool.and_assoc,<-Bool.and_assoc,Bool.and_comm (f y)]
 |trans _ _ a b=>rw[a,b]
inductive Cw(K:05)(A:aQ)(vs:0012)(H:Hp)(Q:VK)(E:XK):Prop
 |mk(t dx d ol cd ml:Addr)(next:Nat)(ch:Int)(os:016)(aw:033)(rows:Rows)(_:vs=[.ref t])(_:H t=some (.ins A.cT dx (fT d (next:Nat) ol cd ml ch)))(_:jQ K A H ol os aw)(_:(∀x∈aw,x.1.length<=20000))(_:aw.length<=6)(_:fx K H d rows)(_:rows.length<=256)(_:∀H',au H H'->Q (.bl (SM.gH {Standbook.empty with orders:=aw,rows:=rows,next:=next})) H')
def tL(T:006):000 3 "has_sound_parts" ["table"] (Cw K A):=by
 refine T.uG.ok f7 02;obtain⟨t,dx,d,ol,cd,ml,next,ch,os,aw,rows,rfl,h1,ho,hcl,iU,⟨kvs,rs,hd,hp,hrel⟩,hrl,k⟩:=h;unfold SM.gH at k;have lo:=ho.lo;refine gx _ (ae (aU (bT (br (aI (qG (K:=K) rfl rfl) rfl T.qB nX (aa (gB (own:=[("order",1)]) rfl f7.nd (c8 (K:=K) rfl 04) (c_ (by show gP ["table","order","number"] (ag (top 89)) _ _=true;decide+kernel)) (λ_ _ _ _ _=>bC (i:=1) f7.nd rfl 001 0044) 067 (λ_ _ _ _ _=>(aS (iY T) 01 rfl (aa 0022 ab)))) ab)))) (af (ai m4)) aE) (ae (aU (PW.pt (gq (a9 ij 04 aA 077) (gz (a9 lQ 04 (bB gh (aD T.mT rfl) aA) 077)))) (af (ai m4)) aE) (af (ai (aI (qG (K:=K) rfl rfl) rfl T.qB nX (aa (ER (gB (own:=[("number",2)]) rfl f7.nd (Fm 04) (c_ (by show gP ["table","order","number"] (ag (top 89)) _ _=true;decide+kernel)) (λ_ _ _ _ _=>bC (i:=2) f7.nd rfl 001 0044) 067 (λ_ _ _ _ _=>(nH jP ij aA 034 04)))) ab)))))) ?_;kd_p;sleep 023;kd_p;refine jS ((aw.map λx=>Standbook.sound x.1).map V.bl) (ax.of ho.lst) (by rw[aaa,aaa,aaa,lo]) (by rw[aaa,lo,aaC];omega) 0043 λD H1 _ s1 e1=>?_
 ·rw[aai] at hx;obtain⟨o,eo,rfl⟩:=aaI.mp hx;obtain⟨hil,_⟩:=aad.mp eo;have ey:aw[i]? =some aw[i]:=aab 03;rw[iE (g:=λx:Order×Bool=>Standbook.sound x.1) ey hy] at q;obtain⟨p,dxo,c,q1,q2⟩:=(ho.same s1).at_ i o _ eo ey;kd_p;refine ay q1 T.cg T.iq q_ ?_;kd_p;exact⟨c,_,rfl,.inr q2,hcl _ (aap ey),λH2 s2=>q H2 s2⟩
 ·kd_p;refine uB _ (ax.of e1) ?_;kd_p;have ea:(aw.map λx=>Standbook.sound x.1).all id=aw.all λx=>Standbook.sound x.1:=by rw[acZ];rfl
  rw[ea];refine dz 0063 0063
  ·kd_p;have k':=k H1 s1;rw[show({Standbook.empty with orders:=aw,rows:=rows,next:=next}:Table).orders=aw from rfl,q] at k';simpa using k'
  ·have e2:(({Standbook.empty with orders:=aw,rows:=rows,next:=next}:Table).orders.all λx=>Standbook.sound x.1)=true:=q;rw[e2] at k;simp only[abQ] at k;kd_p;refine ay (s1 _ _ h1) T.ak T.bg jt ?_;kd_p;refine cw (λq2=>?_) (λq2=>?_)
   ·kd_p;have e3:decide (1<=next)=false:=aal 03;rw[e3] at k;simp only[abA] at k;exact k H1 s1
   ·rw[aaj (show 1<=next by omega)] at k;kd_p;refine ay (s1 _ _ h1) T.ak T.bg jt ?_;kd_p;refine cw 0077 0077
    ·kd_p;have e3:decide (next<=2147483648)=false:=aal 03;rw[e3] at k;simp only[abQ,abA] at k;exact k H1 s1
    ·rw[aaj (show next<=2147483648 by omega)] at k;simp only[abQ] at k;kd_p;have hd1:=s1 _ _ hd;have hkl:kvs.length<=256:=by rw[aaY hrel,hp.length_eq];exact hrl
     refine Jg hd1 trivial λod'=>?_;have ntd:t≠d:=cv h1 hd 010;have t2:upd H1 d (.bK od' 029) t=some (.ins A.cT dx (fT d (next:Nat) ol cd ml ch)):=by rw[aj ntd];exact s1 _ _ h1
     kd_p;refine ay t2 T.ak T.aP cA ?_;refine LO (o:=od') (kvs:=kvs) (λH y kv=>∃n:Nat,kv.1=Sum.inl (n:Int)/\y= .bl (decide (1<=n)&&decide (n<next))) (λ_ _ _ _ _ z=>z) (by rw[aaC];omega) ah (λi kv H3 Q3 hkv s3 q=>?_) (λD3 H3 ys hD3 s3 e3 r3=>?_)
     ·obtain⟨x,hx,hx1,_⟩:=km hrel hkv;obtain⟨kk,kv2⟩:=kv;subst hx1;have ekv:kV (((Sum.inl (x.1:Int):Key),kv2):Key×V).1=V.int (x.1:Int):=rfl;rw[ekv];kd_p;have key:∀b:Bool,b=(decide (1<=x.1)&&decide (x.1<next))->Q3 (.bl b) H3:=λb hb=>q H3 _ 042 ⟨x.1,rfl,by rw[hb]⟩;by_cases z1:1<=x.1
      ·rw[aaj (show(1:Int)<=(x.1:Int) by omega)];refine cD ?_;kd_p;refine ay (s3 _ _ t2) T.ak T.bg jt ?_;kd_p;refine key _ ?_;rw[aaj z1,abQ];exact aa2.mpr 03
      ·rw[aal (show¬(1:Int)<=(x.1:Int) by omega)];refine df (key _ ?_);rw[aal z1,abA]
     ·refine⟨s3 _ _ ah,?_⟩
      have sH:au H (upd H3 d 029):=λq ob e=>by
       by_cases hb:q=d
       ·subst hb;rw[hd] at e;cases e;exact ah
       ·rw[aj hb];refine s3 _ _ ?_;rw[aj hb];exact s1 _ _ e
      have nDd:D3≠d:=λe=>by rw[e,ah] at hD3;cases hD3
      have hys:ys=(rs.map λx=>decide (1<=x.1)&&decide (x.1<next)).map V.bl:=by
       have key:∀{ys:0012} {kvs':031} {rs':Rows},Paired (λy (kv:Key×V)=>∃n:Nat,kv.1=Sum.inl (n:Int)/\y= .bl (decide (1<=n)&&decide (n<next))) ys kvs'->Paired (eX K H) kvs' rs'->ys=(rs'.map λx=>decide (1<=x.1)&&decide (x.1<next)).map V.bl:=by
        intro ys kvs' rs' r
        induction r generalizing rs' with
        |nil=>intro q;cases q;rfl
        |cons r t ih=>
         intro q
         cases q with
         | @cons _ x' _ xs' q1 q2=>
           obtain⟨n,f1,f2⟩:=r;have e3:=q1.1;rw[f1] at e3;have e4:n=x'.1:=ab1 (aci e3);rw[ih q2,f2,e4];rfl
       exact key r3 hrel
      kd_p;refine uB (rs.map λx=>decide (1<=x.1)&&decide (x.1<next)) (ax.of ?_) ?_
      ·rw[aj nDd,e3,hys]
      ·have ea2:(rs.map λx=>decide (1<=x.1)&&decide (x.1<next)).all id=rows.all λx=>decide (1<=x.1)&&decide (x.1<next):=by
        rw[acZ,<-KL hp];rfl
       rw[ea2];exact k _ sH
def wj(T:049)(b:032):TZ:=match Standbook.tableIn b with
 |none=>(T,-6)
 |some u=>(u,0)
inductive FW(K:05)(A:aQ)(vs:0012)(H:Hp)(Q:VK)(E:XK):Prop
 |mk(t r:Addr)(L:Lay)(T:049)(b:032)(_:vs=[.ref t,.ref r])(_:012)(_:H r=some (.lst (nV (bN b))))(_:b.length<=20000)(_:∀H' L',TabAt K A H' t L' (wj T b).1->Fr t H L H' L'->Q (.int (wj T b).2) H')
theorem yP:∀(n:Nat) (b:032),∀x∈SM.cH n b,x.1.length<=20000
 |0,b,x,h=>by cases h
 |n+1,b,x,h=>by
  rcases aao.mp h with rfl|h
  ·show(((b.take 4).map UInt8.toNat).filter _).length<=20000;refine aa8 (acF _ _) ?_;rw[aaa,aaH];omega
  ·exact yP n (b.drop 5) x h
def LJ(T:049)(g:SM.Good T.rows):(T.orders.map λx=>x.2&& !decide ((SM.aO x.1 T.rows).map (·.1)).Nodup).any id= !SM.jH T:=by
 unfold SM.jH;rw[aeR,aeQ]
 congr 1
 funext x
 show(x.2&& !decide ((SM.aO x.1 T.rows).map (·.1)).Nodup)=(x.2&&Standbook.twins x.1 T.rows);have tw:=SM.yN (o:=x.1) g
 cases e:Standbook.twins x.1 T.rows with
 |false=>rw[aaj (tw.mp e)];rfl
 |true=>rw[aal λz=>by rw[tw.mpr z] at e;cases e];rfl
def Ky(b c:032):decide ((bN b).map (λ(n:Nat)=>(n:Int))=(bN c).map λ(n:Nat)=>(n:Int))=decide (b=c):=by
 refine aa2.mpr ⟨λh=>?_,λh=>by rw[h]⟩
 have h2:bN b=bN c:=by
  have:=aby (List.map Int.toNat) h;rw[aaN,aaN] at this;have id1:(Int.toNat∘λ(n:Nat)=>(n:Int))=id:=by funext n;exact aa0 n
  rw[id1,adt,adt] at this;exact this
 unfold bN at h2;have h3:=aby (List.map UInt8.ofNat) h2;rw[aaN,aaN] at h3;have id2:(UInt8.ofNat∘UInt8.toNat)=id:=by funext n;exact UInt8.ofNat_toNat
 rw[id2,adt,adt] at h3;exact h3
def Ah(T:006):000 7 "load_table" ["table","octets"] (FW K A):=by
 refine T.B_.ok jN 02;obtain⟨t,r,L,T',b,rfl,ht,hr0,hbl,k⟩:=h;have hr1:ax K H r (nV (bN b)):=ax.of hr0;sleep 06;unfold wj at k;rw[SM.G4] at k
 have no:¬(SM.iO b=true/\SM.gH (SM.aW b)=true/\(SM.aW b).bytes=b/\SM.jH (SM.aW b)=true)->∀H',au H H'->Q (.int (-6)) H':=λhn H' s'=>by
  rw[aan hn] at k;exact k H' L (ht.same s') (Fr.same s')
 refine gx _ (ae (aU (bT (br (aS (rX T) 01 rfl 0096))) (af (ai (aD T.qP rfl))) aE) (ae (aB (i:=2) jN.nd rfl 001 (aS (Ao T) 01 rfl (aa (xM (zf T) 01 rfl 0096) ab))) (ae (aU (PW.pt (gq (bT (br (aS (tL T) 01 rfl 0023))) (gz (a9 (Rp (K:=K) rfl hr.units) (aS (om T) 01 rfl 0023) 014 077)))) (af (ai (aD T.qP rfl))) aE) (ae (bp (bf 034 (lh T) 01)) (ae (aU (br (aI (L6 (K:=K) rfl rfl) rfl T.Ma IP (aa (gB (own:=[("order",3)]) rfl jN.nd (c8 (K:=K) rfl 0058) (c_ (by show gP ["table","octets","loaded","order"] (ag (top 91)) _ _=true;decide+kernel)) (λ_ _ _ _ _=>bC (i:=3) jN.nd rfl 001 0044) 067 (λ_ _ _ _ _=>(sg (aq (K:=K) rfl 072 rfl) (pT (bf 072 (jM T) 01))))) ab))) (af (ai (aD T.qP rfl))) aE) (ae (bp (bE 0094 (v7 T) 01 0023)) (af (ai aA)))))))) ?_;kd_p;refine⟨r,b,rfl,hr1,λH1 s1=>?_⟩;kd_p;refine dz (λq1=>?_) (λq1=>?_)
 ·kd_p;exact no (λz=>by rw[q1] at z;cases z.1) H1 s1
 kd_p;intro x dxx hx hdx hne;refine⟨x,dxx,r,rfl,ah,λH2 k2 Cq=>0091⟩;have s12:au H1 H2:=iB hx hdx k2;have s2:=s1.trans s12;kd_p;have hxH:H x=none:=s1.free hx;have hrx:r≠x:=aG hr0 hxH;refine⟨x,r,b,rfl,Cq,s2.seq hr1,hrx,q1,λH3 t2 dx2 d2 ol2 cd2 ml2 os R hrows=>?_⟩;have s3:au H H3:=λq o e=>R.kp.keep q o (s2 _ _ e) λz=>by rw[aT z,hxH] at e;cases e
 have fresh:∀{q:Addr},H2 q=none->H q=none:=λhq=>s2.free hq;have hlk:=q1;unfold SM.iO at hlk;simp only[aak,abN] at hlk
 have iU:(SM.aW b).orders.length<=6:=by
  show(SM.cH _ _).length<=6;rw[SM.pB];exact hlk.1.1.2
 have hrl:(SM.aW b).rows.length<=256:=by
  show(SM.mY (SM.dictOf (SM.ka b))).length<=256;rw[(SM.jr _).length_eq];refine aa8 (SM.CH _) ?_;unfold SM.ka;rw[SM.m5];exact hlk.1.2
 kd_p;refine⟨t2,dx2,d2,ol2,cd2,ml2,(SM.aW b).next,0,os,(SM.aW b).orders,(SM.aW b).rows,rfl,R.obj,R.jA,yP _ _,iU,hrows,hrl,λH4 s34=>?_⟩;have epar:SM.gH {Standbook.empty with orders:=(SM.aW b).orders,rows:=(SM.aW b).rows,next:=(SM.aW b).next}=SM.gH (SM.aW b):=rfl;rw[epar];have s4:=s3.trans s34;kd_p;sleep 038
 ·kd_p;exact no (λz=>by rw[q2] at z;cases z.2.1) H4 s4
 obtain⟨p1,p2,p3⟩:=SM.mB.mp q2;have hrw:∀y∈(SM.aW b).rows,Standbook.isRow y.2=true:=λy hy=>(SM.wH hy).2;have hwt:WT K A H4 t2 os (SM.aW b).orders (SM.aW b).rows (SM.aW b).next:=⟨⟨dx2,d2,ol2,cd2,ml2,0,s34 _ _ R.obj,R.jA.same s34,hrows.same s34⟩,p1,iU,hrl,SM.uz b,hrw⟩;kd_p;refine⟨t2,os,_,_,_,rfl,hwt,λH5 l5 n5=>?_⟩;have n5:sj H4 H5 l5 (SM.aW b).bytes:=n5;obtain⟨s45,hl5,e5⟩:=n5;have s5:=s4.trans s45;kd_p;have er5:=s5.seq hr1;rw[Fy] at e5 er5;refine⟨l5,r,_,_,rfl,rfl,ax.of e5,er5,?_⟩;kd_p;rw[Ky];refine wB 0077 0077
 ·kd_p;exact no (λz=>q3 z.2.2.1) H5 s5
 have s35:=s34.trans s45;kd_p;refine aF (s35 _ _ R.obj) (iw 07) ?_;kd_p;have good:SM.Good (SM.aW b).rows:=⟨(SM.uz b).imp λ{a b} q e=>by omega⟩;refine⟨t2,dx2,d2,ol2,cd2,ml2,_,0,os,_,(SM.aW b).rows,rfl,s35 _ _ R.obj,R.jA.same s35,R.zo,R.CJ,p1,hrows.same s35,good,hrw,hrl,λH6 ps k6 psn psf o6=>?_⟩;have osH:∀o∈os,H o=none:=λo ho=>fresh (R.v8 o ho);have s6:au H H6:=λq o e=>k6.keep q o (s5 _ _ e) λz=>by rw[osH q z] at e;cases e
 have lo6:=o6.lo;have lp6:=o6.lp
 have hos6:∀{o:Addr},o∈os->∃dxo c p u,H6 o=some (.ins A.cO dxo (fO c p u)):=λ{o} ho=>by
  obtain⟨j,hj⟩:=aas.mp ho;obtain⟨hjl,_⟩:=aad.mp hj;obtain⟨dxo,c,q,_⟩:=(o6.at_ j o _ _ hj 0093 0093).obj;exact⟨dxo,c,_,_,q⟩
 have t26:=k6.keep _ _ (s35 _ _ R.obj) R.CJ;obtain⟨kvs,rs,hd2,hperm,hrel⟩:=hrows.same s35
 have hd26:=k6.keep _ _ hd2 λz=>by
  obtain⟨_,_,_,_,q⟩:=hos6 z;obtain⟨j,hj⟩:=aas.mp z;obtain⟨hjl,_⟩:=aad.mp hj;have lo5:=(R.jA.same s35).lo;obtain⟨p',⟨dx',c',q1,q2⟩⟩:=(R.jA.same s35).at_ j d2 _ hj 0093;rw[hd2] at q1;cases q1
 kd_p;refine ay t26 T.ak T.aJ bA ?_;kd_p;refine jS (((SM.aW b).orders.map λx=>x.2&& !decide ((SM.aO x.1 (SM.aW b).rows).map (·.1)).Nodup).map V.bl) (ax.of o6.lst) (by rw[aaa,aaa,aaa,lo6]) (by rw[aaa,lo6,aaC];omega) (λi y z H7 Q7 hy hz s7 q=>?_) λD H7 hD s67 e7=>?_
 ·rw[aai] at hy;obtain⟨o,eo,rfl⟩:=aaI.mp hy;obtain⟨hil,_⟩:=aad.mp eo;have ey:(SM.aW b).orders[i]? =some (SM.aW b).orders[i]:=aab 03;have ep:ps[i]? =some ps[i]:=aab 03;rw[iE (g:=λx:Order×Bool=>x.2&& !decide ((SM.aO x.1 (SM.aW b).rows).map (·.1)).Nodup) ey hz] at q;have oa:=(o6.at_ i o _ _ eo ep ey).kp (S:=[]) (Kp.same s7) 017 017;obtain⟨dxo,c,q1,q2⟩:=oa.obj;kd_p;refine ay q1 T.cg T.gY oN ?_;kd_p;refine jf (λz1=>?_) (λz1=>?_)
  ·kd_p;refine aF q1 (eO 07) ?_;kd_p;refine⟨o,_,_,_,_,rfl,⟨dxo,c,q1,q2⟩,oa.aO,by rw[SM.lN];exact hrl,λH8 s8=>?_⟩;rw[z1,abQ] at q;exact q H8 s8
  ·rw[z1,abA] at q;exact q H7 042
 ·kd_p;refine LP _ (ax.of e7) ?_;rw[LJ _ good];kd_p;have s7:=s6.trans s67;refine dz (λq4=>?_) (λq4=>?_)
  ·kd_p;exact no (λz=>by rw[q4] at z;cases z.2.2.2) H7 s7
  kd_p;rw[aav ⟨q1,q2,q3,q4⟩] at k;refine aF (s7 _ _ h1) (iw 07) ?_;kd_p;have t2H:H t2=none:=fresh R.nt;have tt2:t≠t2:=λz=>by rw[<-z,h1] at t2H;cases t2H
  refine⟨t,dx,_,_,_,_,t2,dx2,d2,ol2,cd2,ml2,_,_,_,_,rfl,tt2,s7 _ _ h1,s67 _ _ t26,λH8 cd' ml' k8 hcd' hml' hcm t8 ecd eml=>?_⟩;kd_p;have d2H:H d2=none:=fresh R.nd;have olH:H ol2=none:=fresh R.rB;have psH:∀p∈ps,H p=none:=λp hp=>s5.free (psf p hp);have cdH:H cd'=none:=s7.free hcd';have mlH:H ml'=none:=s7.free hml';have nt:∀{q:Addr},H q=none->q≠t:=λhq z=>by rw[z,h1] at hq;cases hq
  have n7:∀{q q':Addr} {o:HO},H7 q=some o->H7 q'=none->q≠q':=λh h'=>aG h h';have d7:=s67 _ _ hd26;have ol7:=s67 _ _ o6.lst
  have o7:∀{o:Addr},o∈os->∃dxo c p u,H7 o=some (.ins A.cO dxo (fO c p u)):=λho=>by
   obtain⟨dxo,c,p,u,q⟩:=hos6 ho;exact⟨dxo,c,p,u,s67 _ _ q⟩
  have p7:∀{p:Addr},p∈ps->∃xs,H7 p=some 0090:=λ{p} hp=>by
   obtain⟨j,hj⟩:=aas.mp hp;obtain⟨hjl,_⟩:=aad.mp hj;obtain⟨as,q,_⟩:=(o6.at_ j _ p _ 0093 hj 0093).aO;exact⟨_,s67 _ _ q⟩
  have kp8:Kp [t] H H8:=(Kp.same s7).trans k8
  have apt:Apart ⟨d2,ol2,cd',ml',os,ps,[],[]⟩ t:=by
   refine⟨R.zo,psn,ab5,ab5,ab5,?_,λo ho=>⟨?_,λz=>?_,0104,0104,0104⟩,λp hp=>⟨?_,λz=>?_,0104,0104,0104⟩,0104,0104,0104⟩
   ·have a1:t≠d2:=abl (nt d2H);have a2:t≠ol2:=abl (nt olH);have a3:t≠cd':=abl (nt cdH);have a4:t≠ml':=abl (nt mlH);have b1:d2≠ol2:=cv d7 ol7 010;have b2:d2≠cd':=n7 d7 hcd';have b3:d2≠ml':=n7 d7 hml';have b4:ol2≠cd':=n7 ol7 hcd';have b5:ol2≠ml':=n7 ol7 hml';simp[a1,a2,a3,a4,b1,b2,b3,b4,b5,hcm]
   ·obtain⟨dxo,c,p,u,q⟩:=o7 ho;have a1:=nt (osH o ho);have a2:o≠d2:=cv q d7 010;have a3:o≠ol2:=cv q ol7 010;have a4:o≠cd':=n7 q hcd';have a5:o≠ml':=n7 q hml';simp[a1,a2,a3,a4,a5]
   ·obtain⟨dxo,c,p,u,q⟩:=o7 ho;obtain⟨xs,q'⟩:=p7 z;rw[q] at q';cases q'
   ·obtain⟨xs,q⟩:=p7 hp;have a1:=nt (psH p hp);have a2:p≠d2:=cv q d7 010
    have a3:p≠ol2:=λz=>by
     have:=psf p hp;rw[z,(R.jA.same s35).lst] at this;cases this
    have a4:p≠cd':=n7 q hcd';have a5:p≠ml':=n7 q hml';simp[a1,a2,a3,a4,a5]
   ·obtain⟨dxo,c,p',u,q⟩:=o7 z;obtain⟨xs,q'⟩:=p7 hp;rw[q] at q';cases q'
  have nt1:∀{q:Addr},H q=none->q∉[t]:=λhq z=>nt hq 0084;refine k H8 ⟨d2,ol2,cd',ml',os,ps,[],[]⟩ ?_ ⟨kp8.mono λq hq=>by rw[aT hq];exact Lay.pP,λq hq=>?_⟩
  ·refine⟨SM.NQ q1 q2,⟨dx,0,t8,λz=>absurd rfl z⟩,?_,?_,⟨ecd,ab5,λn=>?_,λn c cu z=>by cases z⟩,⟨eml,.nil⟩,apt.nodup⟩
   ·exact⟨kvs,rs,k8.keep _ _ d7 (nt1 d2H),hperm,L2.Paired.jE hrel λ_ _ y=>eX.kp (k6.trans (Kp.same s67) |>.mono (S':=t::os) (λq hq=>aag _ hq) |>.trans (k8.mono λq hq=>by rw[aT hq];exact aae)) y⟩
   ·exact(o6.kp (S:=[]) (Kp.same s67) 017 017 017).kp k8 (nt1 olH) (λo ho=>nt1 (osH o ho)) (λp hp=>nt1 (psH p hp))
   ·have e:(SM.aW b).cursor n=none:=by
     unfold Standbook.Table.cursor;show((List.replicate Standbook.CURSORS none)[n]?).join=none;rw[ade]
     split<;>rfl
    rw[e];exact⟨λz=>(by cases z),λz=>(by cases z)⟩
  ·rw[jn] at hq;rcases hq with z|z|z|z|z|z
   ·simp at z;rcases z with z|z|z|z|z
    ·subst z;exact .inl Lay.pP
    ·subst z;exact .inr d2H
    ·subst z;exact .inr olH
    ·subst z;exact .inr cdH
    ·subst z;exact .inr mlH
   ·exact .inr (osH q z)
   ·exact .inr (psH q z)
   ·simp at z
   ·simp at z
   ·simp at z
end Bk
section
namespace L2
open PySem PySem.Spec PyProof.Rows
def I_{t:TA}{σ:St}{H:Hp}{Q:VK}(h:t σ H λvs H1=>∃(n m:Nat),vs=[.int 0,.int n,.int 3]/\n=3*m/\n<=1000000/\∀q,H1 q=none->Q (.ref q) (upd H1 q (.lst ((List.range m).map λ(i:Nat)=>V.int (3*i:Nat))))):AY t σ H Q:=h
end L2
namespace Bk
open PySem PyProof.Rows L2
open Standbook (Order Rows Table Mark Cursor Spot Deed)
variable{P:027}{w:066}{K:05}{mg:005}{base:Heap}{A:aQ}
def pC(ns:015):Bool:=decide (ns.length%3=0)&&(List.range (ns.length / 3)).all λi=>decide (ns.getD (3*i) 0<=5)&&decide (ns.getD (3*i+1) 0<4)
def wb(ns:015):pC ns=true↔(ns.length%3=0/\∀i,i<ns.length / 3->ns.getD (3*i) 0<=5/\ns.getD (3*i+1) 0<4):=by
 unfold pC;simp only[aak,abN,aa3,adx]
def E6{ns:015}{j:Nat}(h:j<ns.length):(nV ns)[j]? =some (.int (ns.getD j 0:Nat)):=by
 unfold nV;rw[aai,aaF,aab h];rfl
inductive Jh(K:05)(vs:0012)(H:Hp)(Q:VK)(E:XK):Prop
 |mk(l:Addr)(ns:015)(_:vs=[.ref l])(_:ax K H l (nV ns))(_:0086)(_:∀H',au H H'->Q (.bl (pC ns)) H')
def BD(T:006):000 1 "are_deeds" ["numbers"] (Jh K):=by
 refine T.D9.ok kQ 02;obtain⟨l,ns,rfl,hl,hb,k⟩:=h;unfold pC at k;refine gx _ (ae (aU (a9 AD (bB Bz 0026 (aD T.jV rfl)) aA 077) (af (ai m4)) aE) (ae (aB (i:=1) kQ.nd rfl 001 (AQ (K:=K) rfl rfl rfl rfl T.pY T.ng (aa aA (aa 0026 (aa (aD T.jV rfl) ab))))) (af (ai (aI (qG (K:=K) rfl rfl) rfl T.qB nX (aa (gB (own:=[("start",2)]) rfl kQ.nd (c8 (K:=K) rfl 014) (c_ (by show gP ["numbers","starts","start"] (ag (top 101)) _ _=true;decide+kernel)) (λ_ _ _ _ _=>bC (i:=2) kQ.nd rfl 001 0044) 067 (λ_ _ _ _ _=>(sg (ee jP (cj 043 0094 034 019) (aD T.L_ rfl) 077) (pT (ee ij (cj 043 0094 (bB gh 034 aA) 019) (aD T.iK rfl) 077))))) ab)))))) ?_;kd_p;refine cf (.inl hl) ?_;rw[aR];kd_p;refine pM 0010 ?_;kd_p;by_cases q:ns.length%3=0
 ·have e:(!decide (((ns.length:Nat):Int)%3=0))=false:=by rw[aaj 03];rfl
  rw[e];rw[aaj q] at k;simp only[abQ] at k;refine df (ba ?_);kd_p;refine I_ ?_;kd_p;refine cf (.inl hl) ?_;rw[aR];kd_p;refine⟨ns.length,ns.length / 3,rfl,0018,0018,λD hD=>?_⟩;have s1:au H (upd H D 078):=.new hD;have e1:upd H D 078 D=some 078:=ah;generalize upd H D 078=H1 at s1 e1⊢;kd_p;refine jS (((List.range (ns.length / 3)).map λi=>decide (ns.getD (3*i) 0<=5)&&decide (ns.getD (3*i+1) 0<4)).map V.bl) (ax.of e1) (by rw[aaa,aaa,aaa]) (by rw[aaa,abe,aaC];omega) (λi x y H2 Q2 hx hy s2 q2=>?_) λD2 H2 _ s2 e2=>?_
  ·rw[aai] at hx;obtain⟨j,hj,rfl⟩:=aaI.mp hx;rw[iE (g:=λi=>decide (ns.getD (3*i) 0<=5)&&decide (ns.getD (3*i+1) 0<4)) hj hy] at q2;obtain⟨hjl,ej⟩:=aad.mp hj;rw[abe] at hjl;rw[ad6] at ej;subst ej;kd_p;refine eT ((s1.trans s2).seq hl) (E6 03) ?_;kd_p;by_cases z1:ns.getD (3*i) 0<=5
   ·rw[aaj z1,abQ] at q2;rw[aaj (show((ns.getD (3*i) 0:Nat):Int)<=5 by omega)];refine cD ?_;kd_p;have e3:((3*i:Nat):Int)+1=((3*i+1:Nat):Int):=by omega
    rw[e3];refine eT ((s1.trans s2).seq hl) (E6 03) ?_;kd_p;have e4:decide (((ns.getD (3*i+1) 0:Nat):Int)<4)=decide (ns.getD (3*i+1) 0<4):=aa2.mpr 03;rw[e4];exact q2 _ 042
   ·rw[aal z1,abA] at q2;rw[aal (show¬((ns.getD (3*i) 0:Nat):Int)<=5 by omega)];exact df (q2 _ 042)
  ·kd_p;refine uB _ (ax.of e2) ?_;rw[acZ];exact k H2 (s1.trans s2)
 ·have e:(!decide (((ns.length:Nat):Int)%3=0))=true:=by rw[aal 03];rfl
  rw[e];rw[aal q] at k;simp only[abA] at k;refine cD ?_;kd_p;exact k H 042
def Dl(ns:015)(i:Nat):List Nat:=[ns.getD (3*i) 0,ns.getD (3*i+1) 0,ns.getD (3*i+2) 0]
inductive vY(K:05)(vs:0012)(H:Hp)(Q:VK)(E:XK):Prop
 |mk(l:Addr)(ns:015)(i:Nat)(_:vs=[.ref l,.int i])(_:ax K H l (nV ns))(_:ns.length%3=0)(_:∀H' p,au H H'->H p=none->H' p=some (.lst (nV (Dl ns i)))->Q (.ref p) H')
def HE(T:006):000 1 "deed_of" ["deeds","position"] (vY K):=by
 refine T.JH.ok wq 02;obtain⟨l,ns,i,rfl,hl,hm,k⟩:=h;refine gx _ (ae (aB (i:=2) wq.nd rfl 001 (bB qg 014 (aD T.jV rfl))) (ae (aU (a9 qD 034 0026 077) (af (ai (bu (aa (aD T.JY rfl) (aa aA (aa aA ab)))))) aE) (af (ai (lx (ko (K:=K) rfl) 0094 (gR 034) (gR (bB gh 034 (aD T.jV rfl)))))))) ?_;kd_p;refine pM (.inr 075) ?_;kd_p;refine cf (.inl hl) ?_;rw[aR];kd_p;sleep 018
 ·kd_p;refine⟨by rw[aaC];show 3<=_;decide,λp hp=>k _ p (.new hp) hp ?_⟩;rw[ah];unfold Dl;have z:∀j,ns.length<=j->ns.getD j 0=0:=λj hj=>by rw[aaF,aaS hj];rfl
  rw[z _ 03,z _ 03,z _ 03];rfl
 ·kd_p;have em:(i:Int)*3=((3*i:Nat):Int):=by omega
  rw[em];refine⟨l,_,rfl,hl,λp hp=>k _ p (.new hp) hp ?_⟩;have ec:lL (nV ns) (some ((3*i:Nat):Int)) (some (((3*i:Nat):Int)+3))=nV ((ns.drop (3*i)).take 3):=Fl ns (3*i) 3;rw[ah,ec]
  congr 2
  unfold Dl;have hlt:3*i+2<ns.length:=by omega
  congr 1
  have g:∀j,(h:j<ns.length)->ns.getD j 0=ns[j]:=λj h=>by rw[aaF,aab h];rfl
  rw[g _ 03,g _ 03,g _ hlt,abg 03,abg 03,abg 03];rfl
def ID{r:0017}(h:Standbook.isRow r=true)(f:Nat){x:Nat}(hx:0050):Standbook.isRow (r.set f x)=true:=by
 unfold Standbook.isRow at h⊢;simp only[aak,aa3] at h⊢;refine⟨by rw[ab7];exact h.1,λy hy=>?_⟩;rcases aeb hy with z|z
 ·exact h.2 y z
 ·subst z;exact aaj hx
inductive FT(K:05)(A:aQ)(vs:0012)(H:Hp)(Q:VK)(E:XK):Prop
 |mk(t l:Addr)(L:Lay)(T:049)(n:Nat)(r:0017)(d f x:Nat)(dd:Deed)(_:vs=[.ref t,.int n,.ref l])(_:012)(_:T.row n=some r)(_:ax K H l (nV [d,f,x]))(_:Standbook.deedOf d f x=some dd)(_:∀H' L',TabAt K A H' t L' (dd.on T n r)->Fr t H L H' L'->L'.os=L.os->Q .bS H')
def GO(T:006):000 10 "do_deed" ["table","number","deed"] (FT K A):=by
 refine T.Im.ok qL 02;obtain⟨t,l,L,T',n,r,d,f,x,dd,rfl,ht,hrow,hl,hdd,k⟩:=h;sleep 06
 have hx64:x<18446744073709551616/\f<4:=by
  unfold Standbook.deedOf at hdd;by_cases z:3<f\/Standbook.W<=x
  ·rw[aav z] at hdd;cases hdd
  ·have:Standbook.W=18446744073709551616:=by decide
   omega
 have hri:Standbook.isRow r=true:=(ht.wf.rows.row (n,r) (SM.gu hrow)).2.2;obtain⟨hr4,_⟩:=SM.hZ hri;obtain⟨kvs,rs,hd,hp,hrel⟩:=id ht.rows;obtain⟨ra,hv,hra⟩:=iz hrel 0051 (hp.mem_iff.mpr (SM.gu hrow));refine gx _ (ae (aB (i:=3) qL.nd rfl 001 (cj 043 034 aA 019)) (ae (aB (i:=4) qL.nd rfl 001 (fi (tE (K:=K) rfl) rfl T.pY xY (aa 0056 ab))) (ae (JI (cj 043 034 aA 019) (Jy (pv 4) (cj 043 034 aA 019) set_list)) (ae (aU (a9 fA 072 (aD T.OC rfl) 077) (af (bp (aS (ve T) 01 rfl (aa 0094 0096)))) aE) (ae (aU (a9 fA 072 (aD T.Qu rfl) 077) (af (bp (aS (vW T) 01 rfl (aa 0094 (aa 014 (aa (pv 4) ab)))))) aE) (ae (aU (a9 fA 072 (aD T.Rh rfl) 077) (af (bp (aS (vZ T) 01 rfl (aa 0094 (aa (pv 4) ab))))) aE) (af (aU (a9 fA 072 (aD T.P4 rfl) 077) (af (bp (aS (wm T) 01 rfl 040))) aE)))))))) ?_;kd_p;refine eT (j:=0) hl rfl ?_;kd_p;sleep 011;kd_p;refine iT hd hv ?_;kd_p;refine⟨ra,_,rfl,.inr hra,λC hC=>?_⟩;have s1:au H (upd H C (.lst (nV r))):=.new hC;have e1:upd H C (.lst (nV r)) C=some (.lst (nV r)):=ah;generalize upd H C (.lst (nV r))=H1 at s1 e1⊢;kd_p;refine eT (j:=2) (s1.seq hl) rfl ?_;refine HN ?_;kd_p;refine eT (j:=1) (s1.seq hl) rfl ?_;refine⟨C,_,_,f,rfl,rfl,e1,by unfold wZ;rw[aR,hr4,aav 03,aav 03,aa0],?_⟩;have es:(nV r).set f (.int (x:Nat))=nV (r.set f x):=by unfold nV;rw[List.map_set]
 rw[es];have s2:au H (upd H1 C (.lst (nV (r.set f x)))):=λq o e=>by rw[aj (aG e hC)];exact s1 _ _ e
 have e2:upd H1 C (.lst (nV (r.set f x))) C=some (.lst (nV (r.set f x))):=ah;generalize upd H1 C (.lst (nV (r.set f x)))=H2 at s2 e2⊢;have ht2:=ht.same s2;have hCn:C∉L.all t:=ht.iZ hC;have hset:Standbook.isRow (r.set f x)=true:=ID hri f hx64.1;have hlen:(r.set f x).length<=20000:=by rw[ab7];omega
 have lq:Fr t H L H2 L:=Fr.same s2;have eqd:∀c:Nat,decide (((d:Nat):Int)=(c:Nat))=decide (d=c):=λc=>aa2.mpr 03
 have ne:∀{c:Nat} {X Y:Prop},d≠c->Y->if decide (((d:Nat):Int)=(c:Nat))=true then X else Y:=λhc y=>by
  rw[aal 03];exact df y
 have ye:∀{c:Nat} {X Y:Prop},d=c->X->if decide (((d:Nat):Int)=(c:Nat))=true then X else Y:=λhc y=>by
  rw[aaj 03];exact cD y
 unfold Standbook.deedOf at hdd;have hW:Standbook.W=18446744073709551616:=by decide
 rw[aan 03] at hdd
 match d,hdd with
 |0,hdd=>
  sleep 051;kd_p;refine ne (c:=3) 0010 (ba ?_);kd_p;refine ne (c:=4) 0010 (ba ?_);exact k H2 L ht2 lq rfl
 |1,hdd=>
  cases aac hdd;kd_p;refine ye (c:=1) rfl ?_;kd_p;refine⟨t,L,T',n,rfl,ht2,λH3 L3 ht3 fr3 eo=>?_⟩;kd_p;refine ne (c:=2) 0010 (ba ?_);kd_p;refine ne (c:=3) 0010 (ba ?_);kd_p;refine ne (c:=4) 0010 (ba ?_);exact k H3 L3 ht3 (lq.trans fr3) eo
 |2,hdd=>
  cases aac hdd;kd_p;refine ne (c:=1) 0010 (ba ?_);kd_p;refine ye (c:=2) rfl ?_;kd_p;refine⟨t,C,L,T',n,r.set f x,rfl,ht2,ax.of e2,hCn,hlen,λH3 L3 ht3 fr3 eo=>?_⟩;rw[aav hset] at ht3;kd_p;refine ne (c:=3) 0010 (ba ?_);kd_p;refine ne (c:=4) 0010 (ba ?_);exact k H3 L3 ht3 (lq.trans fr3) eo
 |3,hdd=>
  sleep 051;kd_p;refine ye (c:=3) rfl ?_;kd_p;refine⟨t,C,L,T',r.set f x,rfl,ht2,ax.of e2,hCn,hlen,λH3 L3 ht3 fr3 eo=>?_⟩;rw[aav hset] at ht3;kd_p;refine ne (c:=4) 0010 (ba ?_);exact k H3 L3 ht3 (lq.trans fr3) eo
 |4,hdd=>
  sleep 051;kd_p;refine ne (c:=3) 0010 (ba ?_);kd_p;refine ye (c:=4) rfl ?_;kd_p;refine⟨t,L,T',rfl,ht2,λH3 L3 ht3 fr3 eo=>?_⟩;kd_p;exact k H3 L3 ht3 (lq.trans fr3) eo
 |5,hdd=>
  sleep 051;kd_p;refine ne (c:=3) 0010 (ba ?_);kd_p;refine ne (c:=4) 0010 (ba ?_);exact k H2 L ht2 lq rfl
 |n+6,hdd=>cases hdd
end Bk
end
namespace Bk
open PySem PyProof.Rows L2
open Standbook (Order Rows Table Mark Cursor Spot Deed)
variable{P:027}{w:066}{K:05}{mg:005}{base:Heap}{A:aQ}
def Ji(T:049)(n:Nat)(r:0017)(d:Deed):(d.on T n r).orders=T.orders:=by
 cases d with
 |nothing=>rfl
 |halt_=>rfl
 |take=>
  show(T.take n).1.orders=_;unfold Table.take
  split
  ·rfl
  ·split<;>rfl
 |set f x=>
  show(T.set n (r.set f x)).1.orders=_;unfold Table.set
  split
  ·rfl
  ·split
   ·rfl
   ·split<;>rfl
 |copy f x=>
  show(T.put (r.set f x)).1.orders=_;unfold Table.put
  split
  ·rfl
  ·split
   ·rfl
   ·split<;>rfl
 |back=>
  show T.back.1.orders=_;unfold Table.back
  split<;>rfl
def M4{T T':049}(h:T'.orders=T.orders)(k:Nat):T'.spec k=T.spec k:=by
 unfold Table.spec;rw[h]
def MX{o:0087}{r to:0017}{n:Nat}(hn:1<=n):HP.a_ (SM.aC o to,0) (SM.aC o r,(n:Int))=decide (0<=Standbook.before o r to):=by
 have hb:=SM.wy o r to;unfold HP.a_;by_cases e:SM.aC o r=SM.aC o to
 ·rw[aav e] at hb;rw[aav e.symm,aaj (show(0:Int)<n by omega),aaj 03]
 ·rw[aan e] at hb;rw[aan λz=>e z.symm];show HX.lexLt (SM.aC o to) (SM.aC o r)=_;by_cases l:HX.lexLt (SM.aC o r) (SM.aC o to)=true
  ·rw[aav l] at hb;rw[HP.BR l,aal 03]
  ·rw[aan l] at hb;rw[aaj 03]
   cases z:HX.lexLt (SM.aC o to) (SM.aC o r) with
   |true=>rfl
   |false=>exact absurd (HP.uC _ _ (by simpa using l) z) e
def MP{o:0087}{to:0017}(ho:Standbook.sound o=true)(hr:Standbook.isRow to=true):HP.a_ (SM.aC o to,0) ([18446744073709551616],0)=true:=by
 obtain⟨h1,h2⟩:=SM.E2 (SM.Fx ho hr) (SM.xR ho to);unfold HP.a_;rw[aan h2];exact h1
def Fr.put{t D:Addr}{H H1 H2:Hp}{L L1:Lay}(f:Fr t H L H1 L1)(k:Kp [D] H1 H2)(hD:H D=none):Fr t H L H2 L1 where
 kp:={
  keep:=λc o e hc=>k.keep _ _ (f.kp.keep c o e hc) λz=>by rw[aT z,hD] at e;cases e
  fP:=λc xs e=>k.fP _ _ (f.kp.fP _ _ e)
  eM:=λc o u e=>k.eM _ _ _ (f.kp.eM _ _ _ e)}
 new:=f.new
def Mr(t:Addr)(H:Hp)(L:Lay)(l:Addr):Prop:=∀b o,H b=some o->b∉L.all t->l≠b
def Mr.of{t:Addr}{H:Hp}{L:Lay}{l:Addr}(h:H l=none):Mr t H L l:=λb o e _ z=>by rw[<-z,h] at e;cases e
def walkZ(T:049)(k m:Nat)(a b dl:015):Table×List Int:=
 if Standbook.isRow a=false\/Standbook.isRow b=false\/1000<m then(T,[-1]) else match Standbook.deedsIn dl with
  |none=>(T,[-1])
  |some ds=>if T.has k=false then(T,[-2]) else((Table.walk k b m T (a,0) ds).2,Standbook.nats ((Table.walk k b m T (a,0) ds).1.length::(Table.walk k b m T (a,0) ds).1.map λ(x:020)=>x.1))
inductive Ft(K:05)(A:aQ)(vs:0012)(H:Hp)(Q:VK)(E:XK):Prop
 |mk(t r1 r2 r3:Addr)(L:Lay)(T:049)(k m:Nat)(a b dl:015)(_:vs=[.ref t,.int k,.int m,.ref r1,.ref r2,.ref r3])(_:012)(_:ax K H r1 (nV a))(_:a.length<=20000)(_:ax K H r2 (nV b))(_:b.length<=20000)(_:H r3=some (.lst (nV dl)))(_:r3∉L.all t)(_:dl.length<=20000)(_:(∀x∈dl,x<18446744073709551616))(_:∀H' L' l,TabAt K A H' t L' (walkZ T k m a b dl).1->Fr t H L H' L'->Mr t H L l->H' l=some (.lst (zV (walkZ T k m a b dl).2))->Q (.ref l) H')
def AR(T:006):000 11 "walk_rows" ["table","k","most","first","end","deeds"] (Ft K A):=by
 refine T.Eu.ok gK 02;obtain⟨t,r1,r2,r3,L,T',k,m,a,b,dl,rfl,ht,h1,l1,h2,l2,h3,hn3,l3,hdl,kk⟩:=h;obtain⟨dx,ch,hobj,hch⟩:=ht.obj
 have fN:(Standbook.isRow a=false\/Standbook.isRow b=false\/1000<m\/pC dl=false)->∀H',au H H'->[V.int (-1)].length<=sizeLine/\∀p,H' p=none->Q (.ref p) (upd H' p (.lst [V.int (-1)])):=λhn H' s'=>by
  have e:walkZ T' k m a b dl=(T',[-1]):=by
   unfold walkZ;by_cases z:Standbook.isRow a=false\/Standbook.isRow b=false\/1000<m
   ·rw[aav z]
   ·rw[aan z]
    have zd:pC dl=false:=by
     rcases hn with y|y|y|y
     ·exact absurd (.inl y) z
     ·exact absurd (.inr (.inl y)) z
     ·exact absurd (.inr (.inr y)) z
     ·exact y
    have:=(SM.w9 dl.length dl rfl hdl).2 λy=>by rw[(wb dl).mpr y] at zd;cases zd
    rw[this]
  rw[e] at kk;exact⟨one_le,λp hp=>kk _ L p ((ht.same s').same (.new hp)) (Fr.same (s'.trans (.new hp))) (.of (s'.free hp)) ah⟩
 refine gx _ (ae (aU (PW.pt (gq (a9 lQ 034 (aD T.Ek rfl) 077) (gq 0033 (gq (bT (br (aS (fk T) 01 rfl (aa (pv 4) ab)))) (gz (bT (br (aS (BD T) 01 rfl (aa (pv 5) ab))))))))) (af (ai (bu (aa (aD T.du rfl) ab)))) aE) (ae (aU (bT (br (bE 0094 (eF T) 01 0096))) (af (ai (bu (aa (aD T.iR rfl) ab)))) aE) (ae (aB (i:=6) gK.nd rfl 001 (cj 043 04 014 019)) (ae (aB (i:=7) gK.nd rfl 001 (bE (pv 6) (bM T) 01 (aa (aD T.jo rfl) (aa 072 ab)))) (ae (aB (i:=8) gK.nd rfl 001 (bE (pv 6) (bM T) 01 (aa (aD T.jo rfl) (aa (pv 4) ab)))) (ae (aB (i:=9) gK.nd rfl 001 (bu ab)) (ae (vp aa5 (a9 ij (aI 022 rfl T.bG bh (aa (pv 9) ab)) 034 077) (ae (aB (i:=7) gK.nd rfl 001 (bE (pv 6) (kg T) 01 (aa (pv 7) ab))) (ae (aU (a9 (QT (K:=K) rfl hr.units) (pv 7) (pv 8) 077) (af Cr) aE) (ae (aB (i:=10) gK.nd rfl 001 (aS (HE T) 01 rfl (aa (pv 5) (aa (aI 022 rfl T.bG bh (aa (pv 9) ab)) ab)))) (ae (bp (kW (K:=K) rfl aaJ abV abU lW (pv 9) (aa (cj 0039 (pv 7) aA 019) ab))) (ae (aU (a9 fA (cj 043 (pv 10) aA 019) (aD T.L_ rfl) 077) (af Cr) aE) (af (bp (aS (GO T) 01 rfl (aa 0094 (aa (cj 0039 (pv 7) aA 019) (aa (pv 10) ab)))))))))))) (af (ai (bB sU (bu (aa (aI 022 rfl T.bG bh (aa (pv 9) ab)) ab)) (pv 9))))))))))) ?_;kd_p;refine cw (λq1=>?_) (λq1=>?_)
 ·kd_p;exact fN (.inr (.inr (.inl 03))) H 042
 kd_p;refine⟨r1,a,rfl,h1,l1,λH1 s1=>?_⟩;kd_p;sleep 038
 ·kd_p;exact fN (.inl q2) H1 s1
 kd_p;refine⟨r2,b,rfl,s1.seq h2,l2,λH2 s12=>?_⟩;have s2:=s1.trans s12;kd_p;refine dz 0077 0077
 ·kd_p;exact fN (.inr (.inl q3)) H2 s2
 kd_p;refine⟨r3,dl,rfl,ax.of (s2 _ _ h3),l3,λH3 s23=>?_⟩;have s3:=s2.trans s23;kd_p;refine dz (λq4=>?_) (λq4=>?_)
 ·kd_p;exact fN (.inr (.inr (.inr q4))) H3 s3
 obtain⟨hm3,hdd⟩:=(wb dl).mp q4;obtain⟨ds,d1,d2,d3⟩:=(SM.w9 dl.length dl rfl hdl).1 ⟨hm3,hdd⟩;unfold walkZ at kk;rw[aan (by rw[q2,q3];simp;omega),d1] at kk;dsimp only at kk;kd_p;refine aF (s3 _ _ hobj) (iw 07) ?_;kd_p;refine⟨t,L,T',k,rfl,ht.same s3,?_⟩;kd_p;refine dz (λq5=>?_) (λq5=>?_)
 ·kd_p;rw[aav q5] at kk;exact⟨one_le,λp hp=>kk _ L p ((ht.same s3).same (.new hp)) (Fr.same (s3.trans (.new hp))) (.of (s3.free hp)) ah⟩
 rw[aan (by rw[q5];simp)] at kk;obtain⟨W,hW⟩:∃W,Table.walk k b m T' (a,0) ds=W:=⟨_,rfl⟩;rw[hW] at kk
 have hk:k<T'.orders.length:=by
  unfold Table.has at q5;exact aar q5
 have ht3:=ht.same s3;obtain⟨o,p,u,f1,f2,f3,hso,g⟩:=ht3.ord hk;obtain⟨dxo,co,ho1,ho2⟩:=id g.ob;kd_p;refine ay (s3 _ _ hobj) T.ak T.aJ bA ?_;kd_p;refine eT (j:=k) (ax.of ht3.aw.lst) (by rw[aai,f1];rfl) ?_;kd_p;refine aF ho1 (eO 07) ?_;kd_p;refine⟨o,p,r1,_,u,0,a,rfl,g.ob,g.gL,.inl (s3.seq h1),q2,λH4 pa s34 hpa=>?_⟩;have s4:=s3.trans s34;kd_p;refine aF (s34 _ _ ho1) (eO 07) ?_;kd_p;refine⟨o,p,r2,_,u,0,b,rfl,g.ob.same s34,g.gL,.inl (s4.seq h2),q3,λH5 pe s45 hpe=>?_⟩;have s5:=s4.trans s45;kd_p;refine⟨by rw[aaC];exact aaT _,λD hD=>?_⟩;have s56:au H5 (upd H5 D 0035):=.new hD;have e6:upd H5 D 0035 D=some 0035:=ah;have hDH:H D=none:=s5.free hD;generalize upd H5 D 0035=H6 at s56 e6⊢;have s6:=s5.trans s56;kd_p;have hD6:D∉L.all t:=ht.iZ hDH;have pa6:bo K H6 (.ref pa) (SM.aC 0049 a,0):=bo.same (s45.trans s56) hpa.at_;have pe6:bo K H6 (.ref pe) (SM.aC 0049 b,0):=bo.same s56 hpe.at_
 refine vK (λσ H'=>∃(tr:Rows) (Ti:049) (Li:Lay) (ri:0017) (ni:Nat) (pp:Addr) (z:Option V),σ=[some (.ref t),some (.int (k:Nat)),some (.int (m:Nat)),some (.ref r1),some (.ref r2),some (.ref r3),some (.ref o),some (.ref pp),some (.ref pe),some 0075,z]/\tr.length<=m/\TabAt K A H' t Li Ti/\Li.os[k]? =some o/\Ti.orders=T'.orders/\Fr t H L H' Li/\H' D=some (.lst (nV (tr.map (·.1))))/\D∉Li.all t/\bo K H' (.ref pp) (SM.aC 0049 ri,(ni:Int))/\bo K H' (.ref pe) (SM.aC 0049 b,0)/\W=(tr++(Table.walk k b (m-tr.length) Ti (ri,ni) (ds.drop tr.length)).1,(Table.walk k b (m-tr.length) Ti (ri,ni) (ds.drop tr.length)).2))
  (λ_ H'=>match H' D with|some (.lst xs)=>m-009|_=>0) ?_ ?_ ?_
 ·exact⟨[],T',L,a,0,pa,none,rfl,aaT _,ht.same s6,f1,rfl,Fr.same s6,e6,hD6,pa6,pe6,hW.symm⟩
 ·rintro σ H' ⟨tr,Ti,Li,ri,ni,pp,z,rfl,htr,hti,hoi,hor,hfr,eD,hDn,hpp,hpe',hw⟩;have hspec:Ti.spec k=T'.spec k:=M4 hor k
  have fin:∀{H8:Hp} {L8:Lay} {T8:049} {rr:Rows},TabAt K A H8 t L8 T8->Fr t H L H8 L8->H8 D=some (.lst (nV (rr.map (·.1))))->rr.length<=m->W=(rr,T8)->∀σ8:L2.St,σ8[9]? =some (some 0075)->
    yn (yI Hw (Km (jR (B8 (xQ K) (jR (kC 9) jC)) jC)) (kC 9)) 045 σ8 H8:=by
   intro H8 L8 T8 rr t8 fr8 e8 hrr w8 σ8 hσ;refine dv (fu (dy (cz (ft (cz (dq hσ (dj (cf (.inl (ax.of e8)) (dj ?_)))))))));refine⟨one_le,λp1 hp1=>dq hσ ?_⟩;rw[aR,aaa];refine⟨p1,D,_,_,rfl,rfl,ah,au.new hp1 _ _ e8,by rw[aR,aaa,aaC];show 1+_<=_;omega,λp2 hp2=>?_⟩;have s8:au H8 (upd (upd H8 p1 (.lst [V.int (rr.length:Nat)])) p2 (.lst ([V.int (rr.length:Nat)]++nV (rr.map (·.1))))):=(au.new hp1).trans (.new hp2);rw[w8] at kk;have hp2':H8 p2=none:=(au.new hp1).free hp2;refine kk _ L8 p2 (t8.same s8) (fr8.trans (Fr.same s8)) (λb o e hb z=>?_) ?_
   ·have:=fr8.kp.keep b o e hb;rw[<-z,hp2'] at this;cases this
   rw[ah,FF];rfl
  have hkl:k<Ti.orders.length:=by rw[hor];exact hk
  obtain⟨o',p',u',g1,g2,g3,g4,g'⟩:=hti.ord hkl;rw[hoi] at g1;obtain rfl:o=o':=aac g1;rw[hspec] at g' g4;obtain⟨dxo',co',ho1',ho2'⟩:=id g'.ob;kd_p;refine cf (.inl (ax.of eD)) ?_;rw[aR,aaa];kd_p;refine cw (λhlt=>?_) (λhlt=>?_)
  ·obtain⟨j,hj⟩:∃j,m-tr.length=j+1:=⟨m-tr.length-1,0018⟩;rw[hj] at hw;have haft:=SM.Ci hti.wf (k:=k) (by rw[hspec];exact hso) (.at_ ri ni);rw[hspec] at haft;have espot:SM.dA 0049 (.at_ ri ni)=(SM.aC 0049 ri,(ni:Int)):=rfl;rw[espot] at haft;unfold Table.walk at hw;kd_p;refine aF ho1' (eO 07) ?_;kd_p;refine⟨o,p',pp,_,u',_,_,rfl,g',hpp,λH7 a7 s7 h7=>?_⟩
   have epl:(SM.aO 0049 Ti.rows)[SM.cnt (SM.aO 0049 Ti.rows) (SM.aC 0049 ri,(ni:Int)+1)]? =(Ti.after k (.at_ ri ni)).map (SM.cZ 0049):=by
    rw[haft];show((SM.fy 0049 Ti.rows).map (SM.cZ 0049))[_]? =_;rw[aai]
   have h7:bo K H7 (.ref a7) (((SM.aO 0049 Ti.rows)[SM.cnt (SM.aO 0049 Ti.rows) (SM.aC 0049 ri,(ni:Int)+1)]?).getD ([18446744073709551616],0)):=h7;rw[epl] at h7;have pe7:=bo.same s7 hpe';have ht7:=hti.same s7;have fr7:Fr t H L H7 Li:=hfr.trans (Fr.same s7);have eD7:=s7 _ _ eD;kd_p;refine⟨_,_,h7,pe7,?_⟩;kd_p
   cases ea:Ti.after k (.at_ ri ni) with
   |none=>
    rw[ea] at hw;show if HP.a_ (SM.aC 0049 b,0) ([18446744073709551616],0)=true then _ else _
    rw[MP hso q3];refine cD (de ?_);dsimp only;exact fin ht7 fr7 eD7 htr (by rw[hw,aa7]) _ rfl
   |some x=>
    obtain⟨n,r⟩:=x;rw[ea] at hw h7;dsimp only at hw
    have hmem:(n,r)∈Ti.rows:=by
     have hx:=haft.symm.trans ea;exact(SM.cY _ _).mem_iff.mp (aap hx)
    have hrow:=hti.wf.rows.row (n,r) hmem;have hn1:1<=n:=hrow.1;have hTr:Ti.row n=some r:=SM.Nq hti.wf.rows.good hmem;show if HP.a_ (SM.aC 0049 b,0) (SM.aC 0049 r,(n:Int))=true then _ else _
    rw[MX hn1];rw[hspec] at hw;refine cw (λhbe=>?_) (λhbe=>?_)
    ·rw[aav hbe] at hw;refine de ?_;dsimp only;exact fin ht7 fr7 eD7 htr (by rw[hw,aa7]) _ rfl
    ·rw[aan hbe] at hw;refine ba ?_;kd_p;refine cf (.inl (ax.of eD7)) ?_;rw[aR,aaa];kd_p;have e37:H7 r3=some (.lst (nV dl)):=fr7.kp.keep _ _ h3 hn3;refine⟨r3,dl,tr.length,rfl,ax.of e37,hm3,λH8 l8 s78 hl8 e8=>?_⟩;have eD8:=s78 _ _ eD7;kd_p;refine⟨.inl ⟨rfl,_,ax.of eD8⟩,?_⟩;kd_p;have h8:bo K H8 (.ref a7) (SM.aC 0049 r,(n:Int)):=bo.same s78 h7;obtain⟨kk8,b1,b2⟩:=h_ h8;refine jv (j:=1) b1 rfl ?_;kd_p;refine⟨D,_,.int (n:Nat),rfl,rfl,eD8,by rw[aR,aaa,aaC];omega,?_⟩;have k9:=Kp.lst eD8 (.lst (nV (tr.map (·.1))++[V.int (n:Nat)]))
     have e9:upd H8 D (.lst (nV (tr.map (·.1))++[V.int (n:Nat)])) D=some (.lst (nV ((tr++[(n,r)]).map (·.1)))):=by
      rw[ah,aaP,my];rfl
     generalize upd H8 D (.lst (nV (tr.map (·.1))++[V.int (n:Nat)]))=H9 at k9 e9⊢;have hl8D:l8∉[D]:=λy=>by rw[aT y,eD7] at hl8;cases hl8
     have e89:=k9.keep _ _ e8 hl8D;have ht9:TabAt K A H9 t Li Ti:=(ht7.same s78).kp k9 λq hq y=>hDn (by rw[<-aT y];exact hq);have fr9:Fr t H L H9 Li:=(fr7.trans (Fr.same s78)).put k9 hDH;have h9:=bo.kp k9 h8;have pe9:=bo.kp k9 (bo.same s78 pe7);have htr1:(tr++[(n,r)]).length<=m:=by rw[aah];show tr.length+1<=m;omega
     have hdeed:Standbook.deedOf (dl.getD (3*tr.length) 0) (dl.getD (3*tr.length+1) 0) (dl.getD (3*tr.length+2) 0)=some ((ds.drop tr.length).headD .nothing):=by
      by_cases z:tr.length<ds.length
      ·rw[d3 _ z,abg z,aab z];rfl
      ·have zz:∀q,dl.length<=q->dl.getD q 0=0:=λq hq=>by rw[aaF,aaS hq];rfl
       rw[zz _ 03,zz _ 03,zz _ 03,acC 03];rfl
     generalize (ds.drop tr.length).headD .nothing=dd at hdeed hw;kd_p;refine eT (j:=0) (ax.of e89) rfl ?_;kd_p
     have hends:dd.ends=decide (dl.getD (3*tr.length) 0=5):=by
      unfold Standbook.deedOf at hdeed
      split at hdeed
      ·cases hdeed
      ·generalize dl.getD (3*tr.length) 0=d0 at hdeed⊢
       match d0,hdeed with
       |0,h=>cases aac h;rfl
       |1,h=>cases aac h;rfl
       |2,h=>cases aac h;rfl
       |3,h=>cases aac h;rfl
       |4,h=>cases aac h;rfl
       |5,h=>cases aac h;rfl
       |q+6,h=>cases h
     refine cw (λh5=>?_) (λh5=>?_)
     ·have he:dd.ends=true:=by rw[hends];exact aaj 03
      have edd:dd= .halt_:=by
          cases dd with
          |halt_=>rfl
          |_=>cases he
      rw[aav he] at hw;subst edd;refine de ?_;dsimp only;exact fin ht9 fr9 e9 htr1 hw _ rfl
     ·have he:¬dd.ends=true:=by rw[hends];exact λy=>h5 (by have:=aar y;omega)
      rw[aan he] at hw;refine ba ?_;kd_p;obtain⟨kk9,c1,c2⟩:=h_ h9;refine jv (j:=1) c1 rfl ?_;kd_p;refine⟨t,l8,Li,Ti,n,r,_,_,_,dd,rfl,ht9,hTr,ax.of e89,hdeed,λH10 L10 ht10 fr10 eo=>?_⟩
      have hDn10:D∉L10.all t:=λy=>by
          rcases fr10.new D y with y|y
          ·exact hDn y
          ·rw[e9] at y;cases y
      have eD10:=fr10.kp.keep _ _ e9 hDn;refine⟨⟨tr++[(n,r)],dd.on Ti n r,L10,r,n,a7,_,rfl,htr1,ht10,by rw[eo];exact hoi,by rw[Ji,hor],fr9.trans fr10,eD10,hDn10,bo.kp fr10.kp h9,bo.kp fr10.kp pe9,?_⟩,?_⟩
      ·have el:(tr++[(n,r)]).length=tr.length+1:=by rw[aah];rfl
       rw[el,show m-(tr.length+1)=j by omega,hw,abd,aaL];rfl
      ·show(match H10 D with|some (.lst xs)=>m-009|_=>0)<(match H' D with|some (.lst xs)=>m-009|_=>0);rw[eD10,eD];show m-(nV ((tr++[(n,r)]).map (·.1))).length<m-(nV (tr.map (·.1))).length;rw[aR,aR,aaa,aaa,aah];show m-(tr.length+1)<m-tr.length;omega
  ·have e0:m-tr.length=0:=by omega
   rw[e0] at hw;unfold Table.walk at hw;dsimp only;exact fin hti hfr eD htr (by rw[hw,aa7]) _ rfl
 ·intro σ H1 Q1 Q2 hq h;obtain⟨v,e1,a,ys,e2,e3,h⟩:=lj.out h;obtain⟨v2,e4,h⟩:=lj.out h;obtain⟨i,j,e5,rfl,h⟩:=C7.out h;cases e5;exact lj.mk e1 ⟨a,ys,e2,e3,lj.mk e4 (hq _ _ h)⟩
def tz(z:TZ):Table×List Int:=(z.1,[z.2])
def CZ(T:049)(u:Nat)(o:015):Standbook.step T (.order u o)=tz (sv T u o):=by
 show(if Standbook.sound o=false\/1<u then Standbook.no T (-1) else Standbook.turns (T.order o (u==1)))=_;unfold sv tz
 split<;>rfl
def IV(T:049)(r:015):Standbook.step T (.put r)=tz (if Standbook.isRow r=true then(T.put r).1 else T,if Standbook.isRow r=true then(T.put r).2 else-1):=by
 show(if Standbook.isRow r=false then Standbook.no T (-1) else Standbook.turns (T.put r))=_;unfold tz;cases e:Standbook.isRow r<;>rfl
def Kk(T:049)(n:Nat)(r:015):Standbook.step T (.set n r)=tz (if Standbook.isRow r=true then(T.set n r).1 else T,if Standbook.isRow r=true then(T.set n r).2 else-1):=by
 show(if Standbook.isRow r=false then Standbook.no T (-1) else Standbook.turns (T.set n r))=_;unfold tz;cases e:Standbook.isRow r<;>rfl
def HY(T:049)(n:Nat):Standbook.step T (.row n)=(T,pK T n):=by
 show(match T.row n with|none=>Standbook.no T (-4)|some r=>(T,Standbook.nats r))=_;unfold pK;cases T.row n<;>rfl
def JL(T:049)(k j:Nat):Standbook.step T (.nth k j)=(T,[ofOrd T k (Standbook.numberOf ((T.inOrder k)[j]?):Nat)]):=by
 show(T,if T.has k=true then _ else _)=_;unfold ofOrd
 split<;>rfl
def EN(T:049)(k n:Nat):Standbook.step T (.rank k n)=(T,[ofOrd T k (Ax T k n)]):=by
 show(T,if T.has k=true then(match(T.inOrder k).findIdx? λ(x:020)=>x.1==n with|some j=>Standbook.nats [j]|none=>Standbook.says (-4)) else Standbook.says (-2))=_;unfold ofOrd Ax;cases(T.inOrder k).findIdx? λ(x:020)=>x.1==n<;>(split<;>rfl)
def FK(T:049)(k h:Nat)(r:015):Standbook.step T (.find k h r)=(T,[findZ T k h r]):=by
 show(if Standbook.isRow r=false\/3<h then Standbook.no T (-1) else(T,if T.has k=true then _ else _))=_;unfold findZ ofOrd
 split
 ·rfl
 ·split<;>rfl
def EU(T:049)(k:Nat)(a b:015):Standbook.step T (.many k a b)=(T,[AE T k a b]):=by
 show(if Standbook.isRow a=false\/Standbook.isRow b=false then Standbook.no T (-1) else(T,if T.has k=true then _ else _))=_;unfold AE ofOrd
 split
 ·rfl
 ·split<;>rfl
def Io(T:049)(k f:Nat)(a b:015):Standbook.step T (.sum k f a b)=(T,[sumZ T k f a b]):=by
 show(if Standbook.isRow a=false\/Standbook.isRow b=false\/3<f then Standbook.no T (-1) else(T,if T.has k=true then _ else _))=_;unfold sumZ ofOrd
 split
 ·rfl
 ·split<;>rfl
def yQ(T:049)(k f:Nat):Standbook.step T (.cursor k f)=tz (xi T k f):=by
 show(if 1<f then Standbook.no T (-1) else if T.has k=false then Standbook.no T (-2) else(match T.free with|some c=>_|none=>_))=_;unfold xi tz
 split
 ·rfl
 ·split
  ·rfl
  ·cases T.free<;>rfl
def E3(T:049)(c:Nat):Standbook.step T (.drop c)=tz (uD T c):=by
 show(match T.cursor c with|none=>Standbook.no T (-4)|some x=>(T.cursorSet c none,Standbook.says 0))=_;unfold uD tz;cases T.cursor c<;>rfl
def Mi(T:049)(c n:Nat):Standbook.step T (.go c n)=tz (Ht T c n):=by
 show(match T.cursor c with|none=>Standbook.no T (-4)|some x=>(match T.row n with|none=>Standbook.no T (-4)|some r=>_))=_;unfold Ht tz
 cases T.cursor c with
 |none=>rfl
 |some x=>cases T.row n<;>rfl
def Fc(T:049)(c b:Nat)(r:015):Standbook.step T (.seek c b r)=tz (tZ T c b r):=by
 show(if Standbook.isRow r=false\/1<b then Standbook.no T (-1) else(match T.cursor c with|none=>Standbook.no T (-4)|some x=>_))=_;unfold tZ tz
 split
 ·rfl
 ·cases T.cursor c<;>rfl
def Mo(T:049)(c:Nat):Standbook.step T (.at_ c)=(T,[match T.cursor c with|none=> -4|some cu=>(wg T cu:Nat)]):=by
 show(match T.cursor c with|none=>Standbook.no T (-4)|some x=>_)=_
 cases T.cursor c with
 |none=>rfl
 |some x=>
  obtain⟨o,f,sp⟩:=x;cases sp<;>rfl
def Fb(T:049)(k m:Nat)(a b d:015):Standbook.step T (.walk k m a b d)=walkZ T k m a b d:=by
 show(if Standbook.isRow a=false\/Standbook.isRow b=false\/Standbook.WALK<m then Standbook.no T (-1) else(match Standbook.deedsIn d with|none=>Standbook.no T (-1)|some ds=>if T.has k=false then Standbook.no T (-2) else _))=_;unfold walkZ
 split
 ·rename_i h;have h:Standbook.isRow a=false\/Standbook.isRow b=false\/1000<m:=h;rw[aav h];rfl
 ·rename_i h;have h:¬(Standbook.isRow a=false\/Standbook.isRow b=false\/1000<m):=h;rw[aan h]
  cases Standbook.deedsIn d with
  |none=>rfl
  |some ds=>
   dsimp only
   split<;>rfl
def FL(T:049)(b:032):Standbook.step T (.load b)=tz (wj T b):=by
 show(match Standbook.tableIn b with|none=>Standbook.no T (-6)|some u=>(u,Standbook.says 0))=_;unfold wj tz;cases Standbook.tableIn b<;>rfl
def yC(T:049)(o a b:015):Standbook.step T (.before o a b)=(T,[Gn o a b]):=by
 show(if Standbook.sound o=false\/Standbook.isRow a=false\/Standbook.isRow b=false then Standbook.no T (-1) else(T,Standbook.says (Standbook.before o a b+1)))=_;unfold Gn
 split<;>rfl
def EK(T:049)(o r:015):Standbook.step T (.pack o r)=(T,ui o r):=by
 show(if Standbook.sound o=false\/Standbook.isRow r=false then Standbook.no T (-1) else(T,Standbook.bytesOut (Standbook.pack o r)))=_;unfold ui
 split<;>rfl
def yW(T:049)(o:015)(b:032):Standbook.step T (.unpack o b)=(T,m9 o b):=by
 show(if Standbook.sound o=false\/b.length≠32 then Standbook.no T (-1) else(T,Standbook.nats (Standbook.unpack o b)))=_;unfold m9
 split<;>rfl
def Mm(p:Nat):Nat×Nat:=(PyWqauba.shape (p:Int)).getD (0,0)
structure GA(p:Nat)(xs:015)(rs:List (List Nat)):Prop where
 nx:009=(Mm p).1
 nr:rs.length=(Mm p).2
 len:∀r∈rs,r.length<=20000
 Si:∀r∈rs,∀x∈r,x<18446744073709551616
 b8:p=25\/p=29->∀r∈rs,∀x∈r,x<256
structure RA(t r:Addr)(H:Hp)(L:Lay)(H':Hp)(L':Lay):Prop where
 kp:Kp (r::L.all t) H H'
 new:∀b∈L'.all t,b∈L.all t\/H b=none
def RJ(t r:Addr)(H:Hp)(L:Lay)(l:Addr):Prop:=∀b o,H b=some o->b∉r::L.all t->l≠b
structure CS(K:05)(A:aQ)(H0:Hp)(t r a:Addr)(L:Lay)(T:049)(ns:015)(H:Hp)(i:Nat):Prop where
 tab:TabAt K A H t L T
 rd:fI A H r a i
 src:ax K H a (nV ns)
 kp:Kp [r] H0 H
 rL:r∉L.all t
def eG(K:05)(A:aQ)(t r a:Addr)(H0:Hp)(L:Lay)(j:Nat)(res:Table×List Int)(Q:VK):Prop:=
 ∀H' L' l,TabAt K A H' t L' res.1->fI A H' r a j->RA t r H0 L H' L'->RJ t r H0 L l->H' l=some (.lst (zV res.2))->Q (.ref l) H'
section
variable{H0 H H':Hp}{t r a:Addr}{L L':Lay}{T T':049}{ns:015}{i j:Nat}{Q:VK}{z:Int}{zs:025}{l:Addr}
def CS.go(c:0040)(k:Kp [r] H H')(rd:fI A H' r a j):CS K A H0 t r a L T ns H' j:=
 ⟨c.tab.kp k λb hb z=>c.rL (by rw[<-aT z];exact hb),rd,ax.Rt c.rd.choose_spec k c.src,c.kp.trans k,c.rL⟩
def CS.rx(c:0040):∃o,H r=some o:=by
 obtain⟨dx,e⟩:=c.rd;exact⟨_,e⟩
def CS.ne(c:0040)(h:H l=none):l∉[r]:=λz=>by
 obtain⟨o,e⟩:=c.rx;rw[aT z,e] at h;cases h
def CS.fr(c:0040)(f:Fr t H L H' L'):RA t r H0 L H' L' where
 kp:={
  keep:=λb o e hb=>f.kp.keep b o (c.kp.keep b o e λz=>hb (by rw[aT z];exact aae)) λz=>hb (aag _ z)
  fP:=λb xs e=>f.kp.fP _ _ (c.kp.fP _ _ e)
  eM:=λb o u e=>f.kp.eM _ _ _ (c.kp.eM _ _ _ e)}
 new:=λb hb=>by
  rcases f.new b hb with q|q
  ·exact .inl q
  ·refine .inr (c.kp.free q λz=>?_);obtain⟨o,e⟩:=c.rx;rw[aT z,e] at q;cases q
def CS.Cq(c:0040)(f:Fr t H L H' L'):fI A H' r a i:=by
 obtain⟨dx,e⟩:=c.rd;exact⟨dx,f.kp.keep _ _ e c.rL⟩
def gA(c:CS K A H0 t r a L T ns H j)(e:eG K A t r a H0 L j (T',[z]) Q)(ht:TabAt K A H' t L' T')(f:Fr t H L H' L'):[V.int z].length<=sizeLine/\∀p,H' p=none->Q (.ref p) (upd H' p (.lst [V.int z])):=by
 refine⟨one_le,λp hp=>?_⟩;have s:au H' (upd H' p (.lst [V.int z])):=.new hp;have f2:Fr t H L (upd H' p (.lst [V.int z])) L':=f.trans (Fr.same s);refine e _ L' p (ht.same s) (c.Cq f2) (c.fr f2) (λb o eb hb q=>?_) ah;have:=(c.fr f).kp.keep b o eb hb;rw[<-q,hp] at this;cases this
def B7(c:CS K A H0 t r a L T ns H j)(e:eG K A t r a H0 L j (T,zs) Q)(n:xT H H' l zs):Q (.ref l) H':=by
 obtain⟨s,hl,el⟩:=n;have f:Fr t H L H' L:=Fr.same s;refine e _ L l (c.tab.same s) (c.Cq f) (c.fr f) (λb o eb hb q=>?_) el;have:=c.kp.keep b o eb λz=>hb (by rw[aT z];exact aae);rw[<-q,hl] at this;cases this
def RU(c:CS K A H0 t r a L T ns H j)(e:eG K A t r a H0 L j (T',zs) Q)(ht:TabAt K A H' t L' T')(f:Fr t H L H' L')(ap:Mr t H L l)(el:H' l=some (.lst (zV zs))):Q (.ref l) H':=by
 refine e _ L' l ht (c.Cq f) (c.fr f) (λb o eb hb q=>?_) el;exact ap b o (c.kp.keep b o eb λz=>hb (by rw[aT z];exact aae)) (λz=>hb (aag _ z)) q
end
def cX{α:Type}{l:076}(h:l.length=0):l=[]:=abm h
def gr{α:Type}{l:076}(h:l.length=1):∃x,l=[x]:=adp.mp h
def ln2{α:Type}{l:076}(h:l.length=2):∃x y,l=[x,y]:=by
 match l,h with
 |[x,y],_=>exact⟨x,y,rfl⟩
def Mc{α:Type}{l:076}(h:l.length=3):∃x y z,l=[x,y,z]:=by
 match l,h with
 |[x,y,z],_=>exact⟨x,y,z,rfl⟩
def Ml{r:015}(h:∀x∈r,x<256):bN (r.map UInt8.ofNat)=r:=by
 unfold bN;rw[aaN]
 conv=>rhs;rw[<-adt r]
 apply abD;intro x hx;exact SM.lK (h x hx)
inductive eC(K:05)(A:aQ)(p:Nat)(vs:0012)(H:Hp)(Q:VK)(E:XK):Prop
 |mk(t r a:Addr)(L:Lay)(T:049)(ns:015)(i i1 j:Nat)(xs:015)(rs:List (List Nat))(_:vs=[.ref t,.ref r])(_:CS K A H t r a L T ns H i)(_:pO ns i xs i1)(_:pU ns i1 rs j)(_:GA p xs rs)(_:eG K A t r a H L j (act p T xs rs) Q)
def bP{x:Str}{st:Stmt}{N:087}{k p:Nat}(D:aZ K mg x ["table","reader"] st)(S:ao N ["table","reader"] (ag st))(hb:∀(f:Addr) (cdv:0101) (B:061) (outer:List Env) (s:0016) (H:Hp) (t r a:Addr) (L:Lay) (T:049) (ns:015) (i i1 j:Nat) (xs:015) (rs:List (List Nat)) (Q:VK) (E:XK),dr k (B.deeper (envOfC x (ag st) s.heap.objs.size f cdv))->CS K A H t r a L T ns H i->pO ns i xs i1->pU ns i1 rs j->GA p xs rs->eG K A t r a H L j (act p T xs rs) Q->∀Xg:Prop,(∀tt,lX (pj mS P w K mg base N x (ag st) f cdv B outer s H E).zg (fJ st) tt->tt 045 (L2.start N [.ref t,.ref r]) H->Xg)->Xg):000 (k+1) x ["table","reader"] (eC K A p):=by
 refine D.ok S λf cdv B outer s H vs Q E hr h Xg gx=>?_
 ·obtain⟨t,r,a,L,T',ns,i,i1,j,xs,rs,rfl,c0,hn,hw,ga,e⟩:=h;exact hb _ _ _ _ _ _ _ _ _ _ _ _ _ _ _ _ _ _ _ hr c0 hn hw ga e _ gx
section
variable{H0 H:Hp}{t r a:Addr}{L:Lay}{T:049}{ns:015}{i n:Nat}{Q:VK}{σ:L2.St}
def eS(c:0040)(hx:ns[i]? =some n)(h:∀H1,Kp [r] H H1->CS K A H0 t r a L T ns H1 (i+1)->Q (.int (n:Nat)) H1):Ar A.cR "read_number" (lD K A) jC σ (.ref r) H Q:=by
 obtain⟨d,e⟩:=id c.rd;exact aF e (u9 07) ⟨r,a,ns,_,_,rfl,c.rd,c.src,hx,λH1 k rd=>h H1 k (c.go k rd)⟩
def eV(c:0040)(hx:ns[i]? =some n)(hb:i+1+n<=ns.length)(h:∀H1 l,Kp [r] H H1->H l=none->H1 l=some (.lst (nV ((ns.drop (i+1)).take n)))->l∉[r]->l∉L.all t->CS K A H0 t r a L T ns H1 (i+1+n)->Q (.ref l) H1):Ar A.cR "read_list" (nv K A) jC σ (.ref r) H Q:=by
 obtain⟨d,e⟩:=id c.rd;exact aF e (u9 07) ⟨r,a,ns,_,_,rfl,c.rd,c.src,hx,hb,λH1 l k rd hl e1=>h H1 l k hl e1 (c.ne hl) (c.tab.iZ hl) (c.go k rd)⟩
end
def DD(T:006):000 3 "call_new" ["table","reader"] (eC K A 0):=by
 refine bP T.GR En 06;sleep 041;refine gx _ (af (ai (bu (aa (aS (zQ T) 01 rfl 040) ab)))) ?_;kd_p;refine⟨t,L,T',rfl,c0.tab,0000⟩;kd_p;exact gA c0 e ht' fr'
def zM(T:006):000 7 "call_order" ["table","reader"] (eC K A 1):=by
 refine bP T.C9 rM 06;sleep 029;obtain⟨w1,rfl⟩:=gr ga.nr;obtain⟨hx1,rfl⟩:=hn;sleep 007;sleep 00;rw[CZ] at e;refine gx _ (ae (aB (i:=2) rM.nd rfl 001 0014) (af (ai (bu (aa (aS (AI T) 01 rfl (aa 0094 (aa 034 0102))) ab))))) ?_;sleep 057;refine eV c1 hm1 hb1 λH2 l1 k2 hl1 e1 nl1 al1 c2=>?_;kd_p;refine⟨t,l1,L,T',_,_,rfl,c2.tab,ax.of e1,lw1,0000⟩;kd_p;exact gA c2 e ht' fr'
def DX(T:006):000 10 "call_put" ["table","reader"] (eC K A 2):=by
 refine bP T.Gp D0 06;obtain rfl:xs=[]:=cX ga.nx;obtain⟨w1,rfl⟩:=gr ga.nr;obtain rfl:i1=i:=hn;sleep 007;sleep 00;rw[IV] at e;refine gx _ (af (ai (bu (aa (aS (vZ T) 01 rfl (aa 0094 0102)) ab)))) ?_;kd_p;sleep 019;kd_p;refine⟨t,l1,L,T',_,rfl,c1.tab,ax.of e1,al1,lw1,λH' L' ht' fr' _=>?_⟩;kd_p;exact gA c1 e ht' fr'
def DF(T:006):000 10 "call_set" ["table","reader"] (eC K A 3):=by
 refine bP T.Gs uW 06;sleep 029;obtain⟨w1,rfl⟩:=gr ga.nr;obtain⟨hx1,rfl⟩:=hn;sleep 007;sleep 00;rw[Kk] at e;refine gx _ (ae (aB (i:=2) uW.nd rfl 001 0014) (af (ai (bu (aa (aS (vW T) 01 rfl (aa 0094 (aa 034 0102))) ab))))) ?_;sleep 057;refine eV c1 hm1 hb1 λH2 l1 k2 hl1 e1 nl1 al1 c2=>?_;kd_p;refine⟨t,l1,L,T',_,_,rfl,c2.tab,ax.of e1,al1,lw1,λH' L' ht' fr' _=>?_⟩;kd_p;exact gA c2 e ht' fr'
def Dx(T:006):000 8 "call_take" ["table","reader"] (eC K A 4):=by
 refine bP T.DW Cs 06;sleep 050;refine gx _ (af (ai (bu (aa (aS (ve T) 01 rfl 0105) ab)))) ?_;sleep 057;refine⟨t,L,T',_,rfl,c1.tab,λH' L' ht' fr' _=>?_⟩;kd_p;exact gA c1 e ht' fr'
def EC(T:006):000 2 "call_has" ["table","reader"] (eC K A 5):=by
 refine bP T.Ga EB 06;sleep 050;refine gx _ (af (ai (bu (aa (aS (Ho T) 01 rfl 0105) ab)))) ?_;sleep 057;refine⟨t,L,T',_,rfl,c1.tab,?_⟩;kd_p;exact gA c1 e c1.tab Fr.refl
def D6(T:006):000 2 "call_row" ["table","reader"] (eC K A 6):=by
 refine bP T.G2 Eb 06;sleep 050;rw[HY] at e;refine gx _ (af (ai (aS (vt T) 01 rfl 0105))) ?_;sleep 057;exact⟨t,L,T',_,rfl,c1.tab,λH' l n=>B7 c1 e n⟩
def z9(T:006):000 2 "call_count" ["table","reader"] (eC K A 7):=by
 refine bP T.Ca zL 06;sleep 041;refine gx _ (af (ai (aS (Ii T) 01 rfl 040))) ?_;kd_p;exact⟨t,L,T',rfl,c0.tab,λH' l n=>B7 c0 e n⟩
def Ee(T:006):000 3 "call_nth" ["table","reader"] (eC K A 8):=by
 refine bP T.Gw vd 06;sleep 056;rw[JL] at e;refine gx _ (ae (aB (i:=2) vd.nd rfl 001 0014) (af (ai (bu (aa (aS (Hl T) 01 rfl (aa 0094 (aa 034 (aa 0014 ab)))) ab))))) ?_;sleep 057;sleep 037;kd_p;refine⟨t,L,T',_,_,rfl,c2.tab,?_⟩;kd_p;exact gA c2 e c2.tab Fr.refl
def CU(T:006):000 6 "call_rank" ["table","reader"] (eC K A 9):=by
 refine bP T.DM tD 06;sleep 056;rw[EN] at e;refine gx _ (ae (aB (i:=2) tD.nd rfl 001 0014) (af (ai (bu (aa (aS (xO T) 01 rfl (aa 0094 (aa 034 (aa 0014 ab)))) ab))))) ?_;sleep 057;sleep 037;kd_p;refine⟨t,L,T',_,_,rfl,c2.tab,λH' s'=>?_⟩;kd_p;exact gA c2 e (c2.tab.same s') (Fr.same s')
def A1(T:006):000 7 "call_find" ["table","reader"] (eC K A 10):=by
 refine bP T.DT nE 06;sleep 033;obtain⟨w1,rfl⟩:=gr ga.nr;obtain⟨hx1,hx2,rfl⟩:=hn;sleep 007;sleep 00;rw[FK] at e;refine gx _ (ae (aB (i:=2) nE.nd rfl 001 0014) (ae (aB (i:=3) nE.nd rfl 001 0014) (af (ai (bu (aa (aS (DO T) 01 rfl (aa 0094 (aa 034 (aa 072 0102)))) ab)))))) ?_;sleep 058;refine⟨t,l1,L,T',_,_,_,rfl,c3.tab,ax.of e1,lw1,λH' s'=>?_⟩;kd_p;exact gA c3 e (c3.tab.same s') (Fr.same s')
def Dm(T:006):000 8 "call_many" ["table","reader"] (eC K A 11):=by
 refine bP T.El ny 06;sleep 029;obtain⟨w1,w2,rfl⟩:=ln2 ga.nr;obtain⟨hx1,rfl⟩:=hn;sleep 045;sleep 00;rw[EU] at e;refine gx _ (ae (aB (i:=2) ny.nd rfl 001 0014) (ae (aB (i:=3) ny.nd rfl 001 0019) (af (ai (bu (aa (aS (rZ T) 01 rfl (aa 0094 (aa 034 (aa 072 0102)))) ab)))))) ?_;sleep 057;refine eV c1 hm1 hb1 λH2 l1 k2 hl1 e1 nl1 al1 c2=>?_;kd_p;refine eV c2 hm2 hb2 λH3 l2 k3 hl2 e2 nl2 al2 c3=>?_;have e1:=k3.keep _ _ e1 nl1;kd_p;refine⟨t,l1,l2,L,T',_,_,_,rfl,c3.tab,ax.of e1,lw1,ax.of e2,lw2,λH' s'=>?_⟩;kd_p;exact gA c3 e (c3.tab.same s') (Fr.same s')
def D_(T:006):000 8 "call_sum" ["table","reader"] (eC K A 12):=by
 refine bP T.Ha lP 06;sleep 033;obtain⟨w1,w2,rfl⟩:=ln2 ga.nr;obtain⟨hx1,hx2,rfl⟩:=hn;sleep 045;sleep 00;rw[Io] at e;refine gx _ (ae (aB (i:=2) lP.nd rfl 001 0014) (ae (aB (i:=3) lP.nd rfl 001 0014) (ae (aB (i:=4) lP.nd rfl 001 0019) (af (ai (bu (aa (aS (xB T) 01 rfl (aa 0094 (aa 034 (aa 072 (aa (pv 4) 0102))))) ab))))))) ?_;sleep 058;refine eV c3 hm2 hb2 λH4 l2 k4 hl2 e2 nl2 al2 c4=>?_;have e1:=k4.keep _ _ e1 nl1;kd_p;refine⟨t,l1,l2,L,T',_,_,_,_,rfl,c4.tab,ax.of e1,lw1,ax.of e2,lw2,λH' s'=>?_⟩;kd_p;exact gA c4 e (c4.tab.same s') (Fr.same s')
def ya(T:006):000 4 "call_cursor" ["table","reader"] (eC K A 13):=by
 refine bP T.Ad pN 06;sleep 056;rw[yQ] at e;refine gx _ (ae (aB (i:=2) pN.nd rfl 001 0014) (af (ai (bu (aa (aS (An T) 01 rfl (aa 0094 (aa 034 (aa 0014 ab)))) ab))))) ?_;sleep 057;sleep 037;kd_p;refine⟨t,L,T',_,_,rfl,c2.tab,0000⟩;kd_p;exact gA c2 e ht' fr'
def Bn(T:006):000 2 "call_drop" ["table","reader"] (eC K A 14):=by
 refine bP T.DI AS 06;sleep 050;rw[E3] at e;refine gx _ (af (ai (bu (aa (aS (xE T) 01 rfl 0105) ab)))) ?_;sleep 057;refine⟨t,L,T',_,rfl,c1.tab,0000⟩;kd_p;exact gA c1 e ht' fr'
def Gz(T:006):000 6 "call_go" ["table","reader"] (eC K A 15):=by
 refine bP T.JW v_ 06;sleep 056;rw[Mi] at e;refine gx _ (ae (aB (i:=2) v_.nd rfl 001 0014) (af (ai (bu (aa (aS (Br T) 01 rfl (aa 0094 (aa 034 (aa 0014 ab)))) ab))))) ?_;sleep 057;sleep 037;kd_p;refine⟨t,L,T',_,_,rfl,c2.tab,0000⟩;kd_p;exact gA c2 e ht' fr'
def BO(T:006):000 6 "call_seek" ["table","reader"] (eC K A 16):=by
 refine bP T.DC nq 06;sleep 033;obtain⟨w1,rfl⟩:=gr ga.nr;obtain⟨hx1,hx2,rfl⟩:=hn;sleep 007;sleep 00;rw[Fc] at e;refine gx _ (ae (aB (i:=2) nq.nd rfl 001 0014) (ae (aB (i:=3) nq.nd rfl 001 0014) (af (ai (bu (aa (aS (D4 T) 01 rfl (aa 0094 (aa 034 (aa 072 0102)))) ab)))))) ?_;sleep 058;refine⟨t,l1,L,T',_,_,_,rfl,c3.tab,ax.of e1,lw1,0000⟩;kd_p;exact gA c3 e ht' fr'
def Hq(T:006):000 7 "call_at" ["table","reader"] (eC K A 17):=by
 refine bP T.Jb Gb 06;sleep 050;rw[Mo] at e;refine gx _ (af (ai (bu (aa (aS (vL T) 01 rfl 0105) ab)))) ?_;sleep 057;refine⟨t,L,T',_,rfl,c1.tab,λH' s'=>?_⟩;kd_p;exact gA c1 e (c1.tab.same s') (Fr.same s')
def B2(T:006):000 4 "call_next" ["table","reader"] (eC K A 18):=by
 refine bP T.DP Bf 06;sleep 050;refine gx _ (af (ai (bu (aa (aS (Hf T) 01 rfl 0105) ab)))) ?_;sleep 057;refine⟨t,L,T',_,rfl,c1.tab,0000⟩;kd_p;exact gA c1 e ht' fr'
def BE(T:006):000 4 "call_prev" ["table","reader"] (eC K A 19):=by
 refine bP T.EE Bt 06;sleep 050;refine gx _ (af (ai (bu (aa (aS (AK T) 01 rfl 0105) ab)))) ?_;sleep 057;refine⟨t,L,T',_,rfl,c1.tab,0000⟩;kd_p;exact gA c1 e ht' fr'
def Bw(T:006):000 12 "call_walk" ["table","reader"] (eC K A 20):=by
 refine bP T.Ej jd 06;sleep 033;obtain⟨w1,w2,w3,rfl⟩:=Mc ga.nr;obtain⟨hx1,hx2,rfl⟩:=hn;obtain⟨m1,hm1,hb1,rfl,m2,hm2,hb2,rfl,m3,hm3,hb3,rfl,rfl⟩:=hw;have lw1:=ga.len _ aae;have lw2:=ga.len _ (aag _ aae);have lw3:=ga.len _ (aag _ (aag _ aae));sleep 00;rw[Fb] at e;refine gx _ (ae (aB (i:=2) jd.nd rfl 001 0014) (ae (aB (i:=3) jd.nd rfl 001 0014) (ae (aB (i:=4) jd.nd rfl 001 0019) (ae (aB (i:=5) jd.nd rfl 001 0019) (af (ai (aS (AR T) 01 rfl (aa 0094 (aa 034 (aa 072 (aa (pv 4) (aa (pv 5) 0102)))))))))))) ?_;sleep 058;refine eV c3 hm2 hb2 λH4 l2 k4 hl2 e2 nl2 al2 c4=>?_;have e1:=k4.keep _ _ e1 nl1;kd_p;refine eV c4 hm3 hb3 λH5 l3 k5 hl3 e3 nl3 al3 c5=>?_;have e1:=k5.keep _ _ e1 nl1;have e2:=k5.keep _ _ e2 nl2;kd_p;exact⟨t,l1,l2,l3,L,T',_,_,_,_,_,rfl,c5.tab,ax.of e1,lw1,ax.of e2,lw2,e3,al3,lw3,ga.Si _ (aag _ (aag _ aae)),λH' L' l ht' fr' ap' el'=>RU c5 e ht' fr' ap' el'⟩
def Dh(T:006):000 4 "call_mark" ["table","reader"] (eC K A 21):=by
 refine bP T.DG Bs 06;sleep 041;refine gx _ (af (ai (bu (aa (aS (Ex T) 01 rfl 040) ab)))) ?_;kd_p;refine⟨t,L,T',rfl,c0.tab,0000⟩;kd_p;exact gA c0 e ht' fr'
def CV(T:006):000 9 "call_back" ["table","reader"] (eC K A 22):=by
 refine bP T.DY CQ 06;sleep 041;refine gx _ (af (ai (bu (aa (aS (wm T) 01 rfl 040) ab)))) ?_;kd_p;refine⟨t,L,T',rfl,c0.tab,λH' L' ht' fr' _=>?_⟩;kd_p;exact gA c0 e ht' fr'
def Cy(T:006):000 2 "call_keep" ["table","reader"] (eC K A 23):=by
 refine bP T.Ez BU 06;sleep 041;refine gx _ (af (ai (bu (aa (aS (CO T) 01 rfl 040) ab)))) ?_;kd_p;refine⟨t,L,T',rfl,c0.tab,0000⟩;kd_p;exact gA c0 e ht' fr'
def A_(T:006):000 5 "call_save" ["table","reader"] (eC K A 24):=by
 refine bP T.EA Bo 06;sleep 041;refine gx _ (af (ai (aS (zX T) 01 rfl 040))) ?_;kd_p;exact⟨t,L,T',rfl,c0.tab,λH' l n=>B7 c0 e n⟩
def BS(T:006):000 8 "call_load" ["table","reader"] (eC K A 25):=by
 refine bP T.Ed A2 06;obtain rfl:xs=[]:=cX ga.nx;obtain⟨w1,rfl⟩:=gr ga.nr;obtain rfl:i1=i:=hn;sleep 007;sleep 00;rw[FL] at e;refine gx _ (af (ai (bu (aa (aS (Ah T) 01 rfl (aa 0094 0102)) ab)))) ?_;kd_p;sleep 019;kd_p;have b8:=ga.b8 094 _ aae;refine⟨t,l1,L,T',_,rfl,c1.tab,by rw[Ml b8];exact e1,by rw[aaa];exact lw1,0000⟩;kd_p;exact gA c1 e ht' fr'
def zJ(T:006):000 4 "call_sound" ["table","reader"] (eC K A 26):=by
 refine bP T.B0 Af 06;obtain rfl:xs=[]:=cX ga.nx;obtain⟨w1,rfl⟩:=gr ga.nr;obtain rfl:i1=i:=hn;sleep 007;sleep 00;refine gx _ (af (ai (bu (aa (aS (DJ T) 01 rfl 0102) ab)))) ?_;kd_p;sleep 019;kd_p;refine⟨l1,_,rfl,ax.of e1,lw1,λH' s'=>?_⟩;kd_p;exact gA c1 e (c1.tab.same s') (Fr.same s')
def yp(T:006):000 5 "call_before" ["table","reader"] (eC K A 27):=by
 refine bP T.Ae lG 06;obtain rfl:xs=[]:=cX ga.nx;obtain⟨w1,w2,w3,rfl⟩:=Mc ga.nr;obtain rfl:i1=i:=hn;obtain⟨m1,hm1,hb1,rfl,m2,hm2,hb2,rfl,m3,hm3,hb3,rfl,rfl⟩:=hw;have lw1:=ga.len _ aae;have lw2:=ga.len _ (aag _ aae);have lw3:=ga.len _ (aag _ (aag _ aae));sleep 00;rw[yC] at e;refine gx _ (ae (aB (i:=2) lG.nd rfl 001 0019) (ae (aB (i:=3) lG.nd rfl 001 0019) (af (ai (bu (aa (aS (wW T) 01 rfl (aa 034 (aa 072 0102))) ab)))))) ?_;kd_p;sleep 019;kd_p;refine eV c1 hm2 hb2 λH2 l2 k2 hl2 e2 nl2 al2 c2=>?_;have e1:=k2.keep _ _ e1 nl1;kd_p;refine eV c2 hm3 hb3 λH3 l3 k3 hl3 e3 nl3 al3 c3=>?_;have e1:=k3.keep _ _ e1 nl1;have e2:=k3.keep _ _ e2 nl2;kd_p;refine⟨l1,l2,l3,_,_,_,rfl,ax.of e1,lw1,ax.of e2,lw2,ax.of e3,lw3,λH' s'=>?_⟩;kd_p;exact gA c3 e (c3.tab.same s') (Fr.same s')
def C0(T:006):000 5 "call_pack" ["table","reader"] (eC K A 28):=by
 refine bP T.DQ r_ 06;obtain rfl:xs=[]:=cX ga.nx;obtain⟨w1,w2,rfl⟩:=ln2 ga.nr;obtain rfl:i1=i:=hn;sleep 045;sleep 00;rw[EK] at e;refine gx _ (ae (aB (i:=2) r_.nd rfl 001 0019) (af (ai (aS (DK T) 01 rfl (aa 034 0102))))) ?_;kd_p;sleep 019;kd_p;refine eV c1 hm2 hb2 λH2 l2 k2 hl2 e2 nl2 al2 c2=>?_;have e1:=k2.keep _ _ e1 nl1;kd_p;exact⟨l1,l2,_,_,rfl,ax.of e1,lw1,ax.of e2,lw2,λH' l n=>B7 c2 e n⟩
def yh(T:006):000 4 "call_unpack" ["table","reader"] (eC K A 29):=by
 refine bP T.Ab pZ 06;obtain rfl:xs=[]:=cX ga.nx;obtain⟨w1,w2,rfl⟩:=ln2 ga.nr;obtain rfl:i1=i:=hn;sleep 045;sleep 00;rw[yW] at e;refine gx _ (ae (aB (i:=2) pZ.nd rfl 001 0019) (af (ai (aS (Ag T) 01 rfl (aa 034 0102))))) ?_;kd_p;sleep 019;kd_p;refine eV c1 hm2 hb2 λH2 l2 k2 hl2 e2 nl2 al2 c2=>?_;have e1:=k2.keep _ _ e1 nl1;kd_p;have b8:=ga.b8 (.inr rfl) _ (aag _ aae);exact⟨l1,l2,_,_,rfl,ax.of e1,lw1,by rw[Ml b8];exact ax.of e2,by rw[aaa];exact lw2,λH' l n=>B7 c2 e n⟩
theorem B4(k:Nat)(to:0017):∀(m:Nat) (T:049) (p:Standbook.Row×Nat) (ds:List Deed),(Table.walk k to m T p ds).1.length<=m
 |0,T,p,ds=>aay _
 |m+1,T,p,ds=>by
  unfold Table.walk
  split
  ·exact aaT _
  ·split
   ·exact aaT _
   ·dsimp only
    split
    ·show 1<=m+1;omega
    ·have:=B4 k to m (Deed.on T ‹_› ‹_› (ds.headD .nothing)) (‹_›,‹_›) (ds.drop 1);show(Table.walk k to m _ _ _).1.length+1<=m+1;omega
abbrev fb(q:Nat):Prop:=∀(T:049) (xs:015) (rs:List (List Nat)),SM.Wf T->GA q xs rs->(act q T xs rs).2.length<=10000
def Rc:fb 0:=by
 sleep 000;sleep 02;show 1<=10000
 decide
def QE:fb 1:=by
 sleep 048;sleep 053;rw[CZ];show 1<=10000
 decide
def QC:fb 2:=by
 sleep 000;sleep 053;rw[IV];show 1<=10000
 decide
def QP:fb 3:=by
 sleep 048;sleep 053;rw[Kk];show 1<=10000
 decide
def Rq:fb 4:=by
 sleep 048;sleep 02;show 1<=10000
 decide
def QI:fb 5:=by
 sleep 048;sleep 02;show 1<=10000
 decide
def QO:fb 6:=by
 sleep 048;sleep 02;rw[HY];show(pK T x0).length<=10000;unfold pK
 cases e:T.row x0 with
 |none=>show 1<=10000;decide
 |some r=>
  show(Standbook.nats r).length<=10000;unfold Standbook.nats;rw[aaa,(SM.hZ (wf.rows.row (x0,r) (SM.gu e)).2.2).1]
  decide
def QN:fb 7:=by
 sleep 000;sleep 02;show 4<=10000
 decide
def Ri:fb 8:=by
 sleep 054;sleep 02;rw[JL];show 1<=10000
 decide
def QD:fb 9:=by
 sleep 054;sleep 02;rw[EN];show 1<=10000
 decide
def Ql:fb 10:=by
 sleep 054;sleep 053;rw[FK];show 1<=10000
 decide
def OT:fb 11:=by
 sleep 048;obtain⟨r0,r1,rfl⟩:=ln2 ga.nr;sleep 043;rw[EU];show 1<=10000
 decide
def O0:fb 12:=by
 sleep 054;obtain⟨r0,r1,rfl⟩:=ln2 ga.nr;sleep 043;rw[Io];show 1<=10000
 decide
def N4:fb 13:=by
 sleep 054;sleep 02;rw[yQ];show 1<=10000
 decide
def PF:fb 14:=by
 sleep 048;sleep 02;rw[E3];show 1<=10000
 decide
def OO:fb 15:=by
 sleep 054;sleep 02;rw[Mi];show 1<=10000
 decide
def OZ:fb 16:=by
 sleep 054;sleep 053;rw[Fc];show 1<=10000
 decide
def NF:fb 17:=by
 sleep 048;sleep 02;rw[Mo];show 1<=10000
 decide
def N5:fb 18:=by
 sleep 048;sleep 02;show 1<=10000
 decide
def Qc:fb 19:=by
 sleep 048;sleep 02;show 1<=10000
 decide
def PR:fb 20:=by
 sleep 054;obtain⟨r0,r1,r2,rfl⟩:=Mc ga.nr;sleep 043;rw[Fb];unfold walkZ
 split
 ·show 1<=10000;decide
 ·rename_i h
  split
  ·show 1<=10000;decide
  ·split
   ·show 1<=10000;decide
   ·have:=B4 x0 r1 x1 T (r0,0) ‹_›;show(Standbook.nats _).length<=10000;unfold Standbook.nats;rw[aaa,aat,aaa];omega
def Ox:fb 21:=by
 sleep 000;sleep 02;show 1<=10000
 decide
def P7:fb 22:=by
 sleep 000;sleep 02;show 1<=10000
 decide
def Pz:fb 23:=by
 sleep 000;sleep 02;show 1<=10000
 decide
def P0:fb 24:=by
 sleep 000;sleep 02;show(Standbook.nats [T.bytes.length]++Standbook.bytesOut T.bytes).length<=10000;have:=SM.su T;have:=wf.ol;have:=wf.rows.len;rw[aah];unfold Standbook.nats Standbook.bytesOut;rw[aaa,aaa];show 1+_<=_;omega
def P9:fb 25:=by
 sleep 000;sleep 053;rw[FL];show 1<=10000
 decide
def Qa:fb 26:=by
 sleep 000;sleep 053;show 1<=10000
 decide
def OG:fb 27:=by
 sleep 000;obtain⟨r0,r1,r2,rfl⟩:=Mc ga.nr;sleep 043;rw[yC];show 1<=10000
 decide
def O_:fb 28:=by
 sleep 000;obtain⟨r0,r1,rfl⟩:=ln2 ga.nr;sleep 043;rw[EK];show(ui r0 r1).length<=10000;unfold ui
 split
 ·show 1<=10000;decide
 ·rename_i h
  have hs:Standbook.sound r0=true:=by
   cases e:Standbook.sound r0 with
   |true=>rfl
   |false=>exact absurd (.inl e) h
  have fl:∀l:List Nat,(l.flatMap Standbook.high).length=8*l.length:=λl=>by
   induction l with
   |nil=>rfl
   |cons y l ih=>rw[abv,aah,ih,SM.n4,abb,SM.aN,aat];omega
  have hk:(Standbook.keys r0 r1).length<=4:=by rw[SM.lI];exact(SM.f6 hs).2.1
  unfold Standbook.bytesOut Standbook.pack;dsimp only;rw[aaa,aah,acg,fl];omega
def Oy:fb 29:=by
 sleep 000;obtain⟨r0,r1,rfl⟩:=ln2 ga.nr;sleep 043;rw[yW];show(m9 r0 _).length<=10000;unfold m9
 split
 ·show 1<=10000;decide
 ·unfold Standbook.nats Standbook.unpack;rw[aaa,aaa,abe]
  decide
def M5:∀q:Nat,q<30->fb q
 |0,_=>Rc
 |1,_=>QE
 |2,_=>QC
 |3,_=>QP
 |4,_=>Rq
 |5,_=>QI
 |6,_=>QO
 |7,_=>QN
 |8,_=>Ri
 |9,_=>QD
 |10,_=>Ql
 |11,_=>OT
 |12,_=>O0
 |13,_=>N4
 |14,_=>PF
 |15,_=>OO
 |16,_=>OZ
 |17,_=>NF
 |18,_=>N5
 |19,_=>Qc
 |20,_=>PR
 |21,_=>Ox
 |22,_=>P7
 |23,_=>Pz
 |24,_=>P0
 |25,_=>P9
 |26,_=>Qa
 |27,_=>OG
 |28,_=>O_
 |29,_=>Oy
 |q+30,h=>absurd h 03
def Sb(K:05)(A:aQ)(f:Addr)(sp:Sp):Prop:=∃p,p<30/\A.fs[p]? =some f/\sp=eC K A p
def bO{x:Str}{p k:Nat}{f:Addr}(C:pG mg A)(hx:tf[p]? =some x)(hf:A.fs[p]? =some f)(hk:k<=12)(h:000 k x ["table","reader"] (eC K A p)):∃fd ps,gv P w K mg base mS 12 f fd ps (eC K A p)/\PySem.W.keepIn K 081=true/\Binds K fd ps []:=by
 obtain⟨f',fd,h1,h2,h3,h4⟩:=h.mono hk;have e:=C.at_ p x f hx hf;rw[h1] at e
 obtain rfl:f'=f:=by
  have:=aac e;injection this
 exact⟨fd,_,h4,h2,h3⟩
def Nu(T:006)(C:pG mg A):∀f sp,Sb K A f sp->∃fd ps,gv P w K mg base mS 12 f fd ps sp/\PySem.W.keepIn K 081=true/\Binds K fd ps []:=by
 rintro f sp ⟨p,hp,hf,rfl⟩
 match p,hp,hf with
 |0,_,hf=>exact bO C rfl hf 0010 (DD T)
 |1,_,hf=>exact bO C rfl hf 0010 (zM T)
 |2,_,hf=>exact bO C rfl hf 0010 (DX T)
 |3,_,hf=>exact bO C rfl hf 0010 (DF T)
 |4,_,hf=>exact bO C rfl hf 0010 (Dx T)
 |5,_,hf=>exact bO C rfl hf 0010 (EC T)
 |6,_,hf=>exact bO C rfl hf 0010 (D6 T)
 |7,_,hf=>exact bO C rfl hf 0010 (z9 T)
 |8,_,hf=>exact bO C rfl hf 0010 (Ee T)
 |9,_,hf=>exact bO C rfl hf 0010 (CU T)
 |10,_,hf=>exact bO C rfl hf 0010 (A1 T)
 |11,_,hf=>exact bO C rfl hf 0010 (Dm T)
 |12,_,hf=>exact bO C rfl hf 0010 (D_ T)
 |13,_,hf=>exact bO C rfl hf 0010 (ya T)
 |14,_,hf=>exact bO C rfl hf 0010 (Bn T)
 |15,_,hf=>exact bO C rfl hf 0010 (Gz T)
 |16,_,hf=>exact bO C rfl hf 0010 (BO T)
 |17,_,hf=>exact bO C rfl hf 0010 (Hq T)
 |18,_,hf=>exact bO C rfl hf 0010 (B2 T)
 |19,_,hf=>exact bO C rfl hf 0010 (BE T)
 |20,_,hf=>exact bO C rfl hf 0010 (Bw T)
 |21,_,hf=>exact bO C rfl hf 0010 (Dh T)
 |22,_,hf=>exact bO C rfl hf 0010 (CV T)
 |23,_,hf=>exact bO C rfl hf 0010 (Cy T)
 |24,_,hf=>exact bO C rfl hf 0010 (A_ T)
 |25,_,hf=>exact bO C rfl hf 0010 (BS T)
 |26,_,hf=>exact bO C rfl hf 0010 (zJ T)
 |27,_,hf=>exact bO C rfl hf 0010 (yp T)
 |28,_,hf=>exact bO C rfl hf 0010 (C0 T)
 |29,_,hf=>exact bO C rfl hf 0010 (yh T)
 |q+30,h,_=>exact absurd h 03
end Bk
section
namespace L2
open PySem PySem.Spec PyProof.Rows
def QG{X:Cx}{x:Str}{a:Addr}{pos:Pos}(h:X.mg x=some 046)(hg:Gl X x)(hd:039=false:=by decide):PE X (.Name x pos) (tC 046):=yg hg h rfl hd
end L2
namespace Bk
open PySem PyProof.Rows L2
open Standbook (Order Rows Table Mark Cursor Spot Deed)
variable{P:027}{w:066}{K:05}{mg:005}{base:Heap}{A:aQ}
def uN(K:05)(H:Hp)(a:Addr)(xs:0012):Prop:=(∃o,H a=some (.bK o 0090))\/∃(o:Obj) (its:095) (n:Nat),K.lookup a=some o/\o.cls= .type "list"/\o.dict=none/\o.data= .seq its n/\its.size<=sizeLine/\Vals xs its.toList
def uN.kp{S:016}{H H':Hp}{a:Addr}{xs:0012}(k:0089)(h:uN K H a xs):uN K H' a xs:=by
 rcases h with⟨o,h⟩|h
 ·exact .inl ⟨o,k.eM _ _ _ h⟩
 ·exact .inr h
def uN.sq{H:Hp}{a:Addr}{xs:0012}(h:uN K H a xs):ax K H a xs:=by
 rcases h with⟨o,h⟩|h
 ·exact .inl (.inr ⟨o,h⟩)
 ·exact .inr h
def Cv(H:Hp)(r:Addr):Nat:=match H r with
 |some (.ins _ _ fs)=>match fs.lookup ("position":Str) with
  |some (.int z)=>z.toNat
  |_=>0
 |_=>0
def Fv{H:Hp}{r a:Addr}{i:Nat}(h:fI A H r a i):Cv H r=i:=by
 obtain⟨dx,e⟩:=h;unfold Cv;rw[e];dsimp only;rw[iX];exact aa0 i
def ML{C:Addr->Sp->Prop}{i:Nat}{tl:TA}{σ:L2.St}{H:Hp}{Q:VK}{f:Addr}{sp:Sp}(h1:σ[i]? =some (some 081))(h2:C f sp)(h:tl σ H λvs H1=>sp vs H1 Q E0):IF C E0 i tl σ H Q:=⟨f,sp,h1,h2,h⟩
inductive qY(K:05)(vs:0012)(H:Hp)(Q:VK)(E:XK):Prop
 |mk(a:Addr)(l:025)(_:vs=[.ref a])(_:uN K H a (l.map V.int))(_:PyWqauba.answers_asked l=true)(_:∀H' p,H' p=some (.lst ((PyWqauba.answers l).map V.int))->Q (.ref p) H')
def QW{f:Addr}{fd:FuncData}(T:006)(C:pG mg A)(F:rA K "answers" "answers" (top 137) f fd):gv P w K mg base mS 13 f fd ["calls"] (qY K):=by
 refine rA.ok F jw (λvs H Q E h=>?_) (λcdv B outer s H vs Q E hr h=>?_)
 ·obtain⟨a,l,rfl,_⟩:=h;rfl
 ·obtain⟨a,l,rfl,ha,hask,k⟩:=h;have hcalls:=Nu (P:=P) (w:=w) (base:=base) T C;unfold PyWqauba.answers_asked PyWqauba.calls at hask
  cases ecs:PyFlat.calls PyWqauba.shape l.length l with
  |none=>rw[ecs] at hask;cases hask
  |some cs=>
  rw[ecs] at hask;dsimp only at hask
  have eans:PyWqauba.answers l=PyFlat.told (PyFlat.played StNeutral.step Standbook.empty (cs.map PyWqauba.whole)):=by
   unfold PyWqauba.answers PyWqauba.calls;rw[ecs];rfl
  rw[aak] at hask
  have hall:∀c∈cs,StNeutral.asked1 (PyWqauba.whole c)=true:=λc hc=>by
   have h2:=hask.2;unfold StNeutral.asked at h2;rw[aak,aak] at h2;exact aa3.mp h2.1.1 _ (aaw.mpr ⟨c,hc,rfl⟩)
  have h100:cs.length<=100:=by
   have h1:=aar hask.1;rw[aaa] at h1;exact h1
  have hge:=Pq.Dy _ _ _ ecs hall
  have ens:l.map V.int=nV (Pq.nat l):=by
   unfold nV;have:=aby (List.map V.int) (Pq.Lz hge);rw[aaN] at this;rw[<-this];rfl
  rw[ens] at ha;refine⟨_,(ae (aB (i:=1) jw.nd rfl 001 (Mb (Cg T) 01 rfl)) (ae (aB (i:=2) jw.nd rfl 001 (xM (zf T) 01 rfl 040)) (ae (aB (i:=3) jw.nd rfl 001 (bu ab)) (ae (vp aa5 (bT (br (bf 034 (uL T) 01))) (ae (aB (i:=4) jw.nd rfl 001 (cj 0039 (QG T.MY rfl) (bf 034 (az T) 01) 019)) (ae (aB (i:=5) jw.nd rfl 001 (KO (i:=4) rfl 001 hcalls 01 uh 0103)) (ae (bp (kW (K:=K) rfl aaJ abV abU lW 072 (aa (aI 022 rfl T.bG bh (aa (pv 5) ab)) ab))) (af (bp (kW (K:=K) rfl aaJ abr abq jj 072 (aa (pv 5) ab)))))))) (af (ai 072)))))),?_⟩;kd_p;intro t dx ht hdx hne;refine⟨t,dx,rfl,ah,λH1 d ol cd ml k1 hd iU gD gJ fr=>0091⟩;have s1:au H H1:=iB ht hdx k1;have tab1:TabAt K A H1 t ⟨d,ol,cd,ml,[],[],[],[]⟩ Standbook.empty:=fr.tab;kd_p;intro r dxr hr1 hdr hner;refine⟨r,dxr,a,rfl,ah,λH2 k2 Cq=>0091⟩;have s12:au H1 H2:=iB hr1 hdr k2;have s2:=s1.trans s12;kd_p;refine⟨by rw[aaC];exact aaT _,λD hD=>?_⟩;have s23:au H2 (upd H2 D 0035):=.new hD;have e3:upd H2 D 0035 D=some 0035:=ah;generalize upd H2 D 0035=H3 at s23 e3⊢;have s3:=s2.trans s23;have rL:r∉(⟨d,ol,cd,ml,[],[],[],[]⟩:Lay).all t:=tab1.iZ hr1;have DL:D∉(⟨d,ol,cd,ml,[],[],[],[]⟩:Lay).all t:=(tab1.same s12).iZ hD;obtain⟨dr2,er2⟩:=Cq;kd_p
  refine vK (λσ H'=>∃(i:Nat) (Ti:049) (L:Lay) (cs:List (List (List Int))) (f:Nat) (acc:025) (z1 z2:Option V),σ=[some 046,some (.ref t),some (.ref r),some 0075,z1,z2]/\TabAt K A H' t L Ti/\fI A H' r a i/\uN K H' a (nV (Pq.nat l))/\H' D=some (.lst (zV acc))/\r∉L.all t/\D∉L.all t/\i<=l.length/\PyFlat.calls PyWqauba.shape f (l.drop i)=some cs/\(∀c∈cs,StNeutral.asked1 (PyWqauba.whole c)=true)/\PyWqauba.answers l=acc++PyFlat.told (PyFlat.played StNeutral.step Ti (cs.map PyWqauba.whole))/\acc.length+10001*cs.length<=1000100)
   (λ_ H'=>l.length-Cv H' r) ?_ ?_ ?_
  ·refine⟨0,Standbook.empty,_,cs,l.length,[],none,none,rfl,tab1.same (s12.trans s23),⟨dr2,s23 _ _ er2⟩,ha.kp (Kp.same (S:=[]) s3),e3,rL,DL,aaT _,ecs,hall,eans,by rw[abj];omega⟩
  ·rintro σ H' ⟨i,Ti,L,cs,f,acc,z1,z2,rfl,htab,hrd,hsrc,eD,hrL,hDL,hil,hcal,hask',hans,hlen⟩;obtain⟨drr,err⟩:=id hrd;kd_p;refine aF err (u9 07) ?_;kd_p;refine⟨r,a,Pq.nat l,i,rfl,hrd,hsrc.sq,?_⟩;kd_p;have enl:(Pq.nat l).length=l.length:=aaa _;rw[enl];refine wB 0063 0063
   ·obtain⟨O⟩:=Pq.PV hcal 03;obtain⟨fo,p,xs,rs,rest,nk,i1,j,hp,hs,hx,hrr,ec,hg,hn,hw,lt,le,go⟩:=O;subst ec;obtain⟨aok,hstep⟩:=Pq.FC p hp xs rs nk hs hx hrr (hask' _ aae)
    have ga:GA p (Pq.nat xs) (rs.map Pq.nat):=by
     have es:Mm p=nk:=by unfold Mm;rw[hs];rfl
     refine⟨by rw[es];unfold Pq.nat;rw[aaa];exact hx,by rw[es,aaa];exact hrr,λr' hr'=>?_,λr' hr' x hx'=>?_,λh8 r' hr' x hx'=>?_⟩
     ·obtain⟨r0,h0,rfl⟩:=aaw.mp hr';have:=aok.len r0 h0;unfold Pq.nat;rw[aaa];omega
     ·obtain⟨r0,h0,rfl⟩:=aaw.mp hr';obtain⟨y,hy,rfl⟩:=aaw.mp hx';have:=aok.r0 r0 h0 y hy;omega
     ·obtain⟨r0,h0,rfl⟩:=aaw.mp hr';obtain⟨y,hy,rfl⟩:=aaw.mp hx';have:=aok.b8 h8 r0 h0 y hy;omega
    have hstep:=hstep Ti;have hll:=M5 p hp Ti _ _ htab.wf ga;have estep:StNeutral.step Ti (PyWqauba.whole (((p:Int)::xs)::rs))=act p Ti (Pq.nat xs) (rs.map Pq.nat):=hstep;rw[aaB] at hans
    have eplay:PyFlat.played StNeutral.step Ti (PyWqauba.whole (((p:Int)::xs)::rs)::rest.map PyWqauba.whole)=(act p Ti (Pq.nat xs) (rs.map Pq.nat)).2::PyFlat.played StNeutral.step (act p Ti (Pq.nat xs) (rs.map Pq.nat)).1 (rest.map PyWqauba.whole):=by
     show(StNeutral.step Ti (PyWqauba.whole (((p:Int)::xs)::rs))).2::PyFlat.played StNeutral.step (StNeutral.step Ti (PyWqauba.whole (((p:Int)::xs)::rs))).1 (rest.map PyWqauba.whole)=_;rw[estep]
    rw[eplay] at hans;generalize hact:act p Ti (Pq.nat xs) (rs.map Pq.nat)=res at hans hll;kd_p;refine aF err (u9 07) ?_;kd_p;refine⟨r,a,Pq.nat l,i,p,rfl,hrd,hsrc.sq,hg,λH4 k4 rd4=>?_⟩;have c0:CS K A H' t r a L Ti (Pq.nat l) H' i:=⟨htab,hrd,hsrc.sq,Kp.refl _ _,hrL⟩;have c1:=c0.go k4 rd4;have hfl:=C.len;have hf:A.fs[p]? =some A.fs[p]:=aab 03;kd_p;refine jv (j:=p) (T.Nd H4) (by rw[aai,hf];rfl) ?_;kd_p;refine ML rfl ⟨p,hp,hf,rfl⟩ ?_;kd_p;refine⟨t,r,a,L,Ti,Pq.nat l,i+1,i1,j,Pq.nat xs,rs.map Pq.nat,rfl,⟨c1.tab,c1.rd,c1.src,Kp.refl _ _,hrL⟩,hn,hw,ga,λH5 L5 la t5 rd5 fr5 ap5 e5=>?_⟩;rw[hact] at t5 e5;have Dr:D∉[r]:=λz=>by rw[aT z,err] at eD;cases eD
    have eD4:=k4.keep _ _ eD Dr
    have Drl:D∉r::L.all t:=λz=>by
     sleep 021
     ·exact Dr 0084
     ·exact hDL z
    have eD5:=fr5.kp.keep _ _ eD4 Drl;have laD:la≠D:=ap5 D _ eD4 Drl
    have hrL5:r∉L5.all t:=λz=>by
     rcases fr5.new r z with z|z
     ·exact hrL z
     ·obtain⟨_,e⟩:=rd4;rw[e] at z;cases z
    have hDL5:D∉L5.all t:=λz=>by
     rcases fr5.new D z with z|z
     ·exact hDL z
     ·rw[eD4] at z;cases z
    have hsrc5:uN K H5 a (nV (Pq.nat l)):=(hsrc.kp k4).kp fr5.kp;kd_p;refine⟨.inl ⟨rfl,_,ax.of eD5⟩,?_⟩;kd_p;refine cf (.inl (ax.of e5)) ?_;have ezl:(zV res.2).length=res.2.length:=aaa _;have eza:(zV acc).length=acc.length:=aaa _;rw[ezl];rw[aat] at hlen;kd_p;refine⟨D,_,_,rfl,rfl,eD5,by rw[eza,aaC];omega,?_⟩;have k6:=Kp.lst eD5 (.lst (zV acc++[V.int (res.2.length:Nat)]));have e6:upd H5 D (.lst (zV acc++[V.int (res.2.length:Nat)])) D=some (.lst (zV acc++[V.int (res.2.length:Nat)])):=ah;generalize upd H5 D (.lst (zV acc++[V.int (res.2.length:Nat)]))=H6 at k6 e6⊢;have e56:=k6.keep _ _ e5 (by simpa using laD);kd_p;refine⟨.inl ⟨rfl,_,ax.of e6⟩,?_⟩;kd_p;refine⟨D,la,_,_,rfl,rfl,e6,e56,by rw[aah,eza,ezl,aaC];show _+1+_<=_;omega,?_⟩;have k7:=Kp.lst e6 (.lst (zV acc++[V.int (res.2.length:Nat)]++zV res.2))
    have e7:upd H6 D (.lst (zV acc++[V.int (res.2.length:Nat)]++zV res.2)) D=some (.lst (zV (acc++(res.2.length:Int)::res.2))):=by
     rw[ah];unfold zV;rw[aaP,aaB,aaL];rfl
    generalize upd H6 D (.lst (zV acc++[V.int (res.2.length:Nat)]++zV res.2))=H7 at k7 e7⊢;have k57:Kp [D] H5 H7:=k6.trans k7;have t7:TabAt K A H7 t L5 res.1:=t5.kp k57 λb hb z=>hDL5 (by rw[<-aT z];exact hb);have rd7:fI A H7 r a j:=rd5.kp k57 λz=>Dr (by rw[aT z];simp);refine⟨⟨j,res.1,L5,rest,fo,acc++(res.2.length:Int)::res.2,_,_,rfl,t7,rd7,hsrc5.kp k57,e7,hrL5,hDL5,le,go,λc hc=>hask' c (aag _ hc),?_,?_⟩,?_⟩
    ·rw[hans];unfold PyFlat.told;rw[abv,aaL,List.cons_append]
    ·rw[aah,aat];omega
    ·show l.length-Cv H7 r<l.length-Cv H' r;rw[Fv rd7,Fv hrd];omega
   ·have e0:l.drop i=[]:=acC q;rw[e0] at hcal
    have ec:cs=[]:=by
     cases f<;>exact(aac hcal).symm
    subst ec;have e9:PyWqauba.answers l=acc:=by rw[hans];exact aa7 _
    kd_p;refine k H' D ?_;rw[eD,e9];rfl
  ·intro σ H1 Q1 Q2 hq h;obtain⟨v,e1,a,dx,fs,e2,e3,e4,r,a',ns,i,e5,e6,e7,h⟩:=lj.out h;exact lj.mk e1 ⟨a,dx,fs,e2,e3,e4,r,a',ns,i,e5,e6,e7,hq _ _ h⟩
end Bk
end
namespace Bk
open PySem PySem.Spec PyProof.Rows L2
def Qp{K:05}{H:Hp}{a:Addr}{xs:0012}(hO:oM H)(h:ax K H a xs):uN K H a xs:=by
 unfold ax Rd at h;unfold uN;rcases h with(h|⟨o,h⟩)|h
 ·rcases hO a with q|⟨o,u,q⟩
  ·rw[q] at h;cases h
  ·rw[q] at h;cases h
 ·exact .inl ⟨o,h⟩
 ·exact .inr h
def RR(K:05)(H:Hp)(xs:0012)(a:PySem.W.Codec.denoteAll PySem.Challenge.rw_standtable_s01_answers.args)(hO:oM H)(hwi:PySem.W.Codec.withinAll PySem.Challenge.rw_standtable_s01_answers.args a=true)(hask:PySem.W.Codec.app PySem.Challenge.rw_standtable_s01_answers.args PySem.Challenge.rw_standtable_s01_answers.asked a=true)(hx:i_ K H xs (PySem.W.Codec.encAll PySem.Challenge.rw_standtable_s01_answers.args a)):qY K xs H (λv H'=>Dw K H' v (PySem.Challenge.rw_standtable_s01_answers.ret.enc (PySem.W.Codec.app PySem.Challenge.rw_standtable_s01_answers.args PySem.Challenge.rw_standtable_s01_answers.f a))) λ_ _ _=>False:=by
 cases hx with
 |cons h1 h2=>
  cases h2
  cases h1 with
  |lst hs ha=>
   have e:=FU a.1 _ ha;subst e;exact⟨_,a.1,rfl,Qp hO hs,hask,λH' p hp=>.lst (ax.of hp) (FP _)⟩
end Bk
end
end
theorem PySem.Challenge.cw_standtable_s01_answers_holds : PySem.Challenge.rw_standtable_s01_answers.Holds := by
  exact hd ⟨Bk.qY, fun _ _ _ _ _ _ _ _ T C F => Bk.QW T C F, Bk.RR⟩
