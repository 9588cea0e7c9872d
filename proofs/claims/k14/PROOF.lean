import PyProof.Rows.All
import Wide.All
import OpenK.AllK
import Wide.FinOn
import KE.KStateDown
import PyProof.InstEq
import PyProof.InstNe
import PyProof.Rows.NestShow
import HandS.ForMost
import HandS.Defaults
import HandS.Exc
import HandS.IsInst
import HandS.OwnEq
import HandS.Codes
import HandS.Wide
import HandS.Evl
import HandS.Iter
import KE.KDictZip
import KE.KTurns
import HandS.Dict
import HandS.Strs
import KE.KDictPairs
import HandS.Sort
import PyProof.FactsAll.range_2
import HandS.MakeKwOnly
import HandS.Ends
import HandS.HeadEnd
import HandS.Style
import HandS.TupAny
import HandS.Star
import KE.KEqNest
import KE.GoesEnum
import KE.GoesMore
import PyProof.SliceList
import HandS.Conv
import HandS.ListItems
import HandS.Deep
import HandS.Replace
import HandS.HeadHook1
import HandS.HeadHook2
import HandS.HeadHook4
import HandS.WordsExc
import HandS.Head0
import HandS.Head1
import HandS.Head2
import HandS.Head3
import HandS.HeadHook3
import HandS.Walk
import PyProof.StrLawsRepr
import HandS.Gcd
import HandS.DictSub
import HandS.Zip
import HandS.FStr
import HandS.TryOnly
import PySem.Challenge.RW_fairpatch_k14_games_step_by_step
set_option Elab.async false
set_option linter.all false
set_option maxRecDepth 100000
set_option maxHeartbeats 4000000
/-! Further rules: defs that are run where nothing is being shown (repr), methods called with keywords, own len, in, ==, !=. -/
namespace L2
open PySem PySem.Spec PyProof.Rows

/-! ### defs called where nothing is being shown -/
structure FnG (P : Program) (w : World) (K : PySem.W.Frag) (mg : Str → Option Value) (base : Heap) (CX : CXT) (k : Nat) (f : Addr) (fd : FuncData) (ps : List Str) (sp : Sp) : Prop where
  len : ∀ vs H Q E, sp vs H Q E → vs.length = ps.length
  run : ∀ (A : Around) (outer : List Env) (s : Shared) (H : Hp) (args : Args) (us : List Value) (vs : List V) (Q : VK) (E : XK), A.guards = some [] → Room k A → Env0 P w K mg base A outer s H → BindsTo s fd args (ps.zip us) → Vals vs us → sp vs H Q E →
    codeAny (model P w) A (.call (.ref f) args) (CR CX outer P w H s Q E) s
theorem FnOk.g {P : Program} {w : World} {K : PySem.W.Frag} {mg : Str → Option Value} {base : Heap} {CX : CXT} {k : Nat} {f : Addr} {fd : FuncData} {ps : List Str} {sp : Sp} (F : FnOk P w K mg base CX k f fd ps sp) : FnG P w K mg base CX k f fd ps sp :=
  ⟨F.len, fun A outer s H args us vs Q E _ hr => F.run A outer s H args us vs Q E hr⟩
theorem fn_ofG {CX : CXT} {P : Program} {w : World} {K : PySem.W.Frag} {mg : Str → Option Value} {base : Heap} {k : Nat} {f : Addr} {name qual : Str} {params : Arguments} {body : List Stmt} {scope : Scope} {dV kV doc pm cdv ct oc : Value} {an od : Option Addr}
    {osl : Array (Option Value)} {N ps : List Str} {sp : Sp} (lk : K.lookup f = some ⟨oc, od, .func (PySem.W.fnOf name qual params body scope dV kV doc pm an cdv ct), osl⟩) (hcd : PySem.W.codeIn K cdv qual = true) (S : FnScope N ps scope)
    (len : ∀ vs H Q E, sp vs H Q E → vs.length = ps.length)
    (hbody : ∀ (A : Around) (outer : List Env) (s : Shared) (H : Hp) (vs : List V) (Q : VK) (E : XK), (A.deeper (envOfC qual scope s.heap.objs.size f cdv)).guards = some [] → Room k (A.deeper (envOfC qual scope s.heap.objs.size f cdv)) → sp vs H Q E →
      ∃ t, PSs (cxOf CX P w K mg base N qual scope f cdv A outer s H E) body t ∧ t { nx := fun _ H' => Q .non H', rt := Q } (start N vs) H) :
    FnG P w K mg base CX (k + 1) f (PySem.W.fnOf name qual params body scope dV kV doc pm an cdv ct) ps sp := by
  refine ⟨len, fun A outer s H args us vs Q E hG hr e0 hb r hsp => ?_⟩
  have hl := len _ _ _ _ hsp
  have KX : K.In s.heap := e0.mod.kin.keeps fun b o e => (e0.bs b o e).1
  have lim : s.heap.NoLimit := e0.mod.nolimit.keeps fun b o e => (e0.bs b o e).1
  have hkind : ∀ y ∈ ps.zip us, scope.names.lookup y.1 = some .local ∨ (scope.names.lookup y.1 = some .cell ∧ ((cellsFrom (s.heap.objs.size + 1) scope.names []).lookup y.1).isSome = true) := fun ⟨n, v⟩ hy => by
    rcases S.par n (List.of_mem_zip hy).1 with q | q
    · exact .inl q
    · exact .inr ⟨q, PySem.W.cellsFrom_some _ _ _ (.inl q)⟩
  refine codeAny_call_function hr.depth (KX _ _ lk) rfl S.co S.gen rfl (PySem.W.codeRec_of KX hcd) (hb _ _ _ _ ?_)
  refine wpAny_newFunctionEnv_cells S.kind hkind fun env he s1 x => ?_
  subst he
  refine ⟨lim.keeps x.toInCall.keep, codeAny_func ?_⟩
  obtain ⟨t, ht, hq⟩ := hbody A outer s H vs Q E hG (hr.deeper _) hsp
  have I : Inv (cxOf CX P w K mg base N qual scope f cdv A outer s H E) [] (start N vs) H s1 := inv_start S hr.hd e0 hl r x
  refine wpAny_mono (ht.run [] s1 (start N vs) H _ I hq) (fun fl s' hs => ?_) fun e s' hs => hs
  have fin : ∀ {σ' : St} {H' : Hp} {v : V} {u : Value}, Inv (cxOf CX P w K mg base N qual scope f cdv A outer s H E) [] σ' H' s' → RelV v u → Q v H' → CE outer P w H s Q u s' :=
    fun {σ' H' v u} J rv q => ⟨v, H', J.os, J.bare, J.base, J.hok, rv, q⟩
  cases fl with
  | ret u =>
    obtain ⟨v, σ', H', J, rv, q⟩ := hs
    exact fin J rv q
  | next =>
    obtain ⟨σ', H', J, q⟩ := hs
    exact fin (v := V.non) (u := Value.none) J rfl q
  | brk =>
    obtain ⟨_, _, _, q⟩ := hs
    exact False.elim q
  | cont =>
    obtain ⟨_, _, _, q⟩ := hs
    exact False.elim q
theorem FunD.okG {CX : CXT} {P : Program} {w : World} {K : PySem.W.Frag} {mg : Str → Option Value} {base : Heap} {x qual : Str} {params : Arguments} {body : List Stmt} {scope : Scope} {dvs : List V} {kws : List (Str × V)} {f : Addr} {fd : FuncData} {N ps : List Str} {k : Nat} {sp : Sp}
    (F : FunD K x qual params body scope dvs kws f fd) (S : FnScope N ps scope) (len : ∀ vs H Q E, sp vs H Q E → vs.length = ps.length)
    (hbody : ∀ (cdv : Value) (A : Around) (outer : List Env) (s : Shared) (H : Hp) (vs : List V) (Q : VK) (E : XK), (A.deeper (envOfC qual scope s.heap.objs.size f cdv)).guards = some [] → Room k (A.deeper (envOfC qual scope s.heap.objs.size f cdv)) → sp vs H Q E →
      ∃ t, PSs (cxOf CX P w K mg base N qual scope f cdv A outer s H E) body t ∧ t { nx := fun _ H' => Q .non H', rt := Q } (start N vs) H) : FnG P w K mg base CX (k + 1) f fd ps sp := by
  obtain ⟨oc, od, dV, kV, doc, pm, an, cdv, ct, osl, rfl, lk, hcd, _, _⟩ := F.ex
  exact fn_ofG lk hcd S len fun A outer s H vs Q E hG hr hsp => hbody cdv A outer s H vs Q E hG hr hsp

/-- a def of the module, called where nothing is being shown -/
structure CalG (P : Program) (w : World) (K : PySem.W.Frag) (mg : Str → Option Value) (base : Heap) (k : Nat) (x : Str) (sp : Sp) : Prop where
  ex : ∃ (f : Addr) (fd : FuncData) (ps : List Str), FnG P w K mg base CX0 k f fd ps sp ∧ mg x = some (.ref f) ∧ PySem.W.keepIn K (.ref f) = true ∧ Binds K fd ps []
section
variable {X : Cx} {CX : CXT} {k j : Nat} {f C : Addr} {fd : FuncData} {ps ks : List Str} {sp : Sp} {ds : List Value} {dvs : List V} {E : XK} {x m : Str} {p pos apos : Pos} {e o : Expr} {es : List Expr} {kws : List Keyword} {ta : TE} {t tk : TA} {g : List Value → List Value → List Value} {gV : List V → List V → List V}
theorem pe_cG (c : CalG X.prog X.w X.K X.mg X.base k x sp) (hG : X.A.guards = some []) (hr : Room j X.A) (hk : k ≤ j) (hg : Gl X x) (ha : PA X (e :: es) t)
    (hdb : (x == ("__debug__" : Str)) = false := by decide) (he : starEach (e :: es) X.env = (false, eval e X.env) :: starEach es X.env := by rfl) (hpl : (backTo pos (starEach es X.env)).any (·.1) = false := by rfl) :
    PE X (.Call (.Name x p) (e :: es) [] pos) (tCall sp [] E0 t) := by
  obtain ⟨f, fd, ps, F, hm, kp, hb⟩ := c.ex
  refine ⟨fun pins s σ H Q I h => ?_⟩
  refine wpAny_Call_Name_kw (ld_glob I hg hm ?_ hdb)
  refine PySem.W.callWith_K (h₀ := X.base) I.ok.mod.kin kp (thn (ha.run pos pins s σ H _ I h) fun us s1 ⟨vs, H1, I1, r, q⟩ => ⟨I1.kIn, ?_⟩) he hpl
  have r2 : Vals (vs ++ []) (us ++ []) := r.append .nil
  have hl : (us ++ []).length = ps.length := by rw [← r2.length]; exact F.len _ _ _ _ q
  refine wpAny_call (codeAny_mono (F.run X.A X.stack s1 H1 ⟨us, []⟩ (us ++ []) (vs ++ []) Q E0 hG (hr.mono hk) I1.env0 (hb s1 us I1.kIn hl) r2 q) fun r s' hq => ?_)
  cases r with
  | error e => exact False.elim hq
  | ok fl =>
    cases fl with
    | ret u => exact I1.after hq
    | next => exact False.elim hq
    | brk => exact False.elim hq
    | cont => exact False.elim hq

/-! ### a method called with keywords -/
def tMethK (C : Addr) (m : Str) (n nk : Nat) (sp : Sp) (gV : List V → List V → List V) (E : XK) (ta : TE) (t tk : TA) : TE := fun σ H Q => ta σ H fun x H1 => ∃ a dx fs, x = .ref a ∧ H1 a = some (.ins C dx fs) ∧ fs.lookup m = none ∧
  t σ H1 fun vs H2 => tk σ H2 fun zs H3 => vs.length = n ∧ zs.length = nk ∧ sp (gV (x :: vs) zs) H3 Q E
theorem run_fnKn {pins : List (Addr × Obj)} {σ : St} {H : Hp} {s : Shared} {Q : VK} {us ws : List Value} {vs zs : List V} {n : Nat} (F : FnOk X.prog X.w X.K X.mg X.base CX k f fd ps sp) (hr : Room k X.A) (hb : KBn X.K fd ps n ks g gV) (hx : Passes CX X E)
    (I : Inv X pins σ H s) (r : Vals vs us) (rz : Vals zs ws) (l1 : vs.length = n) (l2 : zs.length = ks.length) (h : sp (gV vs zs) H Q E) : wpAny (model X.prog X.w) X.A (call (.ref f) us (ks.zip ws)) (EP X pins σ Q) X.xe s := by
  have r2 := hb.rel r rz
  refine wpAny_call (codeAny_mono (F.run X.A X.stack s H ⟨us, ks.zip ws⟩ (g us ws) (gV vs zs) Q E hr I.env0 (hb.to s us ws I.kIn (r.length.symm.trans l1) (rz.length.symm.trans l2)) r2 h) fun r s' hq => ?_)
  cases r with
  | error e => exact hx pins σ H s e s' I hq
  | ok fl =>
    cases fl with
    | ret u => exact I.after hq
    | next => exact False.elim hq
    | brk => exact False.elim hq
    | cont => exact False.elim hq
theorem pe_methK0 {pl : Sem Bool} (he : PE X o ta) (c : Cls X.K C) (hm : Meth X.K C m f) (F : FnOk X.prog X.w X.K X.mg X.base CX k f fd ps sp) (hr : Room k X.A) (hb : KBn X.K fd ps 1 ks g gV) (hx : Passes CX X E) (hkw : PK X kws tk)
    (hall : (backToKw pos (keywordEach kws X.env)).all (·.1.isSome) = true := by rfl) (hks : (backToKw pos (keywordEach kws X.env)).filterMap (·.1) = ks := by rfl)
    (hpl : ((backTo pos (starEach [] X.env)).any (·.1) || (backToKw pos (keywordEach kws X.env)).any (·.1.isNone)) = false := by rfl)
    (ht : eval (.Call (.Attribute o m apos) [] kws pos) X.env = (do
      let ov ← eval o X.env
      standAt apos.atName
      let (f, first) ← holding [ov] (getMethod ov m pl)
      callWith pos f first (backTo pos (starEach [] X.env)) (backToKw pos (keywordEach kws X.env))) := by rfl) :
    PE X (.Call (.Attribute o m apos) [] kws pos) (tMethK C m 0 ks.length sp gV E ta tNil tk) := by
  refine ⟨fun pins s σ H Q I h => ?_⟩
  refine PySem.W.methodCall_KW (pl := pl) (thn (he.run pins s σ H _ I h) fun u s1 ⟨x, H1, I1, rx, a, dx, fs, ex, ea, l, q⟩ => ?_) ht
  subst ex
  obtain rfl : u = Value.ref a := rx
  refine getmeth_ok I1 ea c hm l ?_
  refine PySem.W.callWith_KW0 (first := [.ref a]) I1.kIn hm.kp hall ?_ hpl
  refine thn (hkw.run pos pins s1 σ H1 _ I1 q) fun ws s2 ⟨zs, H2, I2, rz, l1, l2, q2⟩ => ⟨I2.kIn, ?_⟩
  rw [hks]
  exact run_fnKn (us := [.ref a]) (vs := [.ref a]) F hr hb hx I2 (.cons rfl .nil) rz rfl l2 q2
end

/-! ### repr of data -/
structure rRepr (K : PySem.W.Frag) (xs : List V) (H : Hp) (Q : VK) : Prop where
  ex : ∃ v d, xs = [v] ∧ Dp K H v d ∧ d.showable = true ∧ d.hasDict = false ∧ d.depth ≤ 60 ∧ d.shown.length ≤ sizeLine ∧ Q (.str d.shown) H
theorem call_repr {X : Cx} (hG : X.A.guards = some []) (hu : X.A.units + 64 < cLine) : CallR X (.builtin "repr") (rRepr X.K) := by
  intro pins s σ H xs us Q I r h
  obtain ⟨v, d, rfl, hd, hs, hnd, hdep, hz, q⟩ := h.ex
  obtain ⟨u, rfl, ru⟩ := vals1 r
  obtain ⟨as, rd⟩ := Dp.reads I d v u hd ru
  cases rd with
  | none => exact PySem.P.repr_of_none ⟨.str _, H, I.tok _, ⟨_, rfl⟩, q⟩
  | bool b => exact PySem.P.repr_of_bool ⟨.str _, H, I.tok _, ⟨_, rfl⟩, q⟩
  | int i t =>
    have hs' : decide (i.natAbs.log2 < 1920) = true := by simpa [PyData.showable] using hs
    exact PySem.P.repr_of_int (of_decide_eq_true hs') ⟨.str _, H, I.tok _, ⟨_, rfl⟩, q⟩
  | str x t => exact PySem.P.repr_of_str ⟨.str _, H, I.tok _, ⟨_, rfl⟩, q⟩ hz
  | list h1 h2 h3 h4 =>
    exact repr_of_reads' (.list h1 h2 h3 h4) hs (PyData.noDict_hsm hnd) hG (by omega) (fun _ _ e => e) (fun h' u tk hk => ⟨.str _, H, I.kept (t' := tk) hk, ⟨_, rfl⟩, q⟩) hz
  | tuple h1 h2 h3 h4 =>
    exact repr_of_reads' (.tuple h1 h2 h3 h4) hs (PyData.noDict_hsm hnd) hG (by omega) (fun _ _ e => e) (fun h' u tk hk => ⟨.str _, H, I.kept (t' := tk) hk, ⟨_, rfl⟩, q⟩) hz
  | dict h1 h2 h3 h4 h5 => cases hd

/-! ### own len, in, ==, != -/
/-- a special method of the class at C -/
structure Spc (P : Program) (w : World) (K : PySem.W.Frag) (mg : Str → Option Value) (base : Heap) (k : Nat) (C : Addr) (m : Str) (sp : Sp) : Prop where
  ex : ∃ (f : Addr) (fd : FuncData) (ps : List Str), PySem.W.findIn K (.ref C) m = some (some (.ref f)) ∧ PySem.W.isFn K (.ref f) = true ∧ FnOk P w K mg base CX0 k f fd ps sp ∧ Binds K fd ps []
section
variable {X : Cx} {k j : Nat} {C : Addr} {sp : Sp}
def rOwnLen (C : Addr) (sp : Sp) : List V → Hp → VK → Prop := fun xs H Q => ∃ a dx fs, xs = [.ref a] ∧ H a = some (.ins C dx fs) ∧ sp [.ref a] H (fun v H' => ∃ n : Int, v = .int n ∧ 0 ≤ n ∧ n < 2 ^ 63 ∧ Q (.int n) H') E0
theorem Inv.in1 {X : Cx} {pins : List (Addr × Obj)} {σ : St} {H : Hp} {s : Shared} (I : Inv X pins σ H s) : Env0 X.prog X.w X.K X.mg X.base X.A.in1 X.stack s H :=
  ⟨I.env0.frames, I.env0.mod, I.env0.bs, I.env0.bsz, I.env0.funs, I.env0.frf, I.env0.hok, I.env0.bare⟩
theorem call_ownLen (c : Spc X.prog X.w X.K X.mg X.base k C "__len__" sp) (hr : Room j X.A) (hk : k + 1 ≤ j) : CallR X (.builtin "len") (rOwnLen C sp) := by
  intro pins s σ H xs us Q I r h
  obtain ⟨a, dx, fs, rfl, ha, q⟩ := h
  obtain ⟨f, fd, ps, hs, hf, F, hb⟩ := c.ex
  obtain ⟨u, rfl, ru⟩ := vals1 r
  obtain rfl : u = Value.ref a := ru
  obtain ⟨mA, J, _⟩ := ins_get I.hok ha
  obtain ⟨od, J, _⟩ := J.look
  obtain ⟨m, hF⟩ := I.fr
  refine PySem.W.len_K hF I.ok.mod.kin J hs hf ?_
  have hl := F.len _ _ _ _ q
  have r2 : Vals [V.ref a] [Value.ref a] := .cons rfl .nil
  refine wpAny_call (codeAny_mono (F.run X.A.in1 X.stack s H ⟨[.ref a], []⟩ [.ref a] [.ref a] _ E0 ((hr.mono hk).in1) I.in1 (by
    have := hb s [.ref a] I.kIn (by simpa using hl)
    simpa using this) r2 q) fun r s' hq => ?_)
  cases r with
  | error e => exact False.elim hq
  | ok fl =>
    cases fl with
    | ret w =>
      obtain ⟨z, H', I', rz, n, ez, h0, h1, q'⟩ := I.after hq
      subst ez
      obtain ⟨t, rfl⟩ := rz
      exact ⟨⟨h0, h1⟩, .int n, H', I'.tok _, ⟨_, rfl⟩, q'⟩
    | next => exact False.elim hq
    | brk => exact False.elim hq
    | cont => exact False.elim hq
/-- run a special method of two arguments that answers True or False -/
theorem run_spc2 {m : Str} {pins : List (Addr × Obj)} {σ : St} {H : Hp} {s : Shared} {a : Addr} {y : V} {u : Value} {Q : Bool → Hp → Prop} {f : Addr} {fd : FuncData} {ps : List Str} {A : Around} (hA : A.frames = X.A.frames) (hr : Room k A)
    (F : FnOk X.prog X.w X.K X.mg X.base CX0 k f fd ps sp) (hb : Binds X.K fd ps []) (I : Inv X pins σ H s) (ry : RelV y u) (q : sp [.ref a, y] H (fun v H' => ∃ b, v = .bl b ∧ Q b H') E0) :
    wpAny (model X.prog X.w) A (call (.ref f) [.ref a, u]) (fun w' s' => ∃ b H', w' = .bool b ∧ Inv X pins σ H' s' ∧ Q b H') X.xe s := by
  have hl := F.len _ _ _ _ q
  have e0 : Env0 X.prog X.w X.K X.mg X.base A X.stack s H := by
    have e := I.env0
    exact ⟨by rw [hA]; exact e.frames, e.mod, e.bs, e.bsz, e.funs, e.frf, e.hok, e.bare⟩
  refine wpAny_call (codeAny_mono (F.run A X.stack s H ⟨[.ref a, u], []⟩ [.ref a, u] [.ref a, y] _ E0 hr e0 (by
    have := hb s [.ref a, u] I.kIn (by simpa using hl)
    simpa using this) (.cons rfl (.cons ry .nil)) q) fun r s' hq => ?_)
  cases r with
  | error e => exact False.elim hq
  | ok fl =>
    cases fl with
    | ret w =>
      obtain ⟨z, H', I', rz, b, ez, q'⟩ := I.after hq
      subst ez
      cases rz
      exact ⟨b, H', rfl, I', q'⟩
    | next => exact False.elim hq
    | brk => exact False.elim hq
    | cont => exact False.elim hq
def rOwnIn (C : Addr) (sp : Sp) (neg : Bool) : R2 := fun x y H Q => ∃ a dx fs, y = .ref a ∧ H a = some (.ins C dx fs) ∧ sp [.ref a, x] H (fun v H' => ∃ b, v = .bl b ∧ Q (.bl (b != neg)) H') E0
theorem op_ownIn (c : Spc X.prog X.w X.K X.mg X.base k C "__contains__" sp) (hr : Room j X.A) (hk : k ≤ j) : OpR X (compareOp .In) (rOwnIn C sp false) := by
  intro pins s σ H x y v u Q I rx ry h
  obtain ⟨a, dx, fs, rfl, ha, q⟩ := h
  obtain ⟨f, fd, ps, hs, hf, F, hb⟩ := c.ex
  obtain rfl : u = Value.ref a := ry
  obtain ⟨mA, J, _⟩ := ins_get I.hok ha
  obtain ⟨od, J, _⟩ := J.look
  obtain ⟨m, hF⟩ := I.fr
  refine PySem.W.in_K hF I.ok.mod.kin J hs hf (wpAny_mono (run_spc2 (m := "__contains__") rfl (hr.mono hk) F hb I rx q) (fun r s' hq => ?_) fun _ _ e => e)
  obtain ⟨b, H', rfl, I', q'⟩ := hq
  refine wpAny_truthy_bool ⟨.bl _, H', I', rfl, ?_⟩
  simpa using q'
theorem op_ownNotIn (c : Spc X.prog X.w X.K X.mg X.base k C "__contains__" sp) (hr : Room j X.A) (hk : k ≤ j) : OpR X (compareOp .NotIn) (rOwnIn C sp true) := by
  intro pins s σ H x y v u Q I rx ry h
  obtain ⟨a, dx, fs, rfl, ha, q⟩ := h
  obtain ⟨f, fd, ps, hs, hf, F, hb⟩ := c.ex
  obtain rfl : u = Value.ref a := ry
  obtain ⟨mA, J, _⟩ := ins_get I.hok ha
  obtain ⟨od, J, _⟩ := J.look
  obtain ⟨m, hF⟩ := I.fr
  refine PySem.W.notIn_K hF I.ok.mod.kin J hs hf (wpAny_mono (run_spc2 (m := "__contains__") rfl (hr.mono hk) F hb I rx q) (fun r s' hq => ?_) fun _ _ e => e)
  obtain ⟨b, H', rfl, I', q'⟩ := hq
  refine wpAny_truthy_bool ⟨.bl _, H', I', rfl, ?_⟩
  simpa using q'
/-- x == y, x an instance of the class at C with an own __eq__, y anything whose class is not below C -/
def rOwnEq (K : PySem.W.Frag) (C : Addr) (sp : Sp) : R2 := fun x y H Q => ∃ a dx fs t, x = .ref a ∧ H a = some (.ins C dx fs) ∧ TyX K H y t ∧ PySem.W.notFirst K C t = true ∧ sp [.ref a, y] H (fun v H' => ∃ b, v = .bl b ∧ Q (.bl b) H') E0
theorem op_ownEq (c : Spc X.prog X.w X.K X.mg X.base k C "__eq__" sp) (hr : Room j X.A) (hk : k ≤ j) : OpR X (compareOp .Eq) (rOwnEq X.K C sp) := by
  intro pins s σ H x y v u Q I rx ry h
  obtain ⟨a, dx, fs, t, rfl, ha, ht, hn, q⟩ := h
  obtain ⟨f, fd, ps, hs, hf, F, hb⟩ := c.ex
  obtain rfl : v = Value.ref a := rx
  obtain ⟨mA, J, _⟩ := ins_get I.hok ha
  obtain ⟨od, J, _⟩ := J.look
  obtain ⟨m, hF⟩ := I.fr
  obtain ⟨P, Z, p, hx⟩ := kit_of I ry ht
  show wpAny (model X.prog X.w) X.A (richCompare .Eq (.ref a) u) (EP X pins σ Q) X.xe s
  refine PySem.W.cmp_K (op := .Eq) (tb := t) (by have := hr.un; omega) hF I.ok.mod.kin J (Z.ty _ _ I.kIn p) hn hs hf (wpAny_mono (run_spc2 (m := "__eq__") rfl (hr.mono hk) F hb I ry q) (fun r s' hq => ?_) fun _ _ e => e)
  obtain ⟨b, H', rfl, I', q'⟩ := hq
  exact ⟨.bl b, H', I', rfl, q'⟩
end
end L2
namespace PySem.W
open PySem PySem.Spec PySem.Calls PyProof.Rows
section
variable {prog : Program} {w : World} {A A₀ : Around} {E : Value → Shared → Prop} {s : Shared} {K : Frag} {x C L f : Addr} {h₀ : Heap} {m : Str → Option Value} {ox : Obj} {od : Option Obj} {name : Str} {b tb : Value}
theorem ifBound_ne {M : Model} {args : List Value} {Q : Option Value → Shared → Prop} (X : K.In s.heap) (I : InstAt s.heap x ox C od) (hs : findIn K (.ref C) "__ne__" = some (some (.builtin "object.__ne__")))
    (h : wpAny M A (call (.builtin "object.__ne__") (.ref x :: args)) (fun v => Q (some v)) E s) : wpAny M A (callSpecialIfBound? (.ref x) "__ne__" args) Q E s := by
  simp only [callSpecialIfBound?, bindSpecialIfBound?]
  refine wpAny_holding (wpAny_bind (wpAny_bind (wpAny_bind (I.type.here ((looks_findIn X hs).here ?_)))))
  simp only [PySem.F.cmp_object.ne.bind]
  refine wpAny_bind (wpAny_askSetting (wpAny_ite ?_))
  have fin : wpAny M A (call (.builtin "object.__ne__") ([.ref x] ++ args) >>= fun v => pure (some v)) Q E s := wpAny_bind (wpAny_mono h (fun v s' h' => wpAny_pure h') fun _ _ h' => h')
  split
  · exact wpAny_bind (wpAny_pure (wpAny_pure fin))
  · exact wpAny_tryCatch (wpAny_bind (wpAny_pure (wpAny_pure fin)))
theorem ne_K {Q : Value → Shared → Prop} (hu : A.units + 1 < cLine) (F : Fr h₀ L s.heap m) (X₀ : K.In h₀) (I : InstAt s.heap x ox C od) (hb : Looks (model prog w) s.heap (typeOf b) tb) (hn : notFirst K C tb = true)
    (hne : findIn K (.ref C) "__ne__" = some (some (.builtin "object.__ne__"))) (hob : mroIn K C (.type "object") = some true) (hs : findIn K (.ref C) "__eq__" = some (some (.ref f))) (hf : isFn K (.ref f) = true)
    (h : wpAny (model prog w) A.in1 (call (.ref f) [.ref x, b]) (fun v s' => ∃ r, v = .bool r ∧ Q (.bool (!r)) s') E s) : wpAny (model prog w) A (richCompare .NotEq (.ref x) b) Q E s := by
  have X := X₀.keeps F.keep
  have sub : Looks (model prog w) s.heap (isInstance (.ref x) (.type "object")) true := I.type.andThen (looks_mroIn X hob)
  have one : wpAny (model prog w) A (tryCompare (.ref x) "__ne__" b) (fun r s' => ∃ v, r = some v ∧ Q v s') E s := by
    unfold tryCompare
    refine wpAny_bind (ifBound_ne X I hne (wpAny_call (codeAny_call_builtin PySem.F.cmp_object.ne.plain PySem.F.cmpEntry_ne ?_)))
    refine @W.check_slot (model prog w) _ _ s "object.__ne__" "object" "__ne__" (.ref x) [b] [] _ PySem.F.cmpKind_ne PySem.F.cmpSplit_ne sub (PySem.F.cmpArgs_ne (.ref x) b) ?_
    unfold Builtin.«object.__ne__»
    refine wpAny_bind (wpAny_of_eq (a := ((Value.ref x : Value), [b])) (by first | rfl | (simp only [slotArgs]; rfl)) ?_)
    refine wpAny_bind (wpAny_cRoomFor hu ?_)
    refine wpAny_bind (ifBound_K (name := "__eq__") X I hs hf (wpAny_mono h (fun v s' hv => ?_) fun _ _ e => e))
    obtain ⟨r, rfl, hq⟩ := hv
    refine wpAny_bind (wpAny_truthy_bool ?_)
    first
      | exact wpAny_pure ⟨_, rfl, hq⟩
      | exact wpAny_pure (wpAny_pure ⟨_, rfl, hq⟩)
      | exact wpAny_pure (wpAny_bind (wpAny_pure (wpAny_pure ⟨_, rfl, hq⟩)))
  unfold richCompare
  simp only [oneThing_ref]
  refine wpAny_holding (wpAny_bind (wpAny_cRoomFor (by omega) ?_))
  refine wpAny_bind (I.type.here (wpAny_bind (hb.here ?_)))
  split
  · rename_i q
    have e : subIn K tb (.ref C) = some false := by
      rcases Bool.or_eq_true_iff.mp hn with e | e
      · rw [beq_iff_eq.mp e] at q; simp at q
      · exact beq_iff_eq.mp e
    refine wpAny_bind ((looks_subIn X e).here ?_)
    simp only [Bool.false_eq_true, if_false]
    refine wpAny_bind (wpAny_mono one (fun r s' z => ?_) fun _ _ e => e)
    obtain ⟨v, rfl, hq⟩ := z
    exact wpAny_pure hq
  · refine wpAny_bind (wpAny_pure ?_)
    simp only [Bool.false_eq_true, if_false]
    refine wpAny_bind (wpAny_mono one (fun r s' z => ?_) fun _ _ e => e)
    obtain ⟨v, rfl, hq⟩ := z
    exact wpAny_pure hq
end
end PySem.W
namespace L2
open PySem PySem.Spec PyProof.Rows
section
variable {X : Cx} {k j : Nat} {C : Addr} {sp : Sp}
def rOwnNe (K : PySem.W.Frag) (C : Addr) (sp : Sp) : R2 := fun x y H Q => ∃ a dx fs t, x = .ref a ∧ H a = some (.ins C dx fs) ∧ TyX K H y t ∧ PySem.W.notFirst K C t = true ∧ sp [.ref a, y] H (fun v H' => ∃ b, v = .bl b ∧ Q (.bl (!b)) H') E0
theorem op_ownNe (c : Spc X.prog X.w X.K X.mg X.base k C "__eq__" sp) (hne : PySem.W.findIn X.K (.ref C) "__ne__" = some (some (.builtin "object.__ne__"))) (hob : PySem.W.mroIn X.K C (.type "object") = some true)
    (hr : Room j X.A) (hk : k + 1 ≤ j) : OpR X (compareOp .NotEq) (rOwnNe X.K C sp) := by
  intro pins s σ H x y v u Q I rx ry h
  obtain ⟨a, dx, fs, t, rfl, ha, ht, hn, q⟩ := h
  obtain ⟨f, fd, ps, hs, hf, F, hb⟩ := c.ex
  obtain rfl : v = Value.ref a := rx
  obtain ⟨mA, J, _⟩ := ins_get I.hok ha
  obtain ⟨od, J, _⟩ := J.look
  obtain ⟨m, hF⟩ := I.fr
  obtain ⟨P, Z, p, hx⟩ := kit_of I ry ht
  show wpAny (model X.prog X.w) X.A (richCompare .NotEq (.ref a) u) (EP X pins σ Q) X.xe s
  refine PySem.W.ne_K (tb := t) (by have := hr.un; omega) hF I.ok.mod.kin J (Z.ty _ _ I.kIn p) hn hne hob hs hf (wpAny_mono (run_spc2 (m := "__eq__") rfl ((hr.mono hk).in1) F hb I ry q) (fun r s' hq => ?_) fun _ _ e => e)
  obtain ⟨b, H', rfl, I', q'⟩ := hq
  exact ⟨b, rfl, .bl (!b), H', I', rfl, q'⟩
end
end L2
set_option Elab.async false
set_option linter.all false
set_option maxRecDepth 100000
set_option maxHeartbeats 8000000
/-! list(zip(xs, ys)) of two lists -/
namespace L2
open PySem PySem.Spec PyProof.Rows
theorem zz_len : typeLookup (.type "zip") "__len__" = pure none := am_miss_of_fast (by decide +kernel)
theorem zz_hint0 : typeLookup (.type "zip") "__length_hint__" = pure none := am_miss_of_fast (by decide +kernel)
/-- the zip as it stands before turn i -/
def ZSt (z TI TO i1 i2 a b : Addr) (i : Nat) (h : Heap) : Prop :=
  (IsZip h z TI TO .none ∨ ∃ T f oT, IsZipHeld h z TI TO T f ∧ h.get? T = some oT ∧ T ≠ z ∧ T ≠ TI ∧ T ≠ TO ∧ T ≠ i1 ∧ T ≠ i2) ∧ (∃ x y, IsPair h TO x y) ∧ IsPair h TI (.ref i1) (.ref i2) ∧ h.IsListIter i1 a i ∧ h.IsListIter i2 b i
abbrev zch (z TI TO i1 i2 : Addr) : List Addr := [z, TI, TO, i1, i2]
section
variable {X : Cx} {pins : List (Addr × Obj)} {σ : St} {A1 : Around} {z TI TO i1 i2 a b q : Addr} {xs ys : List V}
theorem zz_hint {M : PySem.Model} {A : Around} {E : Value → Shared → Prop} {Q : Bool → Shared → Prop} {s : Shared} (hT : s.TypeIs (.ref z) "zip") (h : Q true s) : wpAny M A (Builtin.List.listLengthHint (.ref z)) Q E s := by
  have f1 := zz_len
  have f2 := zz_hint0
  unfold Builtin.List.listLengthHint
  refine wpAny_bind (wpAny_bind (wpAny_typeOf hT ?_))
  rw [f1]
  refine wpAny_pure ?_
  refine PySem.W.KFB.if_not rfl ?_
  refine PySem.W.KFB.if_not rfl ?_
  refine wpAny_bind (wpAny_bind (wpAny_typeOf hT ?_))
  rw [f2]
  exact wpAny_pure (wpAny_pure h)
theorem ZSt.lt {i : Nat} {h : Heap} (st : ZSt z TI TO i1 i2 a b i h) : ∀ c ∈ zch z TI TO i1 i2, c < h.objs.size := by
  obtain ⟨hs, ⟨x, y, hTO⟩, hTI, ⟨_, h1, _⟩, ⟨_, h2, _⟩⟩ := st
  intro c hc
  have e' : c = z ∨ c = TI ∨ c = TO ∨ c = i1 ∨ c = i2 := by simpa using hc
  rcases e' with q | q | q | q | q
  · rw [q]
    rcases hs with e | ⟨_, _, _, e, _⟩
    · exact Heap.lt_size e
    · exact Heap.lt_size e
  · rw [q]; exact Heap.lt_size hTI
  · rw [q]; exact Heap.lt_size hTO
  · rw [q]; exact Heap.lt_size h1
  · rw [q]; exact Heap.lt_size h2
theorem ZSt.keep {i : Nat} {h h' : Heap} (st : ZSt z TI TO i1 i2 a b i h) (hT : ∀ T f oT, IsZipHeld h z TI TO T f → h.get? T = some oT → ∃ oT', h'.get? T = some oT') (k : ∀ c ∈ zch z TI TO i1 i2, ∀ o, h.get? c = some o → h'.get? c = some o) : ZSt z TI TO i1 i2 a b i h' := by
  obtain ⟨hs, ⟨x, y, hTO⟩, hTI, h1, h2⟩ := st
  refine ⟨?_, ⟨x, y, k TO (by simp) _ hTO⟩, k TI (by simp) _ hTI, h1.at fun o q => k i1 (by simp) o q, h2.at fun o q => k i2 (by simp) o q⟩
  rcases hs with e | ⟨T, f, oT, e, g, n⟩
  · exact .inl (k z (by simp) _ e)
  · obtain ⟨o', g'⟩ := hT T f oT e g
    exact .inr ⟨T, f, o', k z (by simp) _ e, g', n⟩
theorem ZSt.ty {i : Nat} {s : Shared} (st : ZSt z TI TO i1 i2 a b i s.heap) : s.TypeIs (.ref z) "zip" := by
  obtain ⟨e | ⟨_, _, _, e, _⟩, _⟩ := st
  · exact ⟨_, e, rfl⟩
  · exact ⟨_, e, rfl⟩
theorem zz_iter {P : Program} {w : World} {A : Around} {E : Value → Shared → Prop} {Q : Value → Shared → Prop} {s : Shared} (hT : s.TypeIs (.ref z) "zip") (h : Q (.ref z) s) : wpAny (model P w) A (pyIter (.ref z)) Q E s := by
  refine wpAny_pyIter_slot hT F.slot_zip_iter (wpAny_call_entry F.slot_zip_iter hT F.entry_zip_iter ?_ (F.args_zip_iter_1 _))
  exact wpAny_pure ⟨_, rfl, "zip", _, hT, F.slot_zip_next.lookup, h⟩
/-- one turn -/
theorem zz_next {i : Nat} {H : Hp} {s : Shared} {x y : V} {Q : Option Value → Shared → Prop} (D : ZipApart z TI TO i1 i2 a b) (I : Inv X pins σ H s) (hf : ∀ c ∈ zch z TI TO i1 i2, FpOk X pins H c) (st : ZSt z TI TO i1 i2 a b i s.heap)
    (ha : SqL X.K H a xs) (hb : SqL X.K H b ys) (hx : xs[i]? = some x) (hy : ys[i]? = some y)
    (hQ : ∀ (h' : Heap) (T : Addr), H T = none → Inv X pins σ (upd H T (.tup [x, y])) { s with heap := h' } → ZSt z TI TO i1 i2 a b (i + 1) h' → (∀ c ∈ zch z TI TO i1 i2, c ≠ T) → Q (some (.ref T)) { s with heap := h' }) :
    wpAny (model X.prog X.w) A1 (pyNext (.ref z)) Q X.xe s := by
  have off : ∀ c ∈ zch z TI TO i1 i2, c ≠ s.heap.objs.size := fun c hc => Nat.ne_of_lt (st.lt c hc)
  obtain ⟨hs, ⟨x0, y0, hTO⟩, hTI, h1, h2⟩ := st
  obtain ⟨its, rv, p, _⟩ := I.list ha
  obtain ⟨its2, rv2, p2, _⟩ := I.list hb
  obtain ⟨u, hu, ru⟩ := rv.get hx
  obtain ⟨u2, hu2, ru2⟩ := rv2.get hy
  have oz := (off z (by simp)).symm
  have oTI := (off TI (by simp)).symm
  have oTO := (off TO (by simp)).symm
  have o1 := (off i1 (by simp)).symm
  have o2 := (off i2 (by simp)).symm
  have fin : ∀ h' : Heap, (∃ f, IsZipHeld h' z TI TO s.heap.objs.size f) ∨ (∃ T f oT, IsZipHeld h' z TI TO T f ∧ h'.get? T = some oT ∧ T ≠ z ∧ T ≠ TI ∧ T ≠ TO ∧ T ≠ i1 ∧ T ≠ i2) → (∃ x y, IsPair h' TO x y) → h'.IsListIter i1 a (i + 1) → h'.IsListIter i2 b (i + 1) → IsPair h' s.heap.objs.size u u2 →
      (∀ c o, c ∉ zch z TI TO i1 i2 → s.heap.get? c = some o → h'.get? c = some o) → IsPair h' TI (.ref i1) (.ref i2) → Q (some (.ref s.heap.objs.size)) { s with heap := h' } := by
    intro h' g0 gTO g1 g2 gT gk gTI
    have new : ObjOk X.prog X.w (upd H s.heap.objs.size (.tup [x, y])) h' s.heap.objs.size (.tup [x, y]) :=
      ⟨by show 2 ≤ sizeLine; decide, [u, u2], .cons ru (.cons ru2 .nil), ⟨_, gT, rfl, _, rfl⟩⟩
    have I1 : Inv X pins σ (upd H s.heap.objs.size (.tup [x, y])) { s with heap := h' } :=
      I.turnedNew (t' := s.toks) (ch := zch z TI TO i1 i2) (fun c o hc => gk c o hc) hf (Nat.le_refl _) new
    refine hQ h' _ (I.hok.fresh (Nat.le_refl _)) I1 ⟨?_, gTO, gTI, g1, g2⟩ off
    rcases g0 with ⟨f, e⟩ | e
    · exact .inr ⟨_, f, _, e, gT, oz, oTI, oTO, o1, o2⟩
    · exact .inr e
  rcases hs with e | ⟨T, f, oT, e, gT, n1, n2, n3, n4, n5⟩
  · refine wpAny_pyNext_zip_item D e hTI hTO h1 h2 p.isList p2.isList (x := u) (y := u2) (by simpa using hu) (by simpa using hu2) fun h' z' TO' h1' h2' hT hsz hk => ?_
    refine fin h' (.inl ⟨false, z'⟩) ⟨_, _, TO'⟩ h1' h2' hT (fun c o hc q => ?_) (hk _ _ D.TIz D.TITO D.TIi1 D.TIi2 hTI)
    exact hk c o (fun q' => hc (by simp [q'])) (fun q' => hc (by simp [q'])) (fun q' => hc (by simp [q'])) (fun q' => hc (by simp [q'])) q
  · refine wpAny_pyNext_zip_item_held D e gT hTI h1 h2 p.isList p2.isList (x := u) (y := u2) (by simpa using hu) (by simpa using hu2) fun h' z' h1' h2' hT hsz hk => ?_
    refine fin h' (.inr ⟨T, true, oT, z', hk T oT n1 n4 n5 gT, n1, n2, n3, n4, n5⟩) ⟨_, _, hk _ _ D.TOz D.TOi1 D.TOi2 hTO⟩ h1' h2' hT (fun c o hc q => ?_) (hk _ _ D.TIz D.TIi1 D.TIi2 hTI)
    exact hk c o (fun q' => hc (by simp [q'])) (fun q' => hc (by simp [q'])) (fun q' => hc (by simp [q'])) q
theorem zz_done {i : Nat} {H : Hp} {s : Shared} {Q : Option Value → Shared → Prop} (hh : A1.handled = none) (D : ZipApart z TI TO i1 i2 a b) (I : Inv X pins σ H s) (hf : ∀ c ∈ zch z TI TO i1 i2, FpOk X pins H c) (st : ZSt z TI TO i1 i2 a b i s.heap)
    (ha : SqL X.K H a xs) (hb : SqL X.K H b ys) (hend : xs.length ≤ i ∨ ys.length ≤ i) (hQ : ∀ h', Inv X pins σ H { s with heap := h' } → Q none { s with heap := h' }) :
    wpAny (model X.prog X.w) A1 (pyNext (.ref z)) Q X.xe s := by
  obtain ⟨hs, ⟨x0, y0, hTO⟩, hTI, h1, h2⟩ := st
  obtain ⟨its, rv, p, _⟩ := I.list ha
  obtain ⟨its2, rv2, p2, _⟩ := I.list hb
  have l1 := rv.length
  have l2 := rv2.length
  have he : its.toArray[i]? = none ∨ its2.toArray[i]? = none := by
    rcases hend with q | q
    · exact .inl (by simp; omega)
    · exact .inr (by simp; omega)
  rcases hs with e | ⟨T, f, oT, e, gT, n1, n2, n3, n4, n5⟩
  · exact wpAny_pyNext_zip_end hh D e hTI hTO h1 h2 p.isList p2.isList he fun h' hk => hQ h' (I.turnedL (t' := s.toks) (ch := zch z TI TO i1 i2) (fun c o hc q =>
      hk c o (fun q' => hc (by simp [q'])) (fun q' => hc (by simp [q'])) (fun q' => hc (by simp [q'])) (fun q' => hc (by simp [q'])) q) hf)
  · exact wpAny_pyNext_zip_end_held hh D e gT hTI h1 h2 p.isList p2.isList he fun h' hk => hQ h' (I.turnedL (t' := s.toks) (ch := zch z TI TO i1 i2) (fun c o hc q =>
      hk c o (fun q' => hc (by simp [q'])) (fun q' => hc (by simp [q'])) (fun q' => hc (by simp [q'])) q) hf)

/-- what stands behind i turns: the list at q holds the new pairs -/
structure ZGot (K : PySem.W.Frag) (H0 : Hp) (q : Addr) (xs ys : List V) (i : Nat) (Ts : List Addr) (H : Hp) : Prop where
  ex : Evl.Ex H0 H
  at_ : H q = some (.lst (Ts.map V.ref))
  len : Ts.length = i
  tup : ∀ (j : Nat) (T : Addr), Ts[j]? = some T → ∃ x y, xs[j]? = some x ∧ ys[j]? = some y ∧ H T = some (.tup [x, y])
  new : ∀ T ∈ Ts, H0 T = none ∧ T ≠ q
  nd : Ts.Nodup
theorem zz_loop {H0 : Hp} {Rs : Result → Shared → Prop} (hh : A1.handled = none) (D : ZipApart z TI TO i1 i2 a b) (ha : SqL X.K H0 a xs) (hb : SqL X.K H0 b ys) (h0 : H0 q = none)
    (hdone : ∀ Ts H s, Inv X pins σ H s → ZGot X.K H0 q xs ys (min xs.length ys.length) Ts H → Rs (.ok (.ret .none)) s) (herr : ∀ e s, X.xe e s → Rs (.error e) s) :
    ∀ (k i : Nat) (Ts : List Addr) (H : Hp) (s : Shared), min xs.length ys.length - i = k → i ≤ min xs.length ys.length → Inv X pins σ H s → (∀ c ∈ zch z TI TO i1 i2, FpOk X pins H c) → ZSt z TI TO i1 i2 a b i s.heap → ZGot X.K H0 q xs ys i Ts H →
      codeAny (model X.prog X.w) A1 (.builtin "list.extend.loop" ⟨[.ref q, .ref z, .none], []⟩) Rs s := by
  intro k
  induction k with
  | zero =>
    intro i Ts H s hk hi I hf st G
    have e : i = min xs.length ys.length := by omega
    refine codeAny_builtin PySem.F.entry_extend_loop ?_
    rw [Around.under_plainId PySem.F.plain_extend_loop _]
    show wpAny _ A1.in1 (pyNext (.ref z) >>= _) _ _ s
    refine wpAny_bind (wpAny_mono (zz_done (A1 := A1.in1) hh D I hf st (Evl.ex_l G.ex ha) (Evl.ex_l G.ex hb) (by omega) (Q := fun r s' => r = none ∧ Inv X pins σ H s') fun h' I' => ⟨rfl, I'⟩) (fun r s' hr => ?_) fun e s' he => herr e s' he)
    obtain ⟨er, I'⟩ := hr
    subst er
    rw [e] at G
    exact wpAny_pure (hdone Ts H s' I' G)
  | succ k ih =>
    intro i Ts H s hk hi I hf st G
    have hix : i < xs.length := by omega
    have hiy : i < ys.length := by omega
    have hx := List.getElem?_eq_getElem hix
    have hy := List.getElem?_eq_getElem hiy
    refine codeAny_builtin PySem.F.entry_extend_loop ?_
    rw [Around.under_plainId PySem.F.plain_extend_loop _]
    show wpAny _ A1.in1 (pyNext (.ref z) >>= _) _ _ s
    refine wpAny_bind (wpAny_mono (zz_next (A1 := A1.in1) D I hf st (Evl.ex_l G.ex ha) (Evl.ex_l G.ex hb) hx hy (Q := fun r s' => ∃ T, r = some (.ref T) ∧ H T = none ∧ Inv X pins σ (upd H T (.tup [xs[i], ys[i]])) s' ∧ ZSt z TI TO i1 i2 a b (i + 1) s'.heap ∧ (∀ c ∈ zch z TI TO i1 i2, c ≠ T)) fun h' T g1 g2 g3 g4 => ⟨T, rfl, g1, g2, g3, g4⟩) (fun r s' hr => ?_) fun e s' he => herr e s' he)
    obtain ⟨T, er, g1, I', st', g4⟩ := hr
    subst er
    show wpAny _ A1.in1 (updateSeq q (·.push (.ref T)) >>= _) _ _ _
    have nqT : q ≠ T := ne_of_none G.at_ g1
    have hq : upd H T (.tup [xs[i], ys[i]]) q = some (.lst (Ts.map V.ref)) := by rw [upd_ne nqT]; exact G.at_
    obtain ⟨zz, its, k0, r2, hl, e⟩ := I'.lstM hq
    have hlen : Ts.length < sizeLine := by
      obtain ⟨_, _, _, hxz⟩ := I.list (Evl.ex_l G.ex ha)
      have := G.len
      omega
    have hl2 : its.length < sizeLine := by rw [← hl, List.length_map]; exact hlen
    refine wpAny_bind (wpAny_updateSeq e rfl (wpAny_pure ⟨plainId_quiet PySem.F.plain_extend_loop _, ?_⟩) (by rw [List.size_toArray]; omega) (by show (its.toArray.push _).size ≤ sizeLine + 1; rw [Array.size_push, List.size_toArray]; omega))
    have J := I'.lset (f := fun v => v.push (.ref T)) (its' := its ++ [.ref T]) (ys := (Ts ++ [T]).map V.ref) (t' := s'.toks) hq e (by simp) (by rw [List.map_append]; exact r2.append (.cons rfl .nil)) (by rw [List.length_map, List.length_append, List.length_singleton]; omega)
    have b0 : H0 T = none := by
      cases w : H0 T with
      | none => rfl
      | some o => rw [G.ex T o w] at g1; cases g1
    refine ih (i + 1) (Ts ++ [T]) _ _ (by omega) (by omega) J (fun c hc => ?_) ?_ ⟨?_, upd_same, by rw [List.length_append, G.len]; rfl, fun j T' hj => ?_, fun T' hT' => ?_, ?_⟩
    · obtain ⟨f1, f2⟩ := hf c hc
      have n1 : c ≠ q := fun w => by rw [w, G.at_] at f1; cases f1
      refine ⟨?_, f2⟩
      rw [upd_ne n1, upd_ne (g4 c hc)]
      exact f1
    · have nq : ∀ c ∈ zch z TI TO i1 i2, c ≠ q := fun c hc w => by
        have f1 := (hf c hc).1
        rw [w, G.at_] at f1; cases f1
      refine st'.keep (fun T1 f1 oT1 w1 w2 => ?_) fun c hc o w => (Heap.get?_update_other s'.heap _ (Ne.symm (nq c hc))).trans w
      by_cases c : T1 = q
      · rw [c]
        exact ⟨_, Heap.get?_update_self _ e rfl⟩
      · exact ⟨_, (Heap.get?_update_other s'.heap _ (Ne.symm c)).trans w2⟩
    · intro c o w
      have n1 : c ≠ q := fun w' => by rw [w', h0] at w; cases w
      have n2 : c ≠ T := fun w' => by rw [w', b0] at w; cases w
      rw [upd_ne n1, upd_ne n2]
      exact G.ex c o w
    · by_cases hjl : j < Ts.length
      · rw [List.getElem?_append_left hjl] at hj
        obtain ⟨x, y, w1, w2, w3⟩ := G.tup j T' hj
        have n1 : T' ≠ q := (G.new T' (List.mem_of_getElem? hj)).2
        exact ⟨x, y, w1, w2, by rw [upd_ne n1, upd_ne (ne_of_none w3 g1)]; exact w3⟩
      · rw [List.getElem?_append_right (by omega)] at hj
        have ej : j = Ts.length := by
          rcases Nat.lt_or_ge (j - Ts.length) 1 with w | w
          · omega
          · rw [List.getElem?_eq_none (by simpa using w)] at hj; cases hj
        subst ej
        rw [Nat.sub_self] at hj
        have : T = T' := by simpa using hj
        subst this
        rw [G.len]
        exact ⟨_, _, hx, hy, by rw [upd_ne nqT.symm, upd_same]⟩
    · rcases List.mem_append.mp hT' with w | w
      · exact G.new T' w
      · have : T' = T := by simpa using w
        subst this
        exact ⟨b0, nqT.symm⟩
    · rw [List.nodup_append]
      refine ⟨G.nd, by simp, fun w hw w' hw' => ?_⟩
      have : w' = T := by simpa using hw'
      subst this
      intro ew
      subst ew
      obtain ⟨j, hj⟩ := List.mem_iff_getElem?.mp hw
      obtain ⟨x, y, _, _, w3⟩ := G.tup j _ hj
      rw [g1] at w3; cases w3

def rListZip (K : PySem.W.Frag) : List V → Hp → VK → Prop := fun vs H Q => ∃ (a b : Addr) (xs ys : List V), vs = [.ref a, .ref b] ∧ SqL K H a xs ∧ SqL K H b ys ∧
  ∀ q Ts H', H q = none → ZGot K H q xs ys (min xs.length ys.length) Ts H' → Q (.ref q) H'
def tListZip (K : PySem.W.Frag) (ta : TA) : TE := fun σ H Q => ta σ H fun vs H1 => rListZip K vs H1 Q
end
section
variable {X : Cx} {e e2 : Expr} {ta : TA} {p p2 zpos pos : Pos}
theorem zz_list {pins : List (Addr × Obj)} {σ : St} {H : Hp} {s : Shared} {z TI TO i1 i2 a b : Addr} {xs ys : List V} {Q : VK} (hc : X.calm = true) (D : ZipApart z TI TO i1 i2 a b) (I : Inv X pins σ H s) (st : ZSt z TI TO i1 i2 a b 0 s.heap) (hf : ∀ c ∈ zch z TI TO i1 i2, FpOk X pins H c)
    (ha : SqL X.K H a xs) (hb : SqL X.K H b ys) (hQ : ∀ q Ts H', H q = none → ZGot X.K H q xs ys (min xs.length ys.length) Ts H' → Q (.ref q) H') :
    wpAny (model X.prog X.w) X.A (call (.type "list") [.ref z]) (EP X pins σ Q) X.xe s := by
  have hh : X.A.handled = none := I.ok.hd hc
  refine callType_codes (Q₁ := fun obj s₁ => obj = .ref s.heap.objs.size ∧ s₁ = { s with heap := s.heap.push { cls := .type "list", data := .seq #[] } }) PySem.F.called_list (PySem.F.typeCall_list_1 _) PySem.F.entry_list_init
    (code_list_new _ ⟨rfl, rfl⟩) fun obj s₁ h₁ => ?_
  obtain ⟨rfl, rfl⟩ := h₁
  have hS : (s.heap.push { cls := .type "list", data := .seq #[] }).get? s.heap.objs.size = some { cls := .type "list", data := .seq #[] } := Heap.get?_push_size _ rfl
  refine ⟨⟨_, hS, rfl⟩, PySem.F.args_list_init_2 _ _, ?_⟩
  have fr : H s.heap.objs.size = none := I.hok.fresh (Nat.le_refl _)
  have lt := st.lt
  have I1 : Inv X pins σ (upd H s.heap.objs.size (.lst [])) { s with heap := s.heap.push { cls := .type "list", data := .seq #[] } } := I.lnew (its := []) (t' := s.toks) .nil (Nat.zero_le _)
  have st1 : ZSt z TI TO i1 i2 a b 0 (s.heap.push { cls := .type "list", data := .seq #[] }) := st.keep (fun T f oT _ w => ⟨_, Heap.get?_push_of_some _ w⟩) fun c _ o w => Heap.get?_push_of_some _ w
  have hf1 : ∀ c ∈ zch z TI TO i1 i2, FpOk X pins (upd H s.heap.objs.size (.lst [])) c := fun c hc' => ⟨by rw [upd_ne (Nat.ne_of_lt (lt c hc'))]; exact (hf c hc').1, (hf c hc').2⟩
  have nqz : s.heap.objs.size ≠ z := Nat.ne_of_gt (lt z (by simp))
  obtain ⟨q, hq⟩ : ∃ q, s.heap.objs.size = q := ⟨_, rfl⟩
  obtain ⟨s1, hs1⟩ : ∃ s1, ({ s with heap := s.heap.push { cls := .type "list", data := .seq #[] } } : Shared) = s1 := ⟨_, rfl⟩
  have eh : s.heap.push { cls := .type "list", data := .seq #[] } = s1.heap := by rw [← hs1]
  rw [hs1] at I1 ⊢
  rw [eh] at hS st1
  rw [hq] at I1 hS fr hf1 nqz ⊢
  clear hs1 eh hq st hf lt I
  show wpAny _ _ (do let old ← Builtin.List.listItems (.ref q); Builtin.List.listUpdate (.ref q) (fun _ => #[]); letGo old.toList.reverse; Builtin.List.listExtendWith (.ref q) (.ref z) .none) _ _ _
  have put0 : ∀ (st2 : Heap), ZSt z TI TO i1 i2 a b 0 st2 → ∀ (f : Array Value → Array Value) (o : Obj), st2.get? q = some o → o.isFreed = false → (∀ o', (Obj.mapSeq f o').isFreed = o'.isFreed) → ZSt z TI TO i1 i2 a b 0 (st2.update q (Obj.mapSeq f)) := by
    intro st2 g f o ho hfr hmf
    have nq : ∀ c ∈ zch z TI TO i1 i2, c ≠ q := fun c hc' w => by
      have f1 := (hf1 c hc').1
      rw [w, upd_same] at f1; cases f1
    refine g.keep (fun T1 f1 oT1 w1 w2 => ?_) fun c hc' o w => (Heap.get?_update_other st2 _ (Ne.symm (nq c hc'))).trans w
    by_cases c : T1 = q
    · rw [c]
      exact ⟨_, Heap.get?_update_self _ ho (by rw [hmf]; exact hfr)⟩
    · exact ⟨_, (Heap.get?_update_other st2 _ (Ne.symm c)).trans w2⟩
  refine wpAny_bind ?_
  unfold Builtin.List.listItems
  refine wpAny_bind (wpAny_seqItems hS rfl (wpAny_pure ?_))
  show wpAny _ _ (updateSeq q (fun _ => #[]) >>= fun _ => letGo (#[] : Array Value).toList.reverse >>= fun _ => Builtin.List.listExtendWith (.ref q) (.ref z) .none) _ _ _
  refine wpAny_bind (wpAny_updateSeq hS rfl ?_)
  have I2 := I1.lset (f := fun _ => #[]) (its := []) (its' := []) (ys := []) (t' := s1.toks) upd_same hS rfl .nil (Nat.zero_le _)
  rw [upd_upd] at I2
  have st2 := put0 _ st1 (fun _ => #[]) _ hS rfl (fun o' => by cases o' with | mk c d dt sl => cases dt <;> rfl)
  refine wpAny_bind (wpAny_letGo ?_)
  clear I1 hS st1
  obtain ⟨s2, hs2⟩ : ∃ s2, ({ s1 with heap := s1.heap.update q (Obj.mapSeq fun _ => #[]) } : Shared) = s2 := ⟨_, rfl⟩
  have eh : s1.heap.update q (Obj.mapSeq fun _ => #[]) = s2.heap := by rw [← hs2]
  rw [eh] at st2
  have I3 : Inv X pins σ (upd H q (.lst [])) s2 := by rw [← hs2]; exact I2
  show wpAny _ _ _ _ _ ({ s1 with heap := s1.heap.update q (Obj.mapSeq fun _ => #[]) } : Shared)
  rw [hs2]
  clear I2 eh hs2
  have hT := st2.ty
  unfold Builtin.List.listExtendWith
  refine wpAny_bind (wpAny_typeOf hT ?_)
  have h1 : Builtin.List.listSameRef (.ref q) (.ref z) = false := by simp [Builtin.List.listSameRef, nqz]
  have h2 : (Value.type "zip" == Value.type "list") = false := by decide
  have h3 : (Value.type "zip" == Value.type "tuple") = false := by decide
  simp only [h1, h2, h3, Bool.or_false, Bool.false_eq_true, if_false]
  refine wpAny_bind (zz_iter hT ?_)
  refine wpAny_bind (wpAny_holding (zz_hint hT ?_))
  have key : ∀ s3, Inv X pins σ (upd H q (.lst [])) s3 → ZSt z TI TO i1 i2 a b 0 s3.heap → codeAny (model X.prog X.w) X.A.in1 (.builtin "list.extend.loop" ⟨[.ref q, .ref z, .none], []⟩) (wants (fun r s₂ => r = .none ∧ EP X pins σ Q (.ref q) s₂) X.xe) s3 := by
    intro s3 J g
    refine zz_loop (A1 := X.A.in1) (H0 := H) (Rs := wants (fun r s₂ => r = .none ∧ EP X pins σ Q (.ref q) s₂) X.xe) hh D ha hb fr (fun Ts H' s' I' G => ⟨rfl, .ref q, H', I', rfl, hQ q Ts H' fr G⟩) (fun e s' he => he) _ 0 [] _ s3 rfl (Nat.zero_le _) J hf1 g ⟨Evl.Ex.new fr, upd_same, rfl, fun j T hj => by simp at hj, fun T hT => by simp at hT, List.nodup_nil⟩
  refine wpAny_ite_split (fun _ => ?_) (fun _ => wpAny_pure ⟨plainId_quiet PySem.F.plain_extend_loop _, key s2 I3 st2⟩)
  refine wpAny_bind (wpAny_rule ?_)
  refine wpAny_bind ?_
  show wpAny _ _ (updateSeq q (·.push .none) >>= fun _ => updateSeq q (·.pop)) _ _ _
  obtain ⟨_, its0, k0, r0, _, e0⟩ := I3.lstM upd_same
  cases r0
  refine wpAny_bind (wpAny_updateSeq e0 rfl ?_)
  have J2 := I3.lset (f := fun v => v.push Value.none) (its' := [Value.none]) (ys := [.non]) (t' := s2.toks) upd_same e0 (by simp) (.cons rfl .nil) (by rw [List.length_singleton, sizeLine_eq]; decide)
  have g2 := put0 _ st2 (fun v => v.push Value.none) _ e0 rfl (fun o' => by cases o' with | mk c d dt sl => cases dt <;> rfl)
  obtain ⟨_, its4, k4, r4, _, e4⟩ := J2.lstM upd_same
  obtain ⟨u4, rfl, ru4⟩ := r4.one
  refine wpAny_updateSeq e4 rfl ?_ (by show 1 ≤ sizeLine; rw [sizeLine_eq]; decide) (by show 0 ≤ sizeLine + 1; exact Nat.zero_le _)
  refine wpAny_pure ⟨plainId_quiet PySem.F.plain_extend_loop _, key _ ?_ (put0 _ g2 (fun v => v.pop) _ e4 rfl (fun o' => by cases o' with | mk c d dt sl => cases dt <;> rfl))⟩
  have J3 := J2.lset (f := fun v => v.pop) (its := [u4]) (its' := []) (ys := []) (t' := s2.toks) upd_same e4 (by rfl) .nil (Nat.zero_le _)
  rw [upd_upd, upd_upd] at J3
  exact J3

theorem pe_listZip (hc : X.calm = true) (ha : PA X [e, e2] ta) (hg : Gl X "list") (hm : X.mg "list" = none) (hg2 : Gl X "zip") (hm2 : X.mg "zip" = none) (hv : bootBuiltins "list" = some (.type "list") := by rfl)
    (hs : starEach [.Call (.Name "zip" p2) [e, e2] [] zpos] X.env = (false, eval (.Call (.Name "zip" p2) [e, e2] [] zpos) X.env) :: starEach [] X.env := by rfl)
    (hs2 : starEach [e, e2] X.env = (false, eval e X.env) :: starEach [e2] X.env := by rfl) (hpl2 : (backTo zpos (starEach [e2] X.env)).any (·.1) = false := by rfl) :
    PE X (.Call (.Name "list" p) [.Call (.Name "zip" p2) [e, e2] [] zpos] [] pos) (tListZip X.K ta) := by
  refine ⟨fun pins s σ H Q I hq => ?_⟩
  refine wpAny_Call_Name_kw (ld_blt I hg hm hv ?_)
  refine PyProof.Rows.callWith_type1 ?_ hs rfl
  rw [hs]
  show wpAny _ _ (spliced ((false, eval (.Call (.Name "zip" p2) [e, e2] [] zpos) X.env) :: backTo pos (starEach [] X.env))) _ _ s
  refine Calls.spliced_cons ?_
  refine Call_ (ld_blt I hg2 hm2 PyProof.Rows.boot_zip (PyProof.Rows.callWith_type1 (thn (ha.run zpos pins s σ H _ I hq) fun us s1 ⟨vs, H1, I1, r1, q1⟩ => ?_) hs2 hpl2))
  obtain ⟨a, b, xs, ys, ev, hqx, hqy, hQ⟩ := q1
  subst ev
  obtain ⟨u1, u2, eu, ru1, ru2⟩ := vals2 r1
  subst eu
  cases ru1
  cases ru2
  obtain ⟨its, rv, p1, _⟩ := I1.list hqx
  obtain ⟨its2, rv2, p3, _⟩ := I1.list hqy
  have la : a < s1.heap.objs.size := p1.lt
  have lb : b < s1.heap.objs.size := p3.lt
  refine call_zip_2 p1.isList p3.isList fun h' hz hTI hTO h1 h2 hsz hk => ?_
  have D := PySem.W.ktu_apart s1.heap.objs.size a b la lb
  have I2 : Inv X pins σ H1 { s1 with heap := h' } := I1.kept (t' := s1.toks) hk
  have hf : ∀ c ∈ zch (s1.heap.objs.size + 4) (s1.heap.objs.size + 2) (s1.heap.objs.size + 3) s1.heap.objs.size (s1.heap.objs.size + 1), FpOk X pins H1 c := by
    intro c hcm
    have e' : c = s1.heap.objs.size + 4 ∨ c = s1.heap.objs.size + 2 ∨ c = s1.heap.objs.size + 3 ∨ c = s1.heap.objs.size ∨ c = s1.heap.objs.size + 1 := by simpa using hcm
    have hle : s1.heap.objs.size ≤ c := by
      rcases e' with w | w | w | w | w
      · rw [w]; exact Nat.le_add_right _ _
      · rw [w]; exact Nat.le_add_right _ _
      · rw [w]; exact Nat.le_add_right _ _
      · rw [w]; exact Nat.le_refl _
      · rw [w]; exact Nat.le_add_right _ _
    exact I1.fpOk hle (I1.hok.fresh hle)
  have st : ZSt (s1.heap.objs.size + 4) (s1.heap.objs.size + 2) (s1.heap.objs.size + 3) s1.heap.objs.size (s1.heap.objs.size + 1) a b 0 h' := ⟨.inl hz, ⟨_, _, hTO⟩, hTI, h1, h2⟩
  generalize s1.heap.objs.size + 4 = z at *
  generalize s1.heap.objs.size + 2 = TI at *
  generalize s1.heap.objs.size + 3 = TO at *
  generalize s1.heap.objs.size + 1 = i2 at *
  generalize s1.heap.objs.size = i1 at *
  clear hz hTI hTO h1 h2 hk hsz
  refine Calls.spliced_nil ?_
  exact zz_list hc D I2 st hf hqx hqy hQ
end
end L2
/-! tuple(xs) whose object is known; dict(t) of such a tuple of pairs; len(set(texts)) of different texts -/
namespace L2
open PySem PySem.Spec PyProof.Rows
section
variable {X : Cx}
def rTupF (K : PySem.W.Frag) : List V → Hp → VK → Prop := fun xs H Q => ∃ p ys, xs = [.ref p] ∧ ((SqL K H p ys ∧ ∀ l o, H l = none → o.dict = none → Q (.ref l) (upd H l (.frz o (.tup ys)))) ∨ (SqT K H p ys ∧ Q (.ref p) H))
theorem call_tupF : CallR X (.type "tuple") (rTupF X.K) := by
  intro pins s σ H xs us Q I r h
  obtain ⟨p, ys, rfl, h⟩ := h
  obtain ⟨u, rfl, rx⟩ := vals1 r
  cases rx
  rcases h with ⟨hq, q⟩ | ⟨hq, q⟩
  · obtain ⟨its, r', pl, hz⟩ := I.list hq
    have hlen := r'.length
    refine call_tuple_list pl.isList (fun h' kp => ?_) (by simp only [List.size_toArray] <;> omega)
    have I1 : Inv X pins σ H { s with heap := h' } := I.kept (t' := s.toks) kp
    have nw : (h'.push { cls := .type "tuple", data := .seq its.toArray }).get? h'.objs.size = some { cls := .type "tuple", data := .seq its.toArray } := Heap.get?_push_size _ rfl
    have I2 : Inv X pins σ (upd H h'.objs.size (.frz { cls := .type "tuple", data := .seq its.toArray } (.tup ys))) { s with heap := h'.push { cls := .type "tuple", data := .seq its.toArray } } :=
      I1.laid (t' := s.toks) (fun b o e => Heap.get?_push_of_some _ e) (Nat.le_refl _) (show ObjOk X.prog X.w _ _ _ (.frz _ (.tup ys)) from ⟨nw, hz, its, r', ⟨_, nw, rfl, _, rfl⟩⟩)
    exact ⟨.ref h'.objs.size, _, I2, rfl, q _ _ (I1.hok.fresh (Nat.le_refl _)) rfl⟩
  · obtain ⟨its, r', pl, hz⟩ := I.tuple hq
    exact call_tuple_same pl ⟨.ref p, H, I, rfl, q⟩
def rDictF (K : PySem.W.Frag) : List V → Hp → VK → Prop := fun xs H Q => ∃ (a : Addr) (o : Obj) (ps : List Addr) (kvs : List (Key × V)), xs = [.ref a] ∧ H a = some (.frz o (.tup (ps.map V.ref))) ∧ o.dict = none ∧ Paired (fun p kv => SqT K H p [kV kv.1, kv.2]) ps kvs ∧
    ∀ p, H p = none → Q (.ref p) (upd H p (.dK (mergeK [] kvs)))
theorem call_dictF (hcalm : X.calm = true) : CallR X (.type "dict") (rDictF X.K) := by
  intro pins s σ H xs us Q I r h
  obtain ⟨a, o, ps, kvs, rfl, hq, hd, hp, q⟩ := h
  obtain ⟨u, rfl, rx⟩ := vals1 r
  cases rx
  obtain ⟨its, rv, pl, hz⟩ := I.tuple (Or.inl (Or.inr ⟨o, hq⟩) : SqT X.K H a (ps.map V.ref))
  have ei := refs_at rv
  subst ei
  rw [List.length_map] at hz
  obtain ⟨prs, rel, hl, hpr⟩ := pairs_of I hp
  have ho : s.heap.get? a = some o := (I.hok a _ hq).1
  obtain ⟨o', ho', hc, n, hdat⟩ := pl
  rw [ho] at ho'
  cases ho'
  -- the pairs as they stand in the heap
  obtain ⟨key, hkey⟩ : ∃ key : Nat → Value, ∀ (j : Nat) (q : Key × Value), prs[j]? = some q → ∃ b, ps[j]? = some b ∧ IsTup s.heap b #[key j, q.2] ∧ keyIs q.1 (key j) = true := by
    have ch : ∀ j : Nat, ∃ u : Value, ∀ q : Key × Value, prs[j]? = some q → ∃ b, ps[j]? = some b ∧ IsTup s.heap b #[u, q.2] ∧ keyIs q.1 u = true := by
      intro j
      cases e : prs[j]? with
      | none => exact ⟨.none, fun q w => nomatch w⟩
      | some q0 =>
        obtain ⟨b, u, e1, e2, e3⟩ := hpr j q0 e
        exact ⟨u, fun q w => by cases w; exact ⟨b, e1, e2, e3⟩⟩
    exact ⟨fun j => (ch j).choose, fun j => (ch j).choose_spec⟩
  let pl : List (Value × Value) := (List.range prs.length).map fun j => (key j, (prs.getD j (.inl 0, .none)).2)
  have hlen : pl.length = prs.length := by simp [pl]
  have plat : ∀ j k v, pl[j]? = some (k, v) → ∃ q, prs[j]? = some q ∧ k = key j ∧ v = q.2 := by
    intro j k v e
    have hj : j < prs.length := by
      rw [← hlen]; exact (List.getElem?_eq_some_iff.mp e).1
    have e2 : pl[j]? = some (key j, (prs.getD j (.inl 0, .none)).2) := by simp [pl, hj]
    rw [e2] at e
    cases e
    exact ⟨prs[j], List.getElem?_eq_getElem hj, rfl, by rw [List.getD_eq_getElem?_getD, List.getElem?_eq_getElem hj]; rfl⟩
  refine PySem.call_dict_pairs (knd := mixKind X.prog X.w) (kvs := prs) (PairArg.tuple a (ps.map Value.ref).toArray (fun j => ps.getD j 0) pl) (I.ok.hd hcalm) ⟨⟨o, n, ho, hc, hd, hdat⟩, by simp [hlen, hl], fun j k v e => ?_⟩ ⟨hlen.symm, fun i k v e => ?_⟩ (by rw [hlen, hl]; exact hz) fun h' tk hd' k => ?_
  · obtain ⟨q', e1, e2, e3⟩ := plat j k v e
    obtain ⟨b, f1, f2, f3⟩ := hkey j q' e1
    subst e2 e3
    have eb : ps.getD j 0 = b := by rw [List.getD_eq_getElem?_getD, f1]; rfl
    refine ⟨by simp [eb, f1], .inl ?_⟩
    show s.heap.IsTuple (ps.getD j 0) _
    rw [eb]
    exact f2
  · obtain ⟨q', e1, e2, e3⟩ := plat i k v e
    obtain ⟨b, f1, f2, f3⟩ := hkey i q' e1
    subst e2 e3
    exact ⟨q'.1, e1, f3⟩
  · have hm : (s.heap.objs.size == sysModules) = false := beq_eq_false_iff_ne.mpr (Nat.ne_of_gt I.big)
    have hlen2 : (mergeK [] kvs).length ≤ sizeLine := by
      refine Nat.le_trans (length_mergeK kvs []) ?_
      rw [List.length_nil, Nat.zero_add, rel.length, hl]
      exact hz
    exact ⟨.ref s.heap.objs.size, upd H s.heap.objs.size (.dK (mergeK [] kvs)), I.laid (t' := tk) (fun b o e => k b o (by simp) e) (Nat.le_refl _) (show ObjOk X.prog X.w _ _ _ (.dK (mergeK [] kvs)) from ⟨hlen2, hm, merged [] prs, KV.merge rel .nil, hd'⟩), rfl, q _ (I.hok.fresh (Nat.le_refl _))⟩
end
end L2
namespace SZ
open PySem PySem.Spec PyProof.Rows
section
variable {prog : Program} {w : World} {A : Around} {R : Result → Shared → Prop} {I : Addr} {fp wr : List Addr} {G : Array GenState → Array GenState → Prop} {n : Nat} {P : Nat → Value → Prop} {St : Nat → Shared → Prop}
/-- the walk that fills a set with different texts -/
theorem walk_set (W : WalksS prog w A.in1 I fp wr G n P St) (S : Addr) (hSf : S ∉ fp) (xs : List Str) (hsz : xs.length = n) (nd : xs.Nodup) (hn1 : n < 30)
    (hval : ∀ i v, P i v → ∃ t, v = .str (xs.getD i Str.empty) t) :
    ∀ (k i : Nat) (s : Shared), n - i = k → i ≤ n → St i s →
      s.heap.SetOf (PySem.strKind prog w) S (fun k' => (xs.take i).any (· == k')) i →
      (∀ s', Moved (S :: wr) G s s' → s'.heap.SetOf (PySem.strKind prog w) S (fun k' => (xs.take n).any (· == k')) n → R (.ok (.ret .none)) s') →
      codeAny (model prog w) A (.builtin "set.update.loop" ⟨[.ref S, .ref I], []⟩) R s := by
  have offS : S ∉ wr := fun h => hSf (W.sub _ h)
  have more : ∀ b ∈ wr, b ∈ S :: wr := fun b hb => List.mem_cons_of_mem _ hb
  intro k
  induction k with
  | zero =>
    intro i s hk hi hst hS hR
    have e : i = n := by omega
    subst e
    refine codeAny_builtin PyProof.Rows.F.entry_set_update_loop ?_
    rw [Around.under_plainId PyProof.Rows.F.plain_set_update_loop _]
    show wpAny _ A.in1 (pyNext (.ref I) >>= _) _ _ s
    refine wpAny_bind (W.done s _ _ hst fun s' hm => ?_)
    refine wpAny_pure (hR s' (hm.mono more) ?_)
    obtain ⟨o, es, ep, t, ho, rest⟩ := hS
    exact ⟨o, es, ep, t, hm.heap S _ offS ho, rest⟩
  | succ k ih =>
    intro i s hk hi hst hS hR
    have hlt : i < n := by omega
    have hx : xs[i]? = some xs[i] := List.getElem?_eq_getElem (by omega)
    have hxi : xs.getD i Str.empty = xs[i] := by rw [List.getD_eq_getElem?_getD, hx]; rfl
    refine codeAny_builtin PyProof.Rows.F.entry_set_update_loop ?_
    rw [Around.under_plainId PyProof.Rows.F.plain_set_update_loop _]
    show wpAny _ A.in1 (pyNext (.ref I) >>= _) _ _ s
    refine wpAny_bind (W.item i s _ _ hlt hst fun v s' hP hst' hm => ?_)
    obtain ⟨t, rfl⟩ := hval i v hP
    rw [hxi]
    have hS' : s'.heap.SetOf (PySem.strKind prog w) S (fun k' => (xs.take i).any (· == k')) i := by
      obtain ⟨o, es, ep, tb, ho, rest⟩ := hS
      exact ⟨o, es, ep, tb, hm.heap S _ offS ho, rest⟩
    show wpAny _ A.in1 (holding [Value.str xs[i] t] (setAdd S (.str xs[i] t)) >>= _) _ _ s'
    refine wpAny_bind (wpAny_holding ?_)
    unfold setAdd
    refine wpAny_holding ?_
    refine wpAny_bind ((PySem.strKind prog w).pyHash (k := xs[i]) (strKind_is _ _ _ _) ?_)
    refine wpAny_setAddHashed_of (knd := PySem.strKind prog w) (s := { s' with toks := s'.toks + 1 }) (strKind_is _ _ _ _) rfl hS' (by unfold scanBound; omega) fun h' hsb hS2 => ?_
    have fresh : (xs.take i).any (· == xs[i]) = false := by
      rw [List.any_eq_false]
      intro y hy e
      have e2 : y = xs[i] := beq_iff_eq.mp e
      obtain ⟨j, hj, e3⟩ := List.getElem_of_mem hy
      have hji : j < i := by rw [List.length_take] at hj; omega
      rw [List.getElem_take] at e3
      exact List.pairwise_iff_getElem.mp nd j i (by omega) (by omega) hji (e3.trans e2)
    have hSi : h'.SetOf (PySem.strKind prog w) S (fun k' => (xs.take (i + 1)).any (· == k')) (i + 1) := by
      refine SetOf_congr hS2 (fun k' => ?_) (by rw [fresh]; rfl)
      rw [List.take_succ, hx, List.any_append]
      have e1 : (some xs[i]).toList.any (· == k') = decide (k' = xs[i]) := by
        show ((xs[i] == k') || false) = _
        rw [Bool.or_false]
        by_cases e : k' = xs[i]
        · rw [e]; simp
        · rw [decide_eq_false e]
          exact beq_eq_false_iff_ne.mpr (Ne.symm e)
      rw [e1]
    refine wpAny_pure ⟨plainId_quiet PyProof.Rows.F.plain_set_update_loop _, ih (i + 1) _ (by omega) hlt (W.frame _ s' _ _ hst' (Nat.le_succ _) fun b hb o e => ?_) hSi fun s'' hm'' hS'' => ?_⟩
    · rw [hsb.2 b (fun h : b = S => hSf (by rw [← h]; exact hb))]; exact e
    · refine hR s'' (Moved.trans W.gtrans ((hm.mono more).then_heap (Nat.le_succ _) fun b o hb e => ?_) hm'') hS''
      rw [hsb.2 b (fun h : b = S => hb (by rw [h]; exact List.mem_cons_self))]; exact e
end
section
variable {prog : Program} {w : World} {A : Around} {E : Value → Shared → Prop} {s : Shared}
theorem set_of_strs {l : Addr} {items : Array Value} {xs : List Str} {Q : Value → Shared → Prop}
    (hh : A.handled = none) (hl : s.heap.IsList l items) (hi : PyProof.Rows.StrsAre items.toList xs) (nd : xs.Nodup) (hn1 : xs.length < 30)
    (h : ∀ (h' : Heap) (tk : Nat), h'.SetOf (PySem.strKind prog w) s.heap.objs.size (fun k' => (xs.take items.size).any (· == k')) items.size →
      (∀ b o, b < s.heap.objs.size → s.heap.get? b = some o → h'.get? b = some o) → Q (.ref s.heap.objs.size) { s with heap := h', toks := tk }) :
    wpAny (model prog w) A (call (.type "set") [.ref l]) Q E s := by
  obtain ⟨c, tl, hmro⟩ := PySem.F.called_set.mro
  have hmade := PySem.F.called_set.made
  have hsub := PySem.F.called_set.sub
  refine wpAny_call (codeAny_of_tree ?_)
  show wpAny _ _ (callAny (.type "set") _) _ _ _
  refine wpAny_pure ⟨Code.quiet_builtin _ (by decide +kernel), codeAny_builtin PySem.F.entry_type_call ?_⟩
  rw [Around.under_plain (weight_type_call_type "set" [.ref l] []) rfl]
  have h1 := PySem.F.called_set.notType
  have h2 := PySem.F.called_set.canCreate
  have hct := PySem.F.typeCall_set_1 (.ref l)
  repeat (any_goals (first | assumption | wp_step))
  refine codeAny_mono (code_set_new_1 (.ref l) (E := E) (Q₁ := fun obj s₁ => ∃ led : Bool, obj = .ref s.heap.objs.size ∧ s₁ = { s with heap := s.heap.push { cls := .type "set", dict := none, data := .set #[] 0 (.fresh 0 0 led) } }) fun led => ⟨led, rfl, rfl⟩) fun r s₁ hr => ?_
  cases r with
  | error e => exact hr
  | ok fl =>
    cases fl with
    | ret obj =>
      obtain ⟨led, rfl, rfl⟩ := hr
      have hS : (s.heap.push { cls := .type "set", dict := none, data := .set #[] 0 (.fresh 0 0 led) }).get? s.heap.objs.size = some { cls := .type "set", dict := none, data := .set #[] 0 (.fresh 0 0 led) } := Heap.get?_push_size _ rfl
      have hT : Shared.TypeIs { s with heap := s.heap.push { cls := .type "set", dict := none, data := .set #[] 0 (.fresh 0 0 led) } } (.ref s.heap.objs.size) "set" := ⟨_, hS, rfl⟩
      have hli := PySem.F.called_set.init.lookup
      have hbi := PySem.F.called_set.init.bind (.ref s.heap.objs.size)
      repeat (any_goals (first | assumption | wp_step))
      refine codeAny_mono (codeAny_call_builtin (R := wants (fun r s₂ => r = .none ∧ ∃ h' tk, s₂ = { s with heap := h', toks := tk } ∧
          h'.SetOf (PySem.strKind prog w) s.heap.objs.size (fun k' => (xs.take items.size).any (· == k')) items.size ∧
          (∀ b o, b < s.heap.objs.size → s.heap.get? b = some o → h'.get? b = some o)) E) PySem.F.called_set.init.plain PySem.F.entry_set_init (check_set_init_1 hT ?_)) fun r₂ s₂ hr₂ => ?_
      · obtain ⟨ol, hol, hcl, nl, hdl⟩ := hl
        obtain ⟨ocls, odict, odata, oslots⟩ := ol
        simp only at hcl hdl
        subst hcl; subst hdl
        have hol' : (s.heap.push { cls := .type "set", dict := none, data := .set #[] 0 (.fresh 0 0 led) }).get? l = some { cls := .type "list", dict := odict, data := .seq items nl, slots := oslots } := Heap.get?_push_of_some _ hol
        have hsls := PySem.F.sub_list_set
        have hslf := PySem.F.sub_list_frozenset
        have hne : (Value.type "list" == Value.type "dict") = false := by decide
        have hl1 : (s.heap.push { cls := .type "set", dict := none, data := .set #[] 0 (.fresh 0 0 led) }).IsList l items := ⟨_, hol', rfl, nl, rfl⟩
        unfold Builtin.«set.__init__» noKeywords Builtin.Frozenset.updateFrom
        generalize hPI : pyIter = PI
        wp_walk
        subst hPI
        refine wpAny_pyIter_list hl1 ?_
        refine wpAny_bind (wpAny_runValue ?_)
        have hlS : l < s.heap.objs.size := Heap.lt_size hol
        have hh3 : A.in1.in1.in1.handled = none := by simp [hh]
        have hneI : l ≠ (s.heap.push { cls := .type "set", dict := none, data := .set #[] 0 (.fresh 0 0 led) }).objs.size := by
          rw [Heap.size_push]; exact Nat.ne_of_lt (Nat.lt_succ_of_lt hlS)
        have hSf : s.heap.objs.size ∉ [(s.heap.push { cls := .type "set", dict := none, data := .set #[] 0 (.fresh 0 0 led) }).objs.size, l] := by
          rw [Heap.size_push]; simp only [List.mem_cons, List.mem_singleton, List.not_mem_nil, or_false, not_or]
          exact ⟨Nat.ne_of_lt (Nat.lt_succ_self _), Nat.ne_of_gt hlS⟩
        have hsz : xs.length = items.size := by rw [← StrsAre.len_eq hi, Array.length_toList]
        have hval : ∀ (i : Nat) (v : Value), items[i]? = some v → ∃ t, v = .str (xs.getD i Str.empty) t := fun i v hv => SS.strs_at hi i v (by rw [Array.getElem?_toList]; exact hv)
        refine walk_set ((Walks.list hh3 _ l hneI items).toS) s.heap.objs.size hSf xs hsz nd (by rw [← hsz]; exact hn1) hval (items.size - 0) 0 _ (by omega) (Nat.zero_le _)
          ⟨⟨_, Heap.get?_push_size _ rfl, rfl, rfl⟩, (hl1.push _)⟩ ?hS0 ?hR
        case hS0 =>
          have hget : ((s.heap.push { cls := .type "set", dict := none, data := .set #[] 0 (.fresh 0 0 led) }).push { cls := .type "list_iterator", data := .fields #[.ref l, .int 0 0] }).get? s.heap.objs.size
              = some { cls := .type "set", dict := none, data := .set #[] 0 (.fresh 0 0 led) } := Heap.get?_push_of_some _ hS
          exact PyProof.Rows.SetOf_congr ((PyProof.Rows.setObjOf_fresh (knd := PySem.strKind prog w) led).setOf hget (by unfold scanBound; omega)) (fun _ => rfl) rfl
        case hR =>
          intro s' hm hS'
          obtain ⟨h', g', d', tk', os'⟩ := s'
          have eg : g' = s.gens := hm.gens
          have ed : d' = s.drawn := hm.drawn
          have eo : os' = s.os := hm.os
          subst eg; subst ed; subst eo
          show wpAny _ _ _ _ _ _
          refine wpAny_pure ?_
          show wpAny _ _ (ret Value.none) _ _ _
          refine wpAny_pure ⟨rfl, h', tk', rfl, hS', fun b o hb e => ?_⟩
          have hb1 : b ≠ s.heap.objs.size := Nat.ne_of_lt hb
          have hb2 : b ≠ (s.heap.push { cls := .type "set", dict := none, data := .set #[] 0 (.fresh 0 0 led) }).objs.size := by
            rw [Heap.size_push]; exact Nat.ne_of_lt (Nat.lt_succ_of_lt hb)
          exact hm.heap b o (by simp only [List.mem_cons, List.mem_singleton, List.not_mem_nil, or_false, not_or]; exact ⟨hb1, hb2⟩) (Heap.get?_push_of_some _ (Heap.get?_push_of_some _ e))
      · cases r₂ with
        | error e => exact hr₂
        | ok fl₂ =>
          cases fl₂ with
          | ret r =>
            obtain ⟨rfl, h', tk, rfl, hS', hk'⟩ := hr₂
            repeat (any_goals (first | assumption | wp_step))
            exact h _ _ hS' hk'
          | _ => exact hr₂.elim
    | _ => exact hr.elim
end
end SZ
namespace L2
open PySem PySem.Spec PyProof.Rows
section
variable {X : Cx}
/-- len(set(xs)) of a list of different texts -/
def tLenSetS (K : PySem.W.Frag) (ta : TE) : TE := fun σ H Q => ta σ H fun x H1 => ∃ (l : Addr) (xs : List Str), x = .ref l ∧ SqL K H1 l (xs.map V.str) ∧ xs.length < 30 ∧ xs.Nodup ∧ Q (.int xs.length) H1
theorem pe_lenSetS {a : Expr} {ta : TE} {p p2 q pos : Pos} (hc : X.calm = true) (hg : Gl X "len") (hm : X.mg "len" = none) (hg2 : Gl X "set") (hm2 : X.mg "set" = none) (ha : PE X a ta)
    (na : starEach [a] X.env = (false, eval a X.env) :: starEach [] X.env := by rfl) : PE X (.Call (.Name "len" p) [.Call (.Name "set" p2) [a] [] q] [] pos) (tLenSetS X.K ta) := by
  refine ⟨fun pins s σ H Q I h => ?_⟩
  refine Call_ (ld_blt I hg hm boot_len ?_)
  refine PyProof.Rows.callWith_builtin1 (PyProof.Rows.args_cons ?_ rfl) rfl rfl
  refine Call_ (ld_blt I hg2 hm2 boot_set ?_)
  refine PyProof.Rows.callWith_type1 (PyProof.Rows.args_cons (thn (ha.run pins s σ H _ I h) fun v s1 ⟨x, H1, I1, r1, q1⟩ => PyProof.Rows.args_nil ?_) na) na rfl
  obtain ⟨l, xs, rfl, hq, h1, nd, q1⟩ := q1
  cases r1
  obtain ⟨its, r, pl, hz⟩ := I1.list hq
  refine SZ.set_of_strs (I1.ok.hd hc) pl.isList (by simpa using strsAre_of r) nd h1 fun h' tk hS hk => ?_
  refine PyProof.Rows.args_nil ?_
  have hl : its.toArray.size = xs.length := by rw [List.size_toArray, ← r.length, List.length_map]
  rw [hl] at hS
  obtain ⟨o, es, ep, t, ho, hex, hd, _, _, _, hf, hn⟩ := hS
  have I2 : Inv X pins σ H1 { s1 with heap := h', toks := tk } := I1.kept fun b o e => hk b o (Heap.lt_size e) e
  exact call_len_set ho hex hd hf (by rw [hn] <;> omega) ⟨.int xs.length, H1, I2.tok _, ⟨_, by rw [hn]⟩, q1⟩
end
end L2
/-! len(range(n)) -/
namespace L2
open PySem PySem.Spec PyProof.Rows
theorem q_rlen (r : Addr) (b : Int) (t u v : Tok) (hb : 0 ≤ b) (hb2 : b < 2 ^ 63) :
    Meets (Builtin.«range.__len__» ⟨[.ref r], []⟩) (fun _ R s => s.heap.get? r = some { cls := .type "range", dict := none, data := .fields #[.int 0 t, .int b u, .int 1 v], slots := #[] } ∧ R (.ok (.ret (.int b s.toks))) { s with toks := s.toks + 1 }) :=
  .of_wp fun prog w A R s h => by
    obtain ⟨hp, g, d, tk, os⟩ := s
    obtain ⟨hl, h⟩ := h
    wp_walk
    have e : Builtin.Range.rangeSize 0 b 1 = b := by
      unfold Builtin.Range.rangeSize
      rw [if_pos (by decide)]
      by_cases hz : (0 : Int) < b
      · rw [if_pos hz, Int.ediv_one]; omega
      · rw [if_neg hz]; omega
    rw [e, if_neg (by omega)]
    show wpAny _ _ (retInt b) _ _ _
    unfold retInt
    exact wpAny_bind (wpAny_mkInt (wpAny_pure ⟨_, rfl, h⟩))
theorem len_rng {P : Program} {w : World} {A : Around} {E : Value → Shared → Prop} {s : Shared} {r : Addr} {b : Int} {t u v : Tok} {Q : Value → Shared → Prop} (hb : 0 ≤ b) (hb2 : b < 2 ^ 63)
    (hr : s.heap.get? r = some { cls := .type "range", dict := none, data := .fields #[.int 0 t, .int b u, .int 1 v], slots := #[] }) (h : Q (.int b (s.toks + 1)) { s with toks := s.toks + 1 + 1 }) :
    wpAny (model P w) A (call (.builtin "len") [.ref r]) Q E s := by
  refine Calls.call_function_entry kind_len plain_len entry_len (args_len1 _) ?_
  have hT : s.TypeIs (.ref r) "range" := ⟨_, hr, rfl⟩
  unfold Builtin.«len»
  refine wpAny_bind (m := oneArg "len" _) (wpAny_pure ?_)
  refine wpAny_bind (m := callSpecial? (.ref r) (Str.ofString "__len__")) (wpAny_callSpecial?_slot (name := Str.ofString "__len__") hT F.slot_range_len
    (call_meets F.slot_range_len hT F.entry_range_len (F.args_range_len_1 _) (q_rlen r b t u v hb hb2) ⟨hr, ?_⟩))
  show wpAny _ _ _ _ _ { s with toks := s.toks + 1 }
  refine wpAny_bind (wpAny_holding (wpAny_pure ?_))
  refine wpAny_bind (wpAny_letGo ?_)
  show wpAny _ _ (if b < 0 then _ else _) _ _ _
  rw [if_neg (by omega)]
  show wpAny _ _ (if b ≥ 2 ^ 63 then _ else _) _ _ _
  rw [if_neg (by omega)]
  exact wpAny_bind (wpAny_mkInt (wpAny_pure ⟨_, rfl, h⟩))
section
variable {X : Cx}
/-- range(n) as a value -/
theorem cr_range1 : CallR X (.type "range") (fun vs H Q => ∃ j, vs = [V.int j] ∧ ∀ p, H p = none → Q (.ref p) (upd H p (.rng 0 j))) := by
  intro pins s σ H vs us Q I r h
  obtain ⟨j, rfl, q⟩ := h
  obtain ⟨u1, rfl, ri⟩ := vals1 r
  obtain ⟨t, rfl⟩ := ri
  refine call_range_1 ⟨.ref s.heap.objs.size, upd H s.heap.objs.size (.rng 0 j), I.laid (t' := s.toks + 1 + 1) (fun b o e => Heap.get?_push_of_some _ e) (Nat.le_refl _) ?_, rfl, q _ (I.hok.fresh (Nat.le_refl _))⟩
  exact ⟨_, _, _, Heap.get?_push_size _ rfl⟩
/-- len of a range from 0 -/
theorem call_lenRng : CallR X (.builtin "len") (fun vs H Q => ∃ a j, vs = [V.ref a] ∧ H a = some (.rng 0 j) ∧ 0 ≤ j ∧ j < 2 ^ 63 ∧ Q (.int j) H) := by
  intro pins s σ H vs us Q I r h
  obtain ⟨a, j, rfl, ha, h0, h1, q⟩ := h
  obtain ⟨u1, rfl, ri⟩ := vals1 r
  cases ri
  obtain ⟨t1, t2, t3, ho⟩ := I.hok a _ ha
  exact len_rng h0 h1 ho ⟨.int j, H, I.tok _, ⟨_, rfl⟩, q⟩
end
end L2
/-! methods and classes called with keywords only -/
namespace L2
open PySem PySem.Spec PyProof.Rows C8
/-- the keywords' values in the parameters' order, behind the first ones -/
def gP {α : Type} (perm : List Nat) (us ws : List α) : List α := us ++ perm.flatMap fun i => (ws.drop i).take 1
theorem vals_take : ∀ {vs : List V} {us : List Value}, Vals vs us → ∀ n, Vals (vs.take n) (us.take n)
  | _, _, .nil, n => by simp; exact .nil
  | _, _, .cons r t, 0 => .nil
  | _, _, .cons r t, n + 1 => .cons r (vals_take t n)
theorem gP_rel (perm : List Nat) {vs zs : List V} {us ws : List Value} (r : Vals vs us) (q : Vals zs ws) : Vals (gP perm vs zs) (gP perm us ws) := by
  unfold gP
  refine r.append ?_
  induction perm with
  | nil => exact .nil
  | cons i p ih =>
    simp only [List.flatMap_cons]
    exact (vals_take (q.drop i) 1).append ih
section
variable {K : PySem.W.Frag} {x qual : Str} {params : Arguments} {body : List Stmt} {scope : Scope} {kws : List (Str × V)} {f : Addr} {fd : FuncData} {ps : List Str}
theorem FunD.kbindsP (F : FunD K x qual params body scope [] kws f fd) (n : Nat) (ks : List Str) (perm : List Nat)
    (h : ∀ (kV doc pm : Value) (an : Option Addr) (cdv ct : Value) (us ws : List Value), us.length = n → ws.length = ks.length → bindArgs (PySem.W.fnOf x qual params body scope .none kV doc pm an cdv ct) ⟨us, ks.zip ws⟩ = pure (ps.zip (gP perm us ws))) :
    KBn K fd ps n ks (gP perm) (gP perm) := by
  obtain ⟨oc, od, dV, kV, doc, pm, an, cdv, ct, osl, rfl, lk, hcd, hD, hK⟩ := F.ex
  rcases hD with ⟨_, rfl⟩ | ⟨e, _⟩
  · exact ⟨fun s us ws _ h1 h2 => .of_eq (h kV doc pm an cdv ct us ws h1 h2), fun r q => gP_rel perm r q⟩
  · exact absurd rfl e
end
structure MetK (P : Program) (w : World) (K : PySem.W.Frag) (mg : Str → Option Value) (base : Heap) (k : Nat) (C : Addr) (m : Str) (ks : List Str) (perm : List Nat) (sp : Sp) : Prop where
  ex : ∃ (f : Addr) (fd : FuncData) (ps : List Str), Cls K C ∧ Meth K C m f ∧ FnOk P w K mg base CX0 k f fd ps sp ∧ KBn K fd ps 1 ks (gP perm) (gP perm)
structure MakK (P : Program) (w : World) (K : PySem.W.Frag) (mg : Str → Option Value) (base : Heap) (k : Nat) (x : Str) (C : Addr) (ks : List Str) (perm : List Nat) (sp : Sp) : Prop where
  ex : ∃ (f : Addr) (fd : FuncData) (ps : List Str), Mk K C f ∧ FnOk P w K mg base CX0 k f fd ps sp ∧ mg x = some (.ref C) ∧ KBn K fd ps 1 ks (gP perm) (gP perm)
section
variable {X : Cx} {k j : Nat} {C : Addr} {x m : Str} {sp : Sp} {p pos apos : Pos} {o : Expr} {ks : List Str} {perm : List Nat} {kws : List Keyword} {ta : TE} {tk : TA}
theorem pe_mtK {pl : Sem Bool} (c : MetK X.prog X.w X.K X.mg X.base k C m ks perm sp) (hr : Room j X.A) (hk : k ≤ j) (he : PE X o ta) (hkw : PK X kws tk)
    (hall : (backToKw pos (keywordEach kws X.env)).all (·.1.isSome) = true := by rfl) (hks : (backToKw pos (keywordEach kws X.env)).filterMap (·.1) = ks := by rfl)
    (hpl : ((backTo pos (starEach [] X.env)).any (·.1) || (backToKw pos (keywordEach kws X.env)).any (·.1.isNone)) = false := by rfl)
    (ht : eval (.Call (.Attribute o m apos) [] kws pos) X.env = (do
      let ov ← eval o X.env
      standAt apos.atName
      let (f, first) ← holding [ov] (getMethod ov m pl)
      callWith pos f first (backTo pos (starEach [] X.env)) (backToKw pos (keywordEach kws X.env))) := by rfl) :
    PE X (.Call (.Attribute o m apos) [] kws pos) (tMethK C m 0 ks.length sp (gP perm) E0 ta tNil tk) := by
  obtain ⟨f, fd, ps, hc, hm, F, b⟩ := c.ex
  exact pe_methK0 (pl := pl) he hc hm F (hr.mono hk) b pass0 hkw hall hks hpl ht
theorem pe_mkK (c : MakK X.prog X.w X.K X.mg X.base k x C ks perm sp) (hr : Room j X.A) (hk : k + 1 ≤ j) (hg : Gl X x) (hkw : PK X kws tk)
    (hall : (backToKw pos (keywordEach kws X.env)).all (·.1.isSome) = true := by rfl) (hks : (backToKw pos (keywordEach kws X.env)).filterMap (·.1) = ks := by rfl) (hdb : (x == ("__debug__" : Str)) = false := by decide)
    (hpl : ((backTo pos (starEach [] X.env)).any (·.1) || (backToKw pos (keywordEach kws X.env)).any (·.1.isNone)) = false := by rfl) :
    PE X (.Call (.Name x p) [] kws pos) (tMakeK C 0 ks.length sp (gP perm) E0 tNil tk) := by
  obtain ⟨f, fd, ps, M, F, hm, b⟩ := c.ex
  exact pe_makeK0 M F (hr.mono hk) hg hm b pass0 hkw hall hks hdb hpl
end
end L2
/-! a law whose def is known only where nothing is being shown -/
namespace L2
open PySem PySem.Spec PyProof.Rows
section
variable {P : Program} {w : World} {K : PySem.W.Frag} {mg mb : Str → Option Value} {k : Nat} {fa a : Addr} {fd : FuncData} {x : Str} {sp : Sp} {s1 : Shared} {vs : List Value} {ns : List Int}
/-- the script's object -/
abbrev scriptO (vs : List Value) : Obj := { cls := .type "list", data := .seq vs.toArray }
/-- the script alone is told, unless it stands in the written part -/
def scriptH (K : PySem.W.Frag) (a : Addr) (vs : List Value) (ns : List Int) : Hp := fun q => if q = a ∧ K.lookup a = none then some (.frz (scriptO vs) (.lst (ns.map V.int))) else none
theorem scriptH_cases (q : Addr) : (scriptH K a vs ns q = none) ∨ (q = a ∧ K.lookup a = none ∧ scriptH K a vs ns q = some (.frz (scriptO vs) (.lst (ns.map V.int)))) := by
  unfold scriptH
  by_cases c : q = a ∧ K.lookup a = none
  · exact Or.inr ⟨c.1, c.2, if_pos c⟩
  · exact Or.inl (if_neg c)
theorem scriptH_only : Only (scriptH K a vs ns) := fun q => by
  rcases scriptH_cases (K := K) (a := a) (vs := vs) (ns := ns) q with h | ⟨_, _, h⟩
  · exact Or.inl h
  · exact Or.inr ⟨_, _, h⟩
theorem scriptH_seq (KX : K.In s1.heap) (ea : s1.heap.get? a = some (scriptO vs)) (ii : IntsAre vs ns) (hl : ns.length ≤ sizeLine) : SqL K (scriptH K a vs ns) a (ns.map V.int) := by
  have lv := ii.length
  cases q : K.lookup a with
  | none => exact Or.inl (Or.inr ⟨scriptO vs, by unfold scriptH; exact if_pos ⟨rfl, q⟩⟩)
  | some o =>
    obtain rfl : scriptO vs = o := Option.some.inj (ea.symm.trans (KX a o q))
    refine Or.inr ⟨_, vs.toArray, _, q, rfl, rfl, rfl, ?_, ?_⟩
    · rw [List.size_toArray, lv]; exact hl
    · simpa using vals_ints ii
theorem scriptH_ok (ea : s1.heap.get? a = some (scriptO vs)) (ii : IntsAre vs ns) (hl : ns.length ≤ sizeLine) : HOk P w (scriptH K a vs ns) s1.heap := fun q u hu => by
  rcases scriptH_cases (K := K) (a := a) (vs := vs) (ns := ns) q with h | ⟨e, _, h⟩
  · rw [h] at hu; cases hu
  · rw [h] at hu
    cases hu
    subst e
    exact ⟨ea, (by rw [List.length_map]; exact hl), vs, _, vals_ints ii, ea⟩
/-- the call of the law -/
theorem law_callG (KX : K.In s1.heap) (gl : s1.heap.Ns mainGlobals mg) (bl : s1.heap.Ns builtinsNs mb) (bb : ∀ y : Str, y ≠ "__name__" → mb y = bootBuiltins y) (nl : s1.heap.NoLimit) (gn : s1.gens = #[])
    (ea : s1.heap.get? a = some (scriptO vs)) (ii : IntsAre vs ns) (hl : ns.length ≤ sizeLine) (room : Room k callerA)
    (F : ∀ base : Heap, K.In base → base.Ns mainGlobals mg → FnG P w K mg base CX0 k fa fd [x] sp) (bd : ∀ (s : Shared) (u : Value), BindsTo s fd ⟨[u], []⟩ [(x, u)])
    (hsp : ∀ H : Hp, Only H → SqL K H a (ns.map V.int) → sp [.ref a] H (fun v _ => v = .bl true) fun _ _ _ => False) :
    codeAny (model P w) callerA (.call (.ref fa) ⟨[.ref a], []⟩) (fun r s2 => r = .ok (.ret (.bool true)) ∧ OldK s1.heap s2.heap ∧ s2.os = s1.os ∧ AllBare s2.gens) s1 := by
  obtain ⟨Hs, hHs⟩ : ∃ Hs, Hs = scriptH K a vs ns := ⟨_, rfl⟩
  have cs : ∀ q, Hs q = none ∨ (q = a ∧ K.lookup a = none ∧ Hs q = some (.frz (scriptO vs) (.lst (ns.map V.int)))) := by rw [hHs]; exact scriptH_cases
  have ok : HOk P w Hs s1.heap := by rw [hHs]; exact scriptH_ok ea ii hl
  -- objects that are no script's stand below it
  have under : ∀ {q : Addr} {o : Obj}, s1.heap.get? q = some o → o ≠ scriptO vs ∨ (K.lookup q).isSome = true → (hidT s1.heap Hs).get? q = some o := fun {q o} e n => hidT_get e (by
    rcases cs q with h | ⟨z, hn, _⟩
    · exact h
    · subst z
      rcases n with n | n
      · rw [ea] at e; exact absurd (Option.some.inj e).symm n
      · rw [hn] at n; cases n)
  have nsp : ∀ {q : Addr} {m : Str → Option Value}, s1.heap.Ns q m → (hidT s1.heap Hs).Ns q m := fun {q m} ⟨o, es, ep, e, d, r⟩ => ⟨o, es, ep, under e (Or.inl fun z => by rw [z] at d; cases d), d, r⟩
  have kin : K.In (hidT s1.heap Hs) := fun q o e => under (KX q o e) (Or.inr (by rw [e]; rfl))
  have md : Mod K mg (hidT s1.heap Hs) := ⟨kin, nsp gl, ⟨mb, nsp bl, bb⟩, by obtain ⟨mc, g1, g2⟩ := nl; exact ⟨mc, nsp g1, g2⟩⟩
  have en : Env0 P w K mg (hidT s1.heap Hs) callerA [] s1 Hs :=
    { frames := rfl, mod := md, bs := fun q o e => of_hidT e, bsz := Nat.le_of_eq (hidT_size _ _), funs := trivial, frf := (fun q hq => by cases hq), hok := ok, bare := .of_eq gn }
  have go := (F _ kin (nsp gl)).run callerA [] s1 Hs ⟨[.ref a], []⟩ [.ref a] [.ref a] _ _ rfl room en (bd s1 (.ref a)) (.cons rfl .nil) (hsp Hs (by rw [hHs]; exact scriptH_only) (by rw [hHs]; exact scriptH_seq KX ea ii hl))
  refine codeAny_mono go fun r s2 h => ?_
  match r, h with
  | .error e, h => exact False.elim h
  | .ok .next, h => exact False.elim h
  | .ok .brk, h => exact False.elim h
  | .ok .cont, h => exact False.elim h
  | .ok (.ret u), ⟨v, H2, os, bare, un, ok2, rv, hv⟩ =>
    have hv : v = .bl true := hv
    subst hv
    obtain rfl : u = Value.bool true := rv
    refine ⟨rfl, OldK.of_keep fun q o e => ?_, os, bare⟩
    rcases cs q with h | ⟨z, hn, h⟩
    · exact un.keep q o e h (fun z => by cases z) (by simp)
    · obtain ⟨g1, _⟩ := ok2 q _ (un.frzs q _ _ h)
      subst z
      rw [ea] at e
      cases e
      exact g1
end
/-- a law's end over a head by facts -/
theorem walk_ofG {l : PySem.W.OpenLaw} {n k : Nat} {q : Program} {loose : List Str} {XP : (Str → Option Value) → Heap → Prop} {YP : World → Heap → Prop} {d : DefRec} {x : Str}
    (hm : l.most = some n) (hz : n ≤ sizeLine) (hd : d.params.defaults = []) (room : Room k callerA)
    (F : ∀ (w : World) (mg : Str → Option Value) (fa : Addr) (h : Heap), YP w h → h.Ns mainGlobals mg → mg d.name = some (.ref fa) →
      ∃ (K : PySem.W.Frag) (fd : FuncData) (sp : Sp), K.In h ∧ (∀ (s : Shared) (u : Value), BindsTo s fd ⟨[u], []⟩ [(x, u)]) ∧
        (∀ (H : Hp) (a : Addr) (ns : List Int), ns.length ≤ n → Only H → SqL K H a (ns.map V.int) → sp [.ref a] H (fun v _ => v = .bl true) fun _ _ _ => False) ∧
        ∀ base : Heap, K.In base → base.Ns mainGlobals mg → FnG l.prog w K mg base CX0 k fa fd [x] sp) :
    PySem.W.WalkO q loose XP YP l.row.toRowW d [] (fun f vs => PySem.call f vs) := by
  refine Att.attach_call hm hd fun w s0 s1 mg mb fa o pm cd doc a vs ns G Y _ _ _ hmg ea ii hlen gn => ?_
  obtain ⟨K, fd, sp, KX, hb, hsp, hF⟩ := F w mg fa _ Y G.T.g hmg
  exact law_callG KX G.T.g G.T.b G.T.builtins G.T.nolimit gn ea ii (Nat.le_trans hlen hz) room hF hb fun H hO hS => hsp H a ns hlen hO hS
end L2
/-! tuples whose objects are known: displays, sums, reversed ones; enumerate over a tuple; lists against the empty list -/
namespace L2
open PySem PySem.Spec PyProof.Rows
theorem meets_enumerate_newB1 {v : Value} {o : Obj} {H : Heap → Prop} (B : PySem.Begins v o H) :
    Meets (Builtin.«enumerate.__new__» ⟨[.type "enumerate", v], []⟩) (fun _ R s => H s.heap ∧
      R (.ok (.ret (.ref (s.heap.push o).objs.size))) { s with heap := (s.heap.push o).push { cls := .type "enumerate", data := .fields #[.none, .bool false, .ref s.heap.objs.size, rawInt 0, .none, .none] } }) :=
  .of_wp fun prog w A R s h => by
    obtain ⟨hp, g, d, tk, os⟩ := s; obtain ⟨h1, h⟩ := h
    have hsub := sub_enumerate
    have q1 : ∀ {A' : Around} {E : Value → Shared → Prop} {Q : Value → Shared → Prop}, Q (.ref hp.objs.size) ⟨hp.push o, g, d, tk, os⟩ → wpAny (model prog w) A' (pyIter v) Q E ⟨hp, g, d, tk, os⟩ :=
      fun q => B.iter prog w _ _ ⟨hp, g, d, tk, os⟩ _ h1 q
    wp_walk using q1
    refine wpAny_stack_any fun st => wpAny_pure ?_
    split
    · rename_i c _ _ _ _ _
      cases (c == Value.type "enumerate")
      · wp_walk using q1
        exact ⟨_, rfl, h⟩
      · wp_walk using q1
        exact ⟨_, rfl, h⟩
    · wp_walk using q1
      exact ⟨_, rfl, h⟩
section
variable {prog : Program} {w : World} {A : Around} {E : Value → Shared → Prop} {s : Shared}
theorem enum_begins1 {v : Value} {o : Obj} {H : Heap → Prop} {Q : Value → Shared → Prop} (B : PySem.Begins v o H) (h1 : H s.heap)
    (h : ∀ h', IsEnum h' (s.heap.objs.size + 1) s.heap.objs.size 0 .none → h'.get? s.heap.objs.size = some o → h'.objs.size = s.heap.objs.size + 2 →
      (∀ b o, s.heap.get? b = some o → h'.get? b = some o) → Q (.ref (s.heap.objs.size + 1)) { s with heap := h' }) :
    wpAny (model prog w) A (call (.type "enumerate") [v]) Q E s := by
  refine callType_new F.called_enumerate (by decide) (F.typeCall_enumerate_1 _) (F.newCall_enumerate_1 _) (fun obj => F.args_object_init_2 obj _) F.entry_enumerate_new
    (meets_enumerate_newB1 B) ⟨h1, ?_⟩
  have hz : (s.heap.push o).objs.size = s.heap.objs.size + 1 := Heap.size_push ..
  show _ ∧ _
  rw [hz]
  have he : IsEnum ((s.heap.push o).push { cls := .type "enumerate", data := .fields #[.none, .bool false, .ref s.heap.objs.size, rawInt 0, .none, .none] }) (s.heap.objs.size + 1) s.heap.objs.size 0 .none := by
    have := Heap.get?_push_size (s.heap.push o) (o := { cls := .type "enumerate", data := .fields #[.none, .bool false, .ref s.heap.objs.size, rawInt 0, .none, .none] }) rfl
    rw [hz] at this; exact this
  refine ⟨⟨_, he, rfl⟩, h _ he (Heap.get?_push_of_some _ (Heap.get?_push_size _ B.free)) (by rw [Heap.size_push, hz]) fun b o x => Heap.get?_push_of_some _ (Heap.get?_push_of_some _ x)⟩
theorem places_rev (n : Nat) : Builtin.Slice.slicePlaces ((n : Int) - 1) (-1) (-1) = n := by
  unfold Builtin.Slice.slicePlaces
  rw [if_neg (by omega)]
  by_cases h : (n : Int) - 1 > -1
  · rw [if_pos h]
    have e : -(-1 : Int) = 1 := by omega
    rw [e, Int.ediv_one]
    omega
  · rw [if_neg h]
    omega
theorem pick_rev (xs : List Value) : ((List.range xs.length).filterMap fun (k : Nat) => xs.toArray[(((xs.length : Int) - 1) + (k : Int) * (-1)).toNat]?) = xs.reverse := by
  have e : ∀ k ∈ List.range xs.length, xs.toArray[(((xs.length : Int) - 1) + (k : Int) * (-1)).toNat]? = some (xs.reverse.getD k .none) := by
    intro k hk
    have hk : k < xs.length := List.mem_range.mp hk
    have e1 : (((xs.length : Int) - 1) + (k : Int) * (-1)).toNat = xs.length - 1 - k := by omega
    rw [e1, List.getElem?_toArray, List.getD_eq_getElem?_getD, List.getElem?_reverse hk, List.getElem?_eq_getElem (by omega)]
    rfl
  have e2 : (List.range xs.length).filterMap (fun (k : Nat) => xs.toArray[(((xs.length : Int) - 1) + (k : Int) * (-1)).toNat]?) = (List.range xs.length).filterMap (fun k => some (xs.reverse.getD k .none)) :=
    (by
      have : ∀ (l : List Nat), (∀ k ∈ l, xs.toArray[(((xs.length : Int) - 1) + (k : Int) * (-1)).toNat]? = some (xs.reverse.getD k .none)) → l.filterMap (fun (k : Nat) => xs.toArray[(((xs.length : Int) - 1) + (k : Int) * (-1)).toNat]?) = l.filterMap (fun k => some (xs.reverse.getD k .none)) := by
        intro l
        induction l with
        | nil => intro _; rfl
        | cons a l ih =>
          intro h
          rw [List.filterMap_cons, List.filterMap_cons, h a (List.mem_cons_self ..), ih fun k hk => h k (List.mem_cons_of_mem _ hk)]
      exact this _ e)
  rw [e2]
  have e3 : (List.range xs.length).filterMap (fun k => some (xs.reverse.getD k .none)) = (List.range xs.length).map (fun k => xs.reverse.getD k .none) := by
    rw [← List.filterMap_eq_map]; rfl
  rw [e3]
  refine List.ext_getElem? fun i => ?_
  by_cases hi : i < xs.length
  · rw [List.getElem?_map, List.getElem?_range hi, List.getElem?_eq_getElem (by simpa using hi)]
    simp [List.getD_eq_getElem?_getD, hi]
  · rw [List.getElem?_eq_none (by simp; omega), List.getElem?_eq_none (by simp; omega)]
/-- t[::-1] -/
theorem getItem_tuple_rev {t sl : Addr} {its : List Value} {vs : Value} {Q : Value → Shared → Prop} (ht : IsTup s.heap t its.toArray) (hs : s.heap.IsSliceOf sl .none .none vs)
    (ps : IsPart vs (some (-1))) (h : Q (.ref s.heap.objs.size) { s with heap := s.heap.push { cls := .type "tuple", data := .seq its.reverse.toArray } })
    (hsz : its.length ≤ sizeLine) : wpAny (model prog w) A (getItem (.ref t) (.ref sl)) Q E s := by
  obtain ⟨os, hos, hcs, hds⟩ := id hs
  have hTs : s.TypeIs (.ref sl) "slice" := ⟨os, hos, hcs⟩
  have htake : sizeOk (.seq its.reverse.toArray) := by
    show its.reverse.toArray.size ≤ sizeLine
    rw [List.size_toArray, List.length_reverse]
    exact hsz
  unfold getItem
  try with_reducible refine wpAny_holding ?_
  first | refine wpAny_bind (wpAny_pure ?_) | skip
  refine wpAny_bind (wpAny_sequenceKey ht.typeIs (by decide) ?_)
  refine wpAny_bind (wpAny_callSpecial?_slot (name := Str.ofString "__getitem__") ht.typeIs PyProof.Rows.slot_tuple_getitem
    (wpAny_call_entry PyProof.Rows.slot_tuple_getitem ht.typeIs entry_tuple_getitem ?_ (args_tuple_getitem _ _)))
  show wpAny _ _ (Builtin.Tuple.tupleItemsOf (.ref t) >>= _) _ _ s
  refine wpAny_bind (tupleItemsOf_ ht ?_)
  refine wpAny_bind (wpAny_typeOf hTs ?_)
  rw [if_pos (by decide)]
  have sa : ∀ {QQ : Int × Int × Nat → Shared → Prop} {EE : Value → Shared → Prop} {AA : Around}, QQ (((its.length : Int) - 1), -1, its.length) s →
      wpAny (model prog w) AA (Builtin.Slice.sliceApplied (.ref sl) (pure (its.toArray.size : Int))) QQ EE s := by
    intro QQ EE AA hq
    unfold Builtin.Slice.sliceApplied Builtin.Slice.sliceFields
    refine wpAny_bind (wpAny_bind (wpAny_field hos hds (x := .none) rfl (wpAny_bind (wpAny_field hos hds (x := .none) rfl (wpAny_bind (wpAny_field hos hds (x := vs) rfl (wpAny_pure ?_)))))))
    refine wpAny_bind (HT.slicePart_ ps ?_)
    show wpAny _ _ (if ((-1 : Int) == 0) = true then _ else _) _ _ s
    rw [if_neg (by decide)]
    refine wpAny_bind (HT.slicePart_ .none (wpAny_bind (HT.slicePart_ .none (wpAny_bind (wpAny_pure ?_)))))
    show wpAny _ _ (pure (((its.toArray.size : Int) - 1), (-1 : Int), Builtin.Slice.slicePlaces ((its.toArray.size : Int) - 1) (-1) (-1))) _ _ s
    rw [places_rev]
    rw [List.size_toArray]
    exact wpAny_pure hq
  refine wpAny_bind (sa ?_)
  show wpAny _ _ (if (((its.length : Int) - 1) == 0 && (-1 : Int) == 1 && its.length == its.toArray.size) = true then _ else _) _ _ s
  rw [if_neg (by simp), pick_rev]
  first
    | exact wpAny_bind (m := Builtin.Tuple.tupleExact _) (wpAny_newObj_type (wpAny_pure ⟨_, rfl, wpAny_pure h⟩) htake)
    | exact wpAny_bind (m := Builtin.Tuple.tupleExact _) (wpAny_newObj_type (wpAny_bind (wpAny_pure (wpAny_pure ⟨_, rfl, wpAny_pure h⟩))) htake)
    | exact wpAny_bind (wpAny_bind (m := Builtin.Tuple.tupleExact _) (wpAny_newObj_type (wpAny_pure (wpAny_pure ⟨_, rfl, wpAny_pure h⟩)) htake))
    | exact wpAny_bind (wpAny_bind (m := Builtin.Tuple.tupleExact _) (wpAny_newObj_type (wpAny_pure ⟨_, rfl, wpAny_pure h⟩) htake))
end
/-! ### enumerate over a tuple -/
/-- the tuple at a, its items with their places in new pairs -/
def IteT (K : PySem.W.Frag) (a : Addr) : It :=
  ⟨fun i H => ∃ (xs : List V) (x : V), SqT K H a xs ∧ xs[i]? = some x, fun i H v H' => ∃ T x, v = .ref T ∧ H T = none ∧ H' = upd H T (.tup [.int (i : Nat), x]) ∧ ∀ xs, SqT K H a xs → xs[i]? = some x, fun i H => ∃ xs : List V, SqT K H a xs ∧ xs.length ≤ i⟩
theorem turn_enumT {P : Program} {w : World} {K : PySem.W.Frag} {elts : List Expr} {kk : Nat} {tpos : Pos} (a e it : Addr) (hai : a ≠ it) (hea : e ≠ a) :
    Turn P w K (.Tuple elts kk tpos) (IteT K a) [e, it] e (fun i h => (∃ old, IsEnum h e it ((i : Nat) : Int) old) ∧ h.IsTupleIter it a i ∧ e ≠ it) where
  mem := by simp
  obj := fun i h st b hb => by
    obtain ⟨⟨old, he⟩, ⟨o, ho, hc, hd⟩, _⟩ := st
    have e' : b = e ∨ b = it := by simpa using hb
    rcases e' with z | z
    · rw [z]; exact ⟨_, he, fun v q => nomatch q⟩
    · rw [z]; exact ⟨o, ho, fun v q => by rw [hd] at q; cases q⟩
  keep := fun i h h' st k => let ⟨⟨old, he⟩, hi, hne⟩ := st; ⟨⟨old, k e (by simp) _ he⟩, hi.at fun o q => k it (by simp) o q, hne⟩
  item := by
    intro X hP hw hK hc i pins s σ H E I hf st hg
    subst hP hw hK
    obtain ⟨⟨old, he⟩, hit, hne⟩ := st
    obtain ⟨xs, x, hq, hx⟩ := hg
    obtain ⟨its, rv, p, hz⟩ := I.tuple hq
    obtain ⟨u, hu, ru⟩ := rv.get hx
    have hel : e < s.heap.objs.size := Heap.lt_size he
    have hil : it < s.heap.objs.size := by obtain ⟨_, q, _⟩ := hit; exact Heap.lt_size q
    have hlen : i < its.toArray.size := by
      have := (List.getElem?_eq_some_iff.mp hu).1
      simpa using this
    refine PySem.wpAny_pyNext_enum_itemD (PySem.Draws.tuple (A := X.A.in1) (I.ok.hd hc) it a hai its.toArray) he ⟨hit, p⟩ hlen hne (by simp [hne, hea]) fun y h' tk hy ho hit' hT hsz hk => ?_
    have ey : y = u := by
      have hy' : its.toArray[i]? = some y := hy
      rw [List.getElem?_toArray, hu] at hy'
      exact (Option.some.inj hy').symm
    subst ey
    refine ⟨_, rfl, wpAny_letOwnedTupleGo_enum (s := { s with heap := h', toks := tk + 1 }) ho fun h'' he' sb => ?_⟩
    have hT2 : h''.get? s.heap.objs.size = some { cls := .type "tuple", data := .seq #[.int i tk, y] } := (sb.2 _ (Nat.ne_of_gt hel)).trans hT
    have new : ObjOk X.prog X.w (upd H s.heap.objs.size (.tup [.int (i : Nat), x])) h'' s.heap.objs.size (.tup [.int (i : Nat), x]) :=
      ⟨by show 2 ≤ sizeLine; decide, [.int i tk, y], .cons ⟨_, rfl⟩ (.cons ru .nil), ⟨_, hT2, rfl, _, rfl⟩⟩
    have I1 : Inv X pins σ (upd H s.heap.objs.size (.tup [.int (i : Nat), x])) { s with heap := h'', toks := tk + 1 } :=
      I.turnedNew (ch := [e, it]) (fun b ob hb q => (sb.2 b (fun z => hb (by simp [z]))).trans (hk b ob (fun z => hb (by simp [z])) (fun z => hb (by simp [z])) q)) hf (Nat.le_refl _) new
    refine ⟨.ref s.heap.objs.size, _, I1, rfl, ⟨_, x, rfl, I.hok.fresh (Nat.le_refl _), rfl, fun ys hy => by rw [I.tuple_inj hy hq]; exact hx⟩, ⟨⟨y, ?_⟩, hit'.1.at fun o q => (sb.2 it (Ne.symm hne)).trans q, hne⟩, fun b hb => ?_⟩
    · have e1 : ((i + 1 : Nat) : Int) = (i : Int) + 1 := by omega
      rw [e1]; exact he'
    · have hb' : b < s.heap.objs.size := by
        have e' : b = e ∨ b = it := by simpa using hb
        rcases e' with z | z
        · rw [z]; exact hel
        · rw [z]; exact hil
      rw [upd_ne (Nat.ne_of_lt hb')]
      exact (hf b hb).1
  done := by
    intro X hP hw hK hc i pins s σ H E I hf st hg
    subst hP hw hK
    obtain ⟨⟨old, he⟩, hit, hne⟩ := st
    obtain ⟨xs, hq, hx⟩ := hg
    obtain ⟨its, rv, p, hz⟩ := I.tuple hq
    obtain ⟨f0, f1, f2, f3, f4, f5⟩ := hf it (by simp)
    have hl := rv.length
    have D : PySem.Draws X.prog X.w X.A.in1 it [it, a] 0 (fun _ _ => False) (fun j h => j = 0 ∧ h.IsTupleIter it a i ∧ h.IsTuple a its.toArray) :=
      { live := fun _ _ st => let ⟨o, ho, _⟩ := st.2.1; ⟨o, ho⟩
        frame := fun _ _ _ st hk => ⟨st.1, st.2.1.at fun o e => hk it (by simp) o e, st.2.2.at fun o e => hk a (by simp) o e⟩
        item := fun j s Q E hj => absurd hj (Nat.not_lt_zero _)
        done := fun s Q E st hE => wpAny_nextOf_tuple_end (I.ok.hd hc) st.2.1 st.2.2 (by simp; omega) hE }
    exact PySem.wpAny_pyNext_enum_endD D he ⟨rfl, hit, p⟩ fun h' eb => ⟨rfl, I.turned (t' := s.toks) (fun b o hb q => eb b o hb q) f0 f1 f3 f4 f5⟩
  self := fun A i s Q E st h => let ⟨⟨_, he⟩, _⟩ := st; wpAny_pyIter_enum he h

def iEnumT (K : PySem.W.Frag) (ta : TA) : TI := fun σ H R => ta σ H fun vs H1 => ∃ a xs, vs = [.ref a] ∧ SqT K H1 a xs ∧ R (IteT K a) H1
theorem pi_enumT {X : Cx} {e : Expr} {ta : TA} {p pos tpos : Pos} {elts : List Expr} {kk : Nat} (hg : Gl X "enumerate") (hm : X.mg "enumerate" = none) (ha : PA X [e] ta) (hs : starEach [e] X.env = [(false, eval e X.env)] := by rfl) :
    PI X (.Tuple elts kk tpos) (.Call (.Name "enumerate" p) [e] [] pos) (iEnumT X.K ta) := by
  refine ⟨fun pins s σ H R I h => ?_⟩
  refine Call_ (ld_blt I hg hm boot_enumerate (PyProof.Rows.callWith_type1 (thn (ha.run pos pins s σ H _ I h) fun us s1 ⟨vs, H1, I1, r1, q1⟩ => ?_) hs rfl))
  obtain ⟨a, xs, ex, hq, q⟩ := q1
  subst ex
  cases r1 with
  | cons r rr =>
    cases rr
    cases r
    obtain ⟨its, rv, p', hz⟩ := I1.tuple hq
    have hal : a < s1.heap.objs.size := by obtain ⟨o, ho, _⟩ := id p'; exact Heap.lt_size ho
    refine enum_begins1 (PySem.begins_tuple a its.toArray) p' fun h' he hit hsz hk => wpAny_pyIter_enum he ?_
    have I2 : Inv X pins σ H1 { s1 with heap := h' } := I1.kept (t' := s1.toks) hk
    refine ⟨s1.heap.objs.size + 1, [s1.heap.objs.size + 1, s1.heap.objs.size], _, _, H1, rfl, I2, turn_enumT a (s1.heap.objs.size + 1) s1.heap.objs.size (Nat.ne_of_lt hal) (Nat.ne_of_gt (Nat.lt_succ_of_lt hal)), ⟨⟨.none, he⟩, ⟨_, hit, rfl, rfl⟩, Nat.succ_ne_self _⟩, fun b hb => ?_, q⟩
    have e' : b = s1.heap.objs.size + 1 ∨ b = s1.heap.objs.size := by simpa using hb
    have hle : s1.heap.objs.size ≤ b := by
      rcases e' with z | z
      · rw [z]; exact Nat.le_add_right _ _
      · rw [z]; exact Nat.le_refl _
    exact I1.fpOk hle (I1.hok.fresh hle)
section
variable {X : Cx} {es : List Expr} {t : TA} {pos : Pos}
/-! ### displays, sums, reversed tuples, their objects known -/
def tTupF (t : TA) : TE := fun σ H Q => t σ H fun xs H1 => xs.length ≤ sizeLine ∧ ∀ p o, H1 p = none → o.dict = none → Q (.ref p) (upd H1 p (.frz o (.tup xs)))
theorem pe_tupF {x1} (h : PA X es t) : PE X (.Tuple es x1 pos) (tTupF t) := by
  refine ⟨fun pins s σ H Q I hq => ?_⟩
  refine wpAny_Tuple_spliced (thn (h.run pos pins s σ H _ I hq) fun us s1 ⟨xs, H1, I1, r, z, q⟩ => ⟨by rw [← r.length]; exact z, ?_⟩)
  have hf : H1 s1.heap.objs.size = none := I1.hok.fresh (Nat.le_refl _)
  refine ⟨.ref s1.heap.objs.size, upd H1 s1.heap.objs.size (.frz { cls := .type "tuple", data := .seq us.toArray } (.tup xs)), I1.laid (t' := s1.toks) (fun b u e => Heap.get?_push_of_some _ e) (Nat.le_refl _) ?_, rfl, q _ _ hf rfl⟩
  exact ⟨Heap.get?_push_size _ rfl, z, us, r, ⟨_, Heap.get?_push_size _ rfl, rfl, _, rfl⟩⟩
/-- t + u: t itself where u is empty, u itself where t is empty -/
def rCatF (K : PySem.W.Frag) : R2 := fun x y H Q => ∃ a b xs ys, x = .ref a ∧ y = .ref b ∧ SqT K H a xs ∧ SqT K H b ys ∧ xs.length + ys.length ≤ sizeLine ∧
  (xs = [] → Q (.ref b) H) ∧ (xs ≠ [] → ys = [] → Q (.ref a) H) ∧ (xs ≠ [] → ys ≠ [] → ∀ p o, H p = none → o.dict = none → Q (.ref p) (upd H p (.frz o (.tup (xs ++ ys)))))
theorem op_catF : OpR X (binaryOp .Add) (rCatF X.K) := by
  intro pins s σ H x y v u Q I rx ry h
  obtain ⟨a, b, xs, ys, rfl, rfl, ha, hb, hz, q0, q1, q2⟩ := h
  cases rx
  cases ry
  obtain ⟨its, r1, p1, _⟩ := I.tuple ha
  obtain ⟨its2, r2, p2, _⟩ := I.tuple hb
  by_cases hx : xs = []
  · subst hx
    cases r1
    exact cat_tup0 p1 p2 ⟨.ref b, H, I, rfl, q0 rfl⟩
  · refine HT.cat_tup p1 p2 (fun z => hx (r1.nil_iff.mp z)) (fun z => ⟨.ref a, H, I, rfl, q1 hx (r2.nil_iff.mp z)⟩) (fun z => ?_) (by rw [← r1.length, ← r2.length]; exact hz)
    refine ⟨.ref s.heap.objs.size, _, I.laid (t' := s.toks) (o := .frz { cls := .type "tuple", data := .seq (its ++ its2).toArray } (.tup (xs ++ ys))) (fun b ob q => Heap.get?_push_of_some _ q) (Nat.le_refl _) ?_, rfl, q2 hx (fun w => z (r2.nil_iff.mpr w)) _ _ (I.hok.fresh (Nat.le_refl _)) rfl⟩
    exact ⟨Heap.get?_push_size _ rfl, by rw [List.length_append]; exact hz, _, r1.append r2, IsTup.new _ _⟩
def tRevT (K : PySem.W.Frag) (te : TE) : TE := fun σ H Q => te σ H fun x H1 => ∃ a xs, x = .ref a ∧ SqT K H1 a xs ∧ ∀ p o, H1 p = none → o.dict = none → Q (.ref p) (upd H1 p (.frz o (.tup xs.reverse)))
theorem pe_revT {e : Expr} {te : TE} {k : Nat} {p1 p2 p3 pos : Pos} (he : PE X e te) : PE X (.Subscript e (.Slice none none (some (.UnaryOp .USub (.Constant (.int 1) k p1) p2)) p3) pos) (tRevT X.K te) := by
  refine ⟨fun pins s σ H Q I h => ?_⟩
  refine Subscript_ (thn (he.run pins s σ H _ I h) fun v s1 ⟨x, H1, I1, r1, q1⟩ => ?_)
  obtain ⟨a, xs, ex, hx, q⟩ := q1
  subst ex
  cases r1
  have hst : PO X (some (.UnaryOp .USub (.Constant (.int 1) k p1) p2)) (tPart (tUn (rU fun i => .int (-i)) (tC (.int 1)))) := po_some (pe_un un_neg pe_int)
  refine wpAny_Slice (thn (po_none.run pins s1 σ H1 (fun o H2 => o = none ∧ H2 = H1) I1 ⟨rfl, rfl⟩) fun vl s2 ⟨l, H2, I2, pl, el, e2⟩ => ?_)
  subst el e2
  refine thn (po_none.run pins s2 σ H2 (fun o H3 => o = none ∧ H3 = H2) I2 ⟨rfl, rfl⟩) fun vu s3 ⟨u, H3, I3, pu, eu, e3⟩ => ?_
  subst eu e3
  refine thn (hst.run pins s3 σ H3 (fun o H4 => o = some (-1) ∧ H4 = H3) I3 ⟨1, rfl, -1, rfl, rfl, rfl⟩) fun vs s4 ⟨o, H4, I4, ps, eo, e4⟩ => ?_
  subst eo e4
  cases pl
  cases pu
  have I5 : Inv X pins σ H4 { s4 with heap := s4.heap.push { cls := .type "slice", data := .fields #[.none, .none, vs] } } := I4.kept (t' := s4.toks) fun b ob q => Heap.get?_push_of_some _ q
  obtain ⟨its, r, ht, hz⟩ := I5.tuple hx
  have hlen := r.length
  show wpAny (model X.prog X.w) X.A (subscriptTail e (.Slice none none (some (.UnaryOp .USub (.Constant (.int 1) k p1) p2)) p3) (.ref a) (.ref s4.heap.objs.size)) (EP X pins σ Q) X.xe { s4 with heap := s4.heap.push { cls := .type "slice", data := .fields #[.none, .none, vs] } }
  refine tail_any (ops := [.ref a, .ref s4.heap.objs.size]) ht.typeIs (PyProof.Rows.slot_tuple_getitem.lookup) ?_ (by with_unfolding_all rfl)
  refine getItem_tuple_rev ht (Heap.IsSliceOf.new _ .none .none vs) ps ?_ (by omega)
  refine ⟨.ref _, _, I5.laid (t' := s4.toks) (o := .frz { cls := .type "tuple", data := .seq its.reverse.toArray } (.tup xs.reverse)) (fun b ob q => Heap.get?_push_of_some _ q) (Nat.le_refl _) ?_, rfl, q _ _ (I5.hok.fresh (Nat.le_refl _)) rfl⟩
  exact ⟨Heap.get?_push_size _ rfl, by rw [List.length_reverse]; exact hz, _, r.reverse, ⟨_, Heap.get?_push_size _ rfl, rfl, _, rfl⟩⟩
/-! ### xs == [], xs != [] -/
def rEq0 (K : PySem.W.Frag) : R2 := fun x y H Q => ∃ a b xs, x = .ref a ∧ y = .ref b ∧ SqL K H a xs ∧ SqL K H b [] ∧ Q (.bl xs.isEmpty) H
theorem op_eq0 (hu : X.A.units + 64 < cLine) : OpR X (compareOp .Eq) (rEq0 X.K) := by
  intro pins s σ H x y v u Q I rx ry h
  obtain ⟨a, b, xs, rfl, rfl, ha, hb, q⟩ := h
  cases rx
  cases ry
  obtain ⟨its, r1, p1, _⟩ := I.list ha
  obtain ⟨its2, r2, p2, _⟩ := I.list hb
  cases r2
  cases xs with
  | nil =>
    cases r1
    exact PySem.W.eq_listsT (n := 0) (e := fun _ => true) p1.isList p2.isList rfl (fun j h1 h2 => absurd h1 (by simp)) (by omega) ⟨.bl true, H, I, rfl, q⟩
  | cons x xs =>
    cases r1 with
    | cons rx rs =>
    refine SeqAt.RcAt.lists_lengths p1.isList p2.isList (by simp) (by omega) X.prog X.w _ _ ⟨.bl false, H, I, rfl, q⟩
end
end L2

namespace K14
open PySem PySem.Spec PyProof.Rows L2 C8
def top (i : Nat) : Stmt := PySem.Challenge.pw_fairpatch_k14_games_step_by_step.main.body.getD i (.Pass ⟨0, 0, 0, 0⟩)
abbrev dG (i : Nat) (x : Str) : He.DefD := ⟨(x, none), x, x, defArgs (top i), defBody (top i), defScope (top i), [], []⟩
abbrev dM (i j : Nat) (C x q : Str) : He.DefD := ⟨(C, some x), x, q, defArgs (inClass (top i) j), defBody (inClass (top i) j), defScope (inClass (top i) j), [], []⟩
def barred : List Str := ["and", "by", "call", "choose", "draw", "else", "if", "name", "not", "or", "set", "unit", "while", "yes"]
def signs : List Str := ["+", "-", "*"]
structure Txt (K : PySem.W.Frag) (mg : Str → Option Value) : Prop where
  f_isinstance : mg "isinstance" = none
  f_int : mg "int" = none
  f_bool : mg "bool" = none
  f_len : mg "len" = none
  f_str : mg "str" = none
  f_all : mg "all" = none
  f_list : mg "list" = none
  f_tuple : mg "tuple" = none
  f_dict : mg "dict" = none
  f_range : mg "range" = none
  f_abs : mg "abs" = none
  f_sum : mg "sum" = none
  f_min : mg "min" = none
  f_max : mg "max" = none
  f_repr : mg "repr" = none
  f_set : mg "set" = none
  f_enumerate : mg "enumerate" = none
  c_LONGEST_WORD : ∃ u, mg "LONGEST_WORD" = some u ∧ RelV (.int 8) u
  c_MOST_NAMES : ∃ u, mg "MOST_NAMES" = some u ∧ RelV (.int 3) u
  c_LEAST_SIZE : ∃ u, mg "LEAST_SIZE" = some u ∧ RelV (.int 2) u
  c_GREATEST_SIZE : ∃ u, mg "GREATEST_SIZE" = some u ∧ RelV (.int 6) u
  c_MOST_STORES : ∃ u, mg "MOST_STORES" = some u ∧ RelV (.int 8) u
  c_MOST_UNITS : ∃ u, mg "MOST_UNITS" = some u ∧ RelV (.int 6) u
  c_MOST_STATEMENTS : ∃ u, mg "MOST_STATEMENTS" = some u ∧ RelV (.int 20) u
  c_MOST_STATEMENTS_IN_ALL : ∃ u, mg "MOST_STATEMENTS_IN_ALL" = some u ∧ RelV (.int 60) u
  c_MOST_LOOPS : ∃ u, mg "MOST_LOOPS" = some u ∧ RelV (.int 3) u
  c_DEEPEST : ∃ u, mg "DEEPEST" = some u ∧ RelV (.int 6) u
  c_GREATEST_NUM : ∃ u, mg "GREATEST_NUM" = some u ∧ RelV (.int 99) u
  c_GREATEST_VALUE : ∃ u, mg "GREATEST_VALUE" = some u ∧ RelV (.int 5) u
  c_GREATEST_WEIGHT : ∃ u, mg "GREATEST_WEIGHT" = some u ∧ RelV (.int 12) u
  c_FEWEST_PAIRS : ∃ u, mg "FEWEST_PAIRS" = some u ∧ RelV (.int 2) u
  c_MOST_PAIRS : ∃ u, mg "MOST_PAIRS" = some u ∧ RelV (.int 3) u
  c_MOST_STEPS : ∃ u, mg "MOST_STEPS" = some u ∧ RelV (.int 2000) u
  c_LETTERS : ∃ u, mg "LETTERS" = some u ∧ RelV (.str "abcdefghijklmnopqrstuvwxyz") u
  c_LANGUAGE_WORDS : ∃ u, mg "LANGUAGE_WORDS" = some u ∧ RelV (.ref (He.ga K "LANGUAGE_WORDS")) u
  c_SIGNS : ∃ u, mg "SIGNS" = some u ∧ RelV (.ref (He.ga K "SIGNS")) u
  c_Space : ∃ u, mg "Space" = some u ∧ RelV (.ref (He.ga K "Space")) u
  c_Frame : ∃ u, mg "Frame" = some u ∧ RelV (.ref (He.ga K "Frame")) u
  c_Playing : ∃ u, mg "Playing" = some u ∧ RelV (.ref (He.ga K "Playing")) u
  t_LW : ∀ H, SqT K H (He.ga K "LANGUAGE_WORDS") (barred.map V.str)
  t_SG : ∀ H, SqT K H (He.ga K "SIGNS") (signs.map V.str)
  d_is_whole : ∃ fd, FunD K "is_whole" "is_whole" (defArgs (top 12)) (defBody (top 12)) (defScope (top 12)) [] [] (He.ga K "is_whole") fd
  g_is_whole : mg "is_whole" = some (.ref (He.ga K "is_whole"))
  d_is_whole_from : ∃ fd, FunD K "is_whole_from" "is_whole_from" (defArgs (top 13)) (defBody (top 13)) (defScope (top 13)) [] [] (He.ga K "is_whole_from") fd
  g_is_whole_from : mg "is_whole_from" = some (.ref (He.ga K "is_whole_from"))
  d_is_word : ∃ fd, FunD K "is_word" "is_word" (defArgs (top 22)) (defBody (top 22)) (defScope (top 22)) [] [] (He.ga K "is_word") fd
  g_is_word : mg "is_word" = some (.ref (He.ga K "is_word"))
  d_is_sized_name : ∃ fd, FunD K "is_sized_name" "is_sized_name" (defArgs (top 23)) (defBody (top 23)) (defScope (top 23)) [] [] (He.ga K "is_sized_name") fd
  g_is_sized_name : mg "is_sized_name" = some (.ref (He.ga K "is_sized_name"))
  d_stores_of_sizes : ∃ fd, FunD K "stores_of_sizes" "stores_of_sizes" (defArgs (top 24)) (defBody (top 24)) (defScope (top 24)) [] [] (He.ga K "stores_of_sizes") fd
  g_stores_of_sizes : mg "stores_of_sizes" = some (.ref (He.ga K "stores_of_sizes"))
  d_are_space_names : ∃ fd, FunD K "are_space_names" "are_space_names" (defArgs (top 25)) (defBody (top 25)) (defScope (top 25)) [] [] (He.ga K "are_space_names") fd
  g_are_space_names : mg "are_space_names" = some (.ref (He.ga K "are_space_names"))
  d_is_tuple_of : ∃ fd, FunD K "is_tuple_of" "is_tuple_of" (defArgs (top 39)) (defBody (top 39)) (defScope (top 39)) [] [] (He.ga K "is_tuple_of") fd
  g_is_tuple_of : mg "is_tuple_of" = some (.ref (He.ga K "is_tuple_of"))
  d_is_expression : ∃ fd, FunD K "is_expression" "is_expression" (defArgs (top 40)) (defBody (top 40)) (defScope (top 40)) [] [] (He.ga K "is_expression") fd
  g_is_expression : mg "is_expression" = some (.ref (He.ga K "is_expression"))
  d_is_condition : ∃ fd, FunD K "is_condition" "is_condition" (defArgs (top 41)) (defBody (top 41)) (defScope (top 41)) [] [] (He.ga K "is_condition") fd
  g_is_condition : mg "is_condition" = some (.ref (He.ga K "is_condition"))
  d_are_pairs : ∃ fd, FunD K "are_pairs" "are_pairs" (defArgs (top 42)) (defBody (top 42)) (defScope (top 42)) [] [] (He.ga K "are_pairs") fd
  g_are_pairs : mg "are_pairs" = some (.ref (He.ga K "are_pairs"))
  d_is_draw_pair : ∃ fd, FunD K "is_draw_pair" "is_draw_pair" (defArgs (top 43)) (defBody (top 43)) (defScope (top 43)) [] [] (He.ga K "is_draw_pair") fd
  g_is_draw_pair : mg "is_draw_pair" = some (.ref (He.ga K "is_draw_pair"))
  d_has_head_form : ∃ fd, FunD K "has_head_form" "has_head_form" (defArgs (top 44)) (defBody (top 44)) (defScope (top 44)) [] [] (He.ga K "has_head_form") fd
  g_has_head_form : mg "has_head_form" = some (.ref (He.ga K "has_head_form"))
  d_bodies_in : ∃ fd, FunD K "bodies_in" "bodies_in" (defArgs (top 45)) (defBody (top 45)) (defScope (top 45)) [] [] (He.ga K "bodies_in") fd
  g_bodies_in : mg "bodies_in" = some (.ref (He.ga K "bodies_in"))
  d_count_in : ∃ fd, FunD K "count_in" "count_in" (defArgs (top 46)) (defBody (top 46)) (defScope (top 46)) [] [] (He.ga K "count_in") fd
  g_count_in : mg "count_in" = some (.ref (He.ga K "count_in"))
  d_count_in_unit : ∃ fd, FunD K "count_in_unit" "count_in_unit" (defArgs (top 47)) (defBody (top 47)) (defScope (top 47)) [] [] (He.ga K "count_in_unit") fd
  g_count_in_unit : mg "count_in_unit" = some (.ref (He.ga K "count_in_unit"))
  d_counts_in_units : ∃ fd, FunD K "counts_in_units" "counts_in_units" (defArgs (top 48)) (defBody (top 48)) (defScope (top 48)) [] [] (He.ga K "counts_in_units") fd
  g_counts_in_units : mg "counts_in_units" = some (.ref (He.ga K "counts_in_units"))
  d_walked : ∃ fd, FunD K "walked" "walked" (defArgs (top 49)) (defBody (top 49)) (defScope (top 49)) [] [] (He.ga K "walked") fd
  g_walked : mg "walked" = some (.ref (He.ga K "walked"))
  d_counts_in_tree : ∃ fd, FunD K "counts_in_tree" "counts_in_tree" (defArgs (top 51)) (defBody (top 51)) (defScope (top 51)) [] [] (He.ga K "counts_in_tree") fd
  g_counts_in_tree : mg "counts_in_tree" = some (.ref (He.ga K "counts_in_tree"))
  d_first_repeated : ∃ fd, FunD K "first_repeated" "first_repeated" (defArgs (top 53)) (defBody (top 53)) (defScope (top 53)) [] [] (He.ga K "first_repeated") fd
  g_first_repeated : mg "first_repeated" = some (.ref (He.ga K "first_repeated"))
  d_first_too_large : ∃ fd, FunD K "first_too_large" "first_too_large" (defArgs (top 54)) (defBody (top 54)) (defScope (top 54)) [] [] (He.ga K "first_too_large") fd
  g_first_too_large : mg "first_too_large" = some (.ref (He.ga K "first_too_large"))
  d_names_in : ∃ fd, FunD K "names_in" "names_in" (defArgs (top 55)) (defBody (top 55)) (defScope (top 55)) [] [] (He.ga K "names_in") fd
  g_names_in : mg "names_in" = some (.ref (He.ga K "names_in"))
  d_names_of_head : ∃ fd, FunD K "names_of_head" "names_of_head" (defArgs (top 56)) (defBody (top 56)) (defScope (top 56)) [] [] (He.ga K "names_of_head") fd
  g_names_of_head : mg "names_of_head" = some (.ref (He.ga K "names_of_head"))
  d_wrong_in_statement : ∃ fd, FunD K "wrong_in_statement" "wrong_in_statement" (defArgs (top 57)) (defBody (top 57)) (defScope (top 57)) [] [] (He.ga K "wrong_in_statement") fd
  g_wrong_in_statement : mg "wrong_in_statement" = some (.ref (He.ga K "wrong_in_statement"))
  d_wrong_in_body : ∃ fd, FunD K "wrong_in_body" "wrong_in_body" (defArgs (top 58)) (defBody (top 58)) (defScope (top 58)) [] [] (He.ga K "wrong_in_body") fd
  g_wrong_in_body : mg "wrong_in_body" = some (.ref (He.ga K "wrong_in_body"))
  d_first_wrong : ∃ fd, FunD K "first_wrong" "first_wrong" (defArgs (top 59)) (defBody (top 59)) (defScope (top 59)) [] [] (He.ga K "first_wrong") fd
  g_first_wrong : mg "first_wrong" = some (.ref (He.ga K "first_wrong"))
  d_checked_counts : ∃ fd, FunD K "checked_counts" "checked_counts" (defArgs (top 60)) (defBody (top 60)) (defScope (top 60)) [] [] (He.ga K "checked_counts") fd
  g_checked_counts : mg "checked_counts" = some (.ref (He.ga K "checked_counts"))
  d_check_system : ∃ fd, FunD K "check_system" "check_system" (defArgs (top 61)) (defBody (top 61)) (defScope (top 61)) [] [] (He.ga K "check_system") fd
  g_check_system : mg "check_system" = some (.ref (He.ga K "check_system"))
  d_number_of : ∃ fd, FunD K "number_of" "number_of" (defArgs (top 63)) (defBody (top 63)) (defScope (top 63)) [] [] (He.ga K "number_of") fd
  g_number_of : mg "number_of" = some (.ref (He.ga K "number_of"))
  d_holds : ∃ fd, FunD K "holds" "holds" (defArgs (top 64)) (defBody (top 64)) (defScope (top 64)) [] [] (He.ga K "holds") fd
  g_holds : mg "holds" = some (.ref (He.ga K "holds"))
  d_label_list : ∃ fd, FunD K "label_list" "label_list" (defArgs (top 67)) (defBody (top 67)) (defScope (top 67)) [] [] (He.ga K "label_list") fd
  g_label_list : mg "label_list" = some (.ref (He.ga K "label_list"))
  d_wheel_values : ∃ fd, FunD K "wheel_values" "wheel_values" (defArgs (top 68)) (defBody (top 68)) (defScope (top 68)) [] [] (He.ga K "wheel_values") fd
  g_wheel_values : mg "wheel_values" = some (.ref (He.ga K "wheel_values"))
  d_needs_item : ∃ fd, FunD K "needs_item" "needs_item" (defArgs (top 69)) (defBody (top 69)) (defScope (top 69)) [] [] (He.ga K "needs_item") fd
  g_needs_item : mg "needs_item" = some (.ref (He.ga K "needs_item"))
  d_fits : ∃ fd, FunD K "fits" "fits" (defArgs (top 70)) (defBody (top 70)) (defScope (top 70)) [] [] (He.ga K "fits") fd
  g_fits : mg "fits" = some (.ref (He.ga K "fits"))
  d_check_playing : ∃ fd, FunD K "check_playing" "check_playing" (defArgs (top 73)) (defBody (top 73)) (defScope (top 73)) [] [] (He.ga K "check_playing") fd
  g_check_playing : mg "check_playing" = some (.ref (He.ga K "check_playing"))
  d_play : ∃ fd, FunD K "play" "play" (defArgs (top 74)) (defBody (top 74)) (defScope (top 74)) [] [] (He.ga K "play") fd
  g_play : mg "play" = some (.ref (He.ga K "play"))
  d__law_cell : ∃ fd, FunD K "_law_cell" "_law_cell" (defArgs (top 76)) (defBody (top 76)) (defScope (top 76)) [] [] (He.ga K "_law_cell") fd
  g__law_cell : mg "_law_cell" = some (.ref (He.ga K "_law_cell"))
  d__law_box : ∃ fd, FunD K "_law_box" "_law_box" (defArgs (top 77)) (defBody (top 77)) (defScope (top 77)) [] [] (He.ga K "_law_box") fd
  g__law_box : mg "_law_box" = some (.ref (He.ga K "_law_box"))
  d__law_take : ∃ fd, FunD K "_law_take" "_law_take" (defArgs (top 78)) (defBody (top 78)) (defScope (top 78)) [] [] (He.ga K "_law_take") fd
  g__law_take : mg "_law_take" = some (.ref (He.ga K "_law_take"))
  d__law_mixed : ∃ fd, FunD K "_law_mixed" "_law_mixed" (defArgs (top 79)) (defBody (top 79)) (defScope (top 79)) [] [] (He.ga K "_law_mixed") fd
  g__law_mixed : mg "_law_mixed" = some (.ref (He.ga K "_law_mixed"))
  d__law_words : ∃ fd, FunD K "_law_words" "_law_words" (defArgs (top 80)) (defBody (top 80)) (defScope (top 80)) [] [] (He.ga K "_law_words") fd
  g__law_words : mg "_law_words" = some (.ref (He.ga K "_law_words"))
  d__law_expression : ∃ fd, FunD K "_law_expression" "_law_expression" (defArgs (top 81)) (defBody (top 81)) (defScope (top 81)) [] [] (He.ga K "_law_expression") fd
  g__law_expression : mg "_law_expression" = some (.ref (He.ga K "_law_expression"))
  d__law_condition : ∃ fd, FunD K "_law_condition" "_law_condition" (defArgs (top 82)) (defBody (top 82)) (defScope (top 82)) [] [] (He.ga K "_law_condition") fd
  g__law_condition : mg "_law_condition" = some (.ref (He.ga K "_law_condition"))
  d__law_statement : ∃ fd, FunD K "_law_statement" "_law_statement" (defArgs (top 83)) (defBody (top 83)) (defScope (top 83)) [] [] (He.ga K "_law_statement") fd
  g__law_statement : mg "_law_statement" = some (.ref (He.ga K "_law_statement"))
  d__law_body : ∃ fd, FunD K "_law_body" "_law_body" (defArgs (top 84)) (defBody (top 84)) (defScope (top 84)) [] [] (He.ga K "_law_body") fd
  g__law_body : mg "_law_body" = some (.ref (He.ga K "_law_body"))
  d__law_round : ∃ fd, FunD K "_law_round" "_law_round" (defArgs (top 85)) (defBody (top 85)) (defScope (top 85)) [] [] (He.ga K "_law_round") fd
  g__law_round : mg "_law_round" = some (.ref (He.ga K "_law_round"))
  d__law_system : ∃ fd, FunD K "_law_system" "_law_system" (defArgs (top 86)) (defBody (top 86)) (defScope (top 86)) [] [] (He.ga K "_law_system") fd
  g__law_system : mg "_law_system" = some (.ref (He.ga K "_law_system"))
  d__law_many : ∃ fd, FunD K "_law_many" "_law_many" (defArgs (top 87)) (defBody (top 87)) (defScope (top 87)) [] [] (He.ga K "_law_many") fd
  g__law_many : mg "_law_many" = some (.ref (He.ga K "_law_many"))
  d__law_values : ∃ fd, FunD K "_law_values" "_law_values" (defArgs (top 88)) (defBody (top 88)) (defScope (top 88)) [] [] (He.ga K "_law_values") fd
  g__law_values : mg "_law_values" = some (.ref (He.ga K "_law_values"))
  d__law_set : ∃ fd, FunD K "_law_set" "_law_set" (defArgs (top 89)) (defBody (top 89)) (defScope (top 89)) [] [] (He.ga K "_law_set") fd
  g__law_set : mg "_law_set" = some (.ref (He.ga K "_law_set"))
  d__law_worth : ∃ fd, FunD K "_law_worth" "_law_worth" (defArgs (top 90)) (defBody (top 90)) (defScope (top 90)) [] [] (He.ga K "_law_worth") fd
  g__law_worth : mg "_law_worth" = some (.ref (He.ga K "_law_worth"))
  d__law_holds : ∃ fd, FunD K "_law_holds" "_law_holds" (defArgs (top 91)) (defBody (top 91)) (defScope (top 91)) [] [] (He.ga K "_law_holds") fd
  g__law_holds : mg "_law_holds" = some (.ref (He.ga K "_law_holds"))
  d__law_begun : ∃ fd, FunD K "_law_begun" "_law_begun" (defArgs (top 92)) (defBody (top 92)) (defScope (top 92)) [] [] (He.ga K "_law_begun") fd
  g__law_begun : mg "_law_begun" = some (.ref (He.ga K "_law_begun"))
  d__law_asks : ∃ fd, FunD K "_law_asks" "_law_asks" (defArgs (top 93)) (defBody (top 93)) (defScope (top 93)) [] [] (He.ga K "_law_asks") fd
  g__law_asks : mg "_law_asks" = some (.ref (He.ga K "_law_asks"))
  d__law_value : ∃ fd, FunD K "_law_value" "_law_value" (defArgs (top 94)) (defBody (top 94)) (defScope (top 94)) [] [] (He.ga K "_law_value") fd
  g__law_value : mg "_law_value" = some (.ref (He.ga K "_law_value"))
  d__law_step : ∃ fd, FunD K "_law_step" "_law_step" (defArgs (top 95)) (defBody (top 95)) (defScope (top 95)) [] [] (He.ga K "_law_step") fd
  g__law_step : mg "_law_step" = some (.ref (He.ga K "_law_step"))
  d__law_answers : ∃ fd, FunD K "_law_answers" "_law_answers" (defArgs (top 96)) (defBody (top 96)) (defScope (top 96)) [] [] (He.ga K "_law_answers") fd
  g__law_answers : mg "_law_answers" = some (.ref (He.ga K "_law_answers"))
  d__law_play : ∃ fd, FunD K "_law_play" "_law_play" (defArgs (top 97)) (defBody (top 97)) (defScope (top 97)) [] [] (He.ga K "_law_play") fd
  g__law_play : mg "_law_play" = some (.ref (He.ga K "_law_play"))
  d__law_asked_right : ∃ fd, FunD K "_law_asked_right" "_law_asked_right" (defArgs (top 98)) (defBody (top 98)) (defScope (top 98)) [] [] (He.ga K "_law_asked_right") fd
  g__law_asked_right : mg "_law_asked_right" = some (.ref (He.ga K "_law_asked_right"))
  d__law_grown_right : ∃ fd, FunD K "_law_grown_right" "_law_grown_right" (defArgs (top 99)) (defBody (top 99)) (defScope (top 99)) [] [] (He.ga K "_law_grown_right") fd
  g__law_grown_right : mg "_law_grown_right" = some (.ref (He.ga K "_law_grown_right"))
  d__law_right : ∃ fd, FunD K "_law_right" "_law_right" (defArgs (top 100)) (defBody (top 100)) (defScope (top 100)) [] [] (He.ga K "_law_right") fd
  g__law_right : mg "_law_right" = some (.ref (He.ga K "_law_right"))
  d_Space_values_of : ∃ fd, FunD K "values_of" "Space.values_of" (defArgs (inClass (top 26) 5)) (defBody (inClass (top 26) 5)) (defScope (inClass (top 26) 5)) [] [] (He.ma K (He.ga K "Space") "values_of") fd
  d_Space_store_of : ∃ fd, FunD K "store_of" "Space.store_of" (defArgs (inClass (top 26) 6)) (defBody (inClass (top 26) 6)) (defScope (inClass (top 26) 6)) [] [] (He.ma K (He.ga K "Space") "store_of") fd
  d_Space_size_of : ∃ fd, FunD K "size_of" "Space.size_of" (defArgs (inClass (top 26) 7)) (defBody (inClass (top 26) 7)) (defScope (inClass (top 26) 7)) [] [] (He.ma K (He.ga K "Space") "size_of") fd
  d_Space_with_value : ∃ fd, FunD K "with_value" "Space.with_value" (defArgs (inClass (top 26) 9)) (defBody (inClass (top 26) 9)) (defScope (inClass (top 26) 9)) [] [] (He.ma K (He.ga K "Space") "with_value") fd
  d_Space_check_store : ∃ fd, FunD K "check_store" "Space.check_store" (defArgs (inClass (top 26) 10)) (defBody (inClass (top 26) 10)) (defScope (inClass (top 26) 10)) [] [] (He.ma K (He.ga K "Space") "check_store") fd
  d_Space_check_name : ∃ fd, FunD K "check_name" "Space.check_name" (defArgs (inClass (top 26) 11)) (defBody (inClass (top 26) 11)) (defScope (inClass (top 26) 11)) [] [] (He.ma K (He.ga K "Space") "check_name") fd
  d_Space_init : ∃ fd, FunD K "__init__" "Space.__init__" (defArgs (inClass (top 26) 0)) (defBody (inClass (top 26) 0)) (defScope (inClass (top 26) 0)) [] [] (He.ma K (He.ga K "Space") "__init__") fd
  d_Space_contains : ∃ fd, FunD K "__contains__" "Space.__contains__" (defArgs (inClass (top 26) 2)) (defBody (inClass (top 26) 2)) (defScope (inClass (top 26) 2)) [] [] (He.ma K (He.ga K "Space") "__contains__") fd
  m_Space_values_of : Meth K (He.ga K "Space") "values_of" (He.ma K (He.ga K "Space") "values_of")
  m_Space_store_of : Meth K (He.ga K "Space") "store_of" (He.ma K (He.ga K "Space") "store_of")
  m_Space_size_of : Meth K (He.ga K "Space") "size_of" (He.ma K (He.ga K "Space") "size_of")
  m_Space_with_value : Meth K (He.ga K "Space") "with_value" (He.ma K (He.ga K "Space") "with_value")
  m_Space_check_store : Meth K (He.ga K "Space") "check_store" (He.ma K (He.ga K "Space") "check_store")
  m_Space_check_name : Meth K (He.ga K "Space") "check_name" (He.ma K (He.ga K "Space") "check_name")
  s_Space_contains : PySem.W.findIn K (.ref (He.ga K "Space")) "__contains__" = some (some (.ref (He.ma K (He.ga K "Space") "__contains__")))
  sf_Space_contains : PySem.W.isFn K (.ref (He.ma K (He.ga K "Space") "__contains__")) = true
  cl_Space : Cls K (He.ga K "Space")
  mk_Space : Mk K (He.ga K "Space") (He.ma K (He.ga K "Space") "__init__")
  g_Space : mg "Space" = some (.ref (He.ga K "Space"))
  n_names : NoAttr K (He.ga K "Space") "names"
  n_never : NoAttr K (He.ga K "Space") "never"
  d_Frame_init : ∃ fd, FunD K "__init__" "Frame.__init__" (defArgs (inClass (top 71) 0)) (defBody (inClass (top 71) 0)) (defScope (inClass (top 71) 0)) [] [] (He.ma K (He.ga K "Frame") "__init__") fd
  cl_Frame : Cls K (He.ga K "Frame")
  mk_Frame : Mk K (He.ga K "Frame") (He.ma K (He.ga K "Frame") "__init__")
  g_Frame : mg "Frame" = some (.ref (He.ga K "Frame"))
  n_Frame_body : NoAttr K (He.ga K "Frame") "body"
  n_Frame_place : NoAttr K (He.ga K "Frame") "place"
  n_Frame_unit : NoAttr K (He.ga K "Frame") "unit"
  d_Playing_begin : ∃ fd, FunD K "begin" "Playing.begin" (defArgs (inClass (top 72) 1)) (defBody (inClass (top 72) 1)) (defScope (inClass (top 72) 1)) [.non] [] (He.ma K (He.ga K "Playing") "begin") fd
  d_Playing_begin_behind : ∃ fd, FunD K "begin_behind" "Playing.begin_behind" (defArgs (inClass (top 72) 2)) (defBody (inClass (top 72) 2)) (defScope (inClass (top 72) 2)) [.non] [] (He.ma K (He.ga K "Playing") "begin_behind") fd
  d_Playing_set_value : ∃ fd, FunD K "set_value" "Playing.set_value" (defArgs (inClass (top 72) 3)) (defBody (inClass (top 72) 3)) (defScope (inClass (top 72) 3)) [] [] (He.ma K (He.ga K "Playing") "set_value") fd
  d_Playing_asking : ∃ fd, FunD K "asking" "Playing.asking" (defArgs (inClass (top 72) 4)) (defBody (inClass (top 72) 4)) (defScope (inClass (top 72) 4)) [] [] (He.ma K (He.ga K "Playing") "asking") fd
  d_Playing_passes : ∃ fd, FunD K "passes" "Playing.passes" (defArgs (inClass (top 72) 5)) (defBody (inClass (top 72) 5)) (defScope (inClass (top 72) 5)) [] [] (He.ma K (He.ga K "Playing") "passes") fd
  d_Playing_step : ∃ fd, FunD K "step" "Playing.step" (defArgs (inClass (top 72) 6)) (defBody (inClass (top 72) 6)) (defScope (inClass (top 72) 6)) [] [] (He.ma K (He.ga K "Playing") "step") fd
  d_Playing_init : ∃ fd, FunD K "__init__" "Playing.__init__" (defArgs (inClass (top 72) 0)) (defBody (inClass (top 72) 0)) (defScope (inClass (top 72) 0)) [] [] (He.ma K (He.ga K "Playing") "__init__") fd
  m_Playing_begin : Meth K (He.ga K "Playing") "begin" (He.ma K (He.ga K "Playing") "begin")
  m_Playing_begin_behind : Meth K (He.ga K "Playing") "begin_behind" (He.ma K (He.ga K "Playing") "begin_behind")
  m_Playing_set_value : Meth K (He.ga K "Playing") "set_value" (He.ma K (He.ga K "Playing") "set_value")
  m_Playing_asking : Meth K (He.ga K "Playing") "asking" (He.ma K (He.ga K "Playing") "asking")
  m_Playing_passes : Meth K (He.ga K "Playing") "passes" (He.ma K (He.ga K "Playing") "passes")
  m_Playing_step : Meth K (He.ga K "Playing") "step" (He.ma K (He.ga K "Playing") "step")
  cl_Playing : Cls K (He.ga K "Playing")
  mk_Playing : Mk K (He.ga K "Playing") (He.ma K (He.ga K "Playing") "__init__")
  g_Playing : mg "Playing" = some (.ref (He.ga K "Playing"))
  n_Playing_space : NoAttr K (He.ga K "Playing") "space"
  n_Playing_bodies : NoAttr K (He.ga K "Playing") "bodies"
  n_Playing_store : NoAttr K (He.ga K "Playing") "store"
  n_Playing_begun : NoAttr K (He.ga K "Playing") "begun"
/-! ### the heap -/
abbrev Ex := Evl.Ex
/-- the box at b: four items; at most c draws so far -/
def Box (H : Hp) (b : Addr) (c : Nat) : Prop := ∃ (g : Int) (f : Bool) (s k : Int), H b = some (.lst [.int g, .bl f, .int s, .int k]) ∧ 0 ≤ g ∧ 0 ≤ s ∧ s < 2147483648 ∧ 0 ≤ k ∧ k ≤ (c : Int)
/-- all that Hb knows stands; the box at b besides -/
structure Wd (Hb H : Hp) (b : Addr) (c : Nat) : Prop where
  ex : Ex Hb H
  nb : Hb b = none
  box : Box H b c
theorem Wd.mono {Hb H : Hp} {b : Addr} {c d : Nat} (W : Wd Hb H b c) (h : c ≤ d) : Wd Hb H b d := by
  obtain ⟨e, n, g, f, s, k, h1, h2, h3, h4, h5, h6⟩ := W
  exact ⟨e, n, g, f, s, k, h1, h2, h3, h4, h5, by omega⟩
theorem Wd.ne {Hb H : Hp} {b p : Addr} {c : Nat} (W : Wd Hb H b c) (h : H p = none) : p ≠ b := by
  obtain ⟨e, n, g, f, s, k, h1, _⟩ := W
  intro z
  rw [z, h1] at h
  cases h
theorem Wd.free {Hb H : Hp} {b p : Addr} {c : Nat} (W : Wd Hb H b c) (h : H p = none) : Hb p = none := by
  cases q : Hb p with
  | none => rfl
  | some o =>
    rw [W.ex p o q] at h
    cases h
/-- a new object, from now on known -/
theorem Wd.new {Hb H : Hp} {b p : Addr} {c : Nat} {o : HO} (W : Wd Hb H b c) (h : H p = none) : Wd (upd Hb p o) (upd H p o) b c := by
  have nb := W.ne h
  obtain ⟨e, n, g, f, s, k, h1, h2, h3, h4, h5, h6⟩ := id W
  refine ⟨fun a u q => ?_, ?_, g, f, s, k, ?_, h2, h3, h4, h5, h6⟩
  · by_cases z : a = p
    · rw [z, upd_same] at q ⊢
      exact q
    · rw [upd_ne z] at q ⊢
      exact e a u q
  · rw [upd_ne nb.symm]; exact n
  · rw [upd_ne nb.symm]; exact h1
/-- a new object, not known -/
theorem Wd.skip {Hb H : Hp} {b p : Addr} {c : Nat} {o : HO} (W : Wd Hb H b c) (h : H p = none) : Wd Hb (upd H p o) b c := by
  have nb := W.ne h
  obtain ⟨e, n, g, f, s, k, h1, h2, h3, h4, h5, h6⟩ := id W
  exact ⟨e.trans (Evl.Ex.new h), n, g, f, s, k, by rw [upd_ne nb.symm]; exact h1, h2, h3, h4, h5, h6⟩
/-- an object that Hb does not know, and that is not the box, changes -/
theorem Wd.chg {Hb H : Hp} {b p : Addr} {c : Nat} {o : HO} (W : Wd Hb H b c) (h : Hb p = none) (nb : p ≠ b) : Wd Hb (upd H p o) b c := by
  obtain ⟨e, n, g, f, s, k, h1, h2, h3, h4, h5, h6⟩ := id W
  exact ⟨Evl.Ex.mut e h, n, g, f, s, k, by rw [upd_ne nb.symm]; exact h1, h2, h3, h4, h5, h6⟩
/-- one more object of H is known -/
theorem Wd.know {Hb H : Hp} {b p : Addr} {c : Nat} {o : HO} (W : Wd Hb H b c) (h : H p = some o) (nb : p ≠ b) : Wd (upd Hb p o) H b c := by
  obtain ⟨e, n, g, f, s, k, h1, h2, h3, h4, h5, h6⟩ := id W
  refine ⟨fun a u q => ?_, by rw [upd_ne nb.symm]; exact n, g, f, s, k, h1, h2, h3, h4, h5, h6⟩
  by_cases z : a = p
  · rw [z, upd_same] at q
    rw [z, h]; exact q
  · rw [upd_ne z] at q
    exact e a u q
theorem Wd.grow {Hb H H' : Hp} {b : Addr} {c : Nat} (W : Wd Hb H b c) (e : Ex H H') : Wd Hb H' b c := by
  obtain ⟨e0, n, g, f, s, k, h1, h2, h3, h4, h5, h6⟩ := id W
  exact ⟨e0.trans e, n, g, f, s, k, e _ _ h1, h2, h3, h4, h5, h6⟩
theorem Wd.less {Hb Hb' H : Hp} {b : Addr} {c : Nat} (W : Wd Hb H b c) (e : Ex Hb' Hb) : Wd Hb' H b c := by
  refine ⟨e.trans W.ex, ?_, W.box⟩
  cases q : Hb' b with
  | none => rfl
  | some o =>
    have z := e b o q
    rw [W.nb] at z
    cases z
section
variable {P : Program} {w : World} {K : PySem.W.Frag} {mg : Str → Option Value} {base : Heap}

theorem cut1 (ns : List Int) : cutV (ns.map V.int) none (some 1) = (ns.take 1).map V.int := by
  cases ns with
  | nil => rfl
  | cons a l =>
    first
      | rfl
      | simp [cutV]
abbrev N_is_whole : List Str := ["value"]
theorem sc_is_whole : FnScope N_is_whole ["value"] (defScope (top 12)) := ⟨rfl, rfl, rfl, by decide +kernel, rfl, by decide +kernel, by decide +kernel⟩
def spWhole : Sp := fun vs H Q _ => ∃ i : Int, vs = [.int i] ∧ Q (.bl true) H
theorem ok_is_whole (T : Txt K mg)  : Cal P w K mg base 1 "is_whole" (spWhole) [] := by
  obtain ⟨fd, F⟩ := T.d_is_whole
  refine ⟨_, fd, ["value"], [], ?_, T.g_is_whole, F.kp, F.bindsN fun _ _ _ _ _ _ us hl => match us, hl with | [_], _ => rfl, .nil⟩
  refine F.ok sc_is_whole (fun vs H Q E h => by obtain ⟨_, rfl, _⟩ := h; rfl) (fun cdv A outer s H vs Q E hr h => ?_)
  have hu := hu_of hr
  refine ⟨_, PSs.nox (pss_one (ps_ret (pe_and (pe_callB call_isi (by rfl) T.f_isinstance (by decide +kernel) (pa_cons (pv 0) (pa_cons (pe_bltn (v := .ty "int") (u := .type "int") (by rfl) T.f_int (by decide +kernel) rfl) pa_nil))) (pe_one (pe_not (pe_callB call_isi (by rfl) T.f_isinstance (by decide +kernel) (pa_cons (pv 0) (pa_cons (pe_bltn (v := .ty "bool") (u := .type "bool") (by rfl) T.f_bool (by decide +kernel) rfl) pa_nil)))))))), ?_⟩
  obtain ⟨i, rfl, hQ⟩ := h
  refine ⟨_, rfl, _, _, _, _, _, rfl, ClsV.ty _, TyX.base (TyOf.int _), kit_ty (r := true) (by decide +kernel), _, rfl, ?_⟩
  exact ⟨_, rfl, _, _, _, _, _, rfl, ClsV.ty _, TyX.base (TyOf.int _), kit_ty (r := false) (by decide +kernel), _, rfl, hQ⟩

abbrev N_is_whole_from : List Str := ["value", "low", "high"]
theorem sc_is_whole_from : FnScope N_is_whole_from ["value", "low", "high"] (defScope (top 13)) := ⟨rfl, rfl, rfl, by decide +kernel, rfl, by decide +kernel, by decide +kernel⟩
def spWholeFrom : Sp := fun vs H Q _ => ∃ i lo hi : Int, vs = [.int i, .int lo, .int hi] ∧ Q (.bl (decide (lo ≤ i) && decide (i ≤ hi))) H
theorem ok_is_whole_from (T : Txt K mg) (C_is_whole : Cal P w K mg base 1 "is_whole" spWhole []) : Cal P w K mg base 2 "is_whole_from" (spWholeFrom) [] := by
  obtain ⟨fd, F⟩ := T.d_is_whole_from
  refine ⟨_, fd, ["value", "low", "high"], [], ?_, T.g_is_whole_from, F.kp, F.bindsN fun _ _ _ _ _ _ us hl => match us, hl with | [_, _, _], _ => rfl, .nil⟩
  refine F.ok sc_is_whole_from (fun vs H Q E h => by obtain ⟨_, _, _, rfl, _⟩ := h; rfl) (fun cdv A outer s H vs Q E hr h => ?_)
  have hu := hu_of hr
  refine ⟨_, PSs.nox (pss_one (ps_ret (pe_and (pe_c C_is_whole hr (by omega) rfl (pa_cons (pv 0) pa_nil)) (pe_one (pe_chain op_le op_le (pv 1) (pv 0) (pv 2)))))), ?_⟩
  obtain ⟨i, lo, hi, rfl, hQ⟩ := h
  refine ⟨_, rfl, i, rfl, _, rfl, ?_⟩
  refine ⟨_, rfl, _, rfl, _, _, rfl, rfl, _, rfl, ?_⟩
  by_cases c : lo ≤ i
  · rw [if_pos (decide_eq_true c)]
    refine ⟨_, rfl, _, _, rfl, rfl, ?_⟩
    rw [decide_eq_true c, Bool.true_and] at hQ
    exact hQ
  · rw [if_neg (by simpa using c)]
    rw [decide_eq_false c, Bool.false_and] at hQ
    exact hQ

abbrev N_l_cell : List Str := ["script", "k"]
theorem sc_l_cell : FnScope N_l_cell ["script", "k"] (defScope (top 76)) := ⟨rfl, rfl, rfl, by decide +kernel, rfl, by decide +kernel, by decide +kernel⟩
def spCell (K : PySem.W.Frag) : Sp := fun vs H Q _ => ∃ (l : Addr) (ns : List Int) (k : Nat), vs = [.ref l, .int (k : Int)] ∧ SqL K H l (ns.map V.int) ∧ ns.length ≤ 63 ∧ k < 10 ∧ ∀ H', Ex H H' → ∀ i, Q (.int i) H'
theorem ok_l_cell (T : Txt K mg)  : Cal P w K mg base 1 "_law_cell" (spCell K) [] := by
  obtain ⟨fd, F⟩ := T.d__law_cell
  refine ⟨_, fd, ["script", "k"], [], ?_, T.g__law_cell, F.kp, F.bindsN fun _ _ _ _ _ _ us hl => match us, hl with | [_, _], _ => rfl, .nil⟩
  refine F.ok sc_l_cell (fun vs H Q E h => by obtain ⟨_, _, _, rfl, _⟩ := h; rfl) (fun cdv A outer s H vs Q E hr h => ?_)
  have hu := hu_of hr
  refine ⟨_, PSs.nox (pss_one (ps_ret (pe_ifExp (pt_cmpR op_lt (pv 1) (pe_callB call_len (by rfl) T.f_len (by decide +kernel) (pa_cons (pv 0) pa_nil)) (nomark _)) (pe_ix ix_list (pv 0) (pv 1) (fun _ _ => rfl)) (pe_op op_add (pe_op op_mul pe_int (pv 1)) (pe_op op_mod (pe_callB (cr_sum rfl) (by rfl) T.f_sum (by decide +kernel) (pa_cons (pe_slice sl_list (pv 0) po_none (po_some pe_int)) pa_nil)) pe_int))))), ?_⟩
  obtain ⟨l, ns, k, rfl, hS, hl, hk, hQ⟩ := h
  refine ⟨_, rfl, _, rfl, _, _, rfl, .inl ⟨_, hS, rfl⟩, _, _, rfl, rfl, _, rfl, ?_⟩
  refine ite2 (fun c => ?_) (fun c => ?_)
  · have c1 : k < ns.length := by
      have := of_decide_eq_true c
      rw [List.length_map] at this
      omega
    refine ⟨_, rfl, _, rfl, l, _, _, .int (ns.getD k 0), rfl, rfl, hS, ?_, hQ H (Evl.Ex.refl H) _⟩
    have e1 : (ns.map V.int)[k]? = some (.int (ns.getD k 0)) := by
      rw [List.getElem?_map, List.getElem?_eq_getElem c1, List.getD_eq_getElem?_getD, List.getElem?_eq_getElem c1]; rfl
    exact atI_nat e1
  · refine ⟨_, rfl, _, _, rfl, rfl, .inl ⟨by decide, by decide⟩, ?_⟩
    refine ⟨_, rfl, _, rfl, l, _, rfl, hS, fun p hp => ?_⟩
    refine ⟨p, ns.take 1, rfl, SqL.of (by rw [upd_same, cut1]), _, _, rfl, rfl, (by show (0 : Int) < 1000003; decide), _, _, rfl, rfl, hQ _ (Evl.Ex.new hp) _⟩

abbrev N_l_box : List Str := ["great"]
theorem sc_l_box : FnScope N_l_box ["great"] (defScope (top 77)) := ⟨rfl, rfl, rfl, by decide +kernel, rfl, by decide +kernel, by decide +kernel⟩
def spBox : Sp := fun vs H Q _ => ∃ (i : Int), vs = [.int i] ∧ ∀ b H', H b = none → Ex H H' → Box H' b 0 → Q (.ref b) H'
theorem ok_l_box (T : Txt K mg)  : Cal P w K mg base 1 "_law_box" (spBox) [] := by
  obtain ⟨fd, F⟩ := T.d__law_box
  refine ⟨_, fd, ["great"], [], ?_, T.g__law_box, F.kp, F.bindsN fun _ _ _ _ _ _ us hl => match us, hl with | [_], _ => rfl, .nil⟩
  refine F.ok sc_l_box (fun vs H Q E h => by obtain ⟨_, rfl, _⟩ := h; rfl) (fun cdv A outer s H vs Q E hr h => ?_)
  have hu := hu_of hr
  refine ⟨_, PSs.nox (pss_one (ps_ret (pe_lst (pa_cons (pe_callB call_abs (by rfl) T.f_abs (by decide +kernel) (pa_cons (pv 0) pa_nil)) (pa_cons (pe_cmpR op_ge (pe_callB call_abs (by rfl) T.f_abs (by decide +kernel) (pa_cons (pv 0) pa_nil)) (pe_op op_pow pe_int pe_int) (nomark _)) (pa_cons (pe_op op_mod (pe_callTy call_int1 (by rfl) T.f_int (by decide +kernel) (pa_cons (pe_callB call_abs (by rfl) T.f_abs (by decide +kernel) (pa_cons (pv 0) pa_nil)) pa_nil)) pe_int) (pa_cons pe_int pa_nil))))))), ?_⟩
  obtain ⟨i, rfl, hQ⟩ := h
  refine ⟨_, rfl, _, rfl, ?_⟩
  refine ⟨_, rfl, _, rfl, _, _, rfl, rfl, ⟨by decide, by decide, by decide⟩, _, _, rfl, rfl, ?_⟩
  refine ⟨_, rfl, _, rfl, .inl ⟨_, rfl, _, _, rfl, rfl, (by show (0 : Int) < 2147483629; decide), ?_⟩⟩
  refine ⟨(by show 4 ≤ sizeLine; decide), fun p hp => ?_⟩
  refine hQ p _ hp (Evl.Ex.new hp) ⟨_, _, _, _, upd_same, ?_, ?_, ?_, by decide, by decide⟩
  · split <;> omega
  · exact Int.emod_nonneg _ (by decide)
  · exact Int.lt_trans (Int.emod_lt_of_pos _ (by decide)) (by decide)

abbrev N_l_take : List Str := ["box", "many", "digit", "mixed"]
theorem sc_l_take : FnScope N_l_take ["box", "many"] (defScope (top 78)) := ⟨rfl, rfl, rfl, by decide +kernel, rfl, by decide +kernel, by decide +kernel⟩
/-- a draw -/
def spTake : Sp := fun vs H Q _ => ∃ (Hb : Hp) (b : Addr) (c : Nat) (n : Int), vs = [.ref b, .int n] ∧ Wd Hb H b c ∧ c ≤ 1000000 ∧ 0 < n ∧ n ≤ 1000 ∧ ∀ r H', 0 ≤ r → r < n → Wd Hb H' b (c + 1) → Q (.int r) H'
theorem ok_l_take (T : Txt K mg)  : Cal P w K mg base 1 "_law_take" (spTake) [] := by
  obtain ⟨fd, F⟩ := T.d__law_take
  refine ⟨_, fd, ["box", "many"], [], ?_, T.g__law_take, F.kp, F.bindsN fun _ _ _ _ _ _ us hl => match us, hl with | [_, _], _ => rfl, .nil⟩
  refine F.ok sc_l_take (fun vs H Q E h => by obtain ⟨_, _, _, _, rfl, _⟩ := h; rfl) (fun cdv A outer s H vs Q E hr h => ?_)
  have hu := hu_of hr
  refine ⟨_, PSs.nox (pss_cut (ps_if (PW.pt (pw_and (pt_val (pe_ix ix_list (pv 0) pe_int (fun _ _ => rfl))) (pw_and1 (pt_cmpR op_gt (pe_ix ix_list (pv 0) pe_int (fun _ _ => rfl)) pe_int (nomark _))))) (pss_cons (ps_set (i := 2) sc_l_take.nd rfl (Or.inl rfl) (pe_op op_mod (pe_callTy call_int1 (by rfl) T.f_int (by decide +kernel) (pa_cons (pe_ix ix_list (pv 0) pe_int (fun _ _ => rfl)) pa_nil)) (pv 1)))
      (pss_cons (ps_asg (pe_op op_fdiv (pe_ix ix_list (pv 0) pe_int (fun _ _ => rfl)) (pv 1)) (pg_sub (pv 0) pe_int set_list))
      (pss_one (ps_ret (pv 2))))) pss_nil)
      (pss_cons (ps_asg (pe_op op_add (pe_ix ix_list (pv 0) pe_int (fun _ _ => rfl)) pe_int) (pg_sub (pv 0) pe_int set_list))
      (pss_cons (ps_set (i := 3) sc_l_take.nd rfl (Or.inl rfl) (pe_op op_mod (pe_callTy call_int1 (by rfl) T.f_int (by decide +kernel) (pa_cons (pe_op op_pow (pe_op op_add (pe_op op_add (pe_ix ix_list (pv 0) pe_int (fun _ _ => rfl)) (pe_op op_mul pe_int (pe_ix ix_list (pv 0) pe_int (fun _ _ => rfl)))) pe_int) pe_int) pa_nil)) pe_int))
      (pss_one (ps_ret (pe_op op_mod (pe_op op_fdiv (pe_op op_mod (pe_callTy call_int1 (by rfl) T.f_int (by decide +kernel) (pa_cons (pe_op op_pow (pe_op op_add (pe_op op_mul (pv 3) pe_int) (pe_op op_mul pe_int (pe_ix ix_list (pv 0) pe_int (fun _ _ => rfl)))) pe_int) pa_nil)) pe_int) pe_int) (pv 1))))))), ?_⟩
  obtain ⟨Hb, b, c, n, rfl, W, hc, hn, hn2, hQ⟩ := h
  obtain ⟨We, Wn, g, f, s0, k, hb, hg, hs, hs2, hk, hk2⟩ := id W
  have put : ∀ (i : Nat) (v : V) (xs : List V), (∃ (g : Int) (f : Bool) (s k : Int), xs.set i v = [.int g, .bl f, .int s, .int k] ∧ 0 ≤ g ∧ 0 ≤ s ∧ s < 2147483648 ∧ 0 ≤ k ∧ k ≤ ((c + 1 : Nat) : Int)) → Wd Hb (upd H b (.lst (xs.set i v))) b (c + 1) := by
    rintro i v xs ⟨g, f, s, k, e, h1, h2, h3, h4, h5⟩
    exact ⟨Evl.Ex.mut We Wn, Wn, g, f, s, k, by rw [e]; exact upd_same, h1, h2, h3, h4, h5⟩
  refine ⟨fun σ H' => σ = [some (.ref b), some (.int n), none, none] ∧ H' = H, ?_, ?_⟩
  · refine ⟨_, rfl, b, _, _, _, rfl, rfl, SqL.of hb, rfl, f, rfl, ?_⟩
    refine ite2 (fun cf => ?_) (fun cf => ?_)
    · refine ⟨_, rfl, b, _, _, _, rfl, rfl, SqL.of hb, rfl, _, _, rfl, rfl, _, rfl, ?_⟩
      refine ite2 (fun cg => ?_) (fun cg => ?_)
      · refine ⟨_, rfl, b, _, _, _, rfl, rfl, SqL.of hb, rfl, .inl ⟨_, rfl, _, rfl, _, _, rfl, rfl, (by show (0 : Int) < n; exact hn), ?_⟩⟩
        refine ⟨_, rfl, b, _, _, _, rfl, rfl, SqL.of hb, rfl, _, rfl, _, _, rfl, rfl, ⟨hn, by omega⟩, ?_⟩
        refine ⟨_, rfl, b, _, _, _, rfl, rfl, hb, rfl, ?_⟩
        refine ⟨_, rfl, ?_⟩
        refine hQ _ _ (Int.emod_nonneg _ (by omega)) (Int.emod_lt_of_pos _ hn) (put 0 _ _ ⟨_, _, _, _, rfl, ?_, hs, hs2, hk, by omega⟩)
        exact Int.ediv_nonneg hg (by omega)
      · exact ⟨rfl, rfl⟩
    · exact ⟨rfl, rfl⟩
  · rintro σ H' ⟨rfl, rfl⟩
    refine ⟨_, rfl, b, _, _, _, rfl, rfl, SqL.of hb, rfl, _, _, rfl, rfl, ?_⟩
    refine ⟨_, rfl, b, _, _, _, rfl, rfl, hb, rfl, ?_⟩
    have hb2 : upd H' b (.lst ([V.int g, V.bl f, V.int s0, V.int k].set 3 (.int (k + 1)))) b = some (.lst [V.int g, V.bl f, V.int s0, V.int (k + 1)]) := upd_same
    refine ⟨_, rfl, b, _, _, _, rfl, rfl, SqL.of hb2, rfl, ?_⟩
    refine ⟨_, rfl, b, _, _, _, rfl, rfl, SqL.of hb2, rfl, _, _, rfl, rfl, .inl ⟨by decide, by decide⟩, _, _, rfl, rfl, _, _, rfl, rfl, ?_⟩
    refine ⟨_, _, rfl, rfl, ⟨by decide, by decide, ?_⟩, .inl ⟨_, rfl, _, _, rfl, rfl, (by show (0 : Int) < 2147483647; decide), ?_⟩⟩
    · omega
    generalize hm : (s0 + 15485867 * (k + 1) + 179425033) ^ Int.toNat 5 % 2147483647 = mx
    have m0 : 0 ≤ mx := by rw [← hm]; exact Int.emod_nonneg _ (by decide)
    have m1 : mx < 2147483647 := by rw [← hm]; exact Int.emod_lt_of_pos _ (by decide)
    refine ⟨_, rfl, _, _, rfl, rfl, .inl ⟨by omega, by omega⟩, ?_⟩
    refine ⟨_, rfl, b, _, _, _, rfl, rfl, SqL.of hb2, rfl, _, _, rfl, rfl, .inl ⟨by decide, by decide⟩, _, _, rfl, rfl, ?_⟩
    refine ⟨_, _, rfl, rfl, ⟨by decide, by decide, ?_⟩, .inl ⟨_, rfl, _, _, rfl, rfl, (by show (0 : Int) < 2147483587; decide), _, _, rfl, rfl, ⟨by decide, by decide⟩, ?_⟩⟩
    · omega
    refine ⟨_, rfl, _, _, rfl, rfl, (by show (0 : Int) < n; exact hn), ?_⟩
    exact hQ _ _ (Int.emod_nonneg _ (by omega)) (Int.emod_lt_of_pos _ hn) (put 3 _ _ ⟨_, _, _, _, rfl, hg, hs, hs2, by omega, by omega⟩)

end
end K14
set_option Elab.async false
set_option linter.all false
set_option maxRecDepth 100000
set_option maxHeartbeats 0
namespace K14
open PySem PySem.Spec PyProof.Rows L2
/-! ### the head -/
def fa : List He.Fa := [.free "isinstance", .free "int", .free "bool", .free "len", .free "str", .free "all", .free "list", .free "tuple", .free "dict", .free "range", .free "abs", .free "sum", .free "min", .free "max", .free "repr", .free "set", .free "enumerate", .int "LONGEST_WORD" 8, .int "MOST_NAMES" 3, .int "LEAST_SIZE" 2, .int "GREATEST_SIZE" 6, .int "MOST_STORES" 8, .int "MOST_UNITS" 6, .int "MOST_STATEMENTS" 20, .int "MOST_STATEMENTS_IN_ALL" 60, .int "MOST_LOOPS" 3, .int "DEEPEST" 6, .int "GREATEST_NUM" 99, .int "GREATEST_VALUE" 5, .int "GREATEST_WEIGHT" 12, .int "FEWEST_PAIRS" 2, .int "MOST_PAIRS" 3, .int "MOST_STEPS" 2000, .str "LETTERS" "abcdefghijklmnopqrstuvwxyz", .glo "LANGUAGE_WORDS", .glo "SIGNS", .glo "Space", .glo "Frame", .glo "Playing", .glo "is_whole", .glo "is_whole_from", .glo "is_word", .glo "is_sized_name", .glo "stores_of_sizes", .glo "are_space_names", .glo "is_tuple_of", .glo "is_expression", .glo "is_condition", .glo "are_pairs", .glo "is_draw_pair", .glo "has_head_form", .glo "bodies_in", .glo "count_in", .glo "count_in_unit", .glo "counts_in_units", .glo "walked", .glo "counts_in_tree", .glo "first_repeated", .glo "first_too_large", .glo "names_in", .glo "names_of_head", .glo "wrong_in_statement", .glo "wrong_in_body", .glo "first_wrong", .glo "checked_counts", .glo "check_system", .glo "number_of", .glo "holds", .glo "label_list", .glo "wheel_values", .glo "needs_item", .glo "fits", .glo "check_playing", .glo "play", .glo "_law_cell", .glo "_law_box", .glo "_law_take", .glo "_law_mixed", .glo "_law_words", .glo "_law_expression", .glo "_law_condition", .glo "_law_statement", .glo "_law_body", .glo "_law_round", .glo "_law_system", .glo "_law_many", .glo "_law_values", .glo "_law_set", .glo "_law_worth", .glo "_law_holds", .glo "_law_begun", .glo "_law_asks", .glo "_law_value", .glo "_law_step", .glo "_law_answers", .glo "_law_play", .glo "_law_asked_right", .glo "_law_grown_right", .glo "_law_right", .meth "Space" "values_of", .meth "Space" "store_of", .meth "Space" "size_of", .meth "Space" "with_value", .meth "Space" "check_store", .meth "Space" "check_name", .cls "Space", .mkr "Space", .noat "Space" "names", .noat "Space" "never", .cls "Frame", .mkr "Frame", .noat "Frame" "body", .noat "Frame" "place", .noat "Frame" "unit", .meth "Playing" "begin", .meth "Playing" "begin_behind", .meth "Playing" "set_value", .meth "Playing" "asking", .meth "Playing" "passes", .meth "Playing" "step", .cls "Playing", .mkr "Playing", .noat "Playing" "space", .noat "Playing" "bodies", .noat "Playing" "store", .noat "Playing" "begun", .glo "law"]
def fn : List He.DefD := [dG 12 "is_whole", dG 13 "is_whole_from", dG 22 "is_word", dG 23 "is_sized_name", dG 24 "stores_of_sizes", dG 25 "are_space_names", dG 39 "is_tuple_of", dG 40 "is_expression", dG 41 "is_condition", dG 42 "are_pairs", dG 43 "is_draw_pair", dG 44 "has_head_form", dG 45 "bodies_in", dG 46 "count_in", dG 47 "count_in_unit", dG 48 "counts_in_units", dG 49 "walked", dG 51 "counts_in_tree", dG 53 "first_repeated", dG 54 "first_too_large", dG 55 "names_in", dG 56 "names_of_head", dG 57 "wrong_in_statement", dG 58 "wrong_in_body", dG 59 "first_wrong", dG 60 "checked_counts", dG 61 "check_system", dG 63 "number_of", dG 64 "holds", dG 67 "label_list", dG 68 "wheel_values", dG 69 "needs_item", dG 70 "fits", dG 73 "check_playing", dG 74 "play", dG 76 "_law_cell", dG 77 "_law_box", dG 78 "_law_take", dG 79 "_law_mixed", dG 80 "_law_words", dG 81 "_law_expression", dG 82 "_law_condition", dG 83 "_law_statement", dG 84 "_law_body", dG 85 "_law_round", dG 86 "_law_system", dG 87 "_law_many", dG 88 "_law_values", dG 89 "_law_set", dG 90 "_law_worth", dG 91 "_law_holds", dG 92 "_law_begun", dG 93 "_law_asks", dG 94 "_law_value", dG 95 "_law_step", dG 96 "_law_answers", dG 97 "_law_play", dG 98 "_law_asked_right", dG 99 "_law_grown_right", dG 100 "_law_right", dM 26 5 "Space" "values_of" "Space.values_of", dM 26 6 "Space" "store_of" "Space.store_of", dM 26 7 "Space" "size_of" "Space.size_of", dM 26 9 "Space" "with_value" "Space.with_value", dM 26 10 "Space" "check_store" "Space.check_store", dM 26 11 "Space" "check_name" "Space.check_name", dM 26 0 "Space" "__init__" "Space.__init__", dM 26 2 "Space" "__contains__" "Space.__contains__", dM 71 0 "Frame" "__init__" "Frame.__init__", ⟨("Playing", some "begin"), "begin", "Playing.begin", defArgs (inClass (top 72) 1), defBody (inClass (top 72) 1), defScope (inClass (top 72) 1), [.non], []⟩, ⟨("Playing", some "begin_behind"), "begin_behind", "Playing.begin_behind", defArgs (inClass (top 72) 2), defBody (inClass (top 72) 2), defScope (inClass (top 72) 2), [.non], []⟩, dM 72 3 "Playing" "set_value" "Playing.set_value", dM 72 4 "Playing" "asking" "Playing.asking", dM 72 5 "Playing" "passes" "Playing.passes", dM 72 6 "Playing" "step" "Playing.step", dM 72 0 "Playing" "__init__" "Playing.__init__", dG 101 "law"]
def exL (K : PySem.W.Frag) : List Bool := [He.tupB K "LANGUAGE_WORDS" (barred.map He.Dv.str), He.tupB K "SIGNS" (signs.map He.Dv.str), He.eqO (PySem.W.findIn K (.ref (He.ga K "Space")) "__contains__") (some (some (.ref (He.ma K (He.ga K "Space") "__contains__")))), PySem.W.isFn K (.ref (He.ma K (He.ga K "Space") "__contains__"))]
def exB (K : PySem.W.Frag) : Bool := (exL K).all id
theorem exs {K : PySem.W.Frag} (h : exB K = true) (i : Nat) {b : Bool} (e : (exL K)[i]? = some b) : b = true := by
  have := List.all_eq_true.mp h b (List.mem_of_getElem? e)
  exact this
abbrev R : PySem.W.OpenRow := PySem.W.OpenLaw.row PySem.Challenge.rw_fairpatch_k14_games_step_by_step
def names : List Str := (["_wall", "__name__", "PatchError", "InvalidNames", "InvalidStore", "InvalidValues", "InvalidSystem", "InvalidSteps", "InvalidAnswer", "InvalidName", "NotFair", "is_whole", "is_whole_from", "LETTERS", "LONGEST_WORD", "LANGUAGE_WORDS", "MOST_NAMES", "LEAST_SIZE", "GREATEST_SIZE", "MOST_STORES"] : List Str) ++ (["is_word", "is_sized_name", "stores_of_sizes", "are_space_names", "Space", "MOST_UNITS", "MOST_STATEMENTS", "MOST_STATEMENTS_IN_ALL", "MOST_LOOPS", "DEEPEST", "GREATEST_NUM", "GREATEST_VALUE", "GREATEST_WEIGHT", "FEWEST_PAIRS", "MOST_PAIRS", "SIGNS", "is_tuple_of", "is_expression", "is_condition", "are_pairs"] : List Str) ++ (["is_draw_pair", "has_head_form", "bodies_in", "count_in", "count_in_unit", "counts_in_units", "walked", "counts_in_tree", "first_repeated", "first_too_large", "names_in", "names_of_head", "wrong_in_statement", "wrong_in_body", "first_wrong", "checked_counts", "check_system", "number_of", "holds", "MOST_STEPS"] : List Str) ++ (["label_list", "wheel_values", "needs_item", "fits", "Frame", "Playing", "check_playing", "play", "_law_cell", "_law_box", "_law_take", "_law_mixed", "_law_words", "_law_expression", "_law_condition", "_law_statement", "_law_body", "_law_round", "_law_system", "_law_many"] : List Str) ++ (["_law_values", "_law_set", "_law_worth", "_law_holds", "_law_begun", "_law_asks", "_law_value", "_law_step", "_law_answers", "_law_play", "_law_asked_right", "_law_grown_right", "_law_right"] : List Str)
/-- what the globals reach in n steps, step by step; nothing is struck out -/
def ft (g : Addr → Option Obj) : Nat → List Addr → List Addr
  | 0, as => as
  | n + 1, as => as ++ ft g n (as.flatMap fun a => match g a with
    | some o => He.refsD o
    | none => [])
def obK (g : Addr → Option Obj) : He.AlX := (He.obsT fa fn [] (He.frT g (ft g 5 [mainGlobals])), exB (He.frT g (ft g 5 [mainGlobals])))
def hk : PySem.W.Hook where
  α := He.AlX
  obs := fun s => obK s.heap.get?
  val := fun w => (He.valT fn [] w, true)
  says := fun w h => ∃ K : PySem.W.Frag, K.In h ∧ He.SaysX fa fn [] [] exB w h K
  of := fun _ _ e => ⟨_, He.frT_in, ⟨congrArg (fun z : He.AlX => z.1) e, congrArg (fun z : He.AlX => z.2) e, (fun p hp => by cases hp), (fun p hp => by cases hp), (fun p hp => by cases hp)⟩⟩
  keeps := fun _ _ _ ⟨K, hK, c⟩ k => ⟨K, PySem.W.Frag.In.keeps hK k, ⟨c.t, c.more, c.hd, c.out, fun p hp => k _ _ (c.empty p hp)⟩⟩
def ob (s : PySem.W.SharedT) : He.AlX := obK (HandSHeadRun.getT s)
theorem ob_eq (s : PySem.W.SharedT) : ob s = hk.obs s.abs := by
  have e : HandSHeadRun.getT s = s.abs.heap.get? := funext (HandSHeadRun.getT_eq s)
  show obK (HandSHeadRun.getT s) = obK s.abs.heap.get?
  rw [e]
theorem run (w : World) : HandSHeadRun.RunEqI R (PySem.W.view R.prog [101]) hk ob 8000 names w := by
  unfold HandSHeadRun.RunEqI
  kernel_rfl
end K14
set_option Elab.async false
set_option linter.all false
set_option maxRecDepth 100000
set_option maxHeartbeats 8000000
namespace K14
open PySem PySem.Spec PyProof.Rows L2 C8

/-! ### data -/
mutual
theorem Dp.mono {K : PySem.W.Frag} {H H' : Hp} (e : Evl.Ex H H') : ∀ (d : PyData) (v : V), Dp K H v d → Dp K H' v d
  | .none, _, h => by cases h; exact .non
  | .bool b, _, h => by cases h; exact .bl b
  | .int i, _, h => by cases h; exact .int i
  | .str x, _, h => by cases h; exact .str x
  | .list ds, _, h => by
    cases h with
    | lst h1 h2 => exact .lst (Evl.ex_l e h1) (DpAll.mono e ds _ h2)
  | .tuple ds, _, h => by
    cases h with
    | tup h1 h2 => exact .tup (Evl.ex_t e h1) (DpAll.mono e ds _ h2)
  | .dict kvs, _, h => by cases h
theorem DpAll.mono {K : PySem.W.Frag} {H H' : Hp} (e : Evl.Ex H H') : ∀ (ds : List PyData) (vs : List V), DpAll K H vs ds → DpAll K H' vs ds
  | [], _, h => by cases h; exact .nil
  | d :: ds, _, h => by
    cases h with
    | cons h1 h2 => exact .cons (Dp.mono e d _ h1) (DpAll.mono e ds _ h2)
end
def DV (K : PySem.W.Frag) (H : Hp) (v : V) : Prop := ∃ d, Dp K H v d ∧ d.canLay0 = true ∧ d.depth ≤ 10
theorem DV.mono {K : PySem.W.Frag} {H H' : Hp} {v : V} (e : Evl.Ex H H') (h : DV K H v) : DV K H' v := by
  obtain ⟨d, h1, h2, h3⟩ := h
  exact ⟨d, Dp.mono e d v h1, h2, h3⟩
theorem DV.int {K : PySem.W.Frag} {H : Hp} (i : Int) : DV K H (.int i) := ⟨.int i, .int i, by simp [PyData.canLay0], by simp [PyData.depth]⟩
theorem DV.all {K : PySem.W.Frag} {H : Hp} : ∀ {vs : List V}, (∀ v ∈ vs, DV K H v) → ∃ ds, DpAll K H vs ds ∧ PyData.canLayAll0 ds = true ∧ PyData.depthAll ds ≤ 10 ∧ ds.length = vs.length
  | [], _ => ⟨[], .nil, by simp [PyData.canLayAll0], by simp [PyData.depthAll], rfl⟩
  | v :: vs, h => by
    obtain ⟨d, h1, h2, h3⟩ := h v (List.mem_cons_self ..)
    obtain ⟨ds, g1, g2, g3, g4⟩ := DV.all (vs := vs) fun u hu => h u (List.mem_cons_of_mem _ hu)
    exact ⟨d :: ds, .cons h1 g1, by simp [PyData.canLayAll0, h2, g2], by simp only [PyData.depthAll]; omega, by simp [g4]⟩
theorem shaped_list {ds : List PyData} (h1 : PyData.canLayAll0 ds = true) (h2 : PyData.depthAll ds ≤ 60) : SeqAt.shaped (.list ds) = true := by
  simp only [SeqAt.shaped, PyData.canLay0, PyData.depth, h1, Bool.true_and]
  exact decide_eq_true (by omega)
theorem shaped_tuple {ds : List PyData} (h1 : PyData.canLayAll0 ds = true) (h2 : PyData.depthAll ds ≤ 60) : SeqAt.shaped (.tuple ds) = true := by
  simp only [SeqAt.shaped, PyData.canLay0, PyData.depth, h1, Bool.true_and]
  exact decide_eq_true (by omega)
theorem eqv_empty (ds : List PyData) : PyData.eqv (.list ds) (.list []) = ds.isEmpty := by
  cases ds <;> simp [PyData.eqv, PyData.eqvAll]
theorem seqIndex_nat {i n : Nat} (h : i < n) : seqIndex? (i : Int) n = some i := by
  unfold seqIndex?
  have h1 : ¬ ((i : Int) < 0) := by omega
  have h2 : (0 : Int) ≤ i := by omega
  have h3 : (i : Int) < n := by omega
  simp [h1, h2, h3, h]
theorem perm_erase {xs fs ls : List V} {k : Nat} {y : V} (h : (fs ++ ls).Perm xs) (hy : ls[k]? = some y) : ((fs ++ [y]) ++ ls.eraseIdx k).Perm xs := by
  refine List.Perm.trans ?_ h
  rw [List.append_assoc]
  refine List.Perm.append_left fs ?_
  have hk : k < ls.length := (List.getElem?_eq_some_iff.mp hy).1
  have e : ls[k] = y := (List.getElem?_eq_some_iff.mp hy).2
  rw [List.eraseIdx_eq_take_drop_succ]
  have p : ls = ls.take k ++ y :: ls.drop (k + 1) := by
    rw [← e, ← List.drop_eq_getElem_cons hk, List.take_append_drop]
  refine List.Perm.trans ?_ (List.Perm.of_eq p.symm)
  show (y :: (ls.take k ++ ls.drop (k + 1))).Perm _
  exact List.perm_middle.symm
section
variable {P : Program} {w : World} {K : PySem.W.Frag} {mg : Str → Option Value} {base : Heap}

end
end K14
namespace K14
open PySem PySem.Spec PyProof.Rows L2 C8

/-! ### texts of small letters -/
def S (l : List Nat) : Str := ⟨l.toArray⟩
theorem S_list (z : Str) : S z.cps.toList = z := by cases z; rfl
theorem S_inj {a b : List Nat} (h : S a = S b) : a = b := by
  have q := congrArg (fun z : Str => z.cps.toList) h
  simpa [S] using q
theorem S_toList (l : List Nat) : (S l).cps.toList = l := by simp [S]
theorem S_len (l : List Nat) : (S l).length = l.length := by simp [S, Str.length]
theorem S_app (a b : List Nat) : S a ++ S b = S (a ++ b) := by
  show Str.mk (a.toArray ++ b.toArray) = _
  simp [S]
theorem join_S : ∀ cs : List Nat, Txt.join (Str.ofString "") (cs.map fun c => (⟨#[c]⟩ : Str)) = S cs := by
  intro cs
  rw [show Txt.join (Str.ofString "") (cs.map fun c => (⟨#[c]⟩ : Str)) = Str.join (Str.ofString "") (cs.map fun c => (⟨#[c]⟩ : Str)) from StrLaws.glued_eq_join _ _]
  induction cs with
  | nil => rfl
  | cons c r ih =>
    cases r with
    | nil => rfl
    | cons d r =>
      have e : Str.join (Str.ofString "") (((c :: d :: r)).map fun c => (⟨#[c]⟩ : Str)) = (⟨#[c]⟩ : Str) ++ Str.ofString "" ++ Str.join (Str.ofString "") ((d :: r).map fun c => (⟨#[c]⟩ : Str)) := rfl
      rw [e, ih]
      have e2 : (⟨#[c]⟩ : Str) ++ Str.ofString "" = S [c] := by
        show Str.mk (#[c] ++ (Str.ofString "").cps) = _
        rfl
      rw [e2, S_app]
      rfl
def Low (l : List Nat) : Prop := ∀ c ∈ l, 97 ≤ c ∧ c < 123
abbrev alpha : Str := "abcdefghijklmnopqrstuvwxyz"
theorem alpha_list : alpha.cps.toList = (List.range 26).map (· + 97) := by decide +kernel
theorem alpha_at {r : Int} (h0 : 0 ≤ r) (h1 : r < 26) : atI alpha.cps.toList r = some (r.toNat + 97) := by
  obtain ⟨k, rfl⟩ : ∃ k : Nat, r = (k : Int) := ⟨r.toNat, by omega⟩
  refine atI_nat ?_
  rw [alpha_list, List.getElem?_map, List.getElem?_range (by omega)]
  rfl
theorem alpha_index {c : Nat} (h : 97 ≤ c ∧ c < 123) : ∃ rest, Builtin.Str.occurrences alpha ⟨#[c]⟩ 0 alpha.length 1 = (c - 97) :: rest := by
  have key : ∀ k, k < 26 → Builtin.Str.occurrences alpha ⟨#[k + 97]⟩ 0 alpha.length 1 = [k] := by decide +kernel
  have e := key (c - 97) (by omega)
  have ec : c - 97 + 97 = c := by omega
  rw [ec] at e
  exact ⟨[], e⟩
/-- the language's words -/
def isBar (z : Str) : Bool := barred.contains z
def freeL (l : List Nat) : List Nat := if isBar (S l) then l ++ [120] else l
theorem bar_facts {z : Str} (h : isBar z = true) : z.cps.toList.length ≤ 6 ∧ z.cps.toList.getLast? ≠ some 120 := by
  have key : ∀ b ∈ barred, b.cps.toList.length ≤ 6 ∧ b.cps.toList.getLast? ≠ some 120 := by decide +kernel
  exact key z (by simpa [isBar] using h)
theorem freeL_bar (l : List Nat) : isBar (S (freeL l)) = false := by
  unfold freeL
  cases e : isBar (S l) with
  | false => simp [e]
  | true =>
    rw [if_pos rfl]
    cases e2 : isBar (S (l ++ [120])) with
    | false => rfl
    | true =>
      have q := (bar_facts e2).2
      rw [S_toList] at q
      simp at q
theorem freeL_low {l : List Nat} (h : Low l) : Low (freeL l) := by
  unfold freeL
  split
  · intro c hc
    rcases List.mem_append.mp hc with hc | hc
    · exact h c hc
    · have : c = 120 := by simpa using hc
      omega
  · exact h
theorem freeL_len (l : List Nat) : l.length ≤ (freeL l).length ∧ ((freeL l).length ≤ l.length ∨ (freeL l).length ≤ 7) := by
  unfold freeL
  split
  · rename_i h
    have q := (bar_facts h).1
    rw [S_toList] at q
    rw [List.length_append]
    simp only [List.length_singleton]
    omega
  · omega
theorem freeL_get {l : List Nat} {i : Nat} (h : i < l.length) : (freeL l)[i]? = l[i]? := by
  unfold freeL
  split
  · rw [List.getElem?_append_left h]
  · rfl
structure WordOk (z : Str) : Prop where
  low : Low z.cps.toList
  lo : 1 ≤ z.length
  hi : z.length ≤ 8
  bar : isBar z = false
theorem wordOk_free {l : List Nat} (h : Low l) (h1 : 1 ≤ l.length) (h2 : l.length ≤ 8) : WordOk (S (freeL l)) := by
  have q := freeL_len l
  refine ⟨by rw [S_toList]; exact freeL_low h, ?_, ?_, freeL_bar l⟩
  · rw [S_len]; omega
  · rw [S_len]; omega
theorem low_ok {z : Str} (h : Low z.cps.toList) : PyData.strOk z = true := by
  unfold PyData.strOk
  rw [Array.all_eq_true']
  intro c hc
  have := h c (by simpa using hc)
  exact decide_eq_true (by omega)
theorem DV.word {K : PySem.W.Frag} {H : Hp} {z : Str} (h : WordOk z) : DV K H (.str z) := ⟨.str z, .str z, by simp [PyData.canLay0, low_ok h.low], by simp [PyData.depth]⟩
theorem cut_head (l : List Nat) (k : Nat) (h : k ≤ l.length) : cutS (S l) none (some (k : Int)) = S (l.take k) := by
  have e : HT.sIx (S l).length (S l).length (some (k : Int)) = k := by
    simp only [HT.sIx]
    rw [if_neg (by omega), S_len]
    omega
  unfold cutS
  rw [e, S_toList]
  simp [HT.sIx_none, S]
theorem cut_tail (l : List Nat) (k : Nat) (h : k ≤ l.length) : cutS (S l) (some (k : Int)) none = S (l.drop k) := by
  have e : HT.sIx (S l).length 0 (some (k : Int)) = k := by
    simp only [HT.sIx]
    rw [if_neg (by omega), S_len]
    omega
  unfold cutS
  rw [e, S_toList, HT.sIx_none, S_len, List.take_of_length_le (by rw [List.length_drop]; omega)]
  rfl
theorem set_other {l : List Nat} {k u : Nat} (h : k < l.length) : l.take k ++ ([u] ++ l.drop (k + 1)) = l.set k u := by
  rw [List.set_eq_take_append_cons_drop, if_pos h]
  rfl
theorem three_words {l : List Nat} {c k u : Nat} (hl : Low l) (h1 : 1 ≤ l.length) (h7 : l.length ≤ 7) (hc : 97 ≤ c ∧ c < 123) (hk : k < l.length) (hu : 97 ≤ u ∧ u < 123) (hne : l[k]? ≠ some u) (hb : freeL l = l) :
    (∀ z ∈ [S l, S (freeL (l ++ [c])), S (freeL (l.set k u))], WordOk z) ∧ [S l, S (freeL (l ++ [c])), S (freeL (l.set k u))].Nodup := by
  have w1 : WordOk (S l) := by
    have := wordOk_free hl h1 (by omega)
    rw [hb] at this
    exact this
  have w2 : WordOk (S (freeL (l ++ [c]))) := by
    refine wordOk_free (fun x hx => ?_) (by rw [List.length_append]; omega) (by rw [List.length_append]; simp; omega)
    rcases List.mem_append.mp hx with hx | hx
    · exact hl x hx
    · have : x = c := by simpa using hx
      omega
  have w3 : WordOk (S (freeL (l.set k u))) := by
    refine wordOk_free (fun x hx => ?_) (by rw [List.length_set]; omega) (by rw [List.length_set]; omega)
    rcases List.mem_or_eq_of_mem_set hx with hx | hx
    · exact hl x hx
    · omega
  have n12 : S l ≠ S (freeL (l ++ [c])) := fun e => by
    have q := congrArg List.length (S_inj e)
    have r := (freeL_len (l ++ [c])).1
    rw [List.length_append, List.length_singleton] at r
    omega
  have g3 : (freeL (l.set k u))[k]? = some u := by
    rw [freeL_get (by rw [List.length_set]; exact hk), List.getElem?_set_self hk]
  have n13 : S l ≠ S (freeL (l.set k u)) := fun e => by
    have q := congrArg (fun m : List Nat => m[k]?) (S_inj e)
    simp only [g3] at q
    exact hne q
  have n23 : S (freeL (l ++ [c])) ≠ S (freeL (l.set k u)) := fun e => by
    have q := congrArg (fun m : List Nat => m[k]?) (S_inj e)
    simp only [g3] at q
    rw [freeL_get (by rw [List.length_append]; omega), List.getElem?_append_left hk] at q
    exact hne q
  refine ⟨fun z hz => ?_, ?_⟩
  · rcases List.mem_cons.mp hz with rfl | hz
    · exact w1
    rcases List.mem_cons.mp hz with rfl | hz
    · exact w2
    · have : z = _ := List.mem_singleton.mp hz
      rw [this]; exact w3
  · simp [n12, n13, n23]
def unS : V → Str
  | .str z => z
  | _ => S []
theorem perm_strs {ys : List V} {xs : List Str} (h : ys.Perm (xs.map V.str)) : ∃ ws : List Str, ys = ws.map V.str ∧ ws.Perm xs := by
  refine ⟨ys.map unS, ?_, ?_⟩
  · rw [List.map_map]
    have e : ∀ y ∈ ys, (V.str ∘ unS) y = y := fun y hy => by
      obtain ⟨z, _, rfl⟩ := List.mem_map.mp (h.mem_iff.mp hy)
      rfl
    rw [List.map_congr_left e]
    simp
  · have q := h.map unS
    rw [List.map_map] at q
    have e : xs.map (unS ∘ V.str) = xs := by
      have e2 : (unS ∘ V.str) = id := rfl
      rw [e2, List.map_id]
    rw [e] at q
    exact q
section
variable {P : Program} {w : World} {K : PySem.W.Frag} {mg : Str → Option Value} {base : Heap}

end
end K14
namespace K14
open PySem PySem.Spec PyProof.Rows L2 C8

/-! ### names, sizes, rows -/
abbrev NS := List (Str × Nat)
def szs (ns : NS) : List Nat := ns.map Prod.snd
def wds (ns : NS) : List Str := ns.map Prod.fst
def menus : List (List Nat) := [[2], [3], [4], [5], [6], [2, 2], [2, 3], [2, 4], [3, 2], [4, 2], [2, 2, 2]]
def prodN : List Nat → Nat
  | [] => 1
  | s :: r => s * prodN r
def rowsStep (rs : List (List Nat)) (s : Nat) : List (List Nat) := rs.flatMap fun r => (List.range s).map fun v => r ++ [v]
def rowsOf (sz : List Nat) : List (List Nat) := sz.foldl rowsStep [[]]
/-- the i-th value of store k -/
def dig (sz : List Nat) (k i : Nat) : Nat := k / prodN (sz.drop (i + 1)) % sz.getD i 1
def row (sz : List Nat) (k : Nat) : List Nat := (List.range sz.length).map (dig sz k)
/-- the store of these values -/
def valN (sz vs : List Nat) : Nat := (sz.zip vs).foldl (fun a p => a * p.1 + p.2) 0
def givenN (sz : List Nat) (k i v : Nat) : Nat := valN sz ((row sz k).set i v)
theorem menu_facts : ∀ sz ∈ menus, (rowsOf sz).length = prodN sz ∧ prodN sz ≤ 8 ∧ 2 ≤ prodN sz ∧ sz.length ≤ 3 ∧ 1 ≤ sz.length ∧ (∀ s ∈ sz, 2 ≤ s ∧ s ≤ 6) := by decide +kernel
theorem menu_nodup : ∀ sz ∈ menus, (rowsOf sz).Nodup := by decide +kernel
theorem menu_rev : ∀ sz ∈ menus, sz.reverse ∈ menus := by decide +kernel
theorem menu_row : ∀ sz ∈ menus, ∀ k, k < prodN sz → (rowsOf sz)[k]? = some (row sz k) ∧ valN sz (row sz k) = k := by
  intro sz hs k hk
  have key : ∀ sz ∈ menus, ∀ k, k < 9 → k < prodN sz → (rowsOf sz)[k]? = some (row sz k) ∧ valN sz (row sz k) = k := by decide +kernel
  exact key sz hs k (by have := (menu_facts sz hs).2.1; omega) hk
theorem menu_all : (menus.all fun sz => (List.range (prodN sz)).all fun k => (List.range sz.length).all fun i => (List.range (sz.getD i 1)).all fun v => decide (givenN sz k i v < prodN sz) && decide (row sz (givenN sz k i v) = (row sz k).set i v)) = true := by decide +kernel
theorem menu_given {sz : List Nat} (hs : sz ∈ menus) {k i v : Nat} (hk : k < prodN sz) (hi : i < sz.length) (hv : v < sz.getD i 1) : givenN sz k i v < prodN sz ∧ row sz (givenN sz k i v) = (row sz k).set i v := by
  have a := List.all_eq_true.mp menu_all sz hs
  have b := List.all_eq_true.mp a k (List.mem_range.mpr hk)
  have c := List.all_eq_true.mp b i (List.mem_range.mpr hi)
  have d := List.all_eq_true.mp c v (List.mem_range.mpr hv)
  rw [Bool.and_eq_true] at d
  exact ⟨of_decide_eq_true d.1, of_decide_eq_true d.2⟩
theorem row_len (sz : List Nat) (k : Nat) : (row sz k).length = sz.length := by simp [row]
structure NsOk (ns : NS) : Prop where
  sz : szs ns ∈ menus
  wd : ∀ z ∈ wds ns, WordOk z
  nd : (wds ns).Nodup
theorem NsOk.len {ns : NS} (h : NsOk ns) : 1 ≤ ns.length ∧ ns.length ≤ 3 := by
  have f := menu_facts _ h.sz
  have e : (szs ns).length = ns.length := by simp [szs]
  omega
theorem NsOk.size {ns : NS} (h : NsOk ns) {n : Str × Nat} (hn : n ∈ ns) : 2 ≤ n.2 ∧ n.2 ≤ 6 := (menu_facts _ h.sz).2.2.2.2.2 n.2 (List.mem_map_of_mem hn)
abbrev nV (n : Str × Nat) : List V := [.str n.1, .int (n.2 : Int)]
/-- pairs (word, number) at ps -/
def Tups (H : Hp) (ps : List Addr) (ns : NS) : Prop := Paired (fun p n => H p = some (.tup (nV n))) ps ns
theorem Tups.mono {H H' : Hp} (e : Ex H H') : ∀ {ps : List Addr} {ns : NS}, Tups H ps ns → Tups H' ps ns
  | _, _, .nil => .nil
  | _, _, .cons h t => .cons (e _ _ h) (Tups.mono e t)
theorem Tups.length {H : Hp} : ∀ {ps : List Addr} {ns : NS}, Tups H ps ns → ps.length = ns.length
  | _, _, .nil => rfl
  | _, _, .cons _ t => congrArg (· + 1) (Tups.length t)
theorem Tups.get {H : Hp} : ∀ {ps : List Addr} {ns : NS}, Tups H ps ns → ∀ {i : Nat} {p : Addr}, ps[i]? = some p → ∃ n, ns[i]? = some n ∧ H p = some (.tup (nV n))
  | _, _, .nil, i, p, h => by simp at h
  | _, _, .cons a t, 0, p, h => by
    have : _ = p := Option.some.inj h
    subst this
    exact ⟨_, rfl, a⟩
  | _, _, .cons a t, i + 1, p, h => Tups.get t h
theorem Tups.at {H : Hp} : ∀ {ps : List Addr} {ns : NS}, Tups H ps ns → ∀ {i : Nat} {n : Str × Nat}, ns[i]? = some n → ∃ p, ps[i]? = some p ∧ H p = some (.tup (nV n))
  | _, _, .nil, i, p, h => by simp at h
  | _, _, .cons a t, 0, p, h => by
    have : _ = p := Option.some.inj h
    subst this
    exact ⟨_, rfl, a⟩
  | _, _, .cons a t, i + 1, p, h => Tups.at t h
theorem Tups.byIx {H : Hp} : ∀ {ps : List Addr} {ns : NS}, ps.length = ns.length → (∀ (i : Nat) p n, ps[i]? = some p → ns[i]? = some n → H p = some (.tup (nV n))) → Tups H ps ns
  | [], [], _, _ => .nil
  | [], _ :: _, h, _ => nomatch h
  | _ :: _, [], h, _ => nomatch h
  | p :: ps, n :: ns, h, g => .cons (g 0 p n rfl rfl) (Tups.byIx (Nat.succ.inj h) fun i p' n' a b => g (i + 1) p' n' a b)
abbrev rV (r : List Nat) : List V := r.map fun v : Nat => V.int (v : Int)
/-- lists of numbers at qs -/
def Rows (H : Hp) (qs : List Addr) (rs : List (List Nat)) : Prop := Paired (fun q r => H q = some (.lst (rV r))) qs rs
theorem Rows.mono {H H' : Hp} (e : Ex H H') : ∀ {qs : List Addr} {rs : List (List Nat)}, Rows H qs rs → Rows H' qs rs
  | _, _, .nil => .nil
  | _, _, .cons h t => .cons (e _ _ h) (Rows.mono e t)
theorem Rows.app {H : Hp} : ∀ {qs qs' : List Addr} {rs rs' : List (List Nat)}, Rows H qs rs → Rows H qs' rs' → Rows H (qs ++ qs') (rs ++ rs')
  | _, _, _, _, .nil, h => h
  | _, _, _, _, .cons h t, g => .cons h (Rows.app t g)
theorem Rows.length {H : Hp} : ∀ {qs : List Addr} {rs : List (List Nat)}, Rows H qs rs → qs.length = rs.length
  | _, _, .nil => rfl
  | _, _, .cons _ t => congrArg (· + 1) (Rows.length t)
theorem Rows.at {H : Hp} : ∀ {qs : List Addr} {rs : List (List Nat)}, Rows H qs rs → ∀ {i : Nat} {r : List Nat}, rs[i]? = some r → ∃ q, qs[i]? = some q ∧ H q = some (.lst (rV r))
  | _, _, .nil, i, p, h => by simp at h
  | _, _, .cons a t, 0, p, h => by
    have : _ = p := Option.some.inj h
    subst this
    exact ⟨_, rfl, a⟩
  | _, _, .cons a t, i + 1, p, h => Rows.at t h
theorem Rows.get {H : Hp} : ∀ {qs : List Addr} {rs : List (List Nat)}, Rows H qs rs → ∀ {i : Nat} {q : Addr}, qs[i]? = some q → ∃ r, rs[i]? = some r ∧ H q = some (.lst (rV r))
  | _, _, .nil, i, p, h => by simp at h
  | _, _, .cons a t, 0, p, h => by
    have : _ = p := Option.some.inj h
    subst this
    exact ⟨_, rfl, a⟩
  | _, _, .cons a t, i + 1, p, h => Rows.get t h
theorem refs_get {ps : List Addr} {i : Nat} {v : V} (h : (ps.map V.ref)[i]? = some v) : ∃ p, v = .ref p ∧ ps[i]? = some p := by
  rw [List.getElem?_map] at h
  cases e : ps[i]? with
  | none => rw [e] at h; cases h
  | some p =>
    rw [e] at h
    cases h
    exact ⟨p, rfl, rfl⟩
theorem refs_at2 {ps : List Addr} {i : Nat} {p : Addr} (h : ps[i]? = some p) : (ps.map V.ref)[i]? = some (.ref p) := by rw [List.getElem?_map, h]; rfl

/-! ### the box apart -/
def off (H : Hp) (b : Addr) : Hp := fun a => if a = b then none else H a
theorem off_at {H : Hp} {b a : Addr} {o : HO} (h : H a = some o) (n : a ≠ b) : off H b a = some o := by unfold off; rw [if_neg n]; exact h
theorem off_ex {H : Hp} {b : Addr} : Ex (off H b) H := fun a o h => by
  unfold off at h
  split at h
  · cases h
  · exact h
theorem off_none {H : Hp} {b p : Addr} (h : off H b p = none) (n : p ≠ b) : H p = none := by
  unfold off at h
  rw [if_neg n] at h
  exact h
theorem Wd.off {Hb H : Hp} {b : Addr} {c : Nat} (W : Wd Hb H b c) : Wd (off H b) H b c := ⟨off_ex, by simp [K14.off], W.box⟩
theorem Wd.exOff {Hb H : Hp} {b : Addr} {c : Nat} (W : Wd Hb H b c) : Ex Hb (K14.off H b) := fun a o h => off_at (W.ex a o h) (fun z => by rw [z, W.nb] at h; cases h)
theorem Wd.tup {Hb H : Hp} {b a : Addr} {c : Nat} {xs : List V} (W : Wd Hb H b c) (h : H a = some (.tup xs)) : K14.off H b a = some (.tup xs) := off_at h (fun z => by
  obtain ⟨g, f, s, k, h1, _⟩ := W.box
  rw [z, h1] at h; cases h)
theorem Wd.tups {Hb H : Hp} {b : Addr} {c : Nat} (W : Wd Hb H b c) : ∀ {ps : List Addr} {ns : NS}, Tups H ps ns → Tups (K14.off H b) ps ns
  | _, _, .nil => .nil
  | _, _, .cons h t => .cons (W.tup h) (W.tups t)

/-! ### comprehensions -/
theorem lc_rel {J : It} {n : Nat} {G : Hp → Prop} {Y : Nat → Hp → V → Hp → Prop} (w : L2.Walk J n G Y) {g : TG} {tt : TT} {te : TE} {vs : List Nat} {σ : L2.St} {H1 : Hp} {D : Addr} {Qd : Hp → Prop} (R : Nat → V → Hp → Prop) (hn : n ≤ 1000) (hD : H1 D = none)
    (hG : ∀ H, Ex H1 H → G H) (hm : ∀ j y H H', R j y H → Ex H H' → R j y H') (hu : ∀ j y H l l', R j y H → H D = some (.lst l) → R j y (upd H D (.lst l')))
    (hs : ∀ i x H H' (Z : VK) (B : Hp → Prop), i < n → Ex H1 H → (∃ l, H D = some (.lst l)) → Y i H x H' → (∀ y H4, Ex H H4 → R i y H4 → Z y H4) →
      g x (wipe σ vs) H' fun σ2 H2 => wipe σ2 vs = wipe σ vs ∧ tt σ2 H2 fun b H3 => if b = true then te σ2 H3 Z else B H3)
    (hd : ∀ H ys, Ex H1 H → H D = some (.lst ys) → ys.length = n → (∀ (j : Nat) y, ys[j]? = some y → R j y H) → Qd H) :
    ∃ W : Nat → Nat → Hp → Prop, (∃ m, W 0 m (upd H1 D (.lst []))) ∧ ∀ i m H, W i m H →
      (J.stop i H ∧ Qd H) ∨ (J.go i H ∧ ∃ Nx : Hp → Prop, (∀ H', Nx H' → ∃ m', m' < m ∧ W (i + 1) m' H') ∧ ∀ x H', J.yld i H x H' → g x (wipe σ vs) H' fun σ2 H2 => wipe σ2 vs = wipe σ vs ∧ tt σ2 H2 fun b H3 =>
        if b = true then te σ2 H3 fun y H4 => ∃ acc, H4 D = some (.lst acc) ∧ acc.length < sizeLine ∧ Nx (upd H4 D (.lst (acc ++ [y]))) else Nx H3) := by
  refine lc_it w (fun i H => Ex H1 H ∧ ∃ ys, H D = some (.lst ys) ∧ ys.length = i ∧ ∀ (j : Nat) y, ys[j]? = some y → R j y H) ⟨Evl.Ex.new hD, [], upd_same, rfl, fun j y h => by simp at h⟩ (fun i H _ p => hG H p.1) ?_ ?_
  · rintro i x H H' hi ⟨e, ys, h1, h2, h3⟩ y
    refine hs i x H H' _ _ hi e ⟨ys, h1⟩ y (fun z H4 e4 hz => ⟨ys, e4 D _ h1, Nat.lt_of_lt_of_le (show ys.length < 1001 by omega) (by decide), ?_, ys ++ [z], upd_same, by rw [List.length_append, h2]; rfl, fun j u hj => ?_⟩)
    · exact Evl.Ex.mut (e.trans e4) hD
    · by_cases hjl : j < ys.length
      · rw [List.getElem?_append_left hjl] at hj
        exact hu _ _ _ _ _ (hm _ _ _ _ (h3 j u hj) e4) (e4 D _ h1)
      · rw [List.getElem?_append_right (by omega)] at hj
        have ej : j = ys.length := by
          rcases Nat.lt_or_ge (j - ys.length) 1 with w | w
          · omega
          · rw [List.getElem?_eq_none (by simpa using w)] at hj; cases hj
        subst ej
        rw [Nat.sub_self] at hj
        have : z = u := by simpa using hj
        subst this
        rw [h2]
        exact hu _ _ _ _ _ hz (e4 D _ h1)
  · rintro H ⟨e, ys, h1, h2, h3⟩
    exact hd H ys e h1 h2 h3
/-- .. whose items are told by their place -/
theorem lc_fn {J : It} {n : Nat} {G : Hp → Prop} {Y : Nat → Hp → V → Hp → Prop} (w : L2.Walk J n G Y) {g : TG} {tt : TT} {te : TE} {vs : List Nat} {σ : L2.St} {H1 : Hp} {D : Addr} {Qd : Hp → Prop} (f : Nat → V) (hn : n ≤ 1000) (hD : H1 D = none)
    (hG : ∀ H, Ex H1 H → G H)
    (hs : ∀ i x H H' (Z : VK) (B : Hp → Prop), i < n → Ex H1 H → (∃ l, H D = some (.lst l)) → Y i H x H' → (∀ H4, Ex H H4 → Z (f i) H4) →
      g x (wipe σ vs) H' fun σ2 H2 => wipe σ2 vs = wipe σ vs ∧ tt σ2 H2 fun b H3 => if b = true then te σ2 H3 Z else B H3)
    (hd : ∀ H, Ex H1 H → H D = some (.lst ((List.range n).map f)) → Qd H) :
    ∃ W : Nat → Nat → Hp → Prop, (∃ m, W 0 m (upd H1 D (.lst []))) ∧ ∀ i m H, W i m H →
      (J.stop i H ∧ Qd H) ∨ (J.go i H ∧ ∃ Nx : Hp → Prop, (∀ H', Nx H' → ∃ m', m' < m ∧ W (i + 1) m' H') ∧ ∀ x H', J.yld i H x H' → g x (wipe σ vs) H' fun σ2 H2 => wipe σ2 vs = wipe σ vs ∧ tt σ2 H2 fun b H3 =>
        if b = true then te σ2 H3 fun y H4 => ∃ acc, H4 D = some (.lst acc) ∧ acc.length < sizeLine ∧ Nx (upd H4 D (.lst (acc ++ [y]))) else Nx H3) := by
  refine lc_rel w (fun i y _ => y = f i) hn hD hG (fun _ _ _ _ h _ => h) (fun _ _ _ _ _ h _ => h) (fun i x H H' Z B hi e hl y hz => hs i x H H' Z B hi e hl y fun H4 e4 => hz _ H4 e4 rfl) (fun H ys e h1 h2 h3 => hd H e ?_)
  have : ys = (List.range n).map f := by
    refine List.ext_getElem? fun j => ?_
    by_cases hj : j < n
    · have e1 : ys[j]? = some ys[j] := List.getElem?_eq_getElem (by omega)
      rw [e1, List.getElem?_map, List.getElem?_range hj, h3 j _ e1]
      rfl
    · rw [List.getElem?_eq_none (by omega), List.getElem?_eq_none (by simp; omega)]
  rw [← this]
  exact h1
section
variable {P : Program} {w : World} {K : PySem.W.Frag} {mg : Str → Option Value} {base : Heap}

end
end K14
namespace K14
open PySem PySem.Spec PyProof.Rows L2 C8

def menu13 : List (List Nat) := [[2], [3], [4], [5], [6], [2, 2], [2, 3], [2, 4], [3, 2], [4, 2], [2, 2, 2], [3, 2], [2, 3]]
theorem menu13_ok : ∀ r ∈ menu13, r ∈ menus := by decide +kernel
theorem map_fst_zip_take {α β : Type} : ∀ (l : List α) (m : List β), m.length ≤ l.length → (l.zip m).map Prod.fst = l.take m.length
  | _, [], _ => by simp
  | [], _ :: _, h => by simp at h
  | a :: l, b :: m, h => by
    rw [List.zip_cons_cons, List.map_cons, map_fst_zip_take l m (Nat.le_of_succ_le_succ h)]
    rfl
theorem zip_ns {ws : List Str} {sz : List Nat} (hw : ∀ z ∈ ws, WordOk z) (nd : ws.Nodup) (hs : sz ∈ menus) (hl : sz.length ≤ ws.length) : NsOk (ws.zip sz) := by
  have e1 : szs (ws.zip sz) = sz := by
    unfold szs
    rw [List.map_snd_zip hl]
  have sub : (wds (ws.zip sz)).Sublist ws := by
    unfold wds
    rw [map_fst_zip_take _ _ hl]
    exact List.take_sublist _ _
  exact ⟨by rw [e1]; exact hs, fun z hz => hw z (sub.subset hz), nd.sublist sub⟩
section
variable {P : Program} {w : World} {K : PySem.W.Frag} {mg : Str → Option Value} {base : Heap}

end
end K14
namespace K14
open PySem PySem.Spec PyProof.Rows L2 C8
/-! ### data: what repr and == say of it -/
theorem textFrom_le (m : Nat) : ∀ (ts : List Str) (k : Nat) (acc : Str), (∀ t ∈ ts, t.length ≤ m) → (textFrom k acc ts).length ≤ acc.length + ts.length * (m + 2)
  | [], k, acc, _ => by
    show acc.length ≤ _
    omega
  | t :: r, k, acc, h => by
    have ih := textFrom_le m r (k + 1) (acc ++ (if k > 0 then ", " else "" : String) ++ t) fun u hu => h u (List.mem_cons_of_mem _ hu)
    have e : (acc ++ (if k > 0 then ", " else "" : String) ++ t).length = acc.length + (if k > 0 then 2 else 0) + t.length := by
      rw [strLen_append, strLen_append]
      split <;> rfl
    rw [e] at ih
    have ht := h t (List.mem_cons_self ..)
    show (textFrom (k + 1) _ r).length ≤ _
    rw [List.length_cons, Nat.succ_mul]
    have : (if k > 0 then 2 else 0 : Nat) ≤ 2 := by split <;> omega
    omega
theorem piled_le (m : Nat) : ∀ ts : List Str, (∀ t ∈ ts, t.length ≤ m) → piled ts ≤ ts.length * (m + 2)
  | [], _ => by rw [piled_nil]; exact Nat.zero_le _
  | t :: r, h => by
    have ih := piled_le m r fun u hu => h u (List.mem_cons_of_mem _ hu)
    have ht := h t (List.mem_cons_self ..)
    rw [piled_cons, List.length_cons, Nat.succ_mul]
    omega
theorem tuple_le (m : Nat) (ts : List Str) (h : ∀ t ∈ ts, t.length ≤ m) : (tupleText ts).length ≤ 3 + ts.length * (m + 2) := by
  have e : (tupleText ts).length = 1 + (Str.join ", " ts).length + (if ts.length == 1 then 2 else 1) := by
    unfold tupleText
    rw [strLen_append, strLen_append]
    split <;> rfl
  have c : (if ts.length == 1 then 2 else 1 : Nat) ≤ 2 := by split <;> omega
  rw [e]
  cases ts with
  | nil => show 1 + 0 + 1 ≤ 3 + 0 * _; omega
  | cons t r =>
    have j := join_length_add (t :: r) (by simp)
    have p := piled_le m (t :: r) h
    omega
/-- data without bools and dicts, of this depth at most, whose text has at most m signs -/
structure Fine (d : PyData) (k m : Nat) : Prop where
  lay : d.canLay0 = true
  dep : d.depth ≤ k
  sh : d.showable = true
  nd : d.hasDict = false
  len : d.shown.length ≤ m
theorem Fine.mono {d : PyData} {k k' m m' : Nat} (h : Fine d k m) (h1 : k ≤ k') (h2 : m ≤ m') : Fine d k' m' := ⟨h.lay, Nat.le_trans h.dep h1, h.sh, h.nd, Nat.le_trans h.len h2⟩
abbrev iD (n : Nat) : PyData := .int (n : Int)
theorem Fine.int {n : Nat} (h : n < 10) : Fine (iD n) 0 1 := by
  have key : ∀ n : Nat, n < 10 → (PyData.int (n : Int)).canLay0 = true ∧ (PyData.int (n : Int)).depth ≤ 0 ∧ (PyData.int (n : Int)).showable = true ∧ (PyData.int (n : Int)).hasDict = false ∧ (PyData.int (n : Int)).shown.length ≤ 1 := by decide +kernel
  obtain ⟨a, b, c, d, e⟩ := key n h
  exact ⟨a, b, c, d, e⟩
theorem Fine.str {z : Str} (h : Low z.cps.toList) (hl : z.length ≤ 20) : Fine (.str z) 0 202 := by
  refine ⟨by simp [PyData.canLay0, low_ok h], by simp [PyData.depth], by simp [PyData.showable], by simp [PyData.hasDict], ?_⟩
  have := StrLaws.reprText_len z fun c hc => by have := h c hc; omega
  simp only [PyData.shown]
  omega
theorem fineAll {k m : Nat} : ∀ {ds : List PyData}, (∀ d ∈ ds, Fine d k m) → PyData.canLayAll0 ds = true ∧ PyData.depthAll ds ≤ k ∧ PyData.showableAll ds = true ∧ PyData.hasDictAll ds = false ∧ (PyData.shownAll ds).length = ds.length ∧ ∀ t ∈ PyData.shownAll ds, t.length ≤ m
  | [], _ => ⟨by simp [PyData.canLayAll0], by simp [PyData.depthAll], by simp [PyData.showableAll], by simp [PyData.hasDictAll], by simp [PyData.shownAll], by simp [PyData.shownAll]⟩
  | d :: ds, h => by
    have f := h d (List.mem_cons_self ..)
    obtain ⟨a, b, c, e, g, i⟩ := fineAll (ds := ds) fun x hx => h x (List.mem_cons_of_mem _ hx)
    refine ⟨by simp [PyData.canLayAll0, f.lay, a], by simp only [PyData.depthAll]; have := f.dep; omega, by simp [PyData.showableAll, f.sh, c], by simp [PyData.hasDictAll, f.nd, e], by simp [PyData.shownAll, g], fun t ht => ?_⟩
    simp only [PyData.shownAll, List.mem_cons] at ht
    rcases ht with rfl | ht
    · exact f.len
    · exact i t ht
theorem Fine.list {ds : List PyData} {k m n : Nat} (h : ∀ d ∈ ds, Fine d k m) (hn : ds.length ≤ n) : Fine (.list ds) (k + 1) (2 + n * (m + 2)) := by
  obtain ⟨a, b, c, e, g, i⟩ := fineAll h
  refine ⟨by simp [PyData.canLay0, a], by simp only [PyData.depth]; omega, by simp [PyData.showable, c], by simp [PyData.hasDict, e], ?_⟩
  simp only [PyData.shown]
  unfold listText
  have t := textFrom_le m (PyData.shownAll ds) 0 "[" i
  have e2 : (textFrom 0 "[" (PyData.shownAll ds) ++ ("]" : Str)).length = (textFrom 0 "[" (PyData.shownAll ds)).length + 1 := by rw [strLen_append]; rfl
  have e3 : (("[" : Str)).length = 1 := rfl
  rw [g] at t
  have := Nat.mul_le_mul_right (m + 2) hn
  show (textFrom 0 "[" (PyData.shownAll ds) ++ ("]" : Str)).length ≤ _
  rw [e2]
  omega
theorem Fine.tuple {ds : List PyData} {k m n : Nat} (h : ∀ d ∈ ds, Fine d k m) (hn : ds.length ≤ n) : Fine (.tuple ds) (k + 1) (3 + n * (m + 2)) := by
  obtain ⟨a, b, c, e, g, i⟩ := fineAll h
  refine ⟨by simp [PyData.canLay0, a], by simp only [PyData.depth]; omega, by simp [PyData.showable, c], by simp [PyData.hasDict, e], ?_⟩
  simp only [PyData.shown]
  have t := tuple_le m (PyData.shownAll ds) i
  rw [g] at t
  have := Nat.mul_le_mul_right (m + 2) hn
  omega
theorem Fine.shaped {d : PyData} {k m : Nat} (h : Fine d k m) (hk : k ≤ 60) : SeqAt.shaped d = true := by
  unfold SeqAt.shaped
  rw [h.lay, Bool.true_and]
  have := h.dep
  exact decide_eq_true (by omega)
/-- what repr asks -/
theorem repr_ask {K : PySem.W.Frag} {H : Hp} {v : V} {d : PyData} {k m : Nat} {Q : VK} (hd : Dp K H v d) (f : Fine d k m) (hk : k ≤ 60) (hm : m ≤ 1000000) (q : Q (.str d.shown) H) : rRepr K [v] H Q :=
  ⟨⟨v, d, rfl, hd, f.sh, f.nd, Nat.le_trans f.dep hk, Nat.le_trans f.len (Nat.le_trans hm (by decide)), q⟩⟩
mutual
/-- neither bools nor dicts -/
def plainD : PyData → Bool
  | .none | .int _ | .str _ => true
  | .list xs | .tuple xs => plainAll xs
  | .bool _ | .dict _ => false
def plainAll : List PyData → Bool
  | [] => true
  | x :: xs => plainD x && plainAll xs
end
mutual
theorem eqv_plain : ∀ (d e : PyData), plainD d = true → plainD e = true → (PyData.eqv d e = true ↔ d = e)
  | .none, e, _, he => by cases e <;> simp [plainD, PyData.eqv] at he ⊢
  | .int i, e, _, he => by cases e <;> simp [plainD, PyData.eqv] at he ⊢
  | .str x, e, _, he => by cases e <;> simp [plainD, PyData.eqv] at he ⊢
  | .list xs, e, hd, he => by
    cases e with
    | list ys =>
      have := eqvAll_plain xs ys (by simpa [plainD] using hd) (by simpa [plainD] using he)
      simp only [PyData.eqv, this, PyData.list.injEq]
    | _ => simp [plainD, PyData.eqv] at he ⊢
  | .tuple xs, e, hd, he => by
    cases e with
    | tuple ys =>
      have := eqvAll_plain xs ys (by simpa [plainD] using hd) (by simpa [plainD] using he)
      simp only [PyData.eqv, this, PyData.tuple.injEq]
    | _ => simp [plainD, PyData.eqv] at he ⊢
  | .bool _, _, hd, _ => by simp [plainD] at hd
  | .dict _, _, hd, _ => by simp [plainD] at hd
theorem eqvAll_plain : ∀ (xs ys : List PyData), plainAll xs = true → plainAll ys = true → (PyData.eqvAll xs ys = true ↔ xs = ys)
  | [], [], _, _ => by simp [PyData.eqvAll]
  | [], _ :: _, _, _ => by simp [PyData.eqvAll]
  | _ :: _, [], _, _ => by simp [PyData.eqvAll]
  | x :: xs, y :: ys, h1, h2 => by
    simp only [plainAll, Bool.and_eq_true] at h1 h2
    simp only [PyData.eqvAll, Bool.and_eq_true, eqv_plain x y h1.1 h2.1, eqvAll_plain xs ys h1.2 h2.2, List.cons.injEq]
end
theorem eqv_same {d : PyData} (hd : plainD d = true) : PyData.eqv d d = true := (eqv_plain d d hd hd).mpr rfl
theorem eqv_diff {d e : PyData} (hd : plainD d = true) (he : plainD e = true) (h : d ≠ e) : PyData.eqv d e = false := Bool.eq_false_iff.mpr fun z => h ((eqv_plain d e hd he).mp z)
/-! ### rows and names as data -/
def rD (r : List Nat) : PyData := .list (r.map iD)
def rsD (rs : List (List Nat)) : PyData := .list (rs.map rD)
def nD (n : Str × Nat) : PyData := .tuple [.str n.1, iD n.2]
theorem plain_ints (r : List Nat) : plainAll (r.map iD) = true := by
  induction r with
  | nil => simp [plainAll]
  | cons y r ih => simp [plainAll, plainD]; exact ih
theorem plain_rD (r : List Nat) : plainD (rD r) = true := by unfold rD; simp only [plainD]; exact plain_ints r
theorem plain_nDs (ns : NS) : plainAll (ns.map nD) = true := by
  induction ns with
  | nil => simp [plainAll]
  | cons y r ih => simp only [List.map_cons, plainAll, Bool.and_eq_true]; exact ⟨by simp [nD, plainD, plainAll], ih⟩
theorem rD_inj {r r' : List Nat} (h : rD r = rD r') : r = r' := by
  unfold rD at h
  have h2 := PyData.list.inj h
  refine List.map_inj_right (f := iD) (fun x y e => ?_) |>.mp h2
  have := PyData.int.inj e
  omega
theorem nD_inj {n n' : Str × Nat} (h : nD n = nD n') : n = n' := by
  unfold nD at h
  have h2 := PyData.tuple.inj h
  have h3 := (List.cons.inj h2).1
  have h4 := (List.cons.inj (List.cons.inj h2).2).1
  have a := PyData.str.inj h3
  have b := PyData.int.inj h4
  exact Prod.ext a (by omega)
theorem nDs_inj {ns ns' : NS} (h : ns.map nD = ns'.map nD) : ns = ns' := List.map_inj_right (f := nD) (fun _ _ e => nD_inj e) |>.mp h
theorem dp_ints {K : PySem.W.Frag} {H : Hp} : ∀ r : List Nat, DpAll K H (rV r) (r.map iD)
  | [] => .nil
  | y :: r => .cons (.int _) (dp_ints r)
theorem dp_row {K : PySem.W.Frag} {H : Hp} {l : Addr} {r : List Nat} (h : SqL K H l (rV r)) : Dp K H (.ref l) (rD r) := .lst h (dp_ints r)
theorem dp_rows {K : PySem.W.Frag} {H : Hp} : ∀ {qs : List Addr} {rs : List (List Nat)}, Rows H qs rs → DpAll K H (qs.map V.ref) (rs.map rD)
  | _, _, .nil => .nil
  | _, _, .cons h t => .cons (dp_row (SqL.of h)) (dp_rows t)
theorem dp_n {K : PySem.W.Frag} {H : Hp} {p : Addr} {n : Str × Nat} (h : H p = some (.tup (nV n))) : Dp K H (.ref p) (nD n) := .tup (SqT.of h) (.cons (.str _) (.cons (.int _) .nil))
theorem dp_ns {K : PySem.W.Frag} {H : Hp} : ∀ {ps : List Addr} {ns : NS}, Tups H ps ns → DpAll K H (ps.map V.ref) (ns.map nD)
  | _, _, .nil => .nil
  | _, _, .cons h t => .cons (dp_n h) (dp_ns t)
theorem fine_row {r : List Nat} (h : ∀ v ∈ r, v < 10) {n : Nat} (hl : r.length ≤ n) : Fine (rD r) 1 (2 + n * 3) :=
  (Fine.list (k := 0) (m := 1) (n := n) (fun d hd => by obtain ⟨v, hv, rfl⟩ := List.mem_map.mp hd; exact Fine.int (h v hv)) (by simpa using hl))
theorem fine_n {n : Str × Nat} (h : Low n.1.cps.toList) (hl : n.1.length ≤ 20) (hn : n.2 < 10) : Fine (nD n) 1 500 :=
  (Fine.tuple (k := 0) (m := 202) (n := 2) (fun d hd => by
    simp only [List.mem_cons, List.not_mem_nil, or_false] at hd
    rcases hd with rfl | rfl
    · exact Fine.str h hl
    · exact (Fine.int hn).mono (Nat.le_refl _) (by omega)) (by simp)).mono (Nat.le_refl _) (by omega)
theorem fine_ns {ns : NS} (h : ∀ n ∈ ns, Low n.1.cps.toList ∧ n.1.length ≤ 20 ∧ n.2 < 10) (hl : ns.length ≤ 10) : Fine (.list (ns.map nD)) 2 6000 :=
  (Fine.list (k := 1) (m := 500) (n := 10) (fun d hd => by
    obtain ⟨n, hn, rfl⟩ := List.mem_map.mp hd
    obtain ⟨a, b, c⟩ := h n hn
    exact fine_n a b c) (by simpa using hl)).mono (by omega) (by omega)
theorem fine_nst {ns : NS} (h : ∀ n ∈ ns, Low n.1.cps.toList ∧ n.1.length ≤ 20 ∧ n.2 < 10) (hl : ns.length ≤ 10) : Fine (.tuple (ns.map nD)) 2 6000 :=
  (Fine.tuple (k := 1) (m := 500) (n := 10) (fun d hd => by
    obtain ⟨n, hn, rfl⟩ := List.mem_map.mp hd
    obtain ⟨a, b, c⟩ := h n hn
    exact fine_n a b c) (by simpa using hl)).mono (by omega) (by omega)
theorem NsOk.fine {ns : NS} (h : NsOk ns) : ∀ n ∈ ns, Low n.1.cps.toList ∧ n.1.length ≤ 20 ∧ n.2 < 10 := fun n hn => by
  have w := h.wd n.1 (List.mem_map_of_mem hn)
  have s := h.size hn
  exact ⟨w.low, Nat.le_trans w.hi (by omega), by omega⟩
theorem fine_rows {rs : List (List Nat)} (h : ∀ r ∈ rs, (∀ v ∈ r, v < 10) ∧ r.length ≤ 3) (hl : rs.length ≤ 8) : Fine (rsD rs) 2 200 :=
  (Fine.list (k := 1) (m := 11) (n := 8) (fun d hd => by
    obtain ⟨r, hr, rfl⟩ := List.mem_map.mp hd
    exact fine_row (h r hr).1 (h r hr).2) (by simpa using hl)).mono (by omega) (by omega)
theorem menu_small : ∀ sz ∈ menus, ∀ r ∈ rowsOf sz, (∀ v ∈ r, v < 10) ∧ r.length = sz.length := by decide +kernel
end K14
namespace K14
open PySem PySem.Spec PyProof.Rows L2 C8

theorem ixT {X : Cx} {K : PySem.W.Frag} (h : X.K = K) : IxR X (rIxT K) := h ▸ ix_tup
theorem ixL {X : Cx} {K : PySem.W.Frag} (h : X.K = K) : IxR X (rIxL K) := h ▸ ix_list
theorem pgT {X : Cx} {K : PySem.W.Frag} {es : List Expr} {k : Nat} {pos : Pos} {t : TGs} {n : Nat} (h : X.K = K) (hc : X.calm = true) (g : PGs X es t) (hn : (assignEach es X.env).length = n := by rfl)
    (hst : (assignEach es X.env).findIdx? (·.1) = none := by rfl) : PG X (.Tuple es k pos) (gTup K n t) := h ▸ pg_tup hc g hn hst
theorem u65 {k : Nat} {A : Around} (r : Room k A) : A.units + 65 < cLine := by have := r.un; omega
theorem refs_of : ∀ {ys : List V} {F : Nat → Addr → Prop}, (∀ (j : Nat) y, ys[j]? = some y → ∃ t, y = .ref t ∧ F j t) → ∃ ts : List Addr, ys = ts.map V.ref ∧ ∀ (j : Nat) t, ts[j]? = some t → F j t
  | [], F, _ => ⟨[], rfl, fun j t h => by simp at h⟩
  | y :: ys, F, h => by
    obtain ⟨t, e, ft⟩ := h 0 y rfl
    obtain ⟨ts, e2, g⟩ := refs_of (ys := ys) (F := fun j => F (j + 1)) fun j z hj => h (j + 1) z hj
    subst e e2
    exact ⟨t :: ts, rfl, fun j u hj => by
      cases j with
      | zero => cases hj; exact ft
      | succ j => exact g j u hj⟩
theorem Rows.byIx {H : Hp} : ∀ {qs : List Addr} {rs : List (List Nat)}, qs.length = rs.length → (∀ (i : Nat) q r, qs[i]? = some q → rs[i]? = some r → H q = some (.lst (rV r))) → Rows H qs rs
  | [], [], _, _ => .nil
  | [], _ :: _, h, _ => nomatch h
  | _ :: _, [], h, _ => nomatch h
  | p :: ps, n :: ns, h, g => .cons (g 0 p n rfl rfl) (Rows.byIx (Nat.succ.inj h) fun i p' n' a b => g (i + 1) p' n' a b)
theorem rowsOf_succ (sz : List Nat) (i : Nat) (s : Nat) (h : sz[i]? = some s) : rowsOf (sz.take (i + 1)) = rowsStep (rowsOf (sz.take i)) s := by
  unfold rowsOf
  rw [List.take_succ, h, List.foldl_append]
  rfl
theorem rowsStep_succ (rs : List (List Nat)) (j : Nat) (s : Nat) (r : List Nat) (h : rs[j]? = some r) : rowsStep (rs.take (j + 1)) s = rowsStep (rs.take j) s ++ (List.range s).map fun v => r ++ [v] := by
  unfold rowsStep
  rw [List.take_succ, h, List.flatMap_append]
  simp
theorem rows_few : ∀ sz ∈ menus, ∀ i, (rowsOf (sz.take i)).length ≤ 8 := by
  intro sz hs i
  have key : ∀ sz ∈ menus, ∀ i, i < 4 → (rowsOf (sz.take i)).length ≤ 8 := by decide +kernel
  by_cases hi : i < 4
  · exact key sz hs i hi
  · have f := menu_facts sz hs
    rw [List.take_of_length_le (by omega)]
    omega
theorem rows_short : ∀ sz ∈ menus, ∀ i, ∀ r ∈ rowsOf (sz.take i), r.length ≤ 3 := by
  intro sz hs i
  have key : ∀ sz ∈ menus, ∀ i, i < 4 → ∀ r ∈ rowsOf (sz.take i), r.length ≤ 3 := by decide +kernel
  by_cases hi : i < 4
  · exact key sz hs i hi
  · have f := menu_facts sz hs
    rw [List.take_of_length_le (by omega)]
    have := key sz hs 3 (by omega)
    rw [List.take_of_length_le (by omega)] at this
    exact this
theorem rowsStep_few (rs : List (List Nat)) (j s : Nat) (h : rs.length ≤ 8) (hs : s ≤ 6) : (rowsStep (rs.take j) s).length ≤ 48 := by
  unfold rowsStep
  rw [List.length_flatMap]
  have : ((rs.take j).map fun r => ((List.range s).map fun v => r ++ [v]).length).sum ≤ (rs.take j).length * s := by
    generalize rs.take j = l
    induction l with
    | nil => simp
    | cons a l ih =>
      simp only [List.map_cons, List.sum_cons, List.length_map, List.length_range, List.length_cons] at ih ⊢
      rw [Nat.succ_mul]
      omega
  have h2 : (rs.take j).length ≤ 8 := Nat.le_trans (List.length_take_le' _ _) h
  have h3 : (rs.take j).length * s ≤ 8 * 6 := Nat.mul_le_mul h2 hs
  omega
theorem sz_at {ns : NS} {i : Nat} {n : Str × Nat} (h : ns[i]? = some n) : (szs ns)[i]? = some n.2 := by unfold szs; rw [List.getElem?_map, h]; rfl
section
variable {P : Program} {w : World} {K : PySem.W.Frag} {mg : Str → Option Value} {base : Heap}

end
end K14
namespace K14
open PySem PySem.Spec PyProof.Rows L2 C8

/-- a space of these names at x -/
def SpaceAt (K : PySem.W.Frag) (H : Hp) (x : Addr) (ns : NS) : Prop := ∃ (dx t : Addr) (o : Obj) (ps : List Addr), H x = some (.ins (He.ga K "Space") dx [("names", .ref t), ("never", .int ((prodN (szs ns) : Nat) : Int))]) ∧ H t = some (.frz o (.tup (ps.map V.ref))) ∧ o.dict = none ∧ Tups H ps ns
theorem SpaceAt.mono {K : PySem.W.Frag} {H H' : Hp} {x : Addr} {ns : NS} (e : Ex H H') (h : SpaceAt K H x ns) : SpaceAt K H' x ns := by
  obtain ⟨dx, t, o, ps, h1, h2, h3, h4⟩ := h
  exact ⟨dx, t, o, ps, e _ _ h1, e _ _ h2, h3, h4.mono e⟩
theorem word_letters {z : Str} (h : WordOk z) : ∀ (i c : Nat), z.cps[i]? = some c → c ∈ alpha.cps.toList := by
  intro i c hc
  have hm : c ∈ z.cps.toList := by
    rw [← Array.getElem?_toList] at hc
    exact List.mem_of_getElem? hc
  have := h.low c hm
  rw [alpha_list]
  exact List.mem_map.mpr ⟨c - 97, List.mem_range.mpr (by omega), by omega⟩
theorem range_all_true {n : Nat} {f : Nat → Bool} (h : ∀ i, i < n → f i = true) : ((List.range n).map f).all id = true := by
  rw [List.all_eq_true]
  intro b hb
  obtain ⟨i, hi, rfl⟩ := List.mem_map.mp hb
  exact h i (List.mem_range.mp hi)
theorem prodN_snoc : ∀ (l : List Nat) (s : Nat), prodN (l ++ [s]) = prodN l * s
  | [], s => by simp [prodN]
  | a :: l, s => by
    show a * prodN (l ++ [s]) = a * prodN l * s
    rw [prodN_snoc l s, Nat.mul_assoc]
theorem prodN_take (sz : List Nat) (i s : Nat) (h : sz[i]? = some s) : prodN (sz.take (i + 1)) = prodN (sz.take i) * s := by
  rw [List.take_succ, h]
  exact prodN_snoc _ s
theorem prod_few : ∀ sz ∈ menus, ∀ i, prodN (sz.take i) ≤ 8 := by
  intro sz hs i
  have key : ∀ sz ∈ menus, ∀ i, i < 4 → prodN (sz.take i) ≤ 8 := by decide +kernel
  by_cases hi : i < 4
  · exact key sz hs i hi
  · have f := menu_facts sz hs
    rw [List.take_of_length_le (by omega)]
    omega
theorem wds_at {ns : NS} {i : Nat} {n : Str × Nat} (h : ns[i]? = some n) : (wds ns)[i]? = some n.1 := by unfold wds; rw [List.getElem?_map, h]; rfl
section
variable {P : Program} {w : World} {K : PySem.W.Frag} {mg : Str → Option Value} {base : Heap}
abbrev N_is_word : List Str := ["value", "letter"]
theorem sc_is_word : FnScope N_is_word ["value"] (defScope (top 22)) := ⟨rfl, rfl, rfl, by decide +kernel, rfl, by decide +kernel, by decide +kernel⟩
def spWord : Sp := fun vs H Q _ => ∃ z : Str, vs = [.str z] ∧ WordOk z ∧ ∀ H', Ex H H' → Q (.bl true) H'
theorem ok_is_word (T : Txt K mg)  : Cal P w K mg base 1 "is_word" (spWord) [] := by
  obtain ⟨fd, F⟩ := T.d_is_word
  refine ⟨_, fd, ["value"], [], ?_, T.g_is_word, F.kp, F.bindsN fun _ _ _ _ _ _ us hl => match us, hl with | [_], _ => rfl, .nil⟩
  refine F.ok sc_is_word (fun vs H Q E h => by obtain ⟨_, rfl, _⟩ := h; rfl) (fun cdv A outer s H vs Q E hr h => ?_)
  have hu := hu_of hr
  refine ⟨_, PSs.nox (pss_cons (ps_if (PW.pt (pw_or (pt_not (pt_val (pe_callB call_isi (by rfl) T.f_isinstance (by decide +kernel) (pa_cons (pv 0) (pa_cons (pe_bltn (v := .ty "str") (u := .type "str") (by rfl) T.f_str (by decide +kernel) rfl) pa_nil))))) (pw_or1 (pt_not (pt_chain op_le op_le pe_int (pe_callB call_len_str (by rfl) T.f_len (by decide +kernel) (pa_cons (pv 0) pa_nil)) (pe_gc rfl T.c_LONGEST_WORD)))))) (pss_one (ps_ret pe_bl)) pss_nil)
      (pss_one (ps_ret (pe_and (pe_callB (cr_all rfl) (by rfl) T.f_all (by decide +kernel) (pa_cons (pe_lc (own := [("letter", 1)]) rfl sc_is_word.nd (pi_str (pv 0)) (blkOk_by (own := [("letter", 1)]) (N := N_is_word) (sc := defScope (top 22)) (by decide +kernel)) (fun _ _ _ _ _ => (pg_name (i := 1) sc_is_word.nd rfl (Or.inl rfl))) (fun _ _ _ _ _ => pts_nil) (fun _ _ _ _ _ => (pe_cmpR op_in_sign (pv 1) (pe_gc rfl T.c_LETTERS) rfl))) pa_nil)) (pe_one (pe_cmpR op_notIn_seq (pv 0) (pe_gc rfl T.c_LANGUAGE_WORDS) rfl)))))), ?_⟩
  obtain ⟨z, rfl, hw, hQ⟩ := h
  refine ⟨_, rfl, _, _, _, _, _, rfl, ClsV.ty _, TyX.base (TyOf.str _), kit_ty (r := true) (by decide +kernel), _, rfl, ?_⟩
  have lz := hw.lo
  have hz := hw.hi
  refine ⟨_, rfl, _, rfl, Nat.le_trans (show z.length ≤ 100 by omega) (by decide), _, _, rfl, rfl, _, rfl, ?_⟩
  rw [if_pos (decide_eq_true (by omega))]
  refine ⟨_, _, rfl, rfl, _, rfl, ?_⟩
  rw [decide_eq_true (by omega)]
  refine ⟨_, rfl, _, rfl, fun D hD => ?_⟩
  refine lc_fn walk_str (fun _ => .bl true) (by show z.length ≤ 1000; omega) hD (fun _ _ => trivial) ?_ ?_
  · rintro i x H1' H1 Z B hi e hl ⟨rfl, c, hc, rfl⟩ hZ
    refine ⟨rfl, ?_⟩
    refine ⟨_, rfl, c, alpha, rfl, rfl, ?_⟩
    rw [decide_eq_true (word_letters hw i c hc)]
    exact hZ _ (Evl.Ex.refl _)
  · intro H1 e hd
    refine ⟨D, (List.range z.cps.size).map fun _ => true, rfl, by rw [List.map_map]; exact SqL.of hd, _, rfl, ?_⟩
    rw [range_all_true fun _ _ => rfl]
    refine ⟨_, rfl, He.ga K "LANGUAGE_WORDS", barred.map V.str, rfl, .inr (T.t_LW _), rfl, by decide +kernel, ?_⟩
    have hb := hw.bar
    have e2 : inV (.str z) (barred.map V.str) = isBar z := by
      simp only [inV, isBar, barred, List.map_cons, List.map_nil, List.any_cons, List.any_nil, eqV, List.contains_cons, List.contains_nil]
      simp only [Bool.beq_comm]
    rw [e2, hb]
    exact hQ _ e

abbrev N_is_sized_name : List Str := ["value"]
theorem sc_is_sized_name : FnScope N_is_sized_name ["value"] (defScope (top 23)) := ⟨rfl, rfl, rfl, by decide +kernel, rfl, by decide +kernel, by decide +kernel⟩
def spSized : Sp := fun vs H Q _ => ∃ (p : Addr) (n : Str × Nat), vs = [.ref p] ∧ H p = some (.tup (nV n)) ∧ WordOk n.1 ∧ 2 ≤ n.2 ∧ n.2 ≤ 6 ∧ ∀ H', Ex H H' → Q (.bl true) H'
theorem ok_is_sized_name (T : Txt K mg) (C_is_word : Cal P w K mg base 1 "is_word" spWord []) (C_is_whole_from : Cal P w K mg base 2 "is_whole_from" spWholeFrom []) : Cal P w K mg base 3 "is_sized_name" (spSized) [] := by
  obtain ⟨fd, F⟩ := T.d_is_sized_name
  refine ⟨_, fd, ["value"], [], ?_, T.g_is_sized_name, F.kp, F.bindsN fun _ _ _ _ _ _ us hl => match us, hl with | [_], _ => rfl, .nil⟩
  refine F.ok sc_is_sized_name (fun vs H Q E h => by obtain ⟨_, _, rfl, _⟩ := h; rfl) (fun cdv A outer s H vs Q E hr h => ?_)
  have hu := hu_of hr
  refine ⟨_, PSs.nox (pss_cons (ps_if (PW.pt (pw_or (pt_not (pt_val (pe_callB call_isi (by rfl) T.f_isinstance (by decide +kernel) (pa_cons (pv 0) (pa_cons (pe_bltn (v := .ty "tuple") (u := .type "tuple") (by rfl) T.f_tuple (by decide +kernel) rfl) pa_nil))))) (pw_or1 (pt_cmpR op_ne (pe_callB call_len_seq (by rfl) T.f_len (by decide +kernel) (pa_cons (pv 0) pa_nil)) pe_int (nomark _))))) (pss_one (ps_ret pe_bl)) pss_nil)
      (pss_one (ps_ret (pe_and (pe_c C_is_word hr (by omega) rfl (pa_cons (pe_ix ix_tup (pv 0) pe_int (fun _ _ => rfl)) pa_nil)) (pe_one (pe_c C_is_whole_from hr (by omega) rfl (pa_cons (pe_ix ix_tup (pv 0) pe_int (fun _ _ => rfl)) (pa_cons (pe_gc rfl T.c_LEAST_SIZE) (pa_cons (pe_gc rfl T.c_GREATEST_SIZE) pa_nil))))))))), ?_⟩
  obtain ⟨p, n, rfl, hp, hw, h2, h6, hQ⟩ := h
  refine ⟨_, rfl, _, _, _, _, _, rfl, ClsV.ty _, TyX.base (TyOf.tup hp), kit_ty (r := true) (by decide +kernel), _, rfl, ?_⟩
  refine ⟨_, rfl, p, nV n, rfl, .inr (SqT.of hp), rfl, _, rfl, ?_⟩
  refine ⟨_, rfl, p, nV n, 0, .str n.1, rfl, rfl, SqT.of hp, rfl, n.1, rfl, hw, fun H1 e1 => ⟨_, rfl, ?_⟩⟩
  refine ⟨_, rfl, p, nV n, 1, .int (n.2 : Int), rfl, rfl, SqT.of (e1 p _ hp), rfl, (n.2 : Int), 2, 6, rfl, ?_⟩
  rw [decide_eq_true (by omega), decide_eq_true (by omega)]
  exact hQ _ e1

abbrev N_stores_of_sizes : List Str := ["sizes", "product", "size"]
theorem sc_stores_of_sizes : FnScope N_stores_of_sizes ["sizes"] (defScope (top 24)) := ⟨rfl, rfl, rfl, by decide +kernel, rfl, by decide +kernel, by decide +kernel⟩
def spSizes (K : PySem.W.Frag) : Sp := fun vs H Q _ => ∃ (a : Addr) (sz : List Nat), vs = [.ref a] ∧ SqL K H a (rV sz) ∧ sz ∈ menus ∧ Q (.int ((prodN sz : Nat) : Int)) H
theorem ok_stores_of_sizes (T : Txt K mg)  : Cal P w K mg base 1 "stores_of_sizes" (spSizes K) [] := by
  obtain ⟨fd, F⟩ := T.d_stores_of_sizes
  refine ⟨_, fd, ["sizes"], [], ?_, T.g_stores_of_sizes, F.kp, F.bindsN fun _ _ _ _ _ _ us hl => match us, hl with | [_], _ => rfl, .nil⟩
  refine F.ok sc_stores_of_sizes (fun vs H Q E h => by obtain ⟨_, _, rfl, _⟩ := h; rfl) (fun cdv A outer s H vs Q E hr h => ?_)
  have hu := hu_of hr
  refine ⟨_, PSs.nox (pss_cons (ps_set (i := 1) sc_stores_of_sizes.nd rfl (Or.inl rfl) pe_int)
      (pss_cons (ps_for PassesOwn.never rfl (pi_list (pv 0)) (pg_name (i := 2) sc_stores_of_sizes.nd rfl (Or.inl rfl)) (pss_one (ps_set (i := 1) sc_stores_of_sizes.nd rfl (Or.inl rfl) (pe_op op_mul (pv 1) (pv 2)))))
      (pss_one (ps_ret (pv 1))))), ?_⟩
  obtain ⟨a, sz, rfl, hS, hm, hQ⟩ := h
  refine ⟨_, rfl, a, rfl, ⟨_, hS⟩, ?_⟩
  refine for_it (walk_list (xs := rV sz)) (fun i σ H' => H' = H ∧ ∃ x, σ = [some (.ref a), some (.int ((prodN (sz.take i) : Nat) : Int)), x]) ⟨rfl, none, rfl⟩ (fun i σ H' _ p => by rw [p.1]; exact hS) ?_ ?_
  · rintro i x σ H1 H1' hi ⟨rfl, x2, rfl⟩ ⟨rfl, hx⟩
    rw [List.getElem?_map] at hx
    cases hs : sz[i]? with
    | none => rw [hs] at hx; cases hx
    | some s =>
      rw [hs] at hx
      cases hx
      have f1 := prod_few _ hm i
      have f2 := (menu_facts _ hm).2.2.2.2.2 s (List.mem_of_getElem? hs)
      refine ⟨_, rfl, _, rfl, _, _, rfl, rfl, .inl ⟨by omega, by omega⟩, rfl, some (.int (s : Int)), ?_⟩
      rw [prodN_take _ _ _ hs, Int.natCast_mul]
      rfl
  · rintro σ H1 ⟨rfl, x2, rfl⟩
    refine ⟨_, rfl, ?_⟩
    rw [List.take_of_length_le (by simp)]
    exact hQ

end
end K14
namespace K14
open PySem PySem.Spec PyProof.Rows L2 C8

/-- an argument that holds names: a list, or a tuple whose object is known -/
def NArg (H : Hp) (a : Addr) (ps : List Addr) : Prop := H a = some (.lst (ps.map V.ref)) ∨ ∃ o, H a = some (.frz o (.tup (ps.map V.ref))) ∧ o.dict = none
theorem words_list (ns : NS) : (List.range ns.length).map (fun i => V.str ((ns.getD i (alpha, 0)).1)) = (wds ns).map V.str := by
  refine List.ext_getElem? fun j => ?_
  by_cases hj : j < ns.length
  · rw [List.getElem?_map, List.getElem?_range hj, List.getElem?_map]
    unfold wds
    rw [List.getElem?_map, List.getElem?_eq_getElem hj]
    simp [List.getD_eq_getElem?_getD, hj]
  · rw [List.getElem?_eq_none (by simp; omega), List.getElem?_eq_none (by simp [wds]; omega)]
theorem sizes_list (ns : NS) : (List.range ns.length).map (fun i => V.int (((ns.getD i (alpha, 0)).2 : Nat) : Int)) = rV (szs ns) := by
  refine List.ext_getElem? fun j => ?_
  by_cases hj : j < ns.length
  · rw [List.getElem?_map, List.getElem?_range hj, List.getElem?_map]
    unfold szs
    rw [List.getElem?_map, List.getElem?_eq_getElem hj]
    simp [List.getD_eq_getElem?_getD, hj]
  · rw [List.getElem?_eq_none (by simp; omega), List.getElem?_eq_none (by simp [szs]; omega)]
theorem getD_of {ns : NS} {i : Nat} {n : Str × Nat} (h : ns[i]? = some n) : ns.getD i (alpha, 0) = n := by rw [List.getD_eq_getElem?_getD, h]; rfl
section
variable {P : Program} {w : World} {K : PySem.W.Frag} {mg : Str → Option Value} {base : Heap}
abbrev N_are_space_names : List Str := ["value", "words", "pair", "name", "_", "size"]
theorem sc_are_space_names : FnScope N_are_space_names ["value"] (defScope (top 25)) := ⟨rfl, rfl, rfl, by decide +kernel, rfl, by decide +kernel, by decide +kernel⟩
def spNamesOk : Sp := fun vs H Q _ => ∃ (a : Addr) (ps : List Addr) (ns : NS), vs = [.ref a] ∧ NArg H a ps ∧ Tups H ps ns ∧ NsOk ns ∧ ∀ H', Ex H H' → Q (.bl true) H'
theorem ok_are_space_names (T : Txt K mg) (C_is_sized_name : Cal P w K mg base 3 "is_sized_name" spSized []) (C_stores_of_sizes : Cal P w K mg base 1 "stores_of_sizes" (spSizes K) []) : Cal P w K mg base 4 "are_space_names" (spNamesOk) [] := by
  obtain ⟨fd, F⟩ := T.d_are_space_names
  refine ⟨_, fd, ["value"], [], ?_, T.g_are_space_names, F.kp, F.bindsN fun _ _ _ _ _ _ us hl => match us, hl with | [_], _ => rfl, .nil⟩
  refine F.ok sc_are_space_names (fun vs H Q E h => by obtain ⟨_, _, _, rfl, _⟩ := h; rfl) (fun cdv A outer s H vs Q E hr h => ?_)
  have hu := hu_of hr
  obtain ⟨a, ps, ns, rfl, hA, hT, hok, hQ⟩ := h
  have hl := hT.length
  have hn3 := hok.len
  rcases hA with hS | ⟨o, hS, ho⟩
  · have hSQ : SqL K H a (ps.map V.ref) := SqL.of hS
    refine ⟨_, PSs.nox (pss_cons (ps_if (PW.pt (pw_or (pt_not (pt_val (pe_callB call_isiT (by rfl) T.f_isinstance (by decide +kernel) (pa_cons (pv 0) (pa_cons (pe_tup (pa_cons (pe_bltn (v := .ty "list") (u := .type "list") (by rfl) T.f_list (by decide +kernel) rfl) (pa_cons (pe_bltn (v := .ty "tuple") (u := .type "tuple") (by rfl) T.f_tuple (by decide +kernel) rfl) pa_nil))) pa_nil))))) (pw_or1 (pt_not (pt_chain op_le op_le pe_int (pe_callB call_len_seq (by rfl) T.f_len (by decide +kernel) (pa_cons (pv 0) pa_nil)) (pe_gc rfl T.c_MOST_NAMES)))))) (pss_one (ps_ret pe_bl)) pss_nil)
      (pss_cons (ps_if (pt_not (pt_val (pe_callB (cr_all rfl) (by rfl) T.f_all (by decide +kernel) (pa_cons (pe_lc (own := [("pair", 2)]) rfl sc_are_space_names.nd (pi_list (pv 0)) (blkOk_by (own := [("pair", 2)]) (N := N_are_space_names) (sc := defScope (top 25)) (by decide +kernel)) (fun _ _ _ _ _ => (pg_name (i := 2) sc_are_space_names.nd rfl (Or.inl rfl))) (fun _ _ _ _ _ => pts_nil) (fun _ _ _ _ _ => (pe_c C_is_sized_name hr (by decide) rfl (pa_cons (pv 2) pa_nil)))) pa_nil)))) (pss_one (ps_ret pe_bl)) pss_nil)
      (pss_cons (ps_setLc (i := 1) (own := [("name", 3), ("_", 4)]) rfl sc_are_space_names.nd rfl rfl (sw_true rfl rfl rfl (by decide +kernel)) (pi_list (pv 0)) (blkOk_by (own := [("name", 3), ("_", 4)]) (N := N_are_space_names) (sc := defScope (top 25)) (by decide +kernel)) (fun _ _ _ _ _ => (pgT (K := K) (n := 2) rfl (by rfl) (pgs_cons (pg_name (i := 3) sc_are_space_names.nd rfl (Or.inl rfl)) (pgs_cons (pg_name (i := 4) sc_are_space_names.nd rfl (Or.inl rfl)) pgs_nil)))) (fun _ _ _ _ _ => pts_nil) (fun _ _ _ _ _ => (pv 3)))
      (pss_one (ps_ret (pe_and (pe_cmpR op_eq (pe_lenSetS rfl (by rfl) T.f_len (by rfl) T.f_set (pv 1)) (pe_callB call_len_seq (by rfl) T.f_len (by decide +kernel) (pa_cons (pv 1) pa_nil)) (nomark _)) (pe_one (pe_cmpR op_le (pe_c C_stores_of_sizes hr (by decide) rfl (pa_cons (pe_lc (own := [("_", 4), ("size", 5)]) rfl sc_are_space_names.nd (pi_list (pv 0)) (blkOk_by (own := [("_", 4), ("size", 5)]) (N := N_are_space_names) (sc := defScope (top 25)) (by decide +kernel)) (fun _ _ _ _ _ => (pgT (K := K) (n := 2) rfl (by rfl) (pgs_cons (pg_name (i := 4) sc_are_space_names.nd rfl (Or.inl rfl)) (pgs_cons (pg_name (i := 5) sc_are_space_names.nd rfl (Or.inl rfl)) pgs_nil)))) (fun _ _ _ _ _ => pts_nil) (fun _ _ _ _ _ => (pv 5))) pa_nil)) (pe_gc rfl T.c_MOST_STORES) (nomark _))))))))), ?_⟩
    refine ⟨_, rfl, (by show 2 ≤ sizeLine; decide), fun tp htp => ⟨.ref a, tp, [.ty "list", .ty "tuple"], .type "list", [.type "list", .type "tuple"], true, rfl, upd_same, .cons (ClsV.ty _) (.cons (ClsV.ty _) .nil), ?_, (kitAny_cons (kit_ty (r := true) (by decide +kernel)) (fun z => nomatch z) (fun _ => rfl)), _, rfl, ?_⟩⟩
    · have hS0 := hS
      have hS := (Evl.Ex.new (o := .tup [.ty "list", .ty "tuple"]) htp) a _ hS0
      exact (TyX.base (TyOf.lst hS))
    obtain ⟨H1, e1, hH1⟩ : ∃ H1, Ex H H1 ∧ H1 = upd H tp (.tup [.ty "list", .ty "tuple"]) := ⟨_, Evl.Ex.new htp, rfl⟩
    rw [← hH1]
    refine ⟨_, rfl, a, ps.map V.ref, rfl, (.inl (Evl.ex_l e1 hSQ)), _, _, rfl, rfl, _, rfl, ?_⟩
    rw [if_pos (decide_eq_true (by rw [List.length_map]; omega))]
    refine ⟨_, _, rfl, rfl, _, rfl, ?_⟩
    rw [decide_eq_true (by rw [List.length_map]; omega)]
    -- all
    refine ⟨_, rfl, a, rfl, ⟨_, Evl.ex_l e1 hSQ⟩, fun D hD => ?_⟩
    refine lc_fn (walk_list (xs := ps.map V.ref)) (fun _ => .bl true) (by rw [List.length_map]; omega) hD (fun H' e => Evl.ex_l (e1.trans e) hSQ) ?_ ?_
    · rintro i x H2' H2 Z B hi e hl ⟨rfl, hx⟩ hZ
      obtain ⟨p, rfl, hp2⟩ := refs_get hx
      obtain ⟨n, hn, hpn⟩ := hT.get hp2
      have hm := List.mem_of_getElem? hn
      refine ⟨rfl, ?_⟩
      refine ⟨_, rfl, p, n, rfl, (e1.trans e) p _ hpn, hok.wd _ (List.mem_map_of_mem hm), (hok.size hm).1, (hok.size hm).2, fun H3 e3 => hZ H3 e3⟩
    intro H2 e2 hd
    refine ⟨D, (List.range (ps.map V.ref).length).map fun _ => true, rfl, by rw [List.map_map]; exact SqL.of hd, _, rfl, ?_⟩
    rw [range_all_true fun _ _ => rfl]
    have e12 := e1.trans e2
    -- words
    refine ⟨_, rfl, a, rfl, ⟨_, Evl.ex_l e12 hSQ⟩, fun D2 hD2 => ?_⟩
    refine lc_fn (walk_list (xs := ps.map V.ref)) (fun i => V.str ((ns.getD i (alpha, 0)).1)) (by rw [List.length_map]; omega) hD2 (fun H' e => Evl.ex_l (e12.trans e) hSQ) ?_ ?_
    · rintro i x H3' H3 Z B hi e hl ⟨rfl, hx⟩ hZ
      obtain ⟨p, rfl, hp2⟩ := refs_get hx
      obtain ⟨n, hn, hpn⟩ := hT.get hp2
      refine ⟨p, nV n, rfl, SqT.of ((e12.trans e) p _ hpn), rfl, _, _, rfl, _, _, rfl, rfl, ?_⟩
      refine ⟨rfl, ?_⟩
      refine ⟨_, rfl, ?_⟩
      rw [getD_of hn] at hZ
      exact hZ _ (Evl.Ex.refl _)
    intro H3 e3 hd3
    rw [List.length_map, hl, words_list] at hd3
    have e13 := e12.trans e3
    have lw : (wds ns).length = ns.length := by simp [wds]
    refine ⟨_, rfl, D2, wds ns, rfl, SqL.of hd3, by omega, hok.nd, ?_⟩
    refine ⟨_, rfl, D2, (wds ns).map V.str, rfl, .inl (SqL.of hd3), rfl, _, rfl, ?_⟩
    rw [decide_eq_true (by rw [List.length_map])]
    -- sizes
    refine ⟨_, rfl, a, rfl, ⟨_, Evl.ex_l e13 hSQ⟩, fun D3 hD3 => ?_⟩
    refine lc_fn (walk_list (xs := ps.map V.ref)) (fun i => V.int (((ns.getD i (alpha, 0)).2 : Nat) : Int)) (by rw [List.length_map]; omega) hD3 (fun H' e => Evl.ex_l (e13.trans e) hSQ) ?_ ?_
    · rintro i x H4' H4 Z B hi e hl ⟨rfl, hx⟩ hZ
      obtain ⟨p, rfl, hp2⟩ := refs_get hx
      obtain ⟨n, hn, hpn⟩ := hT.get hp2
      refine ⟨p, nV n, rfl, SqT.of ((e13.trans e) p _ hpn), rfl, _, _, rfl, _, _, rfl, rfl, ?_⟩
      refine ⟨rfl, ?_⟩
      refine ⟨_, rfl, ?_⟩
      rw [getD_of hn] at hZ
      exact hZ _ (Evl.Ex.refl _)
    intro H4 e4 hd4
    rw [List.length_map, hl, sizes_list] at hd4
    refine ⟨D3, szs ns, rfl, SqL.of hd4, hok.sz, _, _, rfl, rfl, ?_⟩
    have f8 := (menu_facts _ hok.sz).2.1
    show Q (V.bl (decide (((prodN (szs ns) : Nat) : Int) ≤ 8))) H4
    rw [decide_eq_true (by omega)]
    exact hQ _ (e13.trans e4)
  · have hSQ : SqT K H a (ps.map V.ref) := Or.inl (Or.inr ⟨_, hS⟩)
    refine ⟨_, PSs.nox (pss_cons (ps_if (PW.pt (pw_or (pt_not (pt_val (pe_callB call_isiT (by rfl) T.f_isinstance (by decide +kernel) (pa_cons (pv 0) (pa_cons (pe_tup (pa_cons (pe_bltn (v := .ty "list") (u := .type "list") (by rfl) T.f_list (by decide +kernel) rfl) (pa_cons (pe_bltn (v := .ty "tuple") (u := .type "tuple") (by rfl) T.f_tuple (by decide +kernel) rfl) pa_nil))) pa_nil))))) (pw_or1 (pt_not (pt_chain op_le op_le pe_int (pe_callB call_len_seq (by rfl) T.f_len (by decide +kernel) (pa_cons (pv 0) pa_nil)) (pe_gc rfl T.c_MOST_NAMES)))))) (pss_one (ps_ret pe_bl)) pss_nil)
      (pss_cons (ps_if (pt_not (pt_val (pe_callB (cr_all rfl) (by rfl) T.f_all (by decide +kernel) (pa_cons (pe_lc (own := [("pair", 2)]) rfl sc_are_space_names.nd (pi_tup (pv 0)) (blkOk_by (own := [("pair", 2)]) (N := N_are_space_names) (sc := defScope (top 25)) (by decide +kernel)) (fun _ _ _ _ _ => (pg_name (i := 2) sc_are_space_names.nd rfl (Or.inl rfl))) (fun _ _ _ _ _ => pts_nil) (fun _ _ _ _ _ => (pe_c C_is_sized_name hr (by decide) rfl (pa_cons (pv 2) pa_nil)))) pa_nil)))) (pss_one (ps_ret pe_bl)) pss_nil)
      (pss_cons (ps_setLc (i := 1) (own := [("name", 3), ("_", 4)]) rfl sc_are_space_names.nd rfl rfl (sw_true rfl rfl rfl (by decide +kernel)) (pi_tup (pv 0)) (blkOk_by (own := [("name", 3), ("_", 4)]) (N := N_are_space_names) (sc := defScope (top 25)) (by decide +kernel)) (fun _ _ _ _ _ => (pgT (K := K) (n := 2) rfl (by rfl) (pgs_cons (pg_name (i := 3) sc_are_space_names.nd rfl (Or.inl rfl)) (pgs_cons (pg_name (i := 4) sc_are_space_names.nd rfl (Or.inl rfl)) pgs_nil)))) (fun _ _ _ _ _ => pts_nil) (fun _ _ _ _ _ => (pv 3)))
      (pss_one (ps_ret (pe_and (pe_cmpR op_eq (pe_lenSetS rfl (by rfl) T.f_len (by rfl) T.f_set (pv 1)) (pe_callB call_len_seq (by rfl) T.f_len (by decide +kernel) (pa_cons (pv 1) pa_nil)) (nomark _)) (pe_one (pe_cmpR op_le (pe_c C_stores_of_sizes hr (by decide) rfl (pa_cons (pe_lc (own := [("_", 4), ("size", 5)]) rfl sc_are_space_names.nd (pi_tup (pv 0)) (blkOk_by (own := [("_", 4), ("size", 5)]) (N := N_are_space_names) (sc := defScope (top 25)) (by decide +kernel)) (fun _ _ _ _ _ => (pgT (K := K) (n := 2) rfl (by rfl) (pgs_cons (pg_name (i := 4) sc_are_space_names.nd rfl (Or.inl rfl)) (pgs_cons (pg_name (i := 5) sc_are_space_names.nd rfl (Or.inl rfl)) pgs_nil)))) (fun _ _ _ _ _ => pts_nil) (fun _ _ _ _ _ => (pv 5))) pa_nil)) (pe_gc rfl T.c_MOST_STORES) (nomark _))))))))), ?_⟩
    refine ⟨_, rfl, (by show 2 ≤ sizeLine; decide), fun tp htp => ⟨.ref a, tp, [.ty "list", .ty "tuple"], .type "tuple", [.type "list", .type "tuple"], true, rfl, upd_same, .cons (ClsV.ty _) (.cons (ClsV.ty _) .nil), ?_, (kitAny_cons (kit_ty (r := false) (by decide +kernel)) (fun _ => kitAny_cons (kit_ty (r := true) (by decide +kernel)) (fun z => nomatch z) (fun _ => rfl)) (fun z => nomatch z)), _, rfl, ?_⟩⟩
    · have hS0 := hS
      have hS := (Evl.Ex.new (o := .tup [.ty "list", .ty "tuple"]) htp) a _ hS0
      exact (TyX.fTuple hS)
    obtain ⟨H1, e1, hH1⟩ : ∃ H1, Ex H H1 ∧ H1 = upd H tp (.tup [.ty "list", .ty "tuple"]) := ⟨_, Evl.Ex.new htp, rfl⟩
    rw [← hH1]
    refine ⟨_, rfl, a, ps.map V.ref, rfl, (.inr (Evl.ex_t e1 hSQ)), _, _, rfl, rfl, _, rfl, ?_⟩
    rw [if_pos (decide_eq_true (by rw [List.length_map]; omega))]
    refine ⟨_, _, rfl, rfl, _, rfl, ?_⟩
    rw [decide_eq_true (by rw [List.length_map]; omega)]
    -- all
    refine ⟨_, rfl, a, rfl, ⟨_, Evl.ex_t e1 hSQ⟩, fun D hD => ?_⟩
    refine lc_fn (walk_tup (xs := ps.map V.ref)) (fun _ => .bl true) (by rw [List.length_map]; omega) hD (fun H' e => Evl.ex_t (e1.trans e) hSQ) ?_ ?_
    · rintro i x H2' H2 Z B hi e hl ⟨rfl, hx⟩ hZ
      obtain ⟨p, rfl, hp2⟩ := refs_get hx
      obtain ⟨n, hn, hpn⟩ := hT.get hp2
      have hm := List.mem_of_getElem? hn
      refine ⟨rfl, ?_⟩
      refine ⟨_, rfl, p, n, rfl, (e1.trans e) p _ hpn, hok.wd _ (List.mem_map_of_mem hm), (hok.size hm).1, (hok.size hm).2, fun H3 e3 => hZ H3 e3⟩
    intro H2 e2 hd
    refine ⟨D, (List.range (ps.map V.ref).length).map fun _ => true, rfl, by rw [List.map_map]; exact SqL.of hd, _, rfl, ?_⟩
    rw [range_all_true fun _ _ => rfl]
    have e12 := e1.trans e2
    -- words
    refine ⟨_, rfl, a, rfl, ⟨_, Evl.ex_t e12 hSQ⟩, fun D2 hD2 => ?_⟩
    refine lc_fn (walk_tup (xs := ps.map V.ref)) (fun i => V.str ((ns.getD i (alpha, 0)).1)) (by rw [List.length_map]; omega) hD2 (fun H' e => Evl.ex_t (e12.trans e) hSQ) ?_ ?_
    · rintro i x H3' H3 Z B hi e hl ⟨rfl, hx⟩ hZ
      obtain ⟨p, rfl, hp2⟩ := refs_get hx
      obtain ⟨n, hn, hpn⟩ := hT.get hp2
      refine ⟨p, nV n, rfl, SqT.of ((e12.trans e) p _ hpn), rfl, _, _, rfl, _, _, rfl, rfl, ?_⟩
      refine ⟨rfl, ?_⟩
      refine ⟨_, rfl, ?_⟩
      rw [getD_of hn] at hZ
      exact hZ _ (Evl.Ex.refl _)
    intro H3 e3 hd3
    rw [List.length_map, hl, words_list] at hd3
    have e13 := e12.trans e3
    have lw : (wds ns).length = ns.length := by simp [wds]
    refine ⟨_, rfl, D2, wds ns, rfl, SqL.of hd3, by omega, hok.nd, ?_⟩
    refine ⟨_, rfl, D2, (wds ns).map V.str, rfl, .inl (SqL.of hd3), rfl, _, rfl, ?_⟩
    rw [decide_eq_true (by rw [List.length_map])]
    -- sizes
    refine ⟨_, rfl, a, rfl, ⟨_, Evl.ex_t e13 hSQ⟩, fun D3 hD3 => ?_⟩
    refine lc_fn (walk_tup (xs := ps.map V.ref)) (fun i => V.int (((ns.getD i (alpha, 0)).2 : Nat) : Int)) (by rw [List.length_map]; omega) hD3 (fun H' e => Evl.ex_t (e13.trans e) hSQ) ?_ ?_
    · rintro i x H4' H4 Z B hi e hl ⟨rfl, hx⟩ hZ
      obtain ⟨p, rfl, hp2⟩ := refs_get hx
      obtain ⟨n, hn, hpn⟩ := hT.get hp2
      refine ⟨p, nV n, rfl, SqT.of ((e13.trans e) p _ hpn), rfl, _, _, rfl, _, _, rfl, rfl, ?_⟩
      refine ⟨rfl, ?_⟩
      refine ⟨_, rfl, ?_⟩
      rw [getD_of hn] at hZ
      exact hZ _ (Evl.Ex.refl _)
    intro H4 e4 hd4
    rw [List.length_map, hl, sizes_list] at hd4
    refine ⟨D3, szs ns, rfl, SqL.of hd4, hok.sz, _, _, rfl, rfl, ?_⟩
    have f8 := (menu_facts _ hok.sz).2.1
    show Q (V.bl (decide (((prodN (szs ns) : Nat) : Int) ≤ 8))) H4
    rw [decide_eq_true (by omega)]
    exact hQ _ (e13.trans e4)
  -- 

end
end K14
namespace K14
open PySem PySem.Spec PyProof.Rows L2 C8

theorem putF_two (t n : V) : putF "never" n (putF "names" t []) = [(("names" : Str), t), (("never" : Str), n)] := by
  have h : ¬ (("names" : Str) = "never") := by decide
  show (if ("names" : Str) = "never" then _ else _) = _
  rw [if_neg h]
  rfl
section
variable {P : Program} {w : World} {K : PySem.W.Frag} {mg : Str → Option Value} {base : Heap}
abbrev N_Space_init : List Str := ["self", "names", "_", "size"]
theorem sc_Space_init : FnScope N_Space_init ["self", "names"] (defScope (inClass (top 26) 0)) := ⟨rfl, rfl, rfl, by decide +kernel, rfl, by decide +kernel, by decide +kernel⟩
def spSpace (K : PySem.W.Frag) : Sp := fun vs H Q _ => ∃ (x dx a : Addr) (ps : List Addr) (ns : NS), vs = [.ref x, .ref a] ∧ H x = some (.ins (He.ga K "Space") dx []) ∧ NArg H a ps ∧ Tups H ps ns ∧ NsOk ns ∧
  ∀ H', (∀ q o, q ≠ x → H q = some o → H' q = some o) → SpaceAt K H' x ns → Q .non H'
theorem fn_Space_init (T : Txt K mg) (C_are_space_names : Cal P w K mg base 4 "are_space_names" spNamesOk []) (C_stores_of_sizes : Cal P w K mg base 1 "stores_of_sizes" (spSizes K) []) {fd : FuncData} (F : FunD K "__init__" "Space.__init__" (defArgs (inClass (top 26) 0)) (defBody (inClass (top 26) 0)) (defScope (inClass (top 26) 0)) [] [] (He.ma K (He.ga K "Space") "__init__") fd) : FnOk P w K mg base C8.CX0 5 (He.ma K (He.ga K "Space") "__init__") fd ["self", "names"] (spSpace K) := by
  refine F.ok sc_Space_init (fun vs H Q E h => by obtain ⟨_, _, _, _, _, rfl, _⟩ := h; rfl) (fun cdv A outer s H vs Q E hr h => ?_)
  have hu := hu_of hr
  obtain ⟨x, dx, a, ps, ns, rfl, hx, hA, hT, hok, hQ⟩ := h
  have hl := hT.length
  have hn3 := hok.len
  rcases id hA with hS | ⟨o, hS, ho⟩
  · refine ⟨_, PSs.nox (pss_cons (ps_if (pt_not (pt_val (pe_c C_are_space_names hr (by decide) rfl (pa_cons (pv 1) pa_nil)))) (pss_one ps_never) pss_nil)
      (pss_cons (ps_fld (pv 0) (pe_callTy call_tupF (by rfl) T.f_tuple (by decide +kernel) (pa_cons (pv 1) pa_nil)) rfl)
      (pss_one (ps_fld (pv 0) (pe_c C_stores_of_sizes hr (by decide) rfl (pa_cons (pe_lc (own := [("_", 2), ("size", 3)]) rfl sc_Space_init.nd (pi_list (pv 1)) (blkOk_by (own := [("_", 2), ("size", 3)]) (N := N_Space_init) (sc := defScope (inClass (top 26) 0)) (by decide +kernel)) (fun _ _ _ _ _ => (pgT (K := K) (n := 2) rfl (by rfl) (pgs_cons (pg_name (i := 2) sc_Space_init.nd rfl (Or.inl rfl)) (pgs_cons (pg_name (i := 3) sc_Space_init.nd rfl (Or.inl rfl)) pgs_nil)))) (fun _ _ _ _ _ => pts_nil) (fun _ _ _ _ _ => (pv 3))) pa_nil)) rfl)))), ?_⟩
    have ha : a ≠ x := fun z => by rw [z, hx] at hS; cases hS
    refine ⟨_, rfl, a, ps, ns, rfl, hA, hT, hok, fun H1 e1 => ⟨_, rfl, ?_⟩⟩
    refine ⟨_, rfl, a, ps.map V.ref, rfl, .inl ⟨SqL.of (e1 a _ hS), fun t ot ht0 hot => ?_⟩⟩
    obtain ⟨H2, e2, ht, eH2⟩ : ∃ H2, Ex H1 H2 ∧ H2 t = some (.frz ot (.tup (ps.map V.ref))) ∧ H2 = upd H1 t (.frz ot (.tup (ps.map V.ref))) := ⟨_, Evl.Ex.new ht0, upd_same, rfl⟩
    rw [← eH2]
    have x2 := e2 x _ (e1 x _ hx)
    refine ⟨_, rfl, x, _, dx, _, rfl, x2, T.cl_Space, T.n_names, (by show 0 < 1000; decide), ?_⟩
    have e12 := e1.trans e2
    have up : ∀ q o, q ≠ x → H q = some o → upd H2 x (.ins (He.ga K "Space") dx (putF "names" (.ref t) [])) q = some o := fun q o hq h => by rw [upd_ne hq]; exact e12 q o h
    have upt : Tups (upd H2 x (.ins (He.ga K "Space") dx (putF "names" (.ref t) []))) ps ns := by
      refine Tups.byIx hl fun i p n h1 h2 => ?_
      obtain ⟨n', g1, g2⟩ := hT.get h1
      rw [h2] at g1
      cases g1
      exact up p _ (fun z => by rw [z, hx] at g2; cases g2) g2
    have upa := up a _ ha hS
    have tx : t ≠ x := fun z => by rw [z, x2] at ht; cases ht
    have upt2 : upd H2 x (.ins (He.ga K "Space") dx (putF "names" (.ref t) [])) t = some (.frz ot (.tup (ps.map V.ref))) := by rw [upd_ne tx]; exact ht
    have upx : upd H2 x (.ins (He.ga K "Space") dx (putF "names" (.ref t) [])) x = some (.ins (He.ga K "Space") dx (putF "names" (.ref t) [])) := upd_same
    generalize upd H2 x (.ins (He.ga K "Space") dx (putF "names" (.ref t) [])) = H3 at up upt upa upt2 upx ⊢
    refine ⟨_, rfl, a, rfl, ⟨_, (SqL.of upa : SqL K _ a (ps.map V.ref))⟩, fun D hD => ?_⟩
    refine lc_fn (walk_list (xs := ps.map V.ref)) (fun i => V.int (((ns.getD i (alpha, 0)).2 : Nat) : Int)) (by rw [List.length_map]; omega) hD (fun H' e => (SqL.of (e a _ upa) : SqL K _ a (ps.map V.ref))) ?_ ?_
    · rintro i y H4' H4 Z B hi e hl ⟨rfl, hy⟩ hZ
      obtain ⟨p, rfl, hp2⟩ := refs_get hy
      obtain ⟨n, hn, hpn⟩ := upt.get hp2
      refine ⟨p, nV n, rfl, SqT.of (e p _ hpn), rfl, _, _, rfl, _, _, rfl, rfl, ?_⟩
      refine ⟨rfl, ?_⟩
      refine ⟨_, rfl, ?_⟩
      rw [getD_of hn] at hZ
      exact hZ _ (Evl.Ex.refl _)
    intro H4 e4 hd4
    rw [List.length_map, hl, sizes_list] at hd4
    refine ⟨D, szs ns, rfl, SqL.of hd4, hok.sz, ?_⟩
    have x4 := e4 x _ upx
    refine ⟨_, rfl, x, _, dx, _, rfl, x4, T.cl_Space, T.n_never, (by show 1 < 1000; decide), ?_⟩
    refine hQ _ (fun q o hq h => by rw [upd_ne hq]; exact e4 q o (up q o hq h)) ⟨dx, t, ot, ps, by rw [upd_same, putF_two], by rw [upd_ne tx]; exact e4 t _ upt2, hot, ?_⟩
    refine Tups.byIx hl fun i p n h1 h2 => ?_
    obtain ⟨n', g1, g2⟩ := hT.get h1
    rw [h2] at g1
    cases g1
    have px : p ≠ x := fun z => by rw [z, hx] at g2; cases g2
    rw [upd_ne px]
    exact e4 p _ (up p _ px g2)
  · refine ⟨_, PSs.nox (pss_cons (ps_if (pt_not (pt_val (pe_c C_are_space_names hr (by decide) rfl (pa_cons (pv 1) pa_nil)))) (pss_one ps_never) pss_nil)
      (pss_cons (ps_fld (pv 0) (pe_callTy call_tupF (by rfl) T.f_tuple (by decide +kernel) (pa_cons (pv 1) pa_nil)) rfl)
      (pss_one (ps_fld (pv 0) (pe_c C_stores_of_sizes hr (by decide) rfl (pa_cons (pe_lc (own := [("_", 2), ("size", 3)]) rfl sc_Space_init.nd (pi_tup (pv 1)) (blkOk_by (own := [("_", 2), ("size", 3)]) (N := N_Space_init) (sc := defScope (inClass (top 26) 0)) (by decide +kernel)) (fun _ _ _ _ _ => (pgT (K := K) (n := 2) rfl (by rfl) (pgs_cons (pg_name (i := 2) sc_Space_init.nd rfl (Or.inl rfl)) (pgs_cons (pg_name (i := 3) sc_Space_init.nd rfl (Or.inl rfl)) pgs_nil)))) (fun _ _ _ _ _ => pts_nil) (fun _ _ _ _ _ => (pv 3))) pa_nil)) rfl)))), ?_⟩
    have ha : a ≠ x := fun z => by rw [z, hx] at hS; cases hS
    refine ⟨_, rfl, a, ps, ns, rfl, hA, hT, hok, fun H1 e1 => ⟨_, rfl, ?_⟩⟩
    refine ⟨_, rfl, a, ps.map V.ref, rfl, .inr ⟨Or.inl (Or.inr ⟨_, e1 a _ hS⟩), ?_⟩⟩
    have e2 := Evl.Ex.refl H1
    have ht := e1 a _ hS
    have hot := ho
    have x2 := e2 x _ (e1 x _ hx)
    refine ⟨_, rfl, x, _, dx, _, rfl, x2, T.cl_Space, T.n_names, (by show 0 < 1000; decide), ?_⟩
    have e12 := e1.trans e2
    have up : ∀ q o, q ≠ x → H q = some o → upd H1 x (.ins (He.ga K "Space") dx (putF "names" (.ref a) [])) q = some o := fun q o hq h => by rw [upd_ne hq]; exact e12 q o h
    have upt : Tups (upd H1 x (.ins (He.ga K "Space") dx (putF "names" (.ref a) []))) ps ns := by
      refine Tups.byIx hl fun i p n h1 h2 => ?_
      obtain ⟨n', g1, g2⟩ := hT.get h1
      rw [h2] at g1
      cases g1
      exact up p _ (fun z => by rw [z, hx] at g2; cases g2) g2
    have upa := up a _ ha hS
    have tx : a ≠ x := fun z => by rw [z, x2] at ht; cases ht
    have upt2 : upd H1 x (.ins (He.ga K "Space") dx (putF "names" (.ref a) [])) a = some (.frz o (.tup (ps.map V.ref))) := by rw [upd_ne tx]; exact ht
    have upx : upd H1 x (.ins (He.ga K "Space") dx (putF "names" (.ref a) [])) x = some (.ins (He.ga K "Space") dx (putF "names" (.ref a) [])) := upd_same
    generalize upd H1 x (.ins (He.ga K "Space") dx (putF "names" (.ref a) [])) = H3 at up upt upa upt2 upx ⊢
    refine ⟨_, rfl, a, rfl, ⟨_, (Or.inl (Or.inr ⟨_, upa⟩) : SqT K _ a (ps.map V.ref))⟩, fun D hD => ?_⟩
    refine lc_fn (walk_tup (xs := ps.map V.ref)) (fun i => V.int (((ns.getD i (alpha, 0)).2 : Nat) : Int)) (by rw [List.length_map]; omega) hD (fun H' e => (Or.inl (Or.inr ⟨_, (e a _ upa)⟩) : SqT K _ a (ps.map V.ref))) ?_ ?_
    · rintro i y H4' H4 Z B hi e hl ⟨rfl, hy⟩ hZ
      obtain ⟨p, rfl, hp2⟩ := refs_get hy
      obtain ⟨n, hn, hpn⟩ := upt.get hp2
      refine ⟨p, nV n, rfl, SqT.of (e p _ hpn), rfl, _, _, rfl, _, _, rfl, rfl, ?_⟩
      refine ⟨rfl, ?_⟩
      refine ⟨_, rfl, ?_⟩
      rw [getD_of hn] at hZ
      exact hZ _ (Evl.Ex.refl _)
    intro H4 e4 hd4
    rw [List.length_map, hl, sizes_list] at hd4
    refine ⟨D, szs ns, rfl, SqL.of hd4, hok.sz, ?_⟩
    have x4 := e4 x _ upx
    refine ⟨_, rfl, x, _, dx, _, rfl, x4, T.cl_Space, T.n_never, (by show 1 < 1000; decide), ?_⟩
    refine hQ _ (fun q o hq h => by rw [upd_ne hq]; exact e4 q o (up q o hq h)) ⟨dx, a, o, ps, by rw [upd_same, putF_two], by rw [upd_ne tx]; exact e4 a _ upt2, hot, ?_⟩
    refine Tups.byIx hl fun i p n h1 h2 => ?_
    obtain ⟨n', g1, g2⟩ := hT.get h1
    rw [h2] at g1
    cases g1
    have px : p ≠ x := fun z => by rw [z, hx] at g2; cases g2
    rw [upd_ne px]
    exact e4 p _ (up p _ px g2)
  -- 
theorem ok_Space_init (T : Txt K mg) (C_are_space_names : Cal P w K mg base 4 "are_space_names" spNamesOk []) (C_stores_of_sizes : Cal P w K mg base 1 "stores_of_sizes" (spSizes K) []) : Mak P w K mg base 5 "Space" (He.ga K "Space") (spSpace K) [] := by
  obtain ⟨fd, F⟩ := T.d_Space_init
  exact ⟨_, fd, ["self", "names"], [], T.mk_Space, fn_Space_init T C_are_space_names C_stores_of_sizes F, T.g_Space, F.bindsN fun _ _ _ _ _ _ us hl => match us, hl with | [_, _], _ => rfl, .nil⟩
theorem okK_Space_init (T : Txt K mg) (C_are_space_names : Cal P w K mg base 4 "are_space_names" spNamesOk []) (C_stores_of_sizes : Cal P w K mg base 1 "stores_of_sizes" (spSizes K) []) : MakK P w K mg base 5 "Space" (He.ga K "Space") ["names"] [0] (spSpace K) := by
  obtain ⟨fd, F⟩ := T.d_Space_init
  exact ⟨_, fd, ["self", "names"], T.mk_Space, fn_Space_init T C_are_space_names C_stores_of_sizes F, T.g_Space, F.kbindsP 1 ["names"] [0] (fun _ _ _ _ _ _ us ws h1 h2 => match us, ws, h1, h2 with | [_], [_], _, _ => rfl)⟩

end
end K14
namespace K14
open PySem PySem.Spec PyProof.Rows L2 C8

/-- the dict of a store's values -/
def kvsOf (ns : NS) (r : List Nat) : List (Key × V) := ((wds ns).zip r).map fun p => (.inr p.1, .int (p.2 : Int))
theorem kvs_len {ns : NS} {r : List Nat} (h : r.length = ns.length) : (kvsOf ns r).length = ns.length := by simp [kvsOf, wds, h]
theorem kvs_at {ns : NS} {r : List Nat} {i : Nat} {n : Str × Nat} {v : Nat} (h1 : ns[i]? = some n) (h2 : r[i]? = some v) : (kvsOf ns r)[i]? = some (.inr n.1, .int (v : Int)) := by
  unfold kvsOf
  rw [List.getElem?_map]
  have : ((wds ns).zip r)[i]? = some (n.1, v) := by rw [List.getElem?_zip_eq_some]; exact ⟨wds_at (n := n) h1, h2⟩
  rw [this]; rfl
theorem kvs_keys {ns : NS} {r : List Nat} (h : r.length = ns.length) : (kvsOf ns r).map (·.1) = (wds ns).map Sum.inr := by
  unfold kvsOf
  rw [List.map_map]
  have e : ((fun x : Key × V => x.1) ∘ fun p : Str × Nat => ((.inr p.1, .int (p.2 : Int)) : Key × V)) = (Sum.inr : Str → Key) ∘ Prod.fst := rfl
  rw [e, ← List.map_map, map_fst_zip_take _ _ (by simp [wds, h])]
  rw [List.take_of_length_le (by simp [wds, h])]
theorem key_nodup {ns : NS} (h : (wds ns).Nodup) : ((wds ns).map (Sum.inr : Str → Key)).Nodup := by
  refine List.Pairwise.map _ (fun a b hab e => hab (Sum.inr.inj e)) h
/-- a value by its place, the keys being different -/
theorem valV_at : ∀ {kvs : List (Key × V)}, (kvs.map (·.1)).Nodup → ∀ {i : Nat} {k : Key} {v : V}, kvs[i]? = some (k, v) → valV kvs k = some v
  | [], _, i, k, v, h => by simp at h
  | p :: r, nd, 0, k, v, h => by
    have e : p = (k, v) := Option.some.inj h
    subst e
    exact valV_pos rfl
  | p :: r, nd, i + 1, k, v, h => by
    have nd' := List.nodup_cons.mp nd
    have h' : r[i]? = some (k, v) := h
    have ne : ¬ p.1 = k := fun e => nd'.1 (by
      show p.1 ∈ _
      rw [e]
      exact List.mem_map.mpr ⟨(k, v), List.mem_of_getElem? h', rfl⟩)
    rw [valV_neg ne]
    exact valV_at nd'.2 h'
theorem valV_out {kvs : List (Key × V)} {k : Key} (h : k ∉ kvs.map (·.1)) : valV kvs k = none := by
  unfold valV
  rw [List.find?_eq_none.mpr fun p hp => ?_]
  · rfl
  · intro e
    exact h (List.mem_map.mpr ⟨p, hp, of_decide_eq_true e⟩)
theorem put_snoc {kvs : List (Key × V)} {k : Key} (v : V) (h : k ∉ kvs.map (·.1)) : putK kvs k v = kvs ++ [(k, v)] := putK_new v (valV_out h)
theorem take_snoc {α : Type} {l : List α} {i : Nat} {a : α} (h : l[i]? = some a) : l.take (i + 1) = l.take i ++ [a] := by rw [List.take_succ, h]; rfl
theorem notin_take {ks : List Key} (nd : ks.Nodup) {i : Nat} {k : Key} (h : ks[i]? = some k) : k ∉ ks.take i := by
  intro hm
  obtain ⟨j, hj, e⟩ := List.getElem_of_mem hm
  rw [List.length_take] at hj
  rw [List.getElem_take] at e
  obtain ⟨hi, e2⟩ := List.getElem?_eq_some_iff.mp h
  exact List.pairwise_iff_getElem.mp nd j i (by omega) hi (by omega) (e.trans e2.symm)
theorem put_take {kvs : List (Key × V)} (nd : (kvs.map (·.1)).Nodup) {i : Nat} {k : Key} {v : V} (h : kvs[i]? = some (k, v)) : putK (kvs.take i) k v = kvs.take (i + 1) := by
  rw [take_snoc h]
  refine put_snoc v ?_
  rw [List.map_take]
  exact notin_take nd (by rw [List.getElem?_map, h]; rfl)
theorem merge_self {kvs : List (Key × V)} (nd : (kvs.map (·.1)).Nodup) : mergeK [] kvs = kvs := by
  have key : ∀ i, i ≤ kvs.length → mergeK [] (kvs.take i) = kvs.take i := by
    intro i
    induction i with
    | zero => intro _; rfl
    | succ i ih =>
      intro hi
      have hx : kvs[i]? = some kvs[i] := List.getElem?_eq_getElem (by omega)
      have e1 : mergeK [] (kvs.take (i + 1)) = putK (mergeK [] (kvs.take i)) kvs[i].1 kvs[i].2 := by
        rw [take_snoc hx]
        unfold mergeK
        rw [List.foldl_append]
        rfl
      rw [e1, ih (by omega)]
      exact put_take nd hx
  have := key kvs.length (Nat.le_refl _)
  rwa [List.take_length] at this
theorem drop_one {sz : List Nat} {i s : Nat} (h : sz[i]? = some s) : sz.drop i = s :: sz.drop (i + 1) := by
  obtain ⟨hi, e⟩ := List.getElem?_eq_some_iff.mp h
  rw [List.drop_eq_getElem_cons hi, e]
theorem dig_at {sz : List Nat} {k i s : Nat} (h : sz[i]? = some s) : (row sz k)[i]? = some (k / prodN (sz.drop (i + 1)) % s) := by
  obtain ⟨hi, e⟩ := List.getElem?_eq_some_iff.mp h
  unfold row
  rw [List.getElem?_map, List.getElem?_range hi]
  show some (dig sz k i) = _
  unfold dig
  rw [List.getD_eq_getElem?_getD, h]
  rfl
theorem prod_pos {sz : List Nat} (h : ∀ s ∈ sz, 2 ≤ s ∧ s ≤ 6) : 0 < prodN sz := by
  induction sz with
  | nil => exact Nat.one_pos
  | cons s r ih => exact Nat.mul_pos (by have := h s (List.mem_cons_self ..); omega) (ih fun x hx => h x (List.mem_cons_of_mem _ hx))
/-- a name of these -/
def nameB (ns : NS) (d : PyData) : Bool := ((wds ns).map PyData.str).any fun z => PyData.eqv z d
theorem nameB_in {ns : NS} {z : Str} (h : z ∈ wds ns) : nameB ns (.str z) = true := by
  unfold nameB
  rw [List.any_eq_true]
  exact ⟨.str z, List.mem_map_of_mem h, by simp [PyData.eqv]⟩
theorem dp_words {K : PySem.W.Frag} {H : Hp} : ∀ ws : List Str, DpAll K H (ws.map V.str) (ws.map PyData.str)
  | [] => .nil
  | _ :: ws => .cons (.str _) (dp_words ws)
theorem fine_words {ws : List Str} (h : ∀ z ∈ ws, Low z.cps.toList ∧ z.length ≤ 20) {n : Nat} (hl : ws.length ≤ n) : Fine (.list (ws.map PyData.str)) 1 (2 + n * 204) :=
  Fine.list (k := 0) (m := 202) (n := n) (fun d hd => by
    obtain ⟨z, hz, rfl⟩ := List.mem_map.mp hd
    exact Fine.str (h z hz).1 (h z hz).2) (by simpa using hl)
theorem NsOk.words {ns : NS} (h : NsOk ns) : ∀ z ∈ wds ns, Low z.cps.toList ∧ z.length ≤ 20 := fun z hz => ⟨(h.wd z hz).low, Nat.le_trans (h.wd z hz).hi (by omega)⟩
theorem drop_few : ∀ sz ∈ menus, ∀ i, prodN (sz.drop i) ≤ 8 := by
  intro sz hs i
  have key : ∀ sz ∈ menus, ∀ i, i < 4 → prodN (sz.drop i) ≤ 8 := by decide +kernel
  by_cases hi : i < 4
  · exact key sz hs i hi
  · have f := menu_facts sz hs
    rw [List.drop_eq_nil_of_le (by omega)]
    show 1 ≤ 8
    omega
theorem rg_list (n : Nat) : rgV 0 (n : Int) = rV (List.range n) := by
  unfold rgV
  rw [show ((n : Int) - 0).toNat = n by omega]
  refine List.map_congr_left fun i _ => ?_
  rw [Int.zero_add]
/-- the store of the first i values -/
def foldN (sz vs : List Nat) (i : Nat) : Nat := ((sz.zip vs).take i).foldl (fun a p => a * p.1 + p.2) 0
theorem foldN_all {sz vs : List Nat} (h : vs.length = sz.length) : foldN sz vs sz.length = valN sz vs := by
  unfold foldN valN
  rw [List.take_of_length_le (by simp [h])]
theorem foldN_succ {sz vs : List Nat} {i s v : Nat} (h1 : sz[i]? = some s) (h2 : vs[i]? = some v) : foldN sz vs (i + 1) = foldN sz vs i * s + v := by
  unfold foldN
  have : (sz.zip vs)[i]? = some (s, v) := by rw [List.getElem?_zip_eq_some]; exact ⟨h1, h2⟩
  rw [take_snoc this, List.foldl_append]
  rfl
theorem foldN_lt {sz vs : List Nat} (hl : vs.length = sz.length) (hv : ∀ (i s v : Nat), sz[i]? = some s → vs[i]? = some v → v < s) : ∀ i, i ≤ sz.length → foldN sz vs i < prodN (sz.take i)
  | 0, _ => by simp [foldN, prodN]
  | i + 1, h => by
    have ih := foldN_lt hl hv i (by omega)
    have h1 : sz[i]? = some sz[i] := List.getElem?_eq_getElem (by omega)
    have h2 : vs[i]? = some vs[i] := List.getElem?_eq_getElem (by omega)
    rw [foldN_succ h1 h2, prodN_take _ _ _ h1]
    have := hv i _ _ h1 h2
    have a : (foldN sz vs i + 1) * sz[i] ≤ prodN (sz.take i) * sz[i] := Nat.mul_le_mul_right _ ih
    rw [Nat.succ_mul] at a
    omega
section
variable {P : Program} {w : World} {K : PySem.W.Frag} {mg : Str → Option Value} {base : Heap}
abbrev N_Space_contains : List Str := ["self", "name", "known", "_"]
theorem sc_Space_contains : FnScope N_Space_contains ["self", "name"] (defScope (inClass (top 26) 2)) := ⟨rfl, rfl, rfl, by decide +kernel, rfl, by decide +kernel, by decide +kernel⟩
def spContains (K : PySem.W.Frag) : Sp := fun vs H Q _ => ∃ (x : Addr) (ns : NS) (v : V) (d : PyData), vs = [.ref x, v] ∧ SpaceAt K H x ns ∧ NsOk ns ∧ Dp K H v d ∧ SeqAt.shaped d = true ∧ ∀ H', Ex H H' → Q (.bl (nameB ns d)) H'
theorem ok_Space_contains (T : Txt K mg)  : Spc P w K mg base 1 (He.ga K "Space") "__contains__" (spContains K) := by
  obtain ⟨fd, F⟩ := T.d_Space_contains
  refine ⟨_, fd, ["self", "name"], T.s_Space_contains, T.sf_Space_contains, ?_, F.bindsN fun _ _ _ _ _ _ us hl => match us, hl with | [_, _], _ => rfl⟩
  refine F.ok sc_Space_contains (fun vs H Q E h => by obtain ⟨_, _, _, _, rfl, _⟩ := h; rfl) (fun cdv A outer s H vs Q E hr h => ?_)
  have hu := hu_of hr
  refine ⟨_, PSs.nox (pss_one (ps_ret (pe_cmpR (op_inD (u65 hr)) (pv 1) (pe_lc (own := [("known", 2), ("_", 3)]) rfl sc_Space_contains.nd (pi_tup (pe_fld (pv 0) rfl)) (blkOk_by (own := [("known", 2), ("_", 3)]) (N := N_Space_contains) (sc := defScope (inClass (top 26) 2)) (by decide +kernel)) (fun _ _ _ _ _ => (pgT (K := K) (n := 2) rfl (by rfl) (pgs_cons (pg_name (i := 2) sc_Space_contains.nd rfl (Or.inl rfl)) (pgs_cons (pg_name (i := 3) sc_Space_contains.nd rfl (Or.inl rfl)) pgs_nil)))) (fun _ _ _ _ _ => pts_nil) (fun _ _ _ _ _ => (pv 2))) rfl))), ?_⟩
  obtain ⟨x, ns, v, d, rfl, ⟨dx, t, o, ps, hx, ht, ho, hT⟩, hok, hd, hsh, hQ⟩ := h
  have hl := hT.length
  have hn3 := hok.len
  have tq : ∀ H', Ex H H' → SqT K H' t (ps.map V.ref) := fun H' e => Or.inl (Or.inr ⟨_, e t _ ht⟩)
  refine ⟨_, rfl, _, rfl, x, _, dx, _, .ref t, rfl, hx, T.cl_Space, T.n_names, rfl, t, rfl, ⟨_, tq _ (Evl.Ex.refl _)⟩, fun D hD => ?_⟩
  refine lc_fn (walk_tup (xs := ps.map V.ref)) (fun i => V.str ((ns.getD i (alpha, 0)).1)) (by rw [List.length_map]; omega) hD tq ?_ ?_
  · rintro i y H1' H1 Z B hi e hl ⟨rfl, hy⟩ hZ
    obtain ⟨p, rfl, hp2⟩ := refs_get hy
    obtain ⟨n, hn, hpn⟩ := hT.get hp2
    refine ⟨p, nV n, rfl, SqT.of (e p _ hpn), rfl, _, _, rfl, _, _, rfl, rfl, ?_⟩
    refine ⟨rfl, ?_⟩
    refine ⟨_, rfl, ?_⟩
    rw [getD_of hn] at hZ
    exact hZ _ (Evl.Ex.refl _)
  intro H1 e1 hd1
  rw [List.length_map, hl, words_list] at hd1
  have lw : (wds ns).length ≤ 3 := by simp [wds]; omega
  exact ⟨d, (wds ns).map PyData.str, Dp.mono e1 d v hd, .lst (SqL.of hd1) (dp_words _), hsh, (fine_words hok.words lw).shaped (by omega), hQ _ e1⟩

abbrev N_Space_check_store : List Str := ["self", "store"]
theorem sc_Space_check_store : FnScope N_Space_check_store ["self", "store"] (defScope (inClass (top 26) 10)) := ⟨rfl, rfl, rfl, by decide +kernel, rfl, by decide +kernel, by decide +kernel⟩
def spChkStore (K : PySem.W.Frag) : Sp := fun vs H Q _ => ∃ (x : Addr) (ns : NS) (k : Nat), vs = [.ref x, .int (k : Int)] ∧ SpaceAt K H x ns ∧ k < prodN (szs ns) ∧ Q .non H
theorem fn_Space_check_store (T : Txt K mg) (C_is_whole_from : Cal P w K mg base 2 "is_whole_from" spWholeFrom []) {fd : FuncData} (F : FunD K "check_store" "Space.check_store" (defArgs (inClass (top 26) 10)) (defBody (inClass (top 26) 10)) (defScope (inClass (top 26) 10)) [] [] (He.ma K (He.ga K "Space") "check_store") fd) : FnOk P w K mg base C8.CX0 3 (He.ma K (He.ga K "Space") "check_store") fd ["self", "store"] (spChkStore K) := by
  refine F.ok sc_Space_check_store (fun vs H Q E h => by obtain ⟨_, _, _, rfl, _⟩ := h; rfl) (fun cdv A outer s H vs Q E hr h => ?_)
  have hu := hu_of hr
  refine ⟨_, PSs.nox (pss_one (ps_if (pt_not (pt_val (pe_c C_is_whole_from hr (by omega) rfl (pa_cons (pv 1) (pa_cons pe_int (pa_cons (pe_op op_sub (pe_fld (pv 0) rfl) pe_int) pa_nil)))))) (pss_one ps_never) pss_nil)), ?_⟩
  obtain ⟨x, ns, k, rfl, ⟨dx, t, o, ps, hx, ht, ho, hT⟩, hk, hQ⟩ := h
  refine ⟨_, rfl, _, rfl, x, _, dx, _, _, rfl, hx, T.cl_Space, T.n_never, rfl, _, _, rfl, rfl, _, _, _, rfl, ?_⟩
  rw [decide_eq_true (by omega), decide_eq_true (by omega)]
  exact ⟨_, rfl, hQ⟩
theorem ok_Space_check_store (T : Txt K mg) (C_is_whole_from : Cal P w K mg base 2 "is_whole_from" spWholeFrom []) : Met P w K mg base 3 (He.ga K "Space") "check_store" (spChkStore K) [] := by
  obtain ⟨fd, F⟩ := T.d_Space_check_store
  exact ⟨_, fd, ["self", "store"], [], T.cl_Space, T.m_Space_check_store, fn_Space_check_store T C_is_whole_from F, F.bindsN fun _ _ _ _ _ _ us hl => match us, hl with | [_, _], _ => rfl, .nil⟩

abbrev N_Space_check_name : List Str := ["self", "name"]
theorem sc_Space_check_name : FnScope N_Space_check_name ["self", "name"] (defScope (inClass (top 26) 11)) := ⟨rfl, rfl, rfl, by decide +kernel, rfl, by decide +kernel, by decide +kernel⟩
def spChkName (K : PySem.W.Frag) : Sp := fun vs H Q _ => ∃ (x : Addr) (ns : NS) (z : Str), vs = [.ref x, .str z] ∧ SpaceAt K H x ns ∧ NsOk ns ∧ z ∈ wds ns ∧ ∀ H', Ex H H' → Q .non H'
theorem fn_Space_check_name (T : Txt K mg) (S_contains : Spc P w K mg base 1 (He.ga K "Space") "__contains__" (spContains K)) {fd : FuncData} (F : FunD K "check_name" "Space.check_name" (defArgs (inClass (top 26) 11)) (defBody (inClass (top 26) 11)) (defScope (inClass (top 26) 11)) [] [] (He.ma K (He.ga K "Space") "check_name") fd) : FnOk P w K mg base C8.CX0 2 (He.ma K (He.ga K "Space") "check_name") fd ["self", "name"] (spChkName K) := by
  refine F.ok sc_Space_check_name (fun vs H Q E h => by obtain ⟨_, _, _, rfl, _⟩ := h; rfl) (fun cdv A outer s H vs Q E hr h => ?_)
  have hu := hu_of hr
  refine ⟨_, PSs.nox (pss_one (ps_if (pt_cmpR (op_ownNotIn S_contains hr (by omega)) (pv 1) (pv 0) rfl) (pss_one ps_never) pss_nil)), ?_⟩
  obtain ⟨x, ns, z, rfl, hS, hok, hz, hQ⟩ := h
  obtain ⟨dx, t, o, ps, hx, ht, ho, hT⟩ := id hS
  have hw := hok.wd z hz
  refine ⟨_, rfl, _, rfl, x, dx, _, rfl, hx, x, ns, .str z, .str z, rfl, hS, hok, .str z, (Fine.str hw.low (Nat.le_trans hw.hi (by omega))).shaped (by omega), fun H1 e1 => ⟨_, rfl, _, rfl, ?_⟩⟩
  rw [nameB_in hz]
  exact hQ _ e1
theorem ok_Space_check_name (T : Txt K mg) (S_contains : Spc P w K mg base 1 (He.ga K "Space") "__contains__" (spContains K)) : Met P w K mg base 2 (He.ga K "Space") "check_name" (spChkName K) [] := by
  obtain ⟨fd, F⟩ := T.d_Space_check_name
  exact ⟨_, fd, ["self", "name"], [], T.cl_Space, T.m_Space_check_name, fn_Space_check_name T S_contains F, F.bindsN fun _ _ _ _ _ _ us hl => match us, hl with | [_, _], _ => rfl, .nil⟩

abbrev N_Space_values_of : List Str := ["self", "store", "values", "stride", "name", "size"]
theorem sc_Space_values_of : FnScope N_Space_values_of ["self", "store"] (defScope (inClass (top 26) 5)) := ⟨rfl, rfl, rfl, by decide +kernel, rfl, by decide +kernel, by decide +kernel⟩
def spValuesOf (K : PySem.W.Frag) : Sp := fun vs H Q _ => ∃ (x : Addr) (ns : NS) (k : Nat), vs = [.ref x, .int (k : Int)] ∧ SpaceAt K H x ns ∧ NsOk ns ∧ k < prodN (szs ns) ∧
  ∀ p H', H p = none → Ex H H' → H' p = some (.dK (kvsOf ns (row (szs ns) k))) → Q (.ref p) H'
theorem fn_Space_values_of (T : Txt K mg) (M_check_store : Met P w K mg base 3 (He.ga K "Space") "check_store" (spChkStore K) []) {fd : FuncData} (F : FunD K "values_of" "Space.values_of" (defArgs (inClass (top 26) 5)) (defBody (inClass (top 26) 5)) (defScope (inClass (top 26) 5)) [] [] (He.ma K (He.ga K "Space") "values_of") fd) : FnOk P w K mg base C8.CX0 4 (He.ma K (He.ga K "Space") "values_of") fd ["self", "store"] (spValuesOf K) := by
  refine F.ok sc_Space_values_of (fun vs H Q E h => by obtain ⟨_, _, _, rfl, _⟩ := h; rfl) (fun cdv A outer s H vs Q E hr h => ?_)
  have hu := hu_of hr
  refine ⟨_, PSs.nox (pss_cons (ps_expr (pe_mt M_check_store hr (by omega) (pv 0) (pa_cons (pv 1) pa_nil)))
      (pss_cons (ps_set (i := 2) sc_Space_values_of.nd rfl (Or.inl rfl) pe_dnewK)
      (pss_cons (ps_set (i := 3) sc_Space_values_of.nd rfl (Or.inl rfl) (pe_fld (pv 0) rfl))
      (pss_cons (ps_for PassesOwn.never rfl (pi_tup (pe_fld (pv 0) rfl)) (pg_tup (by rfl) (pgs_cons (pg_name (i := 4) sc_Space_values_of.nd rfl (Or.inl rfl)) (pgs_cons (pg_name (i := 5) sc_Space_values_of.nd rfl (Or.inl rfl)) pgs_nil))) (pss_cons (ps_set (i := 3) sc_Space_values_of.nd rfl (Or.inl rfl) (pe_op op_fdiv (pv 3) (pv 5)))
      (pss_one (ps_dput hu (pv 2) (pv 4) (pe_op op_mod (pe_op op_fdiv (pv 1) (pv 3)) (pv 5)) rfl))))
      (pss_one (ps_ret (pv 2))))))), ?_⟩
  obtain ⟨x, ns, k, rfl, hS, hok, hk, hQ⟩ := h
  obtain ⟨dx, t, o, ps, hx, ht, ho, hT⟩ := id hS
  have hl := hT.length
  have hn3 := hok.len
  have hrl : (row (szs ns) k).length = ns.length := by rw [row_len]; simp [szs]
  have nd : ((kvsOf ns (row (szs ns) k)).map (·.1)).Nodup := by rw [kvs_keys hrl]; exact key_nodup hok.nd
  have hkl := kvs_len hrl
  refine ⟨_, rfl, x, dx, _, rfl, hx, rfl, _, rfl, x, ns, k, rfl, hS, hk, ?_⟩
  refine fun d hd => ?_
  have e0 : Ex H (upd H d (.dK [])) := Evl.Ex.new hd
  refine ⟨_, rfl, x, _, dx, _, _, rfl, e0 x _ hx, T.cl_Space, T.n_never, rfl, ?_⟩
  refine ⟨_, rfl, x, _, dx, _, .ref t, rfl, e0 x _ hx, T.cl_Space, T.n_names, rfl, t, rfl, ⟨_, (Or.inl (Or.inr ⟨_, e0 t _ ht⟩) : SqT K _ t (ps.map V.ref))⟩, ?_⟩
  refine for_it (walk_tup (xs := ps.map V.ref)) (fun i σ H' => Ex H H' ∧ H' d = some (.dK ((kvsOf ns (row (szs ns) k)).take i)) ∧ ∃ x4 x5, σ = [some (.ref x), some (.int (k : Int)), some (.ref d), some (.int ((prodN ((szs ns).drop i) : Nat) : Int)), x4, x5])
    ⟨e0, upd_same, none, none, rfl⟩ (fun i σ H' _ p => Or.inl (Or.inr ⟨_, p.1 t _ ht⟩)) ?_ ?_
  · rintro i y σ H1' H1 hi ⟨e1, hd1, x4, x5, rfl⟩ ⟨rfl, hy⟩
    obtain ⟨p, rfl, hp2⟩ := refs_get hy
    obtain ⟨n, hn, hpn⟩ := hT.get hp2
    have hs := sz_at hn
    have hsz := hok.size (List.mem_of_getElem? hn)
    have dr := drop_one hs
    have pp : 0 < prodN ((szs ns).drop (i + 1)) := prod_pos fun s hs' => (menu_facts _ hok.sz).2.2.2.2.2 s (List.mem_of_mem_drop hs')
    have est : ((prodN ((szs ns).drop i) : Nat) : Int) / (n.2 : Int) = ((prodN ((szs ns).drop (i + 1)) : Nat) : Int) := by
      rw [dr]
      show ((n.2 * prodN ((szs ns).drop (i + 1)) : Nat) : Int) / (n.2 : Int) = _
      rw [← Int.natCast_ediv, Nat.mul_div_cancel_left _ (by omega)]
    have edg : (k : Int) / ((prodN ((szs ns).drop (i + 1)) : Nat) : Int) % (n.2 : Int) = ((k / prodN ((szs ns).drop (i + 1)) % n.2 : Nat) : Int) := by
      rw [← Int.natCast_ediv, ← Int.natCast_emod]
    refine ⟨p, nV n, rfl, SqT.of (e1 p _ hpn), rfl, _, _, rfl, _, _, rfl, rfl, ?_⟩
    refine ⟨_, rfl, _, rfl, _, _, rfl, rfl, ⟨by omega, by omega⟩, ?_⟩
    refine ⟨_, rfl, _, rfl, _, _, rfl, rfl, ⟨by rw [est]; omega, by rw [est]; have := drop_few _ hok.sz (i + 1); omega⟩, _, rfl, _, _, rfl, rfl, by omega, ?_⟩
    have hkv : (kvsOf ns (row (szs ns) k))[i]? = some (.inr n.1, .int ((k / prodN ((szs ns).drop (i + 1)) % n.2 : Nat) : Int)) := kvs_at hn (dig_at hs)
    refine ⟨_, rfl, _, rfl, d, _, rfl, DPut.k (k := .inr n.1) hd1 ?_, ?_⟩
    · rw [List.length_take]
      exact Nat.lt_of_le_of_lt (show _ ≤ 3 by omega) (by decide)
    refine ⟨Evl.Ex.mut e1 hd, ?_, some (.str n.1), some (.int (n.2 : Int)), ?_⟩
    · rw [upd_same]
      show some (HO.dK (putK _ (.inr n.1) (.int ((k : Int) / (((prodN ((szs ns).drop i) : Nat) : Int) / (n.2 : Int)) % (n.2 : Int))))) = _
      rw [est, edg, put_take nd hkv]
    · show [_, _, _, some (V.int (((prodN ((szs ns).drop i) : Nat) : Int) / (n.2 : Int))), _, _] = _
      rw [est]
  · rintro σ H1 ⟨e1, hd1, x4, x5, rfl⟩
    refine ⟨_, rfl, hQ d H1 hd e1 ?_⟩
    rw [hd1, List.take_of_length_le (by rw [List.length_map]; omega)]
theorem ok_Space_values_of (T : Txt K mg) (M_check_store : Met P w K mg base 3 (He.ga K "Space") "check_store" (spChkStore K) []) : Met P w K mg base 4 (He.ga K "Space") "values_of" (spValuesOf K) [] := by
  obtain ⟨fd, F⟩ := T.d_Space_values_of
  exact ⟨_, fd, ["self", "store"], [], T.cl_Space, T.m_Space_values_of, fn_Space_values_of T M_check_store F, F.bindsN fun _ _ _ _ _ _ us hl => match us, hl with | [_, _], _ => rfl, .nil⟩
theorem okK_Space_values_of (T : Txt K mg) (M_check_store : Met P w K mg base 3 (He.ga K "Space") "check_store" (spChkStore K) []) : MetK P w K mg base 4 (He.ga K "Space") "values_of" ["store"] [0] (spValuesOf K) := by
  obtain ⟨fd, F⟩ := T.d_Space_values_of
  exact ⟨_, fd, ["self", "store"], T.cl_Space, T.m_Space_values_of, fn_Space_values_of T M_check_store F, F.kbindsP 1 ["store"] [0] (fun _ _ _ _ _ _ us ws h1 h2 => match us, ws, h1, h2 with | [_], [_], _, _ => rfl)⟩

abbrev N_Space_store_of : List Str := ["self", "values", "store", "name", "size"]
theorem sc_Space_store_of : FnScope N_Space_store_of ["self", "values"] (defScope (inClass (top 26) 6)) := ⟨rfl, rfl, rfl, by decide +kernel, rfl, by decide +kernel, by decide +kernel⟩
def spStoreOf (K : PySem.W.Frag) : Sp := fun vs H Q _ => ∃ (x d : Addr) (ns : NS) (kvs : List (Key × V)) (r : List Nat), vs = [.ref x, .ref d] ∧ SpaceAt K H x ns ∧ NsOk ns ∧ H d = some (.dK kvs) ∧ kvs.length = ns.length ∧ r.length = ns.length ∧
  (∀ (i : Nat) n, ns[i]? = some n → ∃ v, r[i]? = some v ∧ v < n.2 ∧ valV kvs (.inr n.1) = some (.int (v : Int))) ∧ Q (.int ((valN (szs ns) r : Nat) : Int)) H
theorem fn_Space_store_of (T : Txt K mg) (C_is_whole_from : Cal P w K mg base 2 "is_whole_from" spWholeFrom []) {fd : FuncData} (F : FunD K "store_of" "Space.store_of" (defArgs (inClass (top 26) 6)) (defBody (inClass (top 26) 6)) (defScope (inClass (top 26) 6)) [] [] (He.ma K (He.ga K "Space") "store_of") fd) : FnOk P w K mg base C8.CX0 3 (He.ma K (He.ga K "Space") "store_of") fd ["self", "values"] (spStoreOf K) := by
  refine F.ok sc_Space_store_of (fun vs H Q E h => by obtain ⟨_, _, _, _, _, rfl, _⟩ := h; rfl) (fun cdv A outer s H vs Q E hr h => ?_)
  have hu := hu_of hr
  refine ⟨_, PSs.nox (pss_cons (ps_if (PW.pt (pw_or (pt_not (pt_val (pe_callB call_isi (by rfl) T.f_isinstance (by decide +kernel) (pa_cons (pv 1) (pa_cons (pe_bltn (v := .ty "dict") (u := .type "dict") (by rfl) T.f_dict (by decide +kernel) rfl) pa_nil))))) (pw_or1 (pt_cmpR op_ne (pe_callB call_lenD (by rfl) T.f_len (by decide +kernel) (pa_cons (pv 1) pa_nil)) (pe_callB call_len_seq (by rfl) T.f_len (by decide +kernel) (pa_cons (pe_fld (pv 0) rfl) pa_nil)) (nomark _))))) (pss_one ps_never) pss_nil)
      (pss_cons (ps_set (i := 2) sc_Space_store_of.nd rfl (Or.inl rfl) pe_int)
      (pss_cons (ps_for PassesOwn.never rfl (pi_tup (pe_fld (pv 0) rfl)) (pg_tup (by rfl) (pgs_cons (pg_name (i := 3) sc_Space_store_of.nd rfl (Or.inl rfl)) (pgs_cons (pg_name (i := 4) sc_Space_store_of.nd rfl (Or.inl rfl)) pgs_nil))) (pss_cons (ps_if (PW.pt (pw_or (pt_cmp (pc_dnotin hu (pv 3) (pv 1)) rfl) (pw_or1 (pt_not (pt_val (pe_c C_is_whole_from hr (by omega) rfl (pa_cons (pe_dget hu (pv 1) (pv 3) (fun _ _ => rfl)) (pa_cons pe_int (pa_cons (pe_op op_sub (pv 4) pe_int) pa_nil))))))))) (pss_one ps_never) pss_nil)
      (pss_one (ps_set (i := 2) sc_Space_store_of.nd rfl (Or.inl rfl) (pe_op op_add (pe_op op_mul (pv 2) (pv 4)) (pe_dget hu (pv 1) (pv 3) (fun _ _ => rfl)))))))
      (pss_one (ps_ret (pv 2)))))), ?_⟩
  obtain ⟨x, d, ns, kvs, r, rfl, hS, hok, hd, hkl, hrl, hv, hQ⟩ := h
  obtain ⟨dx, t, o, ps, hx, ht, ho, hT⟩ := id hS
  have hl := hT.length
  have hn3 := hok.len
  have hsl : (szs ns).length = ns.length := by simp [szs]
  have tq : SqT K H t (ps.map V.ref) := Or.inl (Or.inr ⟨_, ht⟩)
  have hvs : ∀ (i s v : Nat), (szs ns)[i]? = some s → r[i]? = some v → v < s := by
    intro i s v h1 h2
    unfold szs at h1
    rw [List.getElem?_map] at h1
    cases hn : ns[i]? with
    | none => rw [hn] at h1; cases h1
    | some n =>
      rw [hn] at h1
      cases h1
      obtain ⟨v', a, b, _⟩ := hv i n hn
      rw [h2] at a
      cases a
      exact b
  refine ⟨_, rfl, _, _, _, _, _, rfl, ClsV.ty _, TyX.base (TyOf.dK hd), kit_ty (r := true) (by decide +kernel), _, rfl, ?_⟩
  refine ⟨_, rfl, d, kvs, rfl, hd, ?_⟩
  refine ⟨_, rfl, x, _, dx, _, .ref t, rfl, hx, T.cl_Space, T.n_names, rfl, t, _, rfl, .inr tq, rfl, _, rfl, ?_⟩
  rw [decide_eq_true (by rw [List.length_map, hl, hkl])]
  refine ⟨_, rfl, x, _, dx, _, .ref t, rfl, hx, T.cl_Space, T.n_names, rfl, t, rfl, ⟨_, tq⟩, ?_⟩
  refine for_it (walk_tup (xs := ps.map V.ref)) (fun i σ H' => H' = H ∧ ∃ x3 x4, σ = [some (.ref x), some (.ref d), some (.int ((foldN (szs ns) r i : Nat) : Int)), x3, x4]) ⟨rfl, none, none, rfl⟩ (fun i σ H' _ p => by rw [p.1]; exact tq) ?_ ?_
  · rintro i y σ H1 H1' hi ⟨rfl, x3, x4, rfl⟩ ⟨rfl, hy⟩
    obtain ⟨p, rfl, hp2⟩ := refs_get hy
    obtain ⟨n, hn, hpn⟩ := hT.get hp2
    have hs := sz_at hn
    have hsz := hok.size (List.mem_of_getElem? hn)
    obtain ⟨v, hr1, hvn, hval⟩ := hv i n hn
    have fl := foldN_lt (by rw [hrl, hsl]) hvs i (by have := (List.getElem?_eq_some_iff.mp hs).1; omega)
    have f8 := prod_few _ hok.sz i
    have hget : DGet H1' d (.str n.1) (some (.int (v : Int))) := by
      have := DGet.k (k := .inr n.1) hd
      rw [hval] at this
      exact this
    refine ⟨p, nV n, rfl, SqT.of hpn, rfl, _, _, rfl, _, _, rfl, rfl, ?_⟩
    refine ⟨_, rfl, _, rfl, d, _, rfl, hget, _, rfl, ?_⟩
    refine ⟨_, rfl, _, rfl, d, _, rfl, hget, _, rfl, _, _, rfl, rfl, _, _, _, rfl, ?_⟩
    rw [decide_eq_true (by omega), decide_eq_true (by omega)]
    refine ⟨_, rfl, ?_⟩
    refine ⟨_, rfl, _, rfl, _, _, rfl, rfl, .inl ⟨by omega, by omega⟩, _, rfl, _, rfl, d, _, rfl, hget, _, _, rfl, rfl, rfl, some (.str n.1), some (.int (n.2 : Int)), ?_⟩
    rw [foldN_succ hs hr1, Int.natCast_add, Int.natCast_mul]
    rfl
  · rintro σ H1 ⟨rfl, x3, x4, rfl⟩
    refine ⟨_, rfl, ?_⟩
    rw [List.length_map, hl, ← hsl, foldN_all (by rw [hrl, hsl])]
    exact hQ
theorem ok_Space_store_of (T : Txt K mg) (C_is_whole_from : Cal P w K mg base 2 "is_whole_from" spWholeFrom []) : Met P w K mg base 3 (He.ga K "Space") "store_of" (spStoreOf K) [] := by
  obtain ⟨fd, F⟩ := T.d_Space_store_of
  exact ⟨_, fd, ["self", "values"], [], T.cl_Space, T.m_Space_store_of, fn_Space_store_of T C_is_whole_from F, F.bindsN fun _ _ _ _ _ _ us hl => match us, hl with | [_, _], _ => rfl, .nil⟩
theorem okK_Space_store_of (T : Txt K mg) (C_is_whole_from : Cal P w K mg base 2 "is_whole_from" spWholeFrom []) : MetK P w K mg base 3 (He.ga K "Space") "store_of" ["values"] [0] (spStoreOf K) := by
  obtain ⟨fd, F⟩ := T.d_Space_store_of
  exact ⟨_, fd, ["self", "values"], T.cl_Space, T.m_Space_store_of, fn_Space_store_of T C_is_whole_from F, F.kbindsP 1 ["values"] [0] (fun _ _ _ _ _ _ us ws h1 h2 => match us, ws, h1, h2 with | [_], [_], _, _ => rfl)⟩

end
end K14
namespace K14
open PySem PySem.Spec PyProof.Rows L2 C8

def sizeKvs (ns : NS) : List (Key × V) := ns.map fun n => (.inr n.1, .int (n.2 : Int))
theorem sizeKvs_keys (ns : NS) : (sizeKvs ns).map (·.1) = (wds ns).map Sum.inr := by
  unfold sizeKvs wds
  rw [List.map_map, List.map_map]
  rfl
theorem tups_paired {K : PySem.W.Frag} {H : Hp} : ∀ {ps : List Addr} {ns : NS}, Tups H ps ns → Paired (fun p kv => SqT K H p [kV kv.1, kv.2]) ps (sizeKvs ns)
  | _, _, .nil => .nil
  | _, _, .cons h t => .cons (SqT.of h) (tups_paired t)
theorem put_len {kvs : List (Key × V)} {k : Key} {v y : V} (h : valV kvs k = some y) : (putK kvs k v).length = kvs.length := by
  unfold putK
  rw [if_pos (by rw [valV_any, h]; rfl), List.length_map]
theorem name_ne {ns : NS} (nd : (wds ns).Nodup) {i j : Nat} {n m : Str × Nat} (hi : ns[i]? = some n) (hj : ns[j]? = some m) (h : i ≠ j) : n.1 ≠ m.1 := by
  intro e
  have a := List.getElem?_eq_some_iff.mp (wds_at hi)
  have b := List.getElem?_eq_some_iff.mp (wds_at hj)
  obtain ⟨a1, a2⟩ := a
  obtain ⟨b1, b2⟩ := b
  have k := List.pairwise_iff_getElem.mp nd
  rcases Nat.lt_or_gt_of_ne h with z | z
  · exact k i j a1 b1 z (by rw [a2, b2]; exact e)
  · exact k j i b1 a1 z (by rw [a2, b2]; exact e.symm)
theorem mem_wds {ns : NS} {i : Nat} {n : Str × Nat} (h : ns[i]? = some n) : n.1 ∈ wds ns := List.mem_of_getElem? (wds_at h)
theorem row_val {ns : NS} (hok : NsOk ns) {k i : Nat} {n : Str × Nat} (h : ns[i]? = some n) : ∃ v, (row (szs ns) k)[i]? = some v ∧ v < n.2 := by
  have hs := sz_at h
  have h2 := hok.size (List.mem_of_getElem? h)
  exact ⟨_, dig_at hs, Nat.mod_lt _ (by omega)⟩
theorem sz_getD {ns : NS} {i : Nat} {n : Str × Nat} (h : ns[i]? = some n) : (szs ns).getD i 1 = n.2 := by rw [List.getD_eq_getElem?_getD, sz_at h]; rfl
section
variable {P : Program} {w : World} {K : PySem.W.Frag} {mg : Str → Option Value} {base : Heap}
abbrev N_Space_size_of : List Str := ["self", "name"]
theorem sc_Space_size_of : FnScope N_Space_size_of ["self", "name"] (defScope (inClass (top 26) 7)) := ⟨rfl, rfl, rfl, by decide +kernel, rfl, by decide +kernel, by decide +kernel⟩
def spSizeOf (K : PySem.W.Frag) : Sp := fun vs H Q _ => ∃ (x : Addr) (ns : NS) (i : Nat) (n : Str × Nat), vs = [.ref x, .str n.1] ∧ SpaceAt K H x ns ∧ NsOk ns ∧ ns[i]? = some n ∧ ∀ H', Ex H H' → Q (.int (n.2 : Int)) H'
theorem fn_Space_size_of (T : Txt K mg) (M_check_name : Met P w K mg base 2 (He.ga K "Space") "check_name" (spChkName K) []) {fd : FuncData} (F : FunD K "size_of" "Space.size_of" (defArgs (inClass (top 26) 7)) (defBody (inClass (top 26) 7)) (defScope (inClass (top 26) 7)) [] [] (He.ma K (He.ga K "Space") "size_of") fd) : FnOk P w K mg base C8.CX0 3 (He.ma K (He.ga K "Space") "size_of") fd ["self", "name"] (spSizeOf K) := by
  refine F.ok sc_Space_size_of (fun vs H Q E h => by obtain ⟨_, _, _, _, rfl, _⟩ := h; rfl) (fun cdv A outer s H vs Q E hr h => ?_)
  have hu := hu_of hr
  refine ⟨_, PSs.nox (pss_cons (ps_expr (pe_mt M_check_name hr (by omega) (pv 0) (pa_cons (pv 1) pa_nil)))
      (pss_one (ps_ret (pe_dget hu (pe_callTy (call_dictF rfl) (by rfl) T.f_dict (by decide +kernel) (pa_cons (pe_fld (pv 0) rfl) pa_nil)) (pv 1) (fun _ _ => rfl))))), ?_⟩
  obtain ⟨x, ns, i, n, rfl, hS, hok, hn, hQ⟩ := h
  obtain ⟨dx, t, o, ps, hx, ht, ho, hT⟩ := id hS
  refine ⟨_, rfl, x, dx, _, rfl, hx, rfl, _, rfl, x, ns, n.1, rfl, hS, hok, mem_wds hn, fun H1 e1 => ?_⟩
  have nd : ((sizeKvs ns).map (·.1)).Nodup := by rw [sizeKvs_keys]; exact key_nodup hok.nd
  refine ⟨_, rfl, x, _, dx, _, .ref t, rfl, e1 x _ hx, T.cl_Space, T.n_names, rfl, t, o, ps, sizeKvs ns, rfl, e1 t _ ht, ho, tups_paired (hT.mono e1), fun p hp => ?_⟩
  refine ⟨_, rfl, p, _, rfl, ?_, hQ _ (e1.trans (Evl.Ex.new hp))⟩
  have h1 : upd H1 p (.dK (mergeK [] (sizeKvs ns))) p = some (.dK (sizeKvs ns)) := by rw [upd_same, merge_self nd]
  have := DGet.k (k := .inr n.1) h1
  rw [valV_at nd (i := i) (v := .int (n.2 : Int)) (by unfold sizeKvs; rw [List.getElem?_map, hn]; rfl)] at this
  exact this
theorem ok_Space_size_of (T : Txt K mg) (M_check_name : Met P w K mg base 2 (He.ga K "Space") "check_name" (spChkName K) []) : Met P w K mg base 3 (He.ga K "Space") "size_of" (spSizeOf K) [] := by
  obtain ⟨fd, F⟩ := T.d_Space_size_of
  exact ⟨_, fd, ["self", "name"], [], T.cl_Space, T.m_Space_size_of, fn_Space_size_of T M_check_name F, F.bindsN fun _ _ _ _ _ _ us hl => match us, hl with | [_, _], _ => rfl, .nil⟩
theorem okK_Space_size_of (T : Txt K mg) (M_check_name : Met P w K mg base 2 (He.ga K "Space") "check_name" (spChkName K) []) : MetK P w K mg base 3 (He.ga K "Space") "size_of" ["name"] [0] (spSizeOf K) := by
  obtain ⟨fd, F⟩ := T.d_Space_size_of
  exact ⟨_, fd, ["self", "name"], T.cl_Space, T.m_Space_size_of, fn_Space_size_of T M_check_name F, F.kbindsP 1 ["name"] [0] (fun _ _ _ _ _ _ us ws h1 h2 => match us, ws, h1, h2 with | [_], [_], _, _ => rfl)⟩

abbrev N_Space_with_value : List Str := ["self", "store", "name", "value", "values"]
theorem sc_Space_with_value : FnScope N_Space_with_value ["self", "store", "name", "value"] (defScope (inClass (top 26) 9)) := ⟨rfl, rfl, rfl, by decide +kernel, rfl, by decide +kernel, by decide +kernel⟩
def spWithValue (K : PySem.W.Frag) : Sp := fun vs H Q _ => ∃ (x : Addr) (ns : NS) (k i : Nat) (v : Int) (n : Str × Nat), vs = [.ref x, .int (k : Int), .str n.1, .int v] ∧ SpaceAt K H x ns ∧ NsOk ns ∧ k < prodN (szs ns) ∧ ns[i]? = some n ∧ ∀ H', Ex H H' → Q (.int ((givenN (szs ns) k i (v % (n.2 : Int)).toNat : Nat) : Int)) H'
theorem fn_Space_with_value (T : Txt K mg) (M_check_name : Met P w K mg base 2 (He.ga K "Space") "check_name" (spChkName K) []) (M_values_of : Met P w K mg base 4 (He.ga K "Space") "values_of" (spValuesOf K) []) (M_size_of : Met P w K mg base 3 (He.ga K "Space") "size_of" (spSizeOf K) []) (M_store_of : Met P w K mg base 3 (He.ga K "Space") "store_of" (spStoreOf K) []) (C_is_whole : Cal P w K mg base 1 "is_whole" spWhole []) {fd : FuncData} (F : FunD K "with_value" "Space.with_value" (defArgs (inClass (top 26) 9)) (defBody (inClass (top 26) 9)) (defScope (inClass (top 26) 9)) [] [] (He.ma K (He.ga K "Space") "with_value") fd) : FnOk P w K mg base C8.CX0 5 (He.ma K (He.ga K "Space") "with_value") fd ["self", "store", "name", "value"] (spWithValue K) := by
  refine F.ok sc_Space_with_value (fun vs H Q E h => by obtain ⟨_, _, _, _, _, _, rfl, _⟩ := h; rfl) (fun cdv A outer s H vs Q E hr h => ?_)
  have hu := hu_of hr
  refine ⟨_, PSs.nox (pss_cons (ps_set (i := 4) sc_Space_with_value.nd rfl (Or.inl rfl) (pe_mt M_values_of hr (by omega) (pv 0) (pa_cons (pv 1) pa_nil)))
      (pss_cons (ps_expr (pe_mt M_check_name hr (by omega) (pv 0) (pa_cons (pv 2) pa_nil)))
      (pss_cons (ps_if (pt_not (pt_val (pe_c C_is_whole hr (by omega) rfl (pa_cons (pv 3) pa_nil)))) (pss_one ps_never) pss_nil)
      (pss_cons (ps_dput hu (pv 4) (pv 2) (pe_op op_mod (pv 3) (pe_mt M_size_of hr (by omega) (pv 0) (pa_cons (pv 2) pa_nil))) rfl)
      (pss_one (ps_ret (pe_mt M_store_of hr (by omega) (pv 0) (pa_cons (pv 4) pa_nil)))))))), ?_⟩
  obtain ⟨x, ns, k, i, v, n, rfl, hS, hok, hk, hn, hQ⟩ := h
  obtain ⟨dx, t, o, ps, hx, ht, ho, hT⟩ := id hS
  have hrl : (row (szs ns) k).length = ns.length := by rw [row_len]; simp [szs]
  have nd : ((kvsOf ns (row (szs ns) k)).map (·.1)).Nodup := by rw [kvs_keys hrl]; exact key_nodup hok.nd
  have hsz := hok.size (List.mem_of_getElem? hn)
  refine ⟨_, rfl, x, dx, _, rfl, hx, rfl, _, rfl, x, ns, k, rfl, hS, hok, hk, fun p H1 hp e1 hp1 => ?_⟩
  refine ⟨_, rfl, x, dx, _, rfl, e1 x _ hx, rfl, _, rfl, x, ns, n.1, rfl, hS.mono e1, hok, mem_wds hn, fun H2 e2 => ?_⟩
  have e12 := e1.trans e2
  refine ⟨_, rfl, v, rfl, _, rfl, ?_⟩
  refine ⟨_, rfl, _, rfl, x, dx, _, rfl, e12 x _ hx, rfl, _, rfl, x, ns, i, n, rfl, hS.mono e12, hok, hn, fun H3 e3 => ?_⟩
  have e13 := e12.trans e3
  obtain ⟨y, hy⟩ : ∃ y : Nat, v % (n.2 : Int) = (y : Int) := ⟨(v % (n.2 : Int)).toNat, by
    have := Int.emod_nonneg v (b := (n.2 : Int)) (by omega)
    omega⟩
  have hy2 : y < n.2 := by
    have := Int.emod_lt_of_pos v (b := (n.2 : Int)) (by omega)
    omega
  have hp3 := e3 p _ (e2 p _ hp1)
  obtain ⟨v0, hv0, _⟩ := row_val hok (k := k) hn
  have old := valV_at nd (kvs_at hn hv0)
  refine ⟨_, _, rfl, rfl, by omega, _, rfl, _, rfl, p, _, rfl, DPut.k (k := .inr n.1) hp3 ?_, ?_⟩
  · rw [kvs_len hrl]
    exact Nat.lt_of_le_of_lt hok.len.2 (by decide)
  have pn : H p = none := hp
  have up : Ex H (upd H3 p (.dK (putK (kvsOf ns (row (szs ns) k)) (.inr n.1) (.int (v % (n.2 : Int)))))) := Evl.Ex.mut e13 hp
  refine ⟨_, rfl, x, dx, _, rfl, up x _ hx, rfl, _, rfl, x, p, ns, _, (row (szs ns) k).set i y, rfl, hS.mono up, hok, upd_same, ?_, by rw [List.length_set]; exact hrl, fun j m hm => ?_, ?_⟩
  · rw [put_len old, kvs_len hrl]
  · by_cases hij : i = j
    · subst hij
      rw [hn] at hm
      cases hm
      refine ⟨y, List.getElem?_set_self (by rw [hrl]; exact (List.getElem?_eq_some_iff.mp hn).1), hy2, ?_⟩
      rw [valV_put, if_pos rfl]
      show some (V.int (v % (n.2 : Int))) = _
      rw [hy]
    · obtain ⟨v1, hv1, hv2⟩ := row_val hok (k := k) hm
      refine ⟨v1, by rw [List.getElem?_set_ne hij]; exact hv1, hv2, ?_⟩
      rw [valV_put, if_neg (fun e => name_ne hok.nd hn hm hij (Sum.inr.inj e).symm)]
      exact valV_at nd (kvs_at hm hv1)
  · have q := hQ _ up
    have eg : (v % (n.2 : Int)).toNat = y := by rw [hy]; exact Int.toNat_natCast y
    rw [eg] at q
    exact q
theorem ok_Space_with_value (T : Txt K mg) (M_check_name : Met P w K mg base 2 (He.ga K "Space") "check_name" (spChkName K) []) (M_values_of : Met P w K mg base 4 (He.ga K "Space") "values_of" (spValuesOf K) []) (M_size_of : Met P w K mg base 3 (He.ga K "Space") "size_of" (spSizeOf K) []) (M_store_of : Met P w K mg base 3 (He.ga K "Space") "store_of" (spStoreOf K) []) (C_is_whole : Cal P w K mg base 1 "is_whole" spWhole []) : Met P w K mg base 5 (He.ga K "Space") "with_value" (spWithValue K) [] := by
  obtain ⟨fd, F⟩ := T.d_Space_with_value
  exact ⟨_, fd, ["self", "store", "name", "value"], [], T.cl_Space, T.m_Space_with_value, fn_Space_with_value T M_check_name M_values_of M_size_of M_store_of C_is_whole F, F.bindsN fun _ _ _ _ _ _ us hl => match us, hl with | [_, _, _, _], _ => rfl, .nil⟩
theorem okK_Space_with_value (T : Txt K mg) (M_check_name : Met P w K mg base 2 (He.ga K "Space") "check_name" (spChkName K) []) (M_values_of : Met P w K mg base 4 (He.ga K "Space") "values_of" (spValuesOf K) []) (M_size_of : Met P w K mg base 3 (He.ga K "Space") "size_of" (spSizeOf K) []) (M_store_of : Met P w K mg base 3 (He.ga K "Space") "store_of" (spStoreOf K) []) (C_is_whole : Cal P w K mg base 1 "is_whole" spWhole []) : MetK P w K mg base 5 (He.ga K "Space") "with_value" ["value", "name", "store"] [2, 1, 0] (spWithValue K) := by
  obtain ⟨fd, F⟩ := T.d_Space_with_value
  exact ⟨_, fd, ["self", "store", "name", "value"], T.cl_Space, T.m_Space_with_value, fn_Space_with_value T M_check_name M_values_of M_size_of M_store_of C_is_whole F, F.kbindsP 1 ["value", "name", "store"] [2, 1, 0] (fun _ _ _ _ _ _ us ws h1 h2 => match us, ws, h1, h2 with | [_], [_, _, _], _, _ => rfl)⟩

end
end K14
namespace K14
open PySem PySem.Spec PyProof.Rows L2 C8
/-! ### trees -/
/-- expressions and conditions -/
inductive Tr where
  | num (n : Int) | name (x : Str) | n0 (k : Str) | n1 (k : Str) (a : Tr) | n2 (k : Str) (a b : Tr)
/-- statements; a draw's values with their weights, a choose's labels and their bodies -/
inductive Sm where
  | set (x : Str) (e : Tr) | iff (c : Tr) (t e : List Sm) | whl (c : Tr) (b : List Sm)
  | drw (x : Str) (ps : List (Nat × Nat)) | cho (ls : List Str) (bs : List (List Sm)) | cal (u : Str)

/-- an expression at most n deep -/
def IsX (ws : List Str) : Nat → Tr → Prop
  | 0, _ => False
  | _ + 1, .num i => 0 ≤ i ∧ i ≤ 99
  | _ + 1, .name x => x ∈ ws
  | n + 1, .n2 s l r => s ∈ signs ∧ IsX ws n l ∧ IsX ws n r
  | _ + 1, .n0 _ => False
  | _ + 1, .n1 _ _ => False
/-- a condition at most n deep -/
def IsC (ws : List Str) : Nat → Tr → Prop
  | 0, _ => False
  | _ + 1, .n0 k => k = "yes"
  | n + 1, .n1 k a => k = "not" ∧ IsC ws n a
  | n + 1, .n2 k a b => ((k = "less" ∨ k = "same") ∧ IsX ws n a ∧ IsX ws n b) ∨ ((k = "and" ∨ k = "or") ∧ IsC ws n a ∧ IsC ws n b)
  | _ + 1, .num _ => False
  | _ + 1, .name _ => False
theorem IsX.mono {ws : List Str} : ∀ {n m : Nat} {t : Tr}, IsX ws n t → n ≤ m → IsX ws m t
  | 0, _, _, h, _ => False.elim h
  | n + 1, 0, _, _, hm => absurd hm (by omega)
  | n + 1, m + 1, .num i, h, _ => h
  | n + 1, m + 1, .name x, h, _ => h
  | n + 1, m + 1, .n2 s l r, h, hm => ⟨h.1, h.2.1.mono (by omega), h.2.2.mono (by omega)⟩
  | n + 1, m + 1, .n0 _, h, _ => h
  | n + 1, m + 1, .n1 _ _, h, _ => h
theorem IsC.mono {ws : List Str} : ∀ {n m : Nat} {t : Tr}, IsC ws n t → n ≤ m → IsC ws m t
  | 0, _, _, h, _ => False.elim h
  | n + 1, 0, _, _, hm => absurd hm (by omega)
  | n + 1, m + 1, .n0 k, h, _ => h
  | n + 1, m + 1, .n1 k a, h, hm => ⟨h.1, h.2.mono (by omega)⟩
  | n + 1, m + 1, .n2 k a b, .inl h, hm => .inl ⟨h.1, h.2.1.mono (by omega), h.2.2.mono (by omega)⟩
  | n + 1, m + 1, .n2 k a b, .inr h, hm => .inr ⟨h.1, h.2.1.mono (by omega), h.2.2.mono (by omega)⟩
  | n + 1, m + 1, .num _, h, _ => h
  | n + 1, m + 1, .name _, h, _ => h
/-- a tree of either kind, at most n deep -/
def IsT (ws : List Str) : Nat → Tr → Prop
  | 0, _ => False
  | _ + 1, .num _ => True
  | _ + 1, .name x => x ∈ ws
  | _ + 1, .n0 k => k ≠ "name" ∧ k ≠ "num"
  | n + 1, .n1 k a => (k ≠ "name" ∧ k ≠ "num") ∧ IsT ws n a
  | n + 1, .n2 k a b => (k ≠ "name" ∧ k ≠ "num") ∧ IsT ws n a ∧ IsT ws n b
theorem sign_not {s : Str} (h : s ∈ signs) : s ≠ "name" ∧ s ≠ "num" := by
  have key : ∀ b ∈ signs, b ≠ "name" ∧ b ≠ "num" := by decide +kernel
  exact key s h
theorem IsX.tr {ws : List Str} : ∀ {n : Nat} {t : Tr}, IsX ws n t → IsT ws n t
  | 0, _, h => h
  | n + 1, .num i, h => trivial
  | n + 1, .name x, h => h
  | n + 1, .n2 s l r, h => ⟨sign_not h.1, h.2.1.tr, h.2.2.tr⟩
  | n + 1, .n0 _, h => False.elim h
  | n + 1, .n1 _ _, h => False.elim h
theorem IsC.tr {ws : List Str} : ∀ {n : Nat} {t : Tr}, IsC ws n t → IsT ws n t
  | 0, _, h => h
  | n + 1, .n0 k, h => by cases (show k = "yes" from h); exact ⟨by decide +kernel, by decide +kernel⟩
  | n + 1, .n1 k a, h => by obtain ⟨rfl, h2⟩ := h; exact ⟨⟨by decide +kernel, by decide +kernel⟩, h2.tr⟩
  | n + 1, .n2 k a b, .inl h => by
    obtain ⟨hk, h1, h2⟩ := h
    refine ⟨?_, h1.tr, h2.tr⟩
    rcases hk with rfl | rfl <;> exact ⟨by decide +kernel, by decide +kernel⟩
  | n + 1, .n2 k a b, .inr h => by
    obtain ⟨hk, h1, h2⟩ := h
    refine ⟨?_, h1.tr, h2.tr⟩
    rcases hk with rfl | rfl <;> exact ⟨by decide +kernel, by decide +kernel⟩
  | n + 1, .num _, h => False.elim h
  | n + 1, .name _, h => False.elim h

/-- the tree at v -/
def RepT (K : PySem.W.Frag) (H : Hp) : Tr → V → Prop
  | .num n, v => ∃ p, v = .ref p ∧ SqT K H p [.str "num", .int n]
  | .name x, v => ∃ p, v = .ref p ∧ SqT K H p [.str "name", .str x]
  | .n0 k, v => ∃ p, v = .ref p ∧ SqT K H p [.str k]
  | .n1 k a, v => ∃ p u, v = .ref p ∧ SqT K H p [.str k, u] ∧ RepT K H a u
  | .n2 k a b, v => ∃ p u1 u2, v = .ref p ∧ SqT K H p [.str k, u1, u2] ∧ RepT K H a u1 ∧ RepT K H b u2
/-- tuples stand for ever -/
def isT : HO → Bool
  | .tup _ => true
  | .frz _ (.tup _) => true
  | _ => false
def Kt (H H' : Hp) : Prop := ∀ a o, H a = some o → isT o = true → H' a = some o
theorem Kt.refl (H : Hp) : Kt H H := fun _ _ h _ => h
theorem Kt.trans {H H1 H2 : Hp} (a : Kt H H1) (b : Kt H1 H2) : Kt H H2 := fun x o h t => b x o (a x o h t) t
theorem kt {H H' : Hp} (e : Evl.Ex H H') : Kt H H' := fun a o h _ => e a o h
theorem Kt.upd {H : Hp} {f : Addr} {o u : HO} (h : H f = some u) (n : isT u = false) : Kt H (upd H f o) := fun a v h1 h2 => by
  have : a ≠ f := fun z => by
    rw [z, h] at h1
    cases h1
    rw [n] at h2
    cases h2
  rw [upd_ne this]; exact h1
theorem kt_t {K : PySem.W.Frag} {H H' : Hp} {p : Addr} {xs : List V} (e : Kt H H') (h : SqT K H p xs) : SqT K H' p xs := by
  rcases h with (h | ⟨o, h⟩) | h
  · exact .inl (.inl (e _ _ h rfl))
  · exact .inl (.inr ⟨o, e _ _ h rfl⟩)
  · exact .inr h
theorem RepT.kt {K : PySem.W.Frag} {H H' : Hp} (e : Kt H H') : ∀ {t : Tr} {v : V}, RepT K H t v → RepT K H' t v
  | .num n, v, ⟨p, h1, h2⟩ => ⟨p, h1, kt_t e h2⟩
  | .name x, v, ⟨p, h1, h2⟩ => ⟨p, h1, kt_t e h2⟩
  | .n0 k, v, ⟨p, h1, h2⟩ => ⟨p, h1, kt_t e h2⟩
  | .n1 k a, v, ⟨p, u, h1, h2, h3⟩ => ⟨p, u, h1, kt_t e h2, h3.kt e⟩
  | .n2 k a b, v, ⟨p, u1, u2, h1, h2, h3, h4⟩ => ⟨p, u1, u2, h1, kt_t e h2, h3.kt e, h4.kt e⟩
theorem RepT.ref {K : PySem.W.Frag} {H : Hp} : ∀ {t : Tr} {v : V}, RepT K H t v → ∃ p, v = .ref p
  | .num n, v, ⟨p, h1, h2⟩ => ⟨p, h1⟩
  | .name x, v, ⟨p, h1, h2⟩ => ⟨p, h1⟩
  | .n0 k, v, ⟨p, h1, h2⟩ => ⟨p, h1⟩
  | .n1 k a, v, ⟨p, u, h1, h2, h3⟩ => ⟨p, h1⟩
  | .n2 k a b, v, ⟨p, u1, u2, h1, h2, h3, h4⟩ => ⟨p, h1⟩
/-- a tuple whose object is known -/
def Fz (H : Hp) (q : Addr) (ps : List Addr) : Prop := ∃ o : Obj, H q = some (.frz o (.tup (ps.map V.ref))) ∧ o.dict = none
theorem Fz.kt {H H' : Hp} (e : Kt H H') {q : Addr} {ps : List Addr} (h : Fz H q ps) : Fz H' q ps := by
  obtain ⟨o, h1, h2⟩ := h
  exact ⟨o, e _ _ h1 rfl, h2⟩
theorem Fz.mono {H H' : Hp} (e : Evl.Ex H H') {q : Addr} {ps : List Addr} (h : Fz H q ps) : Fz H' q ps := h.kt (K14.kt e)
/-- the pairs of a draw at ps -/
def RepW (K : PySem.W.Frag) (H : Hp) : List (Nat × Nat) → List Addr → Prop
  | [], ps => ps = []
  | (v, w) :: r, ps => ∃ a q, ps = a :: q ∧ SqT K H a [.int (v : Int), .int (w : Int)] ∧ RepW K H r q
mutual
/-- the statement at v -/
def RepS (K : PySem.W.Frag) (H : Hp) : Sm → V → Prop
  | .set x e, v => ∃ p u, v = .ref p ∧ SqT K H p [.str "set", .str x, u] ∧ RepT K H e u
  | .iff c t e, v => ∃ p u bt be ts es, v = .ref p ∧ SqT K H p [.str "if", u, .ref bt, .ref be] ∧ RepT K H c u ∧ SqT K H bt ts ∧ SqT K H be es ∧ RepL K H t ts ∧ RepL K H e es
  | .whl c b, v => ∃ p u bb bs, v = .ref p ∧ SqT K H p [.str "while", u, .ref bb] ∧ RepT K H c u ∧ SqT K H bb bs ∧ RepL K H b bs
  | .drw x ws, v => ∃ p q ps, v = .ref p ∧ SqT K H p [.str "draw", .str x, .ref q] ∧ SqT K H q (ps.map V.ref) ∧ Fz H q ps ∧ RepW K H ws ps
  | .cho ls bs, v => ∃ p q ps, v = .ref p ∧ SqT K H p [.str "choose", .ref q] ∧ SqT K H q (ps.map V.ref) ∧ Fz H q ps ∧ RepP K H ls bs ps
  | .cal u, v => ∃ p, v = .ref p ∧ SqT K H p [.str "call", .str u]
def RepL (K : PySem.W.Frag) (H : Hp) : List Sm → List V → Prop
  | [], us => us = []
  | s :: b, us => ∃ u r, us = u :: r ∧ RepS K H s u ∧ RepL K H b r
/-- the pairs of a choose at ps -/
def RepP (K : PySem.W.Frag) (H : Hp) : List Str → List (List Sm) → List Addr → Prop
  | [], [], ps => ps = []
  | l :: ls, b :: bs, ps => ∃ a r bt us, ps = a :: r ∧ SqT K H a [.str l, .ref bt] ∧ SqT K H bt us ∧ RepL K H b us ∧ RepP K H ls bs r
  | [], _ :: _, _ => False
  | _ :: _, [], _ => False
end
theorem RepW.kt {K : PySem.W.Frag} {H H' : Hp} (e : Kt H H') : ∀ {ws : List (Nat × Nat)} {ps : List Addr}, RepW K H ws ps → RepW K H' ws ps
  | [], _, h => h
  | (v, w) :: r, ps, ⟨a, q, h1, h2, h3⟩ => ⟨a, q, h1, kt_t e h2, h3.kt e⟩
mutual
theorem RepS.kt {K : PySem.W.Frag} {H H' : Hp} (e : Kt H H') : ∀ {s : Sm} {v : V}, RepS K H s v → RepS K H' s v
  | .set x t, v, h => by
    simp only [RepS] at h ⊢
    obtain ⟨p, u, h1, h2, h3⟩ := h
    exact ⟨p, u, h1, kt_t e h2, h3.kt e⟩
  | .iff c t f, v, h => by
    simp only [RepS] at h ⊢
    obtain ⟨p, u, bt, be, ts, es, h1, h2, h3, h4, h5, h6, h7⟩ := h
    exact ⟨p, u, bt, be, ts, es, h1, kt_t e h2, h3.kt e, kt_t e h4, kt_t e h5, RepL.kt e h6, RepL.kt e h7⟩
  | .whl c b, v, h => by
    simp only [RepS] at h ⊢
    obtain ⟨p, u, bb, bs, h1, h2, h3, h4, h5⟩ := h
    exact ⟨p, u, bb, bs, h1, kt_t e h2, h3.kt e, kt_t e h4, RepL.kt e h5⟩
  | .drw x ws, v, h => by
    simp only [RepS] at h ⊢
    obtain ⟨p, q, ps, h1, h2, h3, hz, h4⟩ := h
    exact ⟨p, q, ps, h1, kt_t e h2, kt_t e h3, hz.kt e, h4.kt e⟩
  | .cho ls bs, v, h => by
    simp only [RepS] at h ⊢
    obtain ⟨p, q, ps, h1, h2, h3, hz, h4⟩ := h
    exact ⟨p, q, ps, h1, kt_t e h2, kt_t e h3, hz.kt e, RepP.kt e h4⟩
  | .cal u, v, h => by
    simp only [RepS] at h ⊢
    obtain ⟨p, h1, h2⟩ := h
    exact ⟨p, h1, kt_t e h2⟩
theorem RepL.kt {K : PySem.W.Frag} {H H' : Hp} (e : Kt H H') : ∀ {b : List Sm} {us : List V}, RepL K H b us → RepL K H' b us
  | [], us, h => by simp only [RepL] at h ⊢; exact h
  | s :: b, us, h => by
    simp only [RepL] at h ⊢
    obtain ⟨u, r, h1, h2, h3⟩ := h
    exact ⟨u, r, h1, RepS.kt e h2, RepL.kt e h3⟩
theorem RepP.kt {K : PySem.W.Frag} {H H' : Hp} (e : Kt H H') : ∀ {ls : List Str} {bs : List (List Sm)} {ps : List Addr}, RepP K H ls bs ps → RepP K H' ls bs ps
  | [], [], ps, h => by simp only [RepP] at h ⊢; exact h
  | l :: ls, b :: bs, ps, h => by
    simp only [RepP] at h ⊢
    obtain ⟨a, r, bt, us, h1, h2, h3, h4, h5⟩ := h
    exact ⟨a, r, bt, us, h1, kt_t e h2, kt_t e h3, RepL.kt e h4, RepP.kt e h5⟩
  | [], _ :: _, ps, h => by simp only [RepP] at h
  | _ :: _, [], ps, h => by simp only [RepP] at h
end
theorem RepT.mono {K : PySem.W.Frag} {H H' : Hp} (e : Evl.Ex H H') {t : Tr} {v : V} (h : RepT K H t v) : RepT K H' t v := h.kt (K14.kt e)
theorem RepS.mono {K : PySem.W.Frag} {H H' : Hp} (e : Evl.Ex H H') {s : Sm} {v : V} (h : RepS K H s v) : RepS K H' s v := h.kt (K14.kt e)
theorem RepL.mono {K : PySem.W.Frag} {H H' : Hp} (e : Evl.Ex H H') {b : List Sm} {us : List V} (h : RepL K H b us) : RepL K H' b us := h.kt (K14.kt e)
theorem RepS.ref {K : PySem.W.Frag} {H : Hp} : ∀ {s : Sm} {v : V}, RepS K H s v → ∃ p, v = .ref p
  | .set x t, v, h => by simp only [RepS] at h; obtain ⟨p, _, h1, _⟩ := h; exact ⟨p, h1⟩
  | .iff c t f, v, h => by simp only [RepS] at h; obtain ⟨p, _, _, _, _, _, h1, _⟩ := h; exact ⟨p, h1⟩
  | .whl c b, v, h => by simp only [RepS] at h; obtain ⟨p, _, _, _, h1, _⟩ := h; exact ⟨p, h1⟩
  | .drw x ws, v, h => by simp only [RepS] at h; obtain ⟨p, _, _, h1, _⟩ := h; exact ⟨p, h1⟩
  | .cho ls bs, v, h => by simp only [RepS] at h; obtain ⟨p, _, _, h1, _⟩ := h; exact ⟨p, h1⟩
  | .cal u, v, h => by simp only [RepS] at h; obtain ⟨p, h1, _⟩ := h; exact ⟨p, h1⟩
theorem RepL.length {K : PySem.W.Frag} {H : Hp} : ∀ {b : List Sm} {us : List V}, RepL K H b us → us.length = b.length
  | [], us, h => by simp only [RepL] at h; rw [h]; rfl
  | s :: b, us, h => by
    simp only [RepL] at h
    obtain ⟨u, r, h1, h2, h3⟩ := h
    rw [h1, List.length_cons, List.length_cons, RepL.length h3]
theorem RepL.get {K : PySem.W.Frag} {H : Hp} : ∀ {b : List Sm} {us : List V}, RepL K H b us → ∀ {i : Nat} {u : V}, us[i]? = some u → ∃ s, b[i]? = some s ∧ RepS K H s u
  | [], us, h, i, u, hu => by simp only [RepL] at h; rw [h] at hu; simp at hu
  | s :: b, us, h, 0, u, hu => by
    simp only [RepL] at h
    obtain ⟨u', r, h1, h2, h3⟩ := h
    rw [h1] at hu
    cases hu
    exact ⟨s, rfl, h2⟩
  | s :: b, us, h, i + 1, u, hu => by
    simp only [RepL] at h
    obtain ⟨u', r, h1, h2, h3⟩ := h
    rw [h1] at hu
    exact RepL.get h3 hu
theorem RepL.drop {K : PySem.W.Frag} {H : Hp} : ∀ {b : List Sm} {us : List V}, RepL K H b us → ∀ i, RepL K H (b.drop i) (us.drop i)
  | b, us, h, 0 => h
  | [], us, h, i + 1 => by simp only [RepL] at h; rw [h]; simp [RepL]
  | s :: b, us, h, i + 1 => by
    simp only [RepL] at h
    obtain ⟨u', r, h1, h2, h3⟩ := h
    rw [h1]
    exact RepL.drop h3 i
theorem RepL.app {K : PySem.W.Frag} {H : Hp} : ∀ {b c : List Sm} {us vs : List V}, RepL K H b us → RepL K H c vs → RepL K H (b ++ c) (us ++ vs)
  | [], c, us, vs, h, g => by simp only [RepL] at h; rw [h]; exact g
  | s :: b, c, us, vs, h, g => by
    simp only [RepL] at h
    obtain ⟨u', r, h1, h2, h3⟩ := h
    rw [h1]
    show RepL K H (s :: (b ++ c)) (u' :: (r ++ vs))
    simp only [RepL]
    exact ⟨u', _, rfl, h2, RepL.app h3 g⟩
theorem RepL.one {K : PySem.W.Frag} {H : Hp} {s : Sm} {u : V} (h : RepS K H s u) : RepL K H [s] [u] := by
  simp only [RepL]
  exact ⟨u, [], rfl, h, rfl⟩
/-- a body at p -/
def RepB (K : PySem.W.Frag) (H : Hp) (b : List Sm) (p : Addr) : Prop := ∃ us, SqT K H p us ∧ RepL K H b us
theorem RepB.kt {K : PySem.W.Frag} {H H' : Hp} (e : Kt H H') {b : List Sm} {p : Addr} (h : RepB K H b p) : RepB K H' b p := by
  obtain ⟨us, h1, h2⟩ := h
  exact ⟨us, kt_t e h1, h2.kt e⟩
theorem RepB.mono {K : PySem.W.Frag} {H H' : Hp} (e : Evl.Ex H H') {b : List Sm} {p : Addr} (h : RepB K H b p) : RepB K H' b p := by
  obtain ⟨us, h1, h2⟩ := h
  exact ⟨us, Evl.ex_t e h1, h2.mono e⟩
/-- the bodies of a statement -/
def kids : Sm → List (List Sm)
  | .iff _ t e => [t, e]
  | .whl _ b => [b]
  | .cho _ bs => bs
  | _ => []
mutual
def cntS : Sm → Nat
  | .set _ _ => 1
  | .iff _ t e => 1 + (cntL t + cntL e)
  | .whl _ b => 1 + cntL b
  | .drw _ _ => 1
  | .cho _ bs => 1 + cntB bs
  | .cal _ => 1
def cntL : List Sm → Nat
  | [] => 0
  | s :: b => cntS s + cntL b
def cntB : List (List Sm) → Nat
  | [] => 0
  | b :: bs => cntL b + cntB bs
end
/-- a draw's pairs: 2 or 3 values, each once, below the size -/
def OkW (sz : Nat) (ws : List (Nat × Nat)) : Prop := 2 ≤ ws.length ∧ ws.length ≤ 3 ∧ (ws.map (·.1)).Nodup ∧ ∀ p ∈ ws, p.1 < sz ∧ p.1 ≤ 5 ∧ 1 ≤ p.2 ∧ p.2 ≤ 12
mutual
/-- names and depths as they should be; sz: the sizes, ah: what may be called; at most n bodies deep, l loops deep -/
def OkS (ws : List Str) (sz : Str → Nat) (ah : List Str) : Nat → Nat → Sm → Prop
  | _, _, .set x e => x ∈ ws ∧ IsX ws 6 e
  | n + 1, l, .iff c t e => IsC ws 6 c ∧ OkL ws sz ah n l t ∧ OkL ws sz ah n l e
  | n + 1, l + 1, .whl c b => IsC ws 6 c ∧ OkL ws sz ah n l b
  | _, _, .drw x ps => x ∈ ws ∧ OkW (sz x) ps
  | n + 1, l, .cho ls bs => 2 ≤ ls.length ∧ ls.length ≤ 3 ∧ ls.length = bs.length ∧ ls.Nodup ∧ (∀ z ∈ ls, WordOk z) ∧ OkB ws sz ah n l bs
  | _, _, .cal u => u ∈ ah ∧ WordOk u
  | _, _, _ => False
def OkL (ws : List Str) (sz : Str → Nat) (ah : List Str) : Nat → Nat → List Sm → Prop
  | _, _, [] => True
  | n, l, s :: b => OkS ws sz ah n l s ∧ OkL ws sz ah n l b
def OkB (ws : List Str) (sz : Str → Nat) (ah : List Str) : Nat → Nat → List (List Sm) → Prop
  | _, _, [] => True
  | n, l, b :: bs => OkL ws sz ah n l b ∧ OkB ws sz ah n l bs
end
theorem cntL_app : ∀ (a b : List Sm), cntL (a ++ b) = cntL a + cntL b
  | [], b => by simp [cntL]
  | s :: a, b => by
    show cntS s + cntL (a ++ b) = _
    rw [cntL_app a b]
    simp only [cntL]
    omega
theorem cntS_pos : ∀ s : Sm, 1 ≤ cntS s
  | .set _ _ => by simp [cntS]
  | .iff _ t e => by simp only [cntS]; omega
  | .whl _ b => by simp only [cntS]; omega
  | .drw _ _ => by simp [cntS]
  | .cho _ _ => by simp only [cntS]; omega
  | .cal _ => by simp [cntS]
theorem cntL_len : ∀ b : List Sm, b.length ≤ cntL b
  | [] => by simp
  | s :: b => by
    have := cntL_len b
    have := cntS_pos s
    simp only [cntL, List.length_cons]
    omega
theorem cntL_mem : ∀ {b : List Sm} {s : Sm}, s ∈ b → cntS s ≤ cntL b
  | t :: b, s, h => by
    simp only [cntL]
    rcases List.mem_cons.mp h with rfl | h
    · omega
    · have := cntL_mem h
      omega
theorem cntB_mem : ∀ {bs : List (List Sm)} {b : List Sm}, b ∈ bs → cntL b ≤ cntB bs
  | t :: bs, b, h => by
    simp only [cntB]
    rcases List.mem_cons.mp h with rfl | h
    · omega
    · have := cntB_mem h
      omega
theorem cntB_kids (s : Sm) : cntB (kids s) + 1 = cntS s := by
  cases s <;> simp only [kids, cntB, cntS] <;> omega
section
variable {ws : List Str} {sz : Str → Nat} {ah : List Str} {n l : Nat}
theorem OkL.get : ∀ {b : List Sm}, OkL ws sz ah n l b → ∀ {s : Sm}, s ∈ b → OkS ws sz ah n l s
  | [], _, s, h => by cases h
  | t :: b, hb, s, h => by
    simp only [OkL] at hb
    rcases List.mem_cons.mp h with rfl | h
    · exact hb.1
    · exact OkL.get hb.2 h
theorem OkL.of : ∀ {b : List Sm}, (∀ s ∈ b, OkS ws sz ah n l s) → OkL ws sz ah n l b
  | [], _ => by simp [OkL]
  | t :: b, h => by
    simp only [OkL]
    exact ⟨h t (List.mem_cons_self ..), OkL.of fun s hs => h s (List.mem_cons_of_mem _ hs)⟩
theorem OkB.get : ∀ {bs : List (List Sm)}, OkB ws sz ah n l bs → ∀ {b : List Sm}, b ∈ bs → OkL ws sz ah n l b
  | [], _, s, h => by cases h
  | t :: b, hb, s, h => by
    simp only [OkB] at hb
    rcases List.mem_cons.mp h with rfl | h
    · exact hb.1
    · exact OkB.get hb.2 h
theorem OkB.of : ∀ {bs : List (List Sm)}, (∀ b ∈ bs, OkL ws sz ah n l b) → OkB ws sz ah n l bs
  | [], _ => by simp [OkB]
  | t :: b, h => by
    simp only [OkB]
    exact ⟨h t (List.mem_cons_self ..), OkB.of fun s hs => h s (List.mem_cons_of_mem _ hs)⟩
theorem kids_ok {s : Sm} (h : OkS ws sz ah n l s) : ∀ b ∈ kids s, ∃ m l', n = m + 1 ∧ OkL ws sz ah m l' b ∧ l' ≤ l := by
  intro b hb
  cases s with
  | set x e => cases hb
  | drw x e => cases hb
  | cal x => cases hb
  | iff c t e =>
    cases n with
    | zero => simp [OkS] at h
    | succ m =>
      simp only [OkS] at h
      simp only [kids, List.mem_cons, List.not_mem_nil, or_false] at hb
      rcases hb with rfl | rfl
      · exact ⟨m, l, rfl, h.2.1, Nat.le_refl _⟩
      · exact ⟨m, l, rfl, h.2.2, Nat.le_refl _⟩
  | whl c t =>
    cases n with
    | zero => cases l <;> simp [OkS] at h
    | succ m =>
      cases l with
      | zero => simp [OkS] at h
      | succ l =>
        simp only [OkS] at h
        simp only [kids, List.mem_cons, List.not_mem_nil, or_false] at hb
        subst hb
        exact ⟨m, l, rfl, h.2, Nat.le_succ _⟩
  | cho ls bs =>
    cases n with
    | zero => simp [OkS] at h
    | succ m =>
      simp only [OkS] at h
      exact ⟨m, l, rfl, OkB.get h.2.2.2.2.2 hb, Nat.le_refl _⟩
end
theorem RepW.get {K : PySem.W.Frag} {H : Hp} : ∀ {ws : List (Nat × Nat)} {ps : List Addr}, RepW K H ws ps → ∀ {i : Nat} {a : Addr}, ps[i]? = some a → ∃ p, ws[i]? = some p ∧ SqT K H a [.int (p.1 : Int), .int (p.2 : Int)]
  | [], ps, h, i, a, ha => by rw [show ps = [] from h] at ha; simp at ha
  | (v, w) :: r, ps, ⟨b, q, h1, h2, h3⟩, 0, a, ha => by rw [h1] at ha; cases ha; exact ⟨_, rfl, h2⟩
  | (v, w) :: r, ps, ⟨b, q, h1, h2, h3⟩, i + 1, a, ha => by rw [h1] at ha; exact h3.get ha
theorem RepW.length {K : PySem.W.Frag} {H : Hp} : ∀ {ws : List (Nat × Nat)} {ps : List Addr}, RepW K H ws ps → ws.length = ps.length
  | [], ps, h => by rw [show ps = [] from h]; rfl
  | (v, w) :: r, ps, ⟨b, q, h1, h2, h3⟩ => by rw [h1, List.length_cons, List.length_cons, h3.length]
theorem RepW.mono {K : PySem.W.Frag} {H H' : Hp} (e : Evl.Ex H H') {ws : List (Nat × Nat)} {ps : List Addr} (h : RepW K H ws ps) : RepW K H' ws ps := h.kt (K14.kt e)
theorem RepP.mono {K : PySem.W.Frag} {H H' : Hp} (e : Evl.Ex H H') {ls : List Str} {bs : List (List Sm)} {ps : List Addr} (h : RepP K H ls bs ps) : RepP K H' ls bs ps := h.kt (K14.kt e)
theorem RepP.get {K : PySem.W.Frag} {H : Hp} : ∀ {ls : List Str} {bs : List (List Sm)} {ps : List Addr}, RepP K H ls bs ps → ∀ {i : Nat} {a : Addr}, ps[i]? = some a → ∃ l b bt us, ls[i]? = some l ∧ bs[i]? = some b ∧ SqT K H a [.str l, .ref bt] ∧ SqT K H bt us ∧ RepL K H b us
  | [], [], ps, h, i, a, ha => by simp only [RepP] at h; rw [h] at ha; simp at ha
  | l :: ls, b :: bs, ps, h, 0, a, ha => by
    simp only [RepP] at h
    obtain ⟨a', r, bt, us, h1, h2, h3, h4, h5⟩ := h
    rw [h1] at ha
    cases ha
    exact ⟨l, b, bt, us, rfl, rfl, h2, h3, h4⟩
  | l :: ls, b :: bs, ps, h, i + 1, a, ha => by
    simp only [RepP] at h
    obtain ⟨a', r, bt, us, h1, h2, h3, h4, h5⟩ := h
    rw [h1] at ha
    exact RepP.get h5 ha
  | [], _ :: _, ps, h, i, a, ha => by simp only [RepP] at h
  | _ :: _, [], ps, h, i, a, ha => by simp only [RepP] at h
theorem RepP.length {K : PySem.W.Frag} {H : Hp} : ∀ {ls : List Str} {bs : List (List Sm)} {ps : List Addr}, RepP K H ls bs ps → ls.length = ps.length ∧ bs.length = ps.length
  | [], [], ps, h => by simp only [RepP] at h; rw [h]; exact ⟨rfl, rfl⟩
  | l :: ls, b :: bs, ps, h => by
    simp only [RepP] at h
    obtain ⟨a', r, bt, us, h1, h2, h3, h4, h5⟩ := h
    have := RepP.length h5
    rw [h1]
    simp only [List.length_cons]
    omega
  | [], _ :: _, ps, h => by simp only [RepP] at h
  | _ :: _, [], ps, h => by simp only [RepP] at h
/-- a choose's bodies have places -/
theorem RepP.bodies {K : PySem.W.Frag} {H : Hp} : ∀ {ls : List Str} {bs : List (List Sm)} {ps : List Addr}, RepP K H ls bs ps → ∃ qs : List Addr, qs.length = ps.length ∧ (∀ (i : Nat) (a : Addr), ps[i]? = some a → ∃ (l : Str) (q : Addr), ls[i]? = some l ∧ qs[i]? = some q ∧ SqT K H a [.str l, .ref q]) ∧ Paired (fun b p => RepB K H b p) bs qs
  | [], [], ps, h => by
    simp only [RepP] at h
    rw [h]
    exact ⟨[], rfl, fun i a ha => by simp at ha, .nil⟩
  | l :: ls, b :: bs, ps, h => by
    simp only [RepP] at h
    obtain ⟨a', r, bt, us, h1, h2, h3, h4, h5⟩ := h
    obtain ⟨qs, g1, g2, g3⟩ := RepP.bodies h5
    rw [h1]
    refine ⟨bt :: qs, by simp [g1], fun i a ha => ?_, .cons ⟨us, h3, h4⟩ g3⟩
    cases i with
    | zero => cases ha; exact ⟨l, bt, rfl, rfl, h2⟩
    | succ i => exact g2 i a ha
  | [], _ :: _, ps, h => by simp only [RepP] at h
  | _ :: _, [], ps, h => by simp only [RepP] at h
theorem bs_mono {K : PySem.W.Frag} {H H' : Hp} (e : Evl.Ex H H') : ∀ {bs : List (List Sm)} {ps : List Addr}, Paired (fun b p => RepB K H b p) bs ps → Paired (fun b p => RepB K H' b p) bs ps
  | _, _, .nil => .nil
  | _, _, .cons h t => .cons (h.mono e) (bs_mono e t)
end K14
namespace K14
open PySem PySem.Spec PyProof.Rows L2 C8

theorem ty_t {K : PySem.W.Frag} {H : Hp} {a : Addr} {xs : List V} (h : SqT K H a xs) : TyX K H (.ref a) (.type "tuple") := by
  rcases h with (h | ⟨o, h⟩) | ⟨o, its, n, h1, h2, _⟩
  · exact .base (.tup h)
  · exact .fTuple h
  · exact .kTuple h1 h2
theorem iteFo {b : Bool} {A B : Prop} (h : b = false) (q : B) : if b = true then A else B := by rw [h]; exact q
theorem iteTo {b : Bool} {A B : Prop} (h : b = true) (q : A) : if b = true then A else B := by rw [h]; exact q
theorem sign_in {s : Str} (h : s ∈ signs) : inV (.str s) (signs.map V.str) = true := by
  have key : ∀ b ∈ signs, inV (.str b) (signs.map V.str) = true := by decide +kernel
  exact key s h
theorem eqV_str_ne {a b : Str} (h : a ≠ b) : eqV (.str a) (.str b) = false := by
  simp only [eqV]
  exact beq_eq_false_iff_ne.mpr h
section
variable {P : Program} {w : World} {K : PySem.W.Frag} {mg : Str → Option Value} {base : Heap} {ws : List Str}
abbrev N_is_tuple_of : List Str := ["value", "many"]
theorem sc_is_tuple_of : FnScope N_is_tuple_of ["value", "many"] (defScope (top 39)) := ⟨rfl, rfl, rfl, by decide +kernel, rfl, by decide +kernel, by decide +kernel⟩
def spTupleOf (K : PySem.W.Frag) : Sp := fun vs H Q _ => ∃ (a : Addr) (xs : List V) (n : Int), vs = [.ref a, .int n] ∧ SqT K H a xs ∧ Q (.bl (decide ((xs.length : Int) = n))) H
theorem ok_is_tuple_of (T : Txt K mg)  : Cal P w K mg base 1 "is_tuple_of" (spTupleOf K) [] := by
  obtain ⟨fd, F⟩ := T.d_is_tuple_of
  refine ⟨_, fd, ["value", "many"], [], ?_, T.g_is_tuple_of, F.kp, F.bindsN fun _ _ _ _ _ _ us hl => match us, hl with | [_, _], _ => rfl, .nil⟩
  refine F.ok sc_is_tuple_of (fun vs H Q E h => by obtain ⟨_, _, _, rfl, _⟩ := h; rfl) (fun cdv A outer s H vs Q E hr h => ?_)
  have hu := hu_of hr
  refine ⟨_, PSs.nox (pss_one (ps_ret (pe_and (pe_callB call_isi (by rfl) T.f_isinstance (by decide +kernel) (pa_cons (pv 0) (pa_cons (pe_bltn (v := .ty "tuple") (u := .type "tuple") (by rfl) T.f_tuple (by decide +kernel) rfl) pa_nil))) (pe_one (pe_cmpR op_eq (pe_callB call_len_seq (by rfl) T.f_len (by decide +kernel) (pa_cons (pv 0) pa_nil)) (pv 1) (nomark _)))))), ?_⟩
  obtain ⟨a, xs, n, rfl, hS, hQ⟩ := h
  refine ⟨_, rfl, _, _, _, _, _, rfl, ClsV.ty _, ty_t hS, kit_ty (r := true) (by decide +kernel), _, rfl, ?_⟩
  refine ⟨_, rfl, a, xs, rfl, .inr hS, _, rfl, ?_⟩
  refine ⟨rfl, ?_⟩
  have e : decide (V.int (xs.length : Int) = V.int n) = decide ((xs.length : Int) = n) := by simp
  rw [e]
  exact hQ

abbrev N_is_expression : List Str := ["value", "depth"]
theorem sc_is_expression : FnScope N_is_expression ["value", "depth"] (defScope (top 40)) := ⟨rfl, rfl, rfl, by decide +kernel, rfl, by decide +kernel, by decide +kernel⟩
/-- an expression of words ws, at most n deep -/
def spX (K : PySem.W.Frag) (ws : List Str) (n : Nat) : Sp := fun vs H Q _ => (∀ z ∈ ws, WordOk z) ∧ ∃ (t : Tr) (u : V) (d : Int), vs = [u, .int d] ∧ RepT K H t u ∧ IsX ws n t ∧ (n : Int) ≤ d ∧ ∀ H', Ex H H' → Q (.bl true) H'
theorem ok0_is_expression (T : Txt K mg) : Cal P w K mg base 3 "is_expression" (spX K ws 0) [] := by
  obtain ⟨fd, F⟩ := T.d_is_expression
  refine ⟨_, fd, ["value", "depth"], [], ?_, T.g_is_expression, F.kp, F.bindsN fun _ _ _ _ _ _ us hl => match us, hl with | [_, _], _ => rfl, .nil⟩
  refine F.ok sc_is_expression (fun vs H Q E h => False.elim ((fun h => by obtain ⟨_, _, _, _, _, _, hX, _⟩ := h; exact hX) h)) (fun cdv A outer s H vs Q E hr h => False.elim ((fun h => by obtain ⟨_, _, _, _, _, _, hX, _⟩ := h; exact hX) h))
theorem st_is_expression (T : Txt K mg) (C_is_word : Cal P w K mg base 1 "is_word" spWord []) (C_is_whole_from : Cal P w K mg base 2 "is_whole_from" spWholeFrom []) {n : Nat} (C_is_expression : Cal P w K mg base (n + 3) "is_expression" (spX K ws n) []) : Cal P w K mg base (n + 4) "is_expression" (spX K ws (n + 1)) [] := by
  obtain ⟨fd, F⟩ := T.d_is_expression
  refine ⟨_, fd, ["value", "depth"], [], ?_, T.g_is_expression, F.kp, F.bindsN fun _ _ _ _ _ _ us hl => match us, hl with | [_, _], _ => rfl, .nil⟩
  refine F.ok sc_is_expression (fun vs H Q E h => by obtain ⟨_, _, _, _, rfl, _⟩ := h; rfl) (fun cdv A outer s H vs Q E hr h => ?_)
  have hu := hu_of hr
  refine ⟨_, PSs.nox (pss_cons (ps_if (PW.pt (pw_or (pt_cmpR op_lt (pv 1) pe_int (nomark _)) (pw_or1 (pt_not (pt_val (pe_callB call_isi (by rfl) T.f_isinstance (by decide +kernel) (pa_cons (pv 0) (pa_cons (pe_bltn (v := .ty "tuple") (u := .type "tuple") (by rfl) T.f_tuple (by decide +kernel) rfl) pa_nil)))))))) (pss_one (ps_ret pe_bl)) pss_nil)
      (pss_cons (ps_if (pt_cmpR op_eq (pe_callB call_len_seq (by rfl) T.f_len (by decide +kernel) (pa_cons (pv 0) pa_nil)) pe_int (nomark _)) (pss_cons (ps_if (pt_cmpR op_eq (pe_ix ix_tup (pv 0) pe_int (fun _ _ => rfl)) pe_str (nomark _)) (pss_one (ps_ret (pe_c C_is_whole_from hr (by omega) rfl (pa_cons (pe_ix ix_tup (pv 0) pe_int (fun _ _ => rfl)) (pa_cons pe_int (pa_cons (pe_gc rfl T.c_GREATEST_NUM) pa_nil)))))) pss_nil)
      (pss_one (ps_ret (pe_and (pe_cmpR op_eq (pe_ix ix_tup (pv 0) pe_int (fun _ _ => rfl)) pe_str (nomark _)) (pe_one (pe_c C_is_word hr (by omega) rfl (pa_cons (pe_ix ix_tup (pv 0) pe_int (fun _ _ => rfl)) pa_nil))))))) pss_nil)
      (pss_cons (ps_if (PW.pt (pw_or (pt_cmpR op_ne (pe_callB call_len_seq (by rfl) T.f_len (by decide +kernel) (pa_cons (pv 0) pa_nil)) pe_int (nomark _)) (pw_or1 (pt_cmpR op_notIn_seq (pe_ix ix_tup (pv 0) pe_int (fun _ _ => rfl)) (pe_gc rfl T.c_SIGNS) rfl)))) (pss_one (ps_ret pe_bl)) pss_nil)
      (pss_one (ps_ret (pe_and (pe_c C_is_expression hr (by omega) rfl (pa_cons (pe_ix ix_tup (pv 0) pe_int (fun _ _ => rfl)) (pa_cons (pe_op op_sub (pv 1) pe_int) pa_nil))) (pe_one (pe_c C_is_expression hr (by omega) rfl (pa_cons (pe_ix ix_tup (pv 0) pe_int (fun _ _ => rfl)) (pa_cons (pe_op op_sub (pv 1) pe_int) pa_nil)))))))))), ?_⟩
  obtain ⟨hws, t, u, d, rfl, hR, hX, hd, hQ⟩ := h
  cases t with
  | n0 k => exact False.elim hX
  | n1 k a => exact False.elim hX
  | num i =>
    obtain ⟨p, rfl, hp⟩ := hR
    refine ⟨_, rfl, _, _, rfl, rfl, _, rfl, iteFo (decide_eq_false (by omega)) ?_⟩
    refine ⟨_, rfl, _, _, _, _, _, rfl, ClsV.ty _, ty_t hp, kit_ty (r := true) (by decide +kernel), _, rfl, ?_⟩
    refine ⟨_, rfl, p, _, rfl, .inr hp, rfl, _, rfl, ?_⟩
    refine ⟨_, rfl, p, _, 0, _, rfl, rfl, hp, rfl, rfl, _, rfl, ?_⟩
    refine ⟨_, rfl, p, _, 1, _, rfl, rfl, hp, rfl, i, 0, 99, rfl, ?_⟩
    have hX : 0 ≤ i ∧ i ≤ 99 := hX
    rw [decide_eq_true hX.1, decide_eq_true hX.2]
    exact hQ H (Evl.Ex.refl H)
  | name x =>
    obtain ⟨p, rfl, hp⟩ := hR
    have hX : x ∈ ws := hX
    refine ⟨_, rfl, _, _, rfl, rfl, _, rfl, iteFo (decide_eq_false (by omega)) ?_⟩
    refine ⟨_, rfl, _, _, _, _, _, rfl, ClsV.ty _, ty_t hp, kit_ty (r := true) (by decide +kernel), _, rfl, ?_⟩
    refine ⟨_, rfl, p, _, rfl, .inr hp, rfl, _, rfl, ?_⟩
    refine ⟨_, rfl, p, _, 0, _, rfl, rfl, hp, rfl, rfl, _, rfl, ?_⟩
    refine ⟨_, rfl, p, _, 0, _, rfl, rfl, hp, rfl, rfl, _, rfl, ?_⟩
    refine ⟨_, rfl, p, _, 1, _, rfl, rfl, hp, rfl, x, rfl, hws x hX, fun H1 e1 => ?_⟩
    exact hQ H1 e1
  | n2 s l r =>
    obtain ⟨p, u1, u2, rfl, hp, h1, h2⟩ := hR
    obtain ⟨hs, x1, x2⟩ := hX
    refine ⟨_, rfl, _, _, rfl, rfl, _, rfl, iteFo (decide_eq_false (by omega)) ?_⟩
    refine ⟨_, rfl, _, _, _, _, _, rfl, ClsV.ty _, ty_t hp, kit_ty (r := true) (by decide +kernel), _, rfl, ?_⟩
    refine ⟨_, rfl, p, _, rfl, .inr hp, rfl, _, rfl, ?_⟩
    refine ⟨_, rfl, p, _, rfl, .inr hp, rfl, _, rfl, ?_⟩
    refine ⟨_, rfl, p, _, 0, _, rfl, rfl, hp, rfl, He.ga K "SIGNS", signs.map V.str, rfl, .inr (T.t_SG _), rfl, by decide +kernel, ?_⟩
    rw [sign_in hs]
    refine ⟨_, rfl, _, rfl, p, _, 1, _, rfl, rfl, hp, rfl, _, rfl, _, _, rfl, rfl, ?_⟩
    refine ⟨hws, l, u1, d - 1, rfl, h1, x1, by omega, fun H1 e1 => ⟨_, rfl, ?_⟩⟩
    refine ⟨_, rfl, p, _, 2, _, rfl, rfl, Evl.ex_t e1 hp, rfl, _, rfl, _, _, rfl, rfl, ?_⟩
    exact ⟨hws, r, u2, d - 1, rfl, h2.mono e1, x2, by omega, fun H2 e2 => hQ H2 (e1.trans e2)⟩
theorem ok_is_expression (T : Txt K mg) (C_is_word : Cal P w K mg base 1 "is_word" spWord []) (C_is_whole_from : Cal P w K mg base 2 "is_whole_from" spWholeFrom []) : ∀ n, Cal P w K mg base (n + 3) "is_expression" (spX K ws n) []
  | 0 => ok0_is_expression T
  | n + 1 => st_is_expression T C_is_word C_is_whole_from (ok_is_expression T C_is_word C_is_whole_from n)

abbrev N_is_condition : List Str := ["value", "depth"]
theorem sc_is_condition : FnScope N_is_condition ["value", "depth"] (defScope (top 41)) := ⟨rfl, rfl, rfl, by decide +kernel, rfl, by decide +kernel, by decide +kernel⟩
/-- a condition of words ws, at most n deep -/
def spC (K : PySem.W.Frag) (ws : List Str) (n : Nat) : Sp := fun vs H Q _ => (∀ z ∈ ws, WordOk z) ∧ ∃ (t : Tr) (u : V) (d : Int), vs = [u, .int d] ∧ RepT K H t u ∧ IsC ws n t ∧ (n : Int) ≤ d ∧ ∀ H', Ex H H' → Q (.bl true) H'
theorem ok0_is_condition (T : Txt K mg) : Cal P w K mg base 3 "is_condition" (spC K ws 0) [] := by
  obtain ⟨fd, F⟩ := T.d_is_condition
  refine ⟨_, fd, ["value", "depth"], [], ?_, T.g_is_condition, F.kp, F.bindsN fun _ _ _ _ _ _ us hl => match us, hl with | [_, _], _ => rfl, .nil⟩
  refine F.ok sc_is_condition (fun vs H Q E h => False.elim ((fun h => by obtain ⟨_, _, _, _, _, _, hX, _⟩ := h; exact hX) h)) (fun cdv A outer s H vs Q E hr h => False.elim ((fun h => by obtain ⟨_, _, _, _, _, _, hX, _⟩ := h; exact hX) h))
theorem st_is_condition (T : Txt K mg) (C_is_expression : ∀ n, Cal P w K mg base (n + 3) "is_expression" (spX K ws n) []) {n : Nat} (C_is_condition : Cal P w K mg base (n + 3) "is_condition" (spC K ws n) []) : Cal P w K mg base (n + 4) "is_condition" (spC K ws (n + 1)) [] := by
  obtain ⟨fd, F⟩ := T.d_is_condition
  refine ⟨_, fd, ["value", "depth"], [], ?_, T.g_is_condition, F.kp, F.bindsN fun _ _ _ _ _ _ us hl => match us, hl with | [_, _], _ => rfl, .nil⟩
  refine F.ok sc_is_condition (fun vs H Q E h => by obtain ⟨_, _, _, _, rfl, _⟩ := h; rfl) (fun cdv A outer s H vs Q E hr h => ?_)
  have hu := hu_of hr
  refine ⟨_, PSs.nox (pss_cons (ps_if (PW.pt (pw_or (pt_cmpR op_lt (pv 1) pe_int (nomark _)) (pw_or1 (pt_not (pt_val (pe_callB call_isi (by rfl) T.f_isinstance (by decide +kernel) (pa_cons (pv 0) (pa_cons (pe_bltn (v := .ty "tuple") (u := .type "tuple") (by rfl) T.f_tuple (by decide +kernel) rfl) pa_nil)))))))) (pss_one (ps_ret pe_bl)) pss_nil)
      (pss_cons (ps_if (pt_cmpR op_eq (pe_callB call_len_seq (by rfl) T.f_len (by decide +kernel) (pa_cons (pv 0) pa_nil)) pe_int (nomark _)) (pss_one (ps_ret (pe_cmpR op_eq (pe_ix ix_tup (pv 0) pe_int (fun _ _ => rfl)) pe_str (nomark _)))) pss_nil)
      (pss_cons (ps_if (pt_cmpR op_eq (pe_callB call_len_seq (by rfl) T.f_len (by decide +kernel) (pa_cons (pv 0) pa_nil)) pe_int (nomark _)) (pss_one (ps_ret (pe_and (pe_cmpR op_eq (pe_ix ix_tup (pv 0) pe_int (fun _ _ => rfl)) pe_str (nomark _)) (pe_one (pe_c C_is_condition hr (by omega) rfl (pa_cons (pe_ix ix_tup (pv 0) pe_int (fun _ _ => rfl)) (pa_cons (pe_op op_sub (pv 1) pe_int) pa_nil))))))) pss_nil)
      (pss_cons (ps_if (pt_cmpR op_ne (pe_callB call_len_seq (by rfl) T.f_len (by decide +kernel) (pa_cons (pv 0) pa_nil)) pe_int (nomark _)) (pss_one (ps_ret pe_bl)) pss_nil)
      (pss_cons (ps_if (pt_cmpR op_in_seq (pe_ix ix_tup (pv 0) pe_int (fun _ _ => rfl)) (pe_tup (pa_cons pe_str (pa_cons pe_str pa_nil))) rfl) (pss_one (ps_ret (pe_and (pe_c (C_is_expression n) hr (by omega) rfl (pa_cons (pe_ix ix_tup (pv 0) pe_int (fun _ _ => rfl)) (pa_cons (pe_op op_sub (pv 1) pe_int) pa_nil))) (pe_one (pe_c (C_is_expression n) hr (by omega) rfl (pa_cons (pe_ix ix_tup (pv 0) pe_int (fun _ _ => rfl)) (pa_cons (pe_op op_sub (pv 1) pe_int) pa_nil))))))) pss_nil)
      (pss_cons (ps_if (pt_cmpR op_in_seq (pe_ix ix_tup (pv 0) pe_int (fun _ _ => rfl)) (pe_tup (pa_cons pe_str (pa_cons pe_str pa_nil))) rfl) (pss_one (ps_ret (pe_and (pe_c C_is_condition hr (by omega) rfl (pa_cons (pe_ix ix_tup (pv 0) pe_int (fun _ _ => rfl)) (pa_cons (pe_op op_sub (pv 1) pe_int) pa_nil))) (pe_one (pe_c C_is_condition hr (by omega) rfl (pa_cons (pe_ix ix_tup (pv 0) pe_int (fun _ _ => rfl)) (pa_cons (pe_op op_sub (pv 1) pe_int) pa_nil))))))) pss_nil)
      (pss_one (ps_ret pe_bl)))))))), ?_⟩
  obtain ⟨hws, t, u, d, rfl, hR, hX, hd, hQ⟩ := h
  cases t with
  | num i => exact False.elim hX
  | name i => exact False.elim hX
  | n0 k =>
    cases (show k = "yes" from hX)
    obtain ⟨p, rfl, hp⟩ := hR
    refine ⟨_, rfl, _, _, rfl, rfl, _, rfl, iteFo (decide_eq_false (by omega)) ?_⟩
    refine ⟨_, rfl, _, _, _, _, _, rfl, ClsV.ty _, ty_t hp, kit_ty (r := true) (by decide +kernel), _, rfl, ?_⟩
    refine ⟨_, rfl, p, _, rfl, .inr hp, rfl, _, rfl, ?_⟩
    refine ⟨_, rfl, p, _, 0, _, rfl, rfl, hp, rfl, rfl, ?_⟩
    exact hQ H (Evl.Ex.refl H)
  | n1 k a =>
    obtain ⟨rfl, x1⟩ := hX
    obtain ⟨p, u1, rfl, hp, h1⟩ := hR
    refine ⟨_, rfl, _, _, rfl, rfl, _, rfl, iteFo (decide_eq_false (by omega)) ?_⟩
    refine ⟨_, rfl, _, _, _, _, _, rfl, ClsV.ty _, ty_t hp, kit_ty (r := true) (by decide +kernel), _, rfl, ?_⟩
    refine ⟨_, rfl, p, _, rfl, .inr hp, rfl, _, rfl, ?_⟩
    refine ⟨_, rfl, p, _, rfl, .inr hp, rfl, _, rfl, ?_⟩
    refine ⟨_, rfl, p, _, 0, _, rfl, rfl, hp, rfl, rfl, _, rfl, ?_⟩
    refine ⟨_, rfl, p, _, 1, _, rfl, rfl, hp, rfl, _, rfl, _, _, rfl, rfl, ?_⟩
    exact ⟨hws, a, u1, d - 1, rfl, h1, x1, by omega, hQ⟩
  | n2 k a b =>
    obtain ⟨p, u1, u2, rfl, hp, h1, h2⟩ := hR
    refine ⟨_, rfl, _, _, rfl, rfl, _, rfl, iteFo (decide_eq_false (by omega)) ?_⟩
    refine ⟨_, rfl, _, _, _, _, _, rfl, ClsV.ty _, ty_t hp, kit_ty (r := true) (by decide +kernel), _, rfl, ?_⟩
    refine ⟨_, rfl, p, _, rfl, .inr hp, rfl, _, rfl, ?_⟩
    refine ⟨_, rfl, p, _, rfl, .inr hp, rfl, _, rfl, ?_⟩
    refine ⟨_, rfl, p, _, rfl, .inr hp, rfl, _, rfl, ?_⟩
    rcases hX with ⟨hk, x1, x2⟩ | ⟨hk, x1, x2⟩
    · refine ⟨_, rfl, p, _, 0, _, rfl, rfl, hp, rfl, (by show 2 ≤ sizeLine; decide), fun q hq => ?_⟩
      have e0 := Evl.Ex.new (o := .tup [.str "less", .str "same"]) hq
      refine ⟨q, _, rfl, .inr (SqT.of upd_same), rfl, rfl, _, rfl, iteTo (by rcases hk with rfl | rfl <;> decide +kernel) ?_⟩
      refine ⟨_, rfl, p, _, 1, _, rfl, rfl, Evl.ex_t e0 hp, rfl, _, rfl, _, _, rfl, rfl, ?_⟩
      refine ⟨hws, a, u1, d - 1, rfl, h1.mono e0, x1, by omega, fun H1 e1 => ⟨_, rfl, ?_⟩⟩
      refine ⟨_, rfl, p, _, 2, _, rfl, rfl, Evl.ex_t (e0.trans e1) hp, rfl, _, rfl, _, _, rfl, rfl, ?_⟩
      exact ⟨hws, b, u2, d - 1, rfl, h2.mono (e0.trans e1), x2, by omega, fun H2 e2 => hQ H2 ((e0.trans e1).trans e2)⟩
    · refine ⟨_, rfl, p, _, 0, _, rfl, rfl, hp, rfl, (by show 2 ≤ sizeLine; decide), fun q hq => ?_⟩
      have e0 := Evl.Ex.new (o := .tup [.str "less", .str "same"]) hq
      refine ⟨q, _, rfl, .inr (SqT.of upd_same), rfl, rfl, _, rfl, iteFo (by rcases hk with rfl | rfl <;> decide +kernel) ?_⟩
      refine ⟨_, rfl, p, _, 0, _, rfl, rfl, Evl.ex_t e0 hp, rfl, (by show 2 ≤ sizeLine; decide), fun q2 hq2 => ?_⟩
      have e0 := e0.trans (Evl.Ex.new (o := .tup [.str "and", .str "or"]) hq2)
      refine ⟨q2, _, rfl, .inr (SqT.of upd_same), rfl, rfl, _, rfl, iteTo (by rcases hk with rfl | rfl <;> decide +kernel) ?_⟩
      refine ⟨_, rfl, p, _, 1, _, rfl, rfl, Evl.ex_t e0 hp, rfl, _, rfl, _, _, rfl, rfl, ?_⟩
      refine ⟨hws, a, u1, d - 1, rfl, h1.mono e0, x1, by omega, fun H1 e1 => ⟨_, rfl, ?_⟩⟩
      refine ⟨_, rfl, p, _, 2, _, rfl, rfl, Evl.ex_t (e0.trans e1) hp, rfl, _, rfl, _, _, rfl, rfl, ?_⟩
      exact ⟨hws, b, u2, d - 1, rfl, h2.mono (e0.trans e1), x2, by omega, fun H2 e2 => hQ H2 ((e0.trans e1).trans e2)⟩
theorem ok_is_condition (T : Txt K mg) (C_is_expression : ∀ n, Cal P w K mg base (n + 3) "is_expression" (spX K ws n) []) : ∀ n, Cal P w K mg base (n + 3) "is_condition" (spC K ws n) []
  | 0 => ok0_is_condition T
  | n + 1 => st_is_condition T C_is_expression (ok_is_condition T C_is_expression n)

abbrev N_are_pairs : List Str := ["value", "pair"]
theorem sc_are_pairs : FnScope N_are_pairs ["value"] (defScope (top 42)) := ⟨rfl, rfl, rfl, by decide +kernel, rfl, by decide +kernel, by decide +kernel⟩
/-- two or three pairs -/
def spPairs (K : PySem.W.Frag) : Sp := fun vs H Q _ => ∃ (q : Addr) (ps : List Addr), vs = [.ref q] ∧ SqT K H q (ps.map V.ref) ∧ 2 ≤ ps.length ∧ ps.length ≤ 3 ∧ (∀ p ∈ ps, ∃ x y, SqT K H p [x, y]) ∧ ∀ H', Ex H H' → Q (.bl true) H'
theorem ok_are_pairs (T : Txt K mg) (C_is_tuple_of : Cal P w K mg base 1 "is_tuple_of" (spTupleOf K) []) : Cal P w K mg base 2 "are_pairs" (spPairs K) [] := by
  obtain ⟨fd, F⟩ := T.d_are_pairs
  refine ⟨_, fd, ["value"], [], ?_, T.g_are_pairs, F.kp, F.bindsN fun _ _ _ _ _ _ us hl => match us, hl with | [_], _ => rfl, .nil⟩
  refine F.ok sc_are_pairs (fun vs H Q E h => by obtain ⟨_, _, rfl, _⟩ := h; rfl) (fun cdv A outer s H vs Q E hr h => ?_)
  have hu := hu_of hr
  refine ⟨_, PSs.nox (pss_cons (ps_if (PW.pt (pw_or (pt_not (pt_val (pe_callB call_isi (by rfl) T.f_isinstance (by decide +kernel) (pa_cons (pv 0) (pa_cons (pe_bltn (v := .ty "tuple") (u := .type "tuple") (by rfl) T.f_tuple (by decide +kernel) rfl) pa_nil))))) (pw_or1 (pt_not (pt_chain op_le op_le (pe_gc rfl T.c_FEWEST_PAIRS) (pe_callB call_len_seq (by rfl) T.f_len (by decide +kernel) (pa_cons (pv 0) pa_nil)) (pe_gc rfl T.c_MOST_PAIRS)))))) (pss_one (ps_ret pe_bl)) pss_nil)
      (pss_one (ps_ret (pe_callB (cr_all rfl) (by rfl) T.f_all (by decide +kernel) (pa_cons (pe_lc (own := [("pair", 1)]) rfl sc_are_pairs.nd (pi_tup (pv 0)) (blkOk_by (own := [("pair", 1)]) (N := N_are_pairs) (sc := defScope (top 42)) (by decide +kernel)) (fun _ _ _ _ _ => (pg_name (i := 1) sc_are_pairs.nd rfl (Or.inl rfl))) (fun _ _ _ _ _ => pts_nil) (fun _ _ _ _ _ => (pe_c C_is_tuple_of hr (by omega) rfl (pa_cons (pv 1) (pa_cons pe_int pa_nil))))) pa_nil))))), ?_⟩
  obtain ⟨q, ps, rfl, hq, h2, h3, hp, hQ⟩ := h
  refine ⟨_, rfl, _, _, _, _, _, rfl, ClsV.ty _, ty_t hq, kit_ty (r := true) (by decide +kernel), _, rfl, ?_⟩
  refine ⟨_, rfl, q, _, rfl, .inr hq, _, _, rfl, rfl, _, rfl, iteTo (decide_eq_true (by rw [List.length_map]; omega)) ⟨_, _, rfl, rfl, _, rfl, ?_⟩⟩
  rw [decide_eq_true (by rw [List.length_map]; omega)]
  refine ⟨_, rfl, q, rfl, ⟨_, hq⟩, fun D hD => ?_⟩
  refine lc_fn (walk_tup (xs := ps.map V.ref)) (fun _ => .bl true) (by rw [List.length_map]; omega) hD (fun _ e => Evl.ex_t e hq) ?_ ?_
  · rintro i x H1' H1 Z B hi e hl ⟨rfl, hx⟩ hZ
    obtain ⟨p, rfl, hp2⟩ := refs_get hx
    obtain ⟨x, y, hxy⟩ := hp p (List.mem_of_getElem? hp2)
    refine ⟨rfl, ?_⟩
    exact ⟨_, rfl, p, _, 2, rfl, Evl.ex_t e hxy, hZ _ (Evl.Ex.refl _)⟩
  · intro H1 e hd
    refine ⟨D, (List.range (ps.map V.ref).length).map fun _ => true, rfl, by rw [List.map_map]; exact SqL.of hd, ?_⟩
    rw [range_all_true fun _ _ => rfl]
    exact hQ _ e

abbrev N_is_draw_pair : List Str := ["pair"]
theorem sc_is_draw_pair : FnScope N_is_draw_pair ["pair"] (defScope (top 43)) := ⟨rfl, rfl, rfl, by decide +kernel, rfl, by decide +kernel, by decide +kernel⟩
def spDrawPair (K : PySem.W.Frag) : Sp := fun vs H Q _ => ∃ (p : Addr) (v w : Int), vs = [.ref p] ∧ SqT K H p [.int v, .int w] ∧ 0 ≤ v ∧ v ≤ 5 ∧ 1 ≤ w ∧ w ≤ 12 ∧ Q (.bl true) H
theorem ok_is_draw_pair (T : Txt K mg) (C_is_whole_from : Cal P w K mg base 2 "is_whole_from" spWholeFrom []) : Cal P w K mg base 3 "is_draw_pair" (spDrawPair K) [] := by
  obtain ⟨fd, F⟩ := T.d_is_draw_pair
  refine ⟨_, fd, ["pair"], [], ?_, T.g_is_draw_pair, F.kp, F.bindsN fun _ _ _ _ _ _ us hl => match us, hl with | [_], _ => rfl, .nil⟩
  refine F.ok sc_is_draw_pair (fun vs H Q E h => by obtain ⟨_, _, _, rfl, _⟩ := h; rfl) (fun cdv A outer s H vs Q E hr h => ?_)
  have hu := hu_of hr
  refine ⟨_, PSs.nox (pss_one (ps_ret (pe_and (pe_c C_is_whole_from hr (by omega) rfl (pa_cons (pe_ix ix_tup (pv 0) pe_int (fun _ _ => rfl)) (pa_cons pe_int (pa_cons (pe_gc rfl T.c_GREATEST_VALUE) pa_nil)))) (pe_one (pe_c C_is_whole_from hr (by omega) rfl (pa_cons (pe_ix ix_tup (pv 0) pe_int (fun _ _ => rfl)) (pa_cons pe_int (pa_cons (pe_gc rfl T.c_GREATEST_WEIGHT) pa_nil)))))))), ?_⟩
  obtain ⟨p, v, w', rfl, hp, h1, h2, h3, h4, hQ⟩ := h
  refine ⟨_, rfl, p, _, 0, _, rfl, rfl, hp, rfl, v, 0, 5, rfl, ?_⟩
  rw [decide_eq_true h1, decide_eq_true h2]
  refine ⟨_, rfl, ?_⟩
  refine ⟨_, rfl, p, _, 1, _, rfl, rfl, hp, rfl, w', 1, 12, rfl, ?_⟩
  rw [decide_eq_true h3, decide_eq_true h4]
  exact hQ

abbrev N_has_head_form : List Str := ["value", "kind", "pair"]
theorem sc_has_head_form : FnScope N_has_head_form ["value"] (defScope (top 44)) := ⟨rfl, rfl, rfl, by decide +kernel, rfl, by decide +kernel, by decide +kernel⟩
/-- the head of a statement -/
def spHead (K : PySem.W.Frag) (ws : List Str) : Sp := fun vs H Q _ => (∀ z ∈ ws, WordOk z) ∧ ∃ (s : Sm) (u : V) (sz : Str → Nat) (ah : List Str) (n l : Nat), vs = [u] ∧ RepS K H s u ∧ OkS ws sz ah n l s ∧ ∀ H', Ex H H' → Q (.bl true) H'
theorem ok_has_head_form (T : Txt K mg) (C_is_expression : ∀ n, Cal P w K mg base (n + 3) "is_expression" (spX K ws n) []) (C_is_condition : ∀ n, Cal P w K mg base (n + 3) "is_condition" (spC K ws n) []) (C_is_word : Cal P w K mg base 1 "is_word" spWord []) (C_are_pairs : Cal P w K mg base 2 "are_pairs" (spPairs K) []) (C_is_draw_pair : Cal P w K mg base 3 "is_draw_pair" (spDrawPair K) []) : Cal P w K mg base 10 "has_head_form" (spHead K ws) [] := by
  obtain ⟨fd, F⟩ := T.d_has_head_form
  refine ⟨_, fd, ["value"], [], ?_, T.g_has_head_form, F.kp, F.bindsN fun _ _ _ _ _ _ us hl => match us, hl with | [_], _ => rfl, .nil⟩
  refine F.ok sc_has_head_form (fun vs H Q E h => by obtain ⟨_, _, _, _, _, _, _, rfl, _⟩ := h; rfl) (fun cdv A outer s H vs Q E hr h => ?_)
  have hu := hu_of hr
  refine ⟨_, PSs.nox (pss_cons (ps_if (PW.pt (pw_or (pt_not (pt_val (pe_callB call_isi (by rfl) T.f_isinstance (by decide +kernel) (pa_cons (pv 0) (pa_cons (pe_bltn (v := .ty "tuple") (u := .type "tuple") (by rfl) T.f_tuple (by decide +kernel) rfl) pa_nil))))) (pw_or1 (pt_not (pt_chain op_le op_le pe_int (pe_callB call_len_seq (by rfl) T.f_len (by decide +kernel) (pa_cons (pv 0) pa_nil)) pe_int))))) (pss_one (ps_ret pe_bl)) pss_nil)
      (pss_cons (ps_set (i := 1) sc_has_head_form.nd rfl (Or.inl rfl) (pe_ix ix_tup (pv 0) pe_int (fun _ _ => rfl)))
      (pss_cons (ps_if (pt_cmpR op_eq (pe_callB call_len_seq (by rfl) T.f_len (by decide +kernel) (pa_cons (pv 0) pa_nil)) pe_int (nomark _)) (pss_cons (ps_if (pt_cmpR op_eq (pv 1) pe_str (nomark _)) (pss_one (ps_ret (pe_and (pe_c C_are_pairs hr (by omega) rfl (pa_cons (pe_ix ix_tup (pv 0) pe_int (fun _ _ => rfl)) pa_nil)) (pe_one (pe_callB (cr_all rfl) (by rfl) T.f_all (by decide +kernel) (pa_cons (pe_lc (own := [("pair", 2)]) rfl sc_has_head_form.nd (pi_tup (pe_ix ix_tup (pv 0) pe_int (fun _ _ => rfl))) (blkOk_by (own := [("pair", 2)]) (N := N_has_head_form) (sc := defScope (top 44)) (by decide +kernel)) (fun _ _ _ _ _ => (pg_name (i := 2) sc_has_head_form.nd rfl (Or.inl rfl))) (fun _ _ _ _ _ => pts_nil) (fun _ _ _ _ _ => (pe_c C_is_word hr (by omega) rfl (pa_cons (pe_ix (ixT (K := K) rfl) (pv 2) pe_int (fun _ _ => rfl)) pa_nil)))) pa_nil)))))) pss_nil)
      (pss_one (ps_ret (pe_and (pe_cmpR op_eq (pv 1) pe_str (nomark _)) (pe_one (pe_c C_is_word hr (by omega) rfl (pa_cons (pe_ix ix_tup (pv 0) pe_int (fun _ _ => rfl)) pa_nil))))))) pss_nil)
      (pss_cons (ps_if (pt_cmpR op_eq (pe_callB call_len_seq (by rfl) T.f_len (by decide +kernel) (pa_cons (pv 0) pa_nil)) pe_int (nomark _)) (pss_one (ps_ret (pe_and (pe_cmpR op_eq (pv 1) pe_str (nomark _)) (pe_one (pe_c (C_is_condition 6) hr (by omega) rfl (pa_cons (pe_ix ix_tup (pv 0) pe_int (fun _ _ => rfl)) (pa_cons (pe_gc rfl T.c_DEEPEST) pa_nil))))))) pss_nil)
      (pss_cons (ps_if (pt_cmpR op_eq (pv 1) pe_str (nomark _)) (pss_one (ps_ret (pe_and (pe_c C_is_word hr (by omega) rfl (pa_cons (pe_ix ix_tup (pv 0) pe_int (fun _ _ => rfl)) pa_nil)) (pe_one (pe_c (C_is_expression 6) hr (by omega) rfl (pa_cons (pe_ix ix_tup (pv 0) pe_int (fun _ _ => rfl)) (pa_cons (pe_gc rfl T.c_DEEPEST) pa_nil))))))) pss_nil)
      (pss_cons (ps_if (pt_cmpR op_eq (pv 1) pe_str (nomark _)) (pss_one (ps_ret (pe_and (pe_c C_is_word hr (by omega) rfl (pa_cons (pe_ix ix_tup (pv 0) pe_int (fun _ _ => rfl)) pa_nil)) (pe_and (pe_c C_are_pairs hr (by omega) rfl (pa_cons (pe_ix ix_tup (pv 0) pe_int (fun _ _ => rfl)) pa_nil)) (pe_one (pe_callB (cr_all rfl) (by rfl) T.f_all (by decide +kernel) (pa_cons (pe_lc (own := [("pair", 2)]) rfl sc_has_head_form.nd (pi_tup (pe_ix ix_tup (pv 0) pe_int (fun _ _ => rfl))) (blkOk_by (own := [("pair", 2)]) (N := N_has_head_form) (sc := defScope (top 44)) (by decide +kernel)) (fun _ _ _ _ _ => (pg_name (i := 2) sc_has_head_form.nd rfl (Or.inl rfl))) (fun _ _ _ _ _ => pts_nil) (fun _ _ _ _ _ => (pe_c C_is_draw_pair hr (by omega) rfl (pa_cons (pv 2) pa_nil)))) pa_nil))))))) pss_nil)
      (pss_one (ps_ret (pe_and (pe_cmpR op_eq (pv 1) pe_str (nomark _)) (pe_one (pe_c (C_is_condition 6) hr (by omega) rfl (pa_cons (pe_ix ix_tup (pv 0) pe_int (fun _ _ => rfl)) (pa_cons (pe_gc rfl T.c_DEEPEST) pa_nil))))))))))))), ?_⟩
  obtain ⟨hws, t, u, sz, ah, n, l, rfl, hR, hX, hQ⟩ := h
  cases t with
  | set x e =>
    simp only [RepS] at hR
    obtain ⟨p, u1, rfl, hp, h1⟩ := hR
    simp only [OkS] at hX
    refine ⟨_, rfl, _, _, _, _, _, rfl, ClsV.ty _, ty_t hp, kit_ty (r := true) (by decide +kernel), _, rfl, ?_⟩
    refine ⟨_, rfl, p, _, rfl, .inr hp, _, _, rfl, rfl, _, rfl, iteTo rfl ⟨_, _, rfl, rfl, _, rfl, ?_⟩⟩
    refine ⟨_, rfl, p, _, 0, _, rfl, rfl, hp, rfl, ?_⟩
    refine ⟨_, rfl, p, _, rfl, .inr hp, rfl, _, rfl, ?_⟩
    refine ⟨_, rfl, p, _, rfl, .inr hp, rfl, _, rfl, ?_⟩
    refine ⟨_, rfl, rfl, _, rfl, ?_⟩
    refine ⟨_, rfl, p, _, 1, _, rfl, rfl, hp, rfl, x, rfl, hws x hX.1, fun H1 e1 => ⟨_, rfl, ?_⟩⟩
    refine ⟨_, rfl, p, _, 2, _, rfl, rfl, Evl.ex_t e1 hp, rfl, ?_⟩
    exact ⟨hws, e, u1, 6, rfl, h1.mono e1, hX.2, by decide, fun H2 e2 => hQ H2 (e1.trans e2)⟩
  | iff c t e =>
    simp only [RepS] at hR
    obtain ⟨p, u1, bt, be, ts, es, rfl, hp, h1, _⟩ := hR
    cases n with
    | zero => simp [OkS] at hX
    | succ n =>
    simp only [OkS] at hX
    refine ⟨_, rfl, _, _, _, _, _, rfl, ClsV.ty _, ty_t hp, kit_ty (r := true) (by decide +kernel), _, rfl, ?_⟩
    refine ⟨_, rfl, p, _, rfl, .inr hp, _, _, rfl, rfl, _, rfl, iteTo rfl ⟨_, _, rfl, rfl, _, rfl, ?_⟩⟩
    refine ⟨_, rfl, p, _, 0, _, rfl, rfl, hp, rfl, ?_⟩
    refine ⟨_, rfl, p, _, rfl, .inr hp, rfl, _, rfl, ?_⟩
    refine ⟨_, rfl, p, _, rfl, .inr hp, rfl, _, rfl, ?_⟩
    refine ⟨_, rfl, rfl, _, rfl, ?_⟩
    refine ⟨_, rfl, p, _, 1, _, rfl, rfl, hp, rfl, ?_⟩
    exact ⟨hws, c, u1, 6, rfl, h1, hX.1, by decide, hQ⟩
  | whl c b =>
    simp only [RepS] at hR
    obtain ⟨p, u1, bb, bs, rfl, hp, h1, _⟩ := hR
    have hX1 : IsC ws 6 c := by
      cases n with
      | zero => cases l <;> simp [OkS] at hX
      | succ n =>
      cases l with
      | zero => simp [OkS] at hX
      | succ l =>
      simp only [OkS] at hX
      exact hX.1
    refine ⟨_, rfl, _, _, _, _, _, rfl, ClsV.ty _, ty_t hp, kit_ty (r := true) (by decide +kernel), _, rfl, ?_⟩
    refine ⟨_, rfl, p, _, rfl, .inr hp, _, _, rfl, rfl, _, rfl, iteTo rfl ⟨_, _, rfl, rfl, _, rfl, ?_⟩⟩
    refine ⟨_, rfl, p, _, 0, _, rfl, rfl, hp, rfl, ?_⟩
    refine ⟨_, rfl, p, _, rfl, .inr hp, rfl, _, rfl, ?_⟩
    refine ⟨_, rfl, p, _, rfl, .inr hp, rfl, _, rfl, ?_⟩
    refine ⟨_, rfl, rfl, _, rfl, ?_⟩
    refine ⟨_, rfl, rfl, _, rfl, ?_⟩
    refine ⟨_, rfl, rfl, _, rfl, ?_⟩
    refine ⟨_, rfl, p, _, 1, _, rfl, rfl, hp, rfl, ?_⟩
    exact ⟨hws, c, u1, 6, rfl, h1, hX1, by decide, hQ⟩
  | drw x e =>
    simp only [RepS] at hR
    obtain ⟨p, q, ps, rfl, hp, hq, hfz, hW⟩ := hR
    have hX1 : x ∈ ws ∧ OkW (sz x) e := by
      cases n <;> cases l <;> simpa only [OkS] using hX
    obtain ⟨hx, l2, l3, _, hall⟩ := hX1
    have hlen := hW.length
    refine ⟨_, rfl, _, _, _, _, _, rfl, ClsV.ty _, ty_t hp, kit_ty (r := true) (by decide +kernel), _, rfl, ?_⟩
    refine ⟨_, rfl, p, _, rfl, .inr hp, _, _, rfl, rfl, _, rfl, iteTo rfl ⟨_, _, rfl, rfl, _, rfl, ?_⟩⟩
    refine ⟨_, rfl, p, _, 0, _, rfl, rfl, hp, rfl, ?_⟩
    refine ⟨_, rfl, p, _, rfl, .inr hp, rfl, _, rfl, ?_⟩
    refine ⟨_, rfl, p, _, rfl, .inr hp, rfl, _, rfl, ?_⟩
    refine ⟨_, rfl, rfl, _, rfl, ?_⟩
    refine ⟨_, rfl, rfl, _, rfl, ?_⟩
    refine ⟨_, rfl, p, _, 1, _, rfl, rfl, hp, rfl, x, rfl, hws x hx, fun H1 e1 => ⟨_, rfl, ?_⟩⟩
    refine ⟨_, rfl, p, _, 2, _, rfl, rfl, Evl.ex_t e1 hp, rfl, q, ps, rfl, Evl.ex_t e1 hq, by omega, by omega, ?_, fun H2 e2 => ⟨_, rfl, ?_⟩⟩
    · intro a ha
      obtain ⟨i, hi, ea⟩ := List.mem_iff_getElem.mp ha
      obtain ⟨z, hz, hS⟩ := hW.get (by rw [List.getElem?_eq_getElem hi, ea])
      exact ⟨_, _, Evl.ex_t e1 hS⟩
    have e12 := e1.trans e2
    refine ⟨_, rfl, p, _, 2, _, rfl, rfl, Evl.ex_t e12 hp, rfl, q, rfl, ⟨_, Evl.ex_t e12 hq⟩, fun D hD => ?_⟩
    refine lc_fn (walk_tup (xs := ps.map V.ref)) (fun _ => .bl true) (by rw [List.length_map]; omega) hD (fun _ e => Evl.ex_t (e12.trans e) hq) ?_ ?_
    · rintro i x H1' H1 Z B hi e hl ⟨rfl, hx⟩ hZ
      obtain ⟨a, rfl, ha⟩ := refs_get hx
      obtain ⟨z, hz, hS⟩ := hW.get ha
      obtain ⟨_, b1, b2, b3⟩ := hall z (List.mem_of_getElem? hz)
      refine ⟨rfl, ?_⟩
      exact ⟨_, rfl, a, _, _, rfl, Evl.ex_t (e12.trans e) hS, by omega, by omega, by omega, by omega, hZ _ (Evl.Ex.refl _)⟩
    · intro H1 e hd
      refine ⟨D, (List.range (ps.map V.ref).length).map fun _ => true, rfl, by rw [List.map_map]; exact SqL.of hd, ?_⟩
      rw [range_all_true fun _ _ => rfl]
      exact hQ _ (e12.trans e)
  | cho ls bs =>
    simp only [RepS] at hR
    obtain ⟨p, q, ps, rfl, hp, hq, hfz, hW⟩ := hR
    cases n with
    | zero => simp [OkS] at hX
    | succ n =>
    simp only [OkS] at hX
    obtain ⟨l2, l3, _, _, hall, _⟩ := hX
    have hlen := hW.length.1
    refine ⟨_, rfl, _, _, _, _, _, rfl, ClsV.ty _, ty_t hp, kit_ty (r := true) (by decide +kernel), _, rfl, ?_⟩
    refine ⟨_, rfl, p, _, rfl, .inr hp, _, _, rfl, rfl, _, rfl, iteTo rfl ⟨_, _, rfl, rfl, _, rfl, ?_⟩⟩
    refine ⟨_, rfl, p, _, 0, _, rfl, rfl, hp, rfl, ?_⟩
    refine ⟨_, rfl, p, _, rfl, .inr hp, rfl, _, rfl, ?_⟩
    refine ⟨_, rfl, rfl, _, rfl, ?_⟩
    refine ⟨_, rfl, p, _, 1, _, rfl, rfl, hp, rfl, q, ps, rfl, hq, by omega, by omega, ?_, fun H1 e1 => ⟨_, rfl, ?_⟩⟩
    · intro a ha
      obtain ⟨i, hi, ea⟩ := List.mem_iff_getElem.mp ha
      obtain ⟨_, _, _, _, _, _, hS, _⟩ := hW.get (by rw [List.getElem?_eq_getElem hi, ea])
      exact ⟨_, _, hS⟩
    refine ⟨_, rfl, p, _, 1, _, rfl, rfl, Evl.ex_t e1 hp, rfl, q, rfl, ⟨_, Evl.ex_t e1 hq⟩, fun D hD => ?_⟩
    refine lc_fn (walk_tup (xs := ps.map V.ref)) (fun _ => .bl true) (by rw [List.length_map]; omega) hD (fun _ e => Evl.ex_t (e1.trans e) hq) ?_ ?_
    · rintro i x H1' H1 Z B hi e hl ⟨rfl, hx⟩ hZ
      obtain ⟨a, rfl, ha⟩ := refs_get hx
      obtain ⟨z, _, _, _, hz, _, hS, _⟩ := hW.get ha
      refine ⟨rfl, ?_⟩
      refine ⟨_, rfl, a, _, 0, _, rfl, rfl, Evl.ex_t (e1.trans e) hS, rfl, z, rfl, hall z (List.mem_of_getElem? hz), fun H3 e3 => hZ H3 e3⟩
    · intro H1 e hd
      refine ⟨D, (List.range (ps.map V.ref).length).map fun _ => true, rfl, by rw [List.map_map]; exact SqL.of hd, ?_⟩
      rw [range_all_true fun _ _ => rfl]
      exact hQ _ (e1.trans e)
  | cal u =>
    simp only [RepS] at hR
    obtain ⟨p, rfl, hp⟩ := hR
    have hX1 : u ∈ ah ∧ WordOk u := by
      cases n <;> cases l <;> simpa only [OkS] using hX
    refine ⟨_, rfl, _, _, _, _, _, rfl, ClsV.ty _, ty_t hp, kit_ty (r := true) (by decide +kernel), _, rfl, ?_⟩
    refine ⟨_, rfl, p, _, rfl, .inr hp, _, _, rfl, rfl, _, rfl, iteTo rfl ⟨_, _, rfl, rfl, _, rfl, ?_⟩⟩
    refine ⟨_, rfl, p, _, 0, _, rfl, rfl, hp, rfl, ?_⟩
    refine ⟨_, rfl, p, _, rfl, .inr hp, rfl, _, rfl, ?_⟩
    refine ⟨_, rfl, rfl, _, rfl, ?_⟩
    refine ⟨_, rfl, rfl, _, rfl, ?_⟩
    exact ⟨_, rfl, p, _, 1, _, rfl, rfl, hp, rfl, u, rfl, hX1.2, fun H1 e1 => hQ H1 e1⟩

abbrev N_bodies_in : List Str := ["statement", "_", "body"]
theorem sc_bodies_in : FnScope N_bodies_in ["statement"] (defScope (top 45)) := ⟨rfl, rfl, rfl, by decide +kernel, rfl, by decide +kernel, by decide +kernel⟩
/-- bodies, at places -/
def RepBs (K : PySem.W.Frag) (H : Hp) (bs : List (List Sm)) (ps : List Addr) : Prop := Paired (fun b p => RepB K H b p) bs ps
def spBodies (K : PySem.W.Frag) : Sp := fun vs H Q _ => ∃ (s : Sm) (u : V), vs = [u] ∧ RepS K H s u ∧ (kids s).length ≤ 3 ∧ ∀ p ps H', H p = none → Ex H H' → H' p = some (.lst (ps.map V.ref)) → RepBs K H' (kids s) ps → Q (.ref p) H'
theorem ok_bodies_in (T : Txt K mg)  : Cal P w K mg base 1 "bodies_in" (spBodies K) [] := by
  obtain ⟨fd, F⟩ := T.d_bodies_in
  refine ⟨_, fd, ["statement"], [], ?_, T.g_bodies_in, F.kp, F.bindsN fun _ _ _ _ _ _ us hl => match us, hl with | [_], _ => rfl, .nil⟩
  refine F.ok sc_bodies_in (fun vs H Q E h => by obtain ⟨_, _, rfl, _⟩ := h; rfl) (fun cdv A outer s H vs Q E hr h => ?_)
  have hu := hu_of hr
  refine ⟨_, PSs.nox (pss_cons (ps_if (pt_cmpR op_eq (pe_ix ix_tup (pv 0) pe_int (fun _ _ => rfl)) pe_str (nomark _)) (pss_one (ps_ret (pe_lc (own := [("_", 1), ("body", 2)]) rfl sc_bodies_in.nd (pi_tup (pe_ix ix_tup (pv 0) pe_int (fun _ _ => rfl))) (blkOk_by (own := [("_", 1), ("body", 2)]) (N := N_bodies_in) (sc := defScope (top 45)) (by decide +kernel)) (fun _ _ _ _ _ => (pgT (K := K) (n := 2) rfl (by rfl) (pgs_cons (pg_name (i := 1) sc_bodies_in.nd rfl (Or.inl rfl)) (pgs_cons (pg_name (i := 2) sc_bodies_in.nd rfl (Or.inl rfl)) pgs_nil)))) (fun _ _ _ _ _ => pts_nil) (fun _ _ _ _ _ => (pv 2))))) pss_nil)
      (pss_cons (ps_if (pt_cmpR op_in_seq (pe_ix ix_tup (pv 0) pe_int (fun _ _ => rfl)) (pe_tup (pa_cons pe_str (pa_cons pe_str pa_nil))) rfl) (pss_one (ps_ret (pe_callTy call_list_of (by rfl) T.f_list (by decide +kernel) (pa_cons (pe_slice sl_tupA (pv 0) (po_some pe_int) po_none) pa_nil)))) pss_nil)
      (pss_one (ps_ret (pe_lst pa_nil))))), ?_⟩
  obtain ⟨t, u, rfl, hR, hk3, hQ⟩ := h
  cases t with
  | set x e =>
    simp only [RepS] at hR
    obtain ⟨p, u1, rfl, hp, h1⟩ := hR
    refine ⟨_, rfl, p, _, 0, _, rfl, rfl, hp, rfl, rfl, _, rfl, ?_⟩
    refine ⟨_, rfl, p, _, 0, _, rfl, rfl, hp, rfl, (by show 2 ≤ sizeLine; decide), fun q hq => ?_⟩
    have e0 := Evl.Ex.new (o := .tup [.str "if", .str "while"]) hq
    refine ⟨q, _, rfl, .inr (SqT.of upd_same), rfl, rfl, _, rfl, iteFo (by decide +kernel) ?_⟩
    refine ⟨Nat.zero_le _, fun l hl => ?_⟩
    exact hQ l [] _ (Evl.fresh_back e0 hl) (e0.trans (Evl.Ex.new hl)) upd_same .nil
  | iff c t e =>
    simp only [RepS] at hR
    obtain ⟨p, u1, bt, be, ts, es, rfl, hp, h1, h2, h3, h4, h5⟩ := hR
    refine ⟨_, rfl, p, _, 0, _, rfl, rfl, hp, rfl, rfl, _, rfl, ?_⟩
    refine ⟨_, rfl, p, _, 0, _, rfl, rfl, hp, rfl, (by show 2 ≤ sizeLine; decide), fun q hq => ?_⟩
    have e0 := Evl.Ex.new (o := .tup [.str "if", .str "while"]) hq
    refine ⟨q, _, rfl, .inr (SqT.of upd_same), rfl, rfl, _, rfl, iteTo (by decide +kernel) ?_⟩
    refine ⟨_, rfl, 2, rfl, p, _, rfl, Evl.ex_t e0 hp, fun z => absurd z.1 (show ¬ HT.sIx 4 0 (some 2) = 0 by decide), fun _ r hr0 => ?_⟩
    have e1 := e0.trans (Evl.Ex.new (o := .tup (cutV [V.str "if", u1, V.ref bt, V.ref be] (some 2) none)) hr0)
    refine ⟨r, [.ref bt, .ref be], rfl, .inr (SqT.of upd_same), fun l hl => ?_⟩
    have e2 := e1.trans (Evl.Ex.new (o := .lst [.ref bt, .ref be]) hl)
    exact hQ l [bt, be] _ (Evl.fresh_back e1 hl) e2 upd_same (.cons ⟨ts, Evl.ex_t e2 h2, h4.mono e2⟩ (.cons ⟨es, Evl.ex_t e2 h3, h5.mono e2⟩ .nil))
  | whl c b =>
    simp only [RepS] at hR
    obtain ⟨p, u1, bb, bs, rfl, hp, h1, h2, h4⟩ := hR
    refine ⟨_, rfl, p, _, 0, _, rfl, rfl, hp, rfl, rfl, _, rfl, ?_⟩
    refine ⟨_, rfl, p, _, 0, _, rfl, rfl, hp, rfl, (by show 2 ≤ sizeLine; decide), fun q hq => ?_⟩
    have e0 := Evl.Ex.new (o := .tup [.str "if", .str "while"]) hq
    refine ⟨q, _, rfl, .inr (SqT.of upd_same), rfl, rfl, _, rfl, iteTo (by decide +kernel) ?_⟩
    refine ⟨_, rfl, 2, rfl, p, _, rfl, Evl.ex_t e0 hp, fun z => absurd z.1 (show ¬ HT.sIx 3 0 (some 2) = 0 by decide), fun _ r hr0 => ?_⟩
    have e1 := e0.trans (Evl.Ex.new (o := .tup (cutV [V.str "while", u1, V.ref bb] (some 2) none)) hr0)
    refine ⟨r, [.ref bb], rfl, .inr (SqT.of upd_same), fun l hl => ?_⟩
    have e2 := e1.trans (Evl.Ex.new (o := .lst [.ref bb]) hl)
    exact hQ l [bb] _ (Evl.fresh_back e1 hl) e2 upd_same (.cons ⟨bs, Evl.ex_t e2 h2, h4.mono e2⟩ .nil)
  | drw x e =>
    simp only [RepS] at hR
    obtain ⟨p, q', ps', rfl, hp, h1⟩ := hR
    refine ⟨_, rfl, p, _, 0, _, rfl, rfl, hp, rfl, rfl, _, rfl, ?_⟩
    refine ⟨_, rfl, p, _, 0, _, rfl, rfl, hp, rfl, (by show 2 ≤ sizeLine; decide), fun q hq => ?_⟩
    have e0 := Evl.Ex.new (o := .tup [.str "if", .str "while"]) hq
    refine ⟨q, _, rfl, .inr (SqT.of upd_same), rfl, rfl, _, rfl, iteFo (by decide +kernel) ?_⟩
    refine ⟨Nat.zero_le _, fun l hl => ?_⟩
    exact hQ l [] _ (Evl.fresh_back e0 hl) (e0.trans (Evl.Ex.new hl)) upd_same .nil
  | cal x =>
    simp only [RepS] at hR
    obtain ⟨p, rfl, hp⟩ := hR
    refine ⟨_, rfl, p, _, 0, _, rfl, rfl, hp, rfl, rfl, _, rfl, ?_⟩
    refine ⟨_, rfl, p, _, 0, _, rfl, rfl, hp, rfl, (by show 2 ≤ sizeLine; decide), fun q hq => ?_⟩
    have e0 := Evl.Ex.new (o := .tup [.str "if", .str "while"]) hq
    refine ⟨q, _, rfl, .inr (SqT.of upd_same), rfl, rfl, _, rfl, iteFo (by decide +kernel) ?_⟩
    refine ⟨Nat.zero_le _, fun l hl => ?_⟩
    exact hQ l [] _ (Evl.fresh_back e0 hl) (e0.trans (Evl.Ex.new hl)) upd_same .nil
  | cho ls bs =>
    simp only [RepS] at hR
    obtain ⟨p, q, ps, rfl, hp, hq, hfz, hW⟩ := hR
    obtain ⟨qs, lq, hqs, hBs⟩ := hW.bodies
    refine ⟨_, rfl, p, _, 0, _, rfl, rfl, hp, rfl, rfl, _, rfl, ?_⟩
    refine ⟨_, rfl, p, _, 1, _, rfl, rfl, hp, rfl, q, rfl, ⟨_, hq⟩, fun D hD => ?_⟩
    have hps : ps.length ≤ 3 := by have := hW.length; have : bs.length ≤ 3 := hk3; omega
    refine lc_fn (walk_tup (xs := ps.map V.ref)) (fun i => V.ref (qs.getD i 0)) (by rw [List.length_map]; omega) hD (fun _ e => Evl.ex_t e hq) ?_ ?_
    · rintro i x H1' H1 Z B hi e hl ⟨rfl, hx⟩ hZ
      obtain ⟨a, rfl, ha⟩ := refs_get hx
      obtain ⟨z, r, _, hr2, hS⟩ := hqs i a ha
      refine ⟨a, _, rfl, Evl.ex_t e hS, rfl, _, _, rfl, _, _, rfl, rfl, ?_⟩
      refine ⟨rfl, ?_⟩
      refine ⟨_, rfl, ?_⟩
      have er : qs.getD i 0 = r := by rw [List.getD_eq_getElem?_getD, hr2]; rfl
      rw [er] at hZ
      exact hZ _ (Evl.Ex.refl _)
    · intro H1 e hd
      have eL : (List.range (ps.map V.ref).length).map (fun i => V.ref (qs.getD i 0)) = qs.map V.ref := by
        refine List.ext_getElem? fun i => ?_
        by_cases hi : i < qs.length
        · rw [List.getElem?_map, List.getElem?_range (by rw [List.length_map]; omega), List.getElem?_map, List.getElem?_eq_getElem hi]
          simp [List.getD_eq_getElem?_getD, hi]
        · rw [List.getElem?_eq_none (by simp; omega), List.getElem?_eq_none (by simp; omega)]
      rw [eL] at hd
      exact hQ D qs _ hD e hd (bs_mono e hBs)

end
end K14
namespace K14
open PySem PySem.Spec PyProof.Rows L2 C8

theorem walk_enumT {K : PySem.W.Frag} {a : Addr} {xs : List V} : L2.Walk (IteT K a) xs.length (fun H => SqT K H a xs) (YPair (fun i => some (.int (i : Nat))) (fun i => xs[i]?)) := by
  refine ⟨fun i _ hi q => ⟨xs, xs[i], q, by simp [hi]⟩, fun _ q => ⟨xs, q, Nat.le_refl _⟩, fun i H v H' _ q y => ?_⟩
  obtain ⟨T, x, h1, h2, h3, h4⟩ := y
  exact ⟨T, .int (i : Nat), x, h1, h2, h3, rfl, h4 xs q⟩
/-- the kind of a statement -/
def knd : Sm → Str
  | .set _ _ => "set"
  | .iff _ _ _ => "if"
  | .whl _ _ => "while"
  | .drw _ _ => "draw"
  | .cho _ _ => "choose"
  | .cal _ => "call"
def isW : Sm → Bool
  | .whl _ _ => true
  | _ => false
theorem knd_w (s : Sm) : decide (V.str (knd s) = V.str "while") = isW s := by
  cases s with
  | set x e => show decide (V.str ("set" : Str) = V.str "while") = false; decide +kernel
  | iff c t e => show decide (V.str ("if" : Str) = V.str "while") = false; decide +kernel
  | whl c b => show decide (V.str ("while" : Str) = V.str "while") = true; decide +kernel
  | drw x e => show decide (V.str ("draw" : Str) = V.str "while") = false; decide +kernel
  | cho x e => show decide (V.str ("choose" : Str) = V.str "while") = false; decide +kernel
  | cal x => show decide (V.str ("call" : Str) = V.str "while") = false; decide +kernel
theorem RepS.head {K : PySem.W.Frag} {H : Hp} {s : Sm} {v : V} (h : RepS K H s v) : ∃ p r, v = .ref p ∧ SqT K H p (.str (knd s) :: r) := by
  cases s with
  | set x e => simp only [RepS] at h; obtain ⟨p, u, h1, h2, _⟩ := h; exact ⟨p, _, h1, h2⟩
  | iff c t e => simp only [RepS] at h; obtain ⟨p, u, bt, be, ts, es, h1, h2, _⟩ := h; exact ⟨p, _, h1, h2⟩
  | whl c b => simp only [RepS] at h; obtain ⟨p, u, bb, bs, h1, h2, _⟩ := h; exact ⟨p, _, h1, h2⟩
  | drw x e => simp only [RepS] at h; obtain ⟨p, q, ps, h1, h2, _⟩ := h; exact ⟨p, _, h1, h2⟩
  | cho x e => simp only [RepS] at h; obtain ⟨p, q, ps, h1, h2, _⟩ := h; exact ⟨p, _, h1, h2⟩
  | cal x => simp only [RepS] at h; obtain ⟨p, h1, h2⟩ := h; exact ⟨p, _, h1, h2⟩
def cntK : List (List Sm) → Nat
  | [] => 0
  | b :: r => cntL b + cntK r
theorem cntB_K : ∀ bs : List (List Sm), cntB bs = cntK bs
  | [] => by simp [cntB, cntK]
  | b :: r => by simp only [cntB, cntK, cntB_K r]
theorem cntS_kids (s : Sm) : cntS s = 1 + cntK (kids s) := by
  cases s <;> simp [cntS, kids, cntK, cntB_K]
theorem kids_len {ws : List Str} {sz : Str → Nat} {ah : List Str} {n l : Nat} {s : Sm} (h : OkS ws sz ah n l s) : (kids s).length ≤ 3 := by
  cases s with
  | cho ls bs =>
    cases n with
    | zero => simp [OkS] at h
    | succ m =>
      simp only [OkS] at h
      simp only [kids]
      omega
  | _ => simp [kids]
theorem cntK_take : ∀ (bs : List (List Sm)) (j : Nat) (b : List Sm), bs[j]? = some b → cntK (bs.take (j + 1)) = cntK (bs.take j) + cntL b ∧ cntK (bs.take (j + 1)) ≤ cntK bs
  | [], j, b, h => by simp at h
  | c :: r, 0, b, h => by
    cases h
    simp [cntK]
  | c :: r, j + 1, b, h => by
    have := cntK_take r j b h
    simp only [List.take_succ_cons, cntK]
    omega
theorem cntL_take : ∀ (bs : List Sm) (j : Nat) (b : Sm), bs[j]? = some b → cntL (bs.take (j + 1)) = cntL (bs.take j) + cntS b ∧ cntL (bs.take (j + 1)) ≤ cntL bs
  | [], j, b, h => by simp at h
  | c :: r, 0, b, h => by
    cases h
    simp [cntL]
  | c :: r, j + 1, b, h => by
    have := cntL_take r j b h
    simp only [List.take_succ_cons, cntL]
    omega
theorem OkS.kid {ws : List Str} {sz : Str → Nat} {ah : List Str} {n l : Nat} {s : Sm} (h : OkS ws sz ah n l s) : (isW s = true → 1 ≤ l) ∧ ∀ b ∈ kids s, ∃ m, n = m + 1 ∧ OkL ws sz ah m (if isW s = true then l - 1 else l) b := by
  cases s with
  | set x e => exact ⟨fun z => (by cases z), fun b hb => by cases hb⟩
  | drw x e => exact ⟨fun z => (by cases z), fun b hb => by cases hb⟩
  | cal x => exact ⟨fun z => (by cases z), fun b hb => by cases hb⟩
  | cho ls bs =>
    cases n with
    | zero => simp [OkS] at h
    | succ m =>
      simp only [OkS] at h
      exact ⟨fun z => (by cases z), fun b hb => ⟨m, rfl, OkB.get h.2.2.2.2.2 hb⟩⟩
  | iff c t e =>
    cases n with
    | zero => simp [OkS] at h
    | succ m =>
      simp only [OkS] at h
      refine ⟨fun z => (by cases z), fun b hb => ⟨m, rfl, ?_⟩⟩
      simp only [kids, List.mem_cons, List.not_mem_nil, or_false] at hb
      rcases hb with rfl | rfl
      · exact h.2.1
      · exact h.2.2
  | whl c t =>
    cases n with
    | zero => cases l <;> simp [OkS] at h
    | succ m =>
      cases l with
      | zero => simp [OkS] at h
      | succ l =>
        simp only [OkS] at h
        refine ⟨fun _ => by omega, fun b hb => ⟨m, rfl, ?_⟩⟩
        simp only [kids, List.mem_cons, List.not_mem_nil, or_false] at hb
        subst hb
        exact h.2
theorem RepBs.mono {K : PySem.W.Frag} {H H' : Hp} (e : Ex H H') : ∀ {bs : List (List Sm)} {ps : List Addr}, RepBs K H bs ps → RepBs K H' bs ps
  | _, _, .nil => .nil
  | _, _, .cons h t => .cons (h.mono e) (RepBs.mono e t)
theorem RepBs.get {K : PySem.W.Frag} {H : Hp} : ∀ {bs : List (List Sm)} {ps : List Addr}, RepBs K H bs ps → ∀ {i : Nat} {p : Addr}, ps[i]? = some p → ∃ b, bs[i]? = some b ∧ RepB K H b p
  | _, _, .nil, i, p, h => by simp at h
  | _, _, .cons a t, 0, p, h => by
    cases h
    exact ⟨_, rfl, a⟩
  | _, _, .cons a t, i + 1, p, h => RepBs.get t h
theorem RepBs.length {K : PySem.W.Frag} {H : Hp} {bs : List (List Sm)} {ps : List Addr} (h : RepBs K H bs ps) : bs.length = ps.length := Paired.length h
section
variable {P : Program} {w : World} {K : PySem.W.Frag} {mg : Str → Option Value} {base : Heap} {ws : List Str}
abbrev N_count_in : List Str := ["body", "room", "loops", "count", "statement", "inner_loops", "inner", "more"]
theorem sc_count_in : FnScope N_count_in ["body", "room", "loops"] (defScope (top 46)) := ⟨rfl, rfl, rfl, by decide +kernel, rfl, by decide +kernel, by decide +kernel⟩
/-- the number of statements of a body, fewer than n bodies deep -/
def spCnt (K : PySem.W.Frag) (ws : List Str) : Nat → Sp
  | 0 => fun _ _ _ _ => False
  | n + 1 => fun vs H Q _ => (∀ z ∈ ws, WordOk z) ∧ ∃ (b : List Sm) (p : Addr) (sz : Str → Nat) (ah : List Str) (l : Nat) (room loops : Int), vs = [.ref p, .int room, .int loops] ∧ RepB K H b p ∧ OkL ws sz ah n l b ∧ (cntL b : Int) ≤ room ∧ (l : Int) ≤ loops ∧ ∀ H', Ex H H' → Q (.int (cntL b : Int)) H'
theorem ok0_count_in (T : Txt K mg) : Cal P w K mg base 11 "count_in" (spCnt K ws 0) [] := by
  obtain ⟨fd, F⟩ := T.d_count_in
  refine ⟨_, fd, ["body", "room", "loops"], [], ?_, T.g_count_in, F.kp, F.bindsN fun _ _ _ _ _ _ us hl => match us, hl with | [_, _, _], _ => rfl, .nil⟩
  refine F.ok sc_count_in (fun vs H Q E h => False.elim (id h)) (fun cdv A outer s H vs Q E hr h => False.elim (id h))
theorem st_count_in (T : Txt K mg) (C_has_head_form : Cal P w K mg base 10 "has_head_form" (spHead K ws) []) (C_bodies_in : Cal P w K mg base 1 "bodies_in" (spBodies K) []) {n : Nat} (C_count_in : Cal P w K mg base (n + 11) "count_in" (spCnt K ws n) []) : Cal P w K mg base (n + 12) "count_in" (spCnt K ws (n + 1)) [] := by
  obtain ⟨fd, F⟩ := T.d_count_in
  refine ⟨_, fd, ["body", "room", "loops"], [], ?_, T.g_count_in, F.kp, F.bindsN fun _ _ _ _ _ _ us hl => match us, hl with | [_, _, _], _ => rfl, .nil⟩
  refine F.ok sc_count_in (fun vs H Q E h => by obtain ⟨_, _, _, _, _, _, _, _, rfl, _⟩ := h; rfl) (fun cdv A outer s H vs Q E hr h => ?_)
  have hu := hu_of hr
  refine ⟨_, PSs.nox (pss_cons (ps_if (pt_not (pt_val (pe_callB call_isi (by rfl) T.f_isinstance (by decide +kernel) (pa_cons (pv 0) (pa_cons (pe_bltn (v := .ty "tuple") (u := .type "tuple") (by rfl) T.f_tuple (by decide +kernel) rfl) pa_nil))))) (pss_one (ps_ret pe_non)) pss_nil)
      (pss_cons (ps_set (i := 3) sc_count_in.nd rfl (Or.inl rfl) pe_int)
      (pss_cons (ps_for PassesOwn.never rfl (pi_tup (pv 0)) (pg_name (i := 4) sc_count_in.nd rfl (Or.inl rfl)) (pss_cons (ps_aug (i := 3) sc_count_in.nd rfl (Or.inl rfl) pe_int ip_add)
      (pss_cons (ps_if (PW.pt (pw_or (pt_cmpR op_gt (pv 3) (pv 1) (nomark _)) (pw_or1 (pt_not (pt_val (pe_c C_has_head_form hr (by omega) rfl (pa_cons (pv 4) pa_nil))))))) (pss_one (ps_ret pe_non)) pss_nil)
      (pss_cons (ps_set (i := 5) sc_count_in.nd rfl (Or.inl rfl) (pv 2))
      (pss_cut (ps_if (pt_cmpR op_eq (pe_ix ix_tup (pv 4) pe_int (fun _ _ => rfl)) pe_str (nomark _)) (pss_one (ps_set (i := 5) sc_count_in.nd rfl (Or.inl rfl) (pe_op op_sub (pv 2) pe_int))) pss_nil)
      (pss_cons (ps_if (pt_cmpR op_lt (pv 5) pe_int (nomark _)) (pss_one (ps_ret pe_non)) pss_nil)
      (pss_one (ps_for PassesOwn.never rfl (pi_list (pe_c C_bodies_in hr (by omega) rfl (pa_cons (pv 4) pa_nil))) (pg_name (i := 6) sc_count_in.nd rfl (Or.inl rfl)) (pss_cons (ps_set (i := 7) sc_count_in.nd rfl (Or.inl rfl) (pe_c C_count_in hr (by omega) rfl (pa_cons (pv 6) (pa_cons (pe_op op_sub (pv 1) (pv 3)) (pa_cons (pv 5) pa_nil)))))
      (pss_cons (ps_if (pt_cmpR op_isN (pv 7) pe_non (nomark _)) (pss_one (ps_ret pe_non)) pss_nil)
      (pss_one (ps_aug (i := 3) sc_count_in.nd rfl (Or.inl rfl) (pv 7) ip_add))))))))))))
      (pss_one (ps_ret (pv 3)))))), ?_⟩
  obtain ⟨hws, b, p, sz, ah, l, room, loops, rfl, hB, hO, hc, hl, hQ⟩ := h
  obtain ⟨us, hp, hL⟩ := hB
  have hlen := hL.length
  refine ⟨_, rfl, _, _, _, _, _, rfl, ClsV.ty _, ty_t hp, kit_ty (r := true) (by decide +kernel), _, rfl, ?_⟩
  refine ⟨_, rfl, p, rfl, ⟨_, hp⟩, ?_⟩
  refine for_it (walk_tup (xs := us)) (fun i σ H' => Ex H H' ∧ ∃ x4 x5 x6 x7, σ = [some (.ref p), some (.int room), some (.int loops), some (.int (cntL (b.take i) : Int)), x4, x5, x6, x7])
    ⟨Evl.Ex.refl H, none, none, none, none, rfl⟩ (fun i σ H' _ q => Evl.ex_t q.1 hp) ?_ ?_
  · rintro i x σ H1 H1' hi ⟨e1, x4, x5, x6, x7, rfl⟩ ⟨rfl, hx⟩
    obtain ⟨s, hs, hR⟩ := hL.get hx
    have hR1 := hR.mono e1
    have hOk := hO.get (List.mem_of_getElem? hs)
    have ct := cntL_take b i s hs
    have ck := cntS_kids s
    refine ⟨_, rfl, _, _, rfl, rfl, ?_⟩
    refine ⟨_, rfl, _, rfl, _, _, rfl, rfl, _, rfl, iteFo (decide_eq_false (by dsimp only; omega)) ?_⟩
    refine ⟨_, rfl, hws, s, x, sz, ah, n, l, rfl, hR1, hOk, fun H2 e2 => ⟨_, rfl, ?_⟩⟩
    refine ⟨_, rfl, ?_⟩
    obtain ⟨q, r, rfl, hq⟩ := hR.head
    have hR2 := hR1.mono e2
    have kk := hOk.kid
    refine ⟨fun σ H' => H' = H2 ∧ σ = [some (.ref p), some (.int room), some (.int loops), some (.int ((cntL (b.take i) : Int) + 1)), some (.ref q), some (.int (if isW s = true then loops - 1 else loops)), x6, x7], ?_, ?_⟩
    · refine ⟨_, rfl, q, _, 0, _, rfl, rfl, Evl.ex_t (e1.trans e2) hq, atI_nat (j := 0) rfl, rfl, _, rfl, ?_⟩
      rw [knd_w]
      cases hw : isW s with
      | true => exact ⟨_, rfl, _, _, rfl, rfl, rfl, rfl⟩
      | false => exact ⟨rfl, rfl⟩
    rintro σ H2' ⟨rfl, rfl⟩
    refine ⟨_, rfl, _, _, rfl, rfl, _, rfl, iteFo (decide_eq_false ?_) ?_⟩
    · cases hw : isW s with
      | true => have := kk.1 hw; simp; omega
      | false => simp; omega
    refine ⟨_, rfl, s, _, rfl, hR2, kids_len hOk, fun l0 ps H3 hl0 e3 hd3 hBs => ?_⟩
    have hbl := hBs.length
    refine ⟨l0, rfl, ⟨_, SqL.of hd3⟩, ?_⟩
    refine for_it (walk_list (xs := ps.map V.ref)) (fun j σ H' => Ex H3 H' ∧ ∃ x6 x7, σ = [some (.ref p), some (.int room), some (.int loops), some (.int (((cntL (b.take i) + 1 + cntK ((kids s).take j) : Nat) : Int))), some (.ref q), some (.int (if isW s = true then loops - 1 else loops)), x6, x7])
      ⟨Evl.Ex.refl H3, x6, x7, rfl⟩ (fun j σ H' _ z => SqL.of (z.1 _ _ hd3)) ?_ ?_
    · rintro j y σ H4 H4' hj ⟨e4, x6, x7, rfl⟩ ⟨rfl, hy⟩
      obtain ⟨pb, rfl, hpb⟩ := refs_get hy
      obtain ⟨kb, hkb, hRB⟩ := hBs.get hpb
      obtain ⟨m, hm, hOm⟩ := kk.2 kb (List.mem_of_getElem? hkb)
      have ckt := cntK_take (kids s) j kb hkb
      subst hm
      refine ⟨_, rfl, _, rfl, _, rfl, _, _, rfl, rfl, _, rfl, ?_⟩
      refine ⟨hws, kb, pb, sz, ah, _, _, _, rfl, hRB.mono e4, hOm, by omega, ?_, fun H5 e5 => ?_⟩
      · cases hw : isW s with
        | true => have := kk.1 hw; simp; omega
        | false => simp; omega
      refine ⟨_, rfl, rfl, _, rfl, ?_⟩
      refine ⟨_, rfl, _, rfl, _, _, rfl, rfl, e4.trans e5, some (.ref pb), some (.int (cntL kb : Int)), ?_⟩
      rw [ckt.1]
      have e : (((cntL (b.take i) + 1 + cntK ((kids s).take j) : Nat) : Int)) + (cntL kb : Int) = ((cntL (b.take i) + 1 + (cntK ((kids s).take j) + cntL kb) : Nat) : Int) := by omega
      rw [← e]
      rfl
    · rintro σ H4 ⟨e4, x6, x7, rfl⟩
      refine ⟨(((e1.trans e2).trans e3).trans e4), some (.ref q), some (.int (if isW s = true then loops - 1 else loops)), x6, x7, ?_⟩
      rw [show (kids s).take (ps.map V.ref).length = kids s from List.take_of_length_le (by simp [hbl]), ct.1, ck, ← Nat.add_assoc]
  · rintro σ H1 ⟨e1, x4, x5, x6, x7, rfl⟩
    refine ⟨_, rfl, ?_⟩
    rw [List.take_of_length_le (by omega)]
    exact hQ H1 e1
theorem ok_count_in (T : Txt K mg) (C_has_head_form : Cal P w K mg base 10 "has_head_form" (spHead K ws) []) (C_bodies_in : Cal P w K mg base 1 "bodies_in" (spBodies K) []) : ∀ n, Cal P w K mg base (n + 11) "count_in" (spCnt K ws n) []
  | 0 => ok0_count_in T
  | n + 1 => st_count_in T C_has_head_form C_bodies_in (ok_count_in T C_has_head_form C_bodies_in n)

abbrev N_count_in_unit : List Str := ["value"]
theorem sc_count_in_unit : FnScope N_count_in_unit ["value"] (defScope (top 47)) := ⟨rfl, rfl, rfl, by decide +kernel, rfl, by decide +kernel, by decide +kernel⟩
/-- a unit: its name, its body; at most 4 bodies deep, 3 loops deep -/
structure UnitOk (ws : List Str) (sz : Str → Nat) (ah : List Str) (u : Str × List Sm) : Prop where
  wd : WordOk u.1
  ok : OkL ws sz ah 4 3 u.2
  cn : cntL u.2 ≤ 20
def RepU (K : PySem.W.Frag) (H : Hp) (u : Str × List Sm) (v : V) : Prop := ∃ p b, v = .ref p ∧ SqT K H p [.str u.1, .ref b] ∧ RepB K H u.2 b
theorem RepU.mono {K : PySem.W.Frag} {H H' : Hp} (e : Ex H H') {u : Str × List Sm} {v : V} (h : RepU K H u v) : RepU K H' u v := by
  obtain ⟨p, b, h1, h2, h3⟩ := h
  exact ⟨p, b, h1, Evl.ex_t e h2, h3.mono e⟩
def spCntU (K : PySem.W.Frag) (ws : List Str) : Sp := fun vs H Q _ => (∀ z ∈ ws, WordOk z) ∧ ∃ (u : Str × List Sm) (sz : Str → Nat) (ah : List Str) (v : V), vs = [v] ∧ RepU K H u v ∧ UnitOk ws sz ah u ∧ ∀ H', Ex H H' → Q (.int (cntL u.2 : Int)) H'
theorem ok_count_in_unit (T : Txt K mg) (C_is_tuple_of : Cal P w K mg base 1 "is_tuple_of" (spTupleOf K) []) (C_is_word : Cal P w K mg base 1 "is_word" spWord []) (C_count_in : ∀ n, Cal P w K mg base (n + 11) "count_in" (spCnt K ws n) []) : Cal P w K mg base 17 "count_in_unit" (spCntU K ws) [] := by
  obtain ⟨fd, F⟩ := T.d_count_in_unit
  refine ⟨_, fd, ["value"], [], ?_, T.g_count_in_unit, F.kp, F.bindsN fun _ _ _ _ _ _ us hl => match us, hl with | [_], _ => rfl, .nil⟩
  refine F.ok sc_count_in_unit (fun vs H Q E h => by obtain ⟨_, _, _, _, _, rfl, _⟩ := h; rfl) (fun cdv A outer s H vs Q E hr h => ?_)
  have hu := hu_of hr
  refine ⟨_, PSs.nox (pss_cons (ps_if (PW.pt (pw_or (pt_not (pt_val (pe_c C_is_tuple_of hr (by omega) rfl (pa_cons (pv 0) (pa_cons pe_int pa_nil))))) (pw_or1 (pt_not (pt_val (pe_c C_is_word hr (by omega) rfl (pa_cons (pe_ix ix_tup (pv 0) pe_int (fun _ _ => rfl)) pa_nil))))))) (pss_one (ps_ret pe_non)) pss_nil)
      (pss_one (ps_ret (pe_c (C_count_in 5) hr (by omega) rfl (pa_cons (pe_ix ix_tup (pv 0) pe_int (fun _ _ => rfl)) (pa_cons (pe_gc rfl T.c_MOST_STATEMENTS) (pa_cons (pe_gc rfl T.c_MOST_LOOPS) pa_nil))))))), ?_⟩
  obtain ⟨hws, u, sz, ah, v, rfl, hR, hU, hQ⟩ := h
  obtain ⟨p, b, rfl, hp, hB⟩ := hR
  refine ⟨_, rfl, p, _, _, rfl, hp, _, rfl, ?_⟩
  refine ⟨_, rfl, p, _, 0, _, rfl, rfl, hp, rfl, u.1, rfl, hU.wd, fun H1 e1 => ⟨_, rfl, ?_⟩⟩
  refine ⟨_, rfl, p, _, 1, _, rfl, rfl, Evl.ex_t e1 hp, rfl, ?_⟩
  exact ⟨hws, u.2, b, sz, ah, 3, _, _, rfl, hB.mono e1, hU.ok, by have := hU.cn; omega, by decide, fun H2 e2 => hQ H2 (e1.trans e2)⟩

abbrev N_counts_in_units : List Str := ["value", "counts", "unit"]
theorem sc_counts_in_units : FnScope N_counts_in_units ["value"] (defScope (top 48)) := ⟨rfl, rfl, rfl, by decide +kernel, rfl, by decide +kernel, by decide +kernel⟩
def RepUs (K : PySem.W.Frag) (H : Hp) (units : List (Str × List Sm)) (us : List V) : Prop := Paired (fun u v => RepU K H u v) units us
theorem RepUs.mono {K : PySem.W.Frag} {H H' : Hp} (e : Ex H H') : ∀ {units : List (Str × List Sm)} {us : List V}, RepUs K H units us → RepUs K H' units us
  | _, _, .nil => .nil
  | _, _, .cons h t => .cons (h.mono e) (RepUs.mono e t)
theorem RepUs.get {K : PySem.W.Frag} {H : Hp} : ∀ {units : List (Str × List Sm)} {us : List V}, RepUs K H units us → ∀ {i : Nat} {v : V}, us[i]? = some v → ∃ u, units[i]? = some u ∧ RepU K H u v
  | _, _, .nil, i, p, h => by simp at h
  | _, _, .cons a t, 0, p, h => by
    cases h
    exact ⟨_, rfl, a⟩
  | _, _, .cons a t, i + 1, p, h => RepUs.get t h
theorem RepUs.length {K : PySem.W.Frag} {H : Hp} {units : List (Str × List Sm)} {us : List V} (h : RepUs K H units us) : units.length = us.length := Paired.length h
theorem non_in_ints : ∀ (is : List Int), inV .non (is.map V.int) = false := fun is => by
  unfold inV
  rw [List.any_eq_false]
  intro v hv
  obtain ⟨i, _, rfl⟩ := List.mem_map.mp hv
  exact Bool.false_ne_true
theorem flat_ints (is : List Int) : (is.map V.int).all flatV = true := by
  rw [List.all_eq_true]
  intro v hv
  obtain ⟨i, _, rfl⟩ := List.mem_map.mp hv
  rfl
theorem sum_cast : ∀ (units : List (Str × List Sm)), (units.map fun u => (cntL u.2 : Int)).sum = ((units.map fun u => cntL u.2).sum : Nat)
  | [] => rfl
  | u :: r => by
    have := sum_cast r
    simp only [List.map_cons, List.sum_cons]
    omega
def spCntS (K : PySem.W.Frag) (ws : List Str) : Sp := fun vs H Q _ => (∀ z ∈ ws, WordOk z) ∧ ∃ (units : List (Str × List Sm)) (us : List V) (p : Addr), vs = [.ref p] ∧ SqT K H p us ∧ RepUs K H units us ∧ (∀ u ∈ units, ∃ sz ah, UnitOk ws sz ah u) ∧ 1 ≤ units.length ∧ units.length ≤ 6 ∧ (units.map fun u => cntL u.2).sum ≤ 60 ∧
  ∀ l H', Ex H H' → Q (.ref l) H'
theorem ok_counts_in_units (T : Txt K mg) (C_count_in_unit : Cal P w K mg base 17 "count_in_unit" (spCntU K ws) []) : Cal P w K mg base 18 "counts_in_units" (spCntS K ws) [] := by
  obtain ⟨fd, F⟩ := T.d_counts_in_units
  refine ⟨_, fd, ["value"], [], ?_, T.g_counts_in_units, F.kp, F.bindsN fun _ _ _ _ _ _ us hl => match us, hl with | [_], _ => rfl, .nil⟩
  refine F.ok sc_counts_in_units (fun vs H Q E h => by obtain ⟨_, _, _, _, rfl, _⟩ := h; rfl) (fun cdv A outer s H vs Q E hr h => ?_)
  have hu := hu_of hr
  refine ⟨_, PSs.nox (pss_cons (ps_if (PW.pt (pw_or (pt_not (pt_val (pe_callB call_isi (by rfl) T.f_isinstance (by decide +kernel) (pa_cons (pv 0) (pa_cons (pe_bltn (v := .ty "tuple") (u := .type "tuple") (by rfl) T.f_tuple (by decide +kernel) rfl) pa_nil))))) (pw_or1 (pt_not (pt_chain op_le op_le pe_int (pe_callB call_len_seq (by rfl) T.f_len (by decide +kernel) (pa_cons (pv 0) pa_nil)) (pe_gc rfl T.c_MOST_UNITS)))))) (pss_one (ps_ret pe_non)) pss_nil)
      (pss_cons (ps_setLc (i := 1) (own := [("unit", 2)]) rfl sc_counts_in_units.nd rfl rfl (sw_true rfl rfl rfl (by decide +kernel)) (pi_tup (pv 0)) (blkOk_by (own := [("unit", 2)]) (N := N_counts_in_units) (sc := defScope (top 48)) (by decide +kernel)) (fun _ _ _ _ _ => (pg_name (i := 2) sc_counts_in_units.nd rfl (Or.inl rfl))) (fun _ _ _ _ _ => pts_nil) (fun _ _ _ _ _ => (pe_c C_count_in_unit hr (by omega) rfl (pa_cons (pv 2) pa_nil))))
      (pss_cons (ps_if (PW.pt (pw_or (pt_cmpR op_in_seq pe_non (pv 1) rfl) (pw_or1 (pt_cmpR op_gt (pe_callB (cr_sum rfl) (by rfl) T.f_sum (by decide +kernel) (pa_cons (pv 1) pa_nil)) (pe_gc rfl T.c_MOST_STATEMENTS_IN_ALL) (nomark _))))) (pss_one (ps_ret pe_non)) pss_nil)
      (pss_one (ps_ret (pv 1)))))), ?_⟩
  obtain ⟨hws, units, us, p, rfl, hp, hR, hU, h1, h6, hs, hQ⟩ := h
  have hlen := hR.length
  refine ⟨_, rfl, _, _, _, _, _, rfl, ClsV.ty _, ty_t hp, kit_ty (r := true) (by decide +kernel), _, rfl, ?_⟩
  refine ⟨_, rfl, p, _, rfl, .inr hp, _, _, rfl, rfl, _, rfl, iteTo (decide_eq_true (by omega)) ⟨_, _, rfl, rfl, _, rfl, ?_⟩⟩
  rw [decide_eq_true (by omega)]
  refine ⟨_, rfl, p, rfl, ⟨_, hp⟩, fun D hD => ?_⟩
  refine lc_fn (walk_tup (xs := us)) (fun i => .int (cntL (units.getD i ("", [])).2 : Int)) (by omega) hD (fun _ e => Evl.ex_t e hp) ?_ ?_
  · rintro i x H1' H1 Z B hi e hl ⟨rfl, hx⟩ hZ
    obtain ⟨u, hu, hRu⟩ := hR.get hx
    refine ⟨rfl, ?_⟩
    obtain ⟨sz, ah, hUu⟩ := hU u (List.mem_of_getElem? hu)
    refine ⟨_, rfl, hws, u, sz, ah, x, rfl, hRu.mono e, hUu, fun H2 e2 => ?_⟩
    have eu : units.getD i ("", []) = u := by rw [List.getD_eq_getElem?_getD, hu]; rfl
    have := hZ H2 e2
    rw [eu] at this
    exact this
  · intro H1 e hd
    have eL : (List.range us.length).map (fun i => V.int (cntL (units.getD i ("", [])).2 : Int)) = (units.map fun u => (cntL u.2 : Int)).map V.int := by
      refine List.ext_getElem? fun i => ?_
      by_cases hi : i < units.length
      · rw [List.getElem?_map, List.getElem?_range (by omega), List.getElem?_map, List.getElem?_map, List.getElem?_eq_getElem hi]
        simp [List.getD_eq_getElem?_getD, hi]
      · rw [List.getElem?_eq_none (by simp; omega), List.getElem?_eq_none (by simp; omega)]
    rw [eL] at hd
    refine ⟨_, rfl, D, _, rfl, .inl (SqL.of hd), rfl, flat_ints _, _, rfl, iteFo (non_in_ints _) ?_⟩
    refine ⟨_, rfl, D, _, rfl, SqL.of hd, _, _, rfl, rfl, _, rfl, ?_⟩
    rw [sum_cast]
    refine iteFo (decide_eq_false (by omega)) ?_
    exact ⟨_, rfl, hQ D H1 e⟩

abbrev N_counts_in_tree : List Str := ["value", "name"]
theorem sc_counts_in_tree : FnScope N_counts_in_tree ["value"] (defScope (top 51)) := ⟨rfl, rfl, rfl, by decide +kernel, rfl, by decide +kernel, by decide +kernel⟩
abbrev US := List (Str × List Sm)
/-- a system in the heap -/
structure SysAt (K : PySem.W.Frag) (H : Hp) (a : Addr) (ns : NS) (units : US) : Prop where
  ex : ∃ (pn pu : Addr) (o ou : Obj) (ps : List Addr) (us : List Addr), SqT K H a [.ref pn, .ref pu] ∧ H pn = some (.frz o (.tup (ps.map V.ref))) ∧ o.dict = none ∧ Tups H ps ns ∧ H pu = some (.frz ou (.tup (us.map V.ref))) ∧ ou.dict = none ∧ RepUs K H units (us.map V.ref)
theorem SysAt.mono {K : PySem.W.Frag} {H H' : Hp} (e : Ex H H') {a : Addr} {ns : NS} {units : US} (h : SysAt K H a ns units) : SysAt K H' a ns units := by
  obtain ⟨pn, pu, o, ou, ps, us, h1, h2, h3, h4, h5, h6, h7⟩ := h.ex
  exact ⟨pn, pu, o, ou, ps, us, Evl.ex_t e h1, e _ _ h2, h3, h4.mono e, e _ _ h5, h6, h7.mono e⟩
/-- the size of a name -/
def szf (ns : NS) (x : Str) : Nat := (szs ns).getD ((wds ns).idxOf x) 1
structure SysOk (ns : NS) (units : US) : Prop where
  nok : NsOk ns
  us : ∀ (i : Nat) (u : Str × List Sm), units[i]? = some u → UnitOk (wds ns) (szf ns) ((units.take i).map Prod.fst) u
  lo : 1 ≤ units.length
  hi : units.length ≤ 6
  sm : (units.map fun u => cntL u.2).sum ≤ 60
  nd : (wds ns ++ units.map Prod.fst).Nodup
theorem SysOk.usm {ns : NS} {units : US} (h : SysOk ns units) : ∀ u ∈ units, ∃ sz ah, UnitOk (wds ns) sz ah u := fun u hu => by
  obtain ⟨i, hi, e⟩ := List.mem_iff_getElem.mp hu
  exact ⟨_, _, h.us i u (by rw [List.getElem?_eq_getElem hi, e])⟩
def spCntT (K : PySem.W.Frag) (ws : List Str) : Sp := fun vs H Q _ => ∃ (ns : NS) (units : US) (a : Addr), vs = [.ref a] ∧ SysAt K H a ns units ∧ SysOk ns units ∧ wds ns = ws ∧ ∀ l H', Ex H H' → Q (.ref l) H'
theorem ok_counts_in_tree (T : Txt K mg) (C_is_tuple_of : Cal P w K mg base 1 "is_tuple_of" (spTupleOf K) []) (C_is_sized_name : Cal P w K mg base 3 "is_sized_name" spSized []) (C_counts_in_units : Cal P w K mg base 18 "counts_in_units" (spCntS K ws) []) : Cal P w K mg base 19 "counts_in_tree" (spCntT K ws) [] := by
  obtain ⟨fd, F⟩ := T.d_counts_in_tree
  refine ⟨_, fd, ["value"], [], ?_, T.g_counts_in_tree, F.kp, F.bindsN fun _ _ _ _ _ _ us hl => match us, hl with | [_], _ => rfl, .nil⟩
  refine F.ok sc_counts_in_tree (fun vs H Q E h => by obtain ⟨_, _, _, rfl, _⟩ := h; rfl) (fun cdv A outer s H vs Q E hr h => ?_)
  have hu := hu_of hr
  refine ⟨_, PSs.nox (pss_cons (ps_if (PW.pt (pw_or (pt_not (pt_val (pe_c C_is_tuple_of hr (by omega) rfl (pa_cons (pv 0) (pa_cons pe_int pa_nil))))) (pw_or (pt_not (pt_val (pe_callB call_isi (by rfl) T.f_isinstance (by decide +kernel) (pa_cons (pe_ix ix_tup (pv 0) pe_int (fun _ _ => rfl)) (pa_cons (pe_bltn (v := .ty "tuple") (u := .type "tuple") (by rfl) T.f_tuple (by decide +kernel) rfl) pa_nil))))) (pw_or1 (pt_not (pt_chain op_le op_le pe_int (pe_callB call_len_seq (by rfl) T.f_len (by decide +kernel) (pa_cons (pe_ix ix_tup (pv 0) pe_int (fun _ _ => rfl)) pa_nil)) (pe_gc rfl T.c_MOST_NAMES))))))) (pss_one (ps_ret pe_non)) pss_nil)
      (pss_cons (ps_if (pt_not (pt_val (pe_callB (cr_all rfl) (by rfl) T.f_all (by decide +kernel) (pa_cons (pe_lc (own := [("name", 1)]) rfl sc_counts_in_tree.nd (pi_tup (pe_ix ix_tup (pv 0) pe_int (fun _ _ => rfl))) (blkOk_by (own := [("name", 1)]) (N := N_counts_in_tree) (sc := defScope (top 51)) (by decide +kernel)) (fun _ _ _ _ _ => (pg_name (i := 1) sc_counts_in_tree.nd rfl (Or.inl rfl))) (fun _ _ _ _ _ => pts_nil) (fun _ _ _ _ _ => (pe_c C_is_sized_name hr (by omega) rfl (pa_cons (pv 1) pa_nil)))) pa_nil)))) (pss_one (ps_ret pe_non)) pss_nil)
      (pss_one (ps_ret (pe_c C_counts_in_units hr (by omega) rfl (pa_cons (pe_ix ix_tup (pv 0) pe_int (fun _ _ => rfl)) pa_nil)))))), ?_⟩
  obtain ⟨ns, units, a, rfl, hS, hO, rfl, hQ⟩ := h
  obtain ⟨pn, pu, o, ou, ps, us, ha, hpn, ho, hT, hpu, hou, hR⟩ := hS.ex
  have hl := hT.length
  have hn3 := hO.nok.len
  have hp : SqT K H pn (ps.map V.ref) := .inl (.inr ⟨o, hpn⟩)
  refine ⟨_, rfl, a, _, _, rfl, ha, _, rfl, ?_⟩
  refine ⟨_, rfl, a, _, 0, _, rfl, rfl, ha, rfl, _, _, _, _, _, rfl, ClsV.ty _, ty_t hp, kit_ty (r := true) (by decide +kernel), _, rfl, ?_⟩
  refine ⟨_, rfl, a, _, 0, _, rfl, rfl, ha, rfl, pn, _, rfl, .inr hp, _, _, rfl, rfl, _, rfl, iteTo (decide_eq_true (by simp; omega)) ⟨_, _, rfl, rfl, _, rfl, ?_⟩⟩
  rw [decide_eq_true (by simp; omega)]
  refine ⟨_, rfl, a, _, 0, _, rfl, rfl, ha, rfl, pn, rfl, ⟨_, hp⟩, fun D hD => ?_⟩
  refine lc_fn (walk_tup (xs := ps.map V.ref)) (fun _ => .bl true) (by simp; omega) hD (fun _ e => Evl.ex_t e hp) ?_ ?_
  · rintro i x H1' H1 Z B hi e hl ⟨rfl, hx⟩ hZ
    obtain ⟨p, rfl, hpi⟩ := refs_get hx
    obtain ⟨n, hn, hpn⟩ := hT.get hpi
    have hs := hO.nok.size (List.mem_of_getElem? hn)
    refine ⟨rfl, ?_⟩
    exact ⟨_, rfl, p, n, rfl, e _ _ hpn, hO.nok.wd _ (List.mem_map_of_mem (List.mem_of_getElem? hn)), hs.1, hs.2, fun H2 e2 => hZ H2 e2⟩
  · intro H1 e hd
    refine ⟨D, (List.range (ps.map V.ref).length).map fun _ => true, rfl, by rw [List.map_map]; exact SqL.of hd, _, rfl, ?_⟩
    rw [range_all_true fun _ _ => rfl]
    refine ⟨_, rfl, a, _, 1, _, rfl, rfl, Evl.ex_t e ha, rfl, ?_⟩
    exact ⟨hO.nok.wd, units, us.map V.ref, pu, rfl, Evl.ex_t e (.inl (.inr ⟨ou, hpu⟩)), hR.mono e, hO.usm, hO.lo, hO.hi, hO.sm, fun l H2 e2 => hQ l H2 (e.trans e2)⟩

end
end K14
namespace K14
open PySem PySem.Spec PyProof.Rows L2 C8

/-- a pair (path, statement) -/
def Ent (K : PySem.W.Frag) (ws : List Str) (sz : Str → Nat) (ah : List Str) (H : Hp) (t : Addr) : Prop := ∃ (u v : V) (s : Sm) (n l : Nat), SqT K H t [u, v] ∧ RepS K H s v ∧ OkS ws sz ah n l s
theorem Ent.kt {K : PySem.W.Frag} {ws : List Str} {sz : Str → Nat} {ah : List Str} {H H' : Hp} (e : Kt H H') {t : Addr} (h : Ent K ws sz ah H t) : Ent K ws sz ah H' t := by
  obtain ⟨u, v, s, n, l, h1, h2, h3⟩ := h
  exact ⟨u, v, s, n, l, kt_t e h1, h2.kt e, h3⟩
theorem Ent.mono {K : PySem.W.Frag} {ws : List Str} {sz : Str → Nat} {ah : List Str} {H H' : Hp} (e : Ex H H') {t : Addr} (h : Ent K ws sz ah H t) : Ent K ws sz ah H' t := by
  obtain ⟨u, v, s, n, l, h1, h2, h3⟩ := h
  exact ⟨u, v, s, n, l, Evl.ex_t e h1, h2.mono e, h3⟩
theorem Ex.app {H H' : Hp} (e : Ex H H') {f : Addr} (hf : H f = none) {o : HO} : Ex H (upd H' f o) := Evl.Ex.mut e hf
section
variable {P : Program} {w : World} {K : PySem.W.Frag} {mg : Str → Option Value} {base : Heap} {ws : List Str}
abbrev N_walked : List Str := ["body", "path", "found", "at", "statement", "index", "inner"]
theorem sc_walked : FnScope N_walked ["body", "path"] (defScope (top 49)) := ⟨rfl, rfl, rfl, by decide +kernel, rfl, by decide +kernel, by decide +kernel⟩
/-- the statements of a body, one behind the other -/
def spWalked (K : PySem.W.Frag) (ws : List Str) : Nat → Sp
  | 0 => fun _ _ _ _ => False
  | n + 1 => fun vs H Q _ => ∃ (b : List Sm) (p pp : Addr) (xs : List V) (sz : Str → Nat) (ah : List Str) (l : Nat), vs = [.ref p, .ref pp] ∧ RepB K H b p ∧ OkL ws sz ah n l b ∧ SqT K H pp xs ∧ xs.length + 2 * n ≤ 40 ∧ cntL b ≤ 100 ∧
    ∀ (q : Addr) (qs : List Addr) (H' : Hp), H q = none → Ex H H' → H' q = some (.lst (qs.map V.ref)) → qs.length = cntL b → (∀ t ∈ qs, Ent K ws sz ah H' t) → Q (.ref q) H'
theorem ok0_walked (T : Txt K mg) : Cal P w K mg base 2 "walked" (spWalked K ws 0) [] := by
  obtain ⟨fd, F⟩ := T.d_walked
  refine ⟨_, fd, ["body", "path"], [], ?_, T.g_walked, F.kp, F.bindsN fun _ _ _ _ _ _ us hl => match us, hl with | [_, _], _ => rfl, .nil⟩
  refine F.ok sc_walked (fun vs H Q E h => False.elim (id h)) (fun cdv A outer s H vs Q E hr h => False.elim (id h))
theorem st_walked (T : Txt K mg) (C_bodies_in : Cal P w K mg base 1 "bodies_in" (spBodies K) []) {n : Nat} (C_walked : Cal P w K mg base (n + 2) "walked" (spWalked K ws n) []) : Cal P w K mg base (n + 3) "walked" (spWalked K ws (n + 1)) [] := by
  obtain ⟨fd, F⟩ := T.d_walked
  refine ⟨_, fd, ["body", "path"], [], ?_, T.g_walked, F.kp, F.bindsN fun _ _ _ _ _ _ us hl => match us, hl with | [_, _], _ => rfl, .nil⟩
  refine F.ok sc_walked (fun vs H Q E h => by obtain ⟨_, _, _, _, _, _, _, rfl, _⟩ := h; rfl) (fun cdv A outer s H vs Q E hr h => ?_)
  have hu := hu_of hr
  refine ⟨_, PSs.nox (pss_cons (ps_set (i := 2) sc_walked.nd rfl (Or.inl rfl) (pe_lst pa_nil))
      (pss_cons (ps_for PassesOwn.never rfl (pi_enumT (by rfl) T.f_enumerate (pa_cons (pv 0) pa_nil)) (pg_tup (by rfl) (pgs_cons (pg_name (i := 3) sc_walked.nd rfl (Or.inl rfl)) (pgs_cons (pg_name (i := 4) sc_walked.nd rfl (Or.inl rfl)) pgs_nil))) (pss_cons (ps_expr (pe_bm PySem.F.plainAttrs_list PySem.F.slot_list_append PySem.F.type_list_append mt_append (pv 2) (pa_cons (pe_tup (pa_cons (pe_tup (StX.pa_star (pv 1) (pa_cons (pv 3) pa_nil))) (pa_cons (pv 4) pa_nil))) pa_nil)))
      (pss_one (ps_for PassesOwn.never rfl (pi_enum (by rfl) T.f_enumerate (pa_cons (pe_c C_bodies_in hr (by omega) rfl (pa_cons (pv 4) pa_nil)) pa_nil)) (pg_tup (by rfl) (pgs_cons (pg_name (i := 5) sc_walked.nd rfl (Or.inl rfl)) (pgs_cons (pg_name (i := 6) sc_walked.nd rfl (Or.inl rfl)) pgs_nil))) (pss_one (ps_expr (pe_bm PySem.F.plainAttrs_list PySem.F.slot_list_extend PySem.F.type_list_extend mt_extend (pv 2) (pa_cons (pe_c C_walked hr (by omega) rfl (pa_cons (pv 6) (pa_cons (pe_tup (StX.pa_star (pv 1) (pa_cons (pv 3) (pa_cons (pv 5) pa_nil)))) pa_nil))) pa_nil))))))))
      (pss_one (ps_ret (pv 2))))), ?_⟩
  obtain ⟨b, p, pp, xs, sz, ah, l, rfl, hB, hO, hpp, hxs, hc, hQ⟩ := h
  obtain ⟨us, hp, hL⟩ := hB
  have hlen := hL.length
  refine ⟨Nat.zero_le _, fun f hf => ?_⟩
  have e0 : Ex H (upd H f (.lst [])) := Evl.Ex.new hf
  refine ⟨_, rfl, p, _, rfl, Evl.ex_t e0 hp, ?_⟩
  refine for_it (walk_enumT (xs := us)) (fun i σ H' => Ex H H' ∧ ∃ (qs : List Addr) (x3 x4 x5 x6 : Option V), σ = [some (.ref p), some (.ref pp), some (.ref f), x3, x4, x5, x6] ∧ H' f = some (.lst (qs.map V.ref)) ∧ qs.length = cntL (b.take i) ∧ ∀ t ∈ qs, Ent K ws sz ah H' t)
    ⟨e0, [], none, none, none, none, rfl, upd_same, rfl, fun t ht => by cases ht⟩ (fun i σ H' _ z => Evl.ex_t z.1 hp) ?_ ?_
  · rintro i x σ H1 H1' hi ⟨e1, qs, x3, x4, x5, x6, rfl, hf1, hq, hE⟩ ⟨T, a1, a2, rfl, hT, rfl, ha, hx⟩
    cases ha
    obtain ⟨s, hs, hR⟩ := hL.get hx
    have hOk := hO.get (List.mem_of_getElem? hs)
    have ct := cntL_take b i s hs
    have ck := cntS_kids s
    have eT := Evl.Ex.new (o := .tup [V.int (i : Nat), a2]) hT
    refine ⟨T, _, rfl, SqT.of upd_same, rfl, _, _, rfl, _, _, rfl, rfl, ?_⟩
    have hf2 := eT f _ hf1
    refine ⟨_, rfl, .inl ⟨rfl, _, SqL.of hf2⟩, _, rfl, pp, xs, rfl, .inl (Evl.ex_t (e1.trans eT) hpp), _, rfl, ?_, fun t1 ht1 => ?_⟩
    · rw [List.length_append]
      exact Nat.le_trans (show xs.length + 1 ≤ 50 by omega) (by decide)
    have e3 := eT.trans (Evl.Ex.new (o := .tup (xs ++ [V.int (i : Nat)])) ht1)
    refine ⟨_, rfl, (by show 2 ≤ sizeLine; decide), fun t2 ht2 => ?_⟩
    have e4 := e3.trans (Evl.Ex.new (o := .tup [V.ref t1, a2]) ht2)
    have hf4 := e4 f _ hf1
    refine ⟨f, _, _, rfl, rfl, hf4, ?_, ?_⟩
    · rw [List.length_map]
      exact Nat.lt_of_le_of_lt (show qs.length ≤ 100 by omega) (by decide)
    have k5 := Kt.upd (o := .lst (qs.map V.ref ++ [V.ref t2])) hf4 rfl
    have kt5 := (kt e4).trans k5
    have t25 : SqT K (upd (upd (upd (upd H1 T (.tup [V.int (i : Nat), a2])) t1 (.tup (xs ++ [V.int (i : Nat)]))) t2 (.tup [V.ref t1, a2])) f (.lst (qs.map V.ref ++ [V.ref t2]))) t2 [V.ref t1, a2] := kt_t k5 (SqT.of upd_same)
    have e5 : Ex H (upd (upd (upd (upd H1 T (.tup [V.int (i : Nat), a2])) t1 (.tup (xs ++ [V.int (i : Nat)]))) t2 (.tup [V.ref t1, a2])) f (.lst (qs.map V.ref ++ [V.ref t2]))) := Ex.app (e1.trans e4) hf
    have hf5 : upd (upd (upd (upd H1 T (.tup [V.int (i : Nat), a2])) t1 (.tup (xs ++ [V.int (i : Nat)]))) t2 (.tup [V.ref t1, a2])) f (.lst (qs.map V.ref ++ [V.ref t2])) f = some (.lst ((qs ++ [t2]).map V.ref)) := by rw [List.map_append]; exact upd_same
    generalize upd (upd (upd (upd H1 T (.tup [V.int (i : Nat), a2])) t1 (.tup (xs ++ [V.int (i : Nat)]))) t2 (.tup [V.ref t1, a2])) f (.lst (qs.map V.ref ++ [V.ref t2])) = H5 at *
    have hE5 : ∀ t ∈ qs ++ [t2], Ent K ws sz ah H5 t := by
      intro t ht
      rcases List.mem_append.mp ht with ht | ht
      · exact (hE t ht).kt kt5
      · have : t = t2 := by simpa using ht
        subst this
        exact ⟨_, _, s, n, l, t25, hR.mono e5, hOk⟩
    have hq5 : (qs ++ [t2]).length = cntL (b.take i) + 1 := by rw [List.length_append, hq]; rfl
    generalize qs ++ [t2] = qs5 at hf5 hE5 hq5
    clear hE t25 hf4 hf2 ht2 ht1 e3 e4
    refine ⟨_, rfl, s, _, rfl, hR.mono e5, kids_len hOk, fun l0 ps H6 hl0 e6 hd6 hBs => ?_⟩
    have hbl := hBs.length
    refine ⟨l0, _, rfl, SqL.of hd6, ?_⟩
    refine for_it (walk_enum (xs := ps.map V.ref)) (fun j σ H' => Kt H6 H' ∧ H' l0 = some (.lst (ps.map V.ref)) ∧ Ex H H' ∧ ∃ (rs : List Addr) (x5 x6 : Option V), σ = [some (.ref p), some (.ref pp), some (.ref f), some (.int (i : Nat)), some a2, x5, x6] ∧ H' f = some (.lst (rs.map V.ref)) ∧ rs.length = cntL (b.take i) + 1 + cntK ((kids s).take j) ∧ ∀ t ∈ rs, Ent K ws sz ah H' t)
      ⟨Kt.refl _, hd6, e5.trans e6, qs5, x5, x6, rfl, e6 f _ hf5, hq5, fun t ht => (hE5 t ht).mono e6⟩ (fun j σ H' _ z => SqL.of z.2.1) ?_ ?_
    · rintro j y σ H7 H7' hj ⟨k7, hd7, e7, rs, x5, x6, rfl, hf7, hr7, hE7⟩ ⟨T2, b1, b2, rfl, hT2, rfl, hb, hy⟩
      cases hb
      obtain ⟨pb, rfl, hpb⟩ := refs_get hy
      obtain ⟨kb, hkb, hRB⟩ := hBs.get hpb
      obtain ⟨m, hm, hOm⟩ := hOk.kid.2 kb (List.mem_of_getElem? hkb)
      have ckt := cntK_take (kids s) j kb hkb
      subst hm
      have eU := Evl.Ex.new (o := .tup [V.int (j : Nat), V.ref pb]) hT2
      refine ⟨T2, _, rfl, SqT.of upd_same, rfl, _, _, rfl, _, _, rfl, rfl, ?_⟩
      refine ⟨_, rfl, .inl ⟨rfl, _, SqL.of (eU f _ hf7)⟩, _, rfl, _, rfl, pp, xs, rfl, .inl (Evl.ex_t (e7.trans eU) hpp), _, rfl, _, rfl, ?_, fun t1 ht1 => ?_⟩
      · rw [List.length_append]
        exact Nat.le_trans (show xs.length + 2 ≤ 50 by omega) (by decide)
      have eV := eU.trans (Evl.Ex.new (o := .tup (xs ++ [V.int (i : Nat), V.int (j : Nat)])) ht1)
      refine ⟨kb, pb, t1, _, sz, ah, _, rfl, hRB.kt (k7.trans (kt eV)), hOm, SqT.of upd_same, ?_, by omega, fun q rs2 H8 hq8 e8 hd8 hl8 hE8 => ?_⟩
      · rw [List.length_append]
        simp only [List.length_cons, List.length_nil]
        omega
      have e78 := eV.trans e8
      have hf8 := e78 f _ hf7
      refine ⟨f, q, _, _, rfl, rfl, hf8, hd8, ?_, ?_⟩
      · rw [List.length_map, List.length_map]
        exact Nat.le_trans (show _ ≤ 100 by omega) (by decide)
      have k8 := Kt.upd (o := .lst (rs.map V.ref ++ rs2.map V.ref)) hf8 rfl
      have nl : l0 ≠ f := fun z => by
        rw [z] at hl0
        rw [hl0] at hf5
        cases hf5
      refine ⟨k7.trans ((kt e78).trans k8), by rw [upd_ne nl]; exact e78 _ _ hd7, Ex.app (e7.trans e78) hf, rs ++ rs2, _, _, rfl, by rw [List.map_append]; exact upd_same, by rw [List.length_append, hr7, hl8, ckt.1]; omega, fun t ht => ?_⟩
      rcases List.mem_append.mp ht with ht | ht
      · exact (hE7 t ht).kt ((kt e78).trans k8)
      · exact (hE8 t ht).kt k8
    · rintro σ H7 ⟨k7, hd7, e7, rs, x5, x6, rfl, hf7, hr7, hE7⟩
      refine ⟨e7, rs, _, _, _, _, rfl, hf7, ?_, hE7⟩
      rw [hr7, show (kids s).take (ps.map V.ref).length = kids s from List.take_of_length_le (by simp [hbl]), ct.1, ck]
      omega
  · rintro σ H1 ⟨e1, qs, x3, x4, x5, x6, rfl, hf1, hq, hE⟩
    refine ⟨_, rfl, ?_⟩
    rw [List.take_of_length_le (by omega)] at hq
    exact hQ f qs H1 hf e1 hf1 hq hE
theorem ok_walked (T : Txt K mg) (C_bodies_in : Cal P w K mg base 1 "bodies_in" (spBodies K) []) : ∀ n, Cal P w K mg base (n + 2) "walked" (spWalked K ws n) []
  | 0 => ok0_walked T
  | n + 1 => st_walked T C_bodies_in (ok_walked T C_bodies_in n)

end
end K14
namespace K14
open PySem PySem.Spec PyProof.Rows L2 C8

theorem cut_take (xs : List V) (i : Nat) (h : i ≤ xs.length) : cutV xs none (some (i : Int)) = xs.take i := by
  unfold cutV
  rw [HT.sIx_none, HT.sIx_nat, List.drop_zero, Nat.sub_zero, Nat.min_eq_left h]
theorem cut_tl (x : V) (us : List V) : cutV (x :: us) (some 1) none = us := by
  have e : HT.sIx (x :: us).length 0 (some ((1 : Nat) : Int)) = 1 := by rw [HT.sIx_nat]; simp
  unfold cutV
  rw [HT.sIx_none]
  have e2 : HT.sIx (x :: us).length 0 (some (1 : Int)) = 1 := e
  rw [e2]
  simp
theorem tl_not (x : V) (us : List V) (h : HT.sIx (x :: us).length 0 (some (1 : Int)) = 0) : False := by
  have e : HT.sIx (x :: us).length 0 (some ((1 : Nat) : Int)) = 1 := by rw [HT.sIx_nat]; simp
  have e2 : HT.sIx (x :: us).length 0 (some (1 : Int)) = 1 := e
  omega
theorem notin_strs {zs : List Str} {z : Str} (h : z ∉ zs) : inV (.str z) (zs.map V.str) = false := by
  unfold inV
  rw [List.any_eq_false]
  intro v hv
  obtain ⟨y, hy, rfl⟩ := List.mem_map.mp hv
  intro e
  simp only [eqV] at e
  have : y = z := eq_of_beq e
  exact h (this ▸ hy)
theorem flat_strs (zs : List Str) : (zs.map V.str).all flatV = true := by
  rw [List.all_eq_true]
  intro v hv
  obtain ⟨i, _, rfl⟩ := List.mem_map.mp hv
  rfl
theorem notin_take' {α : Type} {l : List α} (nd : l.Nodup) {i : Nat} {a : α} (h : l[i]? = some a) : a ∉ l.take i := by
  intro hm
  obtain ⟨j, hj, e⟩ := List.getElem_of_mem hm
  rw [List.length_take] at hj
  rw [List.getElem_take] at e
  obtain ⟨hi, e2⟩ := List.getElem?_eq_some_iff.mp h
  exact List.pairwise_iff_getElem.mp nd j i (by omega) hi (by omega) (e.trans e2.symm)
theorem menu_take : ∀ sz ∈ menus, ∀ i, i < sz.length → sz.take (i + 1) ∈ menus := by
  intro sz hs i hi
  have key : ∀ sz ∈ menus, ∀ i, i < 4 → i < sz.length → sz.take (i + 1) ∈ menus := by decide +kernel
  exact key sz hs i (by have := menu_facts sz hs; omega) hi
/-- the parts of a tree -/
def parts : Tr → List Tr
  | .n1 _ a => [a]
  | .n2 _ a b => [a, b]
  | _ => []
def RepTs (K : PySem.W.Frag) (H : Hp) (ts : List Tr) (us : List V) : Prop := Paired (fun t u => RepT K H t u) ts us
theorem RepTs.get {K : PySem.W.Frag} {H : Hp} : ∀ {ts : List Tr} {us : List V}, RepTs K H ts us → ∀ {i : Nat} {v : V}, us[i]? = some v → ∃ u, ts[i]? = some u ∧ RepT K H u v
  | _, _, .nil, i, p, h => by simp at h
  | _, _, .cons a t, 0, p, h => by
    cases h
    exact ⟨_, rfl, a⟩
  | _, _, .cons a t, i + 1, p, h => RepTs.get t h
theorem RepT.view {K : PySem.W.Frag} {ws : List Str} {H : Hp} {t : Tr} {u : V} {n : Nat} (h : RepT K H t u) (hT : IsT ws (n + 1) t) :
    (∃ x p, u = .ref p ∧ SqT K H p [.str "name", .str x] ∧ x ∈ ws) ∨ (∃ i p, u = .ref p ∧ SqT K H p [.str "num", .int i]) ∨
    ∃ k us ts p, u = .ref p ∧ SqT K H p (.str k :: us) ∧ k ≠ "name" ∧ k ≠ "num" ∧ RepTs K H ts us ∧ (∀ t ∈ ts, IsT ws n t) ∧ ts.length ≤ 2 ∧ us.length = ts.length := by
  cases t with
  | num i => obtain ⟨p, h1, h2⟩ := h; exact .inr (.inl ⟨i, p, h1, h2⟩)
  | name x => obtain ⟨p, h1, h2⟩ := h; exact .inl ⟨x, p, h1, h2, hT⟩
  | n0 k => obtain ⟨p, h1, h2⟩ := h; exact .inr (.inr ⟨k, [], [], p, h1, h2, hT.1, hT.2, .nil, (fun t ht => by cases ht), by simp, rfl⟩)
  | n1 k a =>
    obtain ⟨p, u1, h1, h2, h3⟩ := h
    exact .inr (.inr ⟨k, [u1], [a], p, h1, h2, hT.1.1, hT.1.2, .cons h3 .nil, (fun t ht => by cases (List.mem_singleton.mp ht); exact hT.2), by simp, rfl⟩)
  | n2 k a b =>
    obtain ⟨p, u1, u2, h1, h2, h3, h4⟩ := h
    refine .inr (.inr ⟨k, [u1, u2], [a, b], p, h1, h2, hT.1.1, hT.1.2, .cons h3 (.cons h4 .nil), (fun t ht => ?_), by simp, rfl⟩)
    rcases List.mem_cons.mp ht with rfl | ht
    · exact hT.2.1
    · cases (List.mem_singleton.mp ht); exact hT.2.2
section
variable {P : Program} {w : World} {K : PySem.W.Frag} {mg : Str → Option Value} {base : Heap} {ws : List Str}
abbrev N_first_repeated : List Str := ["words", "at", "word"]
theorem sc_first_repeated : FnScope N_first_repeated ["words"] (defScope (top 53)) := ⟨rfl, rfl, rfl, by decide +kernel, rfl, by decide +kernel, by decide +kernel⟩
def spFirstRep (K : PySem.W.Frag) : Sp := fun vs H Q _ => ∃ (a : Addr) (zs : List Str), vs = [.ref a] ∧ SqL K H a (zs.map V.str) ∧ zs.Nodup ∧ ∀ H', Ex H H' → Q .non H'
theorem ok_first_repeated (T : Txt K mg)  : Cal P w K mg base 1 "first_repeated" (spFirstRep K) [] := by
  obtain ⟨fd, F⟩ := T.d_first_repeated
  refine ⟨_, fd, ["words"], [], ?_, T.g_first_repeated, F.kp, F.bindsN fun _ _ _ _ _ _ us hl => match us, hl with | [_], _ => rfl, .nil⟩
  refine F.ok sc_first_repeated (fun vs H Q E h => by obtain ⟨_, _, rfl, _⟩ := h; rfl) (fun cdv A outer s H vs Q E hr h => ?_)
  have hu := hu_of hr
  refine ⟨_, PSs.nox (pss_cons (ps_for PassesOwn.never rfl (pi_enum (by rfl) T.f_enumerate (pa_cons (pv 0) pa_nil)) (pg_tup (by rfl) (pgs_cons (pg_name (i := 1) sc_first_repeated.nd rfl (Or.inl rfl)) (pgs_cons (pg_name (i := 2) sc_first_repeated.nd rfl (Or.inl rfl)) pgs_nil))) (pss_one (ps_if (pt_cmpR op_in_seq (pv 2) (pe_slice sl_list (pv 0) po_none (po_some (pv 1))) rfl) (pss_one (ps_ret (pv 2))) pss_nil)))
      (pss_one (ps_ret pe_non))), ?_⟩
  obtain ⟨a, zs, rfl, hS, nd, hQ⟩ := h
  refine ⟨_, rfl, a, _, rfl, hS, ?_⟩
  refine for_it (walk_enum (xs := zs.map V.str)) (fun i σ H' => Ex H H' ∧ ∃ x1 x2, σ = [some (.ref a), x1, x2]) ⟨Evl.Ex.refl _, none, none, rfl⟩ (fun i σ H' _ z => Evl.ex_l z.1 hS) ?_ ?_
  · rintro i x σ H1 H1' hi ⟨e1, x1, x2, rfl⟩ ⟨T, a1, a2, rfl, hT, rfl, ha, hx⟩
    cases ha
    have hx : (zs.map V.str)[i]? = some a2 := hx
    rw [List.getElem?_map] at hx
    cases hz : zs[i]? with
    | none => rw [hz] at hx; cases hx
    | some z =>
    rw [hz] at hx
    cases hx
    have eT := e1.trans (Evl.Ex.new (o := .tup [V.int (i : Nat), V.str z]) hT)
    refine ⟨T, _, rfl, SqT.of upd_same, rfl, _, _, rfl, _, _, rfl, rfl, ?_⟩
    refine ⟨_, rfl, _, rfl, _, rfl, (i : Int), rfl, a, _, rfl, Evl.ex_l eT hS, fun p hp => ?_⟩
    have hi' : i < zs.length := by simpa using hi
    have ec : cutV (zs.map V.str) none (some (i : Int)) = (zs.take i).map V.str := by
      rw [cut_take _ _ (by simp; omega), List.map_take]
    have eP := eT.trans (Evl.Ex.new (o := .lst (cutV (zs.map V.str) none (some (i : Int)))) hp)
    refine ⟨p, (zs.take i).map V.str, rfl, .inl (SqL.of (by rw [upd_same, ec])), rfl, flat_strs _, _, rfl, iteFo (notin_strs (notin_take' nd hz)) ?_⟩
    exact ⟨eP, _, _, rfl⟩
  · rintro σ H1 ⟨e1, x1, x2, rfl⟩
    exact hQ H1 e1

abbrev N_first_too_large : List Str := ["names", "at", "name", "_", "size"]
theorem sc_first_too_large : FnScope N_first_too_large ["names"] (defScope (top 54)) := ⟨rfl, rfl, rfl, by decide +kernel, rfl, by decide +kernel, by decide +kernel⟩
def spTooLarge (K : PySem.W.Frag) : Sp := fun vs H Q _ => ∃ (a : Addr) (ps : List Addr) (ns : NS), vs = [.ref a] ∧ SqT K H a (ps.map V.ref) ∧ Tups H ps ns ∧ NsOk ns ∧ ∀ H', Ex H H' → Q .non H'
theorem ok_first_too_large (T : Txt K mg) (C_stores_of_sizes : Cal P w K mg base 1 "stores_of_sizes" (spSizes K) []) : Cal P w K mg base 2 "first_too_large" (spTooLarge K) [] := by
  obtain ⟨fd, F⟩ := T.d_first_too_large
  refine ⟨_, fd, ["names"], [], ?_, T.g_first_too_large, F.kp, F.bindsN fun _ _ _ _ _ _ us hl => match us, hl with | [_], _ => rfl, .nil⟩
  refine F.ok sc_first_too_large (fun vs H Q E h => by obtain ⟨_, _, _, rfl, _⟩ := h; rfl) (fun cdv A outer s H vs Q E hr h => ?_)
  have hu := hu_of hr
  refine ⟨_, PSs.nox (pss_cons (ps_for PassesOwn.never rfl (pi_enumT (by rfl) T.f_enumerate (pa_cons (pv 0) pa_nil)) (pg_tup (by rfl) (pgs_cons (pg_name (i := 1) sc_first_too_large.nd rfl (Or.inl rfl)) (pgs_cons (pg_tup (by rfl) (pgs_cons (pg_name (i := 2) sc_first_too_large.nd rfl (Or.inl rfl)) (pgs_cons (pg_name (i := 3) sc_first_too_large.nd rfl (Or.inl rfl)) pgs_nil))) pgs_nil))) (pss_one (ps_if (pt_cmpR op_gt (pe_c C_stores_of_sizes hr (by omega) rfl (pa_cons (pe_lc (own := [("_", 3), ("size", 4)]) rfl sc_first_too_large.nd (pi_tup (pe_slice sl_tupA (pv 0) po_none (po_some (pe_op op_add (pv 1) pe_int)))) (blkOk_by (own := [("_", 3), ("size", 4)]) (N := N_first_too_large) (sc := defScope (top 54)) (by decide +kernel)) (fun _ _ _ _ _ => (pgT (K := K) (n := 2) rfl (by rfl) (pgs_cons (pg_name (i := 3) sc_first_too_large.nd rfl (Or.inl rfl)) (pgs_cons (pg_name (i := 4) sc_first_too_large.nd rfl (Or.inl rfl)) pgs_nil)))) (fun _ _ _ _ _ => pts_nil) (fun _ _ _ _ _ => (pv 4))) pa_nil)) (pe_gc rfl T.c_MOST_STORES) (nomark _)) (pss_one (ps_ret (pv 2))) pss_nil)))
      (pss_one (ps_ret pe_non))), ?_⟩
  obtain ⟨a, ps, ns, rfl, hS, hT, hok, hQ⟩ := h
  have hl := hT.length
  have hn3 := hok.len
  refine ⟨_, rfl, a, _, rfl, hS, ?_⟩
  refine for_it (walk_enumT (xs := ps.map V.ref)) (fun i σ H' => Ex H H' ∧ ∃ x1 x2 x3 x4, σ = [some (.ref a), x1, x2, x3, x4]) ⟨Evl.Ex.refl _, none, none, none, none, rfl⟩ (fun i σ H' _ z => Evl.ex_t z.1 hS) ?_ ?_
  · rintro i x σ H1 H1' hi ⟨e1, x1, x2, x3, x4, rfl⟩ ⟨T0, a1, a2, rfl, hT0, rfl, ha, hx⟩
    cases ha
    obtain ⟨p, rfl, hp⟩ := refs_get hx
    obtain ⟨n, hn, hpn⟩ := hT.get hp
    have eT := e1.trans (Evl.Ex.new (o := .tup [V.int (i : Nat), V.ref p]) hT0)
    have hi' : i < ps.length := by simpa using hi
    refine ⟨T0, _, rfl, SqT.of upd_same, rfl, _, _, rfl, _, _, rfl, p, nV n, rfl, SqT.of (eT _ _ hpn), rfl, _, _, rfl, _, _, rfl, rfl, rfl, ?_⟩
    refine ⟨_, rfl, _, rfl, _, _, rfl, rfl, ((i + 1 : Nat) : Int), rfl, a, _, rfl, Evl.ex_t eT hS, ?_, ?_⟩
    · intro w
      have hw : i + 1 = ps.length := by
        have := w.2
        rw [HT.sIx_nat, List.length_map] at this
        omega
      have hSt : SqT K (upd H1 T0 (.tup [V.int (i : Nat), V.ref p])) a ((ps.take (i + 1)).map V.ref) := by rw [hw, List.take_length]; exact Evl.ex_t eT hS
      refine ⟨a, rfl, ⟨_, hSt⟩, fun D hD => ?_⟩
      refine lc_fn (walk_tup (xs := (ps.take (i + 1)).map V.ref)) (fun j => .int (((szs ns).getD j 0 : Nat) : Int)) (by simp; omega) hD (fun _ e => Evl.ex_t e hSt) ?_ ?_
      · rintro j y H2 H2' Z B hj e2 hl2 ⟨rfl, hy⟩ hZ
        obtain ⟨q, rfl, hq⟩ := refs_get hy
        have hj2 : j < i + 1 := by
          have := (List.getElem?_eq_some_iff.mp hq).1
          rw [List.length_take] at this
          omega
        rw [List.getElem?_take, if_pos hj2] at hq
        obtain ⟨m, hm, hqm⟩ := hT.get hq
        have eg : (szs ns).getD j 0 = m.2 := by rw [List.getD_eq_getElem?_getD, sz_at hm]; rfl
        refine ⟨q, nV m, rfl, SqT.of (eT.trans e2 _ _ hqm), rfl, _, _, rfl, _, _, rfl, rfl, ?_⟩
        refine ⟨rfl, _, rfl, ?_⟩
        have := hZ _ (Evl.Ex.refl _)
        rw [eg] at this
        exact this
      · intro H2 e2 hd2
        have eL : (List.range ((ps.take (i + 1)).map V.ref).length).map (fun j => V.int (((szs ns).getD j 0 : Nat) : Int)) = rV ((szs ns).take (i + 1)) := by
          refine List.ext_getElem? fun j => ?_
          by_cases hj : j < i + 1
          · rw [List.getElem?_map, List.getElem?_range (by simp; omega), List.getElem?_map, List.getElem?_take, if_pos hj, List.getElem?_eq_getElem (by simp [szs]; omega)]
            simp [List.getD_eq_getElem?_getD, szs, show j < ns.length by omega]
          · rw [List.getElem?_eq_none (by simp; omega), List.getElem?_eq_none (by simp; omega)]
        rw [eL] at hd2
        have hm2 := menu_take _ hok.sz i (by simp [szs]; omega)
        have f8 := (menu_facts _ hm2).2.1
        refine ⟨D, _, rfl, SqL.of hd2, hm2, ?_⟩
        refine ⟨_, _, rfl, rfl, _, rfl, iteFo (decide_eq_false (by omega)) ?_⟩
        exact ⟨eT.trans e2, _, _, _, _, rfl⟩
    · intro w r hr0
      have eR := eT.trans (Evl.Ex.new (o := .tup (cutV (ps.map V.ref) none (some ((i + 1 : Nat) : Int)))) hr0)
      have hSt : SqT K (upd (upd H1 T0 (.tup [V.int (i : Nat), V.ref p])) r (.tup (cutV (ps.map V.ref) none (some ((i + 1 : Nat) : Int))))) r ((ps.take (i + 1)).map V.ref) := SqT.of (by rw [upd_same, cut_take _ _ (by simp; omega), List.map_take])
      refine ⟨r, rfl, ⟨_, hSt⟩, fun D hD => ?_⟩
      refine lc_fn (walk_tup (xs := (ps.take (i + 1)).map V.ref)) (fun j => .int (((szs ns).getD j 0 : Nat) : Int)) (by simp; omega) hD (fun _ e => Evl.ex_t e hSt) ?_ ?_
      · rintro j y H2 H2' Z B hj e2 hl2 ⟨rfl, hy⟩ hZ
        obtain ⟨q, rfl, hq⟩ := refs_get hy
        have hj2 : j < i + 1 := by
          have := (List.getElem?_eq_some_iff.mp hq).1
          rw [List.length_take] at this
          omega
        rw [List.getElem?_take, if_pos hj2] at hq
        obtain ⟨m, hm, hqm⟩ := hT.get hq
        have eg : (szs ns).getD j 0 = m.2 := by rw [List.getD_eq_getElem?_getD, sz_at hm]; rfl
        refine ⟨q, nV m, rfl, SqT.of (eR.trans e2 _ _ hqm), rfl, _, _, rfl, _, _, rfl, rfl, ?_⟩
        refine ⟨rfl, _, rfl, ?_⟩
        have := hZ _ (Evl.Ex.refl _)
        rw [eg] at this
        exact this
      · intro H2 e2 hd2
        have eL : (List.range ((ps.take (i + 1)).map V.ref).length).map (fun j => V.int (((szs ns).getD j 0 : Nat) : Int)) = rV ((szs ns).take (i + 1)) := by
          refine List.ext_getElem? fun j => ?_
          by_cases hj : j < i + 1
          · rw [List.getElem?_map, List.getElem?_range (by simp; omega), List.getElem?_map, List.getElem?_take, if_pos hj, List.getElem?_eq_getElem (by simp [szs]; omega)]
            simp [List.getD_eq_getElem?_getD, szs, show j < ns.length by omega]
          · rw [List.getElem?_eq_none (by simp; omega), List.getElem?_eq_none (by simp; omega)]
        rw [eL] at hd2
        have hm2 := menu_take _ hok.sz i (by simp [szs]; omega)
        have f8 := (menu_facts _ hm2).2.1
        refine ⟨D, _, rfl, SqL.of hd2, hm2, ?_⟩
        refine ⟨_, _, rfl, rfl, _, rfl, iteFo (decide_eq_false (by omega)) ?_⟩
        exact ⟨eR.trans e2, _, _, _, _, rfl⟩
  · rintro σ H1 ⟨e1, x1, x2, x3, x4, rfl⟩
    exact hQ H1 e1

abbrev N_names_in : List Str := ["tree", "found", "part"]
theorem sc_names_in : FnScope N_names_in ["tree"] (defScope (top 55)) := ⟨rfl, rfl, rfl, by decide +kernel, rfl, by decide +kernel, by decide +kernel⟩
/-- the names of a tree -/
def spNamesIn (K : PySem.W.Frag) (ws : List Str) (n : Nat) : Sp := fun vs H Q _ => ∃ (t : Tr) (u : V), vs = [u] ∧ RepT K H t u ∧ IsT ws n t ∧ n ≤ 6 ∧ ∀ (p : Addr) (zs : List Str) (H' : Hp), H p = none → Ex H H' → H' p = some (.lst (zs.map V.str)) → (∀ z ∈ zs, z ∈ ws) → zs.length ≤ 2 ^ n → Q (.ref p) H'
theorem ok0_names_in (T : Txt K mg) : Cal P w K mg base 1 "names_in" (spNamesIn K ws 0) [] := by
  obtain ⟨fd, F⟩ := T.d_names_in
  refine ⟨_, fd, ["tree"], [], ?_, T.g_names_in, F.kp, F.bindsN fun _ _ _ _ _ _ us hl => match us, hl with | [_], _ => rfl, .nil⟩
  refine F.ok sc_names_in (fun vs H Q E h => False.elim ((fun h => by obtain ⟨_, _, _, _, hX, _⟩ := h; exact hX) h)) (fun cdv A outer s H vs Q E hr h => False.elim ((fun h => by obtain ⟨_, _, _, _, hX, _⟩ := h; exact hX) h))
theorem st_names_in (T : Txt K mg)  {n : Nat} (C_names_in : Cal P w K mg base (n + 1) "names_in" (spNamesIn K ws n) []) : Cal P w K mg base (n + 2) "names_in" (spNamesIn K ws (n + 1)) [] := by
  obtain ⟨fd, F⟩ := T.d_names_in
  refine ⟨_, fd, ["tree"], [], ?_, T.g_names_in, F.kp, F.bindsN fun _ _ _ _ _ _ us hl => match us, hl with | [_], _ => rfl, .nil⟩
  refine F.ok sc_names_in (fun vs H Q E h => by obtain ⟨_, _, rfl, _⟩ := h; rfl) (fun cdv A outer s H vs Q E hr h => ?_)
  have hu := hu_of hr
  refine ⟨_, PSs.nox (pss_cons (ps_if (pt_cmpR op_eq (pe_ix ix_tup (pv 0) pe_int (fun _ _ => rfl)) pe_str (nomark _)) (pss_one (ps_ret (pe_lst (pa_cons (pe_ix ix_tup (pv 0) pe_int (fun _ _ => rfl)) pa_nil)))) pss_nil)
      (pss_cons (ps_if (pt_cmpR op_eq (pe_ix ix_tup (pv 0) pe_int (fun _ _ => rfl)) pe_str (nomark _)) (pss_one (ps_ret (pe_lst pa_nil))) pss_nil)
      (pss_cons (ps_set (i := 1) sc_names_in.nd rfl (Or.inl rfl) (pe_lst pa_nil))
      (pss_cons (ps_for PassesOwn.never rfl (pi_tup (pe_slice sl_tupA (pv 0) (po_some pe_int) po_none)) (pg_name (i := 2) sc_names_in.nd rfl (Or.inl rfl)) (pss_one (ps_expr (pe_bm PySem.F.plainAttrs_list PySem.F.slot_list_extend PySem.F.type_list_extend mt_extend (pv 1) (pa_cons (pe_c C_names_in hr (by omega) rfl (pa_cons (pv 2) pa_nil)) pa_nil)))))
      (pss_one (ps_ret (pv 1))))))), ?_⟩
  obtain ⟨t, u, rfl, hR, hT, hn6, hQ⟩ := h
  rcases hR.view hT with ⟨x, p, rfl, hp, hx⟩ | ⟨i, p, rfl, hp⟩ | ⟨k, us, ts, p, rfl, hp, hk1, hk2, hts, hot, hl2, hle⟩
  · refine ⟨_, rfl, p, _, 0, _, rfl, rfl, hp, rfl, rfl, _, rfl, ?_⟩
    refine ⟨_, rfl, p, _, 1, _, rfl, rfl, hp, rfl, (by show 1 ≤ sizeLine; decide), fun f hf => ?_⟩
    exact hQ f [x] _ hf (Evl.Ex.new hf) upd_same (fun z hz => by cases (List.mem_singleton.mp hz); exact hx) (Nat.one_le_two_pow)
  · refine ⟨_, rfl, p, _, 0, _, rfl, rfl, hp, rfl, rfl, _, rfl, ?_⟩
    refine ⟨_, rfl, p, _, 0, _, rfl, rfl, hp, rfl, rfl, _, rfl, ?_⟩
    refine ⟨Nat.zero_le _, fun f hf => ?_⟩
    exact hQ f [] _ hf (Evl.Ex.new hf) upd_same (fun z hz => by cases hz) (Nat.zero_le _)
  refine ⟨_, rfl, p, _, 0, _, rfl, rfl, hp, atI_nat (j := 0) rfl, rfl, _, rfl, iteFo (decide_eq_false (by simpa using hk1)) ?_⟩
  refine ⟨_, rfl, p, _, 0, _, rfl, rfl, hp, atI_nat (j := 0) rfl, rfl, _, rfl, iteFo (decide_eq_false (by simpa using hk2)) ?_⟩
  refine ⟨Nat.zero_le _, fun f hf => ?_⟩
  have e0 := Evl.Ex.new (o := .lst []) hf
  refine ⟨_, rfl, 1, rfl, p, _, rfl, Evl.ex_t e0 hp, fun z => (tl_not _ _ z.1).elim, fun _ r hr0 => ?_⟩
  rw [cut_tl]
  have e1 := e0.trans (Evl.Ex.new (o := .tup us) hr0)
  have hf1 := Evl.Ex.new (o := .tup us) hr0 f _ upd_same
  have hr1 : SqT K (upd (upd H f (.lst [])) r (.tup us)) r us := SqT.of upd_same
  refine ⟨r, rfl, ⟨_, hr1⟩, ?_⟩
  generalize upd (upd H f (.lst [])) r (.tup us) = H1 at *
  refine for_it (walk_tup (xs := us)) (fun i σ H' => Kt H1 H' ∧ Ex H H' ∧ ∃ (zs : List Str) (x2 : Option V), σ = [some (.ref p), some (.ref f), x2] ∧ H' f = some (.lst (zs.map V.str)) ∧ (∀ z ∈ zs, z ∈ ws) ∧ zs.length ≤ i * 2 ^ n)
    ⟨Kt.refl _, e1, [], none, rfl, hf1, (fun z hz => by cases hz), by simp⟩ (fun i σ H' _ z => kt_t z.1 hr1) ?_ ?_
  · rintro i x σ H2 H2' hi ⟨k2, e2, zs, x2, rfl, hf2, hz2, hl2'⟩ ⟨rfl, hx⟩
    obtain ⟨t1, ht1, hR1⟩ := hts.get hx
    refine ⟨_, rfl, .inl ⟨rfl, _, SqL.of hf2⟩, _, rfl, ?_⟩
    refine ⟨t1, x, rfl, hR1.mono e2, hot t1 (List.mem_of_getElem? ht1), by omega, fun q ys H3 hq e3 hd3 hy3 hly => ?_⟩
    have hf3 := e3 f _ hf2
    have hp6 : 2 ^ n ≤ 64 := Nat.pow_le_pow_right (n := 2) (by omega) (show n ≤ 6 by omega)
    have hi2 : i ≤ 2 := by omega
    have hmul : i * 2 ^ n ≤ 2 * 64 := Nat.mul_le_mul hi2 hp6
    refine ⟨f, q, _, _, rfl, rfl, hf3, hd3, ?_, ?_⟩
    · rw [List.length_map, List.length_map]
      exact Nat.le_trans (show _ ≤ 300 by omega) (by decide)
    refine ⟨(k2.trans (kt e3)).trans (Kt.upd hf3 rfl), Ex.app (e2.trans e3) hf, zs ++ ys, _, rfl, by rw [List.map_append]; exact upd_same, fun z hz => ?_, ?_⟩
    · rcases List.mem_append.mp hz with hz | hz
      · exact hz2 z hz
      · exact hy3 z hz
    · rw [List.length_append, Nat.succ_mul]
      omega
  · rintro σ H2 ⟨k2, e2, zs, x2, rfl, hf2, hz2, hl2'⟩
    refine ⟨_, rfl, hQ f zs H2 hf e2 hf2 hz2 (Nat.le_trans hl2' ?_)⟩
    rw [Nat.pow_succ, Nat.mul_comm (2 ^ n) 2]
    exact Nat.mul_le_mul_right _ (by omega)
theorem ok_names_in (T : Txt K mg)  : ∀ n, Cal P w K mg base (n + 1) "names_in" (spNamesIn K ws n) []
  | 0 => ok0_names_in T
  | n + 1 => st_names_in T  (ok_names_in T  n)

end
end K14
namespace K14
open PySem PySem.Spec PyProof.Rows L2 C8

/-- no draw, no choose, no call -/
def plainS : Sm → Bool
  | .drw _ _ => false
  | .cho _ _ => false
  | .cal _ => false
  | _ => true
theorem knd_mem (s : Sm) (h : plainS s = true) : knd s ∈ (["set", "if", "while"] : List Str) := by cases s <;> first | (simp [knd]; done) | (simp [plainS] at h; done)
theorem knd_not' : ∀ a ∈ (["set", "if", "while"] : List Str), ∀ k ∈ (["draw", "choose", "call"] : List Str), decide (V.str a = V.str k) = false := by decide +kernel
theorem knd_not (s : Sm) (h0 : plainS s = true) {k : Str} (h : k ∈ (["draw", "choose", "call"] : List Str)) : decide (V.str (knd s) = V.str k) = false := knd_not' _ (knd_mem s h0) _ h
theorem in_strs {zs : List Str} {z : Str} (h : z ∈ zs) : inV (.str z) (zs.map V.str) = true := by
  unfold inV
  rw [List.any_eq_true]
  exact ⟨_, List.mem_map_of_mem h, by simp only [eqV]; exact beq_self_eq_true _⟩
theorem us_at {units : US} {i : Nat} {u : Str × List Sm} (h : units[i]? = some u) : (units.map Prod.fst)[i]? = some u.1 := by rw [List.getElem?_map, h]; rfl
section
variable {P : Program} {w : World} {K : PySem.W.Frag} {mg : Str → Option Value} {base : Heap} {ws : List Str}
abbrev N_names_of_head : List Str := ["statement", "kind"]
theorem sc_names_of_head : FnScope N_names_of_head ["statement"] (defScope (top 56)) := ⟨rfl, rfl, rfl, by decide +kernel, rfl, by decide +kernel, by decide +kernel⟩
/-- the names of a statement's head -/
def spNamesHead (K : PySem.W.Frag) (ws : List Str) : Sp := fun vs H Q _ => ∃ (s : Sm) (u : V) (sz : Str → Nat) (ah : List Str) (n l : Nat), vs = [u] ∧ RepS K H s u ∧ OkS ws sz ah n l s ∧ ∀ (p : Addr) (zs : List Str) (H' : Hp), H p = none → Ex H H' → H' p = some (.lst (zs.map V.str)) → (∀ z ∈ zs, z ∈ ws) → Q (.ref p) H'
theorem ok_names_of_head (T : Txt K mg) (C_names_in : ∀ n, Cal P w K mg base (n + 1) "names_in" (spNamesIn K ws n) []) : Cal P w K mg base 8 "names_of_head" (spNamesHead K ws) [] := by
  obtain ⟨fd, F⟩ := T.d_names_of_head
  refine ⟨_, fd, ["statement"], [], ?_, T.g_names_of_head, F.kp, F.bindsN fun _ _ _ _ _ _ us hl => match us, hl with | [_], _ => rfl, .nil⟩
  refine F.ok sc_names_of_head (fun vs H Q E h => by obtain ⟨_, _, _, _, _, _, rfl, _⟩ := h; rfl) (fun cdv A outer s H vs Q E hr h => ?_)
  have hu := hu_of hr
  refine ⟨_, PSs.nox (pss_cons (ps_set (i := 1) sc_names_of_head.nd rfl (Or.inl rfl) (pe_ix ix_tup (pv 0) pe_int (fun _ _ => rfl)))
      (pss_cons (ps_if (pt_cmpR op_eq (pv 1) pe_str (nomark _)) (pss_one (ps_ret (pe_lst (pa_cons (pe_ix ix_tup (pv 0) pe_int (fun _ _ => rfl)) (StX.pa_star (pe_c (C_names_in 6) hr (by omega) rfl (pa_cons (pe_ix ix_tup (pv 0) pe_int (fun _ _ => rfl)) pa_nil)) pa_nil))))) pss_nil)
      (pss_cons (ps_if (pt_cmpR op_eq (pv 1) pe_str (nomark _)) (pss_one (ps_ret (pe_lst (pa_cons (pe_ix ix_tup (pv 0) pe_int (fun _ _ => rfl)) pa_nil)))) pss_nil)
      (pss_cons (ps_if (pt_cmpR op_in_seq (pv 1) (pe_tup (pa_cons pe_str (pa_cons pe_str pa_nil))) rfl) (pss_one (ps_ret (pe_c (C_names_in 6) hr (by omega) rfl (pa_cons (pe_ix ix_tup (pv 0) pe_int (fun _ _ => rfl)) pa_nil)))) pss_nil)
      (pss_one (ps_ret (pe_lst pa_nil))))))), ?_⟩
  obtain ⟨t, u, sz, ah, n, l, rfl, hR, hX, hQ⟩ := h
  cases t with
  | set x e =>
    simp only [RepS] at hR
    obtain ⟨p, u1, rfl, hp, h1⟩ := hR
    simp only [OkS] at hX
    refine ⟨_, rfl, p, _, 0, _, rfl, rfl, hp, rfl, ?_⟩
    refine ⟨_, rfl, rfl, _, rfl, ?_⟩
    refine ⟨_, rfl, p, _, 1, _, rfl, rfl, hp, rfl, _, rfl, p, _, 2, _, rfl, rfl, hp, rfl, ?_⟩
    refine ⟨e, u1, rfl, h1, hX.2.tr, by decide, fun q zs H1 hq e1 hd1 hz hlz => ?_⟩
    refine ⟨q, _, rfl, .inr (SqL.of hd1), ?_⟩
    refine ⟨?_, fun r hr0 => ?_⟩
    · simp only [List.length_append, List.length_cons, List.length_map, List.length_nil]
      exact Nat.le_trans (show _ ≤ 100 by omega) (by decide)
    · refine hQ r (x :: zs) _ (Evl.fresh_back e1 hr0) (e1.trans (Evl.Ex.new hr0)) (by rw [upd_same]; simp) (fun z hz' => ?_)
      rcases List.mem_cons.mp hz' with rfl | hz'
      · exact hX.1
      · exact hz z hz'
  | iff c t e =>
    simp only [RepS] at hR
    obtain ⟨p, u1, bt, be, ts, es, rfl, hp, h1, _⟩ := hR
    cases n with
    | zero => simp [OkS] at hX
    | succ n =>
    simp only [OkS] at hX
    refine ⟨_, rfl, p, _, 0, _, rfl, rfl, hp, rfl, ?_⟩
    refine ⟨_, rfl, rfl, _, rfl, ?_⟩
    refine ⟨_, rfl, rfl, _, rfl, ?_⟩
    refine ⟨_, rfl, (by show 2 ≤ sizeLine; decide), fun q hq => ?_⟩
    have e0 := Evl.Ex.new (o := .tup [.str "if", .str "while"]) hq
    refine ⟨q, _, rfl, .inr (SqT.of upd_same), rfl, rfl, _, rfl, iteTo (by decide +kernel) ?_⟩
    refine ⟨_, rfl, p, _, 1, _, rfl, rfl, Evl.ex_t e0 hp, rfl, ?_⟩
    exact ⟨c, u1, rfl, h1.mono e0, hX.1.tr, by decide, fun q zs H1 hq e1 hd1 hz hlz => hQ q zs H1 (Evl.fresh_back e0 hq) (e0.trans e1) hd1 hz⟩
  | whl c b =>
    simp only [RepS] at hR
    obtain ⟨p, u1, bb, bs, rfl, hp, h1, _⟩ := hR
    have hX1 : IsC ws 6 c := by
      cases n with
      | zero => cases l <;> simp [OkS] at hX
      | succ n =>
      cases l with
      | zero => simp [OkS] at hX
      | succ l =>
      simp only [OkS] at hX
      exact hX.1
    refine ⟨_, rfl, p, _, 0, _, rfl, rfl, hp, rfl, ?_⟩
    refine ⟨_, rfl, rfl, _, rfl, ?_⟩
    refine ⟨_, rfl, rfl, _, rfl, ?_⟩
    refine ⟨_, rfl, (by show 2 ≤ sizeLine; decide), fun q hq => ?_⟩
    have e0 := Evl.Ex.new (o := .tup [.str "if", .str "while"]) hq
    refine ⟨q, _, rfl, .inr (SqT.of upd_same), rfl, rfl, _, rfl, iteTo (by decide +kernel) ?_⟩
    refine ⟨_, rfl, p, _, 1, _, rfl, rfl, Evl.ex_t e0 hp, rfl, ?_⟩
    exact ⟨c, u1, rfl, h1.mono e0, hX1.tr, by decide, fun q zs H1 hq e1 hd1 hz hlz => hQ q zs H1 (Evl.fresh_back e0 hq) (e0.trans e1) hd1 hz⟩
  | drw x e =>
    simp only [RepS] at hR
    obtain ⟨p, q0, ps0, rfl, hp, h1⟩ := hR
    have hX1 : x ∈ ws ∧ OkW (sz x) e := by
      cases n <;> cases l <;> simpa only [OkS] using hX
    refine ⟨_, rfl, p, _, 0, _, rfl, rfl, hp, rfl, ?_⟩
    refine ⟨_, rfl, rfl, _, rfl, ?_⟩
    refine ⟨_, rfl, rfl, _, rfl, ?_⟩
    refine ⟨_, rfl, p, _, 1, _, rfl, rfl, hp, rfl, (by show 1 ≤ sizeLine; decide), fun q hq => ?_⟩
    exact hQ q [x] _ hq (Evl.Ex.new hq) upd_same (fun z hz => by cases (List.mem_singleton.mp hz); exact hX1.1)
  | cho ls bs =>
    simp only [RepS] at hR
    obtain ⟨p, q0, ps0, rfl, hp, h1⟩ := hR
    refine ⟨_, rfl, p, _, 0, _, rfl, rfl, hp, rfl, ?_⟩
    refine ⟨_, rfl, rfl, _, rfl, ?_⟩
    refine ⟨_, rfl, rfl, _, rfl, ?_⟩
    refine ⟨_, rfl, (by show 2 ≤ sizeLine; decide), fun q hq => ?_⟩
    have e0 := Evl.Ex.new (o := .tup [.str "if", .str "while"]) hq
    refine ⟨q, _, rfl, .inr (SqT.of upd_same), rfl, rfl, _, rfl, iteFo (by decide +kernel) ?_⟩
    refine ⟨Nat.zero_le _, fun r hr0 => ?_⟩
    exact hQ r [] _ (Evl.fresh_back e0 hr0) (e0.trans (Evl.Ex.new hr0)) upd_same (fun z hz => by cases hz)
  | cal x =>
    simp only [RepS] at hR
    obtain ⟨p, rfl, hp⟩ := hR
    refine ⟨_, rfl, p, _, 0, _, rfl, rfl, hp, rfl, ?_⟩
    refine ⟨_, rfl, rfl, _, rfl, ?_⟩
    refine ⟨_, rfl, rfl, _, rfl, ?_⟩
    refine ⟨_, rfl, (by show 2 ≤ sizeLine; decide), fun q hq => ?_⟩
    have e0 := Evl.Ex.new (o := .tup [.str "if", .str "while"]) hq
    refine ⟨q, _, rfl, .inr (SqT.of upd_same), rfl, rfl, _, rfl, iteFo (by decide +kernel) ?_⟩
    refine ⟨Nat.zero_le _, fun r hr0 => ?_⟩
    exact hQ r [] _ (Evl.fresh_back e0 hr0) (e0.trans (Evl.Ex.new hr0)) upd_same (fun z hz => by cases hz)

abbrev N_wrong_in_statement : List Str := ["statement", "sizes", "ahead", "name", "kind", "values", "label", "value", "_"]
theorem sc_wrong_in_statement : FnScope N_wrong_in_statement ["statement", "sizes", "ahead"] (defScope (top 57)) := ⟨rfl, rfl, rfl, by decide +kernel, rfl, by decide +kernel, by decide +kernel⟩
def spWrongS (K : PySem.W.Frag) (ws : List Str) : Sp := fun vs H Q _ => ∃ (s : Sm) (u : V) (xa d : Addr) (kvs : List (Key × V)) (sz : Str → Nat) (ah : List Str) (n l : Nat), vs = [u, .ref d, .ref xa] ∧ RepS K H s u ∧ OkS ws sz ah n l s ∧ SqL K H xa (ah.map V.str) ∧ H d = some (.dK kvs) ∧ (∀ z ∈ ws, valV kvs (.inr z) = some (.int (sz z : Int))) ∧ ∀ H', Ex H H' → Q .non H'
theorem ok_wrong_in_statement (T : Txt K mg) (C_names_of_head : Cal P w K mg base 8 "names_of_head" (spNamesHead K ws) []) (C_first_repeated : Cal P w K mg base 1 "first_repeated" (spFirstRep K) []) : Cal P w K mg base 9 "wrong_in_statement" (spWrongS K ws) [] := by
  obtain ⟨fd, F⟩ := T.d_wrong_in_statement
  refine ⟨_, fd, ["statement", "sizes", "ahead"], [], ?_, T.g_wrong_in_statement, F.kp, F.bindsN fun _ _ _ _ _ _ us hl => match us, hl with | [_, _, _], _ => rfl, .nil⟩
  refine F.ok sc_wrong_in_statement (fun vs H Q E h => by obtain ⟨_, _, _, _, _, _, _, _, _, rfl, _⟩ := h; rfl) (fun cdv A outer s H vs Q E hr h => ?_)
  have hu := hu_of hr
  refine ⟨_, PSs.nox (pss_cons (ps_for PassesOwn.never rfl (pi_list (pe_c C_names_of_head hr (by omega) rfl (pa_cons (pv 0) pa_nil))) (pg_name (i := 3) sc_wrong_in_statement.nd rfl (Or.inl rfl)) (pss_one (ps_if (pt_cmp (pc_dnotin hu (pv 3) (pv 1)) rfl) (pss_one (ps_ret (pe_tup (pa_cons pe_str (pa_cons (pv 3) pa_nil))))) pss_nil)))
      (pss_cons (ps_set (i := 4) sc_wrong_in_statement.nd rfl (Or.inl rfl) (pe_ix ix_tup (pv 0) pe_int (fun _ _ => rfl)))
      (pss_cons (ps_if (pt_cmpR op_eq (pv 4) pe_str (nomark _)) (pss_cons (ps_setLc (i := 5) (own := [("value", 7), ("_", 8)]) rfl sc_wrong_in_statement.nd rfl rfl (sw_true rfl rfl rfl (by decide +kernel)) (pi_tup (pe_ix ix_tup (pv 0) pe_int (fun _ _ => rfl))) (blkOk_by (own := [("value", 7), ("_", 8)]) (N := N_wrong_in_statement) (sc := defScope (top 57)) (by decide +kernel)) (fun _ _ _ _ _ => (pgT (K := K) (n := 2) rfl (by rfl) (pgs_cons (pg_name (i := 7) sc_wrong_in_statement.nd rfl (Or.inl rfl)) (pgs_cons (pg_name (i := 8) sc_wrong_in_statement.nd rfl (Or.inl rfl)) pgs_nil)))) (fun _ _ _ _ _ => pts_nil) (fun _ _ _ _ _ => (pv 7)))
      (pss_one (ps_if (PW.pt (pw_or (pt_cmpR op_lt (RZ.pe_lenSetI (by rfl) T.f_len (by rfl) T.f_set (pv 5)) (pe_callB call_len_seq (by rfl) T.f_len (by decide +kernel) (pa_cons (pv 5) pa_nil)) (nomark _)) (pw_or1 (pt_cmpR op_ge (pe_callB (cr_max rfl) (by rfl) T.f_max (by decide +kernel) (pa_cons (pv 5) pa_nil)) (pe_dget hu (pv 1) (pe_ix ix_tup (pv 0) pe_int (fun _ _ => rfl)) (fun _ _ => rfl)) (nomark _))))) (pss_one (ps_ret (pe_tup (pa_cons pe_str (pa_cons (pe_ix ix_tup (pv 0) pe_int (fun _ _ => rfl)) pa_nil))))) pss_nil))) pss_nil)
      (pss_cons (ps_if (pt_cmpR op_eq (pv 4) pe_str (nomark _)) (pss_cons (ps_set (i := 6) sc_wrong_in_statement.nd rfl (Or.inl rfl) (pe_c C_first_repeated hr (by omega) rfl (pa_cons (pe_lc (own := [("label", 6), ("_", 8)]) rfl sc_wrong_in_statement.nd (pi_tup (pe_ix ix_tup (pv 0) pe_int (fun _ _ => rfl))) (blkOk_by (own := [("label", 6), ("_", 8)]) (N := N_wrong_in_statement) (sc := defScope (top 57)) (by decide +kernel)) (fun _ _ _ _ _ => (pgT (K := K) (n := 2) rfl (by rfl) (pgs_cons (pg_name (i := 6) sc_wrong_in_statement.nd rfl (Or.inl rfl)) (pgs_cons (pg_name (i := 8) sc_wrong_in_statement.nd rfl (Or.inl rfl)) pgs_nil)))) (fun _ _ _ _ _ => pts_nil) (fun _ _ _ _ _ => (pv 6))) pa_nil)))
      (pss_one (ps_if (pt_cmpR op_notN (pv 6) pe_non (nomark _)) (pss_one (ps_ret (pe_tup (pa_cons pe_str (pa_cons (pv 6) pa_nil))))) pss_nil))) pss_nil)
      (pss_cons (ps_if (PW.pt (pw_and (pt_cmpR op_eq (pv 4) pe_str (nomark _)) (pw_and1 (pt_cmpR op_notIn_seq (pe_ix ix_tup (pv 0) pe_int (fun _ _ => rfl)) (pv 2) rfl)))) (pss_one (ps_ret (pe_tup (pa_cons pe_str (pa_cons (pe_ix ix_tup (pv 0) pe_int (fun _ _ => rfl)) pa_nil))))) pss_nil)
      (pss_one (ps_ret pe_non))))))), ?_⟩
  obtain ⟨t, u, xa, d, kvs, sz, ah, n, l, rfl, hR, hX, hxa, hd, hk, hQ⟩ := h
  refine ⟨_, rfl, t, u, sz, ah, n, l, rfl, hR, hX, fun q zs H1 hq e1 hd1 hz => ?_⟩
  refine ⟨q, rfl, ⟨_, SqL.of hd1⟩, ?_⟩
  refine for_it (walk_list (xs := zs.map V.str)) (fun i σ H' => H' = H1 ∧ ∃ x3, σ = [some u, some (.ref d), some (.ref xa), x3, none, none, none, none, none]) ⟨rfl, none, rfl⟩ (fun i σ H' _ z => by rw [z.1]; exact SqL.of hd1) ?_ ?_
  · rintro i y σ H2 H2' hi ⟨rfl, x3, rfl⟩ ⟨rfl, hy⟩
    rw [List.getElem?_map] at hy
    cases hz2 : zs[i]? with
    | none => rw [hz2] at hy; cases hy
    | some z =>
    rw [hz2] at hy
    cases hy
    have hv := hk z (hz z (List.mem_of_getElem? hz2))
    have hget : DGet H2' d (.str z) (some (.int (sz z : Int))) := by
      have := DGet.k (k := .inr z) (e1 _ _ hd)
      rw [hv] at this
      exact this
    refine ⟨_, rfl, _, rfl, d, _, rfl, hget, _, rfl, ?_⟩
    exact ⟨rfl, _, rfl⟩
  rintro σ H2 ⟨rfl, x3, rfl⟩
  by_cases hpl : plainS t = true
  · obtain ⟨p, r, rfl, hp⟩ := hR.head
    refine ⟨_, rfl, p, _, 0, _, rfl, rfl, Evl.ex_t e1 hp, atI_nat (j := 0) rfl, ?_⟩
    refine ⟨_, rfl, rfl, _, rfl, iteFo (knd_not t hpl (by simp)) ?_⟩
    refine ⟨_, rfl, rfl, _, rfl, iteFo (knd_not t hpl (by simp)) ?_⟩
    refine ⟨_, rfl, rfl, _, rfl, iteFo (knd_not t hpl (by simp)) ?_⟩
    exact hQ H2 e1
  cases t with
  | set x e => exact absurd rfl hpl
  | iff c a e => exact absurd rfl hpl
  | whl c e => exact absurd rfl hpl
  | drw x wz =>
    simp only [RepS] at hR
    obtain ⟨p, q2, ps2, rfl, hp, hq2, hfz, hW⟩ := hR
    have hX1 : x ∈ ws ∧ OkW (sz x) wz := by
      cases n <;> cases l <;> simpa only [OkS] using hX
    obtain ⟨hx, l2, l3, hnd, hall⟩ := hX1
    have hlen := hW.length
    refine ⟨_, rfl, p, _, 0, _, rfl, rfl, Evl.ex_t e1 hp, rfl, ?_⟩
    refine ⟨_, rfl, rfl, _, rfl, ?_⟩
    refine ⟨_, rfl, p, _, 2, _, rfl, rfl, Evl.ex_t e1 hp, rfl, q2, rfl, ⟨_, Evl.ex_t e1 hq2⟩, fun D hD => ?_⟩
    refine lc_fn (walk_tup (xs := ps2.map V.ref)) (fun i => .int ((wz.getD i (0, 0)).1 : Int)) (by rw [List.length_map]; omega) hD (fun _ e => Evl.ex_t (e1.trans e) hq2) ?_ ?_
    · rintro i x H1' H1 Z B hi e hl ⟨rfl, hx⟩ hZ
      obtain ⟨a, rfl, ha⟩ := refs_get hx
      obtain ⟨z, hz, hS⟩ := hW.get ha
      refine ⟨a, _, rfl, Evl.ex_t (e1.trans e) hS, rfl, _, _, rfl, _, _, rfl, rfl, ?_⟩
      refine ⟨rfl, ?_⟩
      refine ⟨_, rfl, ?_⟩
      have er : wz.getD i (0, 0) = z := by rw [List.getD_eq_getElem?_getD, hz]; rfl
      rw [er] at hZ
      exact hZ _ (Evl.Ex.refl _)
    intro H3 e3 hd3
    have eL : (List.range (ps2.map V.ref).length).map (fun i => V.int ((wz.getD i (0, 0)).1 : Int)) = (wz.map fun z => (z.1 : Int)).map V.int := by
      refine List.ext_getElem? fun i => ?_
      by_cases hi : i < wz.length
      · rw [List.getElem?_map, List.getElem?_range (by rw [List.length_map]; omega), List.getElem?_map, List.getElem?_map, List.getElem?_eq_getElem hi]
        simp [List.getD_eq_getElem?_getD, hi]
      · rw [List.getElem?_eq_none (by simp; omega), List.getElem?_eq_none (by simp; omega)]
    rw [eL] at hd3
    have hS3 : SqL K H3 D ((wz.map fun z => (z.1 : Int)).map V.int) := SqL.of hd3
    have hnd2 : (wz.map fun z => (z.1 : Int)).Nodup := by
      rw [List.Nodup, List.pairwise_map] at hnd ⊢
      exact hnd.imp fun h z => h (by omega)
    refine ⟨_, rfl, D, _, rfl, hS3, hnd2, by simp; omega, ?_⟩
    refine ⟨_, rfl, D, _, rfl, .inl hS3, _, _, rfl, rfl, _, rfl, iteFo (decide_eq_false (by simp)) ?_⟩
    refine ⟨_, rfl, D, _, rfl, hS3, by simp; omega, fun m hm hle => ?_⟩
    obtain ⟨z, hz, rfl⟩ := List.mem_map.mp hm
    have hget : DGet H3 d (.str x) (some (.int (sz x : Int))) := by
      have := DGet.k (k := .inr x) ((e1.trans e3) _ _ hd)
      rw [hk x hx] at this
      exact this
    refine ⟨_, rfl, _, rfl, p, _, 1, _, rfl, rfl, Evl.ex_t (e1.trans e3) hp, rfl, d, _, rfl, hget, _, _, rfl, rfl, _, rfl, iteFo (decide_eq_false (by have := (hall z hz).1; omega)) ?_⟩
    refine ⟨_, rfl, rfl, _, rfl, ?_⟩
    refine ⟨_, rfl, rfl, _, rfl, ?_⟩
    exact hQ H3 (e1.trans e3)
  | cho ls bs =>
    simp only [RepS] at hR
    obtain ⟨p, q2, ps2, rfl, hp, hq2, hfz, hW⟩ := hR
    cases n with
    | zero => simp [OkS] at hX
    | succ n =>
    simp only [OkS] at hX
    obtain ⟨l2, l3, _, hnd, hall, _⟩ := hX
    have hlen := hW.length.1
    refine ⟨_, rfl, p, _, 0, _, rfl, rfl, Evl.ex_t e1 hp, rfl, ?_⟩
    refine ⟨_, rfl, rfl, _, rfl, ?_⟩
    refine ⟨_, rfl, rfl, _, rfl, ?_⟩
    refine ⟨_, rfl, p, _, 1, _, rfl, rfl, Evl.ex_t e1 hp, rfl, q2, rfl, ⟨_, Evl.ex_t e1 hq2⟩, fun D hD => ?_⟩
    refine lc_fn (walk_tup (xs := ps2.map V.ref)) (fun i => .str (ls.getD i "")) (by rw [List.length_map]; omega) hD (fun _ e => Evl.ex_t (e1.trans e) hq2) ?_ ?_
    · rintro i x H1' H1 Z B hi e hl ⟨rfl, hx⟩ hZ
      obtain ⟨a, rfl, ha⟩ := refs_get hx
      obtain ⟨z, _, _, _, hz, _, hS, _⟩ := hW.get ha
      refine ⟨a, _, rfl, Evl.ex_t (e1.trans e) hS, rfl, _, _, rfl, _, _, rfl, rfl, ?_⟩
      refine ⟨rfl, ?_⟩
      refine ⟨_, rfl, ?_⟩
      have er : ls.getD i "" = z := by rw [List.getD_eq_getElem?_getD, hz]; rfl
      rw [er] at hZ
      exact hZ _ (Evl.Ex.refl _)
    intro H3 e3 hd3
    have eL : (List.range (ps2.map V.ref).length).map (fun i => V.str (ls.getD i "")) = ls.map V.str := by
      refine List.ext_getElem? fun i => ?_
      by_cases hi : i < ls.length
      · rw [List.getElem?_map, List.getElem?_range (by rw [List.length_map]; omega), List.getElem?_map, List.getElem?_eq_getElem hi]
        simp [List.getD_eq_getElem?_getD, hi]
      · rw [List.getElem?_eq_none (by simp; omega), List.getElem?_eq_none (by simp; omega)]
    rw [eL] at hd3
    refine ⟨D, ls, rfl, SqL.of hd3, hnd, fun H4 e4 => ?_⟩
    refine ⟨_, rfl, rfl, _, rfl, ?_⟩
    refine ⟨_, rfl, rfl, _, rfl, ?_⟩
    exact hQ H4 ((e1.trans e3).trans e4)
  | cal x =>
    simp only [RepS] at hR
    obtain ⟨p, rfl, hp⟩ := hR
    have hX1 : x ∈ ah ∧ WordOk x := by
      cases n <;> cases l <;> simpa only [OkS] using hX
    refine ⟨_, rfl, p, _, 0, _, rfl, rfl, Evl.ex_t e1 hp, rfl, ?_⟩
    refine ⟨_, rfl, rfl, _, rfl, ?_⟩
    refine ⟨_, rfl, rfl, _, rfl, ?_⟩
    refine ⟨_, rfl, rfl, _, rfl, ?_⟩
    refine ⟨_, rfl, p, _, 1, _, rfl, rfl, Evl.ex_t e1 hp, rfl, _, rfl, xa, _, rfl, .inl (Evl.ex_l e1 hxa), rfl, flat_strs _, _, rfl, iteFo (by rw [in_strs hX1.1]; rfl) ?_⟩
    exact hQ H2 e1

abbrev N_wrong_in_body : List Str := ["body", "sizes", "ahead", "_", "statement", "wrong"]
theorem sc_wrong_in_body : FnScope N_wrong_in_body ["body", "sizes", "ahead"] (defScope (top 58)) := ⟨rfl, rfl, rfl, by decide +kernel, rfl, by decide +kernel, by decide +kernel⟩
def spWrongB (K : PySem.W.Frag) (ws : List Str) : Sp := fun vs H Q _ => ∃ (b : List Sm) (p d xa : Addr) (kvs : List (Key × V)) (sz : Str → Nat) (ah : List Str) (l : Nat), vs = [.ref p, .ref d, .ref xa] ∧ RepB K H b p ∧ OkL ws sz ah 4 l b ∧ cntL b ≤ 100 ∧ SqL K H xa (ah.map V.str) ∧ H d = some (.dK kvs) ∧ (∀ z ∈ ws, valV kvs (.inr z) = some (.int (sz z : Int))) ∧ ∀ H', Ex H H' → Q .non H'
theorem ok_wrong_in_body (T : Txt K mg) (C_wrong_in_statement : Cal P w K mg base 9 "wrong_in_statement" (spWrongS K ws) []) (C_walked : ∀ n, Cal P w K mg base (n + 2) "walked" (spWalked K ws n) []) : Cal P w K mg base 10 "wrong_in_body" (spWrongB K ws) [] := by
  obtain ⟨fd, F⟩ := T.d_wrong_in_body
  refine ⟨_, fd, ["body", "sizes", "ahead"], [], ?_, T.g_wrong_in_body, F.kp, F.bindsN fun _ _ _ _ _ _ us hl => match us, hl with | [_, _, _], _ => rfl, .nil⟩
  refine F.ok sc_wrong_in_body (fun vs H Q E h => by obtain ⟨_, _, _, _, _, _, _, _, rfl, _⟩ := h; rfl) (fun cdv A outer s H vs Q E hr h => ?_)
  have hu := hu_of hr
  refine ⟨_, PSs.nox (pss_cons (ps_for PassesOwn.never rfl (pi_list (pe_c (C_walked 5) hr (by omega) rfl (pa_cons (pv 0) (pa_cons (pe_tup pa_nil) pa_nil)))) (pg_tup (by rfl) (pgs_cons (pg_name (i := 3) sc_wrong_in_body.nd rfl (Or.inl rfl)) (pgs_cons (pg_name (i := 4) sc_wrong_in_body.nd rfl (Or.inl rfl)) pgs_nil))) (pss_cons (ps_set (i := 5) sc_wrong_in_body.nd rfl (Or.inl rfl) (pe_c C_wrong_in_statement hr (by omega) rfl (pa_cons (pv 4) (pa_cons (pv 1) (pa_cons (pv 2) pa_nil)))))
      (pss_one (ps_if (pt_cmpR op_notN (pv 5) pe_non (nomark _)) (pss_one (ps_ret (pv 5))) pss_nil))))
      (pss_one (ps_ret pe_non))), ?_⟩
  obtain ⟨b, p, d, xa, kvs, sz, ah, l, rfl, hB, hO, hc, hxa, hd, hk, hQ⟩ := h
  refine ⟨_, rfl, Nat.zero_le _, fun q0 hq0 => ?_⟩
  have e0 := Evl.Ex.new (o := .tup []) hq0
  refine ⟨b, p, q0, [], sz, ah, l, rfl, hB.mono e0, hO, SqT.of upd_same, by simp, hc, fun q qs H1 hq e1 hd1 hl1 hE => ?_⟩
  have e1 := e0.trans e1
  refine ⟨q, rfl, ⟨_, SqL.of hd1⟩, ?_⟩
  refine for_it (walk_list (xs := qs.map V.ref)) (fun i σ H' => Ex H1 H' ∧ ∃ x3 x4 x5, σ = [some (.ref p), some (.ref d), some (.ref xa), x3, x4, x5]) ⟨Evl.Ex.refl _, none, none, none, rfl⟩ (fun i σ H' _ z => SqL.of (z.1 _ _ hd1)) ?_ ?_
  · rintro i y σ H2 H2' hi ⟨e2, x3, x4, x5, rfl⟩ ⟨rfl, hy⟩
    obtain ⟨t, rfl, ht⟩ := refs_get hy
    obtain ⟨u, v, s, m, l2, h1, h2, h3⟩ := (hE t (List.mem_of_getElem? ht)).mono e2
    refine ⟨t, _, rfl, h1, rfl, _, _, rfl, _, _, rfl, rfl, ?_⟩
    refine ⟨_, rfl, _, rfl, _, rfl, s, v, xa, d, kvs, sz, ah, m, l2, rfl, h2, h3, Evl.ex_l (e1.trans e2) hxa, (e1.trans e2) _ _ hd, hk, fun H3 e3 => ?_⟩
    refine ⟨_, rfl, rfl, _, rfl, ?_⟩
    exact ⟨e2.trans e3, _, _, _, rfl⟩
  · rintro σ H2 ⟨e2, x3, x4, x5, rfl⟩
    exact hQ H2 (e1.trans e2)

abbrev N_first_wrong : List Str := ["system", "names", "units", "known", "callable_units", "repeated", "large", "sizes", "at", "unit", "body", "wrong", "name", "_"]
theorem sc_first_wrong : FnScope N_first_wrong ["system"] (defScope (top 59)) := ⟨rfl, rfl, rfl, by decide +kernel, rfl, by decide +kernel, by decide +kernel⟩
def spFirstWrong (K : PySem.W.Frag) (ws : List Str) : Sp := fun vs H Q _ => ∃ (ns : NS) (units : US) (a : Addr), vs = [.ref a] ∧ SysAt K H a ns units ∧ SysOk ns units ∧ wds ns = ws ∧ ∀ H', Ex H H' → Q .non H'
theorem ok_first_wrong (T : Txt K mg) (C_first_repeated : Cal P w K mg base 1 "first_repeated" (spFirstRep K) []) (C_first_too_large : Cal P w K mg base 2 "first_too_large" (spTooLarge K) []) (C_wrong_in_body : Cal P w K mg base 10 "wrong_in_body" (spWrongB K ws) []) : Cal P w K mg base 11 "first_wrong" (spFirstWrong K ws) [] := by
  obtain ⟨fd, F⟩ := T.d_first_wrong
  refine ⟨_, fd, ["system"], [], ?_, T.g_first_wrong, F.kp, F.bindsN fun _ _ _ _ _ _ us hl => match us, hl with | [_], _ => rfl, .nil⟩
  refine F.ok sc_first_wrong (fun vs H Q E h => by obtain ⟨_, _, _, rfl, _⟩ := h; rfl) (fun cdv A outer s H vs Q E hr h => ?_)
  have hu := hu_of hr
  refine ⟨_, PSs.nox (pss_cons (ps_asg (pv 0) (pg_tup (by rfl) (pgs_cons (pg_name (i := 1) sc_first_wrong.nd rfl (Or.inl rfl)) (pgs_cons (pg_name (i := 2) sc_first_wrong.nd rfl (Or.inl rfl)) pgs_nil))))
      (pss_cons (ps_setLc (i := 3) (own := [("name", 12), ("_", 13)]) rfl sc_first_wrong.nd rfl rfl (sw_true rfl rfl rfl (by decide +kernel)) (pi_tup (pv 1)) (blkOk_by (own := [("name", 12), ("_", 13)]) (N := N_first_wrong) (sc := defScope (top 59)) (by decide +kernel)) (fun _ _ _ _ _ => (pgT (K := K) (n := 2) rfl (by rfl) (pgs_cons (pg_name (i := 12) sc_first_wrong.nd rfl (Or.inl rfl)) (pgs_cons (pg_name (i := 13) sc_first_wrong.nd rfl (Or.inl rfl)) pgs_nil)))) (fun _ _ _ _ _ => pts_nil) (fun _ _ _ _ _ => (pv 12)))
      (pss_cons (ps_setLc (i := 4) (own := [("unit", 9), ("_", 13)]) rfl sc_first_wrong.nd rfl rfl (sw_true rfl rfl rfl (by decide +kernel)) (pi_tup (pv 2)) (blkOk_by (own := [("unit", 9), ("_", 13)]) (N := N_first_wrong) (sc := defScope (top 59)) (by decide +kernel)) (fun _ _ _ _ _ => (pgT (K := K) (n := 2) rfl (by rfl) (pgs_cons (pg_name (i := 9) sc_first_wrong.nd rfl (Or.inl rfl)) (pgs_cons (pg_name (i := 13) sc_first_wrong.nd rfl (Or.inl rfl)) pgs_nil)))) (fun _ _ _ _ _ => pts_nil) (fun _ _ _ _ _ => (pv 9)))
      (pss_cons (ps_set (i := 5) sc_first_wrong.nd rfl (Or.inl rfl) (pe_c C_first_repeated hr (by omega) rfl (pa_cons (pe_op op_cat (pv 3) (pv 4)) pa_nil)))
      (pss_cons (ps_if (pt_cmpR op_notN (pv 5) pe_non (nomark _)) (pss_one (ps_ret (pe_tup (pa_cons pe_str (pa_cons pe_non (pa_cons (pv 5) pa_nil)))))) pss_nil)
      (pss_cons (ps_set (i := 6) sc_first_wrong.nd rfl (Or.inl rfl) (pe_c C_first_too_large hr (by omega) rfl (pa_cons (pv 1) pa_nil)))
      (pss_cons (ps_if (pt_cmpR op_notN (pv 6) pe_non (nomark _)) (pss_one (ps_ret (pe_tup (pa_cons pe_str (pa_cons pe_non (pa_cons (pv 6) pa_nil)))))) pss_nil)
      (pss_cons (ps_set (i := 7) sc_first_wrong.nd rfl (Or.inl rfl) (pe_callTy (call_dictF rfl) (by rfl) T.f_dict (by decide +kernel) (pa_cons (pv 1) pa_nil)))
      (pss_cons (ps_for PassesOwn.never rfl (pi_enumT (by rfl) T.f_enumerate (pa_cons (pv 2) pa_nil)) (pg_tup (by rfl) (pgs_cons (pg_name (i := 8) sc_first_wrong.nd rfl (Or.inl rfl)) (pgs_cons (pg_tup (by rfl) (pgs_cons (pg_name (i := 9) sc_first_wrong.nd rfl (Or.inl rfl)) (pgs_cons (pg_name (i := 10) sc_first_wrong.nd rfl (Or.inl rfl)) pgs_nil))) pgs_nil))) (pss_cons (ps_set (i := 11) sc_first_wrong.nd rfl (Or.inl rfl) (pe_c C_wrong_in_body hr (by omega) rfl (pa_cons (pv 10) (pa_cons (pv 7) (pa_cons (pe_slice sl_list (pv 4) po_none (po_some (pv 8))) pa_nil)))))
      (pss_one (ps_if (pt_cmpR op_notN (pv 11) pe_non (nomark _)) (pss_one ps_never) pss_nil))))
      (pss_one (ps_ret pe_non))))))))))), ?_⟩
  obtain ⟨ns, units, a, rfl, hS, hO, rfl, hQ⟩ := h
  obtain ⟨pn, pu, o, ou, ps, us, ha, hpn, ho, hT, hpu, hou, hR⟩ := hS.ex
  have hl := hT.length
  have hn3 := hO.nok.len
  have hul := hR.length
  have hu6 := hO.hi
  have hp : SqT K H pn (ps.map V.ref) := .inl (.inr ⟨o, hpn⟩)
  have hpU : SqT K H pu (us.map V.ref) := .inl (.inr ⟨ou, hpu⟩)
  refine ⟨_, rfl, a, _, rfl, ha, rfl, _, _, rfl, _, _, rfl, rfl, ?_⟩
  refine ⟨_, rfl, pn, rfl, ⟨_, hp⟩, fun D hD => ?_⟩
  refine lc_fn (walk_tup (xs := ps.map V.ref)) (fun i => .str ((wds ns).getD i "")) (by simp; omega) hD (fun _ e => Evl.ex_t e hp) ?_ ?_
  · rintro i y H2 H2' Z B hj e2 hl2 ⟨rfl, hy⟩ hZ
    obtain ⟨q, rfl, hq⟩ := refs_get hy
    obtain ⟨m, hm, hqm⟩ := hT.get hq
    have eg : (wds ns).getD i "" = m.1 := by rw [List.getD_eq_getElem?_getD, wds_at hm]; rfl
    refine ⟨q, nV m, rfl, SqT.of (e2 _ _ hqm), rfl, _, _, rfl, _, _, rfl, rfl, ?_⟩
    refine ⟨rfl, _, rfl, ?_⟩
    have := hZ _ (Evl.Ex.refl _)
    rw [eg] at this
    exact this
  intro H1 e1 hd1
  have eL : (List.range (ps.map V.ref).length).map (fun j => V.str ((wds ns).getD j "")) = (wds ns).map V.str := by
    refine List.ext_getElem? fun j => ?_
    by_cases hj : j < ns.length
    · rw [List.getElem?_map, List.getElem?_range (by simp; omega), List.getElem?_map, List.getElem?_eq_getElem (by simp [wds]; omega)]
      simp [List.getD_eq_getElem?_getD, wds, hj]
    · rw [List.getElem?_eq_none (by simp; omega), List.getElem?_eq_none (by simp [wds]; omega)]
  rw [eL] at hd1
  refine ⟨_, rfl, pu, rfl, ⟨_, Evl.ex_t e1 hpU⟩, fun D2 hD2 => ?_⟩
  refine lc_fn (walk_tup (xs := us.map V.ref)) (fun i => .str ((units.map Prod.fst).getD i "")) (by simp at hul ⊢; omega) hD2 (fun _ e => Evl.ex_t (e1.trans e) hpU) ?_ ?_
  · rintro i y H2 H2' Z B hj e2 hl2 ⟨rfl, hy⟩ hZ
    obtain ⟨u, hu1, hRu⟩ := hR.get hy
    obtain ⟨q, b, rfl, hq, hB⟩ := hRu
    have eg : (units.map Prod.fst).getD i "" = u.1 := by rw [List.getD_eq_getElem?_getD, us_at hu1]; rfl
    refine ⟨q, _, rfl, Evl.ex_t (e1.trans e2) hq, rfl, _, _, rfl, _, _, rfl, rfl, ?_⟩
    refine ⟨rfl, _, rfl, ?_⟩
    have := hZ _ (Evl.Ex.refl _)
    rw [eg] at this
    exact this
  intro H2 e2 hd2
  have eL2 : (List.range (us.map V.ref).length).map (fun j => V.str ((units.map Prod.fst).getD j "")) = (units.map Prod.fst).map V.str := by
    refine List.ext_getElem? fun j => ?_
    simp only [List.length_map] at hul
    by_cases hj : j < units.length
    · rw [List.getElem?_map, List.getElem?_range (by simp; omega), List.getElem?_map, List.getElem?_eq_getElem (by simp; omega)]
      simp [List.getD_eq_getElem?_getD, hj]
    · rw [List.getElem?_eq_none (by simp; omega), List.getElem?_eq_none (by simp; omega)]
  rw [eL2] at hd2
  refine ⟨_, rfl, _, rfl, D, D2, _, _, rfl, rfl, e2 _ _ hd1, hd2, ?_, fun R hR0 => ?_⟩
  · simp only [List.length_map]
    have : (wds ns).length = ns.length := by simp [wds]
    exact Nat.le_trans (show _ ≤ 100 by omega) (by decide)
  have e12 := e1.trans e2
  have eR := e12.trans (Evl.Ex.new (o := .lst ((wds ns).map V.str ++ (units.map Prod.fst).map V.str)) hR0)
  refine ⟨R, wds ns ++ units.map Prod.fst, rfl, SqL.of (by rw [upd_same, List.map_append]), hO.nd, fun H3 e3 => ?_⟩
  have e3' := eR.trans e3
  refine ⟨_, rfl, rfl, _, rfl, ?_⟩
  refine ⟨_, rfl, pn, ps, ns, rfl, Evl.ex_t e3' hp, hT.mono e3', hO.nok, fun H4 e4 => ?_⟩
  have e4' := e3'.trans e4
  refine ⟨_, rfl, rfl, _, rfl, ?_⟩
  refine ⟨_, rfl, pn, o, ps, sizeKvs ns, rfl, e4' _ _ hpn, ho, tups_paired (hT.mono e4'), fun d hd0 => ?_⟩
  have nd : ((sizeKvs ns).map (·.1)).Nodup := by rw [sizeKvs_keys]; exact key_nodup hO.nok.nd
  have eD := e4'.trans (Evl.Ex.new (o := .dK (mergeK [] (sizeKvs ns))) hd0)
  have hd5 : upd H4 d (.dK (mergeK [] (sizeKvs ns))) d = some (.dK (sizeKvs ns)) := by rw [upd_same, merge_self nd]
  have hD5 : upd H4 d (.dK (mergeK [] (sizeKvs ns))) D2 = some (.lst ((units.map Prod.fst).map V.str)) := (((Evl.Ex.new hR0).trans e3).trans e4).trans (Evl.Ex.new hd0) _ _ hd2
  generalize upd H4 d (.dK (mergeK [] (sizeKvs ns))) = H5 at *
  refine ⟨_, rfl, pu, _, rfl, Evl.ex_t eD hpU, ?_⟩
  refine for_it (walk_enumT (xs := us.map V.ref)) (fun i σ H' => Ex H5 H' ∧ ∃ x8 x9 x10 x11 x12 x13, σ = [some (.ref a), some (.ref pn), some (.ref pu), some (.ref D), some (.ref D2), some .non, some .non, some (.ref d), x8, x9, x10, x11, x12, x13]) ⟨Evl.Ex.refl _, _, _, _, _, _, _, rfl⟩ (fun i σ H' _ z => Evl.ex_t (eD.trans z.1) hpU) ?_ ?_
  · rintro i x σ H6 H6' hi ⟨e6, x8, x9, x10, x11, x12, x13, rfl⟩ ⟨T0, a1, a2, rfl, hT0, rfl, hai, hx⟩
    cases hai
    obtain ⟨u, hu1, hRu⟩ := hR.get hx
    obtain ⟨q, b, rfl, hq, hB⟩ := hRu
    have hU := hO.us i u hu1
    have eT := (eD.trans e6).trans (Evl.Ex.new (o := .tup [V.int (i : Nat), V.ref q]) hT0)
    have eT6 := e6.trans (Evl.Ex.new (o := .tup [V.int (i : Nat), V.ref q]) hT0)
    refine ⟨T0, _, rfl, SqT.of upd_same, rfl, _, _, rfl, _, _, rfl, q, _, rfl, Evl.ex_t eT hq, rfl, _, _, rfl, _, _, rfl, rfl, rfl, ?_⟩
    refine ⟨_, rfl, _, rfl, _, rfl, _, rfl, (i : Int), rfl, D2, _, rfl, SqL.of (eT6 _ _ hD5), fun S hS0 => ?_⟩
    have eS := (Evl.Ex.new (o := .lst (cutV ((units.map Prod.fst).map V.str) none (some (i : Int)))) hS0)
    have hi' : i < units.length := (List.getElem?_eq_some_iff.mp hu1).1
    refine ⟨u.2, b, d, S, sizeKvs ns, szf ns, (units.take i).map Prod.fst, 3, rfl, hB.mono (eT.trans eS), hU.ok, by have := hU.cn; omega, SqL.of (by rw [upd_same, cut_take _ _ (by simp; omega), ← List.map_take, ← List.map_take]), (eT6.trans eS) _ _ hd5, fun z hz => ?_, fun H7 e7 => ?_⟩
    · have hi2 : (wds ns).idxOf z < (wds ns).length := List.idxOf_lt_length_iff.mpr hz
      have hln : (wds ns).length = ns.length := by simp [wds]
      have ez : ns[(wds ns).idxOf z]'(by omega) = (z, szf ns z) := by
        refine Prod.ext ?_ ?_
        · have := List.getElem_idxOf hi2
          simp only [wds, List.getElem_map] at this ⊢
          exact this
        · simp [szf, szs, List.getD_eq_getElem?_getD, show (wds ns).idxOf z < ns.length by omega]
      exact valV_at nd (i := (wds ns).idxOf z) (v := .int (szf ns z : Int)) (k := .inr z) (by unfold sizeKvs; rw [List.getElem?_map, List.getElem?_eq_getElem (by omega), ez]; rfl)
    refine ⟨_, rfl, rfl, _, rfl, ?_⟩
    exact ⟨(eT6.trans eS).trans e7, _, _, _, _, _, _, rfl⟩
  · rintro σ H6 ⟨e6, x8, x9, x10, x11, x12, x13, rfl⟩
    exact hQ H6 (eD.trans e6)

abbrev N_checked_counts : List Str := ["system", "counts", "wrong", "reason", "unit", "word"]
theorem sc_checked_counts : FnScope N_checked_counts ["system"] (defScope (top 60)) := ⟨rfl, rfl, rfl, by decide +kernel, rfl, by decide +kernel, by decide +kernel⟩
def spChecked (K : PySem.W.Frag) (ws : List Str) : Sp := fun vs H Q _ => ∃ (ns : NS) (units : US) (a : Addr), vs = [.ref a] ∧ SysAt K H a ns units ∧ SysOk ns units ∧ wds ns = ws ∧ ∀ l H', Ex H H' → Q (.ref l) H'
theorem ok_checked_counts (T : Txt K mg) (C_counts_in_tree : Cal P w K mg base 19 "counts_in_tree" (spCntT K ws) []) (C_first_wrong : Cal P w K mg base 11 "first_wrong" (spFirstWrong K ws) []) : Cal P w K mg base 20 "checked_counts" (spChecked K ws) [] := by
  obtain ⟨fd, F⟩ := T.d_checked_counts
  refine ⟨_, fd, ["system"], [], ?_, T.g_checked_counts, F.kp, F.bindsN fun _ _ _ _ _ _ us hl => match us, hl with | [_], _ => rfl, .nil⟩
  refine F.ok sc_checked_counts (fun vs H Q E h => by obtain ⟨_, _, _, rfl, _⟩ := h; rfl) (fun cdv A outer s H vs Q E hr h => ?_)
  have hu := hu_of hr
  refine ⟨_, PSs.nox (pss_cons (ps_set (i := 1) sc_checked_counts.nd rfl (Or.inl rfl) (pe_c C_counts_in_tree hr (by omega) rfl (pa_cons (pv 0) pa_nil)))
      (pss_cons (ps_if (pt_cmpR op_isN (pv 1) pe_non (nomark _)) (pss_one ps_never) pss_nil)
      (pss_cons (ps_set (i := 2) sc_checked_counts.nd rfl (Or.inl rfl) (pe_c C_first_wrong hr (by omega) rfl (pa_cons (pv 0) pa_nil)))
      (pss_cons (ps_if (pt_cmpR op_notN (pv 2) pe_non (nomark _)) (pss_cons ps_never
      (pss_one ps_never)) pss_nil)
      (pss_one (ps_ret (pv 1))))))), ?_⟩
  obtain ⟨ns, units, a, rfl, hS, hO, hw, hQ⟩ := h
  refine ⟨_, rfl, ns, units, a, rfl, hS, hO, hw, fun l H1 e1 => ?_⟩
  refine ⟨_, rfl, rfl, _, rfl, ?_⟩
  refine ⟨_, rfl, ns, units, a, rfl, hS.mono e1, hO, hw, fun H2 e2 => ?_⟩
  refine ⟨_, rfl, rfl, _, rfl, ?_⟩
  exact ⟨_, rfl, hQ l H2 (e1.trans e2)⟩

abbrev N_check_system : List Str := ["system"]
theorem sc_check_system : FnScope N_check_system ["system"] (defScope (top 61)) := ⟨rfl, rfl, rfl, by decide +kernel, rfl, by decide +kernel, by decide +kernel⟩
def spCheckS (K : PySem.W.Frag) (ws : List Str) : Sp := fun vs H Q _ => ∃ (ns : NS) (units : US) (a : Addr), vs = [.ref a] ∧ SysAt K H a ns units ∧ SysOk ns units ∧ wds ns = ws ∧ ∀ H', Ex H H' → Q .non H'
theorem ok_check_system (T : Txt K mg) (C_checked_counts : Cal P w K mg base 20 "checked_counts" (spChecked K ws) []) : Cal P w K mg base 21 "check_system" (spCheckS K ws) [] := by
  obtain ⟨fd, F⟩ := T.d_check_system
  refine ⟨_, fd, ["system"], [], ?_, T.g_check_system, F.kp, F.bindsN fun _ _ _ _ _ _ us hl => match us, hl with | [_], _ => rfl, .nil⟩
  refine F.ok sc_check_system (fun vs H Q E h => by obtain ⟨_, _, _, rfl, _⟩ := h; rfl) (fun cdv A outer s H vs Q E hr h => ?_)
  have hu := hu_of hr
  refine ⟨_, PSs.nox (pss_one (ps_expr (pe_c C_checked_counts hr (by omega) rfl (pa_cons (pv 0) pa_nil)))), ?_⟩
  obtain ⟨ns, units, a, rfl, hS, hO, hw, hQ⟩ := h
  exact ⟨_, rfl, ns, units, a, rfl, hS, hO, hw, fun l H1 e1 => hQ H1 e1⟩

end
end K14
namespace K14
open PySem PySem.Spec PyProof.Rows L2 C8

/-! ### the meaning of trees -/
def evT (env : Str → Int) : Tr → Int
  | .num n => n
  | .name x => env x
  | .n0 _ => 0
  | .n1 _ _ => 0
  | .n2 s a b => if s = "+" then evT env a + evT env b else if s = "-" then evT env a - evT env b else evT env a * evT env b
def hdT (env : Str → Int) : Tr → Bool
  | .num _ => true
  | .name _ => true
  | .n0 _ => true
  | .n1 _ a => !hdT env a
  | .n2 k a b => if k = "less" then decide (evT env a < evT env b) else if k = "same" then decide (evT env a = evT env b) else if k = "and" then hdT env a && hdT env b else hdT env a || hdT env b
theorem evT_lt {env : Str → Int} {ws : List Str} (he : ∀ z ∈ ws, 0 ≤ env z ∧ env z ≤ 99) : ∀ {n : Nat} {t : Tr}, IsX ws n t → (evT env t).natAbs < 2 ^ (8 * 2 ^ n)
  | 0, _, h => False.elim h
  | n + 1, .num i, h => by
    have h : 0 ≤ i ∧ i ≤ 99 := h
    have : 2 ^ 8 ≤ 2 ^ (8 * 2 ^ (n + 1)) := Nat.pow_le_pow_right (by omega) (by have := Nat.one_le_two_pow (n := n + 1); omega)
    show i.natAbs < _
    omega
  | n + 1, .name x, h => by
    have h := he x h
    have : 2 ^ 8 ≤ 2 ^ (8 * 2 ^ (n + 1)) := Nat.pow_le_pow_right (by omega) (by have := Nat.one_le_two_pow (n := n + 1); omega)
    show (env x).natAbs < _
    omega
  | n + 1, .n2 s a b, h => by
    have h1 := evT_lt he h.2.1
    have h2 := evT_lt he h.2.2
    have e : 2 ^ (8 * 2 ^ (n + 1)) = 2 ^ (8 * 2 ^ n) * 2 ^ (8 * 2 ^ n) := by
      rw [← Nat.pow_add]
      congr 1
      rw [Nat.pow_succ]
      omega
    have p2 : 2 ≤ 2 ^ (8 * 2 ^ n) := by
      have : 2 ^ 1 ≤ 2 ^ (8 * 2 ^ n) := Nat.pow_le_pow_right (by omega) (by have := Nat.one_le_two_pow (n := n); omega)
      omega
    have q2 : 2 * 2 ^ (8 * 2 ^ n) ≤ 2 ^ (8 * 2 ^ n) * 2 ^ (8 * 2 ^ n) := Nat.mul_le_mul_right _ p2
    rw [e]
    simp only [evT]
    split
    · omega
    · split
      · omega
      · rw [Int.natAbs_mul]
        exact Nat.mul_lt_mul'' h1 h2
theorem evT_mul {env : Str → Int} {ws : List Str} (he : ∀ z ∈ ws, 0 ≤ env z ∧ env z ≤ 99) {n : Nat} {a b : Tr} (hn : n ≤ 6) (ha : IsX ws n a) (hb : IsX ws n b) : CMulW (evT env a) (evT env b) := by
  have key : ∀ t, IsX ws n t → (evT env t).natAbs.log2 ≤ 512 := by
    intro t ht
    have h := evT_lt he ht
    have h2 : 2 ^ (8 * 2 ^ n) ≤ 2 ^ 512 := Nat.pow_le_pow_right (by omega) (by
      have : 2 ^ n ≤ 2 ^ 6 := Nat.pow_le_pow_right (by omega) hn
      omega)
    by_cases z : (evT env t).natAbs = 0
    · rw [z]; simp
    · have := (Nat.log2_lt z).mpr (Nat.lt_of_lt_of_le h h2)
      omega
  have := key a ha
  have := key b hb
  show _ + _ < 1000000
  omega
/-- a dict of the values of the words ws -/
structure Env (K : PySem.W.Frag) (H : Hp) (d : Addr) (ws : List Str) (env : Str → Int) : Prop where
  ex : ∃ kvs, H d = some (.dK kvs) ∧ ∀ z ∈ ws, valV kvs (.inr z) = some (.int (env z))
  bd : ∀ z ∈ ws, 0 ≤ env z ∧ env z ≤ 99
theorem Env.get {K : PySem.W.Frag} {H : Hp} {d : Addr} {ws : List Str} {env : Str → Int} (h : Env K H d ws env) {z : Str} (hz : z ∈ ws) : DGet H d (.str z) (some (.int (env z))) := by
  obtain ⟨kvs, hd, hk⟩ := h.ex
  have := DGet.k (k := .inr z) hd
  rw [hk z hz] at this
  exact this
theorem Env.mono {K : PySem.W.Frag} {H H' : Hp} (e : Ex H H') {d : Addr} {ws : List Str} {env : Str → Int} (h : Env K H d ws env) : Env K H' d ws env := by
  obtain ⟨kvs, hd, hk⟩ := h.ex
  exact ⟨⟨kvs, e _ _ hd, hk⟩, h.bd⟩
theorem sign_cases {s : Str} (h : s ∈ signs) : s = "+" ∨ s = "-" ∨ s = "*" := by simpa [signs] using h
theorem str_ne (a b : Str) (h : a ≠ b) : decide (V.str a = V.str b) = false := decide_eq_false (fun z => h (V.str.inj z))
section
variable {P : Program} {w : World} {K : PySem.W.Frag} {mg : Str → Option Value} {base : Heap} {ws : List Str}
abbrev N_number_of : List Str := ["expression", "values", "kind", "left", "right"]
theorem sc_number_of : FnScope N_number_of ["expression", "values"] (defScope (top 63)) := ⟨rfl, rfl, rfl, by decide +kernel, rfl, by decide +kernel, by decide +kernel⟩
def spNum (K : PySem.W.Frag) (ws : List Str) (n : Nat) : Sp := fun vs H Q _ => ∃ (t : Tr) (u : V) (d : Addr) (env : Str → Int), vs = [u, .ref d] ∧ RepT K H t u ∧ IsX ws n t ∧ n ≤ 6 ∧ Env K H d ws env ∧ Q (.int (evT env t)) H
theorem ok0_number_of (T : Txt K mg) : Cal P w K mg base 1 "number_of" (spNum K ws 0) [] := by
  obtain ⟨fd, F⟩ := T.d_number_of
  refine ⟨_, fd, ["expression", "values"], [], ?_, T.g_number_of, F.kp, F.bindsN fun _ _ _ _ _ _ us hl => match us, hl with | [_, _], _ => rfl, .nil⟩
  refine F.ok sc_number_of (fun vs H Q E h => False.elim ((fun h => by obtain ⟨_, _, _, _, _, _, hX, _⟩ := h; exact hX) h)) (fun cdv A outer s H vs Q E hr h => False.elim ((fun h => by obtain ⟨_, _, _, _, _, _, hX, _⟩ := h; exact hX) h))
theorem st_number_of (T : Txt K mg)  {n : Nat} (C_number_of : Cal P w K mg base (n + 1) "number_of" (spNum K ws n) []) : Cal P w K mg base (n + 2) "number_of" (spNum K ws (n + 1)) [] := by
  obtain ⟨fd, F⟩ := T.d_number_of
  refine ⟨_, fd, ["expression", "values"], [], ?_, T.g_number_of, F.kp, F.bindsN fun _ _ _ _ _ _ us hl => match us, hl with | [_, _], _ => rfl, .nil⟩
  refine F.ok sc_number_of (fun vs H Q E h => by obtain ⟨_, _, _, _, rfl, _⟩ := h; rfl) (fun cdv A outer s H vs Q E hr h => ?_)
  have hu := hu_of hr
  refine ⟨_, PSs.nox (pss_cons (ps_set (i := 2) sc_number_of.nd rfl (Or.inl rfl) (pe_ix ix_tup (pv 0) pe_int (fun _ _ => rfl)))
      (pss_cons (ps_if (pt_cmpR op_eq (pv 2) pe_str (nomark _)) (pss_one (ps_ret (pe_ix ix_tup (pv 0) pe_int (fun _ _ => rfl)))) pss_nil)
      (pss_cons (ps_if (pt_cmpR op_eq (pv 2) pe_str (nomark _)) (pss_one (ps_ret (pe_dget hu (pv 1) (pe_ix ix_tup (pv 0) pe_int (fun _ _ => rfl)) (fun _ _ => rfl)))) pss_nil)
      (pss_cons (ps_set (i := 3) sc_number_of.nd rfl (Or.inl rfl) (pe_c C_number_of hr (by omega) rfl (pa_cons (pe_ix ix_tup (pv 0) pe_int (fun _ _ => rfl)) (pa_cons (pv 1) pa_nil))))
      (pss_cons (ps_set (i := 4) sc_number_of.nd rfl (Or.inl rfl) (pe_c C_number_of hr (by omega) rfl (pa_cons (pe_ix ix_tup (pv 0) pe_int (fun _ _ => rfl)) (pa_cons (pv 1) pa_nil))))
      (pss_cons (ps_if (pt_cmpR op_eq (pv 2) pe_str (nomark _)) (pss_one (ps_ret (pe_op op_add (pv 3) (pv 4)))) pss_nil)
      (pss_cons (ps_if (pt_cmpR op_eq (pv 2) pe_str (nomark _)) (pss_one (ps_ret (pe_op op_sub (pv 3) (pv 4)))) pss_nil)
      (pss_one (ps_ret (pe_op op_mulW (pv 3) (pv 4))))))))))), ?_⟩
  obtain ⟨t, u, d, env, rfl, hR, hX, hn, hE, hQ⟩ := h
  cases t with
  | n0 k => exact False.elim hX
  | n1 k a => exact False.elim hX
  | num i =>
    obtain ⟨p, rfl, hp⟩ := hR
    refine ⟨_, rfl, p, _, 0, _, rfl, rfl, hp, rfl, ?_⟩
    refine ⟨_, rfl, rfl, _, rfl, ?_⟩
    exact ⟨_, rfl, p, _, 1, _, rfl, rfl, hp, rfl, hQ⟩
  | name x =>
    obtain ⟨p, rfl, hp⟩ := hR
    refine ⟨_, rfl, p, _, 0, _, rfl, rfl, hp, rfl, ?_⟩
    refine ⟨_, rfl, rfl, _, rfl, ?_⟩
    refine ⟨_, rfl, rfl, _, rfl, ?_⟩
    exact ⟨_, rfl, _, rfl, p, _, 1, _, rfl, rfl, hp, rfl, d, _, rfl, hE.get hX, hQ⟩
  | n2 s a b =>
    obtain ⟨p, u1, u2, rfl, hp, h1, h2⟩ := hR
    obtain ⟨hs, x1, x2⟩ := hX
    have hm := evT_mul hE.bd (n := n) (by omega) x1 x2
    refine ⟨_, rfl, p, _, 0, _, rfl, rfl, hp, rfl, ?_⟩
    refine ⟨_, rfl, rfl, _, rfl, iteFo (str_ne _ _ (sign_not hs).2) ?_⟩
    refine ⟨_, rfl, rfl, _, rfl, iteFo (str_ne _ _ (sign_not hs).1) ?_⟩
    refine ⟨_, rfl, p, _, 1, _, rfl, rfl, hp, rfl, _, rfl, a, u1, d, env, rfl, h1, x1, by omega, hE, ?_⟩
    refine ⟨_, rfl, p, _, 2, _, rfl, rfl, hp, rfl, _, rfl, b, u2, d, env, rfl, h2, x2, by omega, hE, ?_⟩
    rcases sign_cases hs with rfl | rfl | rfl
    · refine ⟨_, rfl, rfl, _, rfl, ?_⟩
      exact ⟨_, rfl, _, rfl, _, _, rfl, rfl, hQ⟩
    · refine ⟨_, rfl, rfl, _, rfl, ?_⟩
      refine ⟨_, rfl, rfl, _, rfl, ?_⟩
      exact ⟨_, rfl, _, rfl, _, _, rfl, rfl, hQ⟩
    · refine ⟨_, rfl, rfl, _, rfl, ?_⟩
      refine ⟨_, rfl, rfl, _, rfl, ?_⟩
      exact ⟨_, rfl, _, rfl, _, _, rfl, rfl, hm, hQ⟩
theorem ok_number_of (T : Txt K mg)  : ∀ n, Cal P w K mg base (n + 1) "number_of" (spNum K ws n) []
  | 0 => ok0_number_of T
  | n + 1 => st_number_of T  (ok_number_of T  n)

abbrev N_holds : List Str := ["condition", "values", "kind"]
theorem sc_holds : FnScope N_holds ["condition", "values"] (defScope (top 64)) := ⟨rfl, rfl, rfl, by decide +kernel, rfl, by decide +kernel, by decide +kernel⟩
def spHolds (K : PySem.W.Frag) (ws : List Str) (n : Nat) : Sp := fun vs H Q _ => ∃ (t : Tr) (u : V) (d : Addr) (env : Str → Int), vs = [u, .ref d] ∧ RepT K H t u ∧ IsC ws n t ∧ n ≤ 6 ∧ Env K H d ws env ∧ Q (.bl (hdT env t)) H
theorem ok0_holds (T : Txt K mg) : Cal P w K mg base 1 "holds" (spHolds K ws 0) [] := by
  obtain ⟨fd, F⟩ := T.d_holds
  refine ⟨_, fd, ["condition", "values"], [], ?_, T.g_holds, F.kp, F.bindsN fun _ _ _ _ _ _ us hl => match us, hl with | [_, _], _ => rfl, .nil⟩
  refine F.ok sc_holds (fun vs H Q E h => False.elim ((fun h => by obtain ⟨_, _, _, _, _, _, hX, _⟩ := h; exact hX) h)) (fun cdv A outer s H vs Q E hr h => False.elim ((fun h => by obtain ⟨_, _, _, _, _, _, hX, _⟩ := h; exact hX) h))
theorem st_holds (T : Txt K mg) (C_number_of : ∀ n, Cal P w K mg base (n + 1) "number_of" (spNum K ws n) []) {n : Nat} (C_holds : Cal P w K mg base (n + 1) "holds" (spHolds K ws n) []) : Cal P w K mg base (n + 2) "holds" (spHolds K ws (n + 1)) [] := by
  obtain ⟨fd, F⟩ := T.d_holds
  refine ⟨_, fd, ["condition", "values"], [], ?_, T.g_holds, F.kp, F.bindsN fun _ _ _ _ _ _ us hl => match us, hl with | [_, _], _ => rfl, .nil⟩
  refine F.ok sc_holds (fun vs H Q E h => by obtain ⟨_, _, _, _, rfl, _⟩ := h; rfl) (fun cdv A outer s H vs Q E hr h => ?_)
  have hu := hu_of hr
  refine ⟨_, PSs.nox (pss_cons (ps_set (i := 2) sc_holds.nd rfl (Or.inl rfl) (pe_ix ix_tup (pv 0) pe_int (fun _ _ => rfl)))
      (pss_cons (ps_if (pt_cmpR op_eq (pv 2) pe_str (nomark _)) (pss_one (ps_ret pe_bl)) pss_nil)
      (pss_cons (ps_if (pt_cmpR op_eq (pv 2) pe_str (nomark _)) (pss_one (ps_ret (pe_cmpR op_lt (pe_c (C_number_of n) hr (by omega) rfl (pa_cons (pe_ix ix_tup (pv 0) pe_int (fun _ _ => rfl)) (pa_cons (pv 1) pa_nil))) (pe_c (C_number_of n) hr (by omega) rfl (pa_cons (pe_ix ix_tup (pv 0) pe_int (fun _ _ => rfl)) (pa_cons (pv 1) pa_nil))) (nomark _)))) pss_nil)
      (pss_cons (ps_if (pt_cmpR op_eq (pv 2) pe_str (nomark _)) (pss_one (ps_ret (pe_cmpR op_eq (pe_c (C_number_of n) hr (by omega) rfl (pa_cons (pe_ix ix_tup (pv 0) pe_int (fun _ _ => rfl)) (pa_cons (pv 1) pa_nil))) (pe_c (C_number_of n) hr (by omega) rfl (pa_cons (pe_ix ix_tup (pv 0) pe_int (fun _ _ => rfl)) (pa_cons (pv 1) pa_nil))) (nomark _)))) pss_nil)
      (pss_cons (ps_if (pt_cmpR op_eq (pv 2) pe_str (nomark _)) (pss_one (ps_ret (pe_not (pe_c C_holds hr (by omega) rfl (pa_cons (pe_ix ix_tup (pv 0) pe_int (fun _ _ => rfl)) (pa_cons (pv 1) pa_nil)))))) pss_nil)
      (pss_cons (ps_if (pt_cmpR op_eq (pv 2) pe_str (nomark _)) (pss_one (ps_ret (pe_and (pe_c C_holds hr (by omega) rfl (pa_cons (pe_ix ix_tup (pv 0) pe_int (fun _ _ => rfl)) (pa_cons (pv 1) pa_nil))) (pe_one (pe_c C_holds hr (by omega) rfl (pa_cons (pe_ix ix_tup (pv 0) pe_int (fun _ _ => rfl)) (pa_cons (pv 1) pa_nil))))))) pss_nil)
      (pss_one (ps_ret (pe_or (pe_c C_holds hr (by omega) rfl (pa_cons (pe_ix ix_tup (pv 0) pe_int (fun _ _ => rfl)) (pa_cons (pv 1) pa_nil))) (pe_one (pe_c C_holds hr (by omega) rfl (pa_cons (pe_ix ix_tup (pv 0) pe_int (fun _ _ => rfl)) (pa_cons (pv 1) pa_nil))))))))))))), ?_⟩
  obtain ⟨t, u, d, env, rfl, hR, hX, hn, hE, hQ⟩ := h
  cases t with
  | num k => exact False.elim hX
  | name k => exact False.elim hX
  | n0 k =>
    cases (show k = "yes" from hX)
    obtain ⟨p, rfl, hp⟩ := hR
    refine ⟨_, rfl, p, _, 0, _, rfl, rfl, hp, rfl, ?_⟩
    refine ⟨_, rfl, rfl, _, rfl, ?_⟩
    exact hQ
  | n1 k a =>
    obtain ⟨rfl, x1⟩ := hX
    obtain ⟨p, u1, rfl, hp, h1⟩ := hR
    refine ⟨_, rfl, p, _, 0, _, rfl, rfl, hp, rfl, ?_⟩
    refine ⟨_, rfl, rfl, _, rfl, ?_⟩
    refine ⟨_, rfl, rfl, _, rfl, ?_⟩
    refine ⟨_, rfl, rfl, _, rfl, ?_⟩
    refine ⟨_, rfl, rfl, _, rfl, ?_⟩
    exact ⟨_, rfl, p, _, 1, _, rfl, rfl, hp, rfl, _, rfl, a, u1, d, env, rfl, h1, x1, by omega, hE, _, rfl, hQ⟩
  | n2 k a b =>
    obtain ⟨p, u1, u2, rfl, hp, h1, h2⟩ := hR
    rcases hX with ⟨hk, x1, x2⟩ | ⟨hk, x1, x2⟩
    · rcases hk with rfl | rfl
      · refine ⟨_, rfl, p, _, 0, _, rfl, rfl, hp, rfl, ?_⟩
        refine ⟨_, rfl, rfl, _, rfl, ?_⟩
        refine ⟨_, rfl, rfl, _, rfl, ?_⟩
        exact ⟨_, rfl, p, _, 1, _, rfl, rfl, hp, rfl, _, rfl, a, u1, d, env, rfl, h1, x1, by omega, hE, _, rfl, p, _, 2, _, rfl, rfl, hp, rfl, _, rfl, b, u2, d, env, rfl, h2, x2, by omega, hE, _, _, rfl, rfl, hQ⟩
      · refine ⟨_, rfl, p, _, 0, _, rfl, rfl, hp, rfl, ?_⟩
        refine ⟨_, rfl, rfl, _, rfl, ?_⟩
        refine ⟨_, rfl, rfl, _, rfl, ?_⟩
        refine ⟨_, rfl, rfl, _, rfl, ?_⟩
        refine ⟨_, rfl, p, _, 1, _, rfl, rfl, hp, rfl, _, rfl, a, u1, d, env, rfl, h1, x1, by omega, hE, _, rfl, p, _, 2, _, rfl, rfl, hp, rfl, _, rfl, b, u2, d, env, rfl, h2, x2, by omega, hE, rfl, ?_⟩
        rw [show decide (V.int (evT env a) = V.int (evT env b)) = decide (evT env a = evT env b) by simp]
        exact hQ
    · rcases hk with rfl | rfl
      · refine ⟨_, rfl, p, _, 0, _, rfl, rfl, hp, rfl, ?_⟩
        refine ⟨_, rfl, rfl, _, rfl, ?_⟩
        refine ⟨_, rfl, rfl, _, rfl, ?_⟩
        refine ⟨_, rfl, rfl, _, rfl, ?_⟩
        refine ⟨_, rfl, rfl, _, rfl, ?_⟩
        refine ⟨_, rfl, rfl, _, rfl, ?_⟩
        have hQ : Q (.bl (hdT env a && hdT env b)) H := hQ
        refine ⟨_, rfl, p, _, 1, _, rfl, rfl, hp, rfl, _, rfl, a, u1, d, env, rfl, h1, x1, by omega, hE, _, rfl, ?_⟩
        cases ha : hdT env a with
        | true =>
          rw [ha, Bool.true_and] at hQ
          exact iteT ⟨_, rfl, p, _, 2, _, rfl, rfl, hp, rfl, _, rfl, b, u2, d, env, rfl, h2, x2, by omega, hE, hQ⟩
        | false =>
          rw [ha, Bool.false_and] at hQ
          exact iteF hQ
      · refine ⟨_, rfl, p, _, 0, _, rfl, rfl, hp, rfl, ?_⟩
        refine ⟨_, rfl, rfl, _, rfl, ?_⟩
        refine ⟨_, rfl, rfl, _, rfl, ?_⟩
        refine ⟨_, rfl, rfl, _, rfl, ?_⟩
        refine ⟨_, rfl, rfl, _, rfl, ?_⟩
        refine ⟨_, rfl, rfl, _, rfl, ?_⟩
        have hQ : Q (.bl (hdT env a || hdT env b)) H := hQ
        refine ⟨_, rfl, p, _, 1, _, rfl, rfl, hp, rfl, _, rfl, a, u1, d, env, rfl, h1, x1, by omega, hE, _, rfl, ?_⟩
        cases ha : hdT env a with
        | true =>
          rw [ha, Bool.true_or] at hQ
          exact iteT hQ
        | false =>
          rw [ha, Bool.false_or] at hQ
          exact iteF ⟨_, rfl, p, _, 2, _, rfl, rfl, hp, rfl, _, rfl, b, u2, d, env, rfl, h2, x2, by omega, hE, hQ⟩
theorem ok_holds (T : Txt K mg) (C_number_of : ∀ n, Cal P w K mg base (n + 1) "number_of" (spNum K ws n) []) : ∀ n, Cal P w K mg base (n + 1) "holds" (spHolds K ws n) []
  | 0 => ok0_holds T
  | n + 1 => st_holds T C_number_of (ok_holds T C_number_of n)

abbrev N_l_worth : List Str := ["e", "values", "one", "other"]
theorem sc_l_worth : FnScope N_l_worth ["e", "values"] (defScope (top 90)) := ⟨rfl, rfl, rfl, by decide +kernel, rfl, by decide +kernel, by decide +kernel⟩
def spWorth (K : PySem.W.Frag) (ws : List Str) (n : Nat) : Sp := fun vs H Q _ => ∃ (t : Tr) (u : V) (d : Addr) (env : Str → Int), vs = [u, .ref d] ∧ RepT K H t u ∧ IsX ws n t ∧ n ≤ 6 ∧ Env K H d ws env ∧ Q (.int (evT env t)) H
theorem ok0_l_worth (T : Txt K mg) : Cal P w K mg base 1 "_law_worth" (spWorth K ws 0) [] := by
  obtain ⟨fd, F⟩ := T.d__law_worth
  refine ⟨_, fd, ["e", "values"], [], ?_, T.g__law_worth, F.kp, F.bindsN fun _ _ _ _ _ _ us hl => match us, hl with | [_, _], _ => rfl, .nil⟩
  refine F.ok sc_l_worth (fun vs H Q E h => False.elim ((fun h => by obtain ⟨_, _, _, _, _, _, hX, _⟩ := h; exact hX) h)) (fun cdv A outer s H vs Q E hr h => False.elim ((fun h => by obtain ⟨_, _, _, _, _, _, hX, _⟩ := h; exact hX) h))
theorem st_l_worth (T : Txt K mg)  {n : Nat} (C_l_worth : Cal P w K mg base (n + 1) "_law_worth" (spWorth K ws n) []) : Cal P w K mg base (n + 2) "_law_worth" (spWorth K ws (n + 1)) [] := by
  obtain ⟨fd, F⟩ := T.d__law_worth
  refine ⟨_, fd, ["e", "values"], [], ?_, T.g__law_worth, F.kp, F.bindsN fun _ _ _ _ _ _ us hl => match us, hl with | [_, _], _ => rfl, .nil⟩
  refine F.ok sc_l_worth (fun vs H Q E h => by obtain ⟨_, _, _, _, rfl, _⟩ := h; rfl) (fun cdv A outer s H vs Q E hr h => ?_)
  have hu := hu_of hr
  refine ⟨_, PSs.nox (pss_cons (ps_if (pt_cmpR op_eq (pe_ix ix_tup (pv 0) pe_int (fun _ _ => rfl)) pe_str (nomark _)) (pss_one (ps_ret (pe_ix ix_tup (pv 0) pe_int (fun _ _ => rfl)))) pss_nil)
      (pss_cons (ps_if (pt_cmpR op_eq (pe_ix ix_tup (pv 0) pe_int (fun _ _ => rfl)) pe_str (nomark _)) (pss_one (ps_ret (pe_dget hu (pv 1) (pe_ix ix_tup (pv 0) pe_int (fun _ _ => rfl)) (fun _ _ => rfl)))) pss_nil)
      (pss_cons (ps_par (i := 2) (j := 3) (by rfl) sc_l_worth.nd rfl rfl (by decide) rfl rfl (pa_cons (pe_c C_l_worth hr (by omega) rfl (pa_cons (pe_ix ix_tup (pv 0) pe_int (fun _ _ => rfl)) (pa_cons (pv 1) pa_nil))) (pa_cons (pe_c C_l_worth hr (by omega) rfl (pa_cons (pe_ix ix_tup (pv 0) pe_int (fun _ _ => rfl)) (pa_cons (pv 1) pa_nil))) pa_nil)) (by rfl))
      (pss_one (ps_ret (pe_ifExp (pt_cmpR op_eq (pe_ix ix_tup (pv 0) pe_int (fun _ _ => rfl)) pe_str (nomark _)) (pe_op op_add (pv 2) (pv 3)) (pe_ifExp (pt_cmpR op_eq (pe_ix ix_tup (pv 0) pe_int (fun _ _ => rfl)) pe_str (nomark _)) (pe_op op_sub (pv 2) (pv 3)) (pe_op op_mulW (pv 2) (pv 3))))))))), ?_⟩
  obtain ⟨t, u, d, env, rfl, hR, hX, hn, hE, hQ⟩ := h
  cases t with
  | n0 k => exact False.elim hX
  | n1 k a => exact False.elim hX
  | num i =>
    obtain ⟨p, rfl, hp⟩ := hR
    refine ⟨_, rfl, p, _, 0, _, rfl, rfl, hp, rfl, rfl, _, rfl, ?_⟩
    exact ⟨_, rfl, p, _, 1, _, rfl, rfl, hp, rfl, hQ⟩
  | name x =>
    obtain ⟨p, rfl, hp⟩ := hR
    refine ⟨_, rfl, p, _, 0, _, rfl, rfl, hp, rfl, rfl, _, rfl, ?_⟩
    refine ⟨_, rfl, p, _, 0, _, rfl, rfl, hp, rfl, rfl, _, rfl, ?_⟩
    exact ⟨_, rfl, _, rfl, p, _, 1, _, rfl, rfl, hp, rfl, d, _, rfl, hE.get hX, hQ⟩
  | n2 s a b =>
    obtain ⟨p, u1, u2, rfl, hp, h1, h2⟩ := hR
    obtain ⟨hs, x1, x2⟩ := hX
    have hm := evT_mul hE.bd (n := n) (by omega) x1 x2
    refine ⟨_, rfl, p, _, 0, _, rfl, rfl, hp, rfl, rfl, _, rfl, iteFo (str_ne _ _ (sign_not hs).2) ?_⟩
    refine ⟨_, rfl, p, _, 0, _, rfl, rfl, hp, rfl, rfl, _, rfl, iteFo (str_ne _ _ (sign_not hs).1) ?_⟩
    refine ⟨_, rfl, p, _, 1, _, rfl, rfl, hp, rfl, _, rfl, a, u1, d, env, rfl, h1, x1, by omega, hE, _, rfl, p, _, 2, _, rfl, rfl, hp, rfl, _, rfl, b, u2, d, env, rfl, h2, x2, by omega, hE, _, _, rfl, ?_⟩
    rcases sign_cases hs with rfl | rfl | rfl
    · refine ⟨_, rfl, p, _, 0, _, rfl, rfl, hp, rfl, rfl, _, rfl, ?_⟩
      exact ⟨_, rfl, _, rfl, _, _, rfl, rfl, hQ⟩
    · refine ⟨_, rfl, p, _, 0, _, rfl, rfl, hp, rfl, rfl, _, rfl, ?_⟩
      refine ⟨_, rfl, p, _, 0, _, rfl, rfl, hp, rfl, rfl, _, rfl, ?_⟩
      exact ⟨_, rfl, _, rfl, _, _, rfl, rfl, hQ⟩
    · refine ⟨_, rfl, p, _, 0, _, rfl, rfl, hp, rfl, rfl, _, rfl, ?_⟩
      refine ⟨_, rfl, p, _, 0, _, rfl, rfl, hp, rfl, rfl, _, rfl, ?_⟩
      exact ⟨_, rfl, _, rfl, _, _, rfl, rfl, hm, hQ⟩
theorem ok_l_worth (T : Txt K mg)  : ∀ n, Cal P w K mg base (n + 1) "_law_worth" (spWorth K ws n) []
  | 0 => ok0_l_worth T
  | n + 1 => st_l_worth T  (ok_l_worth T  n)

abbrev N_l_holds : List Str := ["c", "values", "one", "other"]
theorem sc_l_holds : FnScope N_l_holds ["c", "values"] (defScope (top 91)) := ⟨rfl, rfl, rfl, by decide +kernel, rfl, by decide +kernel, by decide +kernel⟩
def spLHolds (K : PySem.W.Frag) (ws : List Str) (n : Nat) : Sp := fun vs H Q _ => ∃ (t : Tr) (u : V) (d : Addr) (env : Str → Int), vs = [u, .ref d] ∧ RepT K H t u ∧ IsC ws n t ∧ n ≤ 6 ∧ Env K H d ws env ∧ ∀ H', Ex H H' → Q (.bl (hdT env t)) H'
theorem ok0_l_holds (T : Txt K mg) : Cal P w K mg base 1 "_law_holds" (spLHolds K ws 0) [] := by
  obtain ⟨fd, F⟩ := T.d__law_holds
  refine ⟨_, fd, ["c", "values"], [], ?_, T.g__law_holds, F.kp, F.bindsN fun _ _ _ _ _ _ us hl => match us, hl with | [_, _], _ => rfl, .nil⟩
  refine F.ok sc_l_holds (fun vs H Q E h => False.elim ((fun h => by obtain ⟨_, _, _, _, _, _, hX, _⟩ := h; exact hX) h)) (fun cdv A outer s H vs Q E hr h => False.elim ((fun h => by obtain ⟨_, _, _, _, _, _, hX, _⟩ := h; exact hX) h))
theorem st_l_holds (T : Txt K mg) (C_l_worth : ∀ n, Cal P w K mg base (n + 1) "_law_worth" (spWorth K ws n) []) {n : Nat} (C_l_holds : Cal P w K mg base (n + 1) "_law_holds" (spLHolds K ws n) []) : Cal P w K mg base (n + 2) "_law_holds" (spLHolds K ws (n + 1)) [] := by
  obtain ⟨fd, F⟩ := T.d__law_holds
  refine ⟨_, fd, ["c", "values"], [], ?_, T.g__law_holds, F.kp, F.bindsN fun _ _ _ _ _ _ us hl => match us, hl with | [_, _], _ => rfl, .nil⟩
  refine F.ok sc_l_holds (fun vs H Q E h => by obtain ⟨_, _, _, _, rfl, _⟩ := h; rfl) (fun cdv A outer s H vs Q E hr h => ?_)
  have hu := hu_of hr
  refine ⟨_, PSs.nox (pss_cons (ps_if (pt_cmpR op_eq (pe_ix ix_tup (pv 0) pe_int (fun _ _ => rfl)) pe_str (nomark _)) (pss_one (ps_ret pe_bl)) pss_nil)
      (pss_cons (ps_if (pt_cmpR op_eq (pe_ix ix_tup (pv 0) pe_int (fun _ _ => rfl)) pe_str (nomark _)) (pss_one (ps_ret (pe_not (pe_c C_l_holds hr (by omega) rfl (pa_cons (pe_ix ix_tup (pv 0) pe_int (fun _ _ => rfl)) (pa_cons (pv 1) pa_nil)))))) pss_nil)
      (pss_cons (ps_if (pt_cmpR op_in_seq (pe_ix ix_tup (pv 0) pe_int (fun _ _ => rfl)) (pe_lst (pa_cons pe_str (pa_cons pe_str pa_nil))) rfl) (pss_cons (ps_par (i := 2) (j := 3) (by rfl) sc_l_holds.nd rfl rfl (by decide) rfl rfl (pa_cons (pe_c C_l_holds hr (by omega) rfl (pa_cons (pe_ix ix_tup (pv 0) pe_int (fun _ _ => rfl)) (pa_cons (pv 1) pa_nil))) (pa_cons (pe_c C_l_holds hr (by omega) rfl (pa_cons (pe_ix ix_tup (pv 0) pe_int (fun _ _ => rfl)) (pa_cons (pv 1) pa_nil))) pa_nil)) (by rfl))
      (pss_one (ps_ret (pe_ifExp (pt_cmpR op_eq (pe_ix ix_tup (pv 0) pe_int (fun _ _ => rfl)) pe_str (nomark _)) (pe_and (pv 2) (pe_one (pv 3))) (pe_or (pv 2) (pe_one (pv 3))))))) pss_nil)
      (pss_cons (ps_par (i := 2) (j := 3) (by rfl) sc_l_holds.nd rfl rfl (by decide) rfl rfl (pa_cons (pe_c (C_l_worth n) hr (by omega) rfl (pa_cons (pe_ix ix_tup (pv 0) pe_int (fun _ _ => rfl)) (pa_cons (pv 1) pa_nil))) (pa_cons (pe_c (C_l_worth n) hr (by omega) rfl (pa_cons (pe_ix ix_tup (pv 0) pe_int (fun _ _ => rfl)) (pa_cons (pv 1) pa_nil))) pa_nil)) (by rfl))
      (pss_one (ps_ret (pe_ifExp (pt_cmpR op_eq (pe_ix ix_tup (pv 0) pe_int (fun _ _ => rfl)) pe_str (nomark _)) (pe_cmpR op_lt (pv 2) (pv 3) (nomark _)) (pe_cmpR op_eq (pv 2) (pv 3) (nomark _))))))))), ?_⟩
  obtain ⟨t, u, d, env, rfl, hR, hX, hn, hE, hQ⟩ := h
  cases t with
  | num k => exact False.elim hX
  | name k => exact False.elim hX
  | n0 k =>
    cases (show k = "yes" from hX)
    obtain ⟨p, rfl, hp⟩ := hR
    refine ⟨_, rfl, p, _, 0, _, rfl, rfl, hp, rfl, rfl, _, rfl, ?_⟩
    exact hQ H (Evl.Ex.refl _)
  | n1 k a =>
    obtain ⟨rfl, x1⟩ := hX
    obtain ⟨p, u1, rfl, hp, h1⟩ := hR
    refine ⟨_, rfl, p, _, 0, _, rfl, rfl, hp, rfl, rfl, _, rfl, ?_⟩
    refine ⟨_, rfl, p, _, 0, _, rfl, rfl, hp, rfl, rfl, _, rfl, ?_⟩
    exact ⟨_, rfl, p, _, 1, _, rfl, rfl, hp, rfl, _, rfl, a, u1, d, env, rfl, h1, x1, by omega, hE, fun H1 e1 => ⟨_, rfl, hQ H1 e1⟩⟩
  | n2 k a b =>
    obtain ⟨p, u1, u2, rfl, hp, h1, h2⟩ := hR
    rcases hX with ⟨hk, x1, x2⟩ | ⟨hk, x1, x2⟩
    · refine ⟨_, rfl, p, _, 0, _, rfl, rfl, hp, rfl, rfl, _, rfl, iteFo (by rcases hk with rfl | rfl <;> decide +kernel) ?_⟩
      refine ⟨_, rfl, p, _, 0, _, rfl, rfl, hp, rfl, rfl, _, rfl, iteFo (by rcases hk with rfl | rfl <;> decide +kernel) ?_⟩
      refine ⟨_, rfl, p, _, 0, _, rfl, rfl, hp, rfl, (by show 2 ≤ sizeLine; decide), fun q hq => ?_⟩
      have e0 := Evl.Ex.new (o := .lst [.str "and", .str "or"]) hq
      refine ⟨q, _, rfl, .inl (SqL.of upd_same), rfl, rfl, _, rfl, iteFo (by rcases hk with rfl | rfl <;> decide +kernel) ?_⟩
      refine ⟨_, rfl, p, _, 1, _, rfl, rfl, Evl.ex_t e0 hp, rfl, _, rfl, a, u1, d, env, rfl, h1.mono e0, x1, by omega, hE.mono e0, _, rfl, p, _, 2, _, rfl, rfl, Evl.ex_t e0 hp, rfl, _, rfl, b, u2, d, env, rfl, h2.mono e0, x2, by omega, hE.mono e0, _, _, rfl, ?_⟩
      have hQ := hQ _ e0
      rcases hk with rfl | rfl
      · refine ⟨_, rfl, p, _, 0, _, rfl, rfl, Evl.ex_t e0 hp, rfl, rfl, _, rfl, ?_⟩
        exact ⟨_, rfl, _, rfl, _, _, rfl, rfl, hQ⟩
      · refine ⟨_, rfl, p, _, 0, _, rfl, rfl, Evl.ex_t e0 hp, rfl, rfl, _, rfl, ?_⟩
        refine ⟨_, rfl, _, rfl, rfl, ?_⟩
        rw [show decide (V.int (evT env a) = V.int (evT env b)) = decide (evT env a = evT env b) by simp]
        exact hQ
    · refine ⟨_, rfl, p, _, 0, _, rfl, rfl, hp, rfl, rfl, _, rfl, iteFo (by rcases hk with rfl | rfl <;> decide +kernel) ?_⟩
      refine ⟨_, rfl, p, _, 0, _, rfl, rfl, hp, rfl, rfl, _, rfl, iteFo (by rcases hk with rfl | rfl <;> decide +kernel) ?_⟩
      refine ⟨_, rfl, p, _, 0, _, rfl, rfl, hp, rfl, (by show 2 ≤ sizeLine; decide), fun q hq => ?_⟩
      have e0 := Evl.Ex.new (o := .lst [.str "and", .str "or"]) hq
      refine ⟨q, _, rfl, .inl (SqL.of upd_same), rfl, rfl, _, rfl, iteTo (by rcases hk with rfl | rfl <;> decide +kernel) ?_⟩
      refine ⟨_, rfl, p, _, 1, _, rfl, rfl, Evl.ex_t e0 hp, rfl, _, rfl, a, u1, d, env, rfl, h1.mono e0, x1, by omega, hE.mono e0, fun H1 e1' => ?_⟩
      have e1 := e0.trans e1'
      refine ⟨_, rfl, p, _, 2, _, rfl, rfl, Evl.ex_t e1 hp, rfl, _, rfl, b, u2, d, env, rfl, h2.mono e1, x2, by omega, hE.mono e1, fun H2 e2 => ⟨_, _, rfl, ?_⟩⟩
      have e2 := e1.trans e2
      have hQ := hQ _ e2
      rcases hk with rfl | rfl
      · refine ⟨_, rfl, p, _, 0, _, rfl, rfl, Evl.ex_t e2 hp, rfl, rfl, _, rfl, ?_⟩
        have hQ : Q (.bl (hdT env a && hdT env b)) H2 := hQ
        refine ⟨_, rfl, _, rfl, ?_⟩
        cases ha : hdT env a with
        | true =>
          rw [ha, Bool.true_and] at hQ
          exact iteT ⟨_, rfl, hQ⟩
        | false =>
          rw [ha, Bool.false_and] at hQ
          exact iteF hQ
      · refine ⟨_, rfl, p, _, 0, _, rfl, rfl, Evl.ex_t e2 hp, rfl, rfl, _, rfl, ?_⟩
        have hQ : Q (.bl (hdT env a || hdT env b)) H2 := hQ
        refine ⟨_, rfl, _, rfl, ?_⟩
        cases ha : hdT env a with
        | true =>
          rw [ha, Bool.true_or] at hQ
          exact iteT hQ
        | false =>
          rw [ha, Bool.false_or] at hQ
          exact iteF ⟨_, rfl, hQ⟩
theorem ok_l_holds (T : Txt K mg) (C_l_worth : ∀ n, Cal P w K mg base (n + 1) "_law_worth" (spWorth K ws n) []) : ∀ n, Cal P w K mg base (n + 1) "_law_holds" (spLHolds K ws n) []
  | 0 => ok0_l_holds T
  | n + 1 => st_l_holds T C_l_worth (ok_l_holds T C_l_worth n)

end
end K14
namespace K14
open PySem PySem.Spec PyProof.Rows L2 C8
/-! ### stores as values -/
def ixN' (ns : NS) (x : Str) : Nat := (wds ns).idxOf x
def envN (ns : NS) (st : Nat) (x : Str) : Int := ((row (szs ns) st).getD (ixN' ns x) 0 : Nat)
def setN (ns : NS) (st : Nat) (x : Str) (v : Int) : Nat := givenN (szs ns) st (ixN' ns x) (v % (((szs ns).getD (ixN' ns x) 1 : Nat) : Int)).toNat
theorem ix_at {ns : NS} {x : Str} (h : x ∈ wds ns) : ∃ n, ns[ixN' ns x]? = some n ∧ n.1 = x := by
  have hi : (wds ns).idxOf x < (wds ns).length := List.idxOf_lt_length_iff.mpr h
  have hl : (wds ns).length = ns.length := by simp [wds]
  refine ⟨ns[(wds ns).idxOf x]'(by omega), List.getElem?_eq_getElem _, ?_⟩
  have := List.getElem_idxOf hi
  simp only [wds, List.getElem_map] at this ⊢
  exact this
theorem env_ok {K : PySem.W.Frag} {H : Hp} {p : Addr} {ns : NS} (hok : NsOk ns) {st : Nat} (h : H p = some (.dK (kvsOf ns (row (szs ns) st)))) : Env K H p (wds ns) (envN ns st) := by
  have hrl : (row (szs ns) st).length = ns.length := by rw [row_len]; simp [szs]
  have nd : ((kvsOf ns (row (szs ns) st)).map (·.1)).Nodup := by rw [kvs_keys hrl]; exact key_nodup hok.nd
  refine ⟨⟨_, h, fun z hz => ?_⟩, fun z hz => ?_⟩
  · obtain ⟨n, hn, rfl⟩ := ix_at hz
    obtain ⟨v, hv, hlt⟩ := row_val hok (k := st) hn
    have e : envN ns st n.1 = (v : Int) := by
      unfold envN
      rw [List.getD_eq_getElem?_getD, hv]; rfl
    rw [e]
    exact valV_at nd (kvs_at hn hv)
  · obtain ⟨n, hn, rfl⟩ := ix_at hz
    obtain ⟨v, hv, hlt⟩ := row_val hok (k := st) hn
    have hs := hok.size (List.mem_of_getElem? hn)
    have e : envN ns st n.1 = (v : Int) := by
      unfold envN
      rw [List.getD_eq_getElem?_getD, hv]; rfl
    rw [e]
    omega
theorem setN_lt {ns : NS} (hok : NsOk ns) {st : Nat} (hst : st < prodN (szs ns)) {x : Str} (hx : x ∈ wds ns) (v : Int) : setN ns st x v < prodN (szs ns) := by
  obtain ⟨n, hn, rfl⟩ := ix_at hx
  have hs := hok.size (List.mem_of_getElem? hn)
  have hg := sz_getD hn
  have hi : ixN' ns n.1 < (szs ns).length := by
    have := (List.getElem?_eq_some_iff.mp hn).1
    simp [szs]; exact this
  unfold setN
  refine (menu_given hok.sz hst hi ?_).1
  rw [hg]
  have h1 : 0 ≤ v % (n.2 : Int) := Int.emod_nonneg _ (by omega)
  have h2 : v % (n.2 : Int) < n.2 := Int.emod_lt_of_pos _ (by omega)
  omega
theorem setN_eq {ns : NS} {x : Str} {n : Str × Nat} (h : ns[ixN' ns x]? = some n) (st : Nat) (v : Int) : setN ns st x v = givenN (szs ns) st (ixN' ns x) (v % (n.2 : Int)).toNat := by
  unfold setN
  rw [sz_getD h]
theorem setN_lt' {ns : NS} (hok : NsOk ns) {st : Nat} (hst : st < prodN (szs ns)) {x : Str} (hx : x ∈ wds ns) (v : Int) : setN ns st x v < prodN (szs ns) := setN_lt hok hst hx v
/-! ### games -/
/-- a body under way: of a unit or not; what is still to come -/
abbrev Fr := Option Str × List Sm
/-- a quiet turn; the body that has begun last stands first -/
def qs (ns : NS) : Nat → List Fr → Option (Nat × List Fr)
  | st, (none, []) :: r => some (st, r)
  | st, (u, .set x e :: b) :: r => some (setN ns st x (evT (envN ns st) e), (u, b) :: r)
  | st, (u, .iff c t e :: b) :: r => some (st, (none, if hdT (envN ns st) c = true then t else e) :: (u, b) :: r)
  | st, (u, .whl c _ :: b) :: r => if hdT (envN ns st) c = true then none else some (st, (u, b) :: r)
  | _, _ => none
mutual
/-- how many quiet turns there may be -/
def phS : Sm → Nat
  | .set _ _ => 1
  | .iff _ t e => 2 + max (phL t) (phL e)
  | .whl _ _ => 1
  | _ => 0
def phL : List Sm → Nat
  | [] => 0
  | s :: b => phS s + phL b
end
def phF : List Fr → Nat
  | [] => 0
  | f :: r => (1 + phL f.2) + phF r
theorem qs_dec {ns : NS} {st st' : Nat} : ∀ {fs fs' : List Fr}, qs ns st fs = some (st', fs') → phF fs' + 1 ≤ phF fs
  | [], _, h => by simp [qs] at h
  | (u, []) :: r, fs', h => by
    cases u with
    | none =>
      simp only [qs, Option.some.injEq, Prod.mk.injEq] at h
      rw [← h.2]
      simp only [phF, phL]
      omega
    | some u => simp [qs] at h
  | (u, s :: b) :: r, fs', h => by
    cases s with
    | set x e =>
      simp only [qs, Option.some.injEq, Prod.mk.injEq] at h
      rw [← h.2]
      simp only [phF, phL, phS]
      omega
    | iff c t e =>
      simp only [qs, Option.some.injEq, Prod.mk.injEq] at h
      rw [← h.2]
      simp only [phF, phL, phS]
      split <;> omega
    | whl c w =>
      simp only [qs] at h
      split at h
      · cases h
      · simp only [Option.some.injEq, Prod.mk.injEq] at h
        rw [← h.2]
        simp only [phF, phL, phS]
        omega
    | drw x e => simp [qs] at h
    | cho x e => simp [qs] at h
    | cal x => simp [qs] at h
/-- k quiet turns, and no more -/
inductive Qt (ns : NS) : Nat → Nat → List Fr → Nat → List Fr → Prop
  | stay {st : Nat} {fs : List Fr} (h : qs ns st fs = none) : Qt ns 0 st fs st fs
  | turn {k st st1 st2 : Nat} {fs fs1 fs2 : List Fr} (h : qs ns st fs = some (st1, fs1)) (r : Qt ns k st1 fs1 st2 fs2) : Qt ns (k + 1) st fs st2 fs2
theorem Qt.total (ns : NS) : ∀ (n st : Nat) (fs : List Fr), phF fs ≤ n → ∃ k st' fs', k ≤ n ∧ Qt ns k st fs st' fs'
  | n, st, fs, hn => by
    cases h : qs ns st fs with
    | none => exact ⟨0, st, fs, Nat.zero_le _, .stay h⟩
    | some p =>
      obtain ⟨st1, fs1⟩ := p
      have hd := qs_dec h
      cases n with
      | zero => omega
      | succ n =>
        obtain ⟨k, st2, fs2, hk, q⟩ := Qt.total ns n st1 fs1 (by omega)
        exact ⟨k + 1, st2, fs2, by omega, .turn h q⟩
theorem Qt.same {ns : NS} {k st st1 : Nat} {fs fs1 : List Fr} (q : Qt ns k st fs st1 fs1) : ∀ {k' st2 : Nat} {fs2 : List Fr}, Qt ns k' st fs st2 fs2 → st1 = st2 ∧ fs1 = fs2 := by
  induction q with
  | stay h =>
    intro k' st2 fs2 q2
    cases q2 with
    | stay _ => exact ⟨rfl, rfl⟩
    | turn h2 _ => rw [h] at h2; cases h2
  | turn h r ih =>
    intro k' st2 fs2 q2
    cases q2 with
    | stay h2 => rw [h] at h2; cases h2
    | turn h2 r2 =>
      rw [h] at h2
      cases h2
      exact ih r2
theorem Qt.calm {ns : NS} {k st st1 : Nat} {fs fs1 : List Fr} (q : Qt ns k st fs st1 fs1) : qs ns st1 fs1 = none := by
  induction q with
  | stay h => exact h
  | turn _ _ ih => exact ih
/-- an item: a label, a part of a wheel -/
inductive Ans where
  | lab (l : Str) | num (k : Nat)
def Ans.v : Ans → V
  | .lab l => .str l
  | .num k => .int (k : Int)
/-- the values of a wheel's parts -/
def wheel (ps : List (Nat × Nat)) : List Nat := ps.flatMap fun p => List.replicate p.2 p.1
/-- what is to come behind quiet turns -/
inductive Due where
  | over | back (u : Str) | loop (w : List Sm) | call (v : Str) | cho (ls : List Str) (bs : List (List Sm)) | drw (x : Str) (ps : List (Nat × Nat))
def due : List Fr → Due
  | [] => .over
  | (some u, []) :: _ => .back u
  | (none, []) :: _ => .over
  | (_, .whl _ w :: _) :: _ => .loop w
  | (_, .cal v :: _) :: _ => .call v
  | (_, .cho ls bs :: _) :: _ => .cho ls bs
  | (_, .drw x ps :: _) :: _ => .drw x ps
  | (_, .set _ _ :: _) :: _ => .over
  | (_, .iff _ _ _ :: _) :: _ => .over
def Due.asks : Due → Bool
  | .cho _ _ => true
  | .drw _ _ => true
  | _ => false
/-- without the statement that is due -/
def behind : List Fr → List Fr
  | (u, _ :: b) :: r => (u, b) :: r
  | fs => fs
/-- a step without an item: the line's beginning and word, and what is under way then -/
def stepN (units : List (Str × List Sm)) (fs : List Fr) : Option (Str × List Fr) := match due fs with
  | .back u => some ((Str.empty ++ ("back " : Str)) ++ u, fs.tail)
  | .loop w => some ("loop", (none, w) :: fs)
  | .call v => (units.lookup v).map fun b => ((Str.empty ++ ("call " : Str)) ++ v, (some v, b) :: behind fs)
  | _ => none
/-- the body that has begun first is a unit's -/
def UB : List Fr → Prop
  | [] => False
  | [f] => ∃ u, f.1 = some u
  | _ :: r => UB r
theorem UB.cons {f : Fr} {r : List Fr} (h : UB r) : UB (f :: r) := by
  cases r with
  | nil => exact False.elim h
  | cons a b => exact h
theorem UB.swap {u : Option Str} {b b' : List Sm} {r : List Fr} (h : UB ((u, b) :: r)) : UB ((u, b') :: r) := by
  cases r with
  | nil => exact h
  | cons a c => exact h
theorem qs_ub {ns : NS} {st st' : Nat} : ∀ {fs fs' : List Fr}, UB fs → qs ns st fs = some (st', fs') → UB fs'
  | [], _, h, _ => False.elim h
  | (u, []) :: r, fs', h, e => by
    cases u with
    | none =>
      simp only [qs, Option.some.injEq, Prod.mk.injEq] at e
      rw [← e.2]
      cases r with
      | nil => obtain ⟨u, hu⟩ := h; cases hu
      | cons a b => exact h
    | some u => simp [qs] at e
  | (u, s :: b) :: r, fs', h, e => by
    cases s with
    | set x t =>
      simp only [qs, Option.some.injEq, Prod.mk.injEq] at e
      rw [← e.2]
      exact h.swap
    | iff c t f =>
      simp only [qs, Option.some.injEq, Prod.mk.injEq] at e
      rw [← e.2]
      exact UB.cons h.swap
    | whl c w =>
      simp only [qs] at e
      split at e
      · cases e
      · simp only [Option.some.injEq, Prod.mk.injEq] at e
        rw [← e.2]
        exact h.swap
    | drw x t => simp [qs] at e
    | cho x t => simp [qs] at e
    | cal x => simp [qs] at e
end K14
namespace K14
open PySem PySem.Spec PyProof.Rows L2 C8

/-! ### games -/
structure Frm where
  f : Addr
  dx : Addr
  bt : Addr
  b : List Sm
  pl : Nat
  u : Option Str
def uV : Option Str → V
  | none => .non
  | some x => .str x
structure GI where
  dx : Addr
  sp : Addr
  bd : Addr
  bg : Addr
def frO (K : PySem.W.Frag) (fr : Frm) : HO := .ins (He.ga K "Frame") fr.dx [("body", .ref fr.bt), ("place", .int (fr.pl : Int)), ("unit", uV fr.u)]
def gmO (K : PySem.W.Frag) (G : GI) (st : Nat) : HO := .ins (He.ga K "Playing") G.dx [("space", .ref G.sp), ("bodies", .ref G.bd), ("store", .int (st : Int)), ("begun", .ref G.bg)]
def fV (frs : List Frm) : List V := frs.map fun fr => V.ref fr.f
/-- a body of one of the units, or in one -/
def BOk (ns : NS) (us : List (Str × List Sm)) (b : List Sm) : Prop := ∃ (ah : List Str) (n l : Nat), OkL (wds ns) (szf ns) ah n l b ∧ cntL b ≤ 20 ∧ ∀ v ∈ ah, ∃ c, us.lookup v = some c
/-- a game at g; what Hb knows stands -/
structure Gm (K : PySem.W.Frag) (Hb H : Hp) (g : Addr) (G : GI) (ns : NS) (us : List (Str × List Sm)) (st : Nat) (frs : List Frm) : Prop where
  ex : Ex Hb H
  ob : H g = some (gmO K G st)
  hg : Hb g = none
  sp : SpaceAt K Hb G.sp ns
  bg : H G.bg = some (.lst (fV frs))
  hb : Hb G.bg = none
  bd : ∃ kvs, H G.bd = some (.dK kvs) ∧ ∀ v c, us.lookup v = some c → BOk ns us c ∧ ∃ bt, valV kvs (.inr v) = some (.ref bt) ∧ RepB K Hb c bt
  ok : ∀ fr ∈ frs, BOk ns us fr.b
  fr : ∀ fr ∈ frs, H fr.f = some (frO K fr) ∧ RepB K Hb fr.b fr.bt ∧ Hb fr.f = none
  nd : (frs.map (·.f)).Nodup
section
variable {K : PySem.W.Frag} {Hb H H' : Hp} {g : Addr} {G : GI} {ns : NS} {us : List (Str × List Sm)} {st : Nat} {frs : List Frm}
theorem Gm.grow (M : Gm K Hb H g G ns us st frs) (e : Ex H H') : Gm K Hb H' g G ns us st frs :=
  ⟨M.ex.trans e, e _ _ M.ob, M.hg, M.sp, e _ _ M.bg, M.hb, (let ⟨k, h1, h2⟩ := M.bd; ⟨k, e _ _ h1, h2⟩), M.ok, fun fr h => ⟨e _ _ (M.fr fr h).1, (M.fr fr h).2⟩, M.nd⟩
theorem fr_ne_g {fr : Frm} (M : Gm K Hb H g G ns us st frs) (h : fr ∈ frs) : fr.f ≠ g := ne_of (M.fr fr h).1 M.ob (fun z => by
  simp only [frO, gmO, HO.ins.injEq] at z
  obtain ⟨_, _, z⟩ := z
  cases z)
theorem fr_ne_b {fr : Frm} (M : Gm K Hb H g G ns us st frs) (h : fr ∈ frs) : fr.f ≠ G.bg := ne_of (M.fr fr h).1 M.bg (fun z => by cases z)
theorem g_ne_b (M : Gm K Hb H g G ns us st frs) : g ≠ G.bg := ne_of M.ob M.bg (fun z => by cases z)
theorem Gm.bdu (M : Gm K Hb H g G ns us st frs) {a : Addr} {o o' : HO} (h : H a = some o) (hn : ∀ k, o ≠ .dK k) : ∃ kvs, upd H a o' G.bd = some (.dK kvs) ∧ ∀ v c, us.lookup v = some c → BOk ns us c ∧ ∃ bt, valV kvs (.inr v) = some (.ref bt) ∧ RepB K Hb c bt := by
  obtain ⟨k, h1, h2⟩ := M.bd
  refine ⟨k, ?_, h2⟩
  rw [upd_ne (fun z => ?_)]
  · exact h1
  · rw [z, h] at h1
    cases h1
    exact hn k rfl
/-- the store anew -/
theorem Gm.store (M : Gm K Hb H g G ns us st frs) (st' : Nat) : Gm K Hb (upd H g (gmO K G st')) g G ns us st' frs :=
  ⟨Evl.Ex.mut M.ex M.hg, upd_same, M.hg, M.sp, by rw [upd_ne (g_ne_b M).symm]; exact M.bg, M.hb, M.bdu M.ob (fun k z => by cases z), M.ok, fun fr h => ⟨by rw [upd_ne (fr_ne_g M h)]; exact (M.fr fr h).1, (M.fr fr h).2⟩, M.nd⟩
/-- one more frame -/
theorem Gm.push (M : Gm K Hb H g G ns us st frs) {fr : Frm} (h1 : H fr.f = some (frO K fr)) (h2 : RepB K Hb fr.b fr.bt) (h3 : Hb fr.f = none) (h4 : ∀ x ∈ frs, x.f ≠ fr.f) (h5 : BOk ns us fr.b) : Gm K Hb (upd H G.bg (.lst (fV (frs ++ [fr])))) g G ns us st (frs ++ [fr]) := by
  have nb : fr.f ≠ G.bg := ne_of h1 M.bg (fun z => by cases z)
  refine ⟨Evl.Ex.mut M.ex M.hb, by rw [upd_ne (g_ne_b M)]; exact M.ob, M.hg, M.sp, upd_same, M.hb, M.bdu M.bg (fun k z => by cases z), fun x hx => ?_, fun x hx => ?_, ?_⟩
  · rcases List.mem_append.mp hx with hx | hx
    · exact M.ok x hx
    · cases (List.mem_singleton.mp hx); exact h5
  · rcases List.mem_append.mp hx with hx | hx
    · exact ⟨by rw [upd_ne (fr_ne_b M hx)]; exact (M.fr x hx).1, (M.fr x hx).2⟩
    · cases (List.mem_singleton.mp hx)
      exact ⟨by rw [upd_ne nb]; exact h1, h2, h3⟩
  · rw [List.map_append]
    refine List.nodup_append.mpr ⟨M.nd, by simp, fun a ha b hb => ?_⟩
    obtain ⟨x, hx, rfl⟩ := List.mem_map.mp ha
    have : b = fr.f := by simpa using hb
    rw [this]
    exact h4 x hx
/-- one frame less -/
theorem Gm.pop {fr : Frm} (M : Gm K Hb H g G ns us st (frs ++ [fr])) : Gm K Hb (upd H G.bg (.lst (fV frs))) g G ns us st frs := by
  refine ⟨Evl.Ex.mut M.ex M.hb, by rw [upd_ne (g_ne_b M)]; exact M.ob, M.hg, M.sp, upd_same, M.hb, M.bdu M.bg (fun k z => by cases z), fun x hx => M.ok x (List.mem_append_left _ hx), fun x hx => ?_, ?_⟩
  · have hx' : x ∈ frs ++ [fr] := List.mem_append_left _ hx
    exact ⟨by rw [upd_ne (fr_ne_b M hx')]; exact (M.fr x hx').1, (M.fr x hx').2⟩
  · have := M.nd
    rw [List.map_append] at this
    exact (List.nodup_append.mp this).1
/-- the last frame's place -/
theorem Gm.place {fr : Frm} (M : Gm K Hb H g G ns us st (frs ++ [fr])) : Gm K Hb (upd H fr.f (frO K { fr with pl := fr.pl + 1 })) g G ns us st (frs ++ [{ fr with pl := fr.pl + 1 }]) := by
  have hm : fr ∈ frs ++ [fr] := List.mem_append_right _ (List.mem_singleton.mpr rfl)
  have F := M.fr fr hm
  refine ⟨Evl.Ex.mut M.ex F.2.2, by rw [upd_ne (fr_ne_g M hm).symm]; exact M.ob, M.hg, M.sp, ?_, M.hb, M.bdu F.1 (fun k z => by cases z), fun x hx => ?_, fun x hx => ?_, ?_⟩
  · rw [upd_ne (fr_ne_b M hm).symm]
    have := M.bg
    simp only [fV, List.map_append, List.map_cons, List.map_nil] at this ⊢
    exact this
  · rcases List.mem_append.mp hx with hx | hx
    · exact M.ok x (List.mem_append_left _ hx)
    · cases (List.mem_singleton.mp hx)
      exact M.ok fr hm
  · rcases List.mem_append.mp hx with hx | hx
    · have hx' : x ∈ frs ++ [fr] := List.mem_append_left _ hx
      have nd := M.nd
      rw [List.map_append] at nd
      have ne : x.f ≠ fr.f := (List.nodup_append.mp nd).2.2 x.f (List.mem_map_of_mem hx) fr.f (by simp)
      exact ⟨by rw [upd_ne ne]; exact (M.fr x hx').1, (M.fr x hx').2⟩
    · cases (List.mem_singleton.mp hx)
      exact ⟨upd_same, F.2⟩
  · have := M.nd
    simp only [List.map_append, List.map_cons, List.map_nil] at this ⊢
    exact this
/-- what is under way, the last first -/
def absF (frs : List Frm) : List Fr := (frs.map fun fr => (fr.u, fr.b.drop fr.pl)).reverse
theorem abs_snoc (frs : List Frm) (fr : Frm) : absF (frs ++ [fr]) = (fr.u, fr.b.drop fr.pl) :: absF frs := by simp [absF]
theorem abs_nil : absF [] = [] := rfl
theorem abs_len (frs : List Frm) : (absF frs).length = frs.length := by simp [absF]
theorem at_last {l : List Frm} {fr : Frm} : atI (fV (l ++ [fr])) (-1) = some (.ref fr.f) := by
  have hl : (fV (l ++ [fr])).length = l.length + 1 := by simp [fV]
  unfold atI
  rw [hl]
  unfold ixN
  rw [if_neg (by omega), if_pos (by omega)]
  show (fV (l ++ [fr]))[(-1 + ((l.length + 1 : Nat) : Int)).toNat]? = _
  have : (-1 + ((l.length + 1 : Nat) : Int)).toNat = l.length := by omega
  rw [this]
  simp [fV]
theorem ex_make {H : Hp} {x dx : Addr} {o1 o2 o3 : HO} (hx : H x = none) (hd : H dx = none) : Ex H (upd (upd (upd H dx o1) x o2) x o3) := fun a o ha => by
  rw [upd_ne (ne_of_none ha hx), upd_ne (ne_of_none ha hx), upd_ne (ne_of_none ha hd)]
  exact ha
theorem drop_at {b : List Sm} {n : Nat} {s : Sm} (h : b[n]? = some s) : b.drop n = s :: b.drop (n + 1) := by
  obtain ⟨hl, e⟩ := List.getElem?_eq_some_iff.mp h
  rw [List.drop_eq_getElem_cons hl, e]
end
section
variable {P : Program} {w : World} {K : PySem.W.Frag} {mg : Str → Option Value} {base : Heap} {ws : List Str}
abbrev N_Frame_init : List Str := ["self", "body", "unit"]
theorem sc_Frame_init : FnScope N_Frame_init ["self", "body", "unit"] (defScope (inClass (top 71) 0)) := ⟨rfl, rfl, rfl, by decide +kernel, rfl, by decide +kernel, by decide +kernel⟩
def spFrame (K : PySem.W.Frag) : Sp := fun vs H Q _ => ∃ (x dx bt : Addr) (u : V), vs = [.ref x, .ref bt, u] ∧ H x = some (.ins (He.ga K "Frame") dx []) ∧ Q .non (upd H x (.ins (He.ga K "Frame") dx [("body", .ref bt), ("place", .int 0), ("unit", u)]))
theorem fn_Frame_init (T : Txt K mg)  {fd : FuncData} (F : FunD K "__init__" "Frame.__init__" (defArgs (inClass (top 71) 0)) (defBody (inClass (top 71) 0)) (defScope (inClass (top 71) 0)) [] [] (He.ma K (He.ga K "Frame") "__init__") fd) : FnOk P w K mg base C8.CX0 1 (He.ma K (He.ga K "Frame") "__init__") fd ["self", "body", "unit"] (spFrame K) := by
  refine F.ok sc_Frame_init (fun vs H Q E h => by obtain ⟨_, _, _, _, rfl, _⟩ := h; rfl) (fun cdv A outer s H vs Q E hr h => ?_)
  have hu := hu_of hr
  refine ⟨_, PSs.nox (pss_cons (ps_fld (pv 0) (pv 1) rfl)
      (pss_cons (ps_fld (pv 0) pe_int rfl)
      (pss_one (ps_fld (pv 0) (pv 2) rfl)))), ?_⟩
  obtain ⟨x, dx, bt, u, rfl, hx, hQ⟩ := h
  refine ⟨_, rfl, _, rfl, x, _, dx, _, rfl, hx, T.cl_Frame, T.n_Frame_body, (by show 0 < 1000; decide), ?_⟩
  refine ⟨_, rfl, x, _, dx, _, rfl, upd_same, T.cl_Frame, T.n_Frame_place, (by show 1 < 1000; decide), ?_⟩
  refine ⟨_, rfl, _, rfl, x, _, dx, _, rfl, upd_same, T.cl_Frame, T.n_Frame_unit, (by show 2 < 1000; decide), ?_⟩
  rw [upd_upd, upd_upd]
  exact hQ
theorem ok_Frame_init (T : Txt K mg)  : Mak P w K mg base 1 "Frame" (He.ga K "Frame") (spFrame K) [] := by
  obtain ⟨fd, F⟩ := T.d_Frame_init
  exact ⟨_, fd, ["self", "body", "unit"], [], T.mk_Frame, fn_Frame_init T  F, T.g_Frame, F.bindsN fun _ _ _ _ _ _ us hl => match us, hl with | [_, _, _], _ => rfl, .nil⟩

abbrev N_Playing_begin : List Str := ["self", "body", "unit"]
theorem sc_Playing_begin : FnScope N_Playing_begin ["self", "body", "unit"] (defScope (inClass (top 72) 1)) := ⟨rfl, rfl, rfl, by decide +kernel, rfl, by decide +kernel, by decide +kernel⟩
def spBegin (K : PySem.W.Frag) : Sp := fun vs H Q _ => ∃ (g bt : Addr) (u : Option Str) (Hb : Hp) (G : GI) (ns : NS) (us : List (Str × List Sm)) (st : Nat) (frs : List Frm) (b : List Sm), vs = [.ref g, .ref bt, uV u] ∧ Gm K Hb H g G ns us st frs ∧ RepB K Hb b bt ∧ BOk ns us b ∧ frs.length ≤ 5000 ∧
  ∀ f dx H', Gm K Hb H' g G ns us st (frs ++ [⟨f, dx, bt, b, 0, u⟩]) → Q .non H'
theorem fn_Playing_begin (T : Txt K mg) (M_Frame : Mak P w K mg base 1 "Frame" (He.ga K "Frame") (spFrame K) []) {fd : FuncData} (F : FunD K "begin" "Playing.begin" (defArgs (inClass (top 72) 1)) (defBody (inClass (top 72) 1)) (defScope (inClass (top 72) 1)) [.non] [] (He.ma K (He.ga K "Playing") "begin") fd) : FnOk P w K mg base C8.CX0 3 (He.ma K (He.ga K "Playing") "begin") fd ["self", "body", "unit"] (spBegin K) := by
  refine F.ok sc_Playing_begin (fun vs H Q E h => by obtain ⟨_, _, _, _, _, _, _, _, _, _, rfl, _⟩ := h; rfl) (fun cdv A outer s H vs Q E hr h => ?_)
  have hu := hu_of hr
  refine ⟨_, PSs.nox (pss_one (ps_expr (pe_bm PySem.F.plainAttrs_list PySem.F.slot_list_append PySem.F.type_list_append mt_append (pe_fld (pv 0) rfl) (pa_cons (pe_mk M_Frame hr (by omega) rfl (pa_cons (pv 1) (pa_cons (pv 2) pa_nil))) pa_nil)))), ?_⟩
  obtain ⟨g, bt, u, Hb, G, ns, us, st, frs, b, rfl, M, hB, hBo, hl, hQ⟩ := h
  refine ⟨_, rfl, g, _, _, _, _, rfl, M.ob, T.cl_Playing, T.n_Playing_begun, rfl, .inl ⟨rfl, _, SqL.of M.bg⟩, _, rfl, _, rfl, fun x dx hx hd hne => ?_⟩
  refine ⟨x, dx, bt, uV u, rfl, upd_same, rfl, ?_⟩
  have e2 : Ex H (upd (upd (upd H dx (.own x)) x (.ins (He.ga K "Frame") dx [])) x (.ins (He.ga K "Frame") dx [("body", .ref bt), ("place", .int 0), ("unit", uV u)])) := ex_make hx hd
  have M2 := M.grow e2
  refine ⟨G.bg, _, _, rfl, rfl, M2.bg, ?_, ?_⟩
  · show (fV frs).length < _
    unfold fV
    rw [List.length_map]
    exact Nat.lt_of_le_of_lt hl (by decide)
  have M3 := M2.push (fr := ⟨x, dx, bt, b, 0, u⟩) upd_same hB (Evl.fresh_back M.ex hx) (fun y hy => ne_of_none (M.fr y hy).1 hx) hBo
  have ef : fV frs ++ [V.ref x] = fV (frs ++ [⟨x, dx, bt, b, 0, u⟩]) := by simp [fV]
  rw [ef]
  exact hQ x dx _ M3
theorem ok_Playing_begin (T : Txt K mg) (M_Frame : Mak P w K mg base 1 "Frame" (He.ga K "Frame") (spFrame K) []) : Met P w K mg base 3 (He.ga K "Playing") "begin" (spBegin K) [] := by
  obtain ⟨fd, F⟩ := T.d_Playing_begin
  obtain ⟨ds, hd, hb⟩ := F.binds1 (ps := ["self", "body", "unit"]) 3 1 (by simp) (by rfl) (fun T0 kV doc pm an cdv ct us its h1 h2 => match us, its, h1, h2 with | [_, _, _], [_], _, _ => ⟨_, rfl, rfl⟩)
  exact ⟨_, fd, ["self", "body", "unit"], ds, T.cl_Playing, T.m_Playing_begin, fn_Playing_begin T M_Frame F, hb, hd⟩
theorem okD_Playing_begin (T : Txt K mg) (M_Frame : Mak P w K mg base 1 "Frame" (He.ga K "Frame") (spFrame K) []) : Met P w K mg base 3 (He.ga K "Playing") "begin" (spBegin K) [.non] := by
  obtain ⟨fd, F⟩ := T.d_Playing_begin
  obtain ⟨ds, hd, hb⟩ := F.binds1 (ps := ["self", "body", "unit"]) 2 0 (by simp) (by rfl) (fun T0 kV doc pm an cdv ct us its h1 h2 => match us, its, h1, h2 with | [_, _], [_], _, _ => ⟨_, rfl, rfl⟩)
  exact ⟨_, fd, ["self", "body", "unit"], ds, T.cl_Playing, T.m_Playing_begin, fn_Playing_begin T M_Frame F, hb, hd⟩

abbrev N_Playing_begin_behind : List Str := ["self", "body", "unit"]
theorem sc_Playing_begin_behind : FnScope N_Playing_begin_behind ["self", "body", "unit"] (defScope (inClass (top 72) 2)) := ⟨rfl, rfl, rfl, by decide +kernel, rfl, by decide +kernel, by decide +kernel⟩
def spBehind (K : PySem.W.Frag) : Sp := fun vs H Q _ => ∃ (g bt : Addr) (u : Option Str) (Hb : Hp) (G : GI) (ns : NS) (us : List (Str × List Sm)) (st : Nat) (frs : List Frm) (fr : Frm) (b : List Sm), vs = [.ref g, .ref bt, uV u] ∧ Gm K Hb H g G ns us st (frs ++ [fr]) ∧ RepB K Hb b bt ∧ BOk ns us b ∧ frs.length ≤ 4000 ∧
  ∀ f dx H', Gm K Hb H' g G ns us st (frs ++ [{ fr with pl := fr.pl + 1 }] ++ [⟨f, dx, bt, b, 0, u⟩]) → Q .non H'
theorem fn_Playing_begin_behind (T : Txt K mg) (M_begin : Met P w K mg base 3 (He.ga K "Playing") "begin" (spBegin K) []) {fd : FuncData} (F : FunD K "begin_behind" "Playing.begin_behind" (defArgs (inClass (top 72) 2)) (defBody (inClass (top 72) 2)) (defScope (inClass (top 72) 2)) [.non] [] (He.ma K (He.ga K "Playing") "begin_behind") fd) : FnOk P w K mg base C8.CX0 4 (He.ma K (He.ga K "Playing") "begin_behind") fd ["self", "body", "unit"] (spBehind K) := by
  refine F.ok sc_Playing_begin_behind (fun vs H Q E h => by obtain ⟨_, _, _, _, _, _, _, _, _, _, _, rfl, _⟩ := h; rfl) (fun cdv A outer s H vs Q E hr h => ?_)
  have hu := hu_of hr
  refine ⟨_, PSs.nox (pss_cons (ps_fldaug (pe_ix ix_list (pe_fld (pv 0) rfl) (pe_un un_neg pe_int) (fun _ _ => rfl)) pe_int in_add)
      (pss_one (ps_expr (pe_mt M_begin hr (by omega) (pv 0) (pa_cons (pv 1) (pa_cons (pv 2) pa_nil)))))), ?_⟩
  obtain ⟨g, bt, u, Hb, G, ns, us, st, frs, fr, b, rfl, M, hB, hBo, hl, hQ⟩ := h
  refine ⟨_, rfl, g, _, _, _, _, rfl, M.ob, T.cl_Playing, T.n_Playing_begun, rfl, _, rfl, _, _, _, _, rfl, rfl, SqL.of M.bg, at_last, fr.f, _, _, _, _, rfl, (M.fr fr (by simp)).1, T.cl_Frame, T.n_Frame_place, rfl, _, _, rfl, rfl, _, _, (M.fr fr (by simp)).1, (by show 3 < 1000; decide), ?_⟩
  have M2 := M.place
  refine ⟨_, rfl, g, _, _, rfl, M2.ob, rfl, _, rfl, _, rfl, g, bt, u, Hb, G, ns, us, st, _, b, rfl, M2, hB, hBo, by rw [List.length_append]; simp; omega, fun f dx H1 M3 => hQ f dx H1 M3⟩
theorem ok_Playing_begin_behind (T : Txt K mg) (M_begin : Met P w K mg base 3 (He.ga K "Playing") "begin" (spBegin K) []) : Met P w K mg base 4 (He.ga K "Playing") "begin_behind" (spBehind K) [] := by
  obtain ⟨fd, F⟩ := T.d_Playing_begin_behind
  obtain ⟨ds, hd, hb⟩ := F.binds1 (ps := ["self", "body", "unit"]) 3 1 (by simp) (by rfl) (fun T0 kV doc pm an cdv ct us its h1 h2 => match us, its, h1, h2 with | [_, _, _], [_], _, _ => ⟨_, rfl, rfl⟩)
  exact ⟨_, fd, ["self", "body", "unit"], ds, T.cl_Playing, T.m_Playing_begin_behind, fn_Playing_begin_behind T M_begin F, hb, hd⟩
theorem okD_Playing_begin_behind (T : Txt K mg) (M_begin : Met P w K mg base 3 (He.ga K "Playing") "begin" (spBegin K) []) : Met P w K mg base 4 (He.ga K "Playing") "begin_behind" (spBehind K) [.non] := by
  obtain ⟨fd, F⟩ := T.d_Playing_begin_behind
  obtain ⟨ds, hd, hb⟩ := F.binds1 (ps := ["self", "body", "unit"]) 2 0 (by simp) (by rfl) (fun T0 kV doc pm an cdv ct us its h1 h2 => match us, its, h1, h2 with | [_, _], [_], _, _ => ⟨_, rfl, rfl⟩)
  exact ⟨_, fd, ["self", "body", "unit"], ds, T.cl_Playing, T.m_Playing_begin_behind, fn_Playing_begin_behind T M_begin F, hb, hd⟩

abbrev N_Playing_set_value : List Str := ["self", "name", "value"]
theorem sc_Playing_set_value : FnScope N_Playing_set_value ["self", "name", "value"] (defScope (inClass (top 72) 3)) := ⟨rfl, rfl, rfl, by decide +kernel, rfl, by decide +kernel, by decide +kernel⟩
def spSetV (K : PySem.W.Frag) : Sp := fun vs H Q _ => ∃ (g : Addr) (x : Str) (v : Int) (Hb : Hp) (G : GI) (ns : NS) (us : List (Str × List Sm)) (st : Nat) (frs : List Frm) (fr : Frm), vs = [.ref g, .str x, .int v] ∧ Gm K Hb H g G ns us st (frs ++ [fr]) ∧ NsOk ns ∧ st < prodN (szs ns) ∧ x ∈ wds ns ∧
  ∀ H', Gm K Hb H' g G ns us (setN ns st x v) (frs ++ [{ fr with pl := fr.pl + 1 }]) → Q .non H'
theorem fn_Playing_set_value (T : Txt K mg) (M_with_value : Met P w K mg base 5 (He.ga K "Space") "with_value" (spWithValue K) []) {fd : FuncData} (F : FunD K "set_value" "Playing.set_value" (defArgs (inClass (top 72) 3)) (defBody (inClass (top 72) 3)) (defScope (inClass (top 72) 3)) [] [] (He.ma K (He.ga K "Playing") "set_value") fd) : FnOk P w K mg base C8.CX0 6 (He.ma K (He.ga K "Playing") "set_value") fd ["self", "name", "value"] (spSetV K) := by
  refine F.ok sc_Playing_set_value (fun vs H Q E h => by obtain ⟨_, _, _, _, _, _, _, _, _, _, rfl, _⟩ := h; rfl) (fun cdv A outer s H vs Q E hr h => ?_)
  have hu := hu_of hr
  refine ⟨_, PSs.nox (pss_cons (ps_fld (pv 0) (pe_mt M_with_value hr (by omega) (pe_fld (pv 0) rfl) (pa_cons (pe_fld (pv 0) rfl) (pa_cons (pv 1) (pa_cons (pv 2) pa_nil)))) rfl)
      (pss_one (ps_fldaug (pe_ix ix_list (pe_fld (pv 0) rfl) (pe_un un_neg pe_int) (fun _ _ => rfl)) pe_int in_add))), ?_⟩
  obtain ⟨g, x, v, Hb, G, ns, us, st, frs, fr, rfl, M, hok, hst, hx, hQ⟩ := h
  obtain ⟨n, hn, rfl⟩ := ix_at hx
  obtain ⟨sdx, t, o, ps, hsx, ht, ho, hT⟩ := M.sp.mono M.ex
  refine ⟨_, rfl, g, _, _, _, _, rfl, M.ob, T.cl_Playing, T.n_Playing_space, rfl, G.sp, sdx, _, rfl, hsx, rfl, ?_⟩
  refine ⟨_, rfl, g, _, _, _, _, rfl, M.ob, T.cl_Playing, T.n_Playing_store, rfl, _, rfl, _, rfl, ?_⟩
  refine ⟨G.sp, ns, st, _, v, n, rfl, M.sp.mono M.ex, hok, hst, hn, fun H1 e1 => ?_⟩
  have M1 := M.grow e1
  rw [← setN_eq hn]
  refine ⟨_, rfl, g, _, _, _, rfl, M1.ob, T.cl_Playing, T.n_Playing_store, (by show 4 < 1000; decide), ?_⟩
  have M := M1.store (setN ns st n.1 v)
  have eo : (HO.ins (He.ga K "Playing") G.dx (putF "store" (.int ((setN ns st n.1 v : Nat) : Int)) [("space", .ref G.sp), ("bodies", .ref G.bd), ("store", .int (st : Int)), ("begun", .ref G.bg)])) = gmO K G (setN ns st n.1 v) := by rfl
  rw [eo]
  generalize upd H1 g (gmO K G (setN ns st n.1 v)) = H2 at M ⊢
  refine ⟨_, rfl, g, _, _, _, _, rfl, M.ob, T.cl_Playing, T.n_Playing_begun, rfl, _, rfl, _, _, _, _, rfl, rfl, SqL.of M.bg, at_last, fr.f, _, _, _, _, rfl, (M.fr fr (by simp)).1, T.cl_Frame, T.n_Frame_place, rfl, _, _, rfl, rfl, _, _, (M.fr fr (by simp)).1, (by show 3 < 1000; decide), ?_⟩
  exact hQ _ M.place
theorem ok_Playing_set_value (T : Txt K mg) (M_with_value : Met P w K mg base 5 (He.ga K "Space") "with_value" (spWithValue K) []) : Met P w K mg base 6 (He.ga K "Playing") "set_value" (spSetV K) [] := by
  obtain ⟨fd, F⟩ := T.d_Playing_set_value
  exact ⟨_, fd, ["self", "name", "value"], [], T.cl_Playing, T.m_Playing_set_value, fn_Playing_set_value T M_with_value F, F.bindsN fun _ _ _ _ _ _ us hl => match us, hl with | [_, _, _], _ => rfl, .nil⟩

abbrev N_Playing_passes : List Str := ["self", "statement", "kind", "values"]
theorem sc_Playing_passes : FnScope N_Playing_passes ["self", "statement"] (defScope (inClass (top 72) 5)) := ⟨rfl, rfl, rfl, by decide +kernel, rfl, by decide +kernel, by decide +kernel⟩
def spPasses (K : PySem.W.Frag) (ws : List Str) : Sp := fun vs H Q _ => ∃ (g : Addr) (u : V) (Hb : Hp) (G : GI) (ns : NS) (us : List (Str × List Sm)) (st : Nat) (frs : List Frm) (fr : Frm) (s : Sm), vs = [.ref g, u] ∧ Gm K Hb H g G ns us st (frs ++ [fr]) ∧ NsOk ns ∧ wds ns = ws ∧ st < prodN (szs ns) ∧ fr.b[fr.pl]? = some s ∧ RepS K Hb s u ∧ frs.length ≤ 3000 ∧
  match qs ns st (absF (frs ++ [fr])) with
  | some p => ∀ frs' H', Gm K Hb H' g G ns us p.1 frs' → absF frs' = p.2 → p.1 < prodN (szs ns) → frs'.length ≤ frs.length + 2 → Q (.bl true) H'
  | none => ∀ H', Gm K Hb H' g G ns us st (frs ++ [fr]) → Q (.bl false) H'
theorem fn_Playing_passes (T : Txt K mg) (M_values_of : Met P w K mg base 4 (He.ga K "Space") "values_of" (spValuesOf K) []) (M_set_value : Met P w K mg base 6 (He.ga K "Playing") "set_value" (spSetV K) []) (MD_begin_behind : Met P w K mg base 4 (He.ga K "Playing") "begin_behind" (spBehind K) [.non]) (C_number_of : ∀ n, Cal P w K mg base (n + 1) "number_of" (spNum K ws n) []) (C_holds : ∀ n, Cal P w K mg base (n + 1) "holds" (spHolds K ws n) []) {fd : FuncData} (F : FunD K "passes" "Playing.passes" (defArgs (inClass (top 72) 5)) (defBody (inClass (top 72) 5)) (defScope (inClass (top 72) 5)) [] [] (He.ma K (He.ga K "Playing") "passes") fd) : FnOk P w K mg base C8.CX0 8 (He.ma K (He.ga K "Playing") "passes") fd ["self", "statement"] (spPasses K ws) := by
  refine F.ok sc_Playing_passes (fun vs H Q E h => by obtain ⟨_, _, _, _, _, _, _, _, _, _, rfl, _⟩ := h; rfl) (fun cdv A outer s H vs Q E hr h => ?_)
  have hu := hu_of hr
  refine ⟨_, PSs.nox (pss_cons (ps_set (i := 2) sc_Playing_passes.nd rfl (Or.inl rfl) (pe_ix ix_tup (pv 1) pe_int (fun _ _ => rfl)))
      (pss_cons (ps_set (i := 3) sc_Playing_passes.nd rfl (Or.inl rfl) (pe_mt M_values_of hr (by omega) (pe_fld (pv 0) rfl) (pa_cons (pe_fld (pv 0) rfl) pa_nil)))
      (pss_cons (ps_if (pt_cmpR op_eq (pv 2) pe_str (nomark _)) (pss_one (ps_expr (pe_mt M_set_value hr (by omega) (pv 0) (pa_cons (pe_ix ix_tup (pv 1) pe_int (fun _ _ => rfl)) (pa_cons (pe_c (C_number_of 6) hr (by omega) rfl (pa_cons (pe_ix ix_tup (pv 1) pe_int (fun _ _ => rfl)) (pa_cons (pv 3) pa_nil))) pa_nil))))) (pss_one (ps_if (pt_cmpR op_eq (pv 2) pe_str (nomark _)) (pss_one (ps_expr (pe_mt MD_begin_behind hr (by omega) (pv 0) (pa_cons (pe_ifExp (pt_val (pe_c (C_holds 6) hr (by omega) rfl (pa_cons (pe_ix ix_tup (pv 1) pe_int (fun _ _ => rfl)) (pa_cons (pv 3) pa_nil)))) (pe_ix ix_tup (pv 1) pe_int (fun _ _ => rfl)) (pe_ix ix_tup (pv 1) pe_int (fun _ _ => rfl))) pa_nil)))) (pss_one (ps_if (PW.pt (pw_and (pt_cmpR op_eq (pv 2) pe_str (nomark _)) (pw_and1 (pt_not (pt_val (pe_c (C_holds 6) hr (by omega) rfl (pa_cons (pe_ix ix_tup (pv 1) pe_int (fun _ _ => rfl)) (pa_cons (pv 3) pa_nil)))))))) (pss_one (ps_fldaug (pe_ix ix_list (pe_fld (pv 0) rfl) (pe_un un_neg pe_int) (fun _ _ => rfl)) pe_int in_add)) (pss_one (ps_ret pe_bl)))))))
      (pss_one (ps_ret pe_bl))))), ?_⟩
  obtain ⟨g, u, Hb, G, ns, us, st, frs, fr, s, rfl, M, hok, rfl, hst, hs, hR, hl, hQ⟩ := h
  obtain ⟨ah, n, l, hOb, hcb, hah⟩ := M.ok fr (by simp)
  have hO := hOb.get (List.mem_of_getElem? hs)
  have hcs := cntL_mem (List.mem_of_getElem? hs)
  have habs : absF (frs ++ [fr]) = (fr.u, s :: fr.b.drop (fr.pl + 1)) :: absF frs := by rw [abs_snoc, drop_at hs]
  rw [habs] at hQ
  cases s with
  | set x e =>
    simp only [RepS] at hR
    obtain ⟨p, u1, rfl, hp, h1⟩ := hR
    have hp := Evl.ex_t M.ex hp
    have h1 := h1.mono M.ex
    simp only [OkS] at hO
    simp only [qs] at hQ
    obtain ⟨sdx, t0, o, ps, hsx, ht, ho, hT⟩ := M.sp.mono M.ex
    refine ⟨_, rfl, p, _, 0, _, rfl, rfl, hp, rfl, ?_⟩
    refine ⟨_, rfl, g, _, _, _, _, rfl, M.ob, T.cl_Playing, T.n_Playing_space, rfl, G.sp, sdx, _, rfl, hsx, rfl, _, rfl, g, _, _, _, _, rfl, M.ob, T.cl_Playing, T.n_Playing_store, rfl, ?_⟩
    refine ⟨G.sp, ns, st, rfl, M.sp.mono M.ex, hok, hst, fun d H1 hd0 e1 hd => ?_⟩
    have M1 := M.grow e1
    have hE := env_ok (K := K) hok hd
    have hp := Evl.ex_t e1 hp
    have h1 := h1.mono e1
    refine ⟨_, rfl, rfl, _, rfl, ?_⟩
    refine ⟨_, rfl, g, _, _, rfl, M1.ob, rfl, _, rfl, p, _, 1, _, rfl, rfl, hp, rfl, _, rfl, p, _, 2, _, rfl, rfl, hp, rfl, _, rfl, ?_⟩
    refine ⟨e, u1, d, _, rfl, h1, hO.2, by decide, hE, ?_⟩
    refine ⟨g, x, _, Hb, G, ns, us, st, frs, fr, rfl, M1, hok, hst, hO.1, fun H2 M2 => ?_⟩
    exact hQ _ H2 M2 (abs_snoc _ _) (setN_lt hok hst hO.1 _) (by rw [List.length_append]; simp)
  | iff c a b =>
    simp only [RepS] at hR
    obtain ⟨p, u1, ba, bb, as, bs, rfl, hp, h1, h2, h3, h4, h5⟩ := hR
    have hp := Evl.ex_t M.ex hp
    have h1 := h1.mono M.ex
    cases n with
    | zero => simp [OkS] at hO
    | succ n =>
    simp only [OkS] at hO
    simp only [qs] at hQ
    obtain ⟨sdx, t0, o, ps, hsx, ht, ho, hT⟩ := M.sp.mono M.ex
    refine ⟨_, rfl, p, _, 0, _, rfl, rfl, hp, rfl, ?_⟩
    refine ⟨_, rfl, g, _, _, _, _, rfl, M.ob, T.cl_Playing, T.n_Playing_space, rfl, G.sp, sdx, _, rfl, hsx, rfl, _, rfl, g, _, _, _, _, rfl, M.ob, T.cl_Playing, T.n_Playing_store, rfl, ?_⟩
    refine ⟨G.sp, ns, st, rfl, M.sp.mono M.ex, hok, hst, fun d H1 hd0 e1 hd => ?_⟩
    have M1 := M.grow e1
    have hE := env_ok (K := K) hok hd
    have hp := Evl.ex_t e1 hp
    have h1 := h1.mono e1
    refine ⟨_, rfl, rfl, _, rfl, ?_⟩
    refine ⟨_, rfl, rfl, _, rfl, ?_⟩
    refine ⟨_, rfl, g, _, _, rfl, M1.ob, rfl, _, rfl, p, _, 1, _, rfl, rfl, hp, rfl, _, rfl, ?_⟩
    refine ⟨c, u1, d, _, rfl, h1, hO.1, by decide, hE, _, rfl, ?_⟩
    cases hc : hdT (envN ns st) c with
    | true =>
      rw [hc, if_pos rfl] at hQ
      refine iteT ⟨_, rfl, p, _, 2, _, rfl, rfl, hp, rfl, ?_⟩
      refine ⟨g, ba, none, Hb, G, ns, us, st, frs, fr, a, rfl, M1, ⟨as, h2, h4⟩, ⟨ah, n, l, hO.2.1, by simp only [cntS] at hcs; omega, hah⟩, by omega, fun f dx H2 M2 => ?_⟩
      refine hQ _ H2 M2 ?_ hst (by simp)
      rw [abs_snoc, abs_snoc]
      rfl
    | false =>
      rw [hc, if_neg Bool.false_ne_true] at hQ
      refine iteF ⟨_, rfl, p, _, 3, _, rfl, rfl, hp, rfl, ?_⟩
      refine ⟨g, bb, none, Hb, G, ns, us, st, frs, fr, b, rfl, M1, ⟨bs, h3, h5⟩, ⟨ah, n, l, hO.2.2, by simp only [cntS] at hcs; omega, hah⟩, by omega, fun f dx H2 M2 => ?_⟩
      refine hQ _ H2 M2 ?_ hst (by simp)
      rw [abs_snoc, abs_snoc]
      rfl
  | whl c b =>
    simp only [RepS] at hR
    obtain ⟨p, u1, bb, bs, rfl, hp, h1, h2, h3⟩ := hR
    have hp := Evl.ex_t M.ex hp
    have h1 := h1.mono M.ex
    have hX1 : IsC (wds ns) 6 c := by
      cases n with
      | zero => cases l <;> simp [OkS] at hO
      | succ n =>
      cases l with
      | zero => simp [OkS] at hO
      | succ l =>
      simp only [OkS] at hO
      exact hO.1
    simp only [qs] at hQ
    obtain ⟨sdx, t0, o, ps, hsx, ht, ho, hT⟩ := M.sp.mono M.ex
    refine ⟨_, rfl, p, _, 0, _, rfl, rfl, hp, rfl, ?_⟩
    refine ⟨_, rfl, g, _, _, _, _, rfl, M.ob, T.cl_Playing, T.n_Playing_space, rfl, G.sp, sdx, _, rfl, hsx, rfl, _, rfl, g, _, _, _, _, rfl, M.ob, T.cl_Playing, T.n_Playing_store, rfl, ?_⟩
    refine ⟨G.sp, ns, st, rfl, M.sp.mono M.ex, hok, hst, fun d H1 hd0 e1 hd => ?_⟩
    have M1 := M.grow e1
    have hE := env_ok (K := K) hok hd
    have hp := Evl.ex_t e1 hp
    have h1 := h1.mono e1
    refine ⟨_, rfl, rfl, _, rfl, ?_⟩
    refine ⟨_, rfl, rfl, _, rfl, ?_⟩
    refine ⟨_, rfl, rfl, _, rfl, ?_⟩
    refine ⟨_, rfl, p, _, 1, _, rfl, rfl, hp, rfl, _, rfl, ?_⟩
    refine ⟨c, u1, d, _, rfl, h1, hX1, by decide, hE, _, rfl, ?_⟩
    cases hc : hdT (envN ns st) c with
    | true =>
      rw [hc, if_pos rfl] at hQ
      refine iteF ?_
      exact hQ H1 M1
    | false =>
      rw [hc, if_neg Bool.false_ne_true] at hQ
      refine iteT ?_
      have M := M1
      refine ⟨_, rfl, g, _, _, _, _, rfl, M.ob, T.cl_Playing, T.n_Playing_begun, rfl, _, rfl, _, _, _, _, rfl, rfl, SqL.of M.bg, at_last, fr.f, _, _, _, _, rfl, (M.fr fr (by simp)).1, T.cl_Frame, T.n_Frame_place, rfl, _, _, rfl, rfl, _, _, (M.fr fr (by simp)).1, (by show 3 < 1000; decide), ?_⟩
      refine hQ _ _ M.place (abs_snoc _ _) hst (by rw [List.length_append]; simp)
  | drw x e =>
    simp only [RepS] at hR
    obtain ⟨p, q0, ps0, rfl, hp, h1⟩ := hR
    have hp := Evl.ex_t M.ex hp
    rw [show qs ns st ((fr.u, Sm.drw x e :: fr.b.drop (fr.pl + 1)) :: absF frs) = none by simp [qs]] at hQ
    obtain ⟨sdx, t0, o, ps, hsx, ht, ho, hT⟩ := M.sp.mono M.ex
    refine ⟨_, rfl, p, _, 0, _, rfl, rfl, hp, rfl, ?_⟩
    refine ⟨_, rfl, g, _, _, _, _, rfl, M.ob, T.cl_Playing, T.n_Playing_space, rfl, G.sp, sdx, _, rfl, hsx, rfl, _, rfl, g, _, _, _, _, rfl, M.ob, T.cl_Playing, T.n_Playing_store, rfl, ?_⟩
    refine ⟨G.sp, ns, st, rfl, M.sp.mono M.ex, hok, hst, fun d H1 hd0 e1 hd => ?_⟩
    have M1 := M.grow e1
    refine ⟨_, rfl, rfl, _, rfl, ?_⟩
    refine ⟨_, rfl, rfl, _, rfl, ?_⟩
    refine ⟨_, rfl, rfl, _, rfl, ?_⟩
    exact hQ H1 M1
  | cho ls bs =>
    simp only [RepS] at hR
    obtain ⟨p, q0, ps0, rfl, hp, h1⟩ := hR
    have hp := Evl.ex_t M.ex hp
    rw [show qs ns st ((fr.u, Sm.cho ls bs :: fr.b.drop (fr.pl + 1)) :: absF frs) = none by simp [qs]] at hQ
    obtain ⟨sdx, t0, o, ps, hsx, ht, ho, hT⟩ := M.sp.mono M.ex
    refine ⟨_, rfl, p, _, 0, _, rfl, rfl, hp, rfl, ?_⟩
    refine ⟨_, rfl, g, _, _, _, _, rfl, M.ob, T.cl_Playing, T.n_Playing_space, rfl, G.sp, sdx, _, rfl, hsx, rfl, _, rfl, g, _, _, _, _, rfl, M.ob, T.cl_Playing, T.n_Playing_store, rfl, ?_⟩
    refine ⟨G.sp, ns, st, rfl, M.sp.mono M.ex, hok, hst, fun d H1 hd0 e1 hd => ?_⟩
    have M1 := M.grow e1
    refine ⟨_, rfl, rfl, _, rfl, ?_⟩
    refine ⟨_, rfl, rfl, _, rfl, ?_⟩
    refine ⟨_, rfl, rfl, _, rfl, ?_⟩
    exact hQ H1 M1
  | cal x =>
    simp only [RepS] at hR
    obtain ⟨p, rfl, hp⟩ := hR
    have hp := Evl.ex_t M.ex hp
    rw [show qs ns st ((fr.u, Sm.cal x :: fr.b.drop (fr.pl + 1)) :: absF frs) = none by simp [qs]] at hQ
    obtain ⟨sdx, t0, o, ps, hsx, ht, ho, hT⟩ := M.sp.mono M.ex
    refine ⟨_, rfl, p, _, 0, _, rfl, rfl, hp, rfl, ?_⟩
    refine ⟨_, rfl, g, _, _, _, _, rfl, M.ob, T.cl_Playing, T.n_Playing_space, rfl, G.sp, sdx, _, rfl, hsx, rfl, _, rfl, g, _, _, _, _, rfl, M.ob, T.cl_Playing, T.n_Playing_store, rfl, ?_⟩
    refine ⟨G.sp, ns, st, rfl, M.sp.mono M.ex, hok, hst, fun d H1 hd0 e1 hd => ?_⟩
    have M1 := M.grow e1
    refine ⟨_, rfl, rfl, _, rfl, ?_⟩
    refine ⟨_, rfl, rfl, _, rfl, ?_⟩
    refine ⟨_, rfl, rfl, _, rfl, ?_⟩
    exact hQ H1 M1
theorem ok_Playing_passes (T : Txt K mg) (M_values_of : Met P w K mg base 4 (He.ga K "Space") "values_of" (spValuesOf K) []) (M_set_value : Met P w K mg base 6 (He.ga K "Playing") "set_value" (spSetV K) []) (MD_begin_behind : Met P w K mg base 4 (He.ga K "Playing") "begin_behind" (spBehind K) [.non]) (C_number_of : ∀ n, Cal P w K mg base (n + 1) "number_of" (spNum K ws n) []) (C_holds : ∀ n, Cal P w K mg base (n + 1) "holds" (spHolds K ws n) []) : Met P w K mg base 8 (He.ga K "Playing") "passes" (spPasses K ws) [] := by
  obtain ⟨fd, F⟩ := T.d_Playing_passes
  exact ⟨_, fd, ["self", "statement"], [], T.cl_Playing, T.m_Playing_passes, fn_Playing_passes T M_values_of M_set_value MD_begin_behind C_number_of C_holds F, F.bindsN fun _ _ _ _ _ _ us hl => match us, hl with | [_, _], _ => rfl, .nil⟩

abbrev N_Playing_asking : List Str := ["self", "frame", "statement"]
theorem sc_Playing_asking : FnScope N_Playing_asking ["self"] (defScope (inClass (top 72) 4)) := ⟨rfl, rfl, rfl, by decide +kernel, rfl, by decide +kernel, by decide +kernel⟩
/-- what a step is due for -/
def DueV (K : PySem.W.Frag) (Hb : Hp) : List Fr → V → Prop
  | (_, s :: _) :: _, v => RepS K Hb s v
  | _, v => v = .non
/-- on to what is due -/
def spAsking (K : PySem.W.Frag) (ws : List Str) : Sp := fun vs H Q _ => ∃ (g : Addr) (Hb : Hp) (G : GI) (ns : NS) (us : List (Str × List Sm)) (st : Nat) (frs : List Frm) (k st' : Nat) (fs' : List Fr), vs = [.ref g] ∧ Gm K Hb H g G ns us st frs ∧ NsOk ns ∧ wds ns = ws ∧ st < prodN (szs ns) ∧ UB (absF frs) ∧ Qt ns k st (absF frs) st' fs' ∧ frs.length + 2 * k ≤ 3000 ∧
  ∀ frs' v H', Gm K Hb H' g G ns us st' frs' → absF frs' = fs' → st' < prodN (szs ns) → UB fs' → frs'.length ≤ frs.length + 2 * k → DueV K Hb fs' v → Q v H'
theorem fn_Playing_asking (T : Txt K mg) (M_passes : Met P w K mg base 8 (He.ga K "Playing") "passes" (spPasses K ws) []) {fd : FuncData} (F : FunD K "asking" "Playing.asking" (defArgs (inClass (top 72) 4)) (defBody (inClass (top 72) 4)) (defScope (inClass (top 72) 4)) [] [] (He.ma K (He.ga K "Playing") "asking") fd) : FnOk P w K mg base C8.CX0 9 (He.ma K (He.ga K "Playing") "asking") fd ["self"] (spAsking K ws) := by
  refine F.ok sc_Playing_asking (fun vs H Q E h => by obtain ⟨_, _, _, _, _, _, _, _, _, _, rfl, _⟩ := h; rfl) (fun cdv A outer s H vs Q E hr h => ?_)
  have hu := hu_of hr
  refine ⟨_, PSs.nox (pss_one (ps_while PassesOwn.never (pt_val pe_bl) (pss_cons (ps_set (i := 1) sc_Playing_asking.nd rfl (Or.inl rfl) (pe_ix ix_list (pe_fld (pv 0) rfl) (pe_un un_neg pe_int) (fun _ _ => rfl)))
      (pss_one (ps_if (pt_cmpR op_lt (pe_fld (pv 1) rfl) (pe_callB call_len_seq (by rfl) T.f_len (by decide +kernel) (pa_cons (pe_fld (pv 1) rfl) pa_nil)) (nomark _)) (pss_cons (ps_set (i := 2) sc_Playing_asking.nd rfl (Or.inl rfl) (pe_ix ix_tup (pe_fld (pv 1) rfl) (pe_fld (pv 1) rfl) (fun _ _ => rfl)))
      (pss_one (ps_if (pt_not (pt_val (pe_mt M_passes hr (by omega) (pv 0) (pa_cons (pv 2) pa_nil)))) (pss_one (ps_ret (pv 2))) pss_nil))) (pss_one (ps_if (pt_cmpR op_notN (pe_fld (pv 1) rfl) pe_non (nomark _)) (pss_one (ps_ret pe_non)) (pss_one (ps_expr (pe_bm0 PySem.F.plainAttrs_list PySem.F.slot_list_pop PySem.F.type_list_pop mt_pop (pe_fld (pv 0) rfl))))))))))), ?_⟩
  obtain ⟨g, Hb, G, ns, us, st, frs, k0, st', fs', rfl, M, hok, rfl, hst, hU, hT, hl, hQ⟩ := h
  have hl0 : frs.length + 2 * k0 ≤ frs.length + 2 * k0 := Nat.le_refl _
  generalize hB : frs.length + 2 * k0 = B at hl hl0 hQ
  refine ⟨fun m σ H' => ∃ (frs : List Frm) (st k : Nat) (x1 x2 : Option V), m = k ∧ σ = [some (.ref g), x1, x2] ∧ Gm K Hb H' g G ns us st frs ∧ st < prodN (szs ns) ∧ UB (absF frs) ∧ Qt ns k st (absF frs) st' fs' ∧ frs.length + 2 * k ≤ B, ⟨k0, frs, st, k0, none, none, rfl, rfl, M, hst, hU, hT, by omega⟩, ?_⟩
  clear M hU hT hB hst hl0
  rintro m σ H1 ⟨frs, st, k, x1, x2, rfl, rfl, M, hst, hU, hT, hlB⟩
  have htop : ∃ l fr, frs = l ++ [fr] := by
    cases frs with
    | nil => exact False.elim hU
    | cons a r => exact ⟨(a :: r).dropLast, (a :: r).getLast (by simp), (List.dropLast_concat_getLast _).symm⟩
  obtain ⟨l, fr, rfl⟩ := htop
  have hF := M.fr fr (by simp)
  obtain ⟨bs, hbt, hL⟩ := hF.2.1
  have hlen := hL.length
  have hbt1 := Evl.ex_t M.ex hbt
  simp only [List.length_append, List.length_cons, List.length_nil] at hlB
  refine ⟨_, rfl, iteT ⟨fun σ' H' => ∃ m', m' < m ∧ ∃ (frs : List Frm) (st k : Nat) (x1 x2 : Option V), m' = k ∧ σ' = [some (.ref g), x1, x2] ∧ Gm K Hb H' g G ns us st frs ∧ st < prodN (szs ns) ∧ UB (absF frs) ∧ Qt ns k st (absF frs) st' fs' ∧ frs.length + 2 * k ≤ B, fun σ' H' h => h, ?_⟩⟩
  refine ⟨_, rfl, g, _, _, _, _, rfl, M.ob, T.cl_Playing, T.n_Playing_begun, rfl, _, rfl, _, _, _, _, rfl, rfl, SqL.of M.bg, at_last, ?_⟩
  refine ⟨_, rfl, fr.f, _, _, _, _, rfl, hF.1, T.cl_Frame, T.n_Frame_place, rfl, _, rfl, fr.f, _, _, _, _, rfl, hF.1, T.cl_Frame, T.n_Frame_body, rfl, fr.bt, bs, rfl, .inr hbt1, _, _, rfl, rfl, _, rfl, ?_⟩
  refine ite2 (fun c1 => ?_) (fun c1 => ?_)
  · have hpl : fr.pl < bs.length := by
      have := of_decide_eq_true c1
      omega
    obtain ⟨s, hs, hRs⟩ := hL.get (List.getElem?_eq_getElem hpl)
    have habs : absF (l ++ [fr]) = (fr.u, s :: fr.b.drop (fr.pl + 1)) :: absF l := by rw [abs_snoc, drop_at hs]
    refine ⟨_, rfl, fr.f, _, _, _, _, rfl, hF.1, T.cl_Frame, T.n_Frame_body, rfl, _, rfl, fr.f, _, _, _, _, rfl, hF.1, T.cl_Frame, T.n_Frame_place, rfl, _, _, _, _, rfl, rfl, hbt1, atI_nat (List.getElem?_eq_getElem hpl), ?_⟩
    refine ⟨_, rfl, g, _, _, rfl, M.ob, rfl, _, rfl, ?_⟩
    refine ⟨g, bs[fr.pl], Hb, G, ns, us, st, l, fr, s, rfl, M, hok, rfl, hst, hs, hRs, by omega, ?_⟩
    cases hq : qs ns st (absF (l ++ [fr])) with
    | some p =>
      intro frs' H2 M2 hf2 hst2 hl2
      cases hT with
      | stay h0 => rw [h0] at hq; cases hq
      | turn h0 r0 =>
        rename_i k' st1 fs1
        rw [h0] at hq
        cases hq
        refine ⟨_, rfl, ?_⟩
        exact ⟨_, Nat.lt_succ_self _, frs', _, k', _, _, rfl, rfl, M2, hst2, by rw [hf2]; exact qs_ub hU h0, by rw [hf2]; exact r0, by omega⟩
    | none =>
      intro H2 M2
      cases hT with
      | turn h0 r0 => rw [h0] at hq; cases hq
      | stay h0 =>
        refine ⟨_, rfl, ?_⟩
        refine ⟨_, rfl, ?_⟩
        exact hQ (l ++ [fr]) _ H2 M2 rfl hst hU (by simp only [List.length_append, List.length_cons, List.length_nil]; omega) (by rw [habs]; exact hRs)
  · have hpl : bs.length ≤ fr.pl := by
      have : ¬ _ := fun z => c1 (decide_eq_true z)
      omega
    have hdr : fr.b.drop fr.pl = [] := List.drop_eq_nil_of_le (by omega)
    have habs : absF (l ++ [fr]) = (fr.u, []) :: absF l := by rw [abs_snoc, hdr]
    refine ⟨_, rfl, fr.f, _, _, _, _, rfl, hF.1, T.cl_Frame, T.n_Frame_unit, rfl, rfl, _, rfl, ?_⟩
    cases hu1 : fr.u with
    | none =>
      refine iteFo (by rw [decide_eq_true (show uV none = .non from rfl)]; rfl) ?_
      refine ⟨_, rfl, g, _, _, _, _, rfl, M.ob, T.cl_Playing, T.n_Playing_begun, rfl, .inl ⟨rfl, _, SqL.of M.bg⟩, ?_⟩
      refine ⟨G.bg, _, _, rfl, rfl, M.bg, (by simp [fV]; rfl), ?_⟩
      have ed : (fV (l ++ [fr])).dropLast = fV l := by simp [fV]
      rw [ed]
      rw [habs, hu1] at hT hU
      cases hT with
      | stay h0 => simp [qs] at h0
      | turn h0 r0 =>
        rename_i k' st1 fs1
        have h1 := h0
        simp only [qs, Option.some.injEq, Prod.mk.injEq] at h1
        obtain ⟨rfl, rfl⟩ := h1
        exact ⟨_, Nat.lt_succ_self _, l, st, k', _, _, rfl, rfl, M.pop, hst, qs_ub hU h0, r0, by omega⟩
    | some u1 =>
      refine iteTo (by rw [decide_eq_false (show ¬ uV (some u1) = .non from fun z => by cases z)]; rfl) ?_
      rw [habs, hu1] at hT
      cases hT with
      | turn h0 r0 => simp [qs] at h0
      | stay h0 => exact hQ (l ++ [fr]) .non H1 M (by rw [habs, hu1]) hst (by rw [← hu1, ← habs]; exact hU) (by simp only [List.length_append, List.length_cons, List.length_nil]; omega) rfl
theorem ok_Playing_asking (T : Txt K mg) (M_passes : Met P w K mg base 8 (He.ga K "Playing") "passes" (spPasses K ws) []) : Met P w K mg base 9 (He.ga K "Playing") "asking" (spAsking K ws) [] := by
  obtain ⟨fd, F⟩ := T.d_Playing_asking
  exact ⟨_, fd, ["self"], [], T.cl_Playing, T.m_Playing_asking, fn_Playing_asking T M_passes F, F.bindsN fun _ _ _ _ _ _ us hl => match us, hl with | [_], _ => rfl, .nil⟩

end
end K14
namespace K14
open PySem PySem.Spec PyProof.Rows L2 C8

section
variable {K : PySem.W.Frag} {Hb H H' : Hp} {g : Addr} {G : GI} {ns : NS} {us : List (Str × List Sm)} {st : Nat} {frs : List Frm}
theorem SpaceAt.put {x l : Addr} {ys : List V} (S : SpaceAt K H x ns) (h : H l = none ∨ ∃ xs, H l = some (.lst xs)) : SpaceAt K (upd H l (.lst ys)) x ns := by
  obtain ⟨dx, t, o, ps, h1, h2, h3, h4⟩ := S
  have ne : ∀ a u, H a = some u → (∀ xs, u ≠ .lst xs) → a ≠ l := fun a u ha hu z => by
    rw [z] at ha
    rcases h with h | ⟨xs, h⟩
    · rw [h] at ha; cases ha
    · rw [h] at ha; exact hu xs (Option.some.inj ha).symm
  refine ⟨dx, t, o, ps, by rw [upd_ne (ne x _ h1 (fun xs z => by cases z))]; exact h1, by rw [upd_ne (ne t _ h2 (fun xs z => by cases z))]; exact h2, h3, ?_⟩
  refine Tups.byIx h4.length fun i p n a b => ?_
  obtain ⟨n', e1, e2⟩ := h4.get a
  rw [b] at e1
  cases e1
  rw [upd_ne (ne p _ e2 (fun xs z => by cases z))]
  exact e2
theorem kt_put {l : Addr} {ys : List V} (h : H l = none ∨ ∃ xs, H l = some (.lst xs)) : Kt H (upd H l (.lst ys)) := fun a u ha ht => by
  have : a ≠ l := fun z => by
    rw [z] at ha
    rcases h with h | ⟨xs, h⟩
    · rw [h] at ha; cases ha
    · rw [h] at ha; cases ha; cases ht
  rw [upd_ne this]; exact ha
/-- a list beside the game, new or known -/
theorem Gm.put (M : Gm K Hb H g G ns us st frs) {l : Addr} {ys : List V} (h : H l = none ∨ ∃ xs, Hb l = some (.lst xs)) : Gm K (upd Hb l (.lst ys)) (upd H l (.lst ys)) g G ns us st frs := by
  have hb : Hb l = none ∨ ∃ xs, Hb l = some (.lst xs) := by
    rcases h with h | h
    · exact .inl (Evl.fresh_back M.ex h)
    · exact .inr h
  have ne : ∀ a u, H a = some u → Hb a = none → a ≠ l := fun a u ha hn z => by
    rw [z] at ha hn
    rcases h with h | ⟨xs, h⟩
    · rw [h] at ha; cases ha
    · rw [h] at hn; cases hn
  have k := kt_put (ys := ys) hb
  refine ⟨fun a u ha => ?_, ?_, ?_, M.sp.put hb, ?_, ?_, ?_, M.ok, fun fr hf => ?_, M.nd⟩
  · by_cases z : a = l
    · rw [z, upd_same] at ha ⊢; exact ha
    · rw [upd_ne z] at ha ⊢; exact M.ex a u ha
  · rw [upd_ne (ne _ _ M.ob M.hg)]; exact M.ob
  · rw [upd_ne (ne _ _ M.ob M.hg)]; exact M.hg
  · rw [upd_ne (ne _ _ M.bg M.hb)]; exact M.bg
  · rw [upd_ne (ne _ _ M.bg M.hb)]; exact M.hb
  · obtain ⟨kv, h1, h2⟩ := M.bd
    have nl : G.bd ≠ l := fun z => by
      rw [z] at h1
      rcases h with h | ⟨xs, h⟩
      · rw [h] at h1; cases h1
      · have := M.ex _ _ h
        rw [h1] at this
        cases this
    refine ⟨kv, by rw [upd_ne nl]; exact h1, fun v c hv => ?_⟩
    obtain ⟨b1, bt, b2, b3⟩ := h2 v c hv
    exact ⟨b1, bt, b2, b3.kt k⟩
  · obtain ⟨f1, f2, f3⟩ := M.fr fr hf
    have n := ne _ _ f1 f3
    exact ⟨by rw [upd_ne n]; exact f1, f2.kt k, by rw [upd_ne n]; exact f3⟩
/-- the pairs of the units -/
theorem unit_kvs : ∀ {units : US} {us : List Addr}, RepUs K H units (us.map V.ref) → ∃ kvs : List (Key × V), Paired (fun p kv => SqT K H p [kV kv.1, kv.2]) us kvs ∧ kvs.map (·.1) = units.map (fun u => Sum.inr u.1) ∧ ∀ (i : Nat) (u : Str × List Sm), units[i]? = some u → ∃ b, kvs[i]? = some (.inr u.1, .ref b) ∧ RepB K H u.2 b
  | [], [], _ => ⟨[], .nil, rfl, fun i u h => by simp at h⟩
  | [], _ :: _, h => nomatch h
  | _ :: _, [], h => nomatch h
  | u :: r, p :: ps, .cons h t => by
    obtain ⟨kvs, hk, hk2, hk3⟩ := unit_kvs (us := ps) t
    obtain ⟨q, b, e, h1, h2⟩ := h
    cases e
    refine ⟨(.inr u.1, .ref b) :: kvs, .cons h1 hk, by rw [List.map_cons, List.map_cons, hk2], fun i w hw => ?_⟩
    cases i with
    | zero => cases hw; exact ⟨b, rfl, h2⟩
    | succ i => exact hk3 i w hw
theorem lookup_ix : ∀ {us : List (Str × List Sm)} {v : Str} {c : List Sm}, us.lookup v = some c → ∃ i : Nat, us[i]? = some (v, c)
  | [], v, c, h => by simp at h
  | (x, d) :: r, v, c, h => by
    by_cases e : v == x
    · have e' := eq_of_beq e
      subst e'
      simp [List.lookup] at h
      exact ⟨0, by simp [h]⟩
    · simp only [Bool.not_eq_true] at e
      rw [List.lookup, e] at h
      obtain ⟨i, hi⟩ := lookup_ix h
      exact ⟨i + 1, hi⟩
theorem lookup_of {us : List (Str × List Sm)} : ∀ {i : Nat} {v : Str} {c : List Sm}, (us.map Prod.fst).Nodup → us[i]? = some (v, c) → us.lookup v = some c := by
  induction us with
  | nil => intro i v c _ h; simp at h
  | cons p r ih =>
    intro i v c nd h
    obtain ⟨x, d⟩ := p
    cases i with
    | zero => cases h; simp [List.lookup]
    | succ i =>
      have nd' := List.nodup_cons.mp nd
      have h : r[i]? = some (v, c) := h
      have ne : (v == x) = false := by
        cases q : v == x with
        | false => rfl
        | true =>
          have := eq_of_beq q
          subst this
          have hm : v ∈ r.map Prod.fst := List.mem_map.mpr ⟨(v, c), List.mem_of_getElem? h, rfl⟩
          exact absurd hm nd'.1
      rw [List.lookup, ne]
      exact ih nd'.2 h
theorem SysOk.und {ns : NS} {us : US} (h : SysOk ns us) : (us.map Prod.fst).Nodup := (List.nodup_append.mp h.nd).2.1
theorem SysOk.unit {ns : NS} {us : US} (h : SysOk ns us) {v : Str} {c : List Sm} (hv : us.lookup v = some c) : BOk ns us c := by
  obtain ⟨i, hi⟩ := lookup_ix hv
  have U := h.us i _ hi
  refine ⟨_, 4, 3, U.ok, U.cn, fun z hz => ?_⟩
  obtain ⟨p, hp, rfl⟩ := List.mem_map.mp hz
  obtain ⟨j, hj⟩ := List.mem_iff_getElem?.mp (List.mem_of_mem_take hp)
  exact ⟨p.2, lookup_of h.und hj⟩
theorem last_ref {us : List V} {u : V} {l : List V} (h : us = l ++ [u]) : atI us (-1) = some u := by
  subst h
  have hl : (l ++ [u]).length = l.length + 1 := by simp
  unfold atI
  rw [hl]
  unfold ixN
  rw [if_neg (by omega), if_pos (by omega)]
  show (l ++ [u])[(-1 + ((l.length + 1 : Nat) : Int)).toNat]? = _
  have : (-1 + ((l.length + 1 : Nat) : Int)).toNat = l.length := by omega
  rw [this]
  simp
theorem rep_last : ∀ {units : US} {us : List V}, RepUs K H units us → ∀ {pre : US} {u : Str × List Sm}, units = pre ++ [u] → ∃ l v, us = l ++ [v] ∧ RepU K H u v
  | _, _, .nil, pre, u, e => by simp at e
  | a :: r, v :: vs, .cons h t, [], u, e => by
    simp only [List.nil_append, List.cons.injEq] at e
    obtain ⟨rfl, rfl⟩ := e
    cases t
    exact ⟨[], v, rfl, h⟩
  | a :: r, v :: vs, .cons h t, b :: pre, u, e => by
    simp only [List.cons_append, List.cons.injEq] at e
    obtain ⟨l, w, e2, hw⟩ := rep_last t e.2
    exact ⟨v :: l, w, by rw [e2]; rfl, hw⟩
theorem off_space {x sp dx : Addr} {C : Addr} (h : H x = some (.ins C dx [])) (S : SpaceAt K H sp ns) : SpaceAt K (off H x) sp ns := by
  obtain ⟨dx', t, o, ps, h1, h2, h3, h4⟩ := S
  have ne : ∀ a u, H a = some u → u ≠ .ins C dx [] → a ≠ x := fun a u ha hu z => by
    rw [z, h] at ha
    exact hu (Option.some.inj ha).symm
  refine ⟨dx', t, o, ps, off_at h1 (ne sp _ h1 (fun z => by
    simp only [HO.ins.injEq] at z
    obtain ⟨_, _, z⟩ := z
    cases z)), off_at h2 (ne t _ h2 (fun z => by cases z)), h3, ?_⟩
  refine Tups.byIx h4.length fun i p n a b => ?_
  obtain ⟨n', e1, e2⟩ := h4.get a
  rw [b] at e1
  cases e1
  exact off_at e2 (ne p _ e2 (fun z => by cases z))
end
section
variable {P : Program} {w : World} {K : PySem.W.Frag} {mg : Str → Option Value} {base : Heap} {ws : List Str}
abbrev N_needs_item : List Str := ["statement"]
theorem sc_needs_item : FnScope N_needs_item ["statement"] (defScope (top 69)) := ⟨rfl, rfl, rfl, by decide +kernel, rfl, by decide +kernel, by decide +kernel⟩
/-- whether an item is asked for -/
def asksS : Sm → Bool
  | .drw _ _ => true
  | .cho _ _ => true
  | _ => false
def spNeeds (K : PySem.W.Frag) : Sp := fun vs H Q _ => ∃ u : V, vs = [u] ∧ ((u = .non ∧ ∀ H', Ex H H' → Q (.bl false) H') ∨ ∃ s, RepS K H s u ∧ ∀ H', Ex H H' → Q (.bl (asksS s)) H')
theorem ok_needs_item (T : Txt K mg)  : Cal P w K mg base 1 "needs_item" (spNeeds K) [] := by
  obtain ⟨fd, F⟩ := T.d_needs_item
  refine ⟨_, fd, ["statement"], [], ?_, T.g_needs_item, F.kp, F.bindsN fun _ _ _ _ _ _ us hl => match us, hl with | [_], _ => rfl, .nil⟩
  refine F.ok sc_needs_item (fun vs H Q E h => by obtain ⟨_, rfl, _⟩ := h; rfl) (fun cdv A outer s H vs Q E hr h => ?_)
  have hu := hu_of hr
  refine ⟨_, PSs.nox (pss_one (ps_ret (pe_and (pe_cmpR op_notN (pv 0) pe_non (nomark _)) (pe_one (pe_cmpR op_in_seq (pe_ix ix_tup (pv 0) pe_int (fun _ _ => rfl)) (pe_tup (pa_cons pe_str (pa_cons pe_str pa_nil))) rfl))))), ?_⟩
  obtain ⟨u, rfl, hu0⟩ := h
  rcases hu0 with ⟨rfl, hQ⟩ | ⟨s, hR, hQ⟩
  · refine ⟨_, rfl, rfl, _, rfl, ?_⟩
    exact hQ H (Evl.Ex.refl _)
  · obtain ⟨p, r, rfl, hp⟩ := hR.head
    refine ⟨_, rfl, rfl, _, rfl, ?_⟩
    refine ⟨_, rfl, p, _, 0, _, rfl, rfl, hp, atI_nat (j := 0) rfl, (by show 2 ≤ sizeLine; decide), fun q hq => ?_⟩
    refine ⟨q, _, rfl, .inr (SqT.of upd_same), rfl, rfl, ?_⟩
    have e : inV (.str (knd s)) [.str "choose", .str "draw"] = asksS s := by
      cases s with
      | set x e => show inV (.str ("set" : Str)) [.str "choose", .str "draw"] = false; decide +kernel
      | iff x e f => show inV (.str ("if" : Str)) [.str "choose", .str "draw"] = false; decide +kernel
      | whl x e => show inV (.str ("while" : Str)) [.str "choose", .str "draw"] = false; decide +kernel
      | drw x e => show inV (.str ("draw" : Str)) [.str "choose", .str "draw"] = true; decide +kernel
      | cho x e => show inV (.str ("choose" : Str)) [.str "choose", .str "draw"] = true; decide +kernel
      | cal x => show inV (.str ("call" : Str)) [.str "choose", .str "draw"] = false; decide +kernel
    rw [e]
    exact hQ _ (Evl.Ex.new hq)

abbrev N_label_list : List Str := ["choose", "label", "_"]
theorem sc_label_list : FnScope N_label_list ["choose"] (defScope (top 67)) := ⟨rfl, rfl, rfl, by decide +kernel, rfl, by decide +kernel, by decide +kernel⟩
def spLabels (K : PySem.W.Frag) : Sp := fun vs H Q _ => ∃ (u : V) (ls : List Str) (bs : List (List Sm)), vs = [u] ∧ RepS K H (.cho ls bs) u ∧ ls.length ≤ 3 ∧ ∀ p H', H p = none → Ex H H' → H' p = some (.lst (ls.map V.str)) → Q (.ref p) H'
theorem ok_label_list (T : Txt K mg)  : Cal P w K mg base 1 "label_list" (spLabels K) [] := by
  obtain ⟨fd, F⟩ := T.d_label_list
  refine ⟨_, fd, ["choose"], [], ?_, T.g_label_list, F.kp, F.bindsN fun _ _ _ _ _ _ us hl => match us, hl with | [_], _ => rfl, .nil⟩
  refine F.ok sc_label_list (fun vs H Q E h => by obtain ⟨_, _, _, rfl, _⟩ := h; rfl) (fun cdv A outer s H vs Q E hr h => ?_)
  have hu := hu_of hr
  refine ⟨_, PSs.nox (pss_one (ps_ret (pe_lc (own := [("label", 1), ("_", 2)]) rfl sc_label_list.nd (pi_tup (pe_ix ix_tup (pv 0) pe_int (fun _ _ => rfl))) (blkOk_by (own := [("label", 1), ("_", 2)]) (N := N_label_list) (sc := defScope (top 67)) (by decide +kernel)) (fun _ _ _ _ _ => (pgT (K := K) (n := 2) rfl (by rfl) (pgs_cons (pg_name (i := 1) sc_label_list.nd rfl (Or.inl rfl)) (pgs_cons (pg_name (i := 2) sc_label_list.nd rfl (Or.inl rfl)) pgs_nil)))) (fun _ _ _ _ _ => pts_nil) (fun _ _ _ _ _ => (pv 1))))), ?_⟩
  obtain ⟨u, ls, bs, rfl, hR, l3, hQ⟩ := h
  simp only [RepS] at hR
  obtain ⟨p, q2, ps2, rfl, hp, hq2, hfz, hW⟩ := hR
  have hlen := hW.length.1
  refine ⟨_, rfl, p, _, 1, _, rfl, rfl, hp, rfl, q2, rfl, ⟨_, hq2⟩, fun D hD => ?_⟩
  refine lc_fn (walk_tup (xs := ps2.map V.ref)) (fun i => .str (ls.getD i "")) (by rw [List.length_map]; omega) hD (fun _ e => Evl.ex_t e hq2) ?_ ?_
  · rintro i x H1' H1 Z B hi e hl ⟨rfl, hx⟩ hZ
    obtain ⟨a, rfl, ha⟩ := refs_get hx
    obtain ⟨z, _, _, _, hz, _, hS, _⟩ := hW.get ha
    refine ⟨a, _, rfl, Evl.ex_t e hS, rfl, _, _, rfl, _, _, rfl, rfl, ?_⟩
    refine ⟨rfl, ?_⟩
    refine ⟨_, rfl, ?_⟩
    have er : ls.getD i "" = z := by rw [List.getD_eq_getElem?_getD, hz]; rfl
    rw [er] at hZ
    exact hZ _ (Evl.Ex.refl _)
  intro H3 e3 hd3
  have eL : (List.range (ps2.map V.ref).length).map (fun i => V.str (ls.getD i "")) = ls.map V.str := by
    refine List.ext_getElem? fun i => ?_
    by_cases hi : i < ls.length
    · rw [List.getElem?_map, List.getElem?_range (by rw [List.length_map]; omega), List.getElem?_map, List.getElem?_eq_getElem hi]
      simp [List.getD_eq_getElem?_getD, hi]
    · rw [List.getElem?_eq_none (by simp; omega), List.getElem?_eq_none (by simp; omega)]
  rw [eL] at hd3
  exact hQ D _ hD e3 hd3

abbrev N_wheel_values : List Str := ["draw", "values", "value", "weight", "_"]
theorem sc_wheel_values : FnScope N_wheel_values ["draw"] (defScope (top 68)) := ⟨rfl, rfl, rfl, by decide +kernel, rfl, by decide +kernel, by decide +kernel⟩
theorem wheel_take : ∀ (wz : List (Nat × Nat)) (i : Nat) (z : Nat × Nat), wz[i]? = some z → wheel (wz.take (i + 1)) = wheel (wz.take i) ++ List.replicate z.2 z.1
  | [], i, z, h => by simp at h
  | a :: r, 0, z, h => by
    cases h
    simp [wheel]
  | a :: r, i + 1, z, h => by
    have := wheel_take r i z h
    simp only [List.take_succ_cons, wheel, List.flatMap_cons, List.append_assoc] at this ⊢
    rw [this]
theorem wheel_len : ∀ (wz : List (Nat × Nat)), (∀ z ∈ wz, z.2 ≤ 12) → (wheel wz).length ≤ 12 * wz.length
  | [], _ => by simp [wheel]
  | a :: r, h => by
    have h1 := wheel_len r fun z hz => h z (List.mem_cons_of_mem _ hz)
    have h2 := h a (List.mem_cons_self ..)
    simp only [wheel, List.flatMap_cons, List.length_append, List.length_replicate, List.length_cons] at h1 ⊢
    omega
def spWheel (K : PySem.W.Frag) : Sp := fun vs H Q _ => ∃ (u : V) (x : Str) (wz : List (Nat × Nat)), vs = [u] ∧ RepS K H (.drw x wz) u ∧ wz.length ≤ 3 ∧ (∀ z ∈ wz, z.2 ≤ 12) ∧ ∀ p H', H p = none → Ex H H' → H' p = some (.lst ((wheel wz).map fun v : Nat => V.int (v : Int))) → Q (.ref p) H'
theorem ok_wheel_values (T : Txt K mg)  : Cal P w K mg base 1 "wheel_values" (spWheel K) [] := by
  obtain ⟨fd, F⟩ := T.d_wheel_values
  refine ⟨_, fd, ["draw"], [], ?_, T.g_wheel_values, F.kp, F.bindsN fun _ _ _ _ _ _ us hl => match us, hl with | [_], _ => rfl, .nil⟩
  refine F.ok sc_wheel_values (fun vs H Q E h => by obtain ⟨_, _, _, rfl, _⟩ := h; rfl) (fun cdv A outer s H vs Q E hr h => ?_)
  have hu := hu_of hr
  refine ⟨_, PSs.nox (pss_cons (ps_set (i := 1) sc_wheel_values.nd rfl (Or.inl rfl) (pe_lst pa_nil))
      (pss_cons (ps_for PassesOwn.never rfl (pi_tup (pe_ix ix_tup (pv 0) pe_int (fun _ _ => rfl))) (pg_tup (by rfl) (pgs_cons (pg_name (i := 2) sc_wheel_values.nd rfl (Or.inr rfl)) (pgs_cons (pg_name (i := 3) sc_wheel_values.nd rfl (Or.inl rfl)) pgs_nil))) (pss_one (ps_expr (pe_bm PySem.F.plainAttrs_list PySem.F.slot_list_extend PySem.F.type_list_extend mt_extend (pv 1) (pa_cons (pe_lc (own := [("_", 4)]) rfl sc_wheel_values.nd (pi_range1 (by rfl) T.f_range (pa_cons (pv 3) pa_nil)) (blkOk_by (own := [("_", 4)]) (N := N_wheel_values) (sc := defScope (top 68)) (by decide +kernel)) (fun _ _ _ _ _ => (pg_name (i := 4) sc_wheel_values.nd rfl (Or.inl rfl))) (fun _ _ _ _ _ => pts_nil) (fun _ _ _ _ _ => (pv 2))) pa_nil)))))
      (pss_one (ps_ret (pv 1))))), ?_⟩
  obtain ⟨u, x, wz, rfl, hR, l3, h12, hQ⟩ := h
  simp only [RepS] at hR
  obtain ⟨p, q2, ps2, rfl, hp, hq2, hfz, hW⟩ := hR
  have hlen := hW.length
  refine ⟨Nat.zero_le _, fun f hf => ?_⟩
  have e0 : Ex H (upd H f (.lst [])) := Evl.Ex.new hf
  refine ⟨_, rfl, p, _, 2, _, rfl, rfl, Evl.ex_t e0 hp, rfl, q2, rfl, ⟨_, Evl.ex_t e0 hq2⟩, ?_⟩
  refine for_it (walk_tup (xs := ps2.map V.ref)) (fun i σ H' => Ex H H' ∧ ∃ x2 x3 x4, σ = [some (.ref p), some (.ref f), x2, x3, x4] ∧ H' f = some (.lst ((wheel (wz.take i)).map fun v : Nat => V.int (v : Int))))
    ⟨e0, none, none, none, rfl, upd_same⟩ (fun i σ H' _ z => Evl.ex_t z.1 hq2) ?_ ?_
  · rintro i y σ H1 H1' hi ⟨e1, x2, x3, x4, rfl, hf1⟩ ⟨rfl, hy⟩
    obtain ⟨a, rfl, ha⟩ := refs_get hy
    obtain ⟨z, hz, hS⟩ := hW.get ha
    have hm := h12 z (List.mem_of_getElem? hz)
    have ht : (wheel (wz.take i)).length ≤ 36 := by
      have := wheel_len (wz.take i) fun y hy => h12 y (List.mem_of_mem_take hy)
      rw [List.length_take] at this
      omega
    refine ⟨a, _, rfl, Evl.ex_t e1 hS, rfl, _, _, rfl, _, _, rfl, rfl, ?_⟩
    refine ⟨_, rfl, .inl ⟨rfl, _, SqL.of hf1⟩, ?_⟩
    refine ⟨_, rfl, _, rfl, by omega, by omega, fun D hD => ?_⟩
    refine lc_fn (walk_range (lo := 0) (n := ((z.2 : Nat) : Int).toNat)) (fun _ => .int (z.1 : Int)) (by omega) hD (fun _ _ => trivial) ?_ ?_
    · rintro j y H2' H2 Z B hj e2 hl2 ⟨rfl, rfl⟩ hZ
      refine ⟨rfl, ?_⟩
      exact ⟨_, rfl, hZ _ (Evl.Ex.refl _)⟩
    intro H3 e3 hd3
    have eD : (List.range ((z.2 : Nat) : Int).toNat).map (fun _ => V.int (z.1 : Int)) = (List.replicate z.2 z.1).map (fun v : Nat => V.int (v : Int)) := by
      rw [Int.toNat_natCast, List.map_const', List.length_range, List.map_replicate]
    rw [eD] at hd3
    refine ⟨f, D, _, _, rfl, rfl, e3 _ _ hf1, hd3, ?_, ?_⟩
    · rw [List.length_map, List.length_map, List.length_replicate]
      exact Nat.le_trans (show _ ≤ 100 by omega) (by decide)
    refine ⟨Ex.app (e1.trans e3) hf, _, _, _, rfl, ?_⟩
    rw [upd_same, wheel_take wz i z hz, List.map_append]
  · rintro σ H1 ⟨e1, x2, x3, x4, rfl, hf1⟩
    refine ⟨_, rfl, ?_⟩
    rw [List.take_of_length_le (by simp; omega)] at hf1
    exact hQ f H1 hf e1 hf1

abbrev N_fits : List Str := ["statement", "item"]
theorem sc_fits : FnScope N_fits ["statement", "item"] (defScope (top 70)) := ⟨rfl, rfl, rfl, by decide +kernel, rfl, by decide +kernel, by decide +kernel⟩
/-- an item that a choose or a draw can take -/
def Fit : Sm → Ans → Prop
  | .cho ls _, .lab l => l ∈ ls ∧ ls.length ≤ 3
  | .drw _ wz, .num k => k < (wheel wz).length ∧ wz.length ≤ 3 ∧ ∀ z ∈ wz, z.2 ≤ 12
  | _, _ => False
def spFits (K : PySem.W.Frag) : Sp := fun vs H Q _ => ∃ (u : V) (s : Sm) (a : Ans), vs = [u, a.v] ∧ RepS K H s u ∧ Fit s a ∧ ∀ H', Ex H H' → Q (.bl true) H'
theorem ok_fits (T : Txt K mg) (C_label_list : Cal P w K mg base 1 "label_list" (spLabels K) []) (C_wheel_values : Cal P w K mg base 1 "wheel_values" (spWheel K) []) (C_is_whole_from : Cal P w K mg base 2 "is_whole_from" (spWholeFrom) []) : Cal P w K mg base 3 "fits" (spFits K) [] := by
  obtain ⟨fd, F⟩ := T.d_fits
  refine ⟨_, fd, ["statement", "item"], [], ?_, T.g_fits, F.kp, F.bindsN fun _ _ _ _ _ _ us hl => match us, hl with | [_, _], _ => rfl, .nil⟩
  refine F.ok sc_fits (fun vs H Q E h => by obtain ⟨_, _, _, rfl, _⟩ := h; rfl) (fun cdv A outer s H vs Q E hr h => ?_)
  have hu := hu_of hr
  refine ⟨_, PSs.nox (pss_cons (ps_if (pt_cmpR op_eq (pe_ix ix_tup (pv 0) pe_int (fun _ _ => rfl)) pe_str (nomark _)) (pss_one (ps_ret (pe_cmpR op_in_seq (pv 1) (pe_c C_label_list hr (by omega) rfl (pa_cons (pv 0) pa_nil)) rfl))) pss_nil)
      (pss_one (ps_ret (pe_c C_is_whole_from hr (by omega) rfl (pa_cons (pv 1) (pa_cons pe_int (pa_cons (pe_op op_sub (pe_callB call_len_seq (by rfl) T.f_len (by decide +kernel) (pa_cons (pe_c C_wheel_values hr (by omega) rfl (pa_cons (pv 0) pa_nil)) pa_nil)) pe_int) pa_nil))))))), ?_⟩
  obtain ⟨u, s, a, rfl, hR, hF, hQ⟩ := h
  cases s with
  | set x e => exact False.elim hF
  | iff x e f => exact False.elim hF
  | whl x e => exact False.elim hF
  | cal x => exact False.elim hF
  | cho ls bs =>
    cases a with
    | num k => exact False.elim hF
    | lab l =>
    obtain ⟨hl, l3⟩ := hF
    have hR0 := hR
    simp only [RepS] at hR
    obtain ⟨p, q2, ps2, rfl, hp, hq2, hfz, hW⟩ := hR
    refine ⟨_, rfl, p, _, 0, _, rfl, rfl, hp, rfl, rfl, _, rfl, ?_⟩
    refine ⟨_, rfl, _, rfl, _, ls, bs, rfl, hR0, l3, fun q H1 hq e1 hd1 => ?_⟩
    refine ⟨q, _, rfl, .inl (SqL.of hd1), rfl, flat_strs _, ?_⟩
    rw [show inV (Ans.lab l).v (ls.map V.str) = true from in_strs hl]
    exact hQ H1 e1
  | drw x wz =>
    cases a with
    | lab l => exact False.elim hF
    | num k =>
    obtain ⟨hk, l3, h12⟩ := hF
    have hR0 := hR
    simp only [RepS] at hR
    obtain ⟨p, q2, ps2, rfl, hp, hq2, hfz, hW⟩ := hR
    refine ⟨_, rfl, p, _, 0, _, rfl, rfl, hp, rfl, rfl, _, rfl, ?_⟩
    refine ⟨_, rfl, _, rfl, _, x, wz, rfl, hR0, l3, h12, fun q H1 hq e1 hd1 => ?_⟩
    refine ⟨q, _, rfl, .inl (SqL.of hd1), _, _, rfl, rfl, (k : Int), 0, _, rfl, ?_⟩
    rw [List.length_map, decide_eq_true (show (0 : Int) ≤ (k : Int) by omega), decide_eq_true (show (k : Int) ≤ ((wheel wz).length : Int) - 1 by omega)]
    exact hQ H1 e1

abbrev N_Playing_step : List Str := ["self", "statement", "item", "ended", "kind", "wheel"]
theorem sc_Playing_step : FnScope N_Playing_step ["self", "statement", "item"] (defScope (inClass (top 72) 6)) := ⟨rfl, rfl, rfl, by decide +kernel, rfl, by decide +kernel, by decide +kernel⟩
theorem abs_top {frs : List Frm} {f : Fr} {r : List Fr} (h : absF frs = f :: r) : ∃ l fr, frs = l ++ [fr] ∧ (fr.u, fr.b.drop fr.pl) = f ∧ absF l = r := by
  cases frs with
  | nil => cases h
  | cons a c =>
    refine ⟨(a :: c).dropLast, (a :: c).getLast (by simp), (List.dropLast_concat_getLast _).symm, ?_⟩
    rw [← List.dropLast_concat_getLast (l := a :: c) (by simp), abs_snoc] at h
    exact List.cons.inj h
theorem RepP.kvs {H : Hp} {K : PySem.W.Frag} : ∀ {ls : List Str} {bs : List (List Sm)} {ps : List Addr}, RepP K H ls bs ps → ∃ kvs : List (Key × V), Paired (fun p kv => SqT K H p [kV kv.1, kv.2]) ps kvs ∧ kvs.map (·.1) = ls.map Sum.inr ∧ ∀ (i : Nat) (l : Str) (b : List Sm), ls[i]? = some l → bs[i]? = some b → ∃ q, kvs[i]? = some (.inr l, .ref q) ∧ RepB K H b q
  | [], [], ps, h => by
    simp only [RepP] at h
    rw [h]
    exact ⟨[], .nil, rfl, fun i l b hl => by simp at hl⟩
  | l :: ls, b :: bs, ps, h => by
    simp only [RepP] at h
    obtain ⟨a', r, bt, us, h1, h2, h3, h4, h5⟩ := h
    obtain ⟨kvs, g1, g2, g3⟩ := RepP.kvs h5
    rw [h1]
    refine ⟨(.inr l, .ref bt) :: kvs, .cons h2 g1, by rw [List.map_cons, List.map_cons, g2], fun i l' b' hl hb => ?_⟩
    cases i with
    | zero =>
      cases hl
      cases hb
      exact ⟨bt, rfl, us, h3, h4⟩
    | succ i => exact g3 i l' b' hl hb
  | [], _ :: _, ps, h => by simp only [RepP] at h
  | _ :: _, [], ps, h => by simp only [RepP] at h
theorem pk_mono {K : PySem.W.Frag} {H H' : Hp} (e : Ex H H') : ∀ {ps : List Addr} {kvs : List (Key × V)}, Paired (fun p kv => SqT K H p [kV kv.1, kv.2]) ps kvs → Paired (fun p kv => SqT K H' p [kV kv.1, kv.2]) ps kvs
  | _, _, .nil => .nil
  | _, _, .cons h t => .cons (Evl.ex_t e h) (pk_mono e t)
def turnS (k n : Nat) : Str := Str.empty ++ "turn " ++ toString (k : Int) ++ " of " ++ toString (n : Int)
theorem dec_len (k : Nat) (h : k ≤ 36) : (toString (k : Int) : Str).length ≤ 2 := by
  have key : ∀ k, k < 37 → (toString ((k : Nat) : Int) : Str).length ≤ 2 := by decide +kernel
  exact key k (by omega)
theorem Gm.known {K : PySem.W.Frag} {Hb H : Hp} {g : Addr} {G : GI} {ns : NS} {us : List (Str × List Sm)} {st : Nat} {frs : List Frm} (M : Gm K Hb H g G ns us st frs) {l : Addr} {ys : List V} (h : H l = some (.lst ys)) (hb : Hb l = none) (hn : G.bg ≠ l) : Gm K (upd Hb l (.lst ys)) H g G ns us st frs := by
  have ne : ∀ a u, H a = some u → (∀ xs, u ≠ .lst xs) → a ≠ l := fun a u ha hu z => by
    rw [z, h] at ha
    exact hu ys (Option.some.inj ha).symm
  have k : Kt Hb (upd Hb l (.lst ys)) := kt_put (.inl hb)
  refine ⟨fun a u ha => ?_, M.ob, ?_, M.sp.put (.inl hb), M.bg, ?_, ?_, M.ok, fun fr hf => ?_, M.nd⟩
  · by_cases z : a = l
    · rw [z, upd_same] at ha
      rw [z, h]
      exact ha
    · rw [upd_ne z] at ha
      exact M.ex a u ha
  · rw [upd_ne (ne _ _ M.ob (fun xs z => by cases z))]; exact M.hg
  · rw [upd_ne hn]; exact M.hb
  · obtain ⟨kv, h1, h2⟩ := M.bd
    refine ⟨kv, h1, fun v c hv => ?_⟩
    obtain ⟨b1, bt, b2, b3⟩ := h2 v c hv
    exact ⟨b1, bt, b2, b3.kt k⟩
  · obtain ⟨f1, f2, f3⟩ := M.fr fr hf
    exact ⟨f1, f2.kt k, by rw [upd_ne (ne _ _ f1 (fun xs z => by cases z))]; exact f3⟩
theorem Gm.less {K : PySem.W.Frag} {Hb Hc H : Hp} {g : Addr} {G : GI} {ns : NS} {us : List (Str × List Sm)} {st : Nat} {frs frs0 : List Frm} (M : Gm K Hc H g G ns us st frs) (e : Ex Hb Hc) (sp : SpaceAt K Hb G.sp ns) (bd : ∀ v c, us.lookup v = some c → ∀ bt, RepB K Hc c bt → RepB K Hb c bt) (hf : ∀ fr ∈ frs, RepB K Hb fr.b fr.bt) : Gm K Hb H g G ns us st frs := by
  have nn : ∀ a, Hc a = none → Hb a = none := fun a h => by
    cases hx : Hb a with
    | none => rfl
    | some o => rw [e _ _ hx] at h; cases h
  refine ⟨e.trans M.ex, M.ob, nn _ M.hg, sp, M.bg, nn _ M.hb, ?_, M.ok, fun fr h => ⟨(M.fr fr h).1, hf fr h, nn _ (M.fr fr h).2.2⟩, M.nd⟩
  obtain ⟨kv, h1, h2⟩ := M.bd
  refine ⟨kv, h1, fun v c hv => ?_⟩
  obtain ⟨b1, bt, b2, b3⟩ := h2 v c hv
  exact ⟨b1, bt, b2, bd v c hv bt b3⟩
theorem BOk.kid {ns : NS} {us : List (Str × List Sm)} {fb : List Sm} (h : BOk ns us fb) {s : Sm} (hs : s ∈ fb) {c : List Sm} (hc : c ∈ kids s) : BOk ns us c := by
  obtain ⟨ah, n, l, h1, h2, h3⟩ := h
  obtain ⟨m, l', rfl, h4, _⟩ := kids_ok (h1.get hs) c hc
  have := cntL_mem hs
  have := cntB_mem hc
  have := cntB_kids s
  exact ⟨ah, m, l', h4, by omega, h3⟩
def spStep (K : PySem.W.Frag) : Sp := fun vs H Q _ => ∃ (g : Addr) (u v : V) (Hb : Hp) (G : GI) (ns : NS) (us : List (Str × List Sm)) (st : Nat) (frs : List Frm), vs = [.ref g, u, v] ∧ Gm K Hb H g G ns us st frs ∧ NsOk ns ∧ st < prodN (szs ns) ∧ frs.length ≤ 3000 ∧
  ((∃ un r, absF frs = (some un, []) :: r ∧ u = .non ∧ un.length ≤ 8 ∧ ∀ frs' H', Gm K Hb H' g G ns us st frs' → absF frs' = r → Q (.str (Str.empty ++ "back " ++ un)) H') ∨
    ∃ o s rest r, absF frs = (o, s :: rest) :: r ∧ RepS K Hb s u ∧
      ((∃ c b, s = .whl c b ∧ ∀ frs' H', Gm K Hb H' g G ns us st frs' → absF frs' = (none, b) :: (o, s :: rest) :: r → Q (.str "loop") H') ∨
        (∃ w c, s = .cal w ∧ us.lookup w = some c ∧ w.length ≤ 8 ∧ ∀ frs' H', Gm K Hb H' g G ns us st frs' → absF frs' = (some w, c) :: (o, rest) :: r → Q (.str (Str.empty ++ "call " ++ w)) H') ∨
        (∃ (ls : List Str) (bs : List (List Sm)) (l : Str) (b : List Sm) (i : Nat), s = .cho ls bs ∧ v = .str l ∧ ls[i]? = some l ∧ bs[i]? = some b ∧ l.length ≤ 8 ∧ ∀ frs' H', Gm K Hb H' g G ns us st frs' → absF frs' = (none, b) :: (o, rest) :: r → Q (.str (Str.empty ++ "choose " ++ l)) H') ∨
        ∃ (x : Str) (wz : List (Nat × Nat)) (k z : Nat), s = .drw x wz ∧ v = .int (k : Nat) ∧ (wheel wz)[k]? = some z ∧ ∀ Hb' frs' H', Ex Hb Hb' → Gm K Hb' H' g G ns us (setN ns st x (z : Int)) frs' → absF frs' = (o, rest) :: r → Q (.str (turnS k (wheel wz).length)) H'))
theorem fn_Playing_step (T : Txt K mg) (MD_begin : Met P w K mg base 3 (He.ga K "Playing") "begin" (spBegin K) [.non]) (MD_begin_behind : Met P w K mg base 4 (He.ga K "Playing") "begin_behind" (spBehind K) [.non]) (M_begin_behind : Met P w K mg base 4 (He.ga K "Playing") "begin_behind" (spBehind K) []) (M_set_value : Met P w K mg base 6 (He.ga K "Playing") "set_value" (spSetV K) []) (C_wheel_values : Cal P w K mg base 1 "wheel_values" (spWheel K) []) {fd : FuncData} (F : FunD K "step" "Playing.step" (defArgs (inClass (top 72) 6)) (defBody (inClass (top 72) 6)) (defScope (inClass (top 72) 6)) [] [] (He.ma K (He.ga K "Playing") "step") fd) : FnOk P w K mg base C8.CX0 7 (He.ma K (He.ga K "Playing") "step") fd ["self", "statement", "item"] (spStep K) := by
  refine F.ok sc_Playing_step (fun vs H Q E h => by obtain ⟨_, _, _, _, _, _, _, _, _, rfl, _⟩ := h; rfl) (fun cdv A outer s H vs Q E hr h => ?_)
  have hu := hu_of hr
  refine ⟨_, PSs.nox (pss_cons (ps_if (pt_cmpR op_isN (pv 1) pe_non (nomark _)) (pss_cons (ps_set (i := 3) sc_Playing_step.nd rfl (Or.inl rfl) (pe_bm0 PySem.F.plainAttrs_list PySem.F.slot_list_pop PySem.F.type_list_pop mt_pop (pe_fld (pv 0) rfl)))
      (pss_one (ps_ret (pe_joined (.cons pe_str (.cons (pe_fmt (pe_fld (pv 3) rfl)) .nil)))))) pss_nil)
      (pss_cons (ps_set (i := 4) sc_Playing_step.nd rfl (Or.inl rfl) (pe_ix ix_tup (pv 1) pe_int (fun _ _ => rfl)))
      (pss_cons (ps_if (pt_cmpR op_eq (pv 4) pe_str (nomark _)) (pss_cons (ps_expr (pe_mt MD_begin_behind hr (by omega) (pv 0) (pa_cons (pe_dget hu (pe_callTy (call_dictF rfl) (by rfl) T.f_dict (by decide +kernel) (pa_cons (pe_ix ix_tup (pv 1) pe_int (fun _ _ => rfl)) pa_nil)) (pv 2) (fun _ _ => rfl)) pa_nil)))
      (pss_one (ps_ret (pe_joined (.cons pe_str (.cons (pe_fmt (pv 2)) .nil)))))) pss_nil)
      (pss_cons (ps_if (pt_cmpR op_eq (pv 4) pe_str (nomark _)) (pss_cons (ps_set (i := 5) sc_Playing_step.nd rfl (Or.inl rfl) (pe_c C_wheel_values hr (by omega) rfl (pa_cons (pv 1) pa_nil)))
      (pss_cons (ps_expr (pe_mt M_set_value hr (by omega) (pv 0) (pa_cons (pe_ix ix_tup (pv 1) pe_int (fun _ _ => rfl)) (pa_cons (pe_ix ix_list (pv 5) (pv 2) (fun _ _ => rfl)) pa_nil))))
      (pss_one (ps_ret (pe_joined (.cons pe_str (.cons (pe_fmt (pv 2)) (.cons pe_str (.cons (pe_fmt (pe_callB call_len_seq (by rfl) T.f_len (by decide +kernel) (pa_cons (pv 5) pa_nil))) .nil))))))))) pss_nil)
      (pss_cons (ps_if (pt_cmpR op_eq (pv 4) pe_str (nomark _)) (pss_cons (ps_expr (pe_mt MD_begin hr (by omega) (pv 0) (pa_cons (pe_ix ix_tup (pv 1) pe_int (fun _ _ => rfl)) pa_nil)))
      (pss_one (ps_ret pe_str))) pss_nil)
      (pss_cons (ps_expr (pe_mt M_begin_behind hr (by omega) (pv 0) (pa_cons (pe_dget hu (pe_fld (pv 0) rfl) (pe_ix ix_tup (pv 1) pe_int (fun _ _ => rfl)) (fun _ _ => rfl)) (pa_cons (pe_ix ix_tup (pv 1) pe_int (fun _ _ => rfl)) pa_nil))))
      (pss_one (ps_ret (pe_joined (.cons pe_str (.cons (pe_fmt (pe_ix ix_tup (pv 1) pe_int (fun _ _ => rfl))) .nil))))))))))), ?_⟩
  obtain ⟨g, u, v, Hb, G, ns, us, st, frs, rfl, M, hok, hst, hl, h⟩ := h
  rcases h with ⟨un, r0, ha, rfl, hun, hQ⟩ | ⟨o, s, rest, r0, ha, hR, h⟩
  · obtain ⟨l, fr, rfl, hf, hr0⟩ := abs_top ha
    have hfu : fr.u = some un := congrArg Prod.fst hf
    have hF := M.fr fr (by simp)
    refine ⟨_, rfl, rfl, _, rfl, ?_⟩
    refine ⟨_, rfl, g, _, _, _, _, rfl, M.ob, T.cl_Playing, T.n_Playing_begun, rfl, .inl ⟨rfl, _, SqL.of M.bg⟩, ?_⟩
    refine ⟨G.bg, _, _, rfl, rfl, M.bg, (by simp [fV]; rfl), ?_⟩
    have ed : (fV (l ++ [fr])).dropLast = fV l := by simp [fV]
    rw [ed]
    have M2 := M.pop
    have nb := fr_ne_b M (fr := fr) (by simp)
    refine ⟨_, rfl, (by decide), ?_⟩
    refine ⟨_, rfl, fr.f, _, _, _, _, rfl, (by rw [upd_ne nb]; exact hF.1), T.cl_Frame, T.n_Frame_unit, rfl, .inl ⟨un, by rw [hfu]; rfl, Nat.le_trans hun (by decide), un, rfl, ?_, ?_⟩⟩
    · rw [strLen_append, strLen_append]
      exact Nat.le_trans (show _ ≤ 100 by show 0 + 5 + un.length ≤ 100; omega) (by decide)
    · exact hQ _ _ M2 hr0
  obtain ⟨l, fr, rfl, hf, hr0⟩ := abs_top ha
  have hfu : fr.u = o := congrArg Prod.fst hf
  have hfd : fr.b.drop fr.pl = s :: rest := congrArg Prod.snd hf
  have hsm : s ∈ fr.b := List.mem_of_mem_drop (i := fr.pl) (by rw [hfd]; exact List.mem_cons_self ..)
  have hrest : fr.b.drop (fr.pl + 1) = rest := by rw [← List.tail_drop, hfd]; rfl
  have hBO := M.ok fr (by simp)
  simp only [List.length_append, List.length_cons, List.length_nil] at hl
  rcases h with ⟨c, b, rfl, hQ⟩ | ⟨w', c, rfl, hlk, hw8, hQ⟩ | ⟨ls, bs, lb, b, i, rfl, rfl, hli, hbi, h8, hQ⟩ | ⟨x, wz, k, z, rfl, rfl, hk, hQ⟩
  · simp only [RepS] at hR
    obtain ⟨p, u1, bb, bs, rfl, hp, h1, h2, h3⟩ := hR
    have hp := Evl.ex_t M.ex hp
    refine ⟨_, rfl, rfl, _, rfl, ?_⟩
    refine ⟨_, rfl, p, _, 0, _, rfl, rfl, hp, rfl, ?_⟩
    refine ⟨_, rfl, rfl, _, rfl, ?_⟩
    refine ⟨_, rfl, rfl, _, rfl, ?_⟩
    refine ⟨_, rfl, rfl, _, rfl, ?_⟩
    refine ⟨_, rfl, g, _, _, rfl, M.ob, rfl, _, rfl, p, _, 2, _, rfl, rfl, hp, rfl, ?_⟩
    refine ⟨g, bb, none, Hb, G, ns, us, st, _, b, rfl, M, ⟨bs, h2, h3⟩, hBO.kid hsm (by simp [kids]), by simp; omega, fun f dx H2 M2 => ?_⟩
    exact hQ _ _ M2 (by rw [abs_snoc, ha]; rfl)
  · simp only [RepS] at hR
    obtain ⟨p, rfl, hp0⟩ := hR
    have hp := Evl.ex_t M.ex hp0
    obtain ⟨kvs, hbd, hall⟩ := M.bd
    obtain ⟨hcO, bt, hv, hB⟩ := hall w' c hlk
    refine ⟨_, rfl, rfl, _, rfl, ?_⟩
    refine ⟨_, rfl, p, _, 0, _, rfl, rfl, hp, rfl, ?_⟩
    refine ⟨_, rfl, rfl, _, rfl, ?_⟩
    refine ⟨_, rfl, rfl, _, rfl, ?_⟩
    refine ⟨_, rfl, rfl, _, rfl, ?_⟩
    have hget : DGet H G.bd (.str w') (some (.ref bt)) := by
      have := DGet.k (k := .inr w') hbd
      rw [hv] at this
      exact this
    refine ⟨_, rfl, g, _, _, rfl, M.ob, rfl, _, rfl, g, _, _, _, _, rfl, M.ob, T.cl_Playing, T.n_Playing_bodies, rfl, _, rfl, p, _, 1, _, rfl, rfl, hp, rfl, G.bd, _, rfl, hget, _, rfl, p, _, 1, _, rfl, rfl, hp, rfl, ?_⟩
    refine ⟨g, bt, some w', Hb, G, ns, us, st, l, fr, c, rfl, M, hB, hcO, by omega, fun f dx H2 M2 => ?_⟩
    refine ⟨_, rfl, (by decide), ?_⟩
    have hp2 := Evl.ex_t M2.ex hp0
    refine ⟨_, rfl, p, _, 1, _, rfl, rfl, hp2, rfl, .inl ⟨w', rfl, Nat.le_trans hw8 (by decide), w', rfl, ?_, ?_⟩⟩
    · rw [strLen_append, strLen_append]
      exact Nat.le_trans (show _ ≤ 100 by show 0 + 5 + w'.length ≤ 100; omega) (by decide)
    · exact hQ _ _ M2 (by rw [abs_snoc, abs_snoc]; show _ = _; rw [hr0, ← hfu, ← hrest]; rfl)
  · simp only [RepS] at hR
    obtain ⟨p, q, ps, rfl, hp0, hq, hfz, hW⟩ := hR
    have hp := Evl.ex_t M.ex hp0
    obtain ⟨oq, hoq, hod⟩ := hfz.mono M.ex
    obtain ⟨kvs, hk1, hk2, hk3⟩ := RepP.kvs hW
    obtain ⟨qb2, hqb2, hB0⟩ := hk3 i lb b hli hbi
    have hnd : ls.Nodup := by
      obtain ⟨ah, n0, l0, hL0, _, _⟩ := hBO
      have h0 := hL0.get hsm
      cases n0 with
      | zero => simp [OkS] at h0
      | succ n =>
        simp only [OkS] at h0
        exact h0.2.2.2.1
    have ndk : (kvs.map (·.1)).Nodup := by
      rw [hk2]
      exact List.Pairwise.map _ (fun a b hab e => hab (Sum.inr.inj e)) hnd
    refine ⟨_, rfl, rfl, _, rfl, ?_⟩
    refine ⟨_, rfl, p, _, 0, _, rfl, rfl, hp, rfl, ?_⟩
    refine ⟨_, rfl, rfl, _, rfl, ?_⟩
    refine ⟨_, rfl, g, _, _, rfl, M.ob, rfl, _, rfl, p, _, 1, _, rfl, rfl, hp, rfl, q, oq, ps, kvs, rfl, hoq, hod, pk_mono M.ex hk1, fun d hd0 => ?_⟩
    have hd : upd H d (.dK (mergeK [] kvs)) d = some (.dK kvs) := by rw [upd_same, merge_self ndk]
    have hget : DGet (upd H d (.dK (mergeK [] kvs))) d (.str lb) (some (.ref qb2)) := by
      have := DGet.k (k := .inr lb) hd
      rw [valV_at ndk hqb2] at this
      exact this
    have M1 := M.grow (Evl.Ex.new (o := .dK (mergeK [] kvs)) hd0)
    refine ⟨_, rfl, d, _, rfl, hget, ?_⟩
    refine ⟨g, qb2, none, Hb, G, ns, us, st, l, fr, b, rfl, M1, hB0, hBO.kid hsm (List.mem_of_getElem? hbi), by omega, fun f dx H2 M2 => ?_⟩
    refine ⟨_, rfl, (by decide), ?_⟩
    refine ⟨_, rfl, .inl ⟨lb, rfl, Nat.le_trans h8 (by decide), lb, rfl, ?_, ?_⟩⟩
    · rw [strLen_append, strLen_append]
      exact Nat.le_trans (show _ ≤ 100 by show 0 + 7 + lb.length ≤ 100; omega) (by decide)
    · exact hQ _ _ M2 (by rw [abs_snoc, abs_snoc]; show _ = _; rw [hr0, ← hfu, ← hrest]; rfl)
  · have hX1 : x ∈ wds ns ∧ OkW (szf ns x) wz := by
      obtain ⟨ah, n0, l0, hL0, _, _⟩ := hBO
      have h0 := hL0.get hsm
      cases n0 <;> cases l0 <;> simpa only [OkS] using h0
    obtain ⟨hx, _, l3, _, hall⟩ := hX1
    have h12 : ∀ y ∈ wz, y.2 ≤ 12 := fun y hy => (hall y hy).2.2.2
    have hwl := wheel_len wz h12
    have hkl := (List.getElem?_eq_some_iff.mp hk).1
    have hR1 := hR.mono M.ex
    have hR0 := hR1
    simp only [RepS] at hR1
    obtain ⟨p, q, ps, rfl, hp, hq, hfz, hW⟩ := hR1
    refine ⟨_, rfl, rfl, _, rfl, ?_⟩
    refine ⟨_, rfl, p, _, 0, _, rfl, rfl, hp, rfl, ?_⟩
    refine ⟨_, rfl, rfl, _, rfl, ?_⟩
    refine ⟨_, rfl, rfl, _, rfl, ?_⟩
    refine ⟨_, rfl, _, x, wz, rfl, hR0, l3, h12, fun q1 H1 hq1 e1 hd1 => ?_⟩
    have M1 := M.grow e1
    have hS1 : SqL K H1 q1 ((wheel wz).map fun v : Nat => V.int (v : Int)) := SqL.of hd1
    refine ⟨_, rfl, g, _, _, rfl, M1.ob, rfl, _, rfl, p, _, 1, _, rfl, rfl, Evl.ex_t e1 hp, rfl, _, rfl, _, rfl, _, _, _, _, rfl, rfl, hS1, atI_nat (j := k) (by rw [List.getElem?_map, hk]; rfl), ?_⟩
    have hq1b := Evl.fresh_back M.ex hq1
    have Mk := M1.known hd1 hq1b (ne_of_none M.bg hq1)
    refine ⟨g, x, _, _, G, ns, us, st, l, fr, rfl, Mk, hok, hst, hx, fun H2 M2 => ?_⟩
    have hd2 : H2 q1 = some (.lst ((wheel wz).map fun v : Nat => V.int (v : Int))) := M2.ex _ _ upd_same
    have hS2 : SqL K H2 q1 ((wheel wz).map fun v : Nat => V.int (v : Int)) := SqL.of hd2
    have lk := dec_len k (by omega)
    have lw := dec_len (wheel wz).length (by omega)
    refine ⟨_, rfl, (by decide), ?_⟩
    refine ⟨_, rfl, .inr ⟨_, rfl, Nat.lt_of_le_of_lt (Nat.log2_le_self _) (show ((k : Int)).natAbs < 1920 by omega), _, rfl, ?_, ?_⟩⟩
    · rw [strLen_append, strLen_append]
      exact Nat.le_trans (show _ ≤ 100 by show 0 + 5 + (toString (k : Int) : Str).length ≤ 100; omega) (by decide)
    refine ⟨_, rfl, ?_, ?_⟩
    · rw [strLen_append, strLen_append, strLen_append]
      exact Nat.le_trans (show _ ≤ 100 by show 0 + 5 + (toString (k : Int) : Str).length + 4 ≤ 100; omega) (by decide)
    refine ⟨_, rfl, q1, _, rfl, .inl hS2, ?_⟩
    rw [List.length_map]
    refine .inr ⟨_, rfl, Nat.lt_of_le_of_lt (Nat.log2_le_self _) (show (((wheel wz).length : Nat) : Int).natAbs < 1920 by omega), _, rfl, ?_, ?_⟩
    · rw [strLen_append, strLen_append, strLen_append, strLen_append]
      exact Nat.le_trans (show _ ≤ 100 by show 0 + 5 + (toString (k : Int) : Str).length + 4 + (toString (((wheel wz).length : Nat) : Int) : Str).length ≤ 100; omega) (by decide)
    exact hQ _ _ _ (Evl.Ex.new hq1b) M2 (by rw [abs_snoc]; show _ = _; rw [hr0, ← hfu, ← hrest])
theorem ok_Playing_step (T : Txt K mg) (MD_begin : Met P w K mg base 3 (He.ga K "Playing") "begin" (spBegin K) [.non]) (MD_begin_behind : Met P w K mg base 4 (He.ga K "Playing") "begin_behind" (spBehind K) [.non]) (M_begin_behind : Met P w K mg base 4 (He.ga K "Playing") "begin_behind" (spBehind K) []) (M_set_value : Met P w K mg base 6 (He.ga K "Playing") "set_value" (spSetV K) []) (C_wheel_values : Cal P w K mg base 1 "wheel_values" (spWheel K) []) : Met P w K mg base 7 (He.ga K "Playing") "step" (spStep K) [] := by
  obtain ⟨fd, F⟩ := T.d_Playing_step
  exact ⟨_, fd, ["self", "statement", "item"], [], T.cl_Playing, T.m_Playing_step, fn_Playing_step T MD_begin MD_begin_behind M_begin_behind M_set_value C_wheel_values F, F.bindsN fun _ _ _ _ _ _ us hl => match us, hl with | [_, _, _], _ => rfl, .nil⟩

abbrev N_Playing_init : List Str := ["self", "system", "store", "unit", "body"]
theorem sc_Playing_init : FnScope N_Playing_init ["self", "system", "store"] (defScope (inClass (top 72) 0)) := ⟨rfl, rfl, rfl, by decide +kernel, rfl, by decide +kernel, by decide +kernel⟩
def spPlaying (K : PySem.W.Frag) : Sp := fun vs H Q _ => ∃ (x dx a : Addr) (st : Nat) (H0 : Hp) (ns : NS) (units pre : US) (un : Str) (b : List Sm), vs = [.ref x, .ref a, .int (st : Int)] ∧ H = upd (upd H0 dx (.own x)) x (.ins (He.ga K "Playing") dx []) ∧ H0 x = none ∧ H0 dx = none ∧ dx ≠ x ∧
  SysAt K H0 a ns units ∧ SysOk ns units ∧ units = pre ++ [(un, b)] ∧ ∀ Hb H' G fr, Ex H0 Hb → Gm K Hb H' x G ns units st [fr] → fr.b = b → fr.pl = 0 → fr.u = some un → Q .non H'
theorem fn_Playing_init (T : Txt K mg) (M_Space : Mak P w K mg base 5 "Space" (He.ga K "Space") (spSpace K) []) (M_begin : Met P w K mg base 3 (He.ga K "Playing") "begin" (spBegin K) []) {fd : FuncData} (F : FunD K "__init__" "Playing.__init__" (defArgs (inClass (top 72) 0)) (defBody (inClass (top 72) 0)) (defScope (inClass (top 72) 0)) [] [] (He.ma K (He.ga K "Playing") "__init__") fd) : FnOk P w K mg base C8.CX0 7 (He.ma K (He.ga K "Playing") "__init__") fd ["self", "system", "store"] (spPlaying K) := by
  refine F.ok sc_Playing_init (fun vs H Q E h => by obtain ⟨_, _, _, _, _, _, _, _, _, _, rfl, _⟩ := h; rfl) (fun cdv A outer s H vs Q E hr h => ?_)
  have hu := hu_of hr
  refine ⟨_, PSs.nox (pss_cons (ps_fld (pv 0) (pe_mk M_Space hr (by omega) rfl (pa_cons (pe_ix ix_tup (pv 1) pe_int (fun _ _ => rfl)) pa_nil)) rfl)
      (pss_cons (ps_fld (pv 0) (pe_callTy (call_dictF rfl) (by rfl) T.f_dict (by decide +kernel) (pa_cons (pe_ix ix_tup (pv 1) pe_int (fun _ _ => rfl)) pa_nil)) rfl)
      (pss_cons (ps_fld (pv 0) (pv 2) rfl)
      (pss_cons (ps_fld (pv 0) (pe_lst pa_nil) rfl)
      (pss_cons (ps_asg (pe_ix ix_tup (pe_ix ix_tup (pv 1) pe_int (fun _ _ => rfl)) (pe_un un_neg pe_int) (fun _ _ => rfl)) (pg_tup (by rfl) (pgs_cons (pg_name (i := 3) sc_Playing_init.nd rfl (Or.inl rfl)) (pgs_cons (pg_name (i := 4) sc_Playing_init.nd rfl (Or.inl rfl)) pgs_nil))))
      (pss_one (ps_expr (pe_mt M_begin hr (by omega) (pv 0) (pa_cons (pv 4) (pa_cons (pv 3) pa_nil)))))))))), ?_⟩
  obtain ⟨x, dx, a, st, H0, ns, units, pre, un, b, rfl, rfl, hx0, hd0, hne, hS, hO, hU, hQ⟩ := h
  have hok := hO.nok
  have e0 : Ex H0 (upd (upd H0 dx (.own x)) x (.ins (He.ga K "Playing") dx [])) := fun c o hc => by
    rw [upd_ne (ne_of_none hc hx0), upd_ne (ne_of_none hc hd0)]; exact hc
  have hx1 : upd (upd H0 dx (.own x)) x (.ins (He.ga K "Playing") dx []) x = some (.ins (He.ga K "Playing") dx []) := upd_same
  generalize upd (upd H0 dx (.own x)) x (.ins (He.ga K "Playing") dx []) = H1 at e0 hx1 ⊢
  obtain ⟨pn, pu, o, ou, ps, us, ha, hpn, ho, hT, hpu, hou, hR⟩ := hS.ex
  refine ⟨_, rfl, a, _, 0, _, rfl, rfl, Evl.ex_t e0 ha, rfl, fun sx sdx hsx hsd hsne => ?_⟩
  have e1 : Ex H1 (upd (upd H1 sdx (.own sx)) sx (.ins (He.ga K "Space") sdx [])) := fun c o hc => by
    rw [upd_ne (ne_of_none hc hsx), upd_ne (ne_of_none hc hsd)]; exact hc
  have hss : upd (upd H1 sdx (.own sx)) sx (.ins (He.ga K "Space") sdx []) sx = some (.ins (He.ga K "Space") sdx []) := upd_same
  have hk1 : ∀ (H2 : Hp), (∀ q o, q ≠ sx → upd (upd H1 sdx (.own sx)) sx (.ins (He.ga K "Space") sdx []) q = some o → H2 q = some o) → Ex H1 H2 := fun H2 hk c o hc => hk c o (ne_of_none hc hsx) (e1 c o hc)
  refine ⟨sx, sdx, pn, ps, ns, rfl, hss, .inr ⟨o, e1 _ _ (e0 _ _ hpn), ho⟩, hT.mono (e0.trans e1), hok, fun H2 hk hsp => ⟨rfl, ?_⟩⟩
  have e2 : Ex H1 H2 := hk1 H2 hk
  clear hk1 hk hss e1
  have hx2 := e2 _ _ hx1
  have hc : off H2 x x = none := by unfold off; rw [if_pos rfl]
  have hspc := off_space hx2 hsp
  have ec : Ex H0 (off H2 x) := fun c o hcc => off_at (e2 _ _ (e0 _ _ hcc)) (ne_of_none hcc hx0)
  have e2c : Ex (off H2 x) H2 := off_ex
  generalize off H2 x = Hc at hc hspc ec e2c
  refine ⟨_, rfl, x, _, dx, _, rfl, hx2, T.cl_Playing, T.n_Playing_space, (by show 0 < 1000; decide), ?_⟩
  have e3 : Ex Hc (upd H2 x (.ins (He.ga K "Playing") dx (putF "space" (.ref sx) []))) := Evl.Ex.mut e2c hc
  have hx3 : upd H2 x (.ins (He.ga K "Playing") dx (putF "space" (.ref sx) [])) x = some (.ins (He.ga K "Playing") dx [("space", .ref sx)]) := upd_same
  generalize upd H2 x (.ins (He.ga K "Playing") dx (putF "space" (.ref sx) [])) = H3 at e3 hx3 ⊢
  have e03 := ec.trans e3
  obtain ⟨kvs, hkv, hkk, hk3⟩ := unit_kvs (hR.mono ec)
  have ndk : (kvs.map (·.1)).Nodup := by
    rw [hkk]
    have : (units.map fun u => (Sum.inr u.1 : Key)) = (units.map Prod.fst).map Sum.inr := by simp
    rw [this]
    exact List.Pairwise.map _ (fun a b hab e => hab (Sum.inr.inj e)) hO.und
  have hkv := pk_mono e3 hkv
  refine ⟨_, rfl, a, _, 1, _, rfl, rfl, Evl.ex_t e03 ha, rfl, pu, ou, us, kvs, rfl, e03 _ _ hpu, hou, hkv, fun bd hbd => ?_⟩
  refine ⟨_, rfl, x, _, dx, _, rfl, Evl.Ex.new hbd _ _ hx3, T.cl_Playing, T.n_Playing_bodies, (by show 1 < 1000; decide), ?_⟩
  have e4 : Ex Hc (upd (upd H3 bd (.dK (mergeK [] kvs))) x (.ins (He.ga K "Playing") dx (putF "bodies" (.ref bd) [("space", .ref sx)]))) := Evl.Ex.mut (e3.trans (Evl.Ex.new hbd)) hc
  have hx4 : upd (upd H3 bd (.dK (mergeK [] kvs))) x (.ins (He.ga K "Playing") dx (putF "bodies" (.ref bd) [("space", .ref sx)])) x = some (.ins (He.ga K "Playing") dx [("space", .ref sx), ("bodies", .ref bd)]) := upd_same
  have hb4 : upd (upd H3 bd (.dK (mergeK [] kvs))) x (.ins (He.ga K "Playing") dx (putF "bodies" (.ref bd) [("space", .ref sx)])) bd = some (.dK kvs) := by
    rw [upd_ne (ne_of_none hx3 hbd).symm, upd_same, merge_self ndk]
  generalize upd (upd H3 bd (.dK (mergeK [] kvs))) x (.ins (He.ga K "Playing") dx (putF "bodies" (.ref bd) [("space", .ref sx)])) = H4 at e4 hx4 hb4 ⊢
  have nbx : bd ≠ x := fun z => by rw [z, hx4] at hb4; cases hb4
  refine ⟨_, rfl, _, rfl, x, _, dx, _, rfl, hx4, T.cl_Playing, T.n_Playing_store, (by show 2 < 1000; decide), ?_⟩
  have e5 : Ex Hc (upd H4 x (.ins (He.ga K "Playing") dx (putF "store" (.int (st : Int)) [("space", .ref sx), ("bodies", .ref bd)]))) := Evl.Ex.mut e4 hc
  have hx5 : upd H4 x (.ins (He.ga K "Playing") dx (putF "store" (.int (st : Int)) [("space", .ref sx), ("bodies", .ref bd)])) x = some (.ins (He.ga K "Playing") dx [("space", .ref sx), ("bodies", .ref bd), ("store", .int (st : Int))]) := upd_same
  have hb5 : upd H4 x (.ins (He.ga K "Playing") dx (putF "store" (.int (st : Int)) [("space", .ref sx), ("bodies", .ref bd)])) bd = some (.dK kvs) := by
    rw [upd_ne nbx]; exact hb4
  generalize upd H4 x (.ins (He.ga K "Playing") dx (putF "store" (.int (st : Int)) [("space", .ref sx), ("bodies", .ref bd)])) = H5 at e5 hx5 hb5 ⊢
  refine ⟨Nat.zero_le _, fun bg hbg => ?_⟩
  refine ⟨_, rfl, x, _, dx, _, rfl, Evl.Ex.new hbg _ _ hx5, T.cl_Playing, T.n_Playing_begun, (by show 3 < 1000; decide), ?_⟩
  have hbc := Evl.fresh_back e5 hbg
  have nxb : x ≠ bg := ne_of_none hx5 hbg
  have e6 : Ex Hc (upd (upd H5 bg (.lst [])) x (.ins (He.ga K "Playing") dx (putF "begun" (.ref bg) [("space", .ref sx), ("bodies", .ref bd), ("store", .int (st : Int))]))) := Evl.Ex.mut (e5.trans (Evl.Ex.new hbg)) hc
  have M : Gm K Hc (upd (upd H5 bg (.lst [])) x (.ins (He.ga K "Playing") dx (putF "begun" (.ref bg) [("space", .ref sx), ("bodies", .ref bd), ("store", .int (st : Int))]))) x ⟨dx, sx, bd, bg⟩ ns units st [] :=
    ⟨e6, upd_same, hc, hspc, by rw [upd_ne nxb.symm]; exact upd_same, hbc, ⟨kvs, by rw [upd_ne nbx]; exact Evl.Ex.new hbg _ _ hb5, fun v c hv => by
      obtain ⟨i, hi⟩ := lookup_ix hv
      obtain ⟨bt, h1, h2⟩ := hk3 i _ hi
      exact ⟨hO.unit hv, bt, valV_at ndk h1, h2⟩⟩, (fun fr h => by cases h), (fun fr h => by cases h), (by simp)⟩
  generalize upd (upd H5 bg (.lst [])) x (.ins (He.ga K "Playing") dx (putF "begun" (.ref bg) [("space", .ref sx), ("bodies", .ref bd), ("store", .int (st : Int))])) = H6 at M ⊢
  have e06 := ec.trans M.ex
  obtain ⟨lus, v, el, hv⟩ := rep_last hR hU
  obtain ⟨q, pb, rfl, hq, hB⟩ := hv
  refine ⟨_, rfl, a, _, 1, _, rfl, rfl, Evl.ex_t e06 ha, rfl, _, rfl, pu, _, _, _, rfl, rfl, Evl.ex_t e06 (.inl (.inr ⟨ou, hpu⟩)), last_ref el, ?_⟩
  refine ⟨q, _, rfl, Evl.ex_t e06 hq, rfl, _, _, rfl, _, _, rfl, rfl, ?_⟩
  refine ⟨_, rfl, x, _, _, rfl, M.ob, rfl, _, rfl, _, rfl, x, pb, some un, Hc, ⟨dx, sx, bd, bg⟩, ns, units, st, [], b, rfl, M, hB.mono ec, hO.unit (lookup_of (v := un) hO.und (i := pre.length) (by rw [hU]; simp)), by simp, fun f dx2 H7 M7 => ?_⟩
  exact hQ Hc H7 _ _ ec M7 rfl rfl rfl
theorem ok_Playing_init (T : Txt K mg) (M_Space : Mak P w K mg base 5 "Space" (He.ga K "Space") (spSpace K) []) (M_begin : Met P w K mg base 3 (He.ga K "Playing") "begin" (spBegin K) []) : Mak P w K mg base 7 "Playing" (He.ga K "Playing") (spPlaying K) [] := by
  obtain ⟨fd, F⟩ := T.d_Playing_init
  exact ⟨_, fd, ["self", "system", "store"], [], T.mk_Playing, fn_Playing_init T M_Space M_begin F, T.g_Playing, F.bindsN fun _ _ _ _ _ _ us hl => match us, hl with | [_, _, _], _ => rfl, .nil⟩

end
end K14
namespace K14
open PySem PySem.Spec PyProof.Rows L2 C8
/-! ### plays -/
/-- a step of what is due: the item, the line, the store and what is under way behind it -/
inductive St1 (ns : NS) (us : US) : Nat → List Fr → Option Ans → Str → Nat → List Fr → Prop
  | back {st : Nat} {u : Str} {r : List Fr} (h : WordOk u) : St1 ns us st ((some u, []) :: r) none (Str.empty ++ "back " ++ u) st r
  | loop {st : Nat} {o : Option Str} {c : Tr} {w b : List Sm} {r : List Fr} : St1 ns us st ((o, .whl c w :: b) :: r) none "loop" st ((none, w) :: (o, .whl c w :: b) :: r)
  | call {st : Nat} {o : Option Str} {v : Str} {c b : List Sm} {r : List Fr} (h : us.lookup v = some c) (hv : WordOk v) : St1 ns us st ((o, .cal v :: b) :: r) none (Str.empty ++ "call " ++ v) st ((some v, c) :: (o, b) :: r)
  | cho {st : Nat} {o : Option Str} {ls : List Str} {bs : List (List Sm)} {l : Str} {b' b : List Sm} {i : Nat} {r : List Fr} (h1 : ls[i]? = some l) (h2 : bs[i]? = some b') (h3 : WordOk l) (h4 : ls.length ≤ 3) (h5 : ls.Nodup) : St1 ns us st ((o, .cho ls bs :: b) :: r) (some (.lab l)) (Str.empty ++ "choose " ++ l) st ((none, b') :: (o, b) :: r)
  | drw {st : Nat} {o : Option Str} {x : Str} {wz : List (Nat × Nat)} {k z : Nat} {b : List Sm} {r : List Fr} (h : (wheel wz)[k]? = some z) (h2 : OkW (szf ns x) wz) (hx : x ∈ wds ns) : St1 ns us st ((o, .drw x wz :: b) :: r) (some (.num k)) (turnS k (wheel wz).length) (setN ns st x (z : Int)) ((o, b) :: r)
/-- a play: steps, store, what is under way, items; the lines and the end -/
inductive Pl (ns : NS) (us : US) : Nat → Nat → List Fr → List V → List Str → Option Nat → Prop
  | over {n st : Nat} {xs : List V} (h : st < prodN (szs ns)) : Pl ns us n st [] xs [] (some st)
  | cut {st : Nat} {f : Fr} {r : List Fr} {xs : List V} : Pl ns us 0 st (f :: r) xs [] none
  | want {n st k st' : Nat} {f : Fr} {r fs' : List Fr} (q : Qt ns k st (f :: r) st' fs') (a : (due fs').asks = true) (hp : phF (f :: r) ≤ 300) (ub : UB (f :: r)) : Pl ns us (n + 1) st (f :: r) [] [] none
  | step {n st k st' st2 : Nat} {f : Fr} {r fs' fs2 : List Fr} {line : Str} {xs : List V} {ls : List Str} {e : Option Nat} (q : Qt ns k st (f :: r) st' fs') (s : St1 ns us st' fs' none line st2 fs2) (hp : phF (f :: r) ≤ 300) (ub : UB (f :: r)) (t : Pl ns us n st2 fs2 xs ls e) : Pl ns us (n + 1) st (f :: r) xs (line :: ls) e
  | item {n st k st' st2 : Nat} {f : Fr} {r fs' fs2 : List Fr} {line : Str} {a : Ans} {xs : List V} {ls : List Str} {e : Option Nat} (q : Qt ns k st (f :: r) st' fs') (s : St1 ns us st' fs' (some a) line st2 fs2) (hp : phF (f :: r) ≤ 300) (ub : UB (f :: r)) (t : Pl ns us n st2 fs2 xs ls e) : Pl ns us (n + 1) st (f :: r) (a.v :: xs) (line :: ls) e
/-- the items that a game takes along so many steps -/
inductive Dr (ns : NS) (us : US) : Nat → Nat → List Fr → List Ans → Prop
  | over {n st : Nat} (h : st < prodN (szs ns)) : Dr ns us n st [] []
  | cut {st : Nat} {f : Fr} {r : List Fr} : Dr ns us 0 st (f :: r) []
  | step {n st k st' st2 : Nat} {f : Fr} {r fs' fs2 : List Fr} {line : Str} {xs : List Ans} (q : Qt ns k st (f :: r) st' fs') (s : St1 ns us st' fs' none line st2 fs2) (hp : phF (f :: r) ≤ 300) (ub : UB (f :: r)) (t : Dr ns us n st2 fs2 xs) : Dr ns us (n + 1) st (f :: r) xs
  | item {n st k st' st2 : Nat} {f : Fr} {r fs' fs2 : List Fr} {line : Str} {a : Ans} {xs : List Ans} (q : Qt ns k st (f :: r) st' fs') (s : St1 ns us st' fs' (some a) line st2 fs2) (hp : phF (f :: r) ≤ 300) (ub : UB (f :: r)) (t : Dr ns us n st2 fs2 xs) : Dr ns us (n + 1) st (f :: r) (a :: xs)
/-- the first ones of the items, or all and others -/
def Cp (is : List Ans) (xs : List V) : Prop := (∃ j, xs = (is.take j).map Ans.v) ∨ ∃ odd, xs = is.map Ans.v ++ odd
theorem St1.asks {ns : NS} {us : US} {st : Nat} {fs : List Fr} {a : Ans} {l : Str} {st2 : Nat} {fs2 : List Fr} (s : St1 ns us st fs (some a) l st2 fs2) : (due fs).asks = true := by
  cases s <;> simp [K14.due, Due.asks]
theorem Dr.play {ns : NS} {us : US} {n st : Nat} {fs : List Fr} {is : List Ans} (d : Dr ns us n st fs is) : ∀ {m : Nat} {xs : List V}, m ≤ n → Cp is xs → ∃ ls e, Pl ns us m st fs xs ls e := by
  induction d with
  | over h => intro m xs _ _; exact ⟨_, _, .over h⟩
  | cut =>
    intro m xs hm _
    obtain rfl : m = 0 := by omega
    exact ⟨_, _, .cut⟩
  | step q s hp ub t ih =>
    intro m xs hm hc
    cases m with
    | zero => exact ⟨_, _, .cut⟩
    | succ m =>
      obtain ⟨ls, e, p⟩ := ih (m := m) (by omega) hc
      exact ⟨_, _, .step q s hp ub p⟩
  | @item n st k st' st2 f r fs' fs2 line a is q s hp ub t ih =>
    intro m xs hm hc
    cases m with
    | zero => exact ⟨_, _, .cut⟩
    | succ m =>
      have key : xs = [] ∨ ∃ ys, xs = a.v :: ys ∧ Cp is ys := by
        rcases hc with ⟨j, rfl⟩ | ⟨odd, rfl⟩
        · cases j with
          | zero => exact .inl rfl
          | succ j => exact .inr ⟨_, rfl, .inl ⟨j, rfl⟩⟩
        · exact .inr ⟨_, rfl, .inr ⟨odd, rfl⟩⟩
      rcases key with rfl | ⟨ys, rfl, hc'⟩
      · exact ⟨_, _, .want q s.asks hp ub⟩
      · obtain ⟨ls, e, p⟩ := ih (m := m) (by omega) hc'
        exact ⟨_, _, .item q s hp ub p⟩
theorem Pl.len {ns : NS} {us : US} {n st : Nat} {fs : List Fr} {xs : List V} {ls : List Str} {e : Option Nat} (p : Pl ns us n st fs xs ls e) : ls.length ≤ n := by
  induction p with
  | over => exact Nat.zero_le _
  | cut => exact Nat.le_refl _
  | want => exact Nat.zero_le _
  | step _ _ _ _ _ ih => simp only [List.length_cons]; omega
  | item _ _ _ _ _ ih => simp only [List.length_cons]; omega
/-- a line as it may be -/
def LineOk (z : Str) : Prop := (∀ c ∈ z.cps.toList, c < 123) ∧ z.length ≤ 20
theorem cps_app (a b : Str) : (a ++ b).cps.toList = a.cps.toList ++ b.cps.toList := by
  show (a.cps ++ b.cps).toList = _
  rw [Array.toList_append]
theorem head_ok : (∀ c ∈ (Str.empty ++ ("back " : Str)).cps.toList, c < 123) ∧ (∀ c ∈ (Str.empty ++ ("call " : Str)).cps.toList, c < 123) ∧ (∀ c ∈ (Str.empty ++ ("choose " : Str)).cps.toList, c < 123) ∧ (∀ c ∈ (Str.empty ++ ("turn " : Str)).cps.toList, c < 123) ∧ (∀ c ∈ (" of " : Str).cps.toList, c < 123) ∧ LineOk "loop" := by
  refine ⟨by decide +kernel, by decide +kernel, by decide +kernel, by decide +kernel, by decide +kernel, by decide +kernel, by decide +kernel⟩
theorem dec_low (k : Nat) (h : k ≤ 36) : ∀ c ∈ (toString (k : Int) : Str).cps.toList, c < 123 := by
  have key : ∀ k, k < 37 → ∀ c ∈ (toString ((k : Nat) : Int) : Str).cps.toList, c < 123 := by decide +kernel
  exact key k (by omega)
theorem word_line {h w : Str} (h1 : ∀ c ∈ h.cps.toList, c < 123) (h2 : h.length ≤ 12) (hw : WordOk w) : LineOk (h ++ w) := by
  refine ⟨fun c hc => ?_, ?_⟩
  · rw [cps_app] at hc
    rcases List.mem_append.mp hc with hc | hc
    · exact h1 c hc
    · have := hw.low c hc; omega
  · rw [strLen_append]
    have := hw.hi
    omega
theorem turn_line {k n : Nat} (hk : k ≤ 36) (hn : n ≤ 36) : LineOk (turnS k n) := by
  have a := dec_low k hk
  have b := dec_low n hn
  have la := dec_len k hk
  have lb := dec_len n hn
  refine ⟨fun c hc => ?_, ?_⟩
  · unfold turnS at hc
    rw [cps_app, cps_app, cps_app] at hc
    rcases List.mem_append.mp hc with hc | hc
    · rcases List.mem_append.mp hc with hc | hc
      · rcases List.mem_append.mp hc with hc | hc
        · exact head_ok.2.2.2.1 c hc
        · exact a c hc
      · exact head_ok.2.2.2.2.1 c hc
    · exact b c hc
  · unfold turnS
    rw [strLen_append, strLen_append, strLen_append]
    show 0 + 5 + _ + 4 + _ ≤ 20
    omega
theorem St1.lineOk {ns : NS} {us : US} {st : Nat} {fs : List Fr} {a : Option Ans} {l : Str} {st2 : Nat} {fs2 : List Fr} (s : St1 ns us st fs a l st2 fs2) : LineOk l := by
  cases s with
  | back h => exact word_line head_ok.1 (by show 5 ≤ 12; omega) h
  | loop => exact head_ok.2.2.2.2.2
  | call h hv => exact word_line head_ok.2.1 (by show 5 ≤ 12; omega) hv
  | cho h1 h2 h3 h4 h5 => exact word_line head_ok.2.2.1 (by show 7 ≤ 12; omega) h3
  | drw h h2 hx =>
    have h5 := wheel_len _ fun z hz => (h2.2.2.2 z hz).2.2.2
    have h6 := (List.getElem?_eq_some_iff.mp h).1
    have h7 := h2.2.1
    exact turn_line (by omega) (by omega)
theorem Pl.linesOk {ns : NS} {us : US} {n st : Nat} {fs : List Fr} {xs : List V} {ls : List Str} {e : Option Nat} (p : Pl ns us n st fs xs ls e) : ∀ l ∈ ls, LineOk l := by
  induction p with
  | over => intro l h; cases h
  | cut => intro l h; cases h
  | want => intro l h; cases h
  | step _ s _ _ _ ih =>
    intro l h
    rcases List.mem_cons.mp h with rfl | h
    · exact s.lineOk
    · exact ih l h
  | item _ s _ _ _ ih =>
    intro l h
    rcases List.mem_cons.mp h with rfl | h
    · exact s.lineOk
    · exact ih l h
theorem Pl.stOk {ns : NS} {us : US} {n st : Nat} {fs : List Fr} {xs : List V} {ls : List Str} {e : Option Nat} (p : Pl ns us n st fs xs ls e) : ∀ s, e = some s → s < prodN (szs ns) := by
  induction p with
  | over h => intro s e; cases e; exact h
  | cut => intro s e; cases e
  | want => intro s e; cases e
  | step _ _ _ _ _ ih => exact ih
  | item _ _ _ _ _ ih => exact ih
theorem Qt.len {ns : NS} {k st st1 : Nat} {fs fs1 : List Fr} (q : Qt ns k st fs st1 fs1) : k + phF fs1 ≤ phF fs := by
  induction q with
  | stay h => omega
  | turn h r ih => have := qs_dec h; omega
theorem fs_len : ∀ fs : List Fr, fs.length ≤ phF fs
  | [] => Nat.le_refl _
  | f :: r => by
    have := fs_len r
    simp only [phF, List.length_cons]
    omega
theorem St1.lt {ns : NS} {us : US} (hok : NsOk ns) {st : Nat} {fs : List Fr} {a : Option Ans} {l : Str} {st2 : Nat} {fs2 : List Fr} (s : St1 ns us st fs a l st2 fs2) (h : st < prodN (szs ns)) : st2 < prodN (szs ns) := by
  cases s with
  | back => exact h
  | loop => exact h
  | call => exact h
  | cho => exact h
  | drw h1 h2 hx => exact setN_lt' hok h hx _
/-! ### frames lie one within another -/
mutual
theorem phS_le : ∀ s : Sm, phS s ≤ 2 * cntS s
  | .set _ _ => by simp [phS, cntS]
  | .iff _ t e => by
    have h1 := phL_le t
    have h2 := phL_le e
    simp only [phS, cntS]
    omega
  | .whl _ b => by simp only [phS, cntS]; omega
  | .drw _ _ => by simp [phS]
  | .cho _ _ => by simp [phS]
  | .cal _ => by simp [phS]
theorem phL_le : ∀ b : List Sm, phL b ≤ 2 * cntL b
  | [] => by simp [phL]
  | s :: b => by
    have h1 := phS_le s
    have h2 := phL_le b
    simp only [phL, cntL]
    omega
end
theorem cntL_suf {a b : List Sm} (h : a <:+ b) : cntL a ≤ cntL b := by
  obtain ⟨p, rfl⟩ := h
  rw [cntL_app]
  omega
/-- frames: the unit's place, the body that is under way in the frame ahead of them -/
inductive Nest (us : US) : Nat → Option Str → List Sm → List Fr → Prop
  | base {i : Nat} {x : Str} {B : List Sm} (h : us[i]? = some (x, B)) : Nest us i (some x) B []
  | call {i j : Nat} {x : Str} {B B' rest : List Sm} {u' : Option Str} {fs : List Fr} (h : us[i]? = some (x, B)) (hij : i < j) (n : Nest us j u' B' fs) (s : rest <:+ B') : Nest us i (some x) B ((u', rest) :: fs)
  | kid {i : Nat} {u' : Option Str} {B B' pre post rest : List Sm} {s : Sm} {fs : List Fr} (n : Nest us i u' B' fs) (e : B' = pre ++ s :: post) (k : B ∈ kids s) (hr : rest = post ∨ (rest = s :: post ∧ phS s ≤ 1)) : Nest us i none B ((u', rest) :: fs)
section
variable {ns : NS} {us : US} {i : Nat} {u : Option Str} {B : List Sm} {fs : List Fr}
theorem Nest.lt (n : Nest us i u B fs) : i < us.length := by
  induction n with
  | base h => exact (List.getElem?_eq_some_iff.mp h).1
  | call h _ _ _ _ => exact (List.getElem?_eq_some_iff.mp h).1
  | kid _ _ _ _ ih => exact ih
theorem Nest.w (hc : ∀ (i : Nat) (v : Str) (c : List Sm), us[i]? = some (v, c) → cntL c ≤ 20) (n : Nest us i u B fs) : phF fs + 1 + 2 * cntL B ≤ 41 * (us.length - i) := by
  induction n with
  | base h =>
    have h1 := hc _ _ _ h
    have h2 := (List.getElem?_eq_some_iff.mp h).1
    simp only [phF]
    omega
  | @call i j x B B' rest u' fs h hij n s ih =>
    have h1 := hc _ _ _ h
    have h2 := n.lt
    have h3 := phL_le rest
    have h4 := cntL_suf s
    simp only [phF]
    omega
  | @kid i u' B B' pre post rest s fs n e k hr ih =>
    have h3 := phL_le post
    have h5 : cntL B' = cntL pre + (cntS s + cntL post) := by rw [e, cntL_app]; rfl
    have h6 := cntB_mem k
    have h7 := cntB_kids s
    have h8 : phL rest ≤ 1 + phL post := by
      rcases hr with rfl | ⟨rfl, h⟩
      · omega
      · simp only [phL]; omega
    simp only [phF]
    omega
theorem Nest.ub (n : Nest us i u B fs) : ∀ rest, UB ((u, rest) :: fs) := by
  induction n with
  | base h => intro rest; exact ⟨_, rfl⟩
  | call h hij n s ih => intro rest; exact UB.cons (ih _)
  | kid n e k hr ih => intro rest; exact UB.cons (ih _)
theorem Nest.ok (hO : SysOk ns us) (n : Nest us i u B fs) : ∃ n l, OkL (wds ns) (szf ns) ((us.take i).map Prod.fst) n l B := by
  induction n with
  | base h => exact ⟨4, 3, (hO.us _ _ h).ok⟩
  | call h _ _ _ _ => exact ⟨4, 3, (hO.us _ _ h).ok⟩
  | kid n e k hr ih =>
    obtain ⟨m, l, h⟩ := ih
    obtain ⟨m', l', _, h', _⟩ := kids_ok (h.get (by rw [e]; simp)) _ k
    exact ⟨m', l', h'⟩
end
/-- what is under way, as it may be -/
def SO (us : US) : List Fr → Prop
  | [] => True
  | (u, rest) :: r => ∃ i B, Nest us i u B r ∧ rest <:+ B
section
variable {ns : NS} {us : US} {st st' : Nat} {fs fs' : List Fr}
theorem SO.ph (hO : SysOk ns us) : ∀ {fs : List Fr}, SO us fs → phF fs ≤ 246
  | [], _ => by simp [phF]
  | (u, rest) :: r, ⟨i, B, n, s⟩ => by
    have h1 := n.w fun i v c h => (hO.us i _ h).cn
    have h2 := phL_le rest
    have h3 := cntL_suf s
    have h4 := hO.hi
    simp only [phF]
    omega
theorem SO.ub : ∀ {f : Fr} {r : List Fr}, SO us (f :: r) → UB (f :: r)
  | (u, rest), r, ⟨i, B, n, s⟩ => n.ub _
theorem suf_tail {a b : List Sm} {s : Sm} (h : (s :: a) <:+ b) : a <:+ b := (List.suffix_cons s a).trans h
theorem SO.qs : ∀ {fs fs' : List Fr}, SO us fs → qs ns st fs = some (st', fs') → SO us fs'
  | [], _, _, h => by simp [K14.qs] at h
  | (u, []) :: r, fs', ⟨i, B, n, s⟩, h => by
    cases u with
    | some u => simp [K14.qs] at h
    | none =>
      simp only [K14.qs, Option.some.injEq, Prod.mk.injEq] at h
      rw [← h.2]
      cases n with
      | kid n e k hr =>
        refine ⟨_, _, n, ?_⟩
        rcases hr with rfl | ⟨rfl, _⟩
        · rw [e]; exact (List.suffix_cons _ _).trans (List.suffix_append _ _)
        · rw [e]; exact List.suffix_append _ _
  | (u, s :: b) :: r, fs', ⟨i, B, n, sf⟩, h => by
    cases s with
    | set x t =>
      simp only [K14.qs, Option.some.injEq, Prod.mk.injEq] at h
      rw [← h.2]
      exact ⟨i, B, n, suf_tail sf⟩
    | iff c t f =>
      simp only [K14.qs, Option.some.injEq, Prod.mk.injEq] at h
      rw [← h.2]
      obtain ⟨pre, e⟩ := id sf
      refine ⟨i, _, .kid (s := .iff c t f) n e.symm ?_ (.inl rfl), List.suffix_refl _⟩
      split <;> simp [kids]
    | whl c w =>
      simp only [K14.qs] at h
      split at h
      · cases h
      · simp only [Option.some.injEq, Prod.mk.injEq] at h
        rw [← h.2]
        exact ⟨i, B, n, suf_tail sf⟩
    | drw x t => simp [K14.qs] at h
    | cho x t => simp [K14.qs] at h
    | cal x => simp [K14.qs] at h
theorem SO.qt {k : Nat} (q : Qt ns k st fs st' fs') : SO us fs → SO us fs' := by
  induction q with
  | stay h => exact id
  | turn h r ih => exact fun s => ih (s.qs h)
theorem SO.step (hO : SysOk ns us) {a : Option Ans} {l : Str} (s : St1 ns us st fs a l st' fs') (h : SO us fs) : SO us fs' := by
  cases s with
  | @back u r hu =>
    obtain ⟨i, B, n, sf⟩ := h
    cases n with
    | base h => trivial
    | call h hij n s => exact ⟨_, _, n, s⟩
  | loop =>
    obtain ⟨i, B, n, sf⟩ := h
    obtain ⟨pre, e⟩ := id sf
    exact ⟨i, _, .kid n e.symm (by simp [kids]) (.inr ⟨rfl, by simp [phS]⟩), List.suffix_refl _⟩
  | @call o v c b r hv h8 =>
    obtain ⟨i, B, n, sf⟩ := h
    obtain ⟨m, l', hL⟩ := n.ok hO
    have hm := hL.get (sf.subset (List.mem_cons_self ..))
    have hvm : v ∈ (us.take i).map Prod.fst := by
      cases m <;> cases l' <;> simp only [OkS] at hm <;> exact hm.1
    obtain ⟨p, hp, rfl⟩ := List.mem_map.mp hvm
    obtain ⟨j, hj⟩ := List.mem_iff_getElem?.mp hp
    have hji : j < i := by
      have := (List.getElem?_eq_some_iff.mp hj).1
      rw [List.length_take] at this
      omega
    rw [List.getElem?_take_of_lt hji] at hj
    have hc : us.lookup p.1 = some p.2 := lookup_of hO.und hj
    rw [hv] at hc
    cases hc
    exact ⟨j, _, .call hj hji n (suf_tail sf), List.suffix_refl _⟩
  | @cho o ls bs l b' b i r h1 h2 h3 h4 h5 =>
    obtain ⟨i, B, n, sf⟩ := h
    obtain ⟨pre, e⟩ := id sf
    exact ⟨i, _, .kid n e.symm (List.mem_of_getElem? h2) (.inl rfl), List.suffix_refl _⟩
  | drw h1 h2 hx =>
    obtain ⟨i, B, n, sf⟩ := h
    exact ⟨i, B, n, suf_tail sf⟩
theorem SO.bok (hO : SysOk ns us) : ∀ {fs : List Fr}, SO us fs → ∀ {f : Fr} {r : List Fr}, fs = f :: r → ∃ ah n l, OkL (wds ns) (szf ns) ah n l f.2 ∧ ∀ v ∈ ah, ∃ c, us.lookup v = some c
  | (u, rest) :: r, ⟨i, B, n, sf⟩, _, _, rfl => by
    obtain ⟨m, l, hL⟩ := n.ok hO
    refine ⟨_, m, l, OkL.of fun s hs => hL.get (sf.subset hs), fun z hz => ?_⟩
    obtain ⟨p, hp, rfl⟩ := List.mem_map.mp hz
    obtain ⟨j, hj⟩ := List.mem_iff_getElem?.mp (List.mem_of_mem_take hp)
    exact ⟨p.2, lookup_of hO.und hj⟩
/-- what may be due -/
inductive DueS (ns : NS) (us : US) : List Fr → Prop
  | back {u : Str} {r : List Fr} (h : WordOk u) : DueS ns us ((some u, []) :: r)
  | loop {o : Option Str} {c : Tr} {w b : List Sm} {r : List Fr} : DueS ns us ((o, .whl c w :: b) :: r)
  | call {o : Option Str} {v : Str} {c b : List Sm} {r : List Fr} (h : us.lookup v = some c) (hv : WordOk v) : DueS ns us ((o, .cal v :: b) :: r)
  | cho {o : Option Str} {ls : List Str} {bs : List (List Sm)} {b : List Sm} {r : List Fr} (h2 : 2 ≤ ls.length) (h3 : ls.length ≤ 3) (hl : ls.length = bs.length) (nd : ls.Nodup) (hw : ∀ z ∈ ls, WordOk z) : DueS ns us ((o, .cho ls bs :: b) :: r)
  | drw {o : Option Str} {x : Str} {wz : List (Nat × Nat)} {b : List Sm} {r : List Fr} (h2 : OkW (szf ns x) wz) (hx : x ∈ wds ns) : DueS ns us ((o, .drw x wz :: b) :: r)
theorem nest_name (hO : SysOk ns us) {i : Nat} {x : Str} {B : List Sm} {r : List Fr} (n : Nest us i (some x) B r) : WordOk x := by
  cases n with
  | base h => exact (hO.us _ _ h).wd
  | call h _ _ _ => exact (hO.us _ _ h).wd
theorem SO.due (hO : SysOk ns us) : ∀ {fs : List Fr}, SO us fs → fs ≠ [] → K14.qs ns st fs = none → DueS ns us fs
  | [], _, h, _ => absurd rfl h
  | (none, []) :: r, _, _, q => by simp [K14.qs] at q
  | (some u, []) :: r, ⟨i, B, n, sf⟩, _, q => .back (nest_name hO n)
  | (o, s :: b) :: r, h, _, q => by
    obtain ⟨ah, m, l, hL, ha⟩ := h.bok hO rfl
    have hs := hL.get (s := s) (List.mem_cons_self ..)
    cases s with
    | set x t => simp [K14.qs] at q
    | iff c t f => simp [K14.qs] at q
    | whl c w => exact .loop
    | drw x wz =>
      have : x ∈ wds ns ∧ OkW (szf ns x) wz := by cases m <;> cases l <;> simpa only [OkS] using hs
      exact .drw this.2 this.1
    | cho ls bs =>
      cases m with
      | zero => simp [OkS] at hs
      | succ m =>
        simp only [OkS] at hs
        exact .cho hs.1 hs.2.1 hs.2.2.1 hs.2.2.2.1 hs.2.2.2.2.1
    | cal v =>
      have : v ∈ ah ∧ WordOk v := by cases m <;> cases l <;> simpa only [OkS] using hs
      obtain ⟨c, hc⟩ := ha v this.1
      exact .call hc this.2
theorem SO.start (hO : SysOk ns us) {pre : US} {un : Str} {b : List Sm} (hU : us = pre ++ [(un, b)]) : SO us [(some un, b)] :=
  ⟨pre.length, b, .base (by rw [hU]; simp), List.suffix_refl _⟩
end
end K14
namespace K14
open PySem PySem.Spec PyProof.Rows L2 C8

/-- the items, at v -/
def Its (K : PySem.W.Frag) (H : Hp) (v : V) (xs : List V) : Prop := ∃ p, v = .ref p ∧ (SqL K H p xs ∨ SqT K H p xs)
/-- .. as a list or a tuple of its own -/
def ItsO (H : Hp) (v : V) (xs : List V) : Prop := ∃ p, v = .ref p ∧ (H p = some (.lst xs) ∨ H p = some (.tup xs) ∨ ∃ o, H p = some (.frz o (.tup xs)))
theorem ItsO.mono {H H' : Hp} {v : V} {xs : List V} (e : Ex H H') (h : ItsO H v xs) : ItsO H' v xs := by
  obtain ⟨p, h1, h2⟩ := h
  refine ⟨p, h1, ?_⟩
  rcases h2 with h | h | ⟨o, h⟩
  · exact .inl (e _ _ h)
  · exact .inr (.inl (e _ _ h))
  · exact .inr (.inr ⟨o, e _ _ h⟩)
theorem ItsO.its {K : PySem.W.Frag} {H : Hp} {v : V} {xs : List V} (h : ItsO H v xs) : Its K H v xs := by
  obtain ⟨p, h1, h2⟩ := h
  refine ⟨p, h1, ?_⟩
  rcases h2 with h | h | ⟨o, h⟩
  · exact .inl (SqL.of h)
  · exact .inr (SqT.of h)
  · exact .inr (.inl (.inr ⟨o, h⟩))
theorem its_ix {K : PySem.W.Frag} {H : Hp} {p : Addr} {xs : List V} {i : Int} {v : V} {Q : VK} (h : SqL K H p xs ∨ SqT K H p xs) (e : atI xs i = some v) (q : Q v H) : rIx K (.ref p) (.int i) H Q := by
  rcases h with h | h
  · exact .inl ⟨p, xs, i, v, rfl, rfl, h, e, q⟩
  · exact .inr (.inl ⟨p, xs, i, v, rfl, rfl, h, e, q⟩)
def endV : Option Nat → V
  | some st => .int (st : Int)
  | none => .non
structure CalK (P : Program) (w : World) (K : PySem.W.Frag) (mg : Str → Option Value) (base : Heap) (k : Nat) (x : Str) (ks : List Str) (perm : List Nat) (sp : Sp) : Prop where
  ex : ∃ (f : Addr) (fd : FuncData) (ps : List Str), FnOk P w K mg base C8.CX0 k f fd ps sp ∧ mg x = some (.ref f) ∧ PySem.W.keepIn K (.ref f) = true ∧ KBn K fd ps 0 ks (gP perm) (gP perm)
theorem pe_cK0 {X : Cx} {k j : Nat} {x : Str} {sp : Sp} {p pos : Pos} {ks : List Str} {perm : List Nat} {kws : List Keyword} {tk : TA} (c : CalK X.prog X.w X.K X.mg X.base k x ks perm sp) (hr : Room j X.A) (hk : k ≤ j) (hg : Gl X x) (hkw : PK X kws tk)
    (hall : (backToKw pos (keywordEach kws X.env)).all (·.1.isSome) = true := by rfl) (hks : (backToKw pos (keywordEach kws X.env)).filterMap (·.1) = ks := by rfl) (hdb : (x == ("__debug__" : Str)) = false := by decide)
    (hpl : ((backTo pos (starEach [] X.env)).any (·.1) || (backToKw pos (keywordEach kws X.env)).any (·.1.isNone)) = false := by rfl) :
    PE X (.Call (.Name x p) [] kws pos) (fun σ H Q => tk σ H fun zs H1 => zs.length = ks.length ∧ sp (gP perm [] zs) H1 Q C8.E0) := by
  obtain ⟨f, fd, ps, F, hm, kp, b⟩ := c.ex
  refine ⟨fun pins s σ H Q I h => ?_⟩
  refine wpAny_Call_Name_kw (ld_glob I hg hm ?_ hdb)
  refine PySem.W.callWith_KW0 (first := []) I.kIn kp hall ?_ hpl
  refine thn (hkw.run pos pins s σ H _ I h) fun ws s2 ⟨zs, H2, I2, rz, l2, q2⟩ => ⟨I2.kIn, ?_⟩
  rw [hks]
  exact run_fnKn (us := []) (vs := []) F (hr.mono hk) b C8.pass0 I2 .nil rz rfl l2 q2
theorem drop_ix {α : Type} {xs : List α} {i : Nat} {a : α} {r : List α} (h : xs.drop i = a :: r) : xs[i]? = some a ∧ xs.drop (i + 1) = r ∧ i < xs.length := by
  have h1 : i < xs.length := by
    rcases Nat.lt_or_ge i xs.length with q | q
    · exact q
    · rw [List.drop_eq_nil_of_le q] at h; cases h
  rw [List.drop_eq_getElem_cons h1] at h
  injection h with h2 h3
  exact ⟨by rw [List.getElem?_eq_getElem h1, h2], h3, h1⟩
theorem drop_nil {α : Type} {xs : List α} {i : Nat} (h : xs.drop i = []) (hi : i ≤ xs.length) : i = xs.length := by
  have := congrArg List.length h
  simp at this
  omega
section
variable {P : Program} {w : World} {K : PySem.W.Frag} {mg : Str → Option Value} {base : Heap} {ws : List Str}
abbrev N_check_playing : List Str := ["system", "store", "answers", "steps"]
theorem sc_check_playing : FnScope N_check_playing ["system", "store", "answers", "steps"] (defScope (top 73)) := ⟨rfl, rfl, rfl, by decide +kernel, rfl, by decide +kernel, by decide +kernel⟩
def spCheckP (K : PySem.W.Frag) (ws : List Str) : Sp := fun vs H Q _ => ∃ (a : Addr) (st N : Nat) (v : V) (ns : NS) (units : US) (xs : List V), vs = [.ref a, .int (st : Int), v, .int (N : Int)] ∧ SysAt K H a ns units ∧ SysOk ns units ∧ wds ns = ws ∧ st < prodN (szs ns) ∧ N ≤ 2000 ∧ ItsO H v xs ∧ ∀ H', Ex H H' → Q .non H'
theorem ok_check_playing (T : Txt K mg) (C_check_system : Cal P w K mg base 21 "check_system" (spCheckS K ws) []) (M_check_store : Met P w K mg base 3 (He.ga K "Space") "check_store" (spChkStore K) []) (M_Space : Mak P w K mg base 5 "Space" (He.ga K "Space") (spSpace K) []) (C_is_whole_from : Cal P w K mg base 2 "is_whole_from" (spWholeFrom) []) : Cal P w K mg base 22 "check_playing" (spCheckP K ws) [] := by
  obtain ⟨fd, F⟩ := T.d_check_playing
  refine ⟨_, fd, ["system", "store", "answers", "steps"], [], ?_, T.g_check_playing, F.kp, F.bindsN fun _ _ _ _ _ _ us hl => match us, hl with | [_, _, _, _], _ => rfl, .nil⟩
  refine F.ok sc_check_playing (fun vs H Q E h => by obtain ⟨_, _, _, _, _, _, _, rfl, _⟩ := h; rfl) (fun cdv A outer s H vs Q E hr h => ?_)
  have hu := hu_of hr
  refine ⟨_, PSs.nox (pss_cons (ps_expr (pe_c C_check_system hr (by omega) rfl (pa_cons (pv 0) pa_nil)))
      (pss_cons (ps_expr (pe_mt M_check_store hr (by omega) (pe_mk M_Space hr (by omega) rfl (pa_cons (pe_ix ix_tup (pv 0) pe_int (fun _ _ => rfl)) pa_nil)) (pa_cons (pv 1) pa_nil)))
      (pss_cons (ps_if (pt_not (pt_val (pe_c C_is_whole_from hr (by omega) rfl (pa_cons (pv 3) (pa_cons pe_int (pa_cons (pe_gc rfl T.c_MOST_STEPS) pa_nil)))))) (pss_one ps_never) pss_nil)
      (pss_one (ps_if (pt_not (pt_val (pe_callB call_isiT (by rfl) T.f_isinstance (by decide +kernel) (pa_cons (pv 2) (pa_cons (pe_tup (pa_cons (pe_bltn (v := .ty "list") (u := .type "list") (by rfl) T.f_list (by decide +kernel) rfl) (pa_cons (pe_bltn (v := .ty "tuple") (u := .type "tuple") (by rfl) T.f_tuple (by decide +kernel) rfl) pa_nil))) pa_nil))))) (pss_one ps_never) pss_nil))))), ?_⟩
  obtain ⟨a, st, N, v, ns, units, xs, rfl, hS, hO, hw, hst, hN, hA, hQ⟩ := h
  refine ⟨_, rfl, ns, units, a, rfl, hS, hO, hw, fun H1 e1 => ?_⟩
  obtain ⟨pn, pu, o, ou, ps, us, ha, hpn, ho, hT, hpu, hou, hR⟩ := hS.ex
  refine ⟨_, rfl, a, _, 0, _, rfl, rfl, Evl.ex_t e1 ha, rfl, fun sx sdx hsx hsd hsne => ?_⟩
  have e2 : Ex H1 (upd (upd H1 sdx (.own sx)) sx (.ins (He.ga K "Space") sdx [])) := fun c o hc => by
    rw [upd_ne (ne_of_none hc hsx), upd_ne (ne_of_none hc hsd)]; exact hc
  refine ⟨sx, sdx, pn, ps, ns, rfl, upd_same, .inr ⟨o, e2 _ _ (e1 _ _ hpn), ho⟩, hT.mono (e1.trans e2), hO.nok, fun H2 hk hsp => ⟨rfl, ?_⟩⟩
  have e3 : Ex H1 H2 := fun c o hc => hk c o (ne_of_none hc hsx) (e2 c o hc)
  have e13 := e1.trans e3
  obtain ⟨sdx2, t, o2, ps2, hs1, hs2, hs3, hs4⟩ := id hsp
  refine ⟨sx, sdx2, _, rfl, hs1, rfl, _, rfl, sx, ns, st, rfl, hsp, hst, ?_⟩
  refine ⟨_, rfl, _, 0, 2000, rfl, _, rfl, ?_⟩
  refine iteFo (by rw [decide_eq_true (by omega), decide_eq_true (by omega)]; rfl) ?_
  obtain ⟨p, rfl, hp⟩ := hA.mono e13
  rcases hp with hp | hp | ⟨ot, hp⟩
  · refine ⟨_, rfl, (by show 2 ≤ sizeLine; decide), fun tp htp => ⟨.ref p, tp, [.ty "list", .ty "tuple"], .type "list", [.type "list", .type "tuple"], true, rfl, upd_same, .cons (ClsV.ty _) (.cons (ClsV.ty _) .nil), TyX.base (TyOf.lst (Evl.Ex.new htp _ _ hp)), (kitAny_cons (kit_ty (r := true) (by decide +kernel)) (fun z => nomatch z) (fun _ => rfl)), _, rfl, ?_⟩⟩
    exact hQ _ (e13.trans (Evl.Ex.new htp))
  · refine ⟨_, rfl, (by show 2 ≤ sizeLine; decide), fun tp htp => ⟨.ref p, tp, [.ty "list", .ty "tuple"], .type "tuple", [.type "list", .type "tuple"], true, rfl, upd_same, .cons (ClsV.ty _) (.cons (ClsV.ty _) .nil), TyX.base (TyOf.tup (Evl.Ex.new htp _ _ hp)), (kitAny_cons (kit_ty (r := false) (by decide +kernel)) (fun _ => kitAny_cons (kit_ty (r := true) (by decide +kernel)) (fun z => nomatch z) (fun _ => rfl)) (fun z => nomatch z)), _, rfl, ?_⟩⟩
    exact hQ _ (e13.trans (Evl.Ex.new htp))
  · refine ⟨_, rfl, (by show 2 ≤ sizeLine; decide), fun tp htp => ⟨.ref p, tp, [.ty "list", .ty "tuple"], .type "tuple", [.type "list", .type "tuple"], true, rfl, upd_same, .cons (ClsV.ty _) (.cons (ClsV.ty _) .nil), ty_t (.inl (.inr ⟨ot, Evl.Ex.new htp _ _ hp⟩)), (kitAny_cons (kit_ty (r := false) (by decide +kernel)) (fun _ => kitAny_cons (kit_ty (r := true) (by decide +kernel)) (fun z => nomatch z) (fun _ => rfl)) (fun z => nomatch z)), _, rfl, ?_⟩⟩
    exact hQ _ (e13.trans (Evl.Ex.new htp))

abbrev N_play : List Str := ["system", "store", "answers", "steps", "game", "lines", "taken", "statement", "item", "end"]
theorem sc_play : FnScope N_play ["system", "store", "answers", "steps"] (defScope (top 74)) := ⟨rfl, rfl, rfl, by decide +kernel, rfl, by decide +kernel, by decide +kernel⟩
def spPlay (K : PySem.W.Frag) (ws : List Str) : Sp := fun vs H Q _ => ∃ (a : Addr) (st N : Nat) (v : V) (ns : NS) (units pre : US) (un : Str) (b : List Sm) (xs : List V) (lines : List Str) (e : Option Nat), vs = [.ref a, .int (st : Int), v, .int (N : Int)] ∧ SysAt K H a ns units ∧ SysOk ns units ∧ wds ns = ws ∧ st < prodN (szs ns) ∧ N ≤ 2000 ∧ ItsO H v xs ∧ units = pre ++ [(un, b)] ∧ Pl ns units N st [(some un, b)] xs lines e ∧
  ∀ p l H', Ex H H' → H l = none → H' p = some (.tup [.ref l, endV e]) → H' l = some (.lst (lines.map V.str)) → Q (.ref p) H'
theorem fn_play (T : Txt K mg) (C_check_playing : Cal P w K mg base 22 "check_playing" (spCheckP K ws) []) (M_Playing : Mak P w K mg base 7 "Playing" (He.ga K "Playing") (spPlaying K) []) (M_asking : Met P w K mg base 9 (He.ga K "Playing") "asking" (spAsking K ws) []) (M_step : Met P w K mg base 7 (He.ga K "Playing") "step" (spStep K) []) (C_needs_item : Cal P w K mg base 1 "needs_item" (spNeeds K) []) (C_fits : Cal P w K mg base 3 "fits" (spFits K) []) {fd : FuncData} (F : FunD K "play" "play" (defArgs (top 74)) (defBody (top 74)) (defScope (top 74)) [] [] (He.ga K "play") fd) : FnOk P w K mg base C8.CX0 23 (He.ga K "play") fd ["system", "store", "answers", "steps"] (spPlay K ws) := by
  refine F.ok sc_play (fun vs H Q E h => by obtain ⟨_, _, _, _, _, _, _, _, _, _, _, _, rfl, _⟩ := h; rfl) (fun cdv A outer s H vs Q E hr h => ?_)
  have hu := hu_of hr
  refine ⟨_, PSs.nox (pss_cons (ps_expr (pe_c C_check_playing hr (by omega) rfl (pa_cons (pv 0) (pa_cons (pv 1) (pa_cons (pv 2) (pa_cons (pv 3) pa_nil))))))
      (pss_cons (ps_set (i := 4) sc_play.nd rfl (Or.inl rfl) (pe_mk M_Playing hr (by omega) rfl (pa_cons (pv 0) (pa_cons (pv 1) pa_nil))))
      (pss_cons (ps_set (i := 5) sc_play.nd rfl (Or.inl rfl) (pe_lst pa_nil))
      (pss_cons (ps_set (i := 6) sc_play.nd rfl (Or.inl rfl) pe_int)
      (pss_cut (ps_while PassesOwn.never (PW.pt (pw_and (pt_truth (pe_fld (pv 4) rfl) (by intro _; rfl)) (pw_and1 (pt_cmpR op_lt (pe_callB call_len_seq (by rfl) T.f_len (by decide +kernel) (pa_cons (pv 5) pa_nil)) (pv 3) (nomark _))))) (pss_cons (ps_set (i := 7) sc_play.nd rfl (Or.inl rfl) (pe_mt0 M_asking hr (by omega) (pv 4)))
      (pss_cons (ps_set (i := 8) sc_play.nd rfl (Or.inl rfl) pe_non)
      (pss_cons (ps_if (pt_val (pe_c C_needs_item hr (by omega) rfl (pa_cons (pv 7) pa_nil))) (pss_cons (ps_if (pt_cmpR op_eq (pv 6) (pe_callB call_len_seq (by rfl) T.f_len (by decide +kernel) (pa_cons (pv 2) pa_nil)) (nomark _)) (pss_one ps_break) pss_nil)
      (pss_cons (ps_set (i := 8) sc_play.nd rfl (Or.inl rfl) (pe_ix ix_seq (pv 2) (pv 6) (fun _ _ => rfl)))
      (pss_cons (ps_aug (i := 6) sc_play.nd rfl (Or.inl rfl) pe_int ip_add)
      (pss_one (ps_if (pt_not (pt_val (pe_c C_fits hr (by omega) rfl (pa_cons (pv 7) (pa_cons (pv 8) pa_nil))))) (pss_one ps_never) pss_nil))))) pss_nil)
      (pss_one (ps_expr (pe_bm PySem.F.plainAttrs_list PySem.F.slot_list_append PySem.F.type_list_append mt_append (pv 5) (pa_cons (pe_mt M_step hr (by omega) (pv 4) (pa_cons (pv 7) (pa_cons (pv 8) pa_nil))) pa_nil))))))))
      (pss_cons (ps_set (i := 9) sc_play.nd rfl (Or.inl rfl) (pe_ifExp (pt_truth (pe_fld (pv 4) rfl) (by intro _; rfl)) pe_non (pe_fld (pv 4) rfl)))
      (pss_one (ps_ret (pe_tup (pa_cons (pv 5) (pa_cons (pv 9) pa_nil))))))))))), ?_⟩
  obtain ⟨a, st, N, v, ns, units, pre, un, b, xs, lines, e, rfl, hS, hO, rfl, hst, hN, hA, hU, hP, hQ⟩ := h
  refine ⟨_, rfl, _, rfl, _, rfl, _, rfl, a, st, N, v, ns, units, xs, rfl, hS, hO, rfl, hst, hN, hA, fun H1 e1 => ?_⟩
  refine ⟨_, rfl, _, rfl, fun g dx hg hd hne => ?_⟩
  refine ⟨g, dx, a, st, H1, ns, units, pre, un, b, rfl, rfl, hg, hd, hne, hS.mono e1, hO, hU, fun Hb H2 G fr ec M hfb hfp hfu => ⟨rfl, ?_⟩⟩
  refine ⟨Nat.zero_le _, fun l hl => ?_⟩
  have M2 := M.put (l := l) (ys := []) (.inl hl)
  have hlb := Evl.fresh_back M.ex hl
  have hl1 := Evl.fresh_back ec hlb
  have hl0 := Evl.fresh_back e1 hl1
  have ec2 : Ex H (upd Hb l (.lst [])) := (e1.trans ec).trans (Evl.Ex.new hlb)
  have hlk : upd Hb l (.lst []) l = some (.lst []) := upd_same
  have hfl : absF [fr] = [(some un, b)] := by
    simp [absF, hfb, hfp, hfu]
  generalize upd Hb l (.lst []) = Hb2 at M2 ec2 hlk
  generalize upd H2 l (.lst []) = H3 at M2 ⊢
  clear M hlb hl hl1
  refine ⟨fun σ H' => ∃ (Hb : Hp) (frs : List Frm) (st' : Nat) (x6 x7 x8 : Option V), σ = [some (.ref a), some (.int (st : Int)), some v, some (.int (N : Int)), some (.ref g), some (.ref l), x6, x7, x8, none] ∧ Ex H Hb ∧ Hb l = some (.lst (lines.map V.str)) ∧ Gm K Hb H' g G ns units st' frs ∧ ((frs = [] ∧ e = some st') ∨ (frs ≠ [] ∧ e = none)), ?_, ?_⟩
  · refine ⟨fun m σ H' => ∃ (Hb : Hp) (frs : List Frm) (st' : Nat) (l1 l2 : List Str) (tk : Nat) (x7 x8 : Option V), σ = [some (.ref a), some (.int (st : Int)), some v, some (.int (N : Int)), some (.ref g), some (.ref l), some (.int (tk : Int)), x7, x8, none] ∧ Ex H Hb ∧ Hb l = some (.lst (l1.map V.str)) ∧ Gm K Hb H' g G ns units st' frs ∧ st' < prodN (szs ns) ∧ l1.length + m = N ∧ tk ≤ xs.length ∧ lines = l1 ++ l2 ∧ Pl ns units m st' (absF frs) (xs.drop tk) l2 e,
      ⟨N, Hb2, [fr], st, [], lines, 0, none, none, rfl, ec2, hlk, M2, hst, Nat.zero_add _, Nat.zero_le _, rfl, by rw [hfl]; exact hP⟩, ?_⟩
    clear M2 hlk ec2 hfl hP
    rintro m σ H1 ⟨Hb, frs, st', l1, l2, tk, x7, x8, rfl, ec, hlk, M, hst', hlen, htk, hlin, hP⟩
    have hl1 := M.ex _ _ hlk
    have hA1 := (hA.mono (ec.trans M.ex)).its (K := K)
    refine ⟨_, rfl, g, _, _, _, _, rfl, M.ob, T.cl_Playing, T.n_Playing_begun, rfl, _, .inl ⟨_, SqL.of M.bg, rfl⟩, ?_⟩
    generalize hfs : absF frs = fs at hP
    generalize hxs : xs.drop tk = ys at hP
    have hne0 : ∀ {f : Fr} {r : List Fr}, fs = f :: r → (fV frs).isEmpty = false := fun z => by
      cases frs with
      | nil => rw [← hfs] at z; cases z
      | cons a r => rfl
    have hne1 : ∀ {f : Fr} {r : List Fr}, fs = f :: r → frs ≠ [] := fun z y => by
      subst y
      rw [← hfs] at z
      cases z
    have LT : ∀ {Z : Prop}, Z → Z := id
    cases hP with
    | over =>
      have : frs = [] := by
        cases frs with
        | nil => rfl
        | cons a r => have := congrArg List.length hfs; simp [absF] at this
      subst this
      refine iteF ?_
      refine iteF ?_
      exact ⟨Hb, [], st', _, _, _, rfl, ec, by rw [hlk, hlin, List.append_nil], M, .inl ⟨rfl, rfl⟩⟩
    | @cut _ f0 r0 =>
      rw [hne0 rfl]
      refine iteT ?_
      refine ⟨_, rfl, l, _, rfl, .inl (SqL.of hl1), _, rfl, _, _, rfl, rfl, _, rfl, ?_⟩
      rw [List.length_map]
      refine iteFo (decide_eq_false (by omega)) ?_
      exact ⟨Hb, frs, st', _, _, _, rfl, ec, by rw [hlk, hlin, List.append_nil], M, .inr ⟨hne1 rfl, rfl⟩⟩
    | @want n _ k st2 f0 r0 fs2 q ask hp ub =>
      rw [hne0 rfl]
      refine iteT ?_
      refine ⟨_, rfl, l, _, rfl, .inl (SqL.of hl1), _, rfl, _, _, rfl, rfl, _, rfl, ?_⟩
      rw [List.length_map]
      refine iteTo (decide_eq_true (by omega)) ?_
      refine ⟨fun σ' H' => ∃ m', m' < n + 1 ∧ ∃ (Hb : Hp) (frs : List Frm) (st' : Nat) (l1 l2 : List Str) (tk : Nat) (x7 x8 : Option V), σ' = [some (.ref a), some (.int (st : Int)), some v, some (.int (N : Int)), some (.ref g), some (.ref l), some (.int (tk : Int)), x7, x8, none] ∧ Ex H Hb ∧ Hb l = some (.lst (l1.map V.str)) ∧ Gm K Hb H' g G ns units st' frs ∧ st' < prodN (szs ns) ∧ l1.length + m' = N ∧ tk ≤ xs.length ∧ lines = l1 ++ l2 ∧ Pl ns units m' st' (absF frs) (xs.drop tk) l2 none, fun σ' H' h => h, ?_⟩
      refine ⟨_, rfl, g, _, _, rfl, M.ob, rfl, ?_⟩
      have hqb : frs.length + 2 * k ≤ 3000 := by
        have h1 := q.len
        have h2 := fs_len (f0 :: r0)
        have h3 := abs_len frs
        rw [hfs] at h3
        omega
      refine ⟨g, Hb, G, ns, units, st', frs, k, st2, fs2, rfl, M, hO.nok, rfl, hst', by rw [hfs]; exact ub, by rw [hfs]; exact q, hqb, fun frs2 v2 H2 M2 hf2 hst2 hub2 hl2 hdue => ?_⟩
      have hfl2 : frs2.length ≤ 3000 := by omega
      have hnt : tk = xs.length := drop_nil hxs htk
      have hb : frs2 ≠ [] := fun z => by
        subst z
        rw [abs_nil] at hf2
        rw [← hf2] at ask
        cases ask
      obtain ⟨s, hR, hsa⟩ : ∃ s, RepS K Hb s v2 ∧ asksS s = true := by
        cases fs2 with
        | nil => cases ask
        | cons f r =>
          obtain ⟨u, b⟩ := f
          cases b with
          | nil => cases u <;> simp [K14.due, Due.asks] at ask
          | cons s b =>
            refine ⟨s, hdue, ?_⟩
            cases s <;> simp [K14.due, Due.asks] at ask <;> rfl
      refine ⟨_, rfl, v2, rfl, .inr ⟨s, hR.mono M2.ex, fun H3 e3 => ?_⟩⟩
      rw [hsa]
      refine ⟨_, rfl, ?_⟩
      have M3 := M2.grow e3
      have hA3 := (hA.mono (ec.trans M3.ex)).its (K := K)
      obtain ⟨pA, rfl, hpA⟩ := hA3
      refine ⟨_, rfl, _, rfl, pA, xs, rfl, hpA, rfl, _, rfl, ?_⟩
      refine iteTo (decide_eq_true (by rw [hnt])) ?_
      have hn0 : N = N := rfl
      exact ⟨Hb, frs2, st2, _, _, _, rfl, ec, by rw [hlk, hlin, List.append_nil], M3, .inr ⟨hb, rfl⟩⟩
    | @step n _ k st2 st3 f0 r0 fs2 fs3 line _ ls _ q s hp ub t =>
      rw [hne0 rfl]
      refine iteT ?_
      refine ⟨_, rfl, l, _, rfl, .inl (SqL.of hl1), _, rfl, _, _, rfl, rfl, _, rfl, ?_⟩
      rw [List.length_map]
      refine iteTo (decide_eq_true (by omega)) ?_
      refine ⟨fun σ' H' => ∃ m', m' < n + 1 ∧ ∃ (Hb : Hp) (frs : List Frm) (st' : Nat) (l1 l2 : List Str) (tk : Nat) (x7 x8 : Option V), σ' = [some (.ref a), some (.int (st : Int)), some v, some (.int (N : Int)), some (.ref g), some (.ref l), some (.int (tk : Int)), x7, x8, none] ∧ Ex H Hb ∧ Hb l = some (.lst (l1.map V.str)) ∧ Gm K Hb H' g G ns units st' frs ∧ st' < prodN (szs ns) ∧ l1.length + m' = N ∧ tk ≤ xs.length ∧ lines = l1 ++ l2 ∧ Pl ns units m' st' (absF frs) (xs.drop tk) l2 e, fun σ' H' h => h, ?_⟩
      refine ⟨_, rfl, g, _, _, rfl, M.ob, rfl, ?_⟩
      have hqb : frs.length + 2 * k ≤ 3000 := by
        have h1 := q.len
        have h2 := fs_len (f0 :: r0)
        have h3 := abs_len frs
        rw [hfs] at h3
        omega
      refine ⟨g, Hb, G, ns, units, st', frs, k, st2, fs2, rfl, M, hO.nok, rfl, hst', by rw [hfs]; exact ub, by rw [hfs]; exact q, hqb, fun frs2 v2 H2 M2 hf2 hst2 hub2 hl2 hdue => ?_⟩
      have hfl2 : frs2.length ≤ 3000 := by omega
      cases s with
      | @back u r hu =>
        have hv2 : v2 = .non := hdue
        subst hv2
        refine ⟨_, rfl, .non, rfl, .inl ⟨rfl, fun H3 e3 => ?_⟩⟩
        refine ⟨_, rfl, ?_⟩
        have M3 := M2.grow e3
        have hl3 := M3.ex _ _ hlk
        refine ⟨_, rfl, .inl ⟨rfl, _, SqL.of hl3⟩, _, rfl, g, _, _, rfl, M3.ob, rfl, _, rfl, _, rfl, ?_⟩
        refine ⟨g, .non, .non, Hb, G, ns, units, st2, frs2, rfl, M3, hO.nok, hst2, hfl2, .inl ⟨u, _, hf2, rfl, hu.hi, fun frs4 H4 M4 h4 => ?_⟩⟩
        · have hl4 := M4.ex _ _ hlk
          refine ⟨l, _, _, rfl, rfl, hl4, ?_, ?_⟩
          · rw [List.length_map]
            exact Nat.lt_of_le_of_lt (show l1.length ≤ 2000 by omega) (by decide)
          have M5 := M4.put (l := l) (ys := l1.map V.str ++ [V.str (Str.empty ++ "back " ++ u)]) (.inr ⟨_, hlk⟩)
          refine ⟨n, Nat.lt_succ_self _, _, frs4, _, l1 ++ [Str.empty ++ "back " ++ u], ls, tk, _, _, rfl, Evl.Ex.mut ec hl0, by rw [upd_same, List.map_append]; rfl, M5, hst2, by rw [List.length_append]; simp; omega, htk, by rw [hlin]; simp, ?_⟩
          rw [h4]
          rw [hxs]; exact t
      | @loop o c w b r =>
        refine ⟨_, rfl, v2, rfl, .inr ⟨_, RepS.mono M2.ex hdue, fun H3 e3 => ?_⟩⟩
        refine ⟨_, rfl, ?_⟩
        have M3 := M2.grow e3
        have hl3 := M3.ex _ _ hlk
        refine ⟨_, rfl, .inl ⟨rfl, _, SqL.of hl3⟩, _, rfl, g, _, _, rfl, M3.ob, rfl, _, rfl, _, rfl, ?_⟩
        refine ⟨g, v2, .non, Hb, G, ns, units, st2, frs2, rfl, M3, hO.nok, hst2, hfl2, .inr ⟨o, _, b, r, hf2, hdue, .inl ⟨c, w, rfl, fun frs4 H4 M4 h4 => ?_⟩⟩⟩
        · have hl4 := M4.ex _ _ hlk
          refine ⟨l, _, _, rfl, rfl, hl4, ?_, ?_⟩
          · rw [List.length_map]
            exact Nat.lt_of_le_of_lt (show l1.length ≤ 2000 by omega) (by decide)
          have M5 := M4.put (l := l) (ys := l1.map V.str ++ [V.str ("loop")]) (.inr ⟨_, hlk⟩)
          refine ⟨n, Nat.lt_succ_self _, _, frs4, _, l1 ++ [("loop" : Str)], ls, tk, _, _, rfl, Evl.Ex.mut ec hl0, by rw [upd_same, List.map_append]; rfl, M5, hst2, by rw [List.length_append]; simp; omega, htk, by rw [hlin]; simp, ?_⟩
          rw [h4]
          rw [hxs]; exact t
      | @call o w c b r hlk2 hw8 =>
        refine ⟨_, rfl, v2, rfl, .inr ⟨_, RepS.mono M2.ex hdue, fun H3 e3 => ?_⟩⟩
        refine ⟨_, rfl, ?_⟩
        have M3 := M2.grow e3
        have hl3 := M3.ex _ _ hlk
        refine ⟨_, rfl, .inl ⟨rfl, _, SqL.of hl3⟩, _, rfl, g, _, _, rfl, M3.ob, rfl, _, rfl, _, rfl, ?_⟩
        refine ⟨g, v2, .non, Hb, G, ns, units, st2, frs2, rfl, M3, hO.nok, hst2, hfl2, .inr ⟨o, _, b, r, hf2, hdue, .inr (.inl ⟨w, c, rfl, hlk2, hw8.hi, fun frs4 H4 M4 h4 => ?_⟩)⟩⟩
        · have hl4 := M4.ex _ _ hlk
          refine ⟨l, _, _, rfl, rfl, hl4, ?_, ?_⟩
          · rw [List.length_map]
            exact Nat.lt_of_le_of_lt (show l1.length ≤ 2000 by omega) (by decide)
          have M5 := M4.put (l := l) (ys := l1.map V.str ++ [V.str (Str.empty ++ "call " ++ w)]) (.inr ⟨_, hlk⟩)
          refine ⟨n, Nat.lt_succ_self _, _, frs4, _, l1 ++ [Str.empty ++ "call " ++ w], ls, tk, _, _, rfl, Evl.Ex.mut ec hl0, by rw [upd_same, List.map_append]; rfl, M5, hst2, by rw [List.length_append]; simp; omega, htk, by rw [hlin]; simp, ?_⟩
          rw [h4]
          rw [hxs]; exact t
    | @item n _ k st2 st3 f0 r0 fs2 fs3 line aa xs' ls _ q s hp ub t =>
      rw [hne0 rfl]
      refine iteT ?_
      refine ⟨_, rfl, l, _, rfl, .inl (SqL.of hl1), _, rfl, _, _, rfl, rfl, _, rfl, ?_⟩
      rw [List.length_map]
      refine iteTo (decide_eq_true (by omega)) ?_
      refine ⟨fun σ' H' => ∃ m', m' < n + 1 ∧ ∃ (Hb : Hp) (frs : List Frm) (st' : Nat) (l1 l2 : List Str) (tk : Nat) (x7 x8 : Option V), σ' = [some (.ref a), some (.int (st : Int)), some v, some (.int (N : Int)), some (.ref g), some (.ref l), some (.int (tk : Int)), x7, x8, none] ∧ Ex H Hb ∧ Hb l = some (.lst (l1.map V.str)) ∧ Gm K Hb H' g G ns units st' frs ∧ st' < prodN (szs ns) ∧ l1.length + m' = N ∧ tk ≤ xs.length ∧ lines = l1 ++ l2 ∧ Pl ns units m' st' (absF frs) (xs.drop tk) l2 e, fun σ' H' h => h, ?_⟩
      refine ⟨_, rfl, g, _, _, rfl, M.ob, rfl, ?_⟩
      have hqb : frs.length + 2 * k ≤ 3000 := by
        have h1 := q.len
        have h2 := fs_len (f0 :: r0)
        have h3 := abs_len frs
        rw [hfs] at h3
        omega
      refine ⟨g, Hb, G, ns, units, st', frs, k, st2, fs2, rfl, M, hO.nok, rfl, hst', by rw [hfs]; exact ub, by rw [hfs]; exact q, hqb, fun frs2 v2 H2 M2 hf2 hst2 hub2 hl2 hdue => ?_⟩
      have hfl2 : frs2.length ≤ 3000 := by omega
      obtain ⟨hx1, hx2, hx3⟩ := drop_ix hxs
      have hst3 := s.lt hO.nok hst2
      cases s with
      | @cho o ls' bs l' b' b i r h1 h2 h3 h4 h5 =>
        refine ⟨_, rfl, v2, rfl, .inr ⟨_, RepS.mono M2.ex hdue, fun H3 e3 => ?_⟩⟩
        refine ⟨_, rfl, ?_⟩
        have M3 := M2.grow e3
        have hA3 := (hA.mono (ec.trans M3.ex)).its (K := K)
        obtain ⟨pA, rfl, hpA⟩ := hA3
        refine ⟨_, rfl, _, rfl, pA, xs, rfl, hpA, rfl, _, rfl, ?_⟩
        refine iteFo (decide_eq_false (fun z => by have := V.int.inj z; omega)) ?_
        refine ⟨_, rfl, _, rfl, its_ix hpA (atI_nat hx1) ?_⟩
        refine ⟨_, rfl, _, _, rfl, rfl, ?_⟩
        refine ⟨_, rfl, _, rfl, v2, _, .lab l', rfl, RepS.mono M3.ex hdue, ⟨List.mem_of_getElem? h1, h4⟩, fun H5 e5 => ⟨_, rfl, ?_⟩⟩
        refine iteFo rfl ?_
        have M5 := M3.grow e5
        have hl5 := M5.ex _ _ hlk
        refine ⟨_, rfl, .inl ⟨rfl, _, SqL.of hl5⟩, _, rfl, g, _, _, rfl, M5.ob, rfl, _, rfl, _, rfl, ?_⟩
        refine ⟨g, v2, .str l', Hb, G, ns, units, st2, frs2, rfl, M5, hO.nok, hst2, hfl2, .inr ⟨o, _, b, r, hf2, hdue, .inr (.inr (.inl ⟨ls', bs, l', b', i, rfl, rfl, h1, h2, h3.hi, fun frs4 H4 M4 h4 => ?_⟩))⟩⟩
        · have hl4 := M4.ex _ _ hlk
          refine ⟨l, _, _, rfl, rfl, hl4, ?_, ?_⟩
          · rw [List.length_map]
            exact Nat.lt_of_le_of_lt (show l1.length ≤ 2000 by omega) (by decide)
          have M5 := M4.put (l := l) (ys := l1.map V.str ++ [V.str (Str.empty ++ "choose " ++ l')]) (.inr ⟨_, hlk⟩)
          refine ⟨n, Nat.lt_succ_self _, _, frs4, _, l1 ++ [Str.empty ++ "choose " ++ l'], ls, tk + 1, _, _, rfl, Evl.Ex.mut ec hl0, by rw [upd_same, List.map_append]; rfl, M5, hst3, by rw [List.length_append]; simp; omega, by omega, by rw [hlin]; simp, ?_⟩
          rw [h4]
          rw [hx2]; exact t
      | @drw o x wz kk z b r h1 h2 hx =>
        refine ⟨_, rfl, v2, rfl, .inr ⟨_, RepS.mono M2.ex hdue, fun H3 e3 => ?_⟩⟩
        refine ⟨_, rfl, ?_⟩
        have M3 := M2.grow e3
        have hA3 := (hA.mono (ec.trans M3.ex)).its (K := K)
        obtain ⟨pA, rfl, hpA⟩ := hA3
        refine ⟨_, rfl, _, rfl, pA, xs, rfl, hpA, rfl, _, rfl, ?_⟩
        refine iteFo (decide_eq_false (fun z => by have := V.int.inj z; omega)) ?_
        refine ⟨_, rfl, _, rfl, its_ix hpA (atI_nat hx1) ?_⟩
        refine ⟨_, rfl, _, _, rfl, rfl, ?_⟩
        refine ⟨_, rfl, _, rfl, v2, _, .num kk, rfl, RepS.mono M3.ex hdue, ⟨(List.getElem?_eq_some_iff.mp h1).1, h2.2.1, fun y hy => (h2.2.2.2 y hy).2.2.2⟩, fun H5 e5 => ⟨_, rfl, ?_⟩⟩
        refine iteFo rfl ?_
        have M5 := M3.grow e5
        have hl5 := M5.ex _ _ hlk
        refine ⟨_, rfl, .inl ⟨rfl, _, SqL.of hl5⟩, _, rfl, g, _, _, rfl, M5.ob, rfl, _, rfl, _, rfl, ?_⟩
        refine ⟨g, v2, .int (kk : Nat), Hb, G, ns, units, st2, frs2, rfl, M5, hO.nok, hst2, hfl2, .inr ⟨o, _, b, r, hf2, hdue, .inr (.inr (.inr ⟨x, wz, kk, z, rfl, rfl, h1, fun Hb4 frs4 H4 e4 M4 h4 => ?_⟩))⟩⟩
        · have hl4 := M4.ex _ _ (e4 _ _ hlk)
          refine ⟨l, _, _, rfl, rfl, hl4, ?_, ?_⟩
          · rw [List.length_map]
            exact Nat.lt_of_le_of_lt (show l1.length ≤ 2000 by omega) (by decide)
          have M5 := M4.put (l := l) (ys := l1.map V.str ++ [V.str (turnS kk (wheel wz).length)]) (.inr ⟨_, (e4 _ _ hlk)⟩)
          refine ⟨n, Nat.lt_succ_self _, _, frs4, _, l1 ++ [turnS kk (wheel wz).length], ls, tk + 1, _, _, rfl, Evl.Ex.mut (ec.trans e4) hl0, by rw [upd_same, List.map_append]; rfl, M5, hst3, by rw [List.length_append]; simp; omega, by omega, by rw [hlin]; simp, ?_⟩
          rw [h4]
          rw [hx2]; exact t
  · rintro σ H4 ⟨Hb, frs, st', x6, x7, x8, rfl, ec, hlk, M, hend⟩
    have hl1 := M.ex _ _ hlk
    rcases hend with ⟨rfl, rfl⟩ | ⟨hne, rfl⟩
    · refine ⟨_, rfl, g, _, _, _, _, rfl, M.ob, T.cl_Playing, T.n_Playing_begun, rfl, _, .inl ⟨_, SqL.of M.bg, rfl⟩, iteF ?_⟩
      refine ⟨_, rfl, g, _, _, _, _, rfl, M.ob, T.cl_Playing, T.n_Playing_store, rfl, ?_⟩
      refine ⟨_, rfl, _, rfl, (by show 2 ≤ sizeLine; decide), fun p hp => ?_⟩
      refine hQ p l _ ((ec.trans M.ex).trans (Evl.Ex.new hp)) hl0 ?_ (Evl.Ex.new hp _ _ hl1)
      rw [upd_same]
      rfl
    · refine ⟨_, rfl, g, _, _, _, _, rfl, M.ob, T.cl_Playing, T.n_Playing_begun, rfl, _, .inl ⟨_, SqL.of M.bg, rfl⟩, ?_⟩
      have hne : (fV frs).isEmpty = false := by
        cases frs with
        | nil => exact absurd rfl hne
        | cons a r => rfl
      rw [hne]
      refine iteT ?_
      refine ⟨_, rfl, _, rfl, (by show 2 ≤ sizeLine; decide), fun p hp => ?_⟩
      refine hQ p l _ ((ec.trans M.ex).trans (Evl.Ex.new hp)) hl0 ?_ (Evl.Ex.new hp _ _ hl1)
      rw [upd_same]
      rfl
theorem ok_play (T : Txt K mg) (C_check_playing : Cal P w K mg base 22 "check_playing" (spCheckP K ws) []) (M_Playing : Mak P w K mg base 7 "Playing" (He.ga K "Playing") (spPlaying K) []) (M_asking : Met P w K mg base 9 (He.ga K "Playing") "asking" (spAsking K ws) []) (M_step : Met P w K mg base 7 (He.ga K "Playing") "step" (spStep K) []) (C_needs_item : Cal P w K mg base 1 "needs_item" (spNeeds K) []) (C_fits : Cal P w K mg base 3 "fits" (spFits K) []) : Cal P w K mg base 23 "play" (spPlay K ws) [] := by
  obtain ⟨fd, F⟩ := T.d_play
  exact ⟨_, fd, ["system", "store", "answers", "steps"], [], fn_play T C_check_playing M_Playing M_asking M_step C_needs_item C_fits F, T.g_play, F.kp, F.bindsN fun _ _ _ _ _ _ us hl => match us, hl with | [_, _, _, _], _ => rfl, .nil⟩
theorem okK_play (T : Txt K mg) (C_check_playing : Cal P w K mg base 22 "check_playing" (spCheckP K ws) []) (M_Playing : Mak P w K mg base 7 "Playing" (He.ga K "Playing") (spPlaying K) []) (M_asking : Met P w K mg base 9 (He.ga K "Playing") "asking" (spAsking K ws) []) (M_step : Met P w K mg base 7 (He.ga K "Playing") "step" (spStep K) []) (C_needs_item : Cal P w K mg base 1 "needs_item" (spNeeds K) []) (C_fits : Cal P w K mg base 3 "fits" (spFits K) []) : CalK P w K mg base 23 "play" ["steps", "answers", "store", "system"] [3, 2, 1, 0] (spPlay K ws) := by
  obtain ⟨fd, F⟩ := T.d_play
  exact ⟨_, fd, ["system", "store", "answers", "steps"], fn_play T C_check_playing M_Playing M_asking M_step C_needs_item C_fits F, T.g_play, F.kp, F.kbindsP 0 ["steps", "answers", "store", "system"] [3, 2, 1, 0] (fun _ _ _ _ _ _ us ws h1 h2 => match us, ws, h1, h2 with | [], [_, _, _, _], _, _ => rfl)⟩

end
end K14
namespace K14
open PySem PySem.Spec PyProof.Rows L2 C8

/-! ### drawing -/
/-- all stands but the things at S; tuples stand for ever -/
def Go (S : List Addr) (H H' : Hp) : Prop := ∀ a o, H a = some o → (isT o = true ∨ a ∉ S) → H' a = some o
theorem Go.refl {S : List Addr} (H : Hp) : Go S H H := fun _ _ h _ => h
theorem Go.trans {S : List Addr} {H H1 H2 : Hp} (a : Go S H H1) (b : Go S H1 H2) : Go S H H2 := fun x o h t => b x o (a x o h t) t
theorem Go.kt {S : List Addr} {H H' : Hp} (e : Go S H H') : Kt H H' := fun a o h t => e a o h (.inl t)
theorem Go.at {S : List Addr} {H H' : Hp} (e : Go S H H') {a : Addr} {o : HO} (h : H a = some o) (n : a ∉ S) : H' a = some o := e a o h (.inr n)
theorem go {S : List Addr} {H H' : Hp} (e : Ex H H') : Go S H H' := fun a o h _ => e a o h
theorem Go.sub {S S' : List Addr} {H H' : Hp} (e : Go S H H') (h : ∀ a ∈ S, a ∈ S') : Go S' H H' := fun a o ha t => e a o ha (t.imp id fun n m => n (h a m))
theorem Go.mut {S : List Addr} {H H' : Hp} {f : Addr} {u o : HO} (e : Go S H H') (hf : H' f = some u) (n : isT u = false) (hS : f ∈ S) : Go S H (upd H' f o) := fun a v ha t => by
  have : a ≠ f := fun z => by
    rcases t with t | t
    · have := e a v ha (.inl t)
      rw [z, hf] at this
      cases this
      rw [n] at t; cases t
    · exact t (z ▸ hS)
  rw [upd_ne this]; exact e a v ha t
theorem Go.app {S : List Addr} {H H' : Hp} {f : Addr} {o : HO} (e : Go S H H') (hf : H f = none) : Go S H (upd H' f o) := fun a v ha t => by
  rw [upd_ne (ne_of_none ha hf)]; exact e a v ha t
theorem Go.drop {S : List Addr} {p : Addr} {H H' : Hp} (e : Go (p :: S) H H') (h : H p = none) : Go S H H' := fun a o ha t => e a o ha (t.imp id fun n m => by
  rcases List.mem_cons.mp m with z | z
  · rw [z, h] at ha; cases ha
  · exact n z)
theorem Go.free {S : List Addr} {H H' : Hp} (e : Go S H H') {p : Addr} (hn : p ∉ S) (h : H' p = none) : H p = none := by
  cases q : H p with
  | none => rfl
  | some o =>
    have := e p o q (.inr hn)
    rw [h] at this
    cases this
theorem Box.mono {H : Hp} {b : Addr} {c d : Nat} (B : Box H b c) (h : c ≤ d) : Box H b d := by
  obtain ⟨g, f, s, k, h1, h2, h3, h4, h5, h6⟩ := B
  exact ⟨g, f, s, k, h1, h2, h3, h4, h5, by omega⟩
theorem Box.ex {H H' : Hp} {b : Addr} {c : Nat} (B : Box H b c) (e : Ex H H') : Box H' b c := by
  obtain ⟨g, f, s, k, h1, h2, h3, h4, h5, h6⟩ := B
  exact ⟨g, f, s, k, e _ _ h1, h2, h3, h4, h5, h6⟩
theorem Box.ne {H : Hp} {b p : Addr} {c : Nat} (B : Box H b c) (h : H p = none) : p ≠ b := by
  obtain ⟨g, f, s, k, h1, h2, h3, h4, h5, h6⟩ := B
  intro z
  rw [z, h1] at h
  cases h
theorem Box.other {H : Hp} {b p : Addr} {c : Nat} {xs : List V} (B : Box H b c) (h : H p = some (.lst xs)) (hl : xs.length ≠ 4) : p ≠ b := by
  obtain ⟨g, f, s, k, h1, h2, h3, h4, h5, h6⟩ := B
  intro z
  rw [z, h1] at h
  cases h
  exact hl rfl
theorem Box.wd {H : Hp} {b : Addr} {c : Nat} (B : Box H b c) : Wd (K14.off H b) H b c := ⟨off_ex, by simp [K14.off], B⟩
theorem Wd.go {H H' : Hp} {b : Addr} {c d : Nat} (B : Box H b c) (W : Wd (K14.off H b) H' b d) : Go [b] H H' := fun a o ha t => by
  by_cases z : a = b
  · rcases t with t | t
    · obtain ⟨g, f, s, k, h1, _⟩ := B
      rw [z, h1] at ha
      cases ha
      cases t
    · exact absurd (by simp [z]) t
  · exact W.ex a o (off_at ha z)
theorem cal_weaken {P : Program} {w : World} {K : PySem.W.Frag} {mg : Str → Option Value} {base : Heap} {k : Nat} {x : Str} {sp sp' : Sp} {ds : List V} (C : Cal P w K mg base k x sp ds) (h : ∀ vs H Q E, sp' vs H Q E → sp vs H Q E) : Cal P w K mg base k x sp' ds := by
  obtain ⟨f, fd, ps, dv, F, a, b, c, d⟩ := C.ex
  exact ⟨f, fd, ps, dv, ⟨fun vs H Q E q => F.len vs H Q E (h _ _ _ _ q), fun A outer s H args us vs Q E hr e0 hb r q => F.run A outer s H args us vs Q E hr e0 hb r (h _ _ _ _ q)⟩, a, b, c, d⟩
def spTakeG : Sp := fun vs H Q _ => ∃ (b : Addr) (c : Nat) (n : Int), vs = [.ref b, .int n] ∧ Box H b c ∧ c ≤ 1000000 ∧ 0 < n ∧ n ≤ 1000 ∧ ∀ (r : Nat) H', (r : Int) < n → Go [b] H H' → Box H' b (c + 1) → Q (.int (r : Int)) H'
theorem take_g {P : Program} {w : World} {K : PySem.W.Frag} {mg : Str → Option Value} {base : Heap} (C : Cal P w K mg base 1 "_law_take" spTake []) : Cal P w K mg base 1 "_law_take" spTakeG [] :=
  cal_weaken C fun vs H Q E ⟨b, c, n, e, B, hc, h0, h1, hQ⟩ => ⟨K14.off H b, b, c, n, e, B.wd, hc, h0, h1, fun r H' r0 r1 W => by
    obtain ⟨k, rfl⟩ : ∃ k : Nat, r = (k : Int) := ⟨r.toNat, by omega⟩
    exact hQ k H' r1 (W.go B) W.box⟩
theorem Tups.kt {H H' : Hp} (e : Kt H H') : ∀ {ps : List Addr} {ns : NS}, Tups H ps ns → Tups H' ps ns
  | _, _, .nil => .nil
  | _, _, .cons h t => .cons (e _ _ h rfl) (Tups.kt e t)
/-- the names at p -/
def NamesAt (K : PySem.W.Frag) (H : Hp) (p : Addr) (ns : NS) : Prop := ∃ ps, SqT K H p (ps.map V.ref) ∧ Tups H ps ns
theorem NamesAt.kt {K : PySem.W.Frag} {H H' : Hp} {p : Addr} {ns : NS} (e : Kt H H') (h : NamesAt K H p ns) : NamesAt K H' p ns := by
  obtain ⟨ps, h1, h2⟩ := h
  exact ⟨ps, kt_t e h1, h2.kt e⟩
def xN : Nat → Nat
  | 0 => 0
  | n + 1 => 8 + 2 * xN n
def cN : Nat → Nat
  | 0 => 0
  | n + 1 => 4 + 2 * (xN n + cN n)
theorem num_menu (r : Nat) (m : Int) (hm : 0 ≤ m ∧ m < 100) (hr : r < 6) : ∃ i : Int, atI [V.int 0, V.int 1, V.int 2, V.int 3, V.int 99, V.int m] (r : Int) = some (.int i) ∧ 0 ≤ i ∧ i ≤ 99 := by
  have : r = 0 ∨ r = 1 ∨ r = 2 ∨ r = 3 ∨ r = 4 ∨ r = 5 := by omega
  rcases this with rfl | rfl | rfl | rfl | rfl | rfl
  · exact ⟨0, atI_nat rfl, by omega, by omega⟩
  · exact ⟨1, atI_nat rfl, by omega, by omega⟩
  · exact ⟨2, atI_nat rfl, by omega, by omega⟩
  · exact ⟨3, atI_nat rfl, by omega, by omega⟩
  · exact ⟨99, atI_nat rfl, by omega, by omega⟩
  · exact ⟨m, atI_nat rfl, by omega, by omega⟩
theorem sign_menu (r : Nat) (hr : r < 3) : ∃ s : Str, atI [V.str "+", V.str "-", V.str "*"] (r : Int) = some (.str s) ∧ s ∈ signs := by
  have : r = 0 ∨ r = 1 ∨ r = 2 := by omega
  rcases this with rfl | rfl | rfl
  · exact ⟨"+", atI_nat rfl, by simp [signs]⟩
  · exact ⟨"-", atI_nat rfl, by simp [signs]⟩
  · exact ⟨"*", atI_nat rfl, by simp [signs]⟩
theorem kind_menu (r : Nat) (hr : r < 2) : ∃ s : Str, atI [V.str "less", V.str "same"] (r : Int) = some (.str s) ∧ (s = "less" ∨ s = "same") := by
  have : r = 0 ∨ r = 1 := by omega
  rcases this with rfl | rfl
  · exact ⟨"less", atI_nat rfl, .inl rfl⟩
  · exact ⟨"same", atI_nat rfl, .inr rfl⟩
theorem both_menu (r : Nat) (h1 : 7 ≤ r) (hr : r < 9) : ∃ s : Str, atI [V.str "and", V.str "or"] ((r : Int) - 7) = some (.str s) ∧ (s = "and" ∨ s = "or") := by
  have : r = 7 ∨ r = 8 := by omega
  rcases this with rfl | rfl
  · exact ⟨"and", atI_nat (j := 0) rfl, .inl rfl⟩
  · exact ⟨"or", atI_nat (j := 1) rfl, .inr rfl⟩
theorem one_two_menu (r : Nat) (hr : r < 2) : ∃ s : Str, atI [V.str "and", V.str "or"] (r : Int) = some (.str s) ∧ (s = "and" ∨ s = "or") := by
  have : r = 0 ∨ r = 1 := by omega
  rcases this with rfl | rfl
  · exact ⟨"and", atI_nat (j := 0) rfl, .inl rfl⟩
  · exact ⟨"or", atI_nat (j := 1) rfl, .inr rfl⟩
theorem ix_ok (k n : Nat) (h : k < n) : seqIndex? (k : Int) n = some k := by
  rw [seqIndex_of (by omega) (by omega), Int.toNat_natCast]
theorem perm_pop {xs fs rs : List V} {k : Nat} {y : V} (h : (fs ++ rs).Perm xs) (hk : rs[k]? = some y) : (fs ++ [y] ++ rs.eraseIdx k).Perm xs := by
  refine List.Perm.trans ?_ h
  rw [List.append_assoc]
  refine List.Perm.append_left _ ?_
  obtain ⟨hl, e⟩ := List.getElem?_eq_some_iff.mp hk
  rw [List.eraseIdx_eq_take_drop_succ]
  have : rs = rs.take k ++ y :: rs.drop (k + 1) := by
    rw [← e, ← List.drop_eq_getElem_cons hl, List.take_append_drop]
  show (y :: (rs.take k ++ rs.drop (k + 1))).Perm rs
  conv => rhs; rw [this]
  exact List.perm_middle.symm
theorem min_lem (d : Nat) (h : 1 ≤ d) : (if (d : Int) - 1 < 2 then (d : Int) - 1 else 2) = ((min 2 (d - 1) : Nat) : Int) := by split <;> omega
theorem sub_lem (d : Nat) (h : 1 ≤ d) : ((d : Int) - 1) = ((d - 1 : Nat) : Int) := by omega
section
variable {P : Program} {w : World} {K : PySem.W.Frag} {mg : Str → Option Value} {base : Heap} {ws : List Str}
abbrev N_l_mixed : List Str := ["box", "items", "left", "found", "turn"]
theorem sc_l_mixed : FnScope N_l_mixed ["box", "items"] (defScope (top 79)) := ⟨rfl, rfl, rfl, by decide +kernel, rfl, by decide +kernel, by decide +kernel⟩
/-- the items in another order -/
def spMixed (K : PySem.W.Frag) : Sp := fun vs H Q _ => ∃ (b p : Addr) (c : Nat) (xs : List V), vs = [.ref b, .ref p] ∧ SqL K H p xs ∧ xs.length ≤ 20 ∧ Box H b c ∧ c + 50 ≤ 900000 ∧
  ∀ (q : Addr) (ys : List V) (H' : Hp), Go [b] H H' → Box H' b (c + 50) → H q = none → H' q = some (.lst ys) → ys.Perm xs → Q (.ref q) H'
theorem ok_l_mixed (T : Txt K mg) (C_l_take : Cal P w K mg base 1 "_law_take" spTakeG []) : Cal P w K mg base 2 "_law_mixed" (spMixed K) [] := by
  obtain ⟨fd, F⟩ := T.d__law_mixed
  refine ⟨_, fd, ["box", "items"], [], ?_, T.g__law_mixed, F.kp, F.bindsN fun _ _ _ _ _ _ us hl => match us, hl with | [_, _], _ => rfl, .nil⟩
  refine F.ok sc_l_mixed (fun vs H Q E h => by obtain ⟨_, _, _, _, rfl, _⟩ := h; rfl) (fun cdv A outer s H vs Q E hr h => ?_)
  have hu := hu_of hr
  refine ⟨_, PSs.nox (pss_cons (ps_par (i := 2) (j := 3) (by rfl) sc_l_mixed.nd rfl rfl (by decide) rfl rfl (pa_cons (pe_callTy call_list_of (by rfl) T.f_list (by decide +kernel) (pa_cons (pv 1) pa_nil)) (pa_cons (pe_lst pa_nil) pa_nil)) (by rfl))
      (pss_cons (ps_for PassesOwn.never rfl (pi_range1 (by rfl) T.f_range (pa_cons (pe_callB call_len_seq (by rfl) T.f_len (by decide +kernel) (pa_cons (pv 1) pa_nil)) pa_nil)) (pg_name (i := 4) sc_l_mixed.nd rfl (Or.inl rfl)) (pss_one (ps_expr (pe_bm PySem.F.plainAttrs_list PySem.F.slot_list_append PySem.F.type_list_append mt_append (pv 3) (pa_cons (pe_bm PySem.F.plainAttrs_list PySem.F.slot_list_pop PySem.F.type_list_pop mt_popAt (pv 2) (pa_cons (pe_c C_l_take hr (by omega) rfl (pa_cons (pv 0) (pa_cons (pe_callB call_len_seq (by rfl) T.f_len (by decide +kernel) (pa_cons (pv 2) pa_nil)) pa_nil))) pa_nil)) pa_nil)))))
      (pss_one (ps_ret (pv 3))))), ?_⟩
  obtain ⟨b, p, c, xs, rfl, hp, hl, B, hc, hQ⟩ := h
  refine ⟨_, rfl, p, xs, rfl, .inl hp, fun L hL => ?_⟩
  have e1 := Evl.Ex.new (o := .lst xs) hL
  have nL := B.ne hL
  refine ⟨Nat.zero_le _, fun F hF => ?_⟩
  have e2 := e1.trans (Evl.Ex.new (o := .lst []) hF)
  have hL2 := Evl.Ex.new (o := .lst []) hF _ _ (upd_same (H := H) (a := L) (o := .lst xs))
  have hF2 : upd (upd H L (.lst xs)) F (.lst []) F = some (.lst []) := upd_same
  have nLF : L ≠ F := ne_of_none upd_same hF
  have nF := (B.ex e1).ne hF
  have hF0 := Evl.fresh_back e1 hF
  have B2 := B.ex e2
  generalize upd (upd H L (.lst xs)) F (.lst []) = H2 at e2 hL2 hF2 B2 ⊢
  refine ⟨_, _, rfl, ?_⟩
  refine ⟨_, rfl, p, _, rfl, .inl (Evl.ex_l e2 hp), ?_⟩
  refine ⟨(xs.length : Int), rfl, by omega, by omega, ?_⟩
  refine for_it (walk_range (lo := 0) (n := (xs.length : Int).toNat)) (fun i σ H' => ∃ (fs rs : List V) (x4 : Option V), σ = [some (.ref b), some (.ref p), some (.ref L), some (.ref F), x4] ∧ Go [b] H H' ∧ Box H' b (c + i) ∧ H' L = some (.lst rs) ∧ H' F = some (.lst fs) ∧ (fs ++ rs).Perm xs ∧ rs.length + i = xs.length)
    ⟨[], xs, none, rfl, go e2, B2, hL2, hF2, List.Perm.refl _, rfl⟩ (fun _ _ _ _ _ => trivial) ?_ ?_
  · rintro i x σ H3 H3' hi ⟨fs, rs, x4, rfl, g3, B3, hL3, hF3, hpm, hlen⟩ ⟨rfl, rfl⟩
    have hi' : i < xs.length := by omega
    refine ⟨_, rfl, .inl ⟨rfl, _, SqL.of hF3⟩, _, rfl, .inl ⟨rfl, _, SqL.of hL3⟩, _, rfl, _, rfl, L, rs, rfl, .inl (SqL.of hL3), b, _, _, rfl, B3, by omega, by omega, by omega, fun r H4 hr g4 B4 => ?_⟩
    have hL4 := g4.at hL3 (by simp [nL])
    have hF4 := g4.at hF3 (by simp [nF])
    have hr' : r < rs.length := by omega
    refine ⟨L, rs, (r : Int), r, rs[r], rfl, rfl, hL4, by omega, by omega, ix_ok _ _ hr', List.getElem?_eq_getElem hr', ?_⟩
    have hpl := hpm.length_eq
    rw [List.length_append] at hpl
    refine ⟨F, fs, _, rfl, rfl, by rw [upd_ne nLF.symm]; exact hF4, Nat.lt_of_le_of_lt (show fs.length ≤ 100 by omega) (by decide), ?_⟩
    refine ⟨fs ++ [rs[r]], rs.eraseIdx r, _, rfl, ((g3.trans g4).app hL).app hF0, ?_, by rw [upd_ne nLF]; exact upd_same, upd_same, perm_pop hpm (List.getElem?_eq_getElem hr'), ?_⟩
    · obtain ⟨gg, ff, ss, kk, h1, h2⟩ := B4
      exact ⟨gg, ff, ss, kk, by rw [upd_ne nF.symm, upd_ne nL.symm]; exact h1, h2⟩
    · rw [List.length_eraseIdx_of_lt hr']
      omega
  · rintro σ H3 ⟨fs, rs, x4, rfl, g3, B3, hL3, hF3, hpm, hlen⟩
    have : rs = [] := List.length_eq_zero_iff.mp (by omega)
    subst this
    rw [List.append_nil] at hpm
    exact ⟨_, rfl, hQ F fs H3 g3 (B3.mono (by omega)) hF0 hF3 hpm⟩

abbrev N_l_expression : List Str := ["box", "names", "depth", "leaf", "deep", "sign"]
theorem sc_l_expression : FnScope N_l_expression ["box", "names", "depth"] (defScope (top 81)) := ⟨rfl, rfl, rfl, by decide +kernel, rfl, by decide +kernel, by decide +kernel⟩
/-- an expression is drawn -/
def spLX (K : PySem.W.Frag) (n : Nat) : Sp := fun vs H Q _ => ∃ (b p : Addr) (d c : Nat) (ns : NS), vs = [.ref b, .ref p, .int (d : Int)] ∧ 1 ≤ d ∧ d ≤ n ∧ n ≤ 6 ∧ Box H b c ∧ c + xN n ≤ 900000 ∧ NamesAt K H p ns ∧ NsOk ns ∧
  ∀ t u H', Go [b] H H' → Box H' b (c + xN n) → RepT K H' t u → IsX (wds ns) d t → Q u H'
theorem ok0_l_expression (T : Txt K mg) : Cal P w K mg base 1 "_law_expression" (spLX K 0) [] := by
  obtain ⟨fd, F⟩ := T.d__law_expression
  refine ⟨_, fd, ["box", "names", "depth"], [], ?_, T.g__law_expression, F.kp, F.bindsN fun _ _ _ _ _ _ us hl => match us, hl with | [_, _, _], _ => rfl, .nil⟩
  refine F.ok sc_l_expression (fun vs H Q E h => False.elim ((fun h => by obtain ⟨_, _, _, _, _, _, h1, h2, _⟩ := h; omega) h)) (fun cdv A outer s H vs Q E hr h => False.elim ((fun h => by obtain ⟨_, _, _, _, _, _, h1, h2, _⟩ := h; omega) h))
theorem st_l_expression (T : Txt K mg) (C_l_take : Cal P w K mg base 1 "_law_take" spTakeG []) {n : Nat} (C_l_expression : Cal P w K mg base (n + 1) "_law_expression" (spLX K n) []) : Cal P w K mg base (n + 2) "_law_expression" (spLX K (n + 1)) [] := by
  obtain ⟨fd, F⟩ := T.d__law_expression
  refine ⟨_, fd, ["box", "names", "depth"], [], ?_, T.g__law_expression, F.kp, F.bindsN fun _ _ _ _ _ _ us hl => match us, hl with | [_, _, _], _ => rfl, .nil⟩
  refine F.ok sc_l_expression (fun vs H Q E h => by obtain ⟨_, _, _, _, _, rfl, _⟩ := h; rfl) (fun cdv A outer s H vs Q E hr h => ?_)
  have hu := hu_of hr
  refine ⟨_, PSs.nox (pss_cons (ps_set (i := 3) sc_l_expression.nd rfl (Or.inl rfl) (pe_tup (pa_cons pe_str (pa_cons (pe_ix ix_tup (pe_ix ix_tup (pv 1) (pe_c C_l_take hr (by omega) rfl (pa_cons (pv 0) (pa_cons (pe_callB call_len_seq (by rfl) T.f_len (by decide +kernel) (pa_cons (pv 1) pa_nil)) pa_nil))) (fun _ _ => rfl)) pe_int (fun _ _ => rfl)) pa_nil))))
      (pss_cut (ps_if (pt_cmpR op_eq (pe_c C_l_take hr (by omega) rfl (pa_cons (pv 0) (pa_cons pe_int pa_nil))) pe_int (nomark _)) (pss_one (ps_set (i := 3) sc_l_expression.nd rfl (Or.inl rfl) (pe_tup (pa_cons pe_str (pa_cons (pe_ix ix_list (pe_lst (pa_cons pe_int (pa_cons pe_int (pa_cons pe_int (pa_cons pe_int (pa_cons pe_int (pa_cons (pe_c C_l_take hr (by omega) rfl (pa_cons (pv 0) (pa_cons pe_int pa_nil))) pa_nil))))))) (pe_c C_l_take hr (by omega) rfl (pa_cons (pv 0) (pa_cons pe_int pa_nil))) (fun _ _ => rfl)) pa_nil))))) pss_nil)
      (pss_cons (ps_if (PW.pt (pw_or (pt_cmpR op_lt (pv 2) pe_int (nomark _)) (pw_or1 (pt_cmpR op_eq (pe_c C_l_take hr (by omega) rfl (pa_cons (pv 0) (pa_cons pe_int pa_nil))) pe_int (nomark _))))) (pss_one (ps_ret (pv 3))) pss_nil)
      (pss_cons (ps_set (i := 4) sc_l_expression.nd rfl (Or.inl rfl) (pe_c C_l_expression hr (by omega) rfl (pa_cons (pv 0) (pa_cons (pv 1) (pa_cons (pe_op op_sub (pv 2) pe_int) pa_nil)))))
      (pss_cons (ps_set (i := 5) sc_l_expression.nd rfl (Or.inl rfl) (pe_ix ix_list (pe_lst (pa_cons pe_str (pa_cons pe_str (pa_cons pe_str pa_nil)))) (pe_c C_l_take hr (by omega) rfl (pa_cons (pv 0) (pa_cons pe_int pa_nil))) (fun _ _ => rfl)))
      (pss_one (ps_ret (pe_ifExp (pt_cmpR op_eq (pe_c C_l_take hr (by omega) rfl (pa_cons (pv 0) (pa_cons pe_int pa_nil))) pe_int (nomark _)) (pe_tup (pa_cons (pv 5) (pa_cons (pv 4) (pa_cons (pv 3) pa_nil)))) (pe_tup (pa_cons (pv 5) (pa_cons (pv 3) (pa_cons (pv 4) pa_nil)))))))))))), ?_⟩
  obtain ⟨b, p, d, c, ns, rfl, hd1, hdn, hn6, B, hc, hN, hok, hQ⟩ := h
  obtain ⟨ps, hp, hT⟩ := hN
  have hl := hT.length
  have hn3 := hok.len
  have x8 : xN (n + 1) = 8 + 2 * xN n := rfl
  refine ⟨_, rfl, _, rfl, _, rfl, p, _, rfl, .inr hp, b, c, _, rfl, B, by omega, by rw [List.length_map]; omega, by rw [List.length_map]; omega, fun r1 H1 hr1 g1 B1 => ?_⟩
  have hr1' : r1 < ps.length := by rw [List.length_map] at hr1; omega
  obtain ⟨n1, hn1, hq1⟩ := hT.get (List.getElem?_eq_getElem hr1')
  refine ⟨p, _, _, _, rfl, rfl, kt_t g1.kt hp, atI_nat (refs_at2 (List.getElem?_eq_getElem hr1')), _, nV n1, 0, _, rfl, rfl, SqT.of (g1 _ _ hq1 (.inl rfl)), rfl, (by show 2 ≤ sizeLine; decide), fun t0 ht0 => ?_⟩
  have w1 := mem_wds hn1
  have g2 := g1.trans (go (Evl.Ex.new (o := .tup [.str "name", .str n1.1]) ht0))
  have B2 := B1.ex (Evl.Ex.new (o := .tup [.str "name", .str n1.1]) ht0)
  have L2 : RepT K (upd H1 t0 (.tup [.str "name", .str n1.1])) (.name n1.1) (.ref t0) := ⟨t0, rfl, SqT.of upd_same⟩
  generalize upd H1 t0 (.tup [.str "name", .str n1.1]) = H2 at g2 B2 L2 ⊢
  refine ⟨fun σ H' => ∃ u, σ = [some (.ref b), some (.ref p), some (.int (d : Int)), some u, none, none] ∧ Go [b] H H' ∧ Box H' b (c + 4) ∧ ∃ t, RepT K H' t u ∧ IsX (wds ns) 1 t, ?_, ?_⟩
  · refine ⟨_, rfl, b, _, 3, rfl, B2, by omega, by decide, by decide, fun r2 H3 hr2 g3 B3 => ?_⟩
    have g3' := g2.trans g3
    refine ⟨rfl, _, rfl, ?_⟩
    refine ite2 (fun c1 => ?_) (fun c1 => ?_)
    · refine ⟨_, rfl, b, _, 100, rfl, B3, by omega, by decide, by decide, fun m H4 hm g4 B4 => ?_⟩
      refine ⟨(by show 6 ≤ sizeLine; decide), fun l hl0 => ?_⟩
      have eL := Evl.Ex.new (o := .lst [V.int 0, V.int 1, V.int 2, V.int 3, V.int 99, V.int (m : Int)]) hl0
      have nlb := B4.ne hl0
      refine ⟨_, rfl, b, _, 6, rfl, B4.ex eL, by omega, by decide, by decide, fun r3 H5 hr3 g5 B5 => ?_⟩
      obtain ⟨i, hi, hi0, hi1⟩ := num_menu r3 (m : Int) (by omega) (by omega)
      have hl5 := g5.at (a := l) (upd_same (H := H4)) (by simp [nlb])
      refine ⟨l, _, _, _, rfl, rfl, SqL.of hl5, hi, (by show 2 ≤ sizeLine; decide), fun t1 ht1 => ?_⟩
      have e6 := Evl.Ex.new (o := .tup [.str "num", .int i]) ht1
      refine ⟨.ref t1, rfl, (((g3'.trans g4).trans (go eL)).trans g5).trans (go e6), (B5.ex e6).mono (by omega), .num i, ⟨t1, rfl, SqT.of upd_same⟩, hi0, hi1⟩
    · exact ⟨.ref t0, rfl, g3', B3.mono (by omega), .name n1.1, L2.kt g3.kt, w1⟩
  rintro σ H3 ⟨u, rfl, g3, B3, t, hRt, hXt⟩
  have x8 : xN (n + 1) = 8 + 2 * xN n := rfl
  have xb : xN n ≤ 504 := by
    have key : ∀ k, k < 7 → xN k ≤ 504 := by decide
    exact key n (by omega)
  refine ⟨_, rfl, _, _, rfl, rfl, _, rfl, ?_⟩
  refine ite2 (fun c1 => ?_) (fun c1 => ?_)
  · refine ⟨_, rfl, ?_⟩
    exact hQ t u H3 g3 (B3.mono (by omega)) hRt (hXt.mono hd1)
  have hd2 : 2 ≤ d := by
    have : ¬ _ := fun z => c1 (decide_eq_true z)
    omega
  refine ⟨_, rfl, b, _, 3, rfl, B3, by omega, by decide, by decide, fun r4 H4 hr4 g4 B4 => ?_⟩
  have g4' := g3.trans g4
  refine ⟨rfl, _, rfl, ?_⟩
  refine ite2 (fun c2 => ?_) (fun c2 => ?_)
  · refine ⟨_, rfl, ?_⟩
    exact hQ t u H4 g4' (B4.mono (by omega)) (hRt.kt g4.kt) (hXt.mono hd1)
  -- deep
  have N4 : NamesAt K H4 p ns := ⟨ps, kt_t g4'.kt hp, hT.kt g4'.kt⟩
  refine ⟨_, rfl, _, rfl, _, rfl, _, _, rfl, rfl, b, p, d - 1, c + 5, ns, ?_, by omega, by omega, by omega, B4, by omega, N4, hok, fun t2 u2 H5 g5 B5 hR5 hX5 => ?_⟩
  · have : ((d : Int) - 1) = ((d - 1 : Nat) : Int) := by omega
    show ([V.ref b, V.ref p, V.int ((d : Int) - 1)] : List V) = _
    rw [this]
  have g5' := g4'.trans g5
  refine ⟨(by show 3 ≤ sizeLine; decide), fun l hl0 => ?_⟩
  have eL := Evl.Ex.new (o := .lst [V.str "+", V.str "-", V.str "*"]) hl0
  have nlb := B5.ne hl0
  refine ⟨_, rfl, b, _, 3, rfl, B5.ex eL, by omega, by decide, by decide, fun r6 H7 hr6 g7 B7 => ?_⟩
  obtain ⟨s, hs, hss⟩ := sign_menu r6 (by omega)
  have hl7 := g7.at (a := l) (upd_same (H := H5)) (by simp [nlb])
  have g67 := (go (S := [b]) eL).trans g7
  refine ⟨l, _, _, _, rfl, rfl, SqL.of hl7, hs, ?_⟩
  refine ⟨_, rfl, b, _, 2, rfl, B7, by omega, by decide, by decide, fun r7 H8 hr7 g8 B8 => ?_⟩
  have g68 := g67.trans g8
  obtain ⟨m, hm⟩ : ∃ m, d = m + 1 := ⟨d - 1, by omega⟩
  subst hm
  simp only [Nat.add_sub_cancel] at hX5
  have hXm : IsX (wds ns) m t := hXt.mono (by omega)
  have hRm : RepT K H5 t u := (hRt.kt g4.kt).kt g5.kt
  refine ⟨rfl, _, rfl, ?_⟩
  refine ite2 (fun c4 => ?_) (fun c4 => ?_)
  · refine ⟨_, rfl, _, rfl, _, rfl, (by show 3 ≤ sizeLine; decide), fun q hq => ?_⟩
    have e9 := Evl.Ex.new (o := .tup [.str s, u2, u]) hq
    refine hQ (.n2 s t2 t) _ _ ((g5'.trans g68).trans (go e9)) ((B8.ex e9).mono (by omega)) ⟨q, u2, u, rfl, SqT.of upd_same, (hR5.kt g68.kt).mono e9, (hRm.kt g68.kt).mono e9⟩ ⟨hss, hX5, hXm⟩
  · refine ⟨_, rfl, _, rfl, _, rfl, (by show 3 ≤ sizeLine; decide), fun q hq => ?_⟩
    have e9 := Evl.Ex.new (o := .tup [.str s, u, u2]) hq
    refine hQ (.n2 s t t2) _ _ ((g5'.trans g68).trans (go e9)) ((B8.ex e9).mono (by omega)) ⟨q, u, u2, rfl, SqT.of upd_same, (hRm.kt g68.kt).mono e9, (hR5.kt g68.kt).mono e9⟩ ⟨hss, hXm, hX5⟩
theorem ok_l_expression (T : Txt K mg) (C_l_take : Cal P w K mg base 1 "_law_take" spTakeG []) : ∀ n, Cal P w K mg base (n + 1) "_law_expression" (spLX K n) []
  | 0 => ok0_l_expression T
  | n + 1 => st_l_expression T C_l_take (ok_l_expression T C_l_take n)

abbrev N_l_condition : List Str := ["box", "names", "way", "name", "one"]
theorem sc_l_condition : FnScope N_l_condition ["box", "names"] (defScope (top 82)) := ⟨rfl, rfl, rfl, by decide +kernel, rfl, by decide +kernel, by decide +kernel⟩
/-- a condition is drawn -/
def spLC (K : PySem.W.Frag) : Sp := fun vs H Q _ => ∃ (b p : Addr) (c : Nat) (ns : NS), vs = [.ref b, .ref p] ∧ Box H b c ∧ c + 100 ≤ 900000 ∧ NamesAt K H p ns ∧ NsOk ns ∧
  ∀ t u H', Go [b] H H' → Box H' b (c + 100) → RepT K H' t u → IsC (wds ns) 6 t → Q u H'
theorem ok_l_condition (T : Txt K mg) (C_l_take : Cal P w K mg base 1 "_law_take" spTakeG []) (C_l_expression : ∀ n, Cal P w K mg base (n + 1) "_law_expression" (spLX K n) []) : Cal P w K mg base 4 "_law_condition" (spLC K) [] := by
  obtain ⟨fd, F⟩ := T.d__law_condition
  refine ⟨_, fd, ["box", "names"], [], ?_, T.g__law_condition, F.kp, F.bindsN fun _ _ _ _ _ _ us hl => match us, hl with | [_, _], _ => rfl, .nil⟩
  refine F.ok sc_l_condition (fun vs H Q E h => by obtain ⟨_, _, _, _, rfl, _⟩ := h; rfl) (fun cdv A outer s H vs Q E hr h => ?_)
  have hu := hu_of hr
  refine ⟨_, PSs.nox (pss_cons (ps_par (i := 2) (j := 3) (by rfl) sc_l_condition.nd rfl rfl (by decide) rfl rfl (pa_cons (pe_c C_l_take hr (by omega) rfl (pa_cons (pv 0) (pa_cons pe_int pa_nil))) (pa_cons (pe_ix ix_tup (pv 1) (pe_c C_l_take hr (by omega) rfl (pa_cons (pv 0) (pa_cons (pe_callB call_len_seq (by rfl) T.f_len (by decide +kernel) (pa_cons (pv 1) pa_nil)) pa_nil))) (fun _ _ => rfl)) pa_nil)) (by rfl))
      (pss_cons (ps_set (i := 4) sc_l_condition.nd rfl (Or.inl rfl) (pe_tup (pa_cons (pe_ix ix_list (pe_lst (pa_cons pe_str (pa_cons pe_str pa_nil))) (pe_c C_l_take hr (by omega) rfl (pa_cons (pv 0) (pa_cons pe_int pa_nil))) (fun _ _ => rfl)) (pa_cons (pe_c (C_l_expression 2) hr (by omega) rfl (pa_cons (pv 0) (pa_cons (pv 1) (pa_cons pe_int pa_nil)))) (pa_cons (pe_tup (pa_cons pe_str (pa_cons (pe_op op_add pe_int (pe_c C_l_take hr (by omega) rfl (pa_cons (pv 0) (pa_cons pe_int pa_nil)))) pa_nil))) pa_nil)))))
      (pss_cons (ps_if (pt_cmpR op_eq (pv 2) pe_int (nomark _)) (pss_one (ps_ret (pe_tup (pa_cons pe_str pa_nil)))) pss_nil)
      (pss_cons (ps_if (pt_cmpR op_eq (pv 2) pe_int (nomark _)) (pss_one (ps_ret (pe_tup (pa_cons pe_str (pa_cons (pv 4) pa_nil))))) pss_nil)
      (pss_cons (ps_if (pt_cmpR op_eq (pv 2) pe_int (nomark _)) (pss_one (ps_ret (pe_tup (pa_cons (pe_ix ix_list (pe_lst (pa_cons pe_str (pa_cons pe_str pa_nil))) (pe_c C_l_take hr (by omega) rfl (pa_cons (pv 0) (pa_cons pe_int pa_nil))) (fun _ _ => rfl)) (pa_cons (pv 4) (pa_cons (pe_tup (pa_cons pe_str (pa_cons (pe_tup (pa_cons pe_str (pa_cons (pe_ix ix_tup (pv 3) pe_int (fun _ _ => rfl)) pa_nil))) (pa_cons (pe_tup (pa_cons pe_str (pa_cons (pe_op op_sub (pe_ix ix_tup (pv 3) pe_int (fun _ _ => rfl)) pe_int) pa_nil))) pa_nil)))) pa_nil)))))) pss_nil)
      (pss_one (ps_ret (pv 4)))))))), ?_⟩
  obtain ⟨b, p, c, ns, rfl, B, hc, hN, hok, hQ⟩ := h
  obtain ⟨ps, hp, hT⟩ := hN
  have hl := hT.length
  have hn3 := hok.len
  have x2 : xN 2 = 24 := rfl
  refine ⟨_, rfl, b, c, 6, rfl, B, by omega, by decide, by decide, fun way H1 hway g1 B1 => ?_⟩
  refine ⟨_, rfl, _, rfl, _, rfl, p, _, rfl, .inr (kt_t g1.kt hp), b, _, _, rfl, B1, by omega, by rw [List.length_map]; omega, by rw [List.length_map]; omega, fun r1 H2 hr1 g2 B2 => ?_⟩
  have hr1' : r1 < ps.length := by rw [List.length_map] at hr1; omega
  obtain ⟨n1, hn1, hq1⟩ := hT.get (List.getElem?_eq_getElem hr1')
  have g2 := g1.trans g2
  refine ⟨p, _, _, _, rfl, rfl, kt_t g2.kt hp, atI_nat (refs_at2 (List.getElem?_eq_getElem hr1')), ?_⟩
  have w1 := mem_wds hn1
  refine ⟨_, _, rfl, ?_⟩
  refine ⟨(by show 2 ≤ sizeLine; decide), fun l hl0 => ?_⟩
  have eL := Evl.Ex.new (o := .lst [V.str "less", V.str "same"]) hl0
  have nlb := B2.ne hl0
  refine ⟨_, rfl, b, _, 2, rfl, B2.ex eL, by omega, by decide, by decide, fun r3 H3 hr3 g3 B3 => ?_⟩
  obtain ⟨s, hs, hss⟩ := kind_menu r3 (by omega)
  have hl3 := g3.at (a := l) (upd_same (H := H2)) (by simp [nlb])
  have g3 := (g2.trans (go (S := [b]) eL)).trans g3
  refine ⟨l, _, _, _, rfl, rfl, SqL.of hl3, hs, ?_⟩
  refine ⟨_, rfl, _, rfl, b, p, 2, _, ns, rfl, by omega, by omega, by omega, B3, by omega, ⟨ps, kt_t g3.kt hp, hT.kt g3.kt⟩, hok, fun t4 u4 H4 g4 B4 hR4 hX4 => ?_⟩
  have g4 := g3.trans g4
  refine ⟨_, rfl, b, _, 2, rfl, B4, by omega, by decide, by decide, fun r5 H5 hr5 g5 B5 => ?_⟩
  have hR5 := hR4.kt g5.kt
  have g5 := g4.trans g5
  refine ⟨_, _, rfl, rfl, (by show 2 ≤ sizeLine; decide), fun t1 ht1 => ⟨(by show 3 ≤ sizeLine; decide), fun t2 ht2 => ?_⟩⟩
  have f1 := Evl.Ex.new (o := .tup [V.str "num", V.int (1 + (r5 : Int))]) ht1
  have s1 : SqT K (upd H5 t1 (.tup [.str "num", .int (1 + (r5 : Int))])) t1 [.str "num", .int (1 + (r5 : Int))] := SqT.of upd_same
  generalize upd H5 t1 (.tup [V.str "num", V.int (1 + (r5 : Int))]) = K1 at *
  have f2 := Evl.Ex.new (o := .tup [V.str s, u4, .ref t1]) ht2
  have s2 : SqT K (upd K1 t2 (.tup [V.str s, u4, .ref t1])) t2 [V.str s, u4, .ref t1] := SqT.of upd_same
  generalize upd K1 t2 (.tup [V.str s, u4, .ref t1]) = K2 at *
  have f12 := f1.trans f2
  have G := g5.trans (go (S := [b]) f12)
  have BB := B5.ex f12
  have hR : RepT K K2 (.n2 s t4 (.num (1 + (r5 : Int)))) (.ref t2) := ⟨t2, u4, .ref t1, rfl, s2, hR5.mono f12, t1, rfl, Evl.ex_t f2 s1⟩
  have hX : IsC (wds ns) 3 (.n2 s t4 (.num (1 + (r5 : Int)))) := .inl ⟨hss, hX4, by show 0 ≤ 1 + (r5 : Int) ∧ 1 + (r5 : Int) ≤ 99; omega⟩
  have hqn := G _ _ hq1 (.inl rfl)
  refine ⟨_, rfl, rfl, _, rfl, ?_⟩
  refine ite2 (fun c1 => ?_) (fun c1 => ?_)
  · refine ⟨(by show 1 ≤ sizeLine; decide), fun q hq => ?_⟩
    exact hQ (.n0 "yes") _ _ (G.trans (go (Evl.Ex.new hq))) ((BB.ex (Evl.Ex.new hq)).mono (by omega)) ⟨q, rfl, SqT.of upd_same⟩ rfl
  refine ⟨_, rfl, rfl, _, rfl, ?_⟩
  refine ite2 (fun c2 => ?_) (fun c2 => ?_)
  · refine ⟨_, rfl, (by show 2 ≤ sizeLine; decide), fun q hq => ?_⟩
    have e9 := Evl.Ex.new (o := .tup [.str "not", .ref t2]) hq
    exact hQ (.n1 "not" _) _ _ (G.trans (go e9)) ((BB.ex e9).mono (by omega)) ⟨q, .ref t2, rfl, SqT.of upd_same, hR.mono e9⟩ ⟨rfl, hX.mono (by decide)⟩
  refine ⟨_, rfl, rfl, _, rfl, ?_⟩
  refine ite2 (fun c3 => ?_) (fun c3 => ?_)
  · refine ⟨(by show 2 ≤ sizeLine; decide), fun l2 hl2 => ?_⟩
    have eL := Evl.Ex.new (o := .lst [V.str "and", V.str "or"]) hl2
    have nlb := BB.ne hl2
    refine ⟨_, rfl, b, _, 2, rfl, BB.ex eL, by omega, by decide, by decide, fun r6 H6 hr6 g6 B6 => ?_⟩
    obtain ⟨s', hs', hss'⟩ := one_two_menu r6 (by omega)
    have hl6 := g6.at (a := l2) (upd_same (H := K2)) (by simp [nlb])
    have g6 := (go (S := [b]) eL).trans g6
    have hq6 := g6 _ _ hqn (.inl rfl)
    have hR6 := hR.kt g6.kt
    have G6 := G.trans g6
    have hsz := hok.size (List.mem_of_getElem? hn1)
    refine ⟨l2, _, _, _, rfl, rfl, SqL.of hl6, hs', ?_⟩
    refine ⟨_, rfl, _, rfl, _, nV n1, 0, _, rfl, rfl, SqT.of hq6, rfl, (by show 2 ≤ sizeLine; decide), fun t3 ht3 => ?_⟩
    have f3 := Evl.Ex.new (o := .tup [V.str "name", V.str n1.1]) ht3
    have s3 : SqT K (upd H6 t3 (.tup [.str "name", .str n1.1])) t3 [.str "name", .str n1.1] := SqT.of upd_same
    have hq7 := f3 _ _ hq6
    generalize upd H6 t3 (.tup [V.str "name", V.str n1.1]) = K3 at *
    refine ⟨_, rfl, _, nV n1, 1, _, rfl, rfl, SqT.of hq7, rfl, _, _, rfl, rfl, (by show 2 ≤ sizeLine; decide), fun t5 ht5 => ⟨(by show 3 ≤ sizeLine; decide), fun t6 ht6 => ⟨(by show 3 ≤ sizeLine; decide), fun q hq => ?_⟩⟩⟩
    have f4 := Evl.Ex.new (o := .tup [V.str "num", V.int ((n1.2 : Int) - 1)]) ht5
    have s4 : SqT K (upd K3 t5 (.tup [.str "num", .int ((n1.2 : Int) - 1)])) t5 [.str "num", .int ((n1.2 : Int) - 1)] := SqT.of upd_same
    generalize upd K3 t5 (.tup [V.str "num", V.int ((n1.2 : Int) - 1)]) = K4 at *
    have f5 := Evl.Ex.new (o := .tup [V.str "less", .ref t3, .ref t5]) ht6
    have s5 : SqT K (upd K4 t6 (.tup [.str "less", .ref t3, .ref t5])) t6 [.str "less", .ref t3, .ref t5] := SqT.of upd_same
    generalize upd K4 t6 (.tup [V.str "less", .ref t3, .ref t5]) = K5 at *
    have e9 := Evl.Ex.new (o := .tup [.str s', .ref t2, .ref t6]) hq
    have F5 := f3.trans (f4.trans f5)
    refine hQ (.n2 s' (.n2 s t4 (.num (1 + (r5 : Int)))) (.n2 "less" (.name n1.1) (.num ((n1.2 : Int) - 1)))) _ _ (G6.trans (go (F5.trans e9))) ((B6.ex (F5.trans e9)).mono (by omega)) ⟨q, _, _, rfl, SqT.of upd_same, hR6.mono (F5.trans e9), t6, _, _, rfl, Evl.ex_t e9 s5, ⟨t3, rfl, Evl.ex_t (f4.trans (f5.trans e9)) s3⟩, ⟨t5, rfl, Evl.ex_t (f5.trans e9) s4⟩⟩ (.inr ⟨hss', hX.mono (by decide), .inl ⟨.inl rfl, w1, by show 0 ≤ (n1.2 : Int) - 1 ∧ (n1.2 : Int) - 1 ≤ 99; omega⟩⟩)
  · refine ⟨_, rfl, ?_⟩
    exact hQ _ _ _ G (BB.mono (by omega)) hR (hX.mono (by decide))

end
end K14
namespace K14
open PySem PySem.Spec PyProof.Rows L2 C8

/-! ### bodies drawn -/
theorem Go.two {b r : Addr} {H H' : Hp} (e : Go [b] H H') : Go [b, r] H H' := e.sub (fun a h => by
  have : a = b := by simpa using h
  simp [this])
theorem Box.strs {H : Hp} {b A : Addr} {c : Nat} {zs : List Str} (B : Box H b c) (h : H A = some (.lst (zs.map V.str))) : A ≠ b := by
  obtain ⟨g, f, s, k, h1, _⟩ := B
  intro z
  rw [z, h1] at h
  cases zs with
  | nil => cases h
  | cons a r => cases h
theorem go_strs {H H' : Hp} {b r A : Addr} {c : Nat} {m : Int} {zs : List Str} (g : Go [b, r] H H') (B : Box H b c) (hr : H r = some (.lst [.int m])) (h : H A = some (.lst (zs.map V.str))) : H' A = some (.lst (zs.map V.str)) := by
  refine g.at h ?_
  have h1 := B.strs h
  have h2 : A ≠ r := fun z => by
    rw [z, hr] at h
    cases zs with
    | nil => cases h
    | cons a r => cases h
  simp [h1, h2]
theorem go_refs {H H' : Hp} {b r A : Addr} {c : Nat} {m : Int} {ps : List Addr} (g : Go [b, r] H H') (B : Box H b c) (hr : H r = some (.lst [.int m])) (h : H A = some (.lst (ps.map V.ref))) : H' A = some (.lst (ps.map V.ref)) := by
  refine g.at h ?_
  have h1 : A ≠ b := fun z => by
    obtain ⟨g, f, s, k, h1, _⟩ := B
    rw [z, h1] at h
    cases ps with
    | nil => cases h
    | cons a r => cases h
  have h2 : A ≠ r := fun z => by
    rw [z, hr] at h
    cases ps with
    | nil => cases h
    | cons a r => cases h
  simp [h1, h2]
/-- what statements are drawn of: the names, the units ahead, the labels -/
def WAt (K : PySem.W.Frag) (H : Hp) (W : Addr) (ns : NS) (ah lb : List Str) : Prop := ∃ pn A L, H W = some (.lst ([pn, A, L].map V.ref)) ∧ NamesAt K H pn ns ∧ H A = some (.lst (ah.map V.str)) ∧ H L = some (.lst (lb.map V.str))
theorem WAt.go {K : PySem.W.Frag} {H H' : Hp} {b r W : Addr} {c : Nat} {m : Int} {ns : NS} {ah lb : List Str} (h : WAt K H W ns ah lb) (g : Go [b, r] H H') (B : Box H b c) (hr : H r = some (.lst [.int m])) : WAt K H' W ns ah lb := by
  obtain ⟨pn, A, L, h1, h2, h3, h4⟩ := h
  exact ⟨pn, A, L, go_refs g B hr h1, h2.kt g.kt, go_strs g B hr h3, go_strs g B hr h4⟩
structure WOk (ah lb : List Str) : Prop where
  a6 : ah.length ≤ 6
  aw : ∀ z ∈ ah, WordOk z
  l3 : lb.length = 3
  ln : lb.Nodup
  lw : ∀ z ∈ lb, WordOk z
theorem szf_at {ns : NS} (hok : NsOk ns) {i : Nat} {n : Str × Nat} (h : ns[i]? = some n) : szf ns n.1 = n.2 := by
  have hw := wds_at h
  obtain ⟨hl, e⟩ := List.getElem?_eq_some_iff.mp hw
  have hi : (wds ns).idxOf n.1 = i := by
    rw [← e]
    exact List.Nodup.idxOf_getElem hok.nd i hl
  unfold szf
  rw [hi]
  exact sz_getD h
theorem cut_takeM (xs : List V) (i : Nat) : cutV xs none (some (i : Int)) = xs.take i := by
  by_cases h : i ≤ xs.length
  · exact cut_take xs i h
  · unfold cutV
    rw [HT.sIx_none, HT.sIx_nat, List.drop_zero, Nat.sub_zero, Nat.min_eq_right (by omega), List.take_length, List.take_of_length_le (by omega)]
theorem perm_map {α β : Type} {f : α → β} {ys ms : List β} (h : ys.Perm ms) : ∀ {xs : List α}, xs.map f = ms → ∃ zs : List α, zs.Perm xs ∧ ys = zs.map f := by
  induction h with
  | nil => intro xs e; exact ⟨[], by rw [List.map_eq_nil_iff.mp e], rfl⟩
  | @cons a l1 l2 h ih =>
    intro xs e
    cases xs with
    | nil => simp at e
    | cons x xs =>
      simp only [List.map_cons, List.cons.injEq] at e
      obtain ⟨zs, h1, h2⟩ := ih e.2
      exact ⟨x :: zs, h1.cons x, by rw [List.map_cons, h2, e.1]⟩
  | swap a b l =>
    intro xs e
    cases xs with
    | nil => simp at e
    | cons x xs =>
      cases xs with
      | nil => simp at e
      | cons y xs =>
        simp only [List.map_cons, List.cons.injEq] at e
        exact ⟨y :: x :: xs, List.Perm.swap _ _ _, by simp [e.1, e.2.1, e.2.2]⟩
  | trans h1 h2 ih1 ih2 =>
    intro xs e
    obtain ⟨zs, g1, g2⟩ := ih2 e
    obtain ⟨ys, k1, k2⟩ := ih1 g2.symm
    exact ⟨ys, k1.trans g1, k2⟩
theorem rgV_nat (n : Nat) : (List.range n).map (fun v : Nat => V.int (v : Int)) = rgV 0 (n : Int) := by
  unfold rgV
  rw [Int.sub_zero, Int.toNat_natCast]
  refine List.map_congr_left fun a _ => ?_
  rw [Int.zero_add]
theorem max_lem (l : Nat) : (if (l : Int) - 1 > 0 then (l : Int) - 1 else 0) = ((l - 1 : Nat) : Int) := by split <;> omega
theorem w_menu (r : Nat) (hr : r < 5) : ∃ m : Nat, atI [V.int 1, V.int 1, V.int 2, V.int 3, V.int 12] (r : Int) = some (.int (m : Int)) ∧ 1 ≤ m ∧ m ≤ 12 := by
  have : r = 0 ∨ r = 1 ∨ r = 2 ∨ r = 3 ∨ r = 4 := by omega
  rcases this with rfl | rfl | rfl | rfl | rfl
  · exact ⟨1, atI_nat rfl, by omega, by omega⟩
  · exact ⟨1, atI_nat rfl, by omega, by omega⟩
  · exact ⟨2, atI_nat rfl, by omega, by omega⟩
  · exact ⟨3, atI_nat rfl, by omega, by omega⟩
  · exact ⟨12, atI_nat rfl, by omega, by omega⟩
theorem RepW.app {K : PySem.W.Frag} {H : Hp} : ∀ {ws : List (Nat × Nat)} {ps : List Addr} {v w : Nat} {a : Addr}, RepW K H ws ps → SqT K H a [.int (v : Int), .int (w : Int)] → RepW K H (ws ++ [(v, w)]) (ps ++ [a])
  | [], ps, v, w, a, h, g => by rw [show ps = [] from h]; exact ⟨a, [], rfl, g, rfl⟩
  | (x, y) :: r, ps, v, w, a, ⟨b, q, h1, h2, h3⟩, g => by rw [h1]; exact ⟨b, q ++ [a], rfl, h2, h3.app g⟩
theorem RepP.app {K : PySem.W.Frag} {H : Hp} : ∀ {ls : List Str} {bs : List (List Sm)} {ps : List Addr} {l : Str} {b : List Sm} {a bt : Addr}, RepP K H ls bs ps → SqT K H a [.str l, .ref bt] → RepB K H b bt → RepP K H (ls ++ [l]) (bs ++ [b]) (ps ++ [a])
  | [], [], ps, l, b, a, bt, h, g, ⟨us, k1, k2⟩ => by
    simp only [RepP] at h
    subst h
    show RepP K H [l] [b] [a]
    simp only [RepP]
    exact ⟨a, [], bt, us, rfl, g, k1, k2, rfl⟩
  | x :: ls, y :: bs, ps, l, b, a, bt, h, g, k => by
    simp only [RepP] at h
    obtain ⟨a', r, bt', us, h1, h2, h3, h4, h5⟩ := h
    subst h1
    show RepP K H (x :: (ls ++ [l])) (y :: (bs ++ [b])) (a' :: (r ++ [a]))
    simp only [RepP]
    exact ⟨a', _, bt', us, rfl, h2, h3, h4, RepP.app h5 g k⟩
  | [], _ :: _, ps, l, b, a, bt, h, _, _ => by simp only [RepP] at h
  | _ :: _, [], ps, l, b, a, bt, h, _, _ => by simp only [RepP] at h
theorem cntB_app : ∀ (a b : List (List Sm)), cntB (a ++ b) = cntB a + cntB b
  | [], b => by simp [cntB]
  | s :: a, b => by
    show cntL s + cntB (a ++ b) = _
    rw [cntB_app a b]
    simp only [cntB]
    omega
mutual
theorem OkS.mono {ws : List Str} {sz : Str → Nat} {ah : List Str} : ∀ {n l n' l' : Nat} {s : Sm}, OkS ws sz ah n l s → n ≤ n' → l ≤ l' → OkS ws sz ah n' l' s
  | n, l, n', l', .set x e, h, _, _ => by simp only [OkS] at h ⊢; exact h
  | n, l, n', l', .drw x ps, h, _, _ => by
    have h : x ∈ ws ∧ OkW (sz x) ps := by cases n <;> cases l <;> simpa only [OkS] using h
    cases n' <;> cases l' <;> simpa only [OkS] using h
  | n, l, n', l', .cal u, h, _, _ => by
    have h : u ∈ ah ∧ WordOk u := by cases n <;> cases l <;> simpa only [OkS] using h
    cases n' <;> cases l' <;> simpa only [OkS] using h
  | 0, l, n', l', .iff c t e, h, _, _ => by simp [OkS] at h
  | n + 1, l, 0, l', .iff c t e, h, hn, _ => by omega
  | n + 1, l, n' + 1, l', .iff c t e, h, hn, hl => by
    simp only [OkS] at h ⊢
    exact ⟨h.1, OkL.mono h.2.1 (by omega) hl, OkL.mono h.2.2 (by omega) hl⟩
  | 0, 0, n', l', .whl c b, h, _, _ => by simp [OkS] at h
  | 0, l + 1, n', l', .whl c b, h, _, _ => by simp [OkS] at h
  | n + 1, 0, n', l', .whl c b, h, _, _ => by simp [OkS] at h
  | n + 1, l + 1, 0, l', .whl c b, h, hn, _ => by omega
  | n + 1, l + 1, n' + 1, 0, .whl c b, h, _, hl => by omega
  | n + 1, l + 1, n' + 1, l' + 1, .whl c b, h, hn, hl => by
    simp only [OkS] at h ⊢
    exact ⟨h.1, OkL.mono h.2 (by omega) (by omega)⟩
  | 0, l, n', l', .cho ls bs, h, _, _ => by simp [OkS] at h
  | n + 1, l, 0, l', .cho ls bs, h, hn, _ => by omega
  | n + 1, l, n' + 1, l', .cho ls bs, h, hn, hl => by
    simp only [OkS] at h ⊢
    exact ⟨h.1, h.2.1, h.2.2.1, h.2.2.2.1, h.2.2.2.2.1, OkB.mono h.2.2.2.2.2 (by omega) hl⟩
theorem OkL.mono {ws : List Str} {sz : Str → Nat} {ah : List Str} : ∀ {n l n' l' : Nat} {b : List Sm}, OkL ws sz ah n l b → n ≤ n' → l ≤ l' → OkL ws sz ah n' l' b
  | n, l, n', l', [], h, _, _ => by simp [OkL]
  | n, l, n', l', s :: b, h, hn, hl => by
    simp only [OkL] at h ⊢
    exact ⟨OkS.mono h.1 hn hl, OkL.mono h.2 hn hl⟩
theorem OkB.mono {ws : List Str} {sz : Str → Nat} {ah : List Str} : ∀ {n l n' l' : Nat} {b : List (List Sm)}, OkB ws sz ah n l b → n ≤ n' → l ≤ l' → OkB ws sz ah n' l' b
  | n, l, n', l', [], h, _, _ => by simp [OkB]
  | n, l, n', l', s :: b, h, hn, hl => by
    simp only [OkB] at h ⊢
    exact ⟨OkL.mono h.1 hn hl, OkB.mono h.2 hn hl⟩
end
/-- a body is drawn, fewer than n bodies deep, from a room of m -/
def spLB (K : PySem.W.Frag) : Nat → Sp
  | 0 => fun _ _ _ _ => False
  | n + 1 => fun vs H Q _ => ∃ (b W r : Addr) (many d l c m : Nat) (ns : NS) (ah lb : List Str), vs = [.ref b, .ref W, .ref r, .int (many : Int), .int (d : Int), .int (l : Int)] ∧ many ≤ 4 ∧ d ≤ n ∧ Box H b c ∧ H r = some (.lst [.int (m : Int)]) ∧ c + 10 + 3000 * m ≤ 500000 ∧ WAt K H W ns ah lb ∧ WOk ah lb ∧ NsOk ns ∧
    ∀ (body : List Sm) (q : Addr) (H' : Hp) (c' m' : Nat), Go [b, r] H H' → Box H' b c' → H' r = some (.lst [.int (m' : Int)]) → m' ≤ m → c' ≤ c + 1 + 3000 * (m - m') → RepB K H' body q → OkL (wds ns) (szf ns) ah d l body → cntL body + m' ≤ m → Q (.ref q) H'
/-- a statement is drawn -/
def spLS (K : PySem.W.Frag) (n : Nat) : Sp := fun vs H Q _ => ∃ (b W r : Addr) (d l c m : Nat) (ns : NS) (ah lb : List Str), vs = [.ref b, .ref W, .ref r, .int (d : Int), .int (l : Int)] ∧ d ≤ n ∧ Box H b c ∧ H r = some (.lst [.int (m : Int)]) ∧ c + 3000 + 3000 * m ≤ 500000 ∧ WAt K H W ns ah lb ∧ WOk ah lb ∧ NsOk ns ∧
  ∀ (s : Sm) (u : V) (H' : Hp) (c' m' : Nat), Go [b, r] H H' → Box H' b c' → H' r = some (.lst [.int (m' : Int)]) → m' ≤ m → c' ≤ c + 3000 + 3000 * (m - m') → RepS K H' s u → OkS (wds ns) (szf ns) ah d l s → cntS s + m' ≤ m + 1 → Q u H'
section
variable {P : Program} {w : World} {K : PySem.W.Frag} {mg : Str → Option Value} {base : Heap} {k n : Nat}
abbrev N_l_statement : List Str := ["box", "world", "room", "depth", "loops", "names", "ahead", "labels", "way", "at", "name", "size", "values", "words", "condition", "one", "more", "value", "word"]
theorem sc_l_statement : FnScope N_l_statement ["box", "world", "room", "depth", "loops"] (defScope (top 83)) := ⟨rfl, rfl, rfl, by decide +kernel, rfl, by decide +kernel, by decide +kernel⟩

theorem ok_l_statement (T : Txt K mg) (C_l_take : Cal P w K mg base 1 "_law_take" spTakeG []) (C_l_mixed : Cal P w K mg base 2 "_law_mixed" (spMixed K) []) (C_l_expression : ∀ n, Cal P w K mg base (n + 1) "_law_expression" (spLX K n) []) (C_l_condition : Cal P w K mg base 4 "_law_condition" (spLC K) []) (hk : 7 ≤ k) (C_l_body : Cal P w K mg base k "_law_body" (spLB K n) []) : Cal P w K mg base (k + 1) "_law_statement" (spLS K n) [] := by
  obtain ⟨fd, F⟩ := T.d__law_statement
  refine ⟨_, fd, ["box", "world", "room", "depth", "loops"], [], ?_, T.g__law_statement, F.kp, F.bindsN fun _ _ _ _ _ _ us hl => match us, hl with | [_, _, _, _, _], _ => rfl, .nil⟩
  refine F.ok sc_l_statement (fun vs H Q E h => by obtain ⟨_, _, _, _, _, _, _, _, _, _, rfl, _⟩ := h; rfl) (fun cdv A outer s H vs Q E hr h => ?_)
  have hu := hu_of hr
  refine ⟨_, PSs.nox (pss_cons (ps_asg (pv 1) (pg_lst (by rfl) (pgs_cons (pg_name (i := 5) sc_l_statement.nd rfl (Or.inl rfl)) (pgs_cons (pg_name (i := 6) sc_l_statement.nd rfl (Or.inl rfl)) (pgs_cons (pg_name (i := 7) sc_l_statement.nd rfl (Or.inl rfl)) pgs_nil)))))
      (pss_cons (ps_par (i := 8) (j := 9) (by rfl) sc_l_statement.nd rfl rfl (by decide) rfl rfl (pa_cons (pe_c C_l_take hr (by omega) rfl (pa_cons (pv 0) (pa_cons pe_int pa_nil))) (pa_cons (pe_c C_l_take hr (by omega) rfl (pa_cons (pv 0) (pa_cons (pe_callB call_len_seq (by rfl) T.f_len (by decide +kernel) (pa_cons (pv 5) pa_nil)) pa_nil))) pa_nil)) (by rfl))
      (pss_cons (ps_asg (pe_ix ix_tup (pv 5) (pv 9) (fun _ _ => rfl)) (pg_tup (by rfl) (pgs_cons (pg_name (i := 10) sc_l_statement.nd rfl (Or.inl rfl)) (pgs_cons (pg_name (i := 11) sc_l_statement.nd rfl (Or.inl rfl)) pgs_nil))))
      (pss_cut (ps_if (PW.pt (pw_and (pt_cmpR op_gt (pv 8) pe_int (nomark _)) (pw_and1 (pt_cmpR (op_neD hr.units) (pv 6) (pe_lst pa_nil) (nomark _))))) (pss_one (ps_ret (pe_tup (pa_cons pe_str (pa_cons (pe_ix ix_list (pv 6) (pe_c C_l_take hr (by omega) rfl (pa_cons (pv 0) (pa_cons (pe_callB call_len_seq (by rfl) T.f_len (by decide +kernel) (pa_cons (pv 6) pa_nil)) pa_nil))) (fun _ _ => rfl)) pa_nil))))) pss_nil)
      (pss_cons (ps_if (PW.pt (pw_or (pt_cmpR op_lt (pv 8) pe_int (nomark _)) (pw_or1 (pt_cmpR op_gt (pv 8) pe_int (nomark _))))) (pss_one (ps_ret (pe_tup (pa_cons pe_str (pa_cons (pv 10) (pa_cons (pe_c (C_l_expression 3) hr (by omega) rfl (pa_cons (pv 0) (pa_cons (pv 5) (pa_cons (pe_op op_add pe_int (pe_c C_l_take hr (by omega) rfl (pa_cons (pv 0) (pa_cons pe_int pa_nil)))) pa_nil)))) pa_nil)))))) pss_nil)
      (pss_cons (ps_if (PW.pt (pw_or (pt_cmpR op_lt (pv 8) pe_int (nomark _)) (pw_or1 (pt_cmpR op_eq (pv 3) pe_int (nomark _))))) (pss_cons (ps_set (i := 12) sc_l_statement.nd rfl (Or.inl rfl) (pe_slice sl_list (pe_c C_l_mixed hr (by omega) rfl (pa_cons (pv 0) (pa_cons (pe_listRg rfl (by rfl) T.f_list (prg_1 (by rfl) T.f_range (pv 11))) pa_nil))) po_none (po_some (pe_op op_add pe_int (pe_c C_l_take hr (by omega) rfl (pa_cons (pv 0) (pa_cons pe_int pa_nil)))))))
      (pss_one (ps_ret (pe_tup (pa_cons pe_str (pa_cons (pv 10) (pa_cons (pe_callTy call_tupF (by rfl) T.f_tuple (by decide +kernel) (pa_cons (pe_lc (own := [("value", 17)]) rfl sc_l_statement.nd (pi_list (pv 12)) (blkOk_by (own := [("value", 17)]) (N := N_l_statement) (sc := defScope (top 83)) (by decide +kernel)) (fun _ _ _ _ _ => (pg_name (i := 17) sc_l_statement.nd rfl (Or.inl rfl))) (fun _ _ _ _ _ => pts_nil) (fun _ _ _ _ _ => (pe_tup (pa_cons (pv 17) (pa_cons (pe_ix (ixL (K := K) rfl) (pe_lst (pa_cons pe_int (pa_cons pe_int (pa_cons pe_int (pa_cons pe_int (pa_cons pe_int pa_nil)))))) (pe_c C_l_take hr (by omega) rfl (pa_cons (pv 0) (pa_cons pe_int pa_nil))) (fun _ _ => rfl)) pa_nil))))) pa_nil)) pa_nil))))))) pss_nil)
      (pss_cons (ps_if (pt_cmpR op_lt (pv 8) pe_int (nomark _)) (pss_cons (ps_set (i := 13) sc_l_statement.nd rfl (Or.inl rfl) (pe_slice sl_list (pe_c C_l_mixed hr (by omega) rfl (pa_cons (pv 0) (pa_cons (pv 7) pa_nil))) po_none (po_some (pe_op op_add pe_int (pe_c C_l_take hr (by omega) rfl (pa_cons (pv 0) (pa_cons pe_int pa_nil)))))))
      (pss_one (ps_ret (pe_tup (pa_cons pe_str (pa_cons (pe_callTy call_tupF (by rfl) T.f_tuple (by decide +kernel) (pa_cons (pe_lc (own := [("word", 18)]) rfl sc_l_statement.nd (pi_list (pv 13)) (blkOk_by (own := [("word", 18)]) (N := N_l_statement) (sc := defScope (top 83)) (by decide +kernel)) (fun _ _ _ _ _ => (pg_name (i := 18) sc_l_statement.nd rfl (Or.inl rfl))) (fun _ _ _ _ _ => pts_nil) (fun _ _ _ _ _ => (pe_tup (pa_cons (pv 18) (pa_cons (pe_c C_l_body hr (by omega) rfl (pa_cons (pv 0) (pa_cons (pv 1) (pa_cons (pv 2) (pa_cons pe_int (pa_cons (pe_op op_sub (pv 3) pe_int) (pa_cons (pv 4) pa_nil))))))) pa_nil))))) pa_nil)) pa_nil)))))) pss_nil)
      (pss_cons (ps_par (i := 14) (j := 15) (by rfl) sc_l_statement.nd rfl rfl (by decide) rfl rfl (pa_cons (pe_c C_l_condition hr (by omega) rfl (pa_cons (pv 0) (pa_cons (pv 5) pa_nil))) (pa_cons (pe_c C_l_body hr (by omega) rfl (pa_cons (pv 0) (pa_cons (pv 1) (pa_cons (pv 2) (pa_cons pe_int (pa_cons (pe_op op_sub (pv 3) pe_int) (pa_cons (pe_callB (call_max2 rfl) (by rfl) T.f_max (by decide +kernel) (pa_cons pe_int (pa_cons (pe_op op_sub (pv 4) pe_int) pa_nil))) pa_nil))))))) pa_nil)) (by rfl))
      (pss_cons (ps_if (PW.pt (pw_or (pt_cmpR op_eq (pv 8) pe_int (nomark _)) (pw_or1 (pt_cmpR op_eq (pv 4) pe_int (nomark _))))) (pss_one (ps_ret (pe_tup (pa_cons pe_str (pa_cons (pv 14) (pa_cons (pv 15) (pa_cons (pe_c C_l_body hr (by omega) rfl (pa_cons (pv 0) (pa_cons (pv 1) (pa_cons (pv 2) (pa_cons pe_int (pa_cons (pe_op op_sub (pv 3) pe_int) (pa_cons (pv 4) pa_nil))))))) pa_nil))))))) pss_nil)
      (pss_cons (ps_if (PW.pt (pw_and (pt_cmpR op_eq (pv 8) pe_int (nomark _)) (pw_and1 (pt_cmpR op_gt (pe_ix ix_list (pv 2) pe_int (fun _ _ => rfl)) pe_int (nomark _))))) (pss_cons (ps_asg (pe_op op_sub (pe_ix ix_list (pv 2) pe_int (fun _ _ => rfl)) pe_int) (pg_sub (pv 2) pe_int set_list))
      (pss_cons (ps_set (i := 16) sc_l_statement.nd rfl (Or.inl rfl) (pe_tup (pa_cons pe_str (pa_cons (pv 10) (pa_cons (pe_tup (pa_cons pe_str (pa_cons (pe_tup (pa_cons pe_str (pa_cons (pv 10) pa_nil))) (pa_cons (pe_tup (pa_cons pe_str (pa_cons pe_int pa_nil))) pa_nil)))) pa_nil)))))
      (pss_one (ps_ret (pe_tup (pa_cons pe_str (pa_cons (pe_tup (pa_cons pe_str (pa_cons (pe_tup (pa_cons pe_str (pa_cons (pv 10) pa_nil))) (pa_cons (pe_tup (pa_cons pe_str (pa_cons (pe_op op_sub (pv 11) pe_int) pa_nil))) pa_nil)))) (pa_cons (pe_op op_catA (pv 15) (pe_tup (pa_cons (pv 16) pa_nil))) pa_nil)))))))) pss_nil)
      (pss_one (ps_ret (pe_tup (pa_cons pe_str (pa_cons (pv 14) (pa_cons (pv 15) pa_nil)))))))))))))))), ?_⟩
  obtain ⟨b, W, r, d, l, c, m, ns, ah, lb, rfl, hdn, B, hr0, hc, hW, hWo, hok, hQ⟩ := h
  have nrb : r ≠ b := B.other hr0 (by simp)
  have x6 : xN 3 = 56 := rfl
  obtain ⟨pn, A1, A2, hW0, hN, hA0, hL0⟩ := id hW
  have hA2 : ∀ {H'}, Go [b, r] H H' → H' A1 = some (.lst (ah.map V.str)) := fun g => go_strs g B hr0 hA0
  have hL2 : ∀ {H'}, Go [b, r] H H' → H' A2 = some (.lst (lb.map V.str)) := fun g => go_strs g B hr0 hL0
  have hW2 : ∀ {H'}, Go [b, r] H H' → WAt K H' W ns ah lb := fun g => hW.go g B hr0
  obtain ⟨ps, hp, hT⟩ := id hN
  have hl := hT.length
  have hn3 := hok.len
  refine ⟨_, rfl, W, _, rfl, SqL.of hW0, rfl, _, _, rfl, _, _, rfl, _, _, rfl, rfl, ?_⟩
  refine ⟨_, rfl, b, c, 13, rfl, B, by omega, by decide, by decide, fun way H1 hway g1 B1 => ?_⟩
  refine ⟨_, rfl, _, rfl, pn, _, rfl, .inr (kt_t g1.kt hp), b, _, _, rfl, B1, by omega, by rw [List.length_map]; omega, by rw [List.length_map]; omega, fun r1 H2 hr1 g2 B2 => ?_⟩
  refine ⟨_, _, rfl, ?_⟩
  have hr1' : r1 < ps.length := by rw [List.length_map] at hr1; omega
  obtain ⟨n1, hn1, hq1⟩ := hT.get (List.getElem?_eq_getElem hr1')
  have g2 := g1.trans g2
  have hq2 := g2 _ _ hq1 (.inl rfl)
  have w1 := mem_wds hn1
  have hsz := hok.size (List.mem_of_getElem? hn1)
  refine ⟨_, rfl, _, rfl, pn, _, _, _, rfl, rfl, kt_t g2.kt hp, atI_nat (refs_at2 (List.getElem?_eq_getElem hr1')), _, nV n1, rfl, SqT.of hq2, rfl, _, _, rfl, _, _, rfl, rfl, ?_⟩
  clear g1 B1
  have B2 := B2.mono (show _ ≤ c + 2 by omega)
  clear hq2
  refine ⟨fun σ H' => σ = [some (.ref b), some (.ref W), some (.ref r), some (.int (d : Int)), some (.int (l : Int)), some (.ref pn), some (.ref A1), some (.ref A2), some (.int (way : Int)), some (.int (r1 : Int)), some (.str n1.1), some (.int (n1.2 : Int)), none, none, none, none, none, none, none] ∧ Go [b] H H' ∧ Box H' b (c + 2), ?_, ?_⟩
  · refine ⟨_, rfl, _, _, rfl, rfl, _, rfl, ?_⟩
    refine ite2 (fun c1 => ?_) (fun c1 => ?_)
    · refine ⟨_, rfl, Nat.zero_le _, fun q hq => ?_⟩
      have eq := Evl.Ex.new (o := .lst []) hq
      have g3 := g2.trans (go (S := [b]) eq)
      have B3 := B2.ex eq
      have hA3 := hA2 g3.two
      have dv : ∀ v ∈ ah.map V.str, DV K (upd H2 q (.lst [])) v := fun v hv => by
        obtain ⟨y, hy, rfl⟩ := List.mem_map.mp hv
        exact DV.word (hWo.aw y hy)
      obtain ⟨ds, d1, d2, d3, d4⟩ := DV.all dv
      refine ⟨.list ds, .list [], .lst (SqL.of hA3) d1, .lst (SqL.of upd_same) .nil, shaped_list d2 (by omega), shaped_list (by simp [PyData.canLayAll0]) (by simp [PyData.depthAll]), _, rfl, ?_⟩
      rw [eqv_empty]
      generalize upd H2 q (.lst []) = H3 at *
      cases hz0 : ds.isEmpty with
      | true => exact ⟨rfl, g3, B3⟩
      | false =>
        have hpos : 0 < ah.length := by
          rw [List.length_map] at d4
          cases ds with
          | nil => cases hz0
          | cons a r => simp at d4; omega
        have a6 := hWo.a6
        refine iteT ?_
        refine ⟨_, rfl, _, rfl, _, rfl, A1, _, rfl, .inl (SqL.of hA3), b, _, _, rfl, B3, by omega, by rw [List.length_map]; omega, by rw [List.length_map]; omega, fun r3 H4 hr3 g4 B4 => ?_⟩
        rw [List.length_map] at hr3
        have hrz : r3 < ah.length := by omega
        have g4 := g3.trans g4
        refine ⟨A1, _, _, .str ah[r3], rfl, rfl, SqL.of (hA2 g4.two), atI_nat (by rw [List.getElem?_map, List.getElem?_eq_getElem hrz]; rfl), (by show 2 ≤ sizeLine; decide), fun t ht => ?_⟩
        have e9 := Evl.Ex.new (o := .tup [.str "call", .str ah[r3]]) ht
        refine hQ (.cal ah[r3]) _ _ _ m (g4.two.trans (go e9)) (B4.ex e9) (e9 _ _ (g4.at hr0 (by simp [nrb]))) (Nat.le_refl _) (by omega) ?_ ?_ (by simp only [cntS]; omega)
        · simp only [RepS]
          exact ⟨t, rfl, SqT.of upd_same⟩
        · have hO : ah[r3] ∈ ah ∧ WordOk ah[r3] := ⟨List.getElem_mem hrz, hWo.aw _ (List.getElem_mem hrz)⟩
          cases d <;> cases l <;> simpa only [OkS] using hO
    · exact ⟨rfl, g2, B2⟩
  rintro σ H2 ⟨rfl, g2, B2⟩
  have SET : ∀ (Z : Prop), ((∀ (t : Tr) (u : V) (H4 : Hp), Go [b] H H4 → Box H4 b (c + 3 + xN 3) → RepT K H4 t u → IsX (wds ns) 6 t → ∀ q, H4 q = none → Q (.ref q) (upd H4 q (.tup [.str "set", .str n1.1, u]))) → Z) → Z := fun Z z => z fun t u H4 g4 B4 hR4 hX4 q hq => by
    have e9 := Evl.Ex.new (o := .tup [.str "set", .str n1.1, u]) hq
    refine hQ (.set n1.1 t) _ _ _ m (g4.two.trans (go e9)) (B4.ex e9) (e9 _ _ (g4.at hr0 (by simp [nrb]))) (Nat.le_refl _) (by omega) ?_ ?_ (by simp only [cntS]; omega)
    · simp only [RepS]
      exact ⟨q, u, rfl, SqT.of upd_same, hR4.mono e9⟩
    · simp only [OkS]
      exact ⟨w1, hX4⟩
  refine ⟨_, rfl, _, _, rfl, rfl, _, rfl, ?_⟩
  refine ite2 (fun c1 => ?_) (fun c1 => ?_)
  · refine ⟨_, rfl, _, rfl, _, rfl, _, rfl, b, _, 3, rfl, B2, by omega, by decide, by decide, fun r3 H3 hr3 g3 B3 => ?_⟩
    have g3 := g2.trans g3
    refine ⟨_, _, rfl, rfl, b, pn, 1 + r3, _, ns, ?_, by omega, by omega, by omega, B3, by omega, hN.kt g3.kt, hok, fun t4 u4 H4 g4 B4 hR4 hX4 => ?_⟩
    · show ([V.ref b, V.ref pn, V.int (1 + (r3 : Int))] : List V) = _
      rw [show (1 + (r3 : Int)) = ((1 + r3 : Nat) : Int) by omega]
    exact SET _ fun z => ⟨(by show 3 ≤ sizeLine; decide), fun q hq => z t4 u4 H4 (g3.trans g4) B4 hR4 (hX4.mono (by omega)) q hq⟩
  refine ⟨_, rfl, _, _, rfl, rfl, _, rfl, ?_⟩
  refine ite2 (fun c2 => ?_) (fun c2 => ?_)
  · refine ⟨_, rfl, _, rfl, _, rfl, _, rfl, b, _, 3, rfl, B2, by omega, by decide, by decide, fun r3 H3 hr3 g3 B3 => ?_⟩
    have g3 := g2.trans g3
    refine ⟨_, _, rfl, rfl, b, pn, 1 + r3, _, ns, ?_, by omega, by omega, by omega, B3, by omega, hN.kt g3.kt, hok, fun t4 u4 H4 g4 B4 hR4 hX4 => ?_⟩
    · show ([V.ref b, V.ref pn, V.int (1 + (r3 : Int))] : List V) = _
      rw [show (1 + (r3 : Int)) = ((1 + r3 : Nat) : Int) by omega]
    exact SET _ fun z => ⟨(by show 3 ≤ sizeLine; decide), fun q hq => z t4 u4 H4 (g3.trans g4) B4 hR4 (hX4.mono (by omega)) q hq⟩
  clear SET
  refine ⟨_, rfl, _, _, rfl, rfl, _, rfl, ?_⟩
  refine ite2 (fun c3 => ?_) (fun c3 => ?_)
  · refine ⟨_, rfl, _, rfl, (n1.2 : Int), rfl, RgOk.of_le (by omega) (by omega) (by omega) (by omega), fun R hR => ?_⟩
    have eR := Evl.Ex.new (o := .lst (rgV 0 (n1.2 : Int))) hR
    refine ⟨b, R, _, _, rfl, SqL.of upd_same, by rw [rgV_length]; omega, B2.ex eR, by omega, fun q0 ys H3 g3 B3 hq0 hq3 hpm => ?_⟩
    have nq0 := (B2.ex eR).ne hq0
    have g3 := (g2.trans (go (S := [b]) eR)).trans g3
    obtain ⟨zs, hzp, rfl⟩ := perm_map hpm (xs := List.range n1.2) (f := fun v : Nat => V.int (v : Int)) (by rw [rgV_nat])
    refine ⟨_, rfl, b, _, 2, rfl, B3, by omega, by decide, by decide, fun r3 H4 hr3 g4 B4 => ?_⟩
    have hq4 := g4.at hq3 (by simp [nq0])
    have g4 := g3.trans g4
    refine ⟨_, _, rfl, rfl, _, rfl, q0, _, rfl, SqL.of hq4, fun V0 hV => ?_⟩
    have ek : (2 + (r3 : Int)) = ((2 + r3 : Nat) : Int) := by omega
    rw [ek, cut_takeM, ← List.map_take]
    have eV := Evl.Ex.new (o := .lst ((zs.take (2 + r3)).map fun v : Nat => V.int (v : Int))) hV
    have hV5 : upd H4 V0 (.lst ((zs.take (2 + r3)).map fun v : Nat => V.int (v : Int))) V0 = some (.lst ((zs.take (2 + r3)).map fun v : Nat => V.int (v : Int))) := upd_same
    have nV := B4.ne hV
    have B5 := B4.ex eV
    have g5 := g4.trans (go (S := [b]) eV)
    have zl : zs.length = n1.2 := by rw [hzp.length_eq, List.length_range]
    have znd : (zs.take (2 + r3)).Nodup := ((hzp.nodup_iff).mpr List.nodup_range).sublist (List.take_sublist _ _)
    have zlt : ∀ v ∈ zs.take (2 + r3), v < n1.2 := fun v hv => List.mem_range.mp ((hzp.mem_iff).mp (List.mem_of_mem_take hv))
    have vl : (zs.take (2 + r3)).length = min (2 + r3) n1.2 := by rw [List.length_take, zl]
    generalize zs.take (2 + r3) = vl0 at *
    generalize upd H4 V0 (.lst (vl0.map fun v : Nat => V.int (v : Int))) = H5 at *
    clear eV hV g4 B4 hq4 ek hzp zl hq3 g3 B3 hq0 nq0 eR hR
    refine ⟨_, rfl, _, rfl, V0, rfl, ⟨_, SqL.of hV5⟩, fun D0 hD0 => ?_⟩
    have nD := B5.ne hD0
    have nVD : V0 ≠ D0 := ne_of_none hV5 hD0
    refine lc_it (walk_list (xs := vl0.map fun v : Nat => V.int (v : Int))) (fun i H' => ∃ (ts : List Addr) (wz : List (Nat × Nat)), H' D0 = some (.lst (ts.map V.ref)) ∧ RepW K H' wz ts ∧ wz.map (·.1) = vl0.take i ∧ (∀ p ∈ wz, 1 ≤ p.2 ∧ p.2 ≤ 12) ∧ Go [b] H5 H' ∧ Box H' b (c + 60 + i) ∧ H' V0 = some (.lst (vl0.map fun v : Nat => V.int (v : Int))))
      ⟨[], [], upd_same, rfl, by simp, by simp, go (Evl.Ex.new hD0), (B5.ex (Evl.Ex.new hD0)).mono (by omega), Evl.Ex.new hD0 _ _ hV5⟩ (fun i H' _ z => by obtain ⟨_, _, _, _, _, _, _, _, z⟩ := z; exact SqL.of z) ?_ ?_
    · rintro i x H6 H6' hi ⟨ts, wz, hD6, hW6, hw1, hw2, g6, B6, hV6⟩ ⟨rfl, hx⟩
      rw [List.length_map] at hi
      obtain ⟨v, hv, rfl⟩ : ∃ v : Nat, vl0[i]? = some v ∧ x = .int (v : Int) := by
        rw [List.getElem?_map, List.getElem?_eq_getElem hi] at hx
        cases hx
        exact ⟨_, List.getElem?_eq_getElem hi, rfl⟩
      refine ⟨rfl, ?_⟩
      refine ⟨_, rfl, (by show 5 ≤ sizeLine; decide), fun l0 hl0 => ?_⟩
      have eL := Evl.Ex.new (o := .lst [V.int 1, V.int 1, V.int 2, V.int 3, V.int 12]) hl0
      have nl := B6.ne hl0
      refine ⟨_, rfl, b, _, 5, rfl, B6.ex eL, by omega, by decide, by decide, fun r6 H7 hr6 g7 B7 => ?_⟩
      obtain ⟨w0, hw0, hw3, hw4⟩ := w_menu r6 (by omega)
      have hl7 := g7.at (a := l0) (upd_same (H := H6')) (by simp [nl])
      have g67 := (go (S := [b]) eL).trans g7
      refine ⟨l0, _, _, _, rfl, rfl, SqL.of hl7, hw0, (by show 2 ≤ sizeLine; decide), fun t ht => ?_⟩
      have eT := Evl.Ex.new (o := .tup [V.int (v : Int), V.int (w0 : Int)]) ht
      have hD7 := eT _ _ (g67.at hD6 (by simp [nD]))
      have htl : ts.length = i := by
        rw [← hW6.length, ← List.length_map (f := (·.1)), hw1, List.length_take]
        omega
      refine ⟨_, hD7, Nat.lt_of_le_of_lt (show (ts.map V.ref).length ≤ 100 by rw [List.length_map]; omega) (by decide), ?_⟩
      have nTD : t ≠ D0 := (ne_of_none (g67.at hD6 (by simp [nD])) ht).symm
      have k8 : Kt (upd H7 t (.tup [V.int (v : Int), V.int (w0 : Int)])) (upd (upd H7 t (.tup [V.int (v : Int), V.int (w0 : Int)])) D0 (.lst (ts.map V.ref ++ [V.ref t]))) := Kt.upd hD7 rfl
      refine ⟨ts ++ [t], wz ++ [(v, w0)], by rw [upd_same]; simp, ((hW6.kt (g67.trans (go (S := [b]) eT)).kt).kt k8).app (kt_t k8 (SqT.of upd_same)), ?_, ?_, ((g6.trans g67).trans (go eT)).app hD0, ?_, ?_⟩
      · rw [List.map_append, hw1, List.take_add_one, hv]; rfl
      · intro p hp
        rcases List.mem_append.mp hp with hp | hp
        · exact hw2 p hp
        · cases (List.mem_singleton.mp hp); exact ⟨hw3, hw4⟩
      · obtain ⟨gg, ff, ss, kk, h1, h2⟩ := (B7.ex eT).mono (show _ ≤ c + 60 + (i + 1) by omega)
        exact ⟨gg, ff, ss, kk, by rw [upd_ne nD.symm]; exact h1, h2⟩
      · rw [upd_ne nVD]
        exact eT _ _ (g67.at hV6 (by simp [nV]))
    · rintro H6 ⟨ts, wz, hD6, hW6, hw1, hw2, g6, B6, hV6⟩
      rw [List.length_map] at hw1 B6
      rw [List.take_length] at hw1
      have hwl : wz.length = vl0.length := by rw [← hw1, List.length_map]
      refine ⟨D0, _, rfl, .inl ⟨SqL.of hD6, fun q o hq ho => ⟨(by show 3 ≤ sizeLine; decide), fun t ht => ?_⟩⟩⟩
      have e1 := Evl.Ex.new (o := .frz o (.tup (ts.map V.ref))) hq
      have s1 : upd H6 q (.frz o (.tup (ts.map V.ref))) q = some (.frz o (.tup (ts.map V.ref))) := upd_same
      generalize upd H6 q (.frz o (.tup (ts.map V.ref))) = K1 at *
      have e2 := Evl.Ex.new (o := .tup [.str "draw", .str n1.1, .ref q]) ht
      have G2 := (g5.trans g6).two (r := r)
      refine hQ (.drw n1.1 wz) _ _ _ m (G2.trans (go (e1.trans e2))) ((B6.ex e1).ex e2) (e2 _ _ (e1 _ _ ((g5.trans g6).at hr0 (by simp [nrb])))) (Nat.le_refl _) (by omega) ?_ ?_ (by simp only [cntS]; omega)
      · simp only [RepS]
        exact ⟨t, q, ts, rfl, SqT.of upd_same, .inl (.inr ⟨o, e2 _ _ s1⟩), ⟨o, e2 _ _ s1, ho⟩, (hW6.mono e1).mono e2⟩
      · have hO : n1.1 ∈ wds ns ∧ OkW (szf ns n1.1) wz := by
          refine ⟨w1, by omega, by omega, by rw [hw1]; exact znd, fun p hp => ?_⟩
          have h1 := hw2 p hp
          have h2 := zlt p.1 (by rw [← hw1]; exact List.mem_map_of_mem hp)
          rw [szf_at hok hn1]
          exact ⟨h2, by omega, h1.1, h1.2⟩
        cases d <;> cases l <;> simpa only [OkS] using hO
  refine ⟨_, rfl, rfl, _, rfl, ?_⟩
  refine ite2 (fun c4 => ?_) (fun c4 => ?_)
  · refine ⟨_, rfl, _, rfl, (n1.2 : Int), rfl, RgOk.of_le (by omega) (by omega) (by omega) (by omega), fun R hR => ?_⟩
    have eR := Evl.Ex.new (o := .lst (rgV 0 (n1.2 : Int))) hR
    refine ⟨b, R, _, _, rfl, SqL.of upd_same, by rw [rgV_length]; omega, B2.ex eR, by omega, fun q0 ys H3 g3 B3 hq0 hq3 hpm => ?_⟩
    have nq0 := (B2.ex eR).ne hq0
    have g3 := (g2.trans (go (S := [b]) eR)).trans g3
    obtain ⟨zs, hzp, rfl⟩ := perm_map hpm (xs := List.range n1.2) (f := fun v : Nat => V.int (v : Int)) (by rw [rgV_nat])
    refine ⟨_, rfl, b, _, 2, rfl, B3, by omega, by decide, by decide, fun r3 H4 hr3 g4 B4 => ?_⟩
    have hq4 := g4.at hq3 (by simp [nq0])
    have g4 := g3.trans g4
    refine ⟨_, _, rfl, rfl, _, rfl, q0, _, rfl, SqL.of hq4, fun V0 hV => ?_⟩
    have ek : (2 + (r3 : Int)) = ((2 + r3 : Nat) : Int) := by omega
    rw [ek, cut_takeM, ← List.map_take]
    have eV := Evl.Ex.new (o := .lst ((zs.take (2 + r3)).map fun v : Nat => V.int (v : Int))) hV
    have hV5 : upd H4 V0 (.lst ((zs.take (2 + r3)).map fun v : Nat => V.int (v : Int))) V0 = some (.lst ((zs.take (2 + r3)).map fun v : Nat => V.int (v : Int))) := upd_same
    have nV := B4.ne hV
    have B5 := B4.ex eV
    have g5 := g4.trans (go (S := [b]) eV)
    have zl : zs.length = n1.2 := by rw [hzp.length_eq, List.length_range]
    have znd : (zs.take (2 + r3)).Nodup := ((hzp.nodup_iff).mpr List.nodup_range).sublist (List.take_sublist _ _)
    have zlt : ∀ v ∈ zs.take (2 + r3), v < n1.2 := fun v hv => List.mem_range.mp ((hzp.mem_iff).mp (List.mem_of_mem_take hv))
    have vl : (zs.take (2 + r3)).length = min (2 + r3) n1.2 := by rw [List.length_take, zl]
    generalize zs.take (2 + r3) = vl0 at *
    generalize upd H4 V0 (.lst (vl0.map fun v : Nat => V.int (v : Int))) = H5 at *
    clear eV hV g4 B4 hq4 ek hzp zl hq3 g3 B3 hq0 nq0 eR hR
    refine ⟨_, rfl, _, rfl, V0, rfl, ⟨_, SqL.of hV5⟩, fun D0 hD0 => ?_⟩
    have nD := B5.ne hD0
    have nVD : V0 ≠ D0 := ne_of_none hV5 hD0
    refine lc_it (walk_list (xs := vl0.map fun v : Nat => V.int (v : Int))) (fun i H' => ∃ (ts : List Addr) (wz : List (Nat × Nat)), H' D0 = some (.lst (ts.map V.ref)) ∧ RepW K H' wz ts ∧ wz.map (·.1) = vl0.take i ∧ (∀ p ∈ wz, 1 ≤ p.2 ∧ p.2 ≤ 12) ∧ Go [b] H5 H' ∧ Box H' b (c + 60 + i) ∧ H' V0 = some (.lst (vl0.map fun v : Nat => V.int (v : Int))))
      ⟨[], [], upd_same, rfl, by simp, by simp, go (Evl.Ex.new hD0), (B5.ex (Evl.Ex.new hD0)).mono (by omega), Evl.Ex.new hD0 _ _ hV5⟩ (fun i H' _ z => by obtain ⟨_, _, _, _, _, _, _, _, z⟩ := z; exact SqL.of z) ?_ ?_
    · rintro i x H6 H6' hi ⟨ts, wz, hD6, hW6, hw1, hw2, g6, B6, hV6⟩ ⟨rfl, hx⟩
      rw [List.length_map] at hi
      obtain ⟨v, hv, rfl⟩ : ∃ v : Nat, vl0[i]? = some v ∧ x = .int (v : Int) := by
        rw [List.getElem?_map, List.getElem?_eq_getElem hi] at hx
        cases hx
        exact ⟨_, List.getElem?_eq_getElem hi, rfl⟩
      refine ⟨rfl, ?_⟩
      refine ⟨_, rfl, (by show 5 ≤ sizeLine; decide), fun l0 hl0 => ?_⟩
      have eL := Evl.Ex.new (o := .lst [V.int 1, V.int 1, V.int 2, V.int 3, V.int 12]) hl0
      have nl := B6.ne hl0
      refine ⟨_, rfl, b, _, 5, rfl, B6.ex eL, by omega, by decide, by decide, fun r6 H7 hr6 g7 B7 => ?_⟩
      obtain ⟨w0, hw0, hw3, hw4⟩ := w_menu r6 (by omega)
      have hl7 := g7.at (a := l0) (upd_same (H := H6')) (by simp [nl])
      have g67 := (go (S := [b]) eL).trans g7
      refine ⟨l0, _, _, _, rfl, rfl, SqL.of hl7, hw0, (by show 2 ≤ sizeLine; decide), fun t ht => ?_⟩
      have eT := Evl.Ex.new (o := .tup [V.int (v : Int), V.int (w0 : Int)]) ht
      have hD7 := eT _ _ (g67.at hD6 (by simp [nD]))
      have htl : ts.length = i := by
        rw [← hW6.length, ← List.length_map (f := (·.1)), hw1, List.length_take]
        omega
      refine ⟨_, hD7, Nat.lt_of_le_of_lt (show (ts.map V.ref).length ≤ 100 by rw [List.length_map]; omega) (by decide), ?_⟩
      have nTD : t ≠ D0 := (ne_of_none (g67.at hD6 (by simp [nD])) ht).symm
      have k8 : Kt (upd H7 t (.tup [V.int (v : Int), V.int (w0 : Int)])) (upd (upd H7 t (.tup [V.int (v : Int), V.int (w0 : Int)])) D0 (.lst (ts.map V.ref ++ [V.ref t]))) := Kt.upd hD7 rfl
      refine ⟨ts ++ [t], wz ++ [(v, w0)], by rw [upd_same]; simp, ((hW6.kt (g67.trans (go (S := [b]) eT)).kt).kt k8).app (kt_t k8 (SqT.of upd_same)), ?_, ?_, ((g6.trans g67).trans (go eT)).app hD0, ?_, ?_⟩
      · rw [List.map_append, hw1, List.take_add_one, hv]; rfl
      · intro p hp
        rcases List.mem_append.mp hp with hp | hp
        · exact hw2 p hp
        · cases (List.mem_singleton.mp hp); exact ⟨hw3, hw4⟩
      · obtain ⟨gg, ff, ss, kk, h1, h2⟩ := (B7.ex eT).mono (show _ ≤ c + 60 + (i + 1) by omega)
        exact ⟨gg, ff, ss, kk, by rw [upd_ne nD.symm]; exact h1, h2⟩
      · rw [upd_ne nVD]
        exact eT _ _ (g67.at hV6 (by simp [nV]))
    · rintro H6 ⟨ts, wz, hD6, hW6, hw1, hw2, g6, B6, hV6⟩
      rw [List.length_map] at hw1 B6
      rw [List.take_length] at hw1
      have hwl : wz.length = vl0.length := by rw [← hw1, List.length_map]
      refine ⟨D0, _, rfl, .inl ⟨SqL.of hD6, fun q o hq ho => ⟨(by show 3 ≤ sizeLine; decide), fun t ht => ?_⟩⟩⟩
      have e1 := Evl.Ex.new (o := .frz o (.tup (ts.map V.ref))) hq
      have s1 : upd H6 q (.frz o (.tup (ts.map V.ref))) q = some (.frz o (.tup (ts.map V.ref))) := upd_same
      generalize upd H6 q (.frz o (.tup (ts.map V.ref))) = K1 at *
      have e2 := Evl.Ex.new (o := .tup [.str "draw", .str n1.1, .ref q]) ht
      have G2 := (g5.trans g6).two (r := r)
      refine hQ (.drw n1.1 wz) _ _ _ m (G2.trans (go (e1.trans e2))) ((B6.ex e1).ex e2) (e2 _ _ (e1 _ _ ((g5.trans g6).at hr0 (by simp [nrb])))) (Nat.le_refl _) (by omega) ?_ ?_ (by simp only [cntS]; omega)
      · simp only [RepS]
        exact ⟨t, q, ts, rfl, SqT.of upd_same, .inl (.inr ⟨o, e2 _ _ s1⟩), ⟨o, e2 _ _ s1, ho⟩, (hW6.mono e1).mono e2⟩
      · have hO : n1.1 ∈ wds ns ∧ OkW (szf ns n1.1) wz := by
          refine ⟨w1, by omega, by omega, by rw [hw1]; exact znd, fun p hp => ?_⟩
          have h1 := hw2 p hp
          have h2 := zlt p.1 (by rw [← hw1]; exact List.mem_map_of_mem hp)
          rw [szf_at hok hn1]
          exact ⟨h2, by omega, h1.1, h1.2⟩
        cases d <;> cases l <;> simpa only [OkS] using hO
  have hd0 : d ≠ 0 := fun z => c4 (by rw [z]; rfl)
  obtain ⟨d', rfl⟩ : ∃ d', d = d' + 1 := ⟨d - 1, by omega⟩
  obtain ⟨n', rfl⟩ : ∃ n', n = n' + 1 := ⟨n - 1, by omega⟩
  refine ⟨_, rfl, _, _, rfl, rfl, _, rfl, ?_⟩
  refine ite2 (fun c5 => ?_) (fun c5 => ?_)
  · refine ⟨_, rfl, _, rfl, b, A2, _, _, rfl, SqL.of (hL2 g2.two), by rw [List.length_map, hWo.l3]; omega, B2, by omega, fun q0 ys H3 g3 B3 hq0 hq3 hpm => ?_⟩
    have nq0 := B2.ne hq0
    have g3 := g2.trans g3
    obtain ⟨zs, hzp, rfl⟩ := perm_map hpm (xs := lb) (f := V.str) rfl
    refine ⟨_, rfl, b, _, 2, rfl, B3, by omega, by decide, by decide, fun r3 H4 hr3 g4 B4 => ?_⟩
    have hq4 := g4.at hq3 (by simp [nq0])
    have g4 := g3.trans g4
    refine ⟨_, _, rfl, rfl, _, rfl, q0, _, rfl, SqL.of hq4, fun V0 hV => ?_⟩
    have ek : (2 + (r3 : Int)) = ((2 + r3 : Nat) : Int) := by omega
    rw [ek, cut_takeM, ← List.map_take]
    have eV := Evl.Ex.new (o := .lst ((zs.take (2 + r3)).map V.str)) hV
    have hV5 : upd H4 V0 (.lst ((zs.take (2 + r3)).map V.str)) V0 = some (.lst ((zs.take (2 + r3)).map V.str)) := upd_same
    have nV := B4.ne hV
    have hr4 := g4.at hr0 (by simp [nrb])
    have nVr : V0 ≠ r := (ne_of_none hr4 hV).symm
    have B5 := B4.ex eV
    have hr5 := eV _ _ hr4
    have g5 := g4.trans (go (S := [b]) eV)
    have l3 := hWo.l3
    have zl : zs.length = 3 := by rw [hzp.length_eq, l3]
    have znd : (zs.take (2 + r3)).Nodup := ((hzp.nodup_iff).mpr hWo.ln).sublist (List.take_sublist _ _)
    have zok : ∀ v ∈ zs.take (2 + r3), WordOk v := fun v hv => hWo.lw v ((hzp.mem_iff).mp (List.mem_of_mem_take hv))
    have vl : (zs.take (2 + r3)).length = min (2 + r3) 3 := by rw [List.length_take, zl]
    generalize zs.take (2 + r3) = vl0 at *
    generalize upd H4 V0 (.lst (vl0.map V.str)) = H5 at *
    clear eV hV g4 B4 hq4 ek hzp zl hq3 g3 B3 hq0 nq0 hr4
    refine ⟨_, rfl, V0, rfl, ⟨_, SqL.of hV5⟩, fun D0 hD0 => ?_⟩
    have nD := B5.ne hD0
    have nDr : D0 ≠ r := (ne_of_none hr5 hD0).symm
    have nVD : V0 ≠ D0 := ne_of_none hV5 hD0
    refine lc_it (walk_list (xs := vl0.map V.str)) (fun i H' => ∃ (ts : List Addr) (bs : List (List Sm)) (c' m' : Nat), H' D0 = some (.lst (ts.map V.ref)) ∧ RepP K H' (vl0.take i) bs ts ∧ OkB (wds ns) (szf ns) ah d' l bs ∧ Go [b, r] H5 H' ∧ Box H' b c' ∧ H' r = some (.lst [.int (m' : Int)]) ∧ m' ≤ m ∧ c' ≤ c + 60 + i + 3000 * (m - m') ∧ cntB bs + m' ≤ m ∧ H' V0 = some (.lst (vl0.map V.str)))
      ⟨[], [], _, m, upd_same, by simp [RepP], by simp [OkB], go (Evl.Ex.new hD0), B5.ex (Evl.Ex.new hD0), Evl.Ex.new hD0 _ _ hr5, Nat.le_refl _, by omega, by simp [cntB], Evl.Ex.new hD0 _ _ hV5⟩ (fun i H' _ z => by obtain ⟨_, _, _, _, _, _, _, _, _, _, _, _, _, z⟩ := z; exact SqL.of z) ?_ ?_
    · rintro i x H6 H6' hi ⟨ts, bs, c', m', hD6, hP6, hO6, g6, B6, hr6, hm6, hc6, hn6, hV6⟩ ⟨rfl, hx⟩
      rw [List.length_map] at hi
      obtain ⟨v, hv, rfl⟩ : ∃ v : Str, vl0[i]? = some v ∧ x = .str v := by
        rw [List.getElem?_map, List.getElem?_eq_getElem hi] at hx
        cases hx
        exact ⟨_, List.getElem?_eq_getElem hi, rfl⟩
      refine ⟨rfl, ?_⟩
      refine ⟨_, rfl, _, rfl, _, rfl, _, rfl, _, rfl, _, _, rfl, rfl, _, rfl, ?_⟩
      have G6 := g5.two.trans g6
      refine ⟨b, W, r, 2, d', l, c', m', ns, ah, lb, ?_, by omega, by omega, B6, hr6, by omega, hW2 G6, hWo, hok, fun b7 q7 H7 c7 m7 g7 B7 hr7 hm7 hc7 hR7 hO7 hn7 => ?_⟩
      · show ([V.ref b, V.ref W, V.ref r, V.int 2, V.int (((d' + 1 : Nat) : Int) - 1), V.int (l : Int)] : List V) = _
        rw [sub_lem _ (by omega), Nat.add_sub_cancel]
        rfl
      refine ⟨(by show 2 ≤ sizeLine; decide), fun t ht => ?_⟩
      have eT := Evl.Ex.new (o := .tup [V.str v, V.ref q7]) ht
      have hD7 := g7.at hD6 (by simp [nD, nDr])
      have nTD : t ≠ D0 := (ne_of_none hD7 ht).symm
      have htl := hP6.length.1
      rw [List.length_take] at htl
      refine ⟨_, eT _ _ hD7, Nat.lt_of_le_of_lt (show (ts.map V.ref).length ≤ 100 by rw [List.length_map]; omega) (by decide), ?_⟩
      have k8 : Kt (upd H7 t (.tup [V.str v, V.ref q7])) (upd (upd H7 t (.tup [V.str v, V.ref q7])) D0 (.lst (ts.map V.ref ++ [V.ref t]))) := Kt.upd (eT _ _ hD7) rfl
      refine ⟨ts ++ [t], bs ++ [b7], c7, m7, by rw [upd_same]; simp, ?_, ?_, ((g6.trans g7).trans (go eT)).app hD0, ?_, ?_, by omega, by omega, ?_, ?_⟩
      · rw [List.take_add_one, hv]
        exact ((hP6.kt (g7.trans (go (S := [b, r]) eT)).kt).kt k8).app (kt_t k8 (SqT.of upd_same)) ((hR7.mono eT).kt k8)
      · refine OkB.of fun z hz => ?_
        rcases List.mem_append.mp hz with hz | hz
        · exact hO6.get hz
        · cases (List.mem_singleton.mp hz); exact hO7
      · obtain ⟨gg, ff, ss, kk, h1, h2⟩ := B7.ex eT
        exact ⟨gg, ff, ss, kk, by rw [upd_ne nD.symm]; exact h1, h2⟩
      · rw [upd_ne nDr.symm]; exact eT _ _ hr7
      · rw [cntB_app]
        simp only [cntB]
        omega
      · rw [upd_ne nVD]
        exact eT _ _ (g7.at hV6 (by simp [nV, nVr]))
    · rintro H6 ⟨ts, bs, c', m', hD6, hP6, hO6, g6, B6, hr6, hm6, hc6, hn6, hV6⟩
      rw [List.length_map] at hP6 hc6
      rw [List.take_length] at hP6
      have hpl := hP6.length
      refine ⟨D0, _, rfl, .inl ⟨SqL.of hD6, fun q o hq ho => ⟨(by show 2 ≤ sizeLine; decide), fun t ht => ?_⟩⟩⟩
      have e1 := Evl.Ex.new (o := .frz o (.tup (ts.map V.ref))) hq
      have s1 : upd H6 q (.frz o (.tup (ts.map V.ref))) q = some (.frz o (.tup (ts.map V.ref))) := upd_same
      generalize upd H6 q (.frz o (.tup (ts.map V.ref))) = K1 at *
      have e2 := Evl.Ex.new (o := .tup [.str "choose", .ref q]) ht
      refine hQ (.cho vl0 bs) _ _ _ m' ((g5.two.trans g6).trans (go (e1.trans e2))) ((B6.ex e1).ex e2) (e2 _ _ (e1 _ _ hr6)) hm6 (by omega) ?_ ?_ (by simp only [cntS]; omega)
      · simp only [RepS]
        exact ⟨t, q, ts, rfl, SqT.of upd_same, .inl (.inr ⟨o, e2 _ _ s1⟩), ⟨o, e2 _ _ s1, ho⟩, (hP6.mono e1).mono e2⟩
      · simp only [OkS]
        exact ⟨by omega, by omega, by omega, znd, zok, hO6⟩
  refine ⟨_, rfl, _, rfl, b, pn, _, ns, rfl, B2, by omega, hN.kt g2.kt, hok, fun t4 u4 H4 g4 B4 hR4 hX4 => ?_⟩
  have g4 := (g2.trans g4).two (r := r)
  have hr4 := (g2.trans ‹Go [b] H2 H4›).at hr0 (by simp [nrb])
  refine ⟨_, rfl, _, rfl, _, rfl, _, rfl, _, _, rfl, rfl, _, rfl, _, _, rfl, rfl, _, _, rfl, ?_⟩
  refine ⟨b, W, r, 2, d', l - 1, _, m, ns, ah, lb, ?_, by omega, by omega, B4, hr4, by omega, hW2 g4, hWo, hok, fun b5 q5 H5 c5 m5 g5 B5 hr5 hm5 hc5 hR5 hO5 hn5 => ?_⟩
  · show ([V.ref b, V.ref W, V.ref r, V.int 2, V.int (((d' + 1 : Nat) : Int) - 1), V.int (if (l : Int) - 1 > 0 then (l : Int) - 1 else 0)] : List V) = _
    rw [sub_lem _ (by omega), Nat.add_sub_cancel, max_lem]
    rfl
  refine ⟨_, _, rfl, ?_⟩
  have hR4 := hR4.kt g5.kt
  have g5 := g4.trans g5
  refine ⟨_, rfl, rfl, _, rfl, ?_⟩
  refine ite2 (fun c6 => ?_) (fun c6 => ?_)
  · refine ⟨_, rfl, _, rfl, _, rfl, _, rfl, _, rfl, _, rfl, _, _, rfl, rfl, _, rfl, ?_⟩
    refine ⟨b, W, r, 2, d', l, c5, m5, ns, ah, lb, ?_, by omega, by omega, B5, hr5, by omega, hW2 g5, hWo, hok, fun b6 q6 H6 c6' m6 g6 B6 hr6 hm6 hc6 hR6 hO6 hn6 => ?_⟩
    · show ([V.ref b, V.ref W, V.ref r, V.int 2, V.int (((d' + 1 : Nat) : Int) - 1), V.int (l : Int)] : List V) = _
      rw [sub_lem _ (by omega), Nat.add_sub_cancel]
      rfl
    refine ⟨(by show 4 ≤ sizeLine; decide), fun q hq => ?_⟩
    have e9 := Evl.Ex.new (o := .tup [.str "if", u4, .ref q5, .ref q6]) hq
    refine hQ (.iff t4 b5 b6) _ _ _ m6 ((g5.trans g6).trans (go e9)) (B6.ex e9) (e9 _ _ hr6) (by omega) (by omega) ?_ ?_ (by simp only [cntS]; omega)
    · simp only [RepS]
      obtain ⟨us5, h5, h6⟩ := hR5.kt g6.kt
      obtain ⟨us6, h7, h8⟩ := hR6
      exact ⟨q, u4, q5, q6, us5, us6, rfl, SqT.of upd_same, (hR4.kt g6.kt).mono e9, Evl.ex_t e9 h5, Evl.ex_t e9 h7, h6.mono e9, h8.mono e9⟩
    · simp only [OkS]
      exact ⟨hX4, OkL.mono hO5 (Nat.le_refl _) (by omega), hO6⟩
  refine ⟨_, rfl, rfl, _, rfl, ?_⟩
  refine ite2 (fun c7 => ?_) (fun c7 => ?_)
  · refine ⟨_, rfl, _, rfl, _, rfl, _, rfl, _, rfl, _, rfl, _, _, rfl, rfl, _, rfl, ?_⟩
    refine ⟨b, W, r, 2, d', l, c5, m5, ns, ah, lb, ?_, by omega, by omega, B5, hr5, by omega, hW2 g5, hWo, hok, fun b6 q6 H6 c6' m6 g6 B6 hr6 hm6 hc6 hR6 hO6 hn6 => ?_⟩
    · show ([V.ref b, V.ref W, V.ref r, V.int 2, V.int (((d' + 1 : Nat) : Int) - 1), V.int (l : Int)] : List V) = _
      rw [sub_lem _ (by omega), Nat.add_sub_cancel]
      rfl
    refine ⟨(by show 4 ≤ sizeLine; decide), fun q hq => ?_⟩
    have e9 := Evl.Ex.new (o := .tup [.str "if", u4, .ref q5, .ref q6]) hq
    refine hQ (.iff t4 b5 b6) _ _ _ m6 ((g5.trans g6).trans (go e9)) (B6.ex e9) (e9 _ _ hr6) (by omega) (by omega) ?_ ?_ (by simp only [cntS]; omega)
    · simp only [RepS]
      obtain ⟨us5, h5, h6⟩ := hR5.kt g6.kt
      obtain ⟨us6, h7, h8⟩ := hR6
      exact ⟨q, u4, q5, q6, us5, us6, rfl, SqT.of upd_same, (hR4.kt g6.kt).mono e9, Evl.ex_t e9 h5, Evl.ex_t e9 h7, h6.mono e9, h8.mono e9⟩
    · simp only [OkS]
      exact ⟨hX4, OkL.mono hO5 (Nat.le_refl _) (by omega), hO6⟩
  have hl0 : l ≠ 0 := fun z => c7 (by rw [z]; rfl)
  obtain ⟨l', rfl⟩ : ∃ l', l = l' + 1 := ⟨l - 1, by omega⟩
  rw [Nat.add_sub_cancel] at hO5
  refine ⟨_, rfl, rfl, _, rfl, ?_⟩
  refine ite2 (fun c8 => ?_) (fun c8 => ?_)
  · refine ⟨_, rfl, r, _, 0, _, rfl, rfl, SqL.of hr5, rfl, _, _, rfl, rfl, _, rfl, ?_⟩
    refine ite2 (fun c9 => ?_) (fun c9 => ?_)
    · have hm0 : 0 < m5 := by
        have := of_decide_eq_true c9
        omega
      obtain ⟨m1, rfl⟩ : ∃ m1, m5 = m1 + 1 := ⟨m5 - 1, by omega⟩
      refine ⟨_, rfl, r, _, 0, _, rfl, rfl, SqL.of hr5, rfl, _, _, rfl, rfl, _, rfl, r, _, _, _, rfl, rfl, hr5, rfl, ?_⟩
      have ev : (((m1 + 1 : Nat) : Int) - 1) = (m1 : Int) := by omega
      have hset : ([V.int ((m1 + 1 : Nat) : Int)].set (Int.toNat 0) (V.int (m1 : Int))) = [V.int (m1 : Int)] := rfl
      simp only [ev]
      rw [hset]
      have k3 : Kt H5 (upd H5 r (.lst [.int (m1 : Int)])) := Kt.upd hr5 rfl
      have g6 : Go [b, r] H (upd H5 r (.lst [.int (m1 : Int)])) := g5.mut hr5 rfl (by simp)
      have B6 : Box (upd H5 r (.lst [.int (m1 : Int)])) b c5 := by
        obtain ⟨gg, ff, ss, kk, h1, h2⟩ := B5
        exact ⟨gg, ff, ss, kk, by rw [upd_ne nrb.symm]; exact h1, h2⟩
      have hr6 : upd H5 r (.lst [.int (m1 : Int)]) r = some (.lst [.int (m1 : Int)]) := upd_same
      have hR6 := hR5.kt k3
      generalize upd H5 r (.lst [.int (m1 : Int)]) = H6 at g6 B6 hr6 hR6 ⊢
      refine ⟨_, rfl, _, rfl, (by show 2 ≤ sizeLine; decide), fun t1 ht1 => ⟨(by show 2 ≤ sizeLine; decide), fun t2 ht2 => ⟨(by show 3 ≤ sizeLine; decide), fun t3 ht3 => ⟨(by show 3 ≤ sizeLine; decide), fun t5 ht5 => ?_⟩⟩⟩⟩
      have f1 := Evl.Ex.new (o := .tup [.str "name", .str n1.1]) ht1
      have s1 : SqT K (upd H6 t1 (.tup [.str "name", .str n1.1])) t1 [.str "name", .str n1.1] := SqT.of upd_same
      generalize upd H6 t1 (.tup [.str "name", .str n1.1]) = K1 at *
      have f2 := Evl.Ex.new (o := .tup [.str "num", .int 1]) ht2
      have s2 : SqT K (upd K1 t2 (.tup [.str "num", .int 1])) t2 [.str "num", .int 1] := SqT.of upd_same
      generalize upd K1 t2 (.tup [.str "num", .int 1]) = K2 at *
      have f3 := Evl.Ex.new (o := .tup [.str "+", .ref t1, .ref t2]) ht3
      have s3 : SqT K (upd K2 t3 (.tup [.str "+", .ref t1, .ref t2])) t3 [.str "+", .ref t1, .ref t2] := SqT.of upd_same
      generalize upd K2 t3 (.tup [.str "+", .ref t1, .ref t2]) = K3 at *
      have f5 := Evl.Ex.new (o := .tup [.str "set", .str n1.1, .ref t3]) ht5
      have s5 : SqT K (upd K3 t5 (.tup [.str "set", .str n1.1, .ref t3])) t5 [.str "set", .str n1.1, .ref t3] := SqT.of upd_same
      generalize upd K3 t5 (.tup [.str "set", .str n1.1, .ref t3]) = K5 at *
      refine ⟨_, rfl, (by show 2 ≤ sizeLine; decide), fun t6 ht6 => ?_⟩
      have f6 := Evl.Ex.new (o := .tup [.str "name", .str n1.1]) ht6
      have s6 : SqT K (upd K5 t6 (.tup [.str "name", .str n1.1])) t6 [.str "name", .str n1.1] := SqT.of upd_same
      generalize upd K5 t6 (.tup [.str "name", .str n1.1]) = K6 at *
      refine ⟨_, rfl, _, _, rfl, rfl, (by show 2 ≤ sizeLine; decide), fun t7 ht7 => ⟨(by show 3 ≤ sizeLine; decide), fun t8 ht8 => ?_⟩⟩
      have f7 := Evl.Ex.new (o := .tup [.str "num", .int ((n1.2 : Int) - 1)]) ht7
      have s7 : SqT K (upd K6 t7 (.tup [.str "num", .int ((n1.2 : Int) - 1)])) t7 [.str "num", .int ((n1.2 : Int) - 1)] := SqT.of upd_same
      generalize upd K6 t7 (.tup [.str "num", .int ((n1.2 : Int) - 1)]) = K7 at *
      have f8 := Evl.Ex.new (o := .tup [.str "less", .ref t6, .ref t7]) ht8
      have s8 : SqT K (upd K7 t8 (.tup [.str "less", .ref t6, .ref t7])) t8 [.str "less", .ref t6, .ref t7] := SqT.of upd_same
      generalize upd K7 t8 (.tup [.str "less", .ref t6, .ref t7]) = K8 at *
      refine ⟨_, rfl, _, rfl, (by show 1 ≤ sizeLine; decide), fun t9 ht9 => ?_⟩
      have f9 := Evl.Ex.new (o := .tup [.ref t5]) ht9
      have s9 : SqT K (upd K8 t9 (.tup [.ref t5])) t9 [.ref t5] := SqT.of upd_same
      generalize upd K8 t9 (.tup [.ref t5]) = K9 at *
      have F78 := f7.trans (f8.trans f9)
      have F6 := f6.trans F78
      have F5 := f5.trans F6
      have F3 := f3.trans F5
      have F2 := f2.trans F3
      have F1 := f1.trans F2
      have hst : RepS K K9 (.set n1.1 (.n2 "+" (.name n1.1) (.num 1))) (.ref t5) := by
        simp only [RepS]
        exact ⟨t5, .ref t3, rfl, Evl.ex_t F6 s5, t3, _, _, rfl, Evl.ex_t F5 s3, ⟨t1, rfl, Evl.ex_t F2 s1⟩, ⟨t2, rfl, Evl.ex_t F3 s2⟩⟩
      have hcd : RepT K K9 (.n2 "less" (.name n1.1) (.num ((n1.2 : Int) - 1))) (.ref t8) := ⟨t8, _, _, rfl, Evl.ex_t f9 s8, ⟨t6, rfl, Evl.ex_t F78 s6⟩, ⟨t7, rfl, Evl.ex_t (f8.trans f9) s7⟩⟩
      obtain ⟨us, hus, hLus⟩ := hR6.mono F1
      have hul := hLus.length
      have hcl := cntL_len b5
      have hr9 := F1 _ _ hr6
      have G9 := g6.trans (go (S := [b, r]) F1)
      have B9 := B6.ex F1
      have FIN : ∀ (pb : Addr) (vs : List V) (H' : Hp), Ex K9 H' → SqT K H' pb vs → RepL K H' (b5 ++ [.set n1.1 (.n2 "+" (.name n1.1) (.num 1))]) vs → ∀ q, H' q = none → Q (.ref q) (upd H' q (.tup [.str "while", .ref t8, .ref pb])) := fun pb vs H' eH hpb hLv q hq => by
        have e9 := Evl.Ex.new (o := .tup [.str "while", .ref t8, .ref pb]) hq
        refine hQ (.whl (.n2 "less" (.name n1.1) (.num ((n1.2 : Int) - 1))) (b5 ++ [.set n1.1 (.n2 "+" (.name n1.1) (.num 1))])) _ _ c5 m1 (G9.trans (go (eH.trans e9))) (B9.ex (eH.trans e9)) ((eH.trans e9) _ _ hr9) (by omega) (by omega) ?_ ?_ ?_
        · simp only [RepS]
          exact ⟨q, _, pb, vs, rfl, SqT.of upd_same, hcd.mono (eH.trans e9), Evl.ex_t e9 hpb, hLv.mono e9⟩
        · simp only [OkS]
          refine ⟨.inl ⟨.inl rfl, w1, by show 0 ≤ (n1.2 : Int) - 1 ∧ (n1.2 : Int) - 1 ≤ 99; omega⟩, OkL.of fun z hz => ?_⟩
          rcases List.mem_append.mp hz with hz | hz
          · exact hO5.get hz
          · cases (List.mem_singleton.mp hz)
            have : n1.1 ∈ wds ns ∧ IsX (wds ns) 6 (.n2 "+" (.name n1.1) (.num 1)) := ⟨w1, by simp [signs], w1, by show (0 : Int) ≤ 1 ∧ (1 : Int) ≤ 99; decide⟩
            cases d' <;> cases l' <;> simpa only [OkS] using this
        · simp only [cntS, cntL_app, cntL]
          omega
      refine ⟨q5, t9, us, [.ref t5], rfl, rfl, hus, s9, Nat.le_trans (show us.length + 1 ≤ 1000 by omega) (by decide), fun hu0 => ?_, fun _ z => absurd z (by simp), fun _ _ p hp => ?_⟩
      · subst hu0
        have hb5 : b5 = [] := List.length_eq_zero_iff.mp (by simpa using hul.symm)
        refine ⟨(by show 3 ≤ sizeLine; decide), fun q hq => FIN t9 [.ref t5] K9 (Evl.Ex.refl _) s9 ?_ q hq⟩
        rw [hb5]
        exact RepL.one hst
      · have eP := Evl.Ex.new (o := .tup (us ++ [.ref t5])) hp
        exact ⟨(by show 3 ≤ sizeLine; decide), fun q hq => FIN p _ _ eP (SqT.of upd_same) ((hLus.app (RepL.one hst)).mono eP) q hq⟩
    · refine ⟨_, rfl, _, rfl, (by show 3 ≤ sizeLine; decide), fun q hq => ?_⟩
      have e9 := Evl.Ex.new (o := .tup [.str "while", u4, .ref q5]) hq
      refine hQ (.whl t4 b5) _ _ _ m5 (g5.trans (go e9)) (B5.ex e9) (e9 _ _ hr5) hm5 (by omega) ?_ ?_ (by simp only [cntS]; omega)
      · simp only [RepS]
        obtain ⟨us5, h5, h6⟩ := hR5
        exact ⟨q, u4, q5, us5, rfl, SqT.of upd_same, hR4.mono e9, Evl.ex_t e9 h5, h6.mono e9⟩
      · simp only [OkS]
        exact ⟨hX4, hO5⟩
  refine ⟨_, rfl, _, rfl, (by show 3 ≤ sizeLine; decide), fun q hq => ?_⟩
  have e9 := Evl.Ex.new (o := .tup [.str "while", u4, .ref q5]) hq
  refine hQ (.whl t4 b5) _ _ _ m5 (g5.trans (go e9)) (B5.ex e9) (e9 _ _ hr5) hm5 (by omega) ?_ ?_ (by simp only [cntS]; omega)
  · simp only [RepS]
    obtain ⟨us5, h5, h6⟩ := hR5
    exact ⟨q, u4, q5, us5, rfl, SqT.of upd_same, hR4.mono e9, Evl.ex_t e9 h5, h6.mono e9⟩
  · simp only [OkS]
    exact ⟨hX4, hO5⟩

abbrev N_l_body : List Str := ["box", "world", "room", "many", "depth", "loops", "found", "k"]
theorem sc_l_body : FnScope N_l_body ["box", "world", "room", "many", "depth", "loops"] (defScope (top 84)) := ⟨rfl, rfl, rfl, by decide +kernel, rfl, by decide +kernel, by decide +kernel⟩

theorem ok_l_body (T : Txt K mg) (C_l_take : Cal P w K mg base 1 "_law_take" spTakeG []) (hk : 7 ≤ k) (C_l_statement : Cal P w K mg base k "_law_statement" (spLS K n) []) : Cal P w K mg base (k + 1) "_law_body" (spLB K (n + 1)) [] := by
  obtain ⟨fd, F⟩ := T.d__law_body
  refine ⟨_, fd, ["box", "world", "room", "many", "depth", "loops"], [], ?_, T.g__law_body, F.kp, F.bindsN fun _ _ _ _ _ _ us hl => match us, hl with | [_, _, _, _, _, _], _ => rfl, .nil⟩
  refine F.ok sc_l_body (fun vs H Q E h => by obtain ⟨_, _, _, _, _, _, _, _, _, _, _, rfl, _⟩ := h; rfl) (fun cdv A outer s H vs Q E hr h => ?_)
  have hu := hu_of hr
  refine ⟨_, PSs.nox (pss_cons (ps_set (i := 6) sc_l_body.nd rfl (Or.inl rfl) (pe_lst pa_nil))
      (pss_cons (ps_for PassesOwn.never rfl (pi_range1 (by rfl) T.f_range (pa_cons (pe_c C_l_take hr (by omega) rfl (pa_cons (pv 0) (pa_cons (pe_op op_add (pv 3) pe_int) pa_nil))) pa_nil)) (pg_name (i := 7) sc_l_body.nd rfl (Or.inl rfl)) (pss_one (ps_if (pt_cmpR op_gt (pe_ix ix_list (pv 2) pe_int (fun _ _ => rfl)) pe_int (nomark _)) (pss_cons (ps_asg (pe_op op_sub (pe_ix ix_list (pv 2) pe_int (fun _ _ => rfl)) pe_int) (pg_sub (pv 2) pe_int set_list))
      (pss_one (ps_expr (pe_bm PySem.F.plainAttrs_list PySem.F.slot_list_append PySem.F.type_list_append mt_append (pv 6) (pa_cons (pe_c C_l_statement hr (by omega) rfl (pa_cons (pv 0) (pa_cons (pv 1) (pa_cons (pv 2) (pa_cons (pv 4) (pa_cons (pv 5) pa_nil)))))) pa_nil))))) pss_nil)))
      (pss_one (ps_ret (pe_callTy call_tupF (by rfl) T.f_tuple (by decide +kernel) (pa_cons (pv 6) pa_nil)))))), ?_⟩
  obtain ⟨b, p, r, many, d, l, c, m, ns, ah, lb, rfl, hmany, hdn, B, hr0, hc, hW, hWo, hok, hQ⟩ := h
  have nrb : r ≠ b := B.other hr0 (by simp)
  refine ⟨Nat.zero_le _, fun f hf => ?_⟩
  have e0 := Evl.Ex.new (o := .lst []) hf
  have nfb := B.ne hf
  have nfr : r ≠ f := ne_of_none hr0 hf
  refine ⟨_, rfl, _, rfl, _, _, rfl, rfl, b, c, _, rfl, B.ex e0, by omega, by omega, by omega, fun r1 H1 hr1 g1 B1 => ?_⟩
  have g1' := (go (S := [b]) e0).trans g1
  have hf1 := g1.at (a := f) (upd_same (H := H)) (by simp [nfb])
  have hr1' := g1'.at hr0 (by simp [nrb])
  refine ⟨(r1 : Int), rfl, by omega, by omega, ?_⟩
  refine for_it (walk_range (lo := 0) (n := (r1 : Int).toNat)) (fun i σ H' => ∃ (us : List V) (body : List Sm) (c' m' : Nat) (x7 : Option V), σ = [some (.ref b), some (.ref p), some (.ref r), some (.int (many : Int)), some (.int (d : Int)), some (.int (l : Int)), some (.ref f), x7] ∧ Go [b, r] H H' ∧ H' f = some (.lst us) ∧ RepL K H' body us ∧ Box H' b c' ∧ H' r = some (.lst [.int (m' : Int)]) ∧ m' ≤ m ∧ c' ≤ c + 1 + 3000 * (m - m') ∧ OkL (wds ns) (szf ns) ah d l body ∧ cntL body + m' ≤ m)
    ⟨[], [], c + 1, m, none, rfl, g1'.two, hf1, by simp [RepL], B1, hr1', Nat.le_refl _, by omega, by simp [OkL], by simp [cntL]⟩ (fun _ _ _ _ _ => trivial) ?_ ?_
  · rintro i x σ H2 H2' hi ⟨us, body, c', m', x7, rfl, g2, hf2, hR2, B2, hr2, hm2, hc2, hO2, hn2⟩ ⟨rfl, rfl⟩
    refine ⟨_, rfl, r, _, 0, _, rfl, rfl, SqL.of hr2, rfl, _, _, rfl, rfl, _, rfl, ?_⟩
    refine ite2 (fun c1 => ?_) (fun c1 => ?_)
    · have hm0 : 0 < m' := by
        have := of_decide_eq_true c1
        omega
      obtain ⟨m1, rfl⟩ : ∃ m1, m' = m1 + 1 := ⟨m' - 1, by omega⟩
      refine ⟨_, rfl, r, _, 0, _, rfl, rfl, SqL.of hr2, rfl, _, _, rfl, rfl, _, rfl, r, _, _, _, rfl, rfl, hr2, rfl, ?_⟩
      have ev : (((m1 + 1 : Nat) : Int) - 1) = (m1 : Int) := by omega
      have hset : ([V.int ((m1 + 1 : Nat) : Int)].set (Int.toNat 0) (V.int (m1 : Int))) = [V.int (m1 : Int)] := rfl
      simp only [ev]
      rw [hset]
      have k3 : Kt H2' (upd H2' r (.lst [.int (m1 : Int)])) := Kt.upd hr2 rfl
      have g3 : Go [b, r] H (upd H2' r (.lst [.int (m1 : Int)])) := g2.mut hr2 rfl (by simp)
      have B3 : Box (upd H2' r (.lst [.int (m1 : Int)])) b c' := by
        obtain ⟨gg, ff, ss, kk, h1, h2⟩ := B2
        exact ⟨gg, ff, ss, kk, by rw [upd_ne nrb.symm]; exact h1, h2⟩
      have hf3 : upd H2' r (.lst [.int (m1 : Int)]) f = some (.lst us) := by rw [upd_ne nfr.symm]; exact hf2
      have hr3 : upd H2' r (.lst [.int (m1 : Int)]) r = some (.lst [.int (m1 : Int)]) := upd_same
      have hR3 := hR2.kt k3
      generalize upd H2' r (.lst [.int (m1 : Int)]) = H3 at g3 B3 hf3 hr3 hR3 ⊢
      refine ⟨_, rfl, .inl ⟨rfl, _, SqL.of hf3⟩, _, rfl, _, rfl, _, rfl, _, rfl, _, rfl, ?_⟩
      refine ⟨b, p, r, d, l, c', m1, ns, ah, lb, rfl, hdn, B3, hr3, by omega, hW.go g3 B hr0, hWo, hok, fun s u H4 c4 m4 g4 B4 hr4 hm4 hc4 hR4 hO4 hn4 => ?_⟩
      have hf4 := g4.at hf3 (by simp [nfb, nfr.symm])
      have hlen := hR3.length
      have hcl := cntL_len body
      refine ⟨f, _, _, rfl, rfl, hf4, Nat.lt_of_le_of_lt (show us.length ≤ 1000 by omega) (by decide), ?_⟩
      have k5 : Kt H4 (upd H4 f (.lst (us ++ [u]))) := Kt.upd hf4 rfl
      refine ⟨us ++ [u], body ++ [s], c4, m4, _, rfl, (g3.trans g4).app hf, upd_same, ((hR3.kt g4.kt).app (RepL.one hR4)).kt k5, ?_, ?_, by omega, by omega, ?_, ?_⟩
      · obtain ⟨gg, ff, ss, kk, h1, h2⟩ := B4
        exact ⟨gg, ff, ss, kk, by rw [upd_ne nfb.symm]; exact h1, h2⟩
      · rw [upd_ne nfr]; exact hr4
      · refine OkL.of fun t ht => ?_
        rcases List.mem_append.mp ht with ht | ht
        · exact hO2.get ht
        · cases (List.mem_singleton.mp ht); exact hO4
      · rw [cntL_app]
        simp only [cntL]
        omega
    · exact ⟨us, body, c', m', _, rfl, g2, hf2, hR2, B2, hr2, hm2, hc2, hO2, hn2⟩
  · rintro σ H2 ⟨us, body, c', m', x7, rfl, g2, hf2, hR2, B2, hr2, hm2, hc2, hO2, hn2⟩
    refine ⟨_, rfl, f, us, rfl, .inl ⟨SqL.of hf2, fun q o hq ho => ?_⟩⟩
    have e9 := Evl.Ex.new (o := .frz o (.tup us)) hq
    exact hQ body q _ c' m' (g2.trans (go e9)) (B2.ex e9) (e9 _ _ hr2) hm2 hc2 ⟨us, .inl (.inr ⟨o, upd_same⟩), hR2.mono e9⟩ hO2 hn2

end
end K14
namespace K14
open PySem PySem.Spec PyProof.Rows L2 C8

/-! ### words drawn -/
def qw (k : Nat) : Str := S [113, 97 + k]
theorem qw_inj {j k : Nat} (h : qw j = qw k) : j = k := by
  have := S_inj h
  simp at this
  omega
theorem qw_ok {k : Nat} (h : k < 26) : WordOk (qw k) := by
  have key : ∀ j, j < 26 → isBar (qw j) = false := by decide +kernel
  refine ⟨fun c hc => ?_, ?_, ?_, key k h⟩
  · unfold qw at hc
    rw [S_toList] at hc
    simp only [List.mem_cons, List.not_mem_nil, or_false] at hc
    rcases hc with rfl | rfl <;> omega
  · unfold qw; rw [S_len]; simp
  · unfold qw; rw [S_len]; simp
theorem qw_free : ∀ (zs : List Str) (ks : List Nat), ks.Nodup → zs.length < ks.length → ∃ k ∈ ks, qw k ∉ zs
  | [], k :: ks, _, _ => ⟨k, List.mem_cons_self .., by simp⟩
  | [], [], _, h => by simp at h
  | z :: zs, ks, nd, h => by
    by_cases hz : ∃ k0 ∈ ks, qw k0 = z
    · obtain ⟨k0, hk0, e⟩ := hz
      obtain ⟨k, hk, hn⟩ := qw_free zs (ks.erase k0) (nd.erase _) (by rw [List.length_erase_of_mem hk0]; simp at h; omega)
      have hk' := (List.Nodup.mem_erase_iff nd).mp hk
      refine ⟨k, hk'.2, fun m => ?_⟩
      rcases List.mem_cons.mp m with m | m
      · exact hk'.1 (qw_inj (m.trans e.symm))
      · exact hn m
    · obtain ⟨k, hk, hn⟩ := qw_free zs ks nd (by simp at h; omega)
      refine ⟨k, hk, fun m => ?_⟩
      rcases List.mem_cons.mp m with m | m
      · exact hz ⟨k, hk, m⟩
      · exact hn m
def qfree (zs : List Str) (n : Nat) : List Nat := (List.range n).filter fun k => decide (qw k ∉ zs)
theorem qfree_succ (zs : List Str) (n : Nat) : qfree zs (n + 1) = qfree zs n ++ (if qw n ∉ zs then [n] else []) := by
  unfold qfree
  rw [List.range_succ, List.filter_append]
  by_cases h : qw n ∉ zs
  · simp [h]
  · simp [h]
theorem qfree_head {zs : List Str} (h : zs.length < 26) : ∃ k r, qfree zs 26 = k :: r ∧ k < 26 ∧ qw k ∉ zs := by
  obtain ⟨k, hk, hn⟩ := qw_free zs (List.range 26) List.nodup_range (by simpa using h)
  have hm : k ∈ qfree zs 26 := by
    unfold qfree
    exact List.mem_filter.mpr ⟨hk, decide_eq_true hn⟩
  cases e : qfree zs 26 with
  | nil => rw [e] at hm; cases hm
  | cons a r =>
    have ha : a ∈ qfree zs 26 := by rw [e]; exact List.mem_cons_self ..
    unfold qfree at ha
    obtain ⟨h1, h2⟩ := List.mem_filter.mp ha
    exact ⟨a, r, rfl, List.mem_range.mp h1, of_decide_eq_true h2⟩
theorem in_strsD (z : Str) (zs : List Str) : inV (.str z) (zs.map V.str) = decide (z ∈ zs) := by
  by_cases h : z ∈ zs
  · rw [decide_eq_true h]
    unfold inV
    rw [List.any_eq_true]
    exact ⟨.str z, List.mem_map_of_mem h, by simp [eqV]⟩
  · rw [decide_eq_false h]
    exact notin_strs h
theorem cut8 (l : List Nat) : cutS (S l) none (some 8) = S (l.take 8) := by
  have e : HT.sIx (S l).length (S l).length (some ((8 : Nat) : Int)) = min 8 l.length := by rw [HT.sIx_nat, S_len]
  have e2 : HT.sIx (S l).length (S l).length (some (8 : Int)) = min 8 l.length := e
  unfold cutS
  rw [e2, S_toList, HT.sIx_none]
  simp only [List.drop_zero, Nat.sub_zero, S]
  congr 1
  by_cases h : 8 ≤ l.length
  · rw [Nat.min_eq_left h]
  · rw [Nat.min_eq_right (by omega), List.take_length, List.take_of_length_le (by omega)]
theorem bar_low : ∀ z ∈ barred, Low z.cps.toList ∧ 2 ≤ z.cps.toList.length ∧ z.cps.toList.length ≤ 6 := by
  have key : ∀ z ∈ barred, (∀ c ∈ z.cps.toList, 97 ≤ c ∧ c < 123) ∧ 2 ≤ z.cps.toList.length ∧ z.cps.toList.length ≤ 6 := by decide +kernel
  exact key
/-- a word on its way -/
def Wy (z : Str) (l : List Nat) : Prop := z = S l ∧ Low l ∧ 1 ≤ l.length ∧ l.length ≤ 8
theorem wy_cut {a l : List Nat} (ha : Low a) (h1 : 1 ≤ a.length) (hl : Low l) : Wy (S ((a ++ l).take 8)) ((a ++ l).take 8) := by
  refine ⟨rfl, fun c hc => ?_, ?_, ?_⟩
  · rcases List.mem_append.mp (List.mem_of_mem_take hc) with h | h
    · exact ha c h
    · exact hl c h
  · rw [List.length_take, List.length_append]; omega
  · rw [List.length_take]; omega
theorem wy_word {z : Str} {l : List Nat} (h : Wy z l) (hb : z ∉ barred) : WordOk z := by
  obtain ⟨rfl, h1, h2, h3⟩ := h
  refine ⟨by rw [S_toList]; exact h1, by rw [S_len]; exact h2, by rw [S_len]; exact h3, ?_⟩
  unfold isBar
  rw [List.contains_eq_mem]
  exact decide_eq_false hb
theorem five_menu (r : Nat) (hr : r < 5) : ∃ m : Nat, atI [V.int 1, V.int 2, V.int 3, V.int 8, V.int 5] (r : Int) = some (.int (m : Int)) ∧ 1 ≤ m ∧ m ≤ 8 := by
  have : r = 0 ∨ r = 1 ∨ r = 2 ∨ r = 3 ∨ r = 4 := by omega
  rcases this with rfl | rfl | rfl | rfl | rfl
  · exact ⟨1, atI_nat rfl, by omega, by omega⟩
  · exact ⟨2, atI_nat rfl, by omega, by omega⟩
  · exact ⟨3, atI_nat rfl, by omega, by omega⟩
  · exact ⟨8, atI_nat rfl, by omega, by omega⟩
  · exact ⟨5, atI_nat rfl, by omega, by omega⟩
theorem notInK {X : Cx} {K : PySem.W.Frag} (h : X.K = K) : OpR X (compareOp .NotIn) (rIn K true) := h ▸ op_notIn_seq
theorem alpha_ch {j c : Nat} (h : alpha.cps[j]? = some c) : j < 26 ∧ c = 97 + j := by
  rw [← Array.getElem?_toList, alpha_list, List.getElem?_map] at h
  by_cases hj : j < 26
  · rw [List.getElem?_range hj] at h
    cases h
    exact ⟨hj, Nat.add_comm _ _⟩
  · rw [List.getElem?_eq_none (by simp; omega)] at h
    cases h
theorem q_add (j : Nat) : ("q" : Str) ++ (⟨#[97 + j]⟩ : Str) = qw j := S_app [113] [97 + j]
section
variable {P : Program} {w : World} {K : PySem.W.Frag} {mg : Str → Option Value} {base : Heap} {k n : Nat}
abbrev N_l_words : List Str := ["box", "many", "signs", "language", "found", "k", "way", "word", "turn", "sign"]
theorem sc_l_words : FnScope N_l_words ["box", "many"] (defScope (top 80)) := ⟨rfl, rfl, rfl, by decide +kernel, rfl, by decide +kernel, by decide +kernel⟩
def spLWords : Sp := fun vs H Q _ => ∃ (b : Addr) (c many : Nat), vs = [.ref b, .int (many : Int)] ∧ many ≤ 12 ∧ Box H b c ∧ c + 300 ≤ 900000 ∧
  ∀ (p : Addr) (zs : List Str) (H' : Hp), Go [b] H H' → Box H' b (c + 300) → H p = none → p ≠ b → H' p = some (.lst (zs.map V.str)) → zs.length = many → (∀ z ∈ zs, WordOk z) → zs.Nodup → Q (.ref p) H'
theorem ok_l_words (T : Txt K mg) (C_l_take : Cal P w K mg base 1 "_law_take" spTakeG []) : Cal P w K mg base 2 "_law_words" (spLWords) [] := by
  obtain ⟨fd, F⟩ := T.d__law_words
  refine ⟨_, fd, ["box", "many"], [], ?_, T.g__law_words, F.kp, F.bindsN fun _ _ _ _ _ _ us hl => match us, hl with | [_, _], _ => rfl, .nil⟩
  refine F.ok sc_l_words (fun vs H Q E h => by obtain ⟨_, _, _, rfl, _⟩ := h; rfl) (fun cdv A outer s H vs Q E hr h => ?_)
  have hu := hu_of hr
  refine ⟨_, PSs.nox (pss_cons (ps_set (i := 2) sc_l_words.nd rfl (Or.inl rfl) pe_str)
      (pss_cons (ps_set (i := 3) sc_l_words.nd rfl (Or.inl rfl) (pe_lst (pa_cons pe_str (pa_cons pe_str (pa_cons pe_str (pa_cons pe_str (pa_cons pe_str (pa_cons pe_str (pa_cons pe_str (pa_cons pe_str (pa_cons pe_str (pa_cons pe_str (pa_cons pe_str (pa_cons pe_str (pa_cons pe_str (pa_cons pe_str pa_nil))))))))))))))))
      (pss_cons (ps_set (i := 4) sc_l_words.nd rfl (Or.inr rfl) (pe_lst pa_nil))
      (pss_cons (ps_for PassesOwn.never rfl (pi_range1 (by rfl) T.f_range (pa_cons (pv 1) pa_nil)) (pg_name (i := 5) sc_l_words.nd rfl (Or.inl rfl)) (pss_cons (ps_par (i := 6) (j := 7) (by rfl) sc_l_words.nd rfl rfl (by decide) rfl rfl (pa_cons (pe_c C_l_take hr (by omega) rfl (pa_cons (pv 0) (pa_cons pe_int pa_nil))) (pa_cons pe_str pa_nil)) (by rfl))
      (pss_cut (ps_for PassesOwn.never rfl (pi_range1 (by rfl) T.f_range (pa_cons (pe_ix ix_list (pe_lst (pa_cons pe_int (pa_cons pe_int (pa_cons pe_int (pa_cons pe_int (pa_cons pe_int pa_nil)))))) (pe_c C_l_take hr (by omega) rfl (pa_cons (pv 0) (pa_cons pe_int pa_nil))) (fun _ _ => rfl)) pa_nil)) (pg_name (i := 8) sc_l_words.nd rfl (Or.inl rfl)) (pss_one (ps_set (i := 7) sc_l_words.nd rfl (Or.inl rfl) (pe_op op_add_str (pv 7) (pe_ix ix_str (pv 2) (pe_c C_l_take hr (by omega) rfl (pa_cons (pv 0) (pa_cons pe_int pa_nil))) (fun _ _ => rfl))))))
      (pss_cut (ps_if (pt_cmpR op_eq (pv 6) pe_int (nomark _)) (pss_one (ps_set (i := 7) sc_l_words.nd rfl (Or.inl rfl) (pe_slice sl_str (pe_op op_add_str (pe_ix ix_list (pv 3) (pe_c C_l_take hr (by omega) rfl (pa_cons (pv 0) (pa_cons pe_int pa_nil))) (fun _ _ => rfl)) (pv 7)) po_none (po_some pe_int)))) pss_nil)
      (pss_cut (ps_if (PW.pt (pw_and (pt_cmpR op_eq (pv 6) pe_int (nomark _)) (pw_and1 (pt_cmpR (op_neD hr.units) (pv 4) (pe_lst pa_nil) (nomark _))))) (pss_one (ps_set (i := 7) sc_l_words.nd rfl (Or.inl rfl) (pe_slice sl_str (pe_op op_add_str (pe_ix ix_list (pv 4) (pe_c C_l_take hr (by omega) rfl (pa_cons (pv 0) (pa_cons (pe_callB call_len_seq (by rfl) T.f_len (by decide +kernel) (pa_cons (pv 4) pa_nil)) pa_nil))) (fun _ _ => rfl)) (pv 7)) po_none (po_some pe_int)))) pss_nil)
      (pss_cut (ps_if (PW.pt (pw_or (pt_cmpR op_in_seq (pv 7) (pv 4) rfl) (pw_or1 (pt_cmpR op_in_seq (pv 7) (pv 3) rfl)))) (pss_one (ps_set (i := 7) sc_l_words.nd rfl (Or.inl rfl) (pe_ix ix_list (pe_lc (own := [("sign", 9)]) rfl sc_l_words.nd (pi_str (pv 2)) (blkOk_by (own := [("sign", 9)]) (N := N_l_words) (sc := defScope (top 80)) (by decide +kernel)) (fun _ _ _ _ _ => (pg_name (i := 9) sc_l_words.nd rfl (Or.inl rfl))) (fun _ _ _ _ _ => (pts_one (pt_cmpR (notInK (K := K) rfl) (pe_op op_add_str pe_str (pv 9)) (pv 4) rfl))) (fun _ _ _ _ _ => (pe_op op_add_str pe_str (pv 9)))) pe_int (fun _ _ => rfl)))) pss_nil)
      (pss_one (ps_expr (pe_bm PySem.F.plainAttrs_list PySem.F.slot_list_append PySem.F.type_list_append mt_append (pv 4) (pa_cons (pv 7) pa_nil))))))))))
      (pss_one (ps_ret (pv 4))))))), ?_⟩
  obtain ⟨b, c, many, rfl, hm5, B, hc, hQ⟩ := h
  refine ⟨(by show 14 ≤ sizeLine; decide), fun L hL0 => ⟨Nat.zero_le _, fun F hF0 => ?_⟩⟩
  have eL := Evl.Ex.new (o := .lst (barred.map V.str)) hL0
  have nLb := B.ne hL0
  have BL := B.ex eL
  have nFb := BL.ne hF0
  have e0 : Ex H (upd (upd H L (.lst (barred.map V.str))) F (.lst [])) := eL.trans (Evl.Ex.new hF0)
  have hF : H F = none := Evl.fresh_back eL hF0
  have hL1 : upd (upd H L (.lst (barred.map V.str))) F (.lst []) L = some (.lst (barred.map V.str)) := Evl.Ex.new hF0 _ _ upd_same
  have hF1 : upd (upd H L (.lst (barred.map V.str))) F (.lst []) F = some (.lst []) := upd_same
  have nLF : L ≠ F := ne_of_none upd_same hF0
  have B0 := B.ex e0
  refine ⟨_, rfl, (many : Int), rfl, by omega, by omega, ?_⟩
  generalize hH1 : upd (upd H L (.lst (barred.map V.str))) F (.lst []) = H1 at e0 hL1 hF1 B0
  have hg : upd (upd H L (.lst [.str "and", .str "by", .str "call", .str "choose", .str "draw", .str "else", .str "if", .str "name", .str "not", .str "or", .str "set", .str "unit", .str "while", .str "yes"])) F (.lst []) = H1 := hH1
  rw [hg]
  clear hg hH1
  refine for_it (walk_range (lo := 0) (n := (many : Int).toNat)) (fun i σ H' => ∃ (zs : List Str) (x5 x6 x7 x8 : Option V), σ = [some (.ref b), some (.int (many : Int)), some (.str alpha), some (.ref L), some (.ref F), x5, x6, x7, x8, none] ∧ Go [b] H H' ∧ H' L = some (.lst (barred.map V.str)) ∧ H' F = some (.lst (zs.map V.str)) ∧ zs.length = i ∧ (∀ z ∈ zs, WordOk z) ∧ zs.Nodup ∧ Box H' b (c + 20 * i))
    ⟨[], none, none, none, none, rfl, go e0, hL1, hF1, rfl, (fun z hz => by cases hz), by simp, B0⟩ (fun _ _ _ _ _ => trivial) ?_ ?_
  · rintro i x σ H2 H2' hi ⟨zs, x5, x6, x7, x8, rfl, g2, hL2, hF2, hzl, hzw, hzn, B2⟩ ⟨rfl, rfl⟩
    have hi' : i < 12 := by omega
    refine ⟨_, rfl, b, _, 5, rfl, B2, by omega, by decide, by decide, fun way H3 hway g3 B3 => ?_⟩
    refine ⟨_, _, rfl, ?_⟩
    refine ⟨fun σ H' => ∃ (z : Str) (l : List Nat) (x8 : Option V), σ = [some (.ref b), some (.int (many : Int)), some (.str alpha), some (.ref L), some (.ref F), some (.int (0 + (i : Int))), some (.int (way : Int)), some (.str z), x8, none] ∧ Wy z l ∧ Go [b] H2' H' ∧ Box H' b (c + 20 * i + 10), ?_, ?_⟩
    · refine ⟨(by show 5 ≤ sizeLine; decide), fun l0 hl0 => ?_⟩
      have e4 := Evl.Ex.new (o := .lst [V.int 1, V.int 2, V.int 3, V.int 8, V.int 5]) hl0
      have nl := B3.ne hl0
      refine ⟨_, rfl, b, _, 5, rfl, B3.ex e4, by omega, by decide, by decide, fun r H5 hr0 g5 B5 => ?_⟩
      obtain ⟨m, hm, hm1, hm8⟩ := five_menu r (by omega)
      have hl5 := g5.at (a := l0) (upd_same (H := H3)) (by simp [nl])
      have g35 := (g3.trans (go (S := [b]) e4)).trans g5
      refine ⟨l0, _, _, _, rfl, rfl, SqL.of hl5, hm, (m : Int), rfl, by omega, by omega, ?_⟩
      refine for_it (walk_range (lo := 0) (n := (m : Int).toNat)) (fun j σ H' => ∃ (l : List Nat) (x8 : Option V), σ = [some (.ref b), some (.int (many : Int)), some (.str alpha), some (.ref L), some (.ref F), some (.int (0 + (i : Int))), some (.int (way : Int)), some (.str (S l)), x8, none] ∧ Low l ∧ l.length = j ∧ Go [b] H2' H' ∧ Box H' b (c + 20 * i + 2 + j))
        ⟨[], x8, rfl, (fun q hq => by cases hq), rfl, g35, B5⟩ (fun _ _ _ _ _ => trivial) ?_ ?_
      · rintro j y σ H6 H6' hj ⟨l, x8, rfl, hlow, hll, g6, B6⟩ ⟨rfl, rfl⟩
        have hj' : j < 8 := by omega
        refine ⟨_, rfl, _, rfl, _, rfl, b, _, 26, rfl, B6, by omega, by decide, by decide, fun r7 H7 hr7 g7 B7 => ?_⟩
        refine ⟨_, _, _, rfl, rfl, (by decide), alpha_at (by omega) (by omega), ?_⟩
        refine ⟨_, _, rfl, rfl, Nat.le_trans (show (S l).length + 1 ≤ 100 by rw [S_len]; omega) (by decide), ?_⟩
        have ea : S l ++ (⟨#[(r7 : Int).toNat + 97]⟩ : Str) = S (l ++ [(r7 : Int).toNat + 97]) := S_app l [(r7 : Int).toNat + 97]
        rw [ea]
        refine ⟨l ++ [(r7 : Int).toNat + 97], _, rfl, fun q hq => ?_, by rw [List.length_append, hll]; rfl, g6.trans g7, B7⟩
        rcases List.mem_append.mp hq with hq | hq
        · exact hlow q hq
        · have : q = (r7 : Int).toNat + 97 := by simpa using hq
          omega
      · rintro σ H6 ⟨l, x8, rfl, hlow, hll, g6, B6⟩
        have hmt : (m : Int).toNat = m := by omega
        rw [hmt] at hll B6
        exact ⟨S l, l, x8, rfl, ⟨rfl, hlow, by omega, by omega⟩, g6, B6.mono (by omega)⟩
    rintro σ H4 ⟨z, l, x8, rfl, hw4, g4, B4⟩
    have hL4 := g4.at hL2 (by simp [nLb])
    have hF4 := g4.at hF2 (by simp [nFb])
    refine ⟨fun σ H' => ∃ (z : Str) (l : List Nat) (x8 : Option V), σ = [some (.ref b), some (.int (many : Int)), some (.str alpha), some (.ref L), some (.ref F), some (.int (0 + (i : Int))), some (.int (way : Int)), some (.str z), x8, none] ∧ Wy z l ∧ Go [b] H2' H' ∧ Box H' b (c + 20 * i + 11), ?_, ?_⟩
    · refine ⟨_, rfl, rfl, _, rfl, ?_⟩
      refine ite2 (fun c1 => ?_) (fun c1 => ?_)
      · refine ⟨_, rfl, _, rfl, b, _, 14, rfl, B4, by omega, by decide, by decide, fun r H5 hr0 g5 B5 => ?_⟩
        have hr14 : r < barred.length := by show r < 14; omega
        have hL5 := g5.at hL4 (by simp [nLb])
        obtain ⟨hb1, hb2, hb3⟩ := bar_low _ (List.getElem_mem hr14)
        refine ⟨L, _, _, .str barred[r], rfl, rfl, SqL.of hL5, atI_nat (by rw [List.getElem?_map, List.getElem?_eq_getElem hr14]; rfl), ?_⟩
        obtain ⟨rfl, h2, h3, h4⟩ := hw4
        have eb : barred[r] = S barred[r].cps.toList := (S_list _).symm
        have es : barred[r] ++ S l = S (barred[r].cps.toList ++ l) := by
          conv => lhs; rw [eb]
          exact S_app _ _
        refine ⟨_, rfl, _, _, rfl, rfl, ?_, 8, rfl, _, rfl, ?_⟩
        · have : barred[r].length = barred[r].cps.toList.length := by simp [Str.length]
          exact Nat.le_trans (show barred[r].length + (S l).length ≤ 100 by rw [S_len]; omega) (by decide)
        rw [es]
        refine ⟨Nat.le_trans (show (S (barred[r].cps.toList ++ l)).length ≤ 100 by rw [S_len, List.length_append]; omega) (by decide), ?_⟩
        rw [cut8]
        exact ⟨_, _, _, rfl, wy_cut hb1 (by omega) h2, g4.trans g5, B5⟩
      · exact ⟨z, l, x8, rfl, hw4, g4, B4.mono (by omega)⟩
    clear hw4 hL4 hF4 g4 B4 x8
    rintro σ H4 ⟨z, l, x8, rfl, hw4, g4, B4⟩
    have hF4 := g4.at hF2 (by simp [nFb])
    refine ⟨fun σ H' => ∃ (z : Str) (l : List Nat) (x8 : Option V), σ = [some (.ref b), some (.int (many : Int)), some (.str alpha), some (.ref L), some (.ref F), some (.int (0 + (i : Int))), some (.int (way : Int)), some (.str z), x8, none] ∧ Wy z l ∧ Go [b] H2' H' ∧ Box H' b (c + 20 * i + 12), ?_, ?_⟩
    · refine ⟨_, rfl, rfl, _, rfl, ?_⟩
      refine ite2 (fun c1 => ?_) (fun c1 => ?_)
      · refine ⟨_, rfl, Nat.zero_le _, fun q hq => ?_⟩
        have eq := Evl.Ex.new (o := .lst []) hq
        have B5 := B4.ex eq
        have hF5 := eq _ _ hF4
        have g5 := g4.trans (go (S := [b]) eq)
        have dv : ∀ v ∈ zs.map V.str, DV K (upd H4 q (.lst [])) v := fun v hv => by
          obtain ⟨y, hy, rfl⟩ := List.mem_map.mp hv
          exact DV.word (hzw y hy)
        obtain ⟨ds, d1, d2, d3, d4⟩ := DV.all dv
        refine ⟨.list ds, .list [], .lst (SqL.of hF5) d1, .lst (SqL.of upd_same) .nil, shaped_list d2 (by omega), shaped_list (by simp [PyData.canLayAll0]) (by simp [PyData.depthAll]), _, rfl, ?_⟩
        rw [eqv_empty]
        generalize upd H4 q (.lst []) = H5 at *
        cases hz0 : ds.isEmpty with
        | true => exact ⟨z, l, x8, rfl, hw4, g5, B5.mono (by omega)⟩
        | false =>
          have hpos : 0 < zs.length := by
            rw [List.length_map] at d4
            cases ds with
            | nil => cases hz0
            | cons a r => simp at d4; omega
          refine iteT ?_
          refine ⟨_, rfl, _, rfl, _, rfl, F, _, rfl, .inl (SqL.of hF5), b, _, _, rfl, B5, by omega, by rw [List.length_map]; omega, by rw [List.length_map]; omega, fun r H6 hr0 g6 B6 => ?_⟩
          rw [List.length_map] at hr0
          have hrz : r < zs.length := by omega
          have hF6 := g6.at hF5 (by simp [nFb])
          have hwz := hzw _ (List.getElem_mem hrz)
          refine ⟨F, _, _, .str zs[r], rfl, rfl, SqL.of hF6, atI_nat (by rw [List.getElem?_map, List.getElem?_eq_getElem hrz]; rfl), ?_⟩
          obtain ⟨rfl, h2, h3, h4⟩ := hw4
          have eb : zs[r] = S zs[r].cps.toList := (S_list _).symm
          have es : zs[r] ++ S l = S (zs[r].cps.toList ++ l) := by
            conv => lhs; rw [eb]
            exact S_app _ _
          have zl : zs[r].length = zs[r].cps.toList.length := by simp [Str.length]
          have zl1 := hwz.lo
          have zl2 := hwz.hi
          refine ⟨_, rfl, _, _, rfl, rfl, ?_, 8, rfl, _, rfl, ?_⟩
          · exact Nat.le_trans (show zs[r].length + (S l).length ≤ 100 by rw [S_len]; omega) (by decide)
          rw [es]
          refine ⟨Nat.le_trans (show (S (zs[r].cps.toList ++ l)).length ≤ 100 by rw [S_len, List.length_append]; omega) (by decide), ?_⟩
          rw [cut8]
          exact ⟨_, _, _, rfl, wy_cut hwz.low (by omega) h2, g5.trans g6, B6⟩
      · exact ⟨z, l, x8, rfl, hw4, g4, B4.mono (by omega)⟩
    clear hw4 hF4 g4 B4 x8
    rintro σ H4 ⟨z, l, x8, rfl, hw4, g4, B4⟩
    have hL4 := g4.at hL2 (by simp [nLb])
    have hF4 := g4.at hF2 (by simp [nFb])
    refine ⟨fun σ H' => ∃ (z : Str) (x8 : Option V), σ = [some (.ref b), some (.int (many : Int)), some (.str alpha), some (.ref L), some (.ref F), some (.int (0 + (i : Int))), some (.int (way : Int)), some (.str z), x8, none] ∧ WordOk z ∧ z ∉ zs ∧ Go [b] H2' H' ∧ Box H' b (c + 20 * i + 12), ?_, ?_⟩
    · refine ⟨_, rfl, _, rfl, F, zs.map V.str, rfl, .inl (SqL.of hF4), rfl, flat_strs _, _, rfl, ?_⟩
      refine ite2 (fun c1 => ?_) (fun c1 => ?_)
      · refine ⟨_, rfl, _, rfl, fun D hD => ?_⟩
        refine lc_it walk_str (fun j H' => Ex H4 H' ∧ H' D = some (.lst ((qfree zs j).map fun k => V.str (qw k)))) ⟨Evl.Ex.new hD, upd_same⟩ (fun _ _ _ _ => trivial) ?_ ?_
        · rintro j y H5' H5 hj ⟨e5, hd5⟩ ⟨rfl, ch, hch, rfl⟩
          obtain ⟨hj26, rfl⟩ := alpha_ch hch
          have ql : (qfree zs j).length ≤ 26 := by
            unfold qfree
            exact Nat.le_trans (List.length_filter_le _ _) (by simp; omega)
          refine ⟨rfl, ?_⟩
          refine ⟨_, rfl, _, _, rfl, rfl, (by show 2 ≤ sizeLine; decide), _, rfl, F, zs.map V.str, rfl, .inl (SqL.of (e5 _ _ hF4)), ?_, flat_strs _, _, rfl, ?_⟩
          · rfl
          rw [q_add, in_strsD]
          by_cases hq : qw j ∈ zs
          · rw [decide_eq_true hq]
            refine iteF ⟨e5, ?_⟩
            rw [qfree_succ, if_neg (fun z => z hq), List.append_nil]
            exact hd5
          · rw [decide_eq_false hq]
            refine iteT ⟨_, rfl, _, _, rfl, rfl, (by show 2 ≤ sizeLine; decide), ?_⟩
            rw [q_add]
            refine ⟨_, hd5, Nat.lt_of_le_of_lt (by rw [List.length_map]; exact ql) (show 26 < sizeLine by decide), Evl.Ex.mut e5 hD, ?_⟩
            rw [upd_same, qfree_succ, if_pos hq, List.map_append]
            rfl
        · rintro H5 ⟨e5, hd5⟩
          have e26 : alpha.cps.size = 26 := by decide +kernel
          rw [e26] at hd5
          obtain ⟨k0, rest, he, hk26, hkn⟩ := qfree_head (zs := zs) (by omega)
          rw [he] at hd5
          refine ⟨D, _, 0, .str (qw k0), rfl, rfl, SqL.of hd5, atI_nat (j := 0) rfl, ?_⟩
          exact ⟨qw k0, x8, rfl, qw_ok hk26, hkn, g4.trans (go e5), B4.ex e5⟩
      have hnf : z ∉ zs := by
        intro hz
        refine c1 ?_
        show inV (.str z) (zs.map V.str) = true
        rw [in_strsD]
        exact decide_eq_true hz
      refine ⟨_, rfl, _, rfl, L, barred.map V.str, rfl, .inl (SqL.of hL4), rfl, flat_strs _, _, rfl, ?_⟩
      refine ite2 (fun c2 => ?_) (fun c2 => ?_)
      · refine ⟨_, rfl, _, rfl, fun D hD => ?_⟩
        refine lc_it walk_str (fun j H' => Ex H4 H' ∧ H' D = some (.lst ((qfree zs j).map fun k => V.str (qw k)))) ⟨Evl.Ex.new hD, upd_same⟩ (fun _ _ _ _ => trivial) ?_ ?_
        · rintro j y H5' H5 hj ⟨e5, hd5⟩ ⟨rfl, ch, hch, rfl⟩
          obtain ⟨hj26, rfl⟩ := alpha_ch hch
          have ql : (qfree zs j).length ≤ 26 := by
            unfold qfree
            exact Nat.le_trans (List.length_filter_le _ _) (by simp; omega)
          refine ⟨rfl, ?_⟩
          refine ⟨_, rfl, _, _, rfl, rfl, (by show 2 ≤ sizeLine; decide), _, rfl, F, zs.map V.str, rfl, .inl (SqL.of (e5 _ _ hF4)), ?_, flat_strs _, _, rfl, ?_⟩
          · rfl
          rw [q_add, in_strsD]
          by_cases hq : qw j ∈ zs
          · rw [decide_eq_true hq]
            refine iteF ⟨e5, ?_⟩
            rw [qfree_succ, if_neg (fun z => z hq), List.append_nil]
            exact hd5
          · rw [decide_eq_false hq]
            refine iteT ⟨_, rfl, _, _, rfl, rfl, (by show 2 ≤ sizeLine; decide), ?_⟩
            rw [q_add]
            refine ⟨_, hd5, Nat.lt_of_le_of_lt (by rw [List.length_map]; exact ql) (show 26 < sizeLine by decide), Evl.Ex.mut e5 hD, ?_⟩
            rw [upd_same, qfree_succ, if_pos hq, List.map_append]
            rfl
        · rintro H5 ⟨e5, hd5⟩
          have e26 : alpha.cps.size = 26 := by decide +kernel
          rw [e26] at hd5
          obtain ⟨k0, rest, he, hk26, hkn⟩ := qfree_head (zs := zs) (by omega)
          rw [he] at hd5
          refine ⟨D, _, 0, .str (qw k0), rfl, rfl, SqL.of hd5, atI_nat (j := 0) rfl, ?_⟩
          exact ⟨qw k0, x8, rfl, qw_ok hk26, hkn, g4.trans (go e5), B4.ex e5⟩
      have hnb : z ∉ barred := by
        intro hz
        refine c2 ?_
        show inV (.str z) (barred.map V.str) = true
        rw [in_strsD]
        exact decide_eq_true hz
      exact ⟨z, x8, rfl, wy_word hw4 hnb, hnf, g4, B4⟩
    rintro σ H5 ⟨z, x8, rfl, hwz, hnz, g5, B5⟩
    have hL5 := g5.at hL2 (by simp [nLb])
    have hF5 := g5.at hF2 (by simp [nFb])
    refine ⟨_, rfl, .inl ⟨rfl, _, SqL.of hF5⟩, _, rfl, F, _, _, rfl, rfl, hF5, Nat.lt_of_le_of_lt (show (zs.map V.str).length ≤ 100 by rw [List.length_map]; omega) (by decide), ?_⟩
    have g6 : Go [b] H (upd H5 F (.lst (zs.map V.str ++ [V.str z]))) := (g2.trans g5).app hF
    refine ⟨zs ++ [z], _, _, _, _, rfl, g6, by rw [upd_ne nLF]; exact hL5, by rw [List.map_append]; exact upd_same, by rw [List.length_append, hzl]; rfl, ?_, ?_, ?_⟩
    · intro y hy
      rcases List.mem_append.mp hy with hy | hy
      · exact hzw y hy
      · cases (List.mem_singleton.mp hy); exact hwz
    · refine List.nodup_append.mpr ⟨hzn, by simp, fun a ha b' hb' => ?_⟩
      have : b' = z := by simpa using hb'
      rw [this]
      exact fun e => hnz (e ▸ ha)
    · obtain ⟨gg, ff, ss, kk, h1, h2⟩ := B5.mono (show c + 20 * i + 12 ≤ c + 20 * (i + 1) by omega)
      exact ⟨gg, ff, ss, kk, by rw [upd_ne nFb.symm]; exact h1, h2⟩
  · rintro σ H2 ⟨zs, x5, x6, x7, x8, rfl, g2, hL2, hF2, hzl, hzw, hzn, B2⟩
    refine ⟨_, rfl, ?_⟩
    have hmt : (many : Int).toNat = many := by omega
    rw [hmt] at hzl B2
    exact hQ F zs H2 g2 (B2.mono (by omega)) hF nFb hF2 hzl hzw hzn

end
end K14
namespace K14
open PySem PySem.Spec PyProof.Rows L2 C8

section
variable {P : Program} {w : World} {K : PySem.W.Frag} {mg : Str → Option Value} {base : Heap} {k n : Nat}
abbrev N_l_round : List Str := ["box", "names", "labels", "at", "weights", "name", "size", "toss", "pick"]
theorem sc_l_round : FnScope N_l_round ["box", "names", "labels"] (defScope (top 85)) := ⟨rfl, rfl, rfl, by decide +kernel, rfl, by decide +kernel, by decide +kernel⟩
/-- a loop that asks twice in each round -/
def spRound (K : PySem.W.Frag) : Sp := fun vs H Q _ => ∃ (b p L : Addr) (c : Nat) (ns : NS) (lb : List Str), vs = [.ref b, .ref p, .ref L] ∧ Box H b c ∧ c + 10 ≤ 900000 ∧ NamesAt K H p ns ∧ NsOk ns ∧ H L = some (.lst (lb.map V.str)) ∧ lb.length = 3 ∧ lb.Nodup ∧ (∀ z ∈ lb, WordOk z) ∧
  ∀ s u H', Go [b] H H' → Box H' b (c + 3) → RepS K H' s u → (∀ ah, OkS (wds ns) (szf ns) ah 3 3 s) → cntS s = 5 → Q u H'
theorem ok_l_round (T : Txt K mg) (C_l_take : Cal P w K mg base 1 "_law_take" spTakeG []) : Cal P w K mg base 2 "_law_round" (spRound K) [] := by
  obtain ⟨fd, F⟩ := T.d__law_round
  refine ⟨_, fd, ["box", "names", "labels"], [], ?_, T.g__law_round, F.kp, F.bindsN fun _ _ _ _ _ _ us hl => match us, hl with | [_, _, _], _ => rfl, .nil⟩
  refine F.ok sc_l_round (fun vs H Q E h => by obtain ⟨_, _, _, _, _, _, rfl, _⟩ := h; rfl) (fun cdv A outer s H vs Q E hr h => ?_)
  have hu := hu_of hr
  refine ⟨_, PSs.nox (pss_cons (ps_par (i := 3) (j := 4) (by rfl) sc_l_round.nd rfl rfl (by decide) rfl rfl (pa_cons (pe_c C_l_take hr (by omega) rfl (pa_cons (pv 0) (pa_cons (pe_callB call_len_seq (by rfl) T.f_len (by decide +kernel) (pa_cons (pv 1) pa_nil)) pa_nil))) (pa_cons (pe_lst (pa_cons (pe_op op_add pe_int (pe_c C_l_take hr (by omega) rfl (pa_cons (pv 0) (pa_cons pe_int pa_nil)))) (pa_cons (pe_op op_add pe_int (pe_c C_l_take hr (by omega) rfl (pa_cons (pv 0) (pa_cons pe_int pa_nil)))) pa_nil))) pa_nil)) (by rfl))
      (pss_cons (ps_asg (pe_ix ix_tup (pv 1) (pv 3) (fun _ _ => rfl)) (pg_tup (by rfl) (pgs_cons (pg_name (i := 5) sc_l_round.nd rfl (Or.inl rfl)) (pgs_cons (pg_name (i := 6) sc_l_round.nd rfl (Or.inl rfl)) pgs_nil))))
      (pss_cons (ps_set (i := 7) sc_l_round.nd rfl (Or.inl rfl) (pe_tup (pa_cons pe_str (pa_cons (pv 5) (pa_cons (pe_tupF (pa_cons (pe_tup (pa_cons pe_int (pa_cons (pe_ix ix_list (pv 4) pe_int (fun _ _ => rfl)) pa_nil))) (pa_cons (pe_tup (pa_cons (pe_op op_sub (pv 6) pe_int) (pa_cons (pe_ix ix_list (pv 4) pe_int (fun _ _ => rfl)) pa_nil))) pa_nil))) pa_nil)))))
      (pss_cons (ps_set (i := 8) sc_l_round.nd rfl (Or.inl rfl) (pe_tup (pa_cons pe_str (pa_cons (pe_tupF (pa_cons (pe_tup (pa_cons (pe_ix ix_list (pv 2) pe_int (fun _ _ => rfl)) (pa_cons (pe_tup pa_nil) pa_nil))) (pa_cons (pe_tup (pa_cons (pe_ix ix_list (pv 2) pe_int (fun _ _ => rfl)) (pa_cons (pe_tup (pa_cons (pv 7) pa_nil)) pa_nil))) (pa_cons (pe_tup (pa_cons (pe_ix ix_list (pv 2) pe_int (fun _ _ => rfl)) (pa_cons (pe_tup (pa_cons (pe_tup (pa_cons pe_str (pa_cons (pv 5) (pa_cons (pe_tup (pa_cons pe_str (pa_cons pe_int pa_nil))) pa_nil)))) pa_nil)) pa_nil))) pa_nil)))) pa_nil))))
      (pss_one (ps_ret (pe_tup (pa_cons pe_str (pa_cons (pe_tup (pa_cons pe_str (pa_cons (pe_tup (pa_cons pe_str (pa_cons (pv 5) pa_nil))) (pa_cons (pe_tup (pa_cons pe_str (pa_cons (pe_op op_sub (pv 6) pe_int) pa_nil))) pa_nil)))) (pa_cons (pe_tup (pa_cons (pv 8) (pa_cons (pv 7) pa_nil))) pa_nil)))))))))), ?_⟩
  obtain ⟨b, p, L, c, ns, lb, rfl, B, hc, hN, hok, hL, hl3', hlnd, hlw, hQ⟩ := h
  obtain ⟨x0, x1, x2, rfl⟩ : ∃ x0 x1 x2, lb = [x0, x1, x2] := by
    match lb, hl3' with
    | [x0, x1, x2], _ => exact ⟨x0, x1, x2, rfl⟩
  have nL := B.strs hL
  obtain ⟨ps, hp, hT⟩ := id hN
  have hl := hT.length
  have hn3 := hok.len
  refine ⟨_, rfl, _, rfl, p, _, rfl, .inr hp, b, c, _, rfl, B, by omega, by rw [List.length_map]; omega, by rw [List.length_map]; omega, fun r1 H1 hr1 g1 B1 => ?_⟩
  have hr1' : r1 < ps.length := by rw [List.length_map] at hr1; omega
  obtain ⟨n1, hn1, hq1⟩ := hT.get (List.getElem?_eq_getElem hr1')
  have w1 := mem_wds hn1
  have hsz := hok.size (List.mem_of_getElem? hn1)
  refine ⟨_, rfl, b, _, 3, rfl, B1, by omega, by decide, by decide, fun r2 H2 hr2 g2 B2 => ⟨_, _, rfl, rfl, ?_⟩⟩
  refine ⟨_, rfl, b, _, 2, rfl, B2, by omega, by decide, by decide, fun r3 H2a hr3 g3 B3 => ⟨_, _, rfl, rfl, (by show 2 ≤ sizeLine; decide), fun l hll => ?_⟩⟩
  have fl := Evl.Ex.new (o := .lst [V.int (1 + (r2 : Int)), V.int (1 + (r3 : Int))]) hll
  have hl3 : upd H2a l (.lst [V.int (1 + (r2 : Int)), V.int (1 + (r3 : Int))]) l = some (.lst [V.int (1 + (r2 : Int)), V.int (1 + (r3 : Int))]) := upd_same
  have g3 := ((g1.trans g2).trans g3).trans (go (S := [b]) fl)
  have B3 := B3.ex fl
  generalize upd H2a l (.lst [V.int (1 + (r2 : Int)), V.int (1 + (r3 : Int))]) = H3 at *
  clear fl hll
  have hL3 := g3.at hL (by simp [nL])
  have hq3 := g3 _ _ hq1 (.inl rfl)
  refine ⟨_, _, rfl, ?_⟩
  refine ⟨_, rfl, _, rfl, p, _, _, _, rfl, rfl, kt_t g3.kt hp, atI_nat (refs_at2 (List.getElem?_eq_getElem hr1')), _, nV n1, rfl, SqT.of hq3, rfl, _, _, rfl, _, _, rfl, rfl, ?_⟩
  refine ⟨_, rfl, _, rfl, l, _, 0, _, rfl, rfl, SqL.of hl3, rfl, ?_⟩
  refine ⟨(by show 2 ≤ sizeLine; decide), fun a1 ha1 => ?_⟩
  have fa1 := Evl.Ex.new (o := (.tup [.int 0, .int (1 + (r2 : Int))])) ha1
  have sa1 : SqT K (upd H3 a1 (.tup [.int 0, .int (1 + (r2 : Int))])) a1 [.int 0, .int (1 + (r2 : Int))] := SqT.of upd_same
  generalize upd H3 a1 (.tup [.int 0, .int (1 + (r2 : Int))]) = Kh1 at *
  refine ⟨_, rfl, _, _, rfl, rfl, _, rfl, l, _, 1, _, rfl, rfl, SqL.of (fa1 _ _ hl3), rfl, ?_⟩
  refine ⟨(by show 2 ≤ sizeLine; decide), fun a2 ha2 => ?_⟩
  have fa2 := Evl.Ex.new (o := (.tup [.int ((n1.2 : Int) - 1), .int (1 + (r3 : Int))])) ha2
  have sa2 : SqT K (upd Kh1 a2 (.tup [.int ((n1.2 : Int) - 1), .int (1 + (r3 : Int))])) a2 [.int ((n1.2 : Int) - 1), .int (1 + (r3 : Int))] := SqT.of upd_same
  generalize upd Kh1 a2 (.tup [.int ((n1.2 : Int) - 1), .int (1 + (r3 : Int))]) = Kh2 at *
  refine ⟨(by show 2 ≤ sizeLine; decide), fun a3 oa3 ha3 hoa3 => ?_⟩
  have fa3 := Evl.Ex.new (o := (.frz oa3 (.tup [.ref a1, .ref a2]))) ha3
  have sa3 : upd Kh2 a3 (.frz oa3 (.tup [.ref a1, .ref a2])) a3 = some (.frz oa3 (.tup [.ref a1, .ref a2])) := upd_same
  generalize upd Kh2 a3 (.frz oa3 (.tup [.ref a1, .ref a2])) = Kh3 at *
  refine ⟨(by show 3 ≤ sizeLine; decide), fun a4 ha4 => ?_⟩
  have fa4 := Evl.Ex.new (o := (.tup [.str "draw", .str n1.1, .ref a3])) ha4
  have sa4 : SqT K (upd Kh3 a4 (.tup [.str "draw", .str n1.1, .ref a3])) a4 [.str "draw", .str n1.1, .ref a3] := SqT.of upd_same
  generalize upd Kh3 a4 (.tup [.str "draw", .str n1.1, .ref a3]) = Kh4 at *
  have hL4 := ((fa1.trans fa2).trans (fa3.trans fa4)) _ _ hL3
  refine ⟨_, rfl, L, _, 2, .str x2, rfl, rfl, SqL.of hL4, rfl, ?_⟩
  refine ⟨Nat.zero_le _, fun b1 hb1 => ?_⟩
  have fb1 := Evl.Ex.new (o := (.tup [])) hb1
  have sb1 : SqT K (upd Kh4 b1 (.tup [])) b1 [] := SqT.of upd_same
  generalize upd Kh4 b1 (.tup []) = Kh5 at *
  refine ⟨(by show 2 ≤ sizeLine; decide), fun b2 hb2 => ?_⟩
  have fb2 := Evl.Ex.new (o := (.tup [.str x2, .ref b1])) hb2
  have sb2 : SqT K (upd Kh5 b2 (.tup [.str x2, .ref b1])) b2 [.str x2, .ref b1] := SqT.of upd_same
  generalize upd Kh5 b2 (.tup [.str x2, .ref b1]) = Kh6 at *
  refine ⟨_, rfl, L, _, 0, .str x0, rfl, rfl, SqL.of ((fb1.trans fb2) _ _ hL4), rfl, _, rfl, ?_⟩
  refine ⟨(by show 1 ≤ sizeLine; decide), fun b3 hb3 => ?_⟩
  have fb3 := Evl.Ex.new (o := (.tup [.ref a4])) hb3
  have sb3 : SqT K (upd Kh6 b3 (.tup [.ref a4])) b3 [.ref a4] := SqT.of upd_same
  generalize upd Kh6 b3 (.tup [.ref a4]) = Kh7 at *
  refine ⟨(by show 2 ≤ sizeLine; decide), fun b4 hb4 => ?_⟩
  have fb4 := Evl.Ex.new (o := (.tup [.str x0, .ref b3])) hb4
  have sb4 : SqT K (upd Kh7 b4 (.tup [.str x0, .ref b3])) b4 [.str x0, .ref b3] := SqT.of upd_same
  generalize upd Kh7 b4 (.tup [.str x0, .ref b3]) = Kh8 at *
  refine ⟨_, rfl, L, _, 1, .str x1, rfl, rfl, SqL.of (((fb1.trans fb2).trans (fb3.trans fb4)) _ _ hL4), rfl, _, rfl, ?_⟩
  refine ⟨(by show 2 ≤ sizeLine; decide), fun b5 hb5 => ?_⟩
  have fb5 := Evl.Ex.new (o := (.tup [.str "num", .int 0])) hb5
  have sb5 : SqT K (upd Kh8 b5 (.tup [.str "num", .int 0])) b5 [.str "num", .int 0] := SqT.of upd_same
  generalize upd Kh8 b5 (.tup [.str "num", .int 0]) = Kh9 at *
  refine ⟨(by show 3 ≤ sizeLine; decide), fun b6 hb6 => ?_⟩
  have fb6 := Evl.Ex.new (o := (.tup [.str "set", .str n1.1, .ref b5])) hb6
  have sb6 : SqT K (upd Kh9 b6 (.tup [.str "set", .str n1.1, .ref b5])) b6 [.str "set", .str n1.1, .ref b5] := SqT.of upd_same
  generalize upd Kh9 b6 (.tup [.str "set", .str n1.1, .ref b5]) = Kh10 at *
  refine ⟨(by show 1 ≤ sizeLine; decide), fun b7 hb7 => ?_⟩
  have fb7 := Evl.Ex.new (o := (.tup [.ref b6])) hb7
  have sb7 : SqT K (upd Kh10 b7 (.tup [.ref b6])) b7 [.ref b6] := SqT.of upd_same
  generalize upd Kh10 b7 (.tup [.ref b6]) = Kh11 at *
  refine ⟨(by show 2 ≤ sizeLine; decide), fun b8 hb8 => ?_⟩
  have fb8 := Evl.Ex.new (o := (.tup [.str x1, .ref b7])) hb8
  have sb8 : SqT K (upd Kh11 b8 (.tup [.str x1, .ref b7])) b8 [.str x1, .ref b7] := SqT.of upd_same
  generalize upd Kh11 b8 (.tup [.str x1, .ref b7]) = Kh12 at *
  refine ⟨(by show 3 ≤ sizeLine; decide), fun b9 ob9 hb9 hob9 => ?_⟩
  have fb9 := Evl.Ex.new (o := (.frz ob9 (.tup [.ref b2, .ref b4, .ref b8]))) hb9
  have sb9 : upd Kh12 b9 (.frz ob9 (.tup [.ref b2, .ref b4, .ref b8])) b9 = some (.frz ob9 (.tup [.ref b2, .ref b4, .ref b8])) := upd_same
  generalize upd Kh12 b9 (.frz ob9 (.tup [.ref b2, .ref b4, .ref b8])) = Kh13 at *
  refine ⟨(by show 2 ≤ sizeLine; decide), fun c0 hc0 => ?_⟩
  have fc0 := Evl.Ex.new (o := (.tup [.str "choose", .ref b9])) hc0
  have sc0 : SqT K (upd Kh13 c0 (.tup [.str "choose", .ref b9])) c0 [.str "choose", .ref b9] := SqT.of upd_same
  generalize upd Kh13 c0 (.tup [.str "choose", .ref b9]) = Kh14 at *
  refine ⟨_, rfl, ?_⟩
  refine ⟨(by show 2 ≤ sizeLine; decide), fun c1 hc1 => ?_⟩
  have fc1 := Evl.Ex.new (o := (.tup [.str "name", .str n1.1])) hc1
  have sc1 : SqT K (upd Kh14 c1 (.tup [.str "name", .str n1.1])) c1 [.str "name", .str n1.1] := SqT.of upd_same
  generalize upd Kh14 c1 (.tup [.str "name", .str n1.1]) = Kh15 at *
  refine ⟨_, rfl, _, _, rfl, rfl, ?_⟩
  refine ⟨(by show 2 ≤ sizeLine; decide), fun c2 hc2 => ?_⟩
  have fc2 := Evl.Ex.new (o := (.tup [.str "num", .int ((n1.2 : Int) - 1)])) hc2
  have sc2 : SqT K (upd Kh15 c2 (.tup [.str "num", .int ((n1.2 : Int) - 1)])) c2 [.str "num", .int ((n1.2 : Int) - 1)] := SqT.of upd_same
  generalize upd Kh15 c2 (.tup [.str "num", .int ((n1.2 : Int) - 1)]) = Kh16 at *
  refine ⟨(by show 3 ≤ sizeLine; decide), fun c3 hc3 => ?_⟩
  have fc3 := Evl.Ex.new (o := (.tup [.str "less", .ref c1, .ref c2])) hc3
  have sc3 : SqT K (upd Kh16 c3 (.tup [.str "less", .ref c1, .ref c2])) c3 [.str "less", .ref c1, .ref c2] := SqT.of upd_same
  generalize upd Kh16 c3 (.tup [.str "less", .ref c1, .ref c2]) = Kh17 at *
  refine ⟨_, rfl, _, rfl, ?_⟩
  refine ⟨(by show 2 ≤ sizeLine; decide), fun c4 hc4 => ?_⟩
  have fc4 := Evl.Ex.new (o := (.tup [.ref c0, .ref a4])) hc4
  have sc4 : SqT K (upd Kh17 c4 (.tup [.ref c0, .ref a4])) c4 [.ref c0, .ref a4] := SqT.of upd_same
  generalize upd Kh17 c4 (.tup [.ref c0, .ref a4]) = Kh18 at *
  refine ⟨(by show 3 ≤ sizeLine; decide), fun c5 hc5 => ?_⟩
  have fc5 := Evl.Ex.new (o := (.tup [.str "while", .ref c3, .ref c4])) hc5
  have sc5 : SqT K (upd Kh18 c5 (.tup [.str "while", .ref c3, .ref c4])) c5 [.str "while", .ref c3, .ref c4] := SqT.of upd_same
  generalize upd Kh18 c5 (.tup [.str "while", .ref c3, .ref c4]) = Kh19 at *
  have Ec5 := Evl.Ex.refl Kh19
  have Ec4 := fc5.trans Ec5
  have Ec3 := fc4.trans Ec4
  have Ec2 := fc3.trans Ec3
  have Ec1 := fc2.trans Ec2
  have Ec0 := fc1.trans Ec1
  have Eb9 := fc0.trans Ec0
  have Eb8 := fb9.trans Eb9
  have Eb7 := fb8.trans Eb8
  have Eb6 := fb7.trans Eb7
  have Eb5 := fb6.trans Eb6
  have Eb4 := fb5.trans Eb5
  have Eb3 := fb4.trans Eb4
  have Eb2 := fb3.trans Eb3
  have Eb1 := fb2.trans Eb2
  have Ea4 := fb1.trans Eb1
  have Ea3 := fa4.trans Ea4
  have Ea2 := fa3.trans Ea3
  have Ea1 := fa2.trans Ea2
  have E0 := fa1.trans Ea1
  have hw : RepW K Kh19 [(0, 1 + r2), (n1.2 - 1, 1 + r3)] [a1, a2] := by
    refine ⟨a1, [a2], rfl, ?_, a2, [], rfl, ?_, rfl⟩
    · have := Evl.ex_t Ea1 sa1
      rw [show (1 + (r2 : Int)) = ((1 + r2 : Nat) : Int) by omega] at this
      exact this
    · have := Evl.ex_t Ea2 sa2
      rw [show (1 + (r3 : Int)) = ((1 + r3 : Nat) : Int) by omega, show ((n1.2 : Int) - 1) = ((n1.2 - 1 : Nat) : Int) by omega] at this
      exact this
  have hto : RepS K Kh19 (.drw n1.1 [(0, 1 + r2), (n1.2 - 1, 1 + r3)]) (.ref a4) := by
    simp only [RepS]
    exact ⟨a4, a3, [a1, a2], rfl, Evl.ex_t Ea4 sa4, .inl (.inr ⟨oa3, Ea3 _ _ sa3⟩), ⟨oa3, Ea3 _ _ sa3, hoa3⟩, hw⟩
  have hset : RepS K Kh19 (.set n1.1 (.num 0)) (.ref b6) := by
    simp only [RepS]
    exact ⟨b6, _, rfl, Evl.ex_t Eb6 sb6, b5, rfl, Evl.ex_t Eb5 sb5⟩
  have hpk : RepS K Kh19 (.cho [x2, x0, x1] [[], [.drw n1.1 [(0, 1 + r2), (n1.2 - 1, 1 + r3)]], [.set n1.1 (.num 0)]]) (.ref c0) := by
    simp only [RepS]
    refine ⟨c0, b9, [b2, b4, b8], rfl, Evl.ex_t Ec0 sc0, .inl (.inr ⟨ob9, Eb9 _ _ sb9⟩), ⟨ob9, Eb9 _ _ sb9, hob9⟩, ?_⟩
    simp only [RepP]
    exact ⟨b2, _, b1, [], rfl, Evl.ex_t Eb2 sb2, Evl.ex_t Eb1 sb1, by simp [RepL], b4, _, b3, [.ref a4], rfl, Evl.ex_t Eb4 sb4, Evl.ex_t Eb3 sb3, RepL.one hto, b8, _, b7, [.ref b6], rfl, Evl.ex_t Eb8 sb8, Evl.ex_t Eb7 sb7, RepL.one hset, rfl⟩
  have hO : ∀ (ah : List Str) (n l : Nat), OkS (wds ns) (szf ns) ah n l (.drw n1.1 [(0, 1 + r2), (n1.2 - 1, 1 + r3)]) := fun ah n l => by
    have : n1.1 ∈ wds ns ∧ OkW (szf ns n1.1) [(0, 1 + r2), (n1.2 - 1, 1 + r3)] := by
      refine ⟨w1, by simp, by simp, by simp; omega, fun q hq => ?_⟩
      rw [szf_at hok hn1]
      simp only [List.mem_cons, List.not_mem_nil, or_false] at hq
      rcases hq with rfl | rfl
      · exact ⟨by show 0 < n1.2; omega, by show 0 ≤ 5; omega, by show 1 ≤ 1 + r2; omega, by show 1 + r2 ≤ 12; omega⟩
      · exact ⟨by show n1.2 - 1 < n1.2; omega, by show n1.2 - 1 ≤ 5; omega, by show 1 ≤ 1 + r3; omega, by show 1 + r3 ≤ 12; omega⟩
    cases n <;> cases l <;> simpa only [OkS] using this
  refine hQ (.whl (.n2 "less" (.name n1.1) (.num ((n1.2 : Int) - 1))) [.cho [x2, x0, x1] [[], [.drw n1.1 [(0, 1 + r2), (n1.2 - 1, 1 + r3)]], [.set n1.1 (.num 0)]], .drw n1.1 [(0, 1 + r2), (n1.2 - 1, 1 + r3)]]) _ _ (g3.trans (go E0)) ((B3.ex E0).mono (by omega)) ?_ (fun ah => ?_) rfl
  · simp only [RepS]
    refine ⟨c5, _, c4, [.ref c0, .ref a4], rfl, Evl.ex_t Ec5 sc5, ⟨c3, _, _, rfl, Evl.ex_t Ec3 sc3, ⟨c1, rfl, Evl.ex_t Ec1 sc1⟩, ⟨c2, rfl, Evl.ex_t Ec2 sc2⟩⟩, Evl.ex_t Ec4 sc4, ?_⟩
    have := RepL.app (RepL.one hpk) (RepL.one hto)
    exact this
  · have hs0 : OkS (wds ns) (szf ns) ah 1 2 (.set n1.1 (.num 0)) := by
      have : n1.1 ∈ wds ns ∧ IsX (wds ns) 6 (.num 0) := ⟨w1, by show (0 : Int) ≤ 0 ∧ (0 : Int) ≤ 99; decide⟩
      simpa only [OkS] using this
    have hp0 : OkS (wds ns) (szf ns) ah 2 2 (.cho [x2, x0, x1] [[], [.drw n1.1 [(0, 1 + r2), (n1.2 - 1, 1 + r3)]], [.set n1.1 (.num 0)]]) := by
      simp only [OkS]
      refine ⟨by simp, by simp, by simp, ?_, ?_, OkB.of fun z hz => ?_⟩
      · have h1 := hlnd
        simp only [List.nodup_cons, List.mem_cons, List.not_mem_nil, or_false, not_or, List.nodup_nil, and_true, not_false_eq_true] at h1 ⊢
        exact ⟨⟨fun z => h1.1.2 z.symm, fun z => h1.2 z.symm⟩, h1.1.1⟩
      · intro z hz
        refine hlw z ?_
        simp only [List.mem_cons, List.not_mem_nil, or_false] at hz ⊢
        rcases hz with h | h | h
        · exact .inr (.inr h)
        · exact .inl h
        · exact .inr (.inl h)
      · simp only [List.mem_cons, List.not_mem_nil, or_false] at hz
        rcases hz with rfl | rfl | rfl
        · simp [OkL]
        · exact OkL.of fun y hy => by cases (List.mem_singleton.mp hy); exact hO ah 1 2
        · exact OkL.of fun y hy => by cases (List.mem_singleton.mp hy); exact hs0
    simp only [OkS]
    refine ⟨.inl ⟨.inl rfl, w1, by show 0 ≤ (n1.2 : Int) - 1 ∧ (n1.2 : Int) - 1 ≤ 99; omega⟩, OkL.of fun y hy => ?_⟩
    simp only [List.mem_cons, List.not_mem_nil, or_false] at hy
    rcases hy with rfl | rfl
    · exact hp0
    · exact hO ah 2 2

end
end K14
namespace K14
open PySem PySem.Spec PyProof.Rows L2 C8

def menu11 : List (List Nat) := [[2], [3], [4], [5], [6], [2, 2], [2, 3], [3, 2], [2, 4], [4, 2], [2, 2, 2]]
theorem menu11_ok : ∀ r ∈ menu11, r ∈ menus := by decide +kernel
/-- tuples of numbers at qs -/
def RowsT (H : Hp) (qs : List Addr) (rs : List (List Nat)) : Prop := Paired (fun q r => H q = some (.tup (rV r))) qs rs
theorem RowsT.kt {H H' : Hp} (e : Kt H H') : ∀ {qs : List Addr} {rs : List (List Nat)}, RowsT H qs rs → RowsT H' qs rs
  | _, _, .nil => .nil
  | _, _, .cons h t => .cons (e _ _ h rfl) (RowsT.kt e t)
theorem RowsT.app {H : Hp} : ∀ {qs qs' : List Addr} {rs rs' : List (List Nat)}, RowsT H qs rs → RowsT H qs' rs' → RowsT H (qs ++ qs') (rs ++ rs')
  | _, _, _, _, .nil, h => h
  | _, _, _, _, .cons h t, g => .cons h (RowsT.app t g)
theorem RowsT.at {H : Hp} : ∀ {qs : List Addr} {rs : List (List Nat)}, RowsT H qs rs → ∀ {i : Nat} {r : List Nat}, rs[i]? = some r → ∃ q, qs[i]? = some q ∧ H q = some (.tup (rV r))
  | _, _, .nil, i, p, h => by simp at h
  | _, _, .cons a t, 0, p, h => by
    have : _ = p := Option.some.inj h
    subst this
    exact ⟨_, rfl, a⟩
  | _, _, .cons a t, i + 1, p, h => RowsT.at t h
theorem rep_kt {K : PySem.W.Frag} {H H' : Hp} (e : Kt H H') : ∀ {units : US} {us : List V}, RepUs K H units us → RepUs K H' units us
  | _, _, .nil => .nil
  | _, _, .cons h t => by
    obtain ⟨p, b, h1, h2, h3⟩ := h
    exact .cons ⟨p, b, h1, kt_t e h2, h3.kt e⟩ (rep_kt e t)
theorem rep_app {K : PySem.W.Frag} {H : Hp} {u : Str × List Sm} {v : V} (h : RepU K H u v) : ∀ {units : US} {us : List V}, RepUs K H units us → RepUs K H (units ++ [u]) (us ++ [v])
  | _, _, .nil => .cons h .nil
  | _, _, .cons a t => .cons a (rep_app h t)
theorem m7_menu (r : Nat) (hr : r < 7) : ∃ m : Nat, atI [V.int 1, V.int 2, V.int 2, V.int 3, V.int 3, V.int 4, V.int 6] (r : Int) = some (.int (m : Int)) ∧ 1 ≤ m ∧ m ≤ 6 := by
  have : r = 0 ∨ r = 1 ∨ r = 2 ∨ r = 3 ∨ r = 4 ∨ r = 5 ∨ r = 6 := by omega
  rcases this with rfl | rfl | rfl | rfl | rfl | rfl | rfl
  · exact ⟨1, atI_nat rfl, by omega, by omega⟩
  · exact ⟨2, atI_nat rfl, by omega, by omega⟩
  · exact ⟨2, atI_nat rfl, by omega, by omega⟩
  · exact ⟨3, atI_nat rfl, by omega, by omega⟩
  · exact ⟨3, atI_nat rfl, by omega, by omega⟩
  · exact ⟨4, atI_nat rfl, by omega, by omega⟩
  · exact ⟨6, atI_nat rfl, by omega, by omega⟩
theorem cut_from (xs : List V) (i : Nat) (h : i ≤ xs.length) : cutV xs (some (i : Int)) none = xs.drop i := by
  unfold cutV
  rw [HT.sIx_none, HT.sIx_nat, Nat.min_eq_left h]
  exact List.take_of_length_le (by simp)
theorem cut_mid (xs : List V) (i j : Nat) (h : i ≤ j) (hj : j ≤ xs.length) : cutV xs (some (i : Int)) (some (j : Int)) = (xs.drop i).take (j - i) := by
  unfold cutV
  rw [HT.sIx_nat, HT.sIx_nat, Nat.min_eq_left (show i ≤ xs.length by omega), Nat.min_eq_left hj]
/-- the lists while units are drawn -/
structure UW (K : PySem.W.Frag) (H0 H : Hp) (b : Addr) (c : Nat) (A U L S : Addr) (ah lb uw : List Str) (units : US) (us : List Addr) : Prop where
  g : Go [b] H0 H
  B : Box H b c
  a : H A = some (.lst (ah.map V.str))
  u : H U = some (.lst (us.map V.ref))
  l : H L = some (.lst (lb.map V.str))
  s : H S = some (.lst (uw.map V.str))
  r : RepUs K H units (us.map V.ref)
  nu : U ≠ b
section
variable {K : PySem.W.Frag} {H0 H H' : Hp} {b : Addr} {c c' : Nat} {A U L S : Addr} {ah lb uw : List Str} {units : US} {us : List Addr}
theorem UW.go (w : UW K H0 H b c A U L S ah lb uw units us) (g : Go [b] H H') (B : Box H' b c') : UW K H0 H' b c' A U L S ah lb uw units us :=
  ⟨w.g.trans g, B, g.at w.a (by simp [w.B.strs w.a]), g.at w.u (by simp [w.nu]), g.at w.l (by simp [w.B.strs w.l]), g.at w.s (by simp [w.B.strs w.s]), rep_kt g.kt w.r, w.nu⟩
theorem UW.ex (w : UW K H0 H b c A U L S ah lb uw units us) (e : Ex H H') : UW K H0 H' b c A U L S ah lb uw units us :=
  w.go (K14.go (S := [b]) e) (w.B.ex e)
theorem UW.mono (w : UW K H0 H b c A U L S ah lb uw units us) (h : c ≤ c') : UW K H0 H b c' A U L S ah lb uw units us :=
  ⟨w.g, w.B.mono h, w.a, w.u, w.l, w.s, w.r, w.nu⟩
end
theorem split2 {α : Type} : ∀ {zs : List α} {n : Nat}, zs.length = n + 2 → ∃ ws a b, zs = ws ++ [a, b] ∧ ws.length = n
  | [a, b], 0, _ => ⟨[], a, b, rfl, rfl⟩
  | [], _, h => by simp at h
  | [a], _, h => by simp at h
  | [a, b], n + 1, h => by simp at h
  | a :: b :: c :: r, 0, h => by simp at h
  | a :: b :: c :: r, n + 1, h => by
    obtain ⟨ws, x, y, e, hl⟩ := split2 (zs := b :: c :: r) (n := n) (by simpa using h)
    exact ⟨a :: ws, x, y, by rw [e]; rfl, by simp [hl]⟩
theorem Go.swap {b r : Addr} {H H' : Hp} (e : Go [b, r] H H') (h : H r = none) : Go [b] H H' := (e.sub (S' := [r, b]) (fun a ha => by
  simp only [List.mem_cons, List.not_mem_nil, or_false] at ha ⊢
  exact ha.symm)).drop h
theorem atI_neg1 {ws : List V} {a c : V} : atI (ws ++ [a, c]) (-1) = some c := by
  have : ws ++ [a, c] = (ws ++ [a]) ++ [c] := by simp
  exact last_ref this
theorem atI_neg2 {ws : List V} {a c : V} : atI (ws ++ [a, c]) (-2) = some a := by
  have hl : (ws ++ [a, c]).length = ws.length + 2 := by simp
  unfold atI
  rw [hl]
  unfold ixN
  rw [if_neg (by omega), if_pos (by omega)]
  show (ws ++ [a, c])[(-2 + ((ws.length + 2 : Nat) : Int)).toNat]? = _
  have : (-2 + ((ws.length + 2 : Nat) : Int)).toNat = ws.length := by omega
  rw [this]
  simp
theorem RepU.kt' {K : PySem.W.Frag} {H H' : Hp} (e : Kt H H') {u : Str × List Sm} {v : V} (h : RepU K H u v) : RepU K H' u v := by
  obtain ⟨p, b, h1, h2, h3⟩ := h
  exact ⟨p, b, h1, kt_t e h2, h3.kt e⟩
section
variable {P : Program} {w : World} {K : PySem.W.Frag} {mg : Str → Option Value} {base : Heap} {k n : Nat}
abbrev N_l_system : List Str := ["box", "sizes", "many", "words", "names", "ahead", "units", "labels", "unit", "body", "k"]
theorem sc_l_system : FnScope N_l_system ["box"] (defScope (top 86)) := ⟨rfl, rfl, rfl, by decide +kernel, rfl, by decide +kernel, by decide +kernel⟩
def spLSys (K : PySem.W.Frag) : Sp := fun vs H Q _ => ∃ (b : Addr) (c : Nat), vs = [.ref b] ∧ Box H b c ∧ c ≤ 300000 ∧
  ∀ (a : Addr) (ns : NS) (units pre : US) (un : Str) (body : List Sm) H', Go [b] H H' → Box H' b (c + 150000) → SysAt K H' a ns units → SysOk ns units → units = pre ++ [(un, body)] → Q (.ref a) H'
theorem ok_l_system (T : Txt K mg) (C_l_take : Cal P w K mg base 1 "_law_take" spTakeG []) (C_l_words : Cal P w K mg base 2 "_law_words" spLWords []) (C_l_body : Cal P w K mg base 15 "_law_body" (spLB K 4) []) (C_l_round : Cal P w K mg base 2 "_law_round" (spRound K) []) : Cal P w K mg base 16 "_law_system" (spLSys K) [] := by
  obtain ⟨fd, F⟩ := T.d__law_system
  refine ⟨_, fd, ["box"], [], ?_, T.g__law_system, F.kp, F.bindsN fun _ _ _ _ _ _ us hl => match us, hl with | [_], _ => rfl, .nil⟩
  refine F.ok sc_l_system (fun vs H Q E h => by obtain ⟨_, _, rfl, _⟩ := h; rfl) (fun cdv A outer s H vs Q E hr h => ?_)
  have hu := hu_of hr
  refine ⟨_, PSs.nox (pss_cut (ps_set (i := 1) sc_l_system.nd rfl (Or.inr rfl) (pe_ix ix_list (pe_lst (pa_cons (pe_tup (pa_cons pe_int pa_nil)) (pa_cons (pe_tup (pa_cons pe_int pa_nil)) (pa_cons (pe_tup (pa_cons pe_int pa_nil)) (pa_cons (pe_tup (pa_cons pe_int pa_nil)) (pa_cons (pe_tup (pa_cons pe_int pa_nil)) (pa_cons (pe_tup (pa_cons pe_int (pa_cons pe_int pa_nil))) (pa_cons (pe_tup (pa_cons pe_int (pa_cons pe_int pa_nil))) (pa_cons (pe_tup (pa_cons pe_int (pa_cons pe_int pa_nil))) (pa_cons (pe_tup (pa_cons pe_int (pa_cons pe_int pa_nil))) (pa_cons (pe_tup (pa_cons pe_int (pa_cons pe_int pa_nil))) (pa_cons (pe_tup (pa_cons pe_int (pa_cons pe_int (pa_cons pe_int pa_nil)))) pa_nil)))))))))))) (pe_c C_l_take hr (by omega) rfl (pa_cons (pv 0) (pa_cons pe_int pa_nil))) (fun _ _ => rfl)))
      (pss_cons (ps_set (i := 2) sc_l_system.nd rfl (Or.inl rfl) (pe_ix ix_list (pe_lst (pa_cons pe_int (pa_cons pe_int (pa_cons pe_int (pa_cons pe_int (pa_cons pe_int (pa_cons pe_int (pa_cons pe_int pa_nil)))))))) (pe_c C_l_take hr (by omega) rfl (pa_cons (pv 0) (pa_cons pe_int pa_nil))) (fun _ _ => rfl)))
      (pss_cons (ps_set (i := 3) sc_l_system.nd rfl (Or.inr rfl) (pe_c C_l_words hr (by omega) rfl (pa_cons (pv 0) (pa_cons (pe_op op_add (pe_op op_add (pe_callB call_len_seq (by rfl) T.f_len (by decide +kernel) (pa_cons (pv 1) pa_nil)) (pv 2)) pe_int) pa_nil))))
      (pss_cons (ps_set (i := 4) sc_l_system.nd rfl (Or.inl rfl) (pe_callTy call_tupF (by rfl) T.f_tuple (by decide +kernel) (pa_cons (pe_lc (own := [("k", 10)]) rfl sc_l_system.nd (pi_range1 (by rfl) T.f_range (pa_cons (pe_callB call_len_seq (by rfl) T.f_len (by decide +kernel) (pa_cons (pv 1) pa_nil)) pa_nil)) (blkOk_by (own := [("k", 10)]) (N := N_l_system) (sc := defScope (top 86)) (by decide +kernel)) (fun _ _ _ _ _ => (pg_name (i := 10) sc_l_system.nd rfl (Or.inl rfl))) (fun _ _ _ _ _ => pts_nil) (fun _ _ _ _ _ => (pe_tup (pa_cons (pe_ix (ixL (K := K) rfl) (pv 3) (pv 10) (fun _ _ => rfl)) (pa_cons (pe_ix (ixT (K := K) rfl) (pv 1) (pv 10) (fun _ _ => rfl)) pa_nil))))) pa_nil)))
      (pss_cons (ps_par3 (i := 5) (j := 6) (l := 7) (by rfl) sc_l_system.nd rfl rfl rfl (by decide) (by decide) (by decide) rfl rfl rfl (pa_cons (pe_lst pa_nil) (pa_cons (pe_lst pa_nil) (pa_cons (pe_slice sl_list (pv 3) (po_some (pe_op op_add (pe_callB call_len_seq (by rfl) T.f_len (by decide +kernel) (pa_cons (pv 1) pa_nil)) (pv 2))) po_none) pa_nil))) (by rfl))
      (pss_cut (ps_if (pt_cmpR op_eq (pe_c C_l_take hr (by omega) rfl (pa_cons (pv 0) (pa_cons pe_int pa_nil))) pe_int (nomark _)) (pss_one (ps_set (i := 7) sc_l_system.nd rfl (Or.inl rfl) (pe_lst (pa_cons (pe_ix ix_list (pv 3) pe_int (fun _ _ => rfl)) (pa_cons (pe_ix ix_list (pv 3) (pe_callB call_len_seq (by rfl) T.f_len (by decide +kernel) (pa_cons (pv 1) pa_nil)) (fun _ _ => rfl)) (pa_cons (pe_ix ix_list (pv 7) pe_int (fun _ _ => rfl)) pa_nil)))))) pss_nil)
      (pss_cons (ps_for PassesOwn.never rfl (pi_list (pe_slice sl_list (pv 3) (po_some (pe_callB call_len_seq (by rfl) T.f_len (by decide +kernel) (pa_cons (pv 1) pa_nil))) (po_some (pe_op op_add (pe_callB call_len_seq (by rfl) T.f_len (by decide +kernel) (pa_cons (pv 1) pa_nil)) (pv 2))))) (pg_name (i := 8) sc_l_system.nd rfl (Or.inl rfl)) (pss_cons (ps_set (i := 9) sc_l_system.nd rfl (Or.inl rfl) (pe_c C_l_body hr (by omega) rfl (pa_cons (pv 0) (pa_cons (pe_lst (pa_cons (pv 4) (pa_cons (pe_callTy call_list_of (by rfl) T.f_list (by decide +kernel) (pa_cons (pv 5) pa_nil)) (pa_cons (pv 7) pa_nil)))) (pa_cons (pe_lst (pa_cons pe_int pa_nil)) (pa_cons pe_int (pa_cons pe_int (pa_cons pe_int pa_nil))))))))
      (pss_cut (ps_if (PW.pt (pw_and (pt_cmpR (op_neD hr.units) (pv 5) (pe_lst pa_nil) (nomark _)) (pw_and1 (pt_cmpR op_eq (pe_c C_l_take hr (by omega) rfl (pa_cons (pv 0) (pa_cons pe_int pa_nil))) pe_int (nomark _))))) (pss_one (ps_set (i := 9) sc_l_system.nd rfl (Or.inl rfl) (pe_op op_catA (pv 9) (pe_tup (pa_cons (pe_tup (pa_cons pe_str (pa_cons (pe_ix ix_list (pv 5) (pe_c C_l_take hr (by omega) rfl (pa_cons (pv 0) (pa_cons (pe_callB call_len_seq (by rfl) T.f_len (by decide +kernel) (pa_cons (pv 5) pa_nil)) pa_nil))) (fun _ _ => rfl)) pa_nil))) pa_nil))))) pss_nil)
      (pss_cut (ps_if (PW.pt (pw_and (pt_cmpR op_eq (pe_callB call_len_seq (by rfl) T.f_len (by decide +kernel) (pa_cons (pv 6) pa_nil)) (pe_op op_sub (pv 2) pe_int) (nomark _)) (pw_and1 (pt_cmpR op_eq (pe_c C_l_take hr (by omega) rfl (pa_cons (pv 0) (pa_cons pe_int pa_nil))) pe_int (nomark _))))) (pss_one (ps_set (i := 9) sc_l_system.nd rfl (Or.inl rfl) (pe_op op_catA (pv 9) (pe_tup (pa_cons (pe_c C_l_round hr (by omega) rfl (pa_cons (pv 0) (pa_cons (pv 4) (pa_cons (pv 7) pa_nil)))) pa_nil))))) pss_nil)
      (pss_cons (ps_expr (pe_bm PySem.F.plainAttrs_list PySem.F.slot_list_append PySem.F.type_list_append mt_append (pv 6) (pa_cons (pe_tup (pa_cons (pv 8) (pa_cons (pv 9) pa_nil))) pa_nil)))
      (pss_one (ps_expr (pe_bm PySem.F.plainAttrs_list PySem.F.slot_list_append PySem.F.type_list_append mt_append (pv 5) (pa_cons (pv 8) pa_nil)))))))))
      (pss_one (ps_ret (pe_tup (pa_cons (pv 4) (pa_cons (pe_callTy call_tupF (by rfl) T.f_tuple (by decide +kernel) (pa_cons (pv 6) pa_nil)) pa_nil)))))))))))), ?_⟩
  obtain ⟨b, c, rfl, B, hc, hQ⟩ := h
  refine ⟨fun σ H' => ∃ (q : Addr) (sz : List Nat), σ = [some (.ref b), some (.ref q), none, none, none, none, none, none, none, none, none] ∧ sz ∈ menus ∧ H' q = some (.tup (rV sz)) ∧ Go [b] H H' ∧ Box H' b (c + 1), ?_, ?_⟩
  · skip
    refine ⟨(by show 1 ≤ sizeLine; decide), fun p0 hp0 => ?_⟩
    have e0 := Evl.Ex.new (o := .tup (rV [2])) hp0
    have R0 : RowsT (upd H p0 (.tup (rV [2]))) [p0] [[2]] := .cons upd_same .nil
    refine ⟨(by show 1 ≤ sizeLine; decide), fun p1 hp1 => ?_⟩
    have f1 := Evl.Ex.new (o := .tup (rV [3])) hp1
    have e1 := e0.trans f1
    have R1 := (R0.kt (kt f1)).app (.cons upd_same .nil : RowsT _ [p1] [[3]])
    refine ⟨(by show 1 ≤ sizeLine; decide), fun p2 hp2 => ?_⟩
    have f2 := Evl.Ex.new (o := .tup (rV [4])) hp2
    have e2 := e1.trans f2
    have R2 := (R1.kt (kt f2)).app (.cons upd_same .nil : RowsT _ [p2] [[4]])
    refine ⟨(by show 1 ≤ sizeLine; decide), fun p3 hp3 => ?_⟩
    have f3 := Evl.Ex.new (o := .tup (rV [5])) hp3
    have e3 := e2.trans f3
    have R3 := (R2.kt (kt f3)).app (.cons upd_same .nil : RowsT _ [p3] [[5]])
    refine ⟨(by show 1 ≤ sizeLine; decide), fun p4 hp4 => ?_⟩
    have f4 := Evl.Ex.new (o := .tup (rV [6])) hp4
    have e4 := e3.trans f4
    have R4 := (R3.kt (kt f4)).app (.cons upd_same .nil : RowsT _ [p4] [[6]])
    refine ⟨(by show 2 ≤ sizeLine; decide), fun p5 hp5 => ?_⟩
    have f5 := Evl.Ex.new (o := .tup (rV [2, 2])) hp5
    have e5 := e4.trans f5
    have R5 := (R4.kt (kt f5)).app (.cons upd_same .nil : RowsT _ [p5] [[2, 2]])
    refine ⟨(by show 2 ≤ sizeLine; decide), fun p6 hp6 => ?_⟩
    have f6 := Evl.Ex.new (o := .tup (rV [2, 3])) hp6
    have e6 := e5.trans f6
    have R6 := (R5.kt (kt f6)).app (.cons upd_same .nil : RowsT _ [p6] [[2, 3]])
    refine ⟨(by show 2 ≤ sizeLine; decide), fun p7 hp7 => ?_⟩
    have f7 := Evl.Ex.new (o := .tup (rV [3, 2])) hp7
    have e7 := e6.trans f7
    have R7 := (R6.kt (kt f7)).app (.cons upd_same .nil : RowsT _ [p7] [[3, 2]])
    refine ⟨(by show 2 ≤ sizeLine; decide), fun p8 hp8 => ?_⟩
    have f8 := Evl.Ex.new (o := .tup (rV [2, 4])) hp8
    have e8 := e7.trans f8
    have R8 := (R7.kt (kt f8)).app (.cons upd_same .nil : RowsT _ [p8] [[2, 4]])
    refine ⟨(by show 2 ≤ sizeLine; decide), fun p9 hp9 => ?_⟩
    have f9 := Evl.Ex.new (o := .tup (rV [4, 2])) hp9
    have e9 := e8.trans f9
    have R9 := (R8.kt (kt f9)).app (.cons upd_same .nil : RowsT _ [p9] [[4, 2]])
    refine ⟨(by show 3 ≤ sizeLine; decide), fun p10 hp10 => ?_⟩
    have f10 := Evl.Ex.new (o := .tup (rV [2, 2, 2])) hp10
    have e10 := e9.trans f10
    have R10 := (R9.kt (kt f10)).app (.cons upd_same .nil : RowsT _ [p10] [[2, 2, 2]])
    refine ⟨(by show 11 ≤ sizeLine; decide), fun m hm => ?_⟩
    have fm := Evl.Ex.new (o := .lst [.ref p0, .ref p1, .ref p2, .ref p3, .ref p4, .ref p5, .ref p6, .ref p7, .ref p8, .ref p9, .ref p10]) hm
    have em := e10.trans fm
    have R := R10.kt (kt fm)
    have Bm := B.ex em
    have nm := (B.ex e10).ne hm
    refine ⟨_, rfl, b, c, 11, rfl, Bm, by omega, by decide, by decide, fun r H1 hr1 g1 B1 => ?_⟩
    have hr11 : r < menu11.length := by show r < 11; omega
    have R1 := R.kt g1.kt
    obtain ⟨q, hq, hq1⟩ := R1.at (show menu11[r]? = some menu11[r] from List.getElem?_eq_getElem hr11)
    have hm1 := g1.at (a := m) upd_same (by simp [nm])
    refine ⟨m, [p0, p1, p2, p3, p4, p5, p6, p7, p8, p9, p10].map V.ref, _, .ref q, rfl, rfl, SqL.of hm1, atI_nat (refs_at2 hq), ?_⟩
    exact ⟨q, menu11[r], rfl, menu11_ok _ (List.getElem_mem hr11), hq1, (go em).trans g1, B1⟩
  rintro σ H1 ⟨q, sz, rfl, hsz, hq1, g1, B1⟩
  have mf := menu_facts sz hsz
  refine ⟨(by show 7 ≤ sizeLine; decide), fun ml hml => ?_⟩
  have eml := Evl.Ex.new (o := .lst [V.int 1, V.int 2, V.int 2, V.int 3, V.int 3, V.int 4, V.int 6]) hml
  have nml := B1.ne hml
  refine ⟨_, rfl, b, _, 7, rfl, B1.ex eml, by omega, by decide, by decide, fun rm H1a hrm g1a B1a => ?_⟩
  obtain ⟨many, hmany, hm1, hm6⟩ := m7_menu rm (by omega)
  have hml1 := g1a.at (a := ml) (upd_same (H := H1)) (by simp [nml])
  refine ⟨ml, _, _, _, rfl, rfl, SqL.of hml1, hmany, ?_⟩
  have g1 := (g1.trans (go (S := [b]) eml)).trans g1a
  have hq1 := g1a _ _ (eml _ _ hq1) (.inl rfl)
  clear hml1 eml hml nml g1a
  refine ⟨_, rfl, _, rfl, q, _, rfl, .inr (SqT.of hq1), _, rfl, _, _, rfl, rfl, _, _, rfl, rfl, b, c + 2, sz.length + many + 3, ?_, by omega, B1a, by omega, fun W zs H2 g2 B2 hW0 hWb hW2 hzl hzw hzn => ?_⟩
  · show ([V.ref b, V.int (((rV sz).length : Int) + (many : Int) + 3)] : List V) = _
    rw [List.length_map]
    rfl
  have hq2 := g2 _ _ hq1 (.inl rfl)
  have g12 := g1.trans g2
  obtain ⟨ws, hws⟩ : ∃ ws, zs.take sz.length = ws := ⟨_, rfl⟩
  have hwl : ws.length = sz.length := by rw [← hws, List.length_take]; omega
  refine ⟨_, rfl, q, _, rfl, .inr (SqT.of hq2), (sz.length : Int), by rw [List.length_map], by omega, by omega, fun D hD => ?_⟩
  have nDW : D ≠ W := (ne_of_none hW2 hD).symm
  refine lc_rel (walk_range (lo := 0) (n := (sz.length : Int).toNat)) (fun i y H' => ∃ t, y = .ref t ∧ t ≠ D ∧ H' t = some (.tup (nV (ws.getD i "", sz.getD i 0)))) (by omega) hD (fun _ _ => trivial)
    (fun i y H5 H6 ⟨t, h1, h2, h3⟩ e => ⟨t, h1, h2, e _ _ h3⟩) (fun i y H5 l l' ⟨t, h1, h2, h3⟩ _ => ⟨t, h1, h2, by rw [upd_ne h2]; exact h3⟩) ?_ ?_
  · rintro i y H5' H5 Z BB hi e5 ⟨dl, hdl⟩ ⟨rfl, rfl⟩ hZ
    have hi' : i < sz.length := by omega
    have hiw : i < ws.length := by omega
    have hiz : i < zs.length := by omega
    refine ⟨rfl, ?_⟩
    have a1 : atI (zs.map V.str) (0 + (i : Int)) = some (.str (ws.getD i "")) := by
      rw [Int.zero_add]
      refine atI_nat ?_
      rw [List.getElem?_map, List.getElem?_eq_getElem hiz, List.getD_eq_getElem?_getD, ← hws, List.getElem?_take_of_lt hi', List.getElem?_eq_getElem hiz]
      rfl
    have a2 : atI (rV sz) (0 + (i : Int)) = some (.int ((sz.getD i 0 : Nat) : Int)) := by
      rw [Int.zero_add]
      refine atI_nat ?_
      rw [List.getElem?_map, List.getElem?_eq_getElem hi', List.getD_eq_getElem?_getD, List.getElem?_eq_getElem hi']
      rfl
    refine ⟨_, rfl, _, rfl, W, _, _, _, rfl, rfl, SqL.of (e5 _ _ hW2), a1, ?_⟩
    refine ⟨_, rfl, _, rfl, q, _, _, _, rfl, rfl, SqT.of (e5 _ _ hq2), a2, (by show 2 ≤ sizeLine; decide), fun t ht => ?_⟩
    exact hZ _ _ (Evl.Ex.new ht) ⟨t, rfl, (ne_of_none hdl ht).symm, upd_same⟩
  intro H3 ys e3 hd3 hlen hR3
  obtain ⟨ts, rfl, hts⟩ := refs_of hR3
  have hszl : (sz.length : Int).toNat = sz.length := by omega
  rw [hszl, List.length_map] at hlen
  have T3 : Tups H3 ts (ws.zip sz) := Tups.byIx (by simp; omega) fun i p n h1 h2 => by
    obtain ⟨h3, h4⟩ := hts i p h1
    rw [List.getElem?_zip_eq_some] at h2
    rw [h4, List.getD_eq_getElem?_getD, List.getD_eq_getElem?_getD, h2.1, h2.2]
    rfl
  have hzw' : ∀ z ∈ ws, WordOk z := fun z hz => hzw z (List.mem_of_mem_take (by rw [← hws] at hz; exact hz))
  have ndw : ws.Nodup := by rw [← hws]; exact hzn.sublist (List.take_sublist _ _)
  have hok : NsOk (ws.zip sz) := zip_ns hzw' ndw hsz (by omega)
  have ewd : wds (ws.zip sz) = ws := by
    unfold wds
    rw [map_fst_zip_take _ _ (by omega), ← hwl, List.take_length]
  refine ⟨D, _, rfl, .inl ⟨SqL.of hd3, fun pn o hpn ho => ?_⟩⟩
  have eP := Evl.Ex.new (o := .frz o (.tup (ts.map V.ref))) hpn
  have e34 := e3.trans eP
  have g4 : Go [b] H (upd H3 pn (.frz o (.tup (ts.map V.ref)))) := g12.trans (go e34)
  have B4 : Box (upd H3 pn (.frz o (.tup (ts.map V.ref)))) b (c + 302) := (B2.ex e34).mono (by omega)
  have hW4 := e34 _ _ hW2
  have hq4 := e34 _ _ hq2
  have hp4 : upd H3 pn (.frz o (.tup (ts.map V.ref))) pn = some (.frz o (.tup (ts.map V.ref))) := upd_same
  have T4 := T3.mono eP
  generalize upd H3 pn (.frz o (.tup (ts.map V.ref))) = H4 at g4 B4 hW4 hq4 hp4 T4 ⊢
  clear e34 eP
  have np : ∀ {H' : Hp}, Kt H4 H' → SqT K H' pn (ts.map V.ref) := fun e => .inl (.inr ⟨o, e _ _ hp4 rfl⟩)
  have NA : ∀ {H' : Hp}, Kt H4 H' → NamesAt K H' pn (ws.zip sz) := fun e => ⟨ts, np e, T4.kt e⟩
  have hl := T4.length
  have hn3 := hok.len
  generalize hns : ws.zip sz = ns at *
  have hs1 : 1 ≤ sz.length ∧ sz.length ≤ 3 := by have := menu_facts sz hsz; omega
  have ql : (rV sz).length = sz.length := by rw [List.length_map]
  have eqa : (((rV sz).length : Nat) : Int) + (many : Int) = ((sz.length + many : Nat) : Int) := by rw [ql]; omega
  -- the lists
  refine ⟨Nat.zero_le _, fun A hA => ?_⟩
  have fA := Evl.Ex.new (o := .lst []) hA
  have sA : upd H4 A (.lst []) A = some (.lst []) := upd_same
  generalize upd H4 A (.lst []) = K1 at fA sA ⊢
  refine ⟨Nat.zero_le _, fun U hU => ?_⟩
  have fU := Evl.Ex.new (o := .lst []) hU
  have sU : upd K1 U (.lst []) U = some (.lst []) := upd_same
  have nAU : A ≠ U := ne_of_none sA hU
  have hU4 := Evl.fresh_back fA hU
  have nUb := B4.ne hU4
  have sA := fU _ _ sA
  have f2 := fA.trans fU
  generalize upd K1 U (.lst []) = K2 at f2 sA sU ⊢
  refine ⟨_, rfl, _, rfl, q, _, rfl, .inr (SqT.of (f2 _ _ hq4)), _, rfl, _, _, rfl, rfl, _, rfl, W, _, rfl, SqL.of (f2 _ _ hW4), fun L hL => ?_⟩
  rw [eqa, cut_from _ _ (by rw [List.length_map]; omega), ← List.map_drop]
  have fL := Evl.Ex.new (o := .lst ((zs.drop (sz.length + many)).map V.str)) hL
  have sL : upd K2 L (.lst ((zs.drop (sz.length + many)).map V.str)) L = some (.lst ((zs.drop (sz.length + many)).map V.str)) := upd_same
  have nLA : A ≠ L := ne_of_none sA hL
  have nLU : U ≠ L := ne_of_none sU hL
  have sA := fL _ _ sA
  have sU := fL _ _ sU
  have f3 := f2.trans fL
  refine ⟨_, _, _, rfl, ?_⟩
  have dl : (zs.drop (sz.length + many)).length = 3 := by rw [List.length_drop]; omega
  have dn : (zs.drop (sz.length + many)).Nodup := hzn.sublist (List.drop_sublist _ _)
  have dw : ∀ z ∈ zs.drop (sz.length + many), WordOk z := fun z hz => hzw z (List.mem_of_mem_drop hz)
  have d2 : (zs.drop (sz.length + many))[2]? = zs[sz.length + many + 2]? := by rw [List.getElem?_drop]
  generalize zs.drop (sz.length + many) = lb0 at *
  generalize upd K2 L (.lst (lb0.map V.str)) = K3 at f3 sA sU sL ⊢
  clear fA fU f2 fL hU hL
  have g4' := g4
  have g4 := g4.trans (go (S := [b]) f3)
  have B5 := B4.ex f3
  have hW5 := f3 _ _ hW4
  have hq5 := f3 _ _ hq4
  refine ⟨fun σ H' => ∃ (L : Addr) (lb : List Str), σ = [some (.ref b), some (.ref q), some (.int (many : Int)), some (.ref W), some (.ref pn), some (.ref A), some (.ref U), some (.ref L), none, none, none] ∧ Go [b] K3 H' ∧ Box H' b (c + 303) ∧ H' L = some (.lst (lb.map V.str)) ∧ A ≠ L ∧ U ≠ L ∧ lb.length = 3 ∧ lb.Nodup ∧ ∀ z ∈ lb, WordOk z, ?_, ?_⟩
  · refine ⟨_, rfl, b, _, 3, rfl, B5, by omega, by decide, by decide, fun r6 H6 hr6 g6 B6 => ?_⟩
    have hW6 := g6.at hW5 (by simp [hWb])
    have hq6 := g6 _ _ hq5 (.inl rfl)
    have hL6 := g6.at sL (by simp [B5.strs sL])
    refine ⟨rfl, _, rfl, ?_⟩
    refine ite2 (fun c1 => ?_) (fun c1 => ?_)
    · have z0 : zs[0]? = some zs[0] := List.getElem?_eq_getElem (by omega)
      have zS : zs[sz.length]? = some zs[sz.length] := List.getElem?_eq_getElem (by omega)
      have zM : zs[sz.length + many + 2]? = some zs[sz.length + many + 2] := List.getElem?_eq_getElem (by omega)
      refine ⟨_, rfl, W, _, 0, .str zs[0], rfl, rfl, SqL.of hW6, atI_nat (j := 0) (by rw [List.getElem?_map, z0]; rfl), ?_⟩
      refine ⟨_, rfl, _, rfl, q, _, rfl, .inr (SqT.of hq6), W, _, _, .str zs[sz.length], rfl, rfl, SqL.of hW6, by rw [ql]; exact atI_nat (by rw [List.getElem?_map, zS]; rfl), ?_⟩
      refine ⟨_, rfl, L, _, 2, .str zs[sz.length + many + 2], rfl, rfl, SqL.of hL6, atI_nat (j := 2) (by rw [List.getElem?_map, d2, zM]; rfl), (by show 3 ≤ sizeLine; decide), fun L2 hL2 => ?_⟩
      have e7 := Evl.Ex.new (o := .lst [V.str zs[0], V.str zs[sz.length], V.str zs[sz.length + many + 2]]) hL2
      refine ⟨L2, [zs[0], zs[sz.length], zs[sz.length + many + 2]], rfl, g6.trans (go e7), B6.ex e7, upd_same, ne_of_none (g6.at sA (by simp [B5.strs (zs := []) sA])) hL2, ne_of_none (g6.at sU (by simp [nUb])) hL2, rfl, ?_, ?_⟩
      · have hne : ∀ (i j : Nat) (hi : i < zs.length) (hj : j < zs.length), i ≠ j → zs[i] ≠ zs[j] := fun i j hi hj n e => n ((List.getElem_inj hzn).mp e)
        simp only [List.nodup_cons, List.mem_cons, List.not_mem_nil, or_false, not_or, List.nodup_nil, and_true, not_false_eq_true]
        exact ⟨⟨hne _ _ _ _ (by omega), hne _ _ _ _ (by omega)⟩, hne _ _ _ _ (by omega)⟩
      · intro z hz
        simp only [List.mem_cons, List.not_mem_nil, or_false] at hz
        rcases hz with rfl | rfl | rfl <;> exact hzw _ (List.getElem_mem _)
    · exact ⟨L, lb0, rfl, g6, B6, hL6, nLA, nLU, dl, dn, dw⟩
  clear sL nLA nLU d2 dl dn dw
  rintro σ H5 ⟨L, lb, rfl, g5, B6, hL5, nLA, nLU, l3, lnd, lbw⟩
  have nAb := B5.strs (zs := []) sA
  have sA := g5.at sA (by simp [nAb])
  have sU := g5.at sU (by simp [nUb])
  have hW6 := g5.at hW5 (by simp [hWb])
  have hq6 := g5 _ _ hq5 (.inl rfl)
  refine ⟨_, rfl, _, rfl, q, _, rfl, .inr (SqT.of hq6), _, rfl, _, rfl, q, _, rfl, .inr (SqT.of hq6), _, rfl, _, _, rfl, rfl, _, rfl, W, _, rfl, SqL.of hW6, fun S hS => ?_⟩
  rw [eqa, ql, cut_mid _ _ _ (by omega) (by rw [List.length_map]; omega), Nat.add_sub_cancel_left, ← List.map_drop, ← List.map_take]
  have eS := Evl.Ex.new (o := .lst (((zs.drop sz.length).take many).map V.str)) hS
  have sS : upd H5 S (.lst (((zs.drop sz.length).take many).map V.str)) S = some (.lst (((zs.drop sz.length).take many).map V.str)) := upd_same
  have nSA : A ≠ S := ne_of_none sA hS
  have nSU : U ≠ S := ne_of_none sU hS
  have uwl : ((zs.drop sz.length).take many).length = many := by rw [List.length_take, List.length_drop]; omega
  have uwok : ∀ z ∈ (zs.drop sz.length).take many, WordOk z := fun z hz => hzw z (List.mem_of_mem_drop (List.mem_of_mem_take hz))
  have wnd : (ws ++ (zs.drop sz.length).take many).Nodup := by
    rw [← hws, ← List.take_add]
    exact hzn.sublist (List.take_sublist _ _)
  have hwuw : ∀ (i : Nat) (z : Str), ((zs.drop sz.length).take many)[i]? = some z → True := fun _ _ _ => trivial
  generalize (zs.drop sz.length).take many = uw at *
  have W0 : UW K H4 (upd H5 S (.lst (uw.map V.str))) b (c + 400) A U L S [] lb uw [] [] := ⟨((go f3).trans g5).trans (go eS), (B6.ex eS).mono (by omega), eS _ _ sA, eS _ _ sU, eS _ _ hL5, sS, .nil, nUb⟩
  generalize upd H5 S (.lst (uw.map V.str)) = H6 at W0 ⊢
  clear eS sS sA sU hL5 hS hW6 hq6 B6 g5 hwuw
  have hnp : ∀ {H' : Hp} {b c A U L S ah lb uw units us}, UW K H4 H' b c A U L S ah lb uw units us → SqT K H' pn (ts.map V.ref) := fun w => np w.g.kt
  have hna : ∀ {H' : Hp} {b c A U L S ah lb uw units us}, UW K H4 H' b c A U L S ah lb uw units us → NamesAt K H' pn ns := fun w => NA w.g.kt
  refine ⟨S, rfl, ⟨_, SqL.of W0.s⟩, ?_⟩
  refine for_it (walk_list (xs := uw.map V.str)) (fun i σ H' => ∃ (units : US) (us : List Addr) (x8 x9 : Option V), σ = [some (.ref b), some (.ref q), some (.int (many : Int)), some (.ref W), some (.ref pn), some (.ref A), some (.ref U), some (.ref L), x8, x9, none] ∧ UW K H4 H' b (c + 400 + 21020 * i) A U L S (uw.take i) lb uw units us ∧ units.map Prod.fst = uw.take i ∧ (∀ (j : Nat) (u : Str × List Sm), units[j]? = some u → UnitOk (wds ns) (szf ns) ((units.take j).map Prod.fst) u) ∧ (units.map fun u => cntL u.2).sum ≤ 8 * i + (if i = many then 5 else 0))
    ⟨[], [], none, none, rfl, W0, rfl, (fun j u h => by simp at h), by simp⟩ (fun i σ H' _ z => by obtain ⟨_, _, _, _, _, z, _⟩ := z; exact SqL.of z.s) ?_ ?_
  · clear W0
    rintro i x σ H7 H7' hi ⟨units, us, x8, x9, rfl, w7, hfst, hUs, hsum⟩ ⟨rfl, hx⟩
    rw [List.length_map, uwl] at hi
    have hiu : i < uw.length := by omega
    obtain ⟨un, hun, rfl⟩ : ∃ un : Str, uw[i]? = some un ∧ x = .str un := by
      rw [List.getElem?_map, List.getElem?_eq_getElem hiu] at hx
      cases hx
      exact ⟨_, List.getElem?_eq_getElem hiu, rfl⟩
    have hunok : WordOk un := uwok un (List.mem_of_getElem? hun)
    have hnl : units.length = i := by
      rw [← List.length_map (f := Prod.fst), hfst, List.length_take]
      omega
    have hul : us.length = i := by
      have := w7.r.length
      rw [List.length_map] at this
      omega
    have ahl : (uw.take i).length = i := by rw [List.length_take]; omega
    have hwo : WOk (uw.take i) lb := ⟨by omega, fun z hz => uwok z (List.mem_of_mem_take hz), l3, lnd, lbw⟩
    rw [if_neg (by omega)] at hsum
    -- the body
    refine ⟨_, rfl, _, rfl, _, rfl, A, _, rfl, .inl (SqL.of w7.a), fun A2 hA2 => ?_⟩
    have k1 := Evl.Ex.new (o := .lst ((uw.take i).map V.str)) hA2
    have q1 : upd H7' A2 (.lst ((uw.take i).map V.str)) A2 = some (.lst ((uw.take i).map V.str)) := upd_same
    generalize upd H7' A2 (.lst ((uw.take i).map V.str)) = K4 at k1 q1 ⊢
    refine ⟨_, rfl, (by show 3 ≤ sizeLine; decide), fun Wd hWd => ?_⟩
    have k2 := Evl.Ex.new (o := .lst [.ref pn, .ref A2, .ref L]) hWd
    have q2 : upd K4 Wd (.lst [.ref pn, .ref A2, .ref L]) Wd = some (.lst [.ref pn, .ref A2, .ref L]) := upd_same
    generalize upd K4 Wd (.lst [.ref pn, .ref A2, .ref L]) = K5 at k2 q2 ⊢
    refine ⟨(by show 1 ≤ sizeLine; decide), fun r hr0 => ?_⟩
    have k3 := Evl.Ex.new (o := .lst [.int 7]) hr0
    have q3 : upd K5 r (.lst [.int 7]) r = some (.lst [.int 7]) := upd_same
    generalize upd K5 r (.lst [.int 7]) = K6 at k3 q3 ⊢
    have k12 := k1.trans k2
    have hr7 := Evl.fresh_back k12 hr0
    have k13 := k12.trans k3
    have w8 := w7.ex k13
    refine ⟨b, Wd, r, 3, 3, 3, _, 7, ns, uw.take i, lb, rfl, by decide, by decide, w8.B, q3, by omega, ⟨pn, A2, L, k3 _ _ q2, hna w8, (k2.trans k3) _ _ q1, w8.l⟩, hwo, hok, fun body pb H8 c8 m8 g8 B8 hr8 hm8 hc8 hR8 hO8 hn8 => ?_⟩
    have w9 := (w7.go (((go k13).trans g8).swap hr7) (B8.mono (show c8 ≤ c + 400 + 21020 * i + 21001 by omega)))
    clear hr8 g8 B8 w8 k13 hr7 k12 k3 q3 k2 q2 k1 q1 hA2 hWd hr0
    refine ⟨fun σ H' => ∃ (body : List Sm) (pb : Addr), σ = [some (.ref b), some (.ref q), some (.int (many : Int)), some (.ref W), some (.ref pn), some (.ref A), some (.ref U), some (.ref L), some (.str un), some (.ref pb), none] ∧ UW K H4 H' b (c + 400 + 21020 * i + 21003) A U L S (uw.take i) lb uw units us ∧ RepB K H' body pb ∧ OkL (wds ns) (szf ns) (uw.take i) 3 3 body ∧ cntL body ≤ 8, ?_, ?_⟩
    · refine ⟨_, rfl, Nat.zero_le _, fun q5 hq5 => ?_⟩
      have eq := Evl.Ex.new (o := .lst []) hq5
      have w10 := w9.ex eq
      have hR9 := hR8.mono eq
      have dv : ∀ v ∈ (uw.take i).map V.str, DV K (upd H8 q5 (.lst [])) v := fun v hv => by
        obtain ⟨y, hy, rfl⟩ := List.mem_map.mp hv
        exact DV.word (hwo.aw y hy)
      obtain ⟨ds, d1, d2, d3, d4⟩ := DV.all dv
      refine ⟨.list ds, .list [], .lst (SqL.of w10.a) d1, .lst (SqL.of upd_same) .nil, shaped_list d2 (by omega), shaped_list (by simp [PyData.canLayAll0]) (by simp [PyData.depthAll]), _, rfl, ?_⟩
      rw [eqv_empty]
      generalize upd H8 q5 (.lst []) = H9 at *
      clear hR8 w9
      cases hz0 : ds.isEmpty with
      | true => exact ⟨body, pb, rfl, w10.mono (by omega), hR9, hO8, by omega⟩
      | false =>
        have hpos : 0 < (uw.take i).length := by
          rw [List.length_map] at d4
          cases ds with
          | nil => cases hz0
          | cons a r => simp at d4; omega
        refine iteT ?_
        refine ⟨_, rfl, b, _, 2, rfl, w10.B, by omega, by decide, by decide, fun r5 H10 hr5 g10 B10 => ?_⟩
        have w11 := w10.go g10 B10
        have hR10 := hR9.kt g10.kt
        refine ⟨rfl, _, rfl, ?_⟩
        refine ite2 (fun c1 => ?_) (fun c1 => ?_)
        · refine ⟨_, rfl, _, rfl, _, rfl, _, rfl, A, _, rfl, .inl (SqL.of w11.a), b, _, _, rfl, w11.B, by omega, by rw [List.length_map]; omega, by rw [List.length_map]; omega, fun r6 H11 hr6 g11 B11 => ?_⟩
          rw [List.length_map] at hr6
          have hrz : r6 < (uw.take i).length := by omega
          have w12 := w11.go g11 B11
          have hR11 := hR10.kt g11.kt
          refine ⟨A, _, _, .str (uw.take i)[r6], rfl, rfl, SqL.of w12.a, atI_nat (by rw [List.getElem?_map, List.getElem?_eq_getElem hrz]; rfl), (by show 2 ≤ sizeLine; decide), fun t1 ht1 => ?_⟩
          have m1 := Evl.Ex.new (o := .tup [.str "call", .str (uw.take i)[r6]]) ht1
          have s1 : SqT K (upd H11 t1 (.tup [.str "call", .str (uw.take i)[r6]])) t1 [.str "call", .str (uw.take i)[r6]] := SqT.of upd_same
          generalize upd H11 t1 (.tup [.str "call", .str (uw.take i)[r6]]) = M1 at m1 s1 ⊢
          refine ⟨(by show 1 ≤ sizeLine; decide), fun t2 ht2 => ?_⟩
          have m2 := Evl.Ex.new (o := .tup [.ref t1]) ht2
          have s2 : SqT K (upd M1 t2 (.tup [.ref t1])) t2 [.ref t1] := SqT.of upd_same
          generalize upd M1 t2 (.tup [.ref t1]) = M2 at m2 s2 ⊢
          have m12 := m1.trans m2
          have w13 := w12.ex m12
          have hst : RepS K M2 (.cal (uw.take i)[r6]) (.ref t1) := by
            simp only [RepS]
            exact ⟨t1, rfl, Evl.ex_t m2 s1⟩
          have hOs : OkS (wds ns) (szf ns) (uw.take i) 3 3 (.cal (uw.take i)[r6]) := by
            have : (uw.take i)[r6] ∈ uw.take i ∧ WordOk (uw.take i)[r6] := ⟨List.getElem_mem hrz, hwo.aw _ (List.getElem_mem hrz)⟩
            simpa only [OkS] using this
          obtain ⟨us5, hus, hLus⟩ := hR11.mono m12
          have hul5 := hLus.length
          have hcl := cntL_len body
          have hOb : OkL (wds ns) (szf ns) (uw.take i) 3 3 (body ++ [.cal (uw.take i)[r6]]) := OkL.of fun s hs => by
            rcases List.mem_append.mp hs with hs | hs
            · exact hO8.get hs
            · cases (List.mem_singleton.mp hs); exact hOs
          have hcb : cntL (body ++ [.cal (uw.take i)[r6]]) ≤ 8 := by
            rw [cntL_app]
            simp only [cntL, cntS]
            omega
          refine ⟨pb, t2, us5, [.ref t1], rfl, rfl, hus, s2, Nat.le_trans (show us5.length + 1 ≤ 100 by omega) (by decide), fun hu0 => ?_, fun _ z => absurd z (by simp), fun _ _ p hp => ?_⟩
          · refine ⟨_, t2, rfl, w13.mono (by omega), ⟨[.ref t1], s2, ?_⟩, hOb, hcb⟩
            subst hu0
            have : body = [] := List.length_eq_zero_iff.mp (by simpa using hul5.symm)
            rw [this]
            exact RepL.one hst
          · have eP := Evl.Ex.new (o := .tup (us5 ++ [.ref t1])) hp
            exact ⟨_, p, rfl, (w13.ex eP).mono (by omega), ⟨us5 ++ [.ref t1], SqT.of upd_same, (hLus.app (RepL.one hst)).mono eP⟩, hOb, hcb⟩
        · exact ⟨body, pb, rfl, w11.mono (by omega), hR10, hO8, by omega⟩
    clear hR8 hO8 hn8 hm8 hc8 w9 w7
    rintro σ H8 ⟨body, pb, rfl, w9, hR9, hO9, hc9⟩
    refine ⟨fun σ H' => ∃ (body : List Sm) (pb : Addr), σ = [some (.ref b), some (.ref q), some (.int (many : Int)), some (.ref W), some (.ref pn), some (.ref A), some (.ref U), some (.ref L), some (.str un), some (.ref pb), none] ∧ UW K H4 H' b (c + 400 + 21020 * i + 21010) A U L S (uw.take i) lb uw units us ∧ RepB K H' body pb ∧ OkL (wds ns) (szf ns) (uw.take i) 3 3 body ∧ cntL body ≤ 8 + (if i + 1 = many then 5 else 0), ?_, ?_⟩
    · refine ⟨_, rfl, U, _, rfl, .inl (SqL.of w9.u), _, rfl, _, _, rfl, rfl, rfl, _, rfl, ?_⟩
      refine ite2 (fun c1 => ?_) (fun c1 => ?_)
      · have him : i + 1 = many := by
          have := V.int.inj (of_decide_eq_true c1)
          rw [List.length_map] at this
          omega
        refine ⟨_, rfl, b, _, 2, rfl, w9.B, by omega, by decide, by decide, fun r5 H10 hr5 g10 B10 => ?_⟩
        have w11 := w9.go g10 B10
        have hR10 := hR9.kt g10.kt
        refine ⟨rfl, _, rfl, ?_⟩
        refine ite2 (fun c2 => ?_) (fun c2 => ?_)
        · refine ⟨_, rfl, _, rfl, _, rfl, _, rfl, b, pn, L, _, ns, lb, rfl, w11.B, by omega, hna w11, hok, w11.l, l3, lnd, lbw, fun s u H11 g11 B11 hRs hOs hcs => ?_⟩
          have w12 := w11.go g11 B11
          have hR11 := hR10.kt g11.kt
          refine ⟨(by show 1 ≤ sizeLine; decide), fun t2 ht2 => ?_⟩
          have m2 := Evl.Ex.new (o := .tup [u]) ht2
          have s2 : SqT K (upd H11 t2 (.tup [u])) t2 [u] := SqT.of upd_same
          generalize upd H11 t2 (.tup [u]) = M2 at m2 s2 ⊢
          have w13 := w12.ex m2
          have hst := hRs.mono m2
          obtain ⟨us5, hus, hLus⟩ := hR11.mono m2
          have hul5 := hLus.length
          have hcl := cntL_len body
          have hOb : OkL (wds ns) (szf ns) (uw.take i) 3 3 (body ++ [s]) := OkL.of fun y hs => by
            rcases List.mem_append.mp hs with hs | hs
            · exact hO9.get hs
            · cases (List.mem_singleton.mp hs); exact hOs _
          have hcb : cntL (body ++ [s]) ≤ 8 + (if i + 1 = many then 5 else 0) := by
            rw [cntL_app, if_pos him]
            simp only [cntL, hcs]
            omega
          refine ⟨pb, t2, us5, [u], rfl, rfl, hus, s2, Nat.le_trans (show us5.length + 1 ≤ 100 by omega) (by decide), fun hu0 => ?_, fun _ z => absurd z (by simp), fun _ _ p hp => ?_⟩
          · refine ⟨_, t2, rfl, w13.mono (by omega), ⟨[u], s2, ?_⟩, hOb, hcb⟩
            subst hu0
            have : body = [] := List.length_eq_zero_iff.mp (by simpa using hul5.symm)
            rw [this]
            exact RepL.one hst
          · have eP := Evl.Ex.new (o := .tup (us5 ++ [u])) hp
            exact ⟨_, p, rfl, (w13.ex eP).mono (by omega), ⟨us5 ++ [u], SqT.of upd_same, (hLus.app (RepL.one hst)).mono eP⟩, hOb, hcb⟩
        · exact ⟨body, pb, rfl, w11.mono (by omega), hR10, hO9, by omega⟩
      · exact ⟨body, pb, rfl, w9.mono (by omega), hR9, hO9, by omega⟩
    clear hR9 hO9 hc9 w9
    rintro σ H8 ⟨body, pb, rfl, w9, hR9, hO9, hc9⟩
    refine ⟨_, rfl, .inl ⟨rfl, _, SqL.of w9.u⟩, _, rfl, _, rfl, (by show 2 ≤ sizeLine; decide), fun t3 ht3 => ?_⟩
    have m3 := Evl.Ex.new (o := .tup [.str un, .ref pb]) ht3
    have s3 : SqT K (upd H8 t3 (.tup [.str un, .ref pb])) t3 [.str un, .ref pb] := SqT.of upd_same
    generalize upd H8 t3 (.tup [.str un, .ref pb]) = M3 at m3 s3 ⊢
    have w10 := w9.ex m3
    have hR10 := hR9.mono m3
    refine ⟨U, _, _, rfl, rfl, w10.u, Nat.lt_of_le_of_lt (show (us.map V.ref).length ≤ 100 by rw [List.length_map]; omega) (by decide), ?_⟩
    have k4 : Kt M3 (upd M3 U (.lst (us.map V.ref ++ [V.ref t3]))) := Kt.upd w10.u rfl
    have a4 : upd M3 U (.lst (us.map V.ref ++ [V.ref t3])) A = some (.lst ((uw.take i).map V.str)) := by rw [upd_ne nAU]; exact w10.a
    have u4 : upd M3 U (.lst (us.map V.ref ++ [V.ref t3])) U = some (.lst ((us ++ [t3]).map V.ref)) := by rw [upd_same]; simp
    have l4 : upd M3 U (.lst (us.map V.ref ++ [V.ref t3])) L = some (.lst (lb.map V.str)) := by rw [upd_ne nLU.symm]; exact w10.l
    have s4 : upd M3 U (.lst (us.map V.ref ++ [V.ref t3])) S = some (.lst (uw.map V.str)) := by rw [upd_ne nSU.symm]; exact w10.s
    have g4' : Go [b] H4 (upd M3 U (.lst (us.map V.ref ++ [V.ref t3]))) := w10.g.app hU4
    have B4' : Box (upd M3 U (.lst (us.map V.ref ++ [V.ref t3]))) b (c + 400 + 21020 * i + 21010) := by
      obtain ⟨gg, ff, ss, kk, h1, h2⟩ := w10.B
      exact ⟨gg, ff, ss, kk, by rw [upd_ne nUb.symm]; exact h1, h2⟩
    have r4 : RepUs K (upd M3 U (.lst (us.map V.ref ++ [V.ref t3]))) (units ++ [(un, body)]) ((us ++ [t3]).map V.ref) := by
      rw [List.map_append]
      exact rep_app ⟨t3, pb, rfl, kt_t k4 s3, hR10.kt k4⟩ (rep_kt k4 w10.r)
    generalize upd M3 U (.lst (us.map V.ref ++ [V.ref t3])) = M4 at a4 u4 l4 s4 g4' B4' r4 ⊢
    refine ⟨_, rfl, .inl ⟨rfl, _, SqL.of a4⟩, _, rfl, A, _, _, rfl, rfl, a4, Nat.lt_of_le_of_lt (show ((uw.take i).map V.str).length ≤ 100 by rw [List.length_map]; omega) (by decide), ?_⟩
    have k5 : Kt M4 (upd M4 A (.lst ((uw.take i).map V.str ++ [V.str un]))) := Kt.upd a4 rfl
    have etk : (uw.take i) ++ [un] = uw.take (i + 1) := by rw [List.take_add_one, hun]; rfl
    refine ⟨units ++ [(un, body)], us ++ [t3], _, _, rfl, ⟨g4'.app hA, ?_, ?_, by rw [upd_ne nAU.symm]; exact u4, by rw [upd_ne nLA.symm]; exact l4, by rw [upd_ne nSA.symm]; exact s4, rep_kt k5 r4, nUb⟩, ?_, ?_, ?_⟩
    · obtain ⟨gg, ff, ss, kk, h1, h2⟩ := B4'.mono (show _ ≤ c + 400 + 21020 * (i + 1) by omega)
      exact ⟨gg, ff, ss, kk, by rw [upd_ne nAb.symm]; exact h1, h2⟩
    · rw [upd_same, ← etk]; simp
    · rw [List.map_append, hfst]; exact etk
    · intro j u hj
      by_cases hji : j < units.length
      · rw [List.getElem?_append_left hji] at hj
        rw [List.take_append_of_le_length (by omega)]
        exact hUs j u hj
      · rw [List.getElem?_append_right (by omega)] at hj
        have : j - units.length = 0 := by
          rcases Nat.eq_zero_or_pos (j - units.length) with h | h
          · exact h
          · rw [List.getElem?_eq_none (by simp; omega)] at hj; cases hj
        rw [this] at hj
        cases hj
        rw [show j = units.length by omega, List.take_append_of_le_length (Nat.le_refl _), List.take_length, hfst]
        exact ⟨hunok, OkL.mono hO9 (by omega) (by omega), by show cntL body ≤ 20; split at hc9 <;> omega⟩
    · rw [List.map_append, List.sum_append]
      simp only [List.map_cons, List.map_nil, List.sum_cons, List.sum_nil]
      omega
  rintro σ H7 ⟨units, us, x8, x9, rfl, w7, hfst, hUs, hsum⟩
  rw [List.length_map, uwl] at hfst hsum w7
  rw [← uwl, List.take_length] at hfst
  have hnl : units.length = many := by rw [← List.length_map (f := Prod.fst), hfst]; exact uwl
  refine ⟨_, rfl, _, rfl, U, _, rfl, .inl ⟨SqL.of w7.u, fun pu ou hpu hou => ?_⟩⟩
  have e8 := Evl.Ex.new (o := .frz ou (.tup (us.map V.ref))) hpu
  have s8 : upd H7 pu (.frz ou (.tup (us.map V.ref))) pu = some (.frz ou (.tup (us.map V.ref))) := upd_same
  generalize upd H7 pu (.frz ou (.tup (us.map V.ref))) = H8 at e8 s8 ⊢
  refine ⟨(by show 2 ≤ sizeLine; decide), fun a ha => ?_⟩
  have e9 := Evl.Ex.new (o := .tup [.ref pn, .ref pu]) ha
  have e89 := e8.trans e9
  have hnp4 := w7.g _ _ hp4 (.inl rfl)
  have hne : units ≠ [] := fun z => by rw [z] at hnl; simp at hnl; omega
  refine hQ a ns units units.dropLast (units.getLast hne).1 (units.getLast hne).2 _ ((g4'.trans w7.g).trans (go e89)) ((w7.B.ex e89).mono (by omega)) ⟨pn, pu, o, ou, ts, us, SqT.of upd_same, e89 _ _ hnp4, ho, (T4.kt w7.g.kt).mono e89, e9 _ _ s8, hou, rep_kt (kt e89) w7.r⟩ ⟨hok, hUs, by omega, by omega, ?_, ?_⟩ (List.dropLast_concat_getLast hne).symm
  · rw [if_pos rfl] at hsum; omega
  · rw [hfst, ewd]; exact wnd

end
end K14
namespace K14
open PySem PySem.Spec PyProof.Rows L2 C8

theorem prodN_drop {sz : List Nat} {i s : Nat} (h : sz[i]? = some s) : prodN (sz.drop i) = s * prodN (sz.drop (i + 1)) := by
  rw [drop_one h]
  rfl
theorem nodup_ix {α : Type} {l : List α} (nd : l.Nodup) {i j : Nat} {a : α} (h1 : l[i]? = some a) (h2 : l[j]? = some a) : i = j := by
  obtain ⟨l1, q1⟩ := List.getElem?_eq_some_iff.mp h1
  obtain ⟨l2, q2⟩ := List.getElem?_eq_some_iff.mp h2
  rcases Nat.lt_trichotomy i j with h | h | h
  · exact absurd (q1.trans q2.symm) (List.pairwise_iff_getElem.mp nd i j l1 l2 h)
  · exact h
  · exact absurd (q2.trans q1.symm) (List.pairwise_iff_getElem.mp nd j i l2 l1 h)
section
variable {P : Program} {w : World} {K : PySem.W.Frag} {mg : Str → Option Value} {base : Heap} {k n : Nat}
abbrev N_l_many : List Str := ["system", "many", "name", "size"]
theorem sc_l_many : FnScope N_l_many ["system"] (defScope (top 87)) := ⟨rfl, rfl, rfl, by decide +kernel, rfl, by decide +kernel, by decide +kernel⟩
def spMany (K : PySem.W.Frag) : Sp := fun vs H Q _ => ∃ (a : Addr) (ns : NS) (units : US), vs = [.ref a] ∧ SysAt K H a ns units ∧ NsOk ns ∧ Q (.int ((prodN (szs ns) : Nat) : Int)) H
theorem ok_l_many (T : Txt K mg)  : Cal P w K mg base 1 "_law_many" (spMany K) [] := by
  obtain ⟨fd, F⟩ := T.d__law_many
  refine ⟨_, fd, ["system"], [], ?_, T.g__law_many, F.kp, F.bindsN fun _ _ _ _ _ _ us hl => match us, hl with | [_], _ => rfl, .nil⟩
  refine F.ok sc_l_many (fun vs H Q E h => by obtain ⟨_, _, _, rfl, _⟩ := h; rfl) (fun cdv A outer s H vs Q E hr h => ?_)
  have hu := hu_of hr
  refine ⟨_, PSs.nox (pss_cons (ps_set (i := 1) sc_l_many.nd rfl (Or.inl rfl) pe_int)
      (pss_cons (ps_for PassesOwn.never rfl (pi_tup (pe_ix ix_tup (pv 0) pe_int (fun _ _ => rfl))) (pg_tup (by rfl) (pgs_cons (pg_name (i := 2) sc_l_many.nd rfl (Or.inl rfl)) (pgs_cons (pg_name (i := 3) sc_l_many.nd rfl (Or.inl rfl)) pgs_nil))) (pss_one (ps_set (i := 1) sc_l_many.nd rfl (Or.inl rfl) (pe_op op_mul (pv 1) (pv 3)))))
      (pss_one (ps_ret (pv 1))))), ?_⟩
  obtain ⟨a, ns, units, rfl, hS, hok, hQ⟩ := h
  obtain ⟨pn, pu, o, ou, ps, us, ha, hpn, ho, hT, hpu, hou, hR⟩ := hS.ex
  have hl := hT.length
  have hp : SqT K H pn (ps.map V.ref) := .inl (.inr ⟨o, hpn⟩)
  refine ⟨_, rfl, a, _, 0, _, rfl, rfl, ha, rfl, pn, rfl, ⟨_, hp⟩, ?_⟩
  refine for_it (walk_tup (xs := ps.map V.ref)) (fun i σ H' => H' = H ∧ ∃ x2 x3, σ = [some (.ref a), some (.int ((prodN ((szs ns).take i) : Nat) : Int)), x2, x3]) ⟨rfl, none, none, rfl⟩ (fun i σ H' _ z => by rw [z.1]; exact hp) ?_ ?_
  · rintro i x σ H1 H1' hi ⟨rfl, x2, x3, rfl⟩ ⟨rfl, hx⟩
    obtain ⟨p, rfl, hp2⟩ := refs_get hx
    obtain ⟨n, hn, hpn2⟩ := hT.get hp2
    have hs := sz_at hn
    have f1 := prod_few _ hok.sz i
    have f2 := hok.size (List.mem_of_getElem? hn)
    refine ⟨p, nV n, rfl, SqT.of hpn2, rfl, _, _, rfl, _, _, rfl, rfl, ?_⟩
    refine ⟨_, rfl, _, rfl, _, _, rfl, rfl, .inl ⟨by omega, by omega⟩, rfl, some (.str n.1), some (.int (n.2 : Int)), ?_⟩
    rw [prodN_take _ _ _ hs, Int.natCast_mul]
    rfl
  · rintro σ H1 ⟨rfl, x2, x3, rfl⟩
    refine ⟨_, rfl, ?_⟩
    rw [List.take_of_length_le (by simp [szs, hl])]
    exact hQ

abbrev N_l_values : List Str := ["system", "store", "found", "left", "name", "size"]
theorem sc_l_values : FnScope N_l_values ["system", "store"] (defScope (top 88)) := ⟨rfl, rfl, rfl, by decide +kernel, rfl, by decide +kernel, by decide +kernel⟩
def spValues (K : PySem.W.Frag) : Sp := fun vs H Q _ => ∃ (a : Addr) (ns : NS) (units : US) (st : Nat), vs = [.ref a, .int (st : Int)] ∧ SysAt K H a ns units ∧ NsOk ns ∧ st < prodN (szs ns) ∧ ∀ d H', H d = none → Ex H H' → Env K H' d (wds ns) (envN ns st) → Q (.ref d) H'
theorem ok_l_values (T : Txt K mg)  : Cal P w K mg base 1 "_law_values" (spValues K) [] := by
  obtain ⟨fd, F⟩ := T.d__law_values
  refine ⟨_, fd, ["system", "store"], [], ?_, T.g__law_values, F.kp, F.bindsN fun _ _ _ _ _ _ us hl => match us, hl with | [_, _], _ => rfl, .nil⟩
  refine F.ok sc_l_values (fun vs H Q E h => by obtain ⟨_, _, _, _, rfl, _⟩ := h; rfl) (fun cdv A outer s H vs Q E hr h => ?_)
  have hu := hu_of hr
  refine ⟨_, PSs.nox (pss_cons (ps_par (i := 2) (j := 3) (by rfl) sc_l_values.nd rfl rfl (by decide) rfl rfl (pa_cons pe_dnewK (pa_cons (pv 1) pa_nil)) (by rfl))
      (pss_cons (ps_for PassesOwn.never rfl (pi_tup (pe_revT (pe_ix ix_tup (pv 0) pe_int (fun _ _ => rfl)))) (pg_tup (by rfl) (pgs_cons (pg_name (i := 4) sc_l_values.nd rfl (Or.inl rfl)) (pgs_cons (pg_name (i := 5) sc_l_values.nd rfl (Or.inl rfl)) pgs_nil))) (pss_cons (ps_dput hu (pv 2) (pv 4) (pe_op op_mod (pe_callTy call_int1 (by rfl) T.f_int (by decide +kernel) (pa_cons (pv 3) pa_nil)) (pv 5)) rfl)
      (pss_one (ps_set (i := 3) sc_l_values.nd rfl (Or.inl rfl) (pe_op op_fdiv (pv 3) (pv 5))))))
      (pss_one (ps_ret (pv 2))))), ?_⟩
  obtain ⟨a, ns, units, st, rfl, hS, hok, hst, hQ⟩ := h
  obtain ⟨pn, pu, o, ou, ps, us, ha, hpn, ho, hT, hpu, hou, hR⟩ := hS.ex
  have hl := hT.length
  have hn3 := hok.len
  have hp : SqT K H pn (ps.map V.ref) := .inl (.inr ⟨o, hpn⟩)
  have hrl : (row (szs ns) st).length = ns.length := by rw [row_len]; simp [szs]
  have nd : ((kvsOf ns (row (szs ns) st)).map (·.1)).Nodup := by rw [kvs_keys hrl]; exact key_nodup hok.nd
  have hkl := kvs_len hrl
  have ndr : ((kvsOf ns (row (szs ns) st)).reverse.map (·.1)).Nodup := by rw [List.map_reverse]; exact List.pairwise_reverse.mpr (List.Pairwise.imp (fun h => Ne.symm h) nd)
  have hszl : (szs ns).length = ns.length := by simp [szs]
  refine fun d hd => ?_
  have e0 := Evl.Ex.new (o := .dK []) hd
  refine ⟨_, rfl, _, _, rfl, ?_⟩
  refine ⟨_, rfl, a, _, 0, _, rfl, rfl, Evl.ex_t e0 ha, rfl, pn, _, rfl, Evl.ex_t e0 hp, fun pr orv hpr horv => ?_⟩
  have e1 := e0.trans (Evl.Ex.new (o := .frz orv (.tup (ps.map V.ref).reverse)) hpr)
  have hd1 := Evl.Ex.new (o := .frz orv (.tup (ps.map V.ref).reverse)) hpr d _ upd_same
  have hq1 : SqT K (upd (upd H d (.dK [])) pr (.frz orv (.tup (ps.map V.ref).reverse))) pr (ps.map V.ref).reverse := .inl (.inr ⟨orv, upd_same⟩)
  generalize upd (upd H d (.dK [])) pr (.frz orv (.tup (ps.map V.ref).reverse)) = H1 at e1 hd1 hq1 ⊢
  refine ⟨pr, rfl, ⟨_, hq1⟩, ?_⟩
  refine for_it (walk_tup (xs := (ps.map V.ref).reverse)) (fun i σ H' => Kt H1 H' ∧ Ex H H' ∧ H' d = some (.dK ((kvsOf ns (row (szs ns) st)).reverse.take i)) ∧ ∃ x4 x5, σ = [some (.ref a), some (.int (st : Int)), some (.ref d), some (.int ((st / prodN ((szs ns).drop (ns.length - i)) : Nat) : Int)), x4, x5])
    ⟨Kt.refl _, e1, hd1, none, none, ?_⟩ (fun i σ H' _ z => kt_t z.1 hq1) ?_ ?_
  · rw [Nat.sub_zero, ← hszl, List.drop_length]
    show [_, _, _, some (V.int (st : Int)), _, _] = [_, _, _, some (V.int ((st / 1 : Nat) : Int)), _, _]
    rw [Nat.div_one]
  · rintro i y σ H2 H2' hi ⟨k2, e2, hd2, x4, x5, rfl⟩ ⟨rfl, hy⟩
    have hi' : i < ns.length := by simpa [hl] using hi
    rw [List.getElem?_reverse (by simpa [hl] using hi'), List.length_map] at hy
    obtain ⟨p, rfl, hp2⟩ := refs_get hy
    obtain ⟨n, hn, hpn2⟩ := hT.get hp2
    rw [hl] at hn
    have ej : ns.length - 1 - i + 1 = ns.length - i := by omega
    have hs := sz_at hn
    have hsz := hok.size (List.mem_of_getElem? hn)
    have dr := prodN_drop hs
    rw [ej] at dr
    have hkv : (kvsOf ns (row (szs ns) st))[ns.length - 1 - i]? = some (.inr n.1, .int ((st / prodN ((szs ns).drop (ns.length - i)) % n.2 : Nat) : Int)) := by
      have := kvs_at hn (dig_at (k := st) hs)
      rw [ej] at this
      exact this
    have hkr : (kvsOf ns (row (szs ns) st)).reverse[i]? = some (.inr n.1, .int ((st / prodN ((szs ns).drop (ns.length - i)) % n.2 : Nat) : Int)) := by
      rw [List.getElem?_reverse (by omega), hkl]
      exact hkv
    refine ⟨p, nV n, rfl, SqT.of (e2 p _ hpn2), rfl, _, _, rfl, _, _, rfl, rfl, ?_⟩
    refine ⟨_, rfl, .inl ⟨_, rfl, _, rfl, _, _, rfl, rfl, by omega, _, rfl, _, rfl, d, _, rfl, DPut.k (k := .inr n.1) hd2 ?_, ?_⟩⟩
    · rw [List.length_take]
      exact Nat.lt_of_le_of_lt (show _ ≤ 3 by omega) (by decide)
    refine ⟨_, rfl, _, rfl, _, _, rfl, rfl, ⟨by omega, by omega⟩, ?_⟩
    refine ⟨k2.trans (Kt.upd hd2 rfl), Evl.Ex.mut e2 hd, ?_, some (.str n.1), some (.int (n.2 : Int)), ?_⟩
    · rw [upd_same]
      show some (HO.dK (putK _ (.inr n.1) (.int (((st / prodN ((szs ns).drop (ns.length - i)) : Nat) : Int) % (n.2 : Int))))) = _
      rw [← Int.natCast_emod, put_take ndr hkr]
    · show [_, _, _, some (V.int (((st / prodN ((szs ns).drop (ns.length - i)) : Nat) : Int) / (n.2 : Int))), _, _] = _
      rw [← Int.natCast_ediv, Nat.div_div_eq_div_mul]
      have e3 : ns.length - (i + 1) = ns.length - 1 - i := by omega
      rw [e3, dr, Nat.mul_comm]
  · rintro σ H2 ⟨k2, e2, hd2, x4, x5, rfl⟩
    refine ⟨_, rfl, hQ d H2 hd e2 ⟨⟨_, hd2, fun z hz => ?_⟩, (env_ok (K := K) (H := upd H d (.dK (kvsOf ns (row (szs ns) st)))) hok upd_same).bd⟩⟩
    obtain ⟨n, hn, rfl⟩ := ix_at hz
    obtain ⟨v, hv, hlt⟩ := row_val hok (k := st) hn
    have e : envN ns st n.1 = (v : Int) := by
      unfold envN
      rw [List.getD_eq_getElem?_getD, hv]; rfl
    rw [e]
    have hi := (List.getElem?_eq_some_iff.mp hn).1
    rw [List.take_of_length_le (by simp only [List.length_reverse, List.length_map]; omega)]
    refine valV_at ndr (i := ns.length - 1 - ixN' ns n.1) ?_
    rw [List.getElem?_reverse (by omega), hkl]
    have : ns.length - 1 - (ns.length - 1 - ixN' ns n.1) = ixN' ns n.1 := by omega
    rw [this]
    exact kvs_at hn hv

abbrev N_l_set : List Str := ["system", "store", "name", "number", "found", "values", "one", "size"]
theorem sc_l_set : FnScope N_l_set ["system", "store", "name", "number"] (defScope (top 89)) := ⟨rfl, rfl, rfl, by decide +kernel, rfl, by decide +kernel, by decide +kernel⟩
def spSet (K : PySem.W.Frag) : Sp := fun vs H Q _ => ∃ (a : Addr) (ns : NS) (units : US) (st : Nat) (x : Str) (v : Int), vs = [.ref a, .int (st : Int), .str x, .int v] ∧ SysAt K H a ns units ∧ NsOk ns ∧ st < prodN (szs ns) ∧ x ∈ wds ns ∧ ∀ H', Ex H H' → Q (.int ((setN ns st x v : Nat) : Int)) H'
theorem ok_l_set (T : Txt K mg) (C_l_values : Cal P w K mg base 1 "_law_values" (spValues K) []) : Cal P w K mg base 2 "_law_set" (spSet K) [] := by
  obtain ⟨fd, F⟩ := T.d__law_set
  refine ⟨_, fd, ["system", "store", "name", "number"], [], ?_, T.g__law_set, F.kp, F.bindsN fun _ _ _ _ _ _ us hl => match us, hl with | [_, _, _, _], _ => rfl, .nil⟩
  refine F.ok sc_l_set (fun vs H Q E h => by obtain ⟨_, _, _, _, _, _, rfl, _⟩ := h; rfl) (fun cdv A outer s H vs Q E hr h => ?_)
  have hu := hu_of hr
  refine ⟨_, PSs.nox (pss_cons (ps_par (i := 4) (j := 5) (by rfl) sc_l_set.nd rfl rfl (by decide) rfl rfl (pa_cons pe_int (pa_cons (pe_c C_l_values hr (by omega) rfl (pa_cons (pv 0) (pa_cons (pv 1) pa_nil))) pa_nil)) (by rfl))
      (pss_cons (ps_for PassesOwn.never rfl (pi_tup (pe_ix ix_tup (pv 0) pe_int (fun _ _ => rfl))) (pg_tup (by rfl) (pgs_cons (pg_name (i := 6) sc_l_set.nd rfl (Or.inl rfl)) (pgs_cons (pg_name (i := 7) sc_l_set.nd rfl (Or.inl rfl)) pgs_nil))) (pss_one (ps_set (i := 4) sc_l_set.nd rfl (Or.inl rfl) (pe_op op_add (pe_op op_mul (pv 4) (pv 7)) (pe_ifExp (pt_cmpR op_eq (pv 6) (pv 2) (nomark _)) (pe_op op_mod (pe_callTy call_int1 (by rfl) T.f_int (by decide +kernel) (pa_cons (pv 3) pa_nil)) (pv 7)) (pe_dget hu (pv 5) (pv 6) (fun _ _ => rfl)))))))
      (pss_one (ps_ret (pv 4))))), ?_⟩
  obtain ⟨a, ns, units, st, x, v, rfl, hS, hok, hst, hx, hQ⟩ := h
  refine ⟨_, rfl, _, rfl, a, ns, units, st, rfl, hS, hok, hst, fun d H1 hd0 e1 hE => ?_⟩
  obtain ⟨pn, pu, o, ou, ps, us, ha, hpn, ho, hT, hpu, hou, hR⟩ := hS.ex
  have hl := hT.length
  have hn3 := hok.len
  have hp : SqT K H pn (ps.map V.ref) := .inl (.inr ⟨o, hpn⟩)
  obtain ⟨n0, hn0, rfl⟩ := ix_at hx
  have hszl : (szs ns).length = ns.length := by simp [szs]
  have hrl : (row (szs ns) st).length = (szs ns).length := row_len _ _
  have s0 := hok.size (List.mem_of_getElem? hn0)
  have v0 : 0 ≤ v % (n0.2 : Int) := Int.emod_nonneg _ (by omega)
  have v1 : v % (n0.2 : Int) < n0.2 := Int.emod_lt_of_pos _ (by omega)
  have rl : ((row (szs ns) st).set (ixN' ns n0.1) (v % (n0.2 : Int)).toNat).length = (szs ns).length := by rw [List.length_set]; exact hrl
  have rat : ∀ (i : Nat) n, ns[i]? = some n → ((row (szs ns) st).set (ixN' ns n0.1) (v % (n0.2 : Int)).toNat)[i]? = some (if n.1 = n0.1 then (v % (n0.2 : Int)).toNat else (envN ns st n.1).toNat) ∧ (if n.1 = n0.1 then (v % (n0.2 : Int)).toNat else (envN ns st n.1).toNat) < n.2 := fun i n hn => by
    have hi := (List.getElem?_eq_some_iff.mp hn).1
    by_cases e : n.1 = n0.1
    · have ei : ixN' ns n0.1 = i := by
        obtain ⟨n', hn', e'⟩ := ix_at (mem_wds hn)
        have h0 : (wds ns)[ixN' ns n0.1]? = some n0.1 := wds_at hn0
        have h1 : (wds ns)[i]? = some n0.1 := by rw [← e]; exact wds_at hn
        exact nodup_ix hok.nd h0 h1
      have en : n = n0 := by
        rw [ei, hn] at hn0
        exact Option.some.inj hn0
      rw [if_pos e, ei, List.getElem?_set_self (by omega)]
      subst en
      exact ⟨rfl, by omega⟩
    · have ei : ixN' ns n0.1 ≠ i := fun z => e (by
        rw [z, hn] at hn0
        rw [Option.some.inj hn0])
      obtain ⟨v', hv', hlt⟩ := row_val hok (k := st) hn
      have ev : envN ns st n.1 = (v' : Int) := by
        obtain ⟨n', hn', e'⟩ := ix_at (mem_wds hn)
        have h0 : (wds ns)[ixN' ns n.1]? = some n'.1 := wds_at hn'
        rw [e'] at h0
        have : ixN' ns n.1 = i := nodup_ix hok.nd h0 (wds_at hn)
        unfold envN
        rw [this, List.getD_eq_getElem?_getD, hv']; rfl
      rw [if_neg e, List.getElem?_set_ne ei, hv', ev]
      exact ⟨rfl, by simpa using hlt⟩
  refine ⟨_, _, rfl, ?_⟩
  refine ⟨_, rfl, a, _, 0, _, rfl, rfl, Evl.ex_t e1 ha, rfl, pn, rfl, ⟨_, Evl.ex_t e1 hp⟩, ?_⟩
  refine for_it (walk_tup (xs := ps.map V.ref)) (fun i σ H' => H' = H1 ∧ ∃ x6 x7, σ = [some (.ref a), some (.int (st : Int)), some (.str n0.1), some (.int v), some (.int ((foldN (szs ns) ((row (szs ns) st).set (ixN' ns n0.1) (v % (n0.2 : Int)).toNat) i : Nat) : Int)), some (.ref d), x6, x7]) ⟨rfl, none, none, rfl⟩ (fun i σ H' _ z => by rw [z.1]; exact Evl.ex_t e1 hp) ?_ ?_
  · rintro i y σ H2 H2' hi ⟨rfl, x6, x7, rfl⟩ ⟨rfl, hy⟩
    obtain ⟨p, rfl, hp2⟩ := refs_get hy
    obtain ⟨n, hn, hpn2⟩ := hT.get hp2
    have hs := sz_at hn
    have hsz := hok.size (List.mem_of_getElem? hn)
    obtain ⟨r1, r2⟩ := rat i n hn
    have fs := foldN_succ hs r1
    have hvs : ∀ (i s v' : Nat), (szs ns)[i]? = some s → ((row (szs ns) st).set (ixN' ns n0.1) (v % (n0.2 : Int)).toNat)[i]? = some v' → v' < s := by
      intro i s v' h1 h2
      unfold szs at h1
      rw [List.getElem?_map] at h1
      cases hni : ns[i]? with
      | none => rw [hni] at h1; cases h1
      | some m =>
        rw [hni] at h1
        cases h1
        obtain ⟨q1, q2⟩ := rat i m hni
        rw [h2] at q1
        cases q1
        exact q2
    have fl := foldN_lt rl hvs i (by have := (List.getElem?_eq_some_iff.mp hs).1; omega)
    have f8 := prod_few _ hok.sz i
    refine ⟨p, nV n, rfl, SqT.of (e1 _ _ hpn2), rfl, _, _, rfl, _, _, rfl, rfl, ?_⟩
    refine ⟨_, rfl, _, rfl, _, _, rfl, rfl, .inl ⟨by omega, by omega⟩, ?_⟩
    refine ⟨_, rfl, _, rfl, rfl, _, rfl, ?_⟩
    refine ite2 (fun c1 => ?_) (fun c1 => ?_)
    · have en : n.1 = n0.1 := V.str.inj (of_decide_eq_true c1)
      have en2 : n = n0 := by
        have h1 := wds_at hn
        rw [en] at h1
        have ei : i = ixN' ns n0.1 := nodup_ix hok.nd h1 (wds_at hn0)
        rw [ei, hn0] at hn
        exact (Option.some.inj hn).symm
      rw [if_pos en] at fs
      subst en2
      refine ⟨_, rfl, .inl ⟨_, rfl, _, rfl, _, _, rfl, rfl, by omega, _, _, rfl, rfl, rfl, some (.str n.1), some (.int (n.2 : Int)), ?_⟩⟩
      rw [fs, Int.natCast_add, Int.natCast_mul, Int.toNat_of_nonneg v0]
      rfl
    · have en : ¬ n.1 = n0.1 := fun z => c1 (decide_eq_true (congrArg V.str z))
      rw [if_neg en] at fs
      have hb := hE.bd n.1 (mem_wds hn)
      refine ⟨_, rfl, _, rfl, d, _, rfl, hE.get (mem_wds hn), _, _, rfl, rfl, rfl, some (.str n.1), some (.int (n.2 : Int)), ?_⟩
      rw [fs, Int.natCast_add, Int.natCast_mul, Int.toNat_of_nonneg hb.1]
      rfl
  · rintro σ H2 ⟨rfl, x6, x7, rfl⟩
    refine ⟨_, rfl, ?_⟩
    have e : foldN (szs ns) ((row (szs ns) st).set (ixN' ns n0.1) (v % (n0.2 : Int)).toNat) (ps.map V.ref).length = setN ns st n0.1 v := by
      rw [List.length_map, hl, ← hszl, foldN_all rl, setN_eq hn0]
      rfl
    rw [e]
    exact hQ _ e1

end
end K14
namespace K14
open PySem PySem.Spec PyProof.Rows L2 C8

/-! ### the law's games -/
structure Lfr where
  f : Addr
  r : Addr
  u : Option Str
  b : List Sm
  vs : List V
def lfV (ls : List Lfr) : List V := ls.map fun x => V.ref x.f
/-- what is under way, the last first -/
def absL (ls : List Lfr) : List Fr := (ls.map fun x => (x.u, x.b)).reverse
theorem absL_snoc (ls : List Lfr) (x : Lfr) : absL (ls ++ [x]) = (x.u, x.b) :: absL ls := by simp [absL]
theorem absL_top {ls : List Lfr} {f : Fr} {r : List Fr} (h : absL ls = f :: r) : ∃ l x, ls = l ++ [x] ∧ (x.u, x.b) = f ∧ absL l = r := by
  cases ls with
  | nil => cases h
  | cons a c =>
    refine ⟨(a :: c).dropLast, (a :: c).getLast (by simp), (List.dropLast_concat_getLast _).symm, ?_⟩
    rw [← List.dropLast_concat_getLast (l := a :: c) (by simp), absL_snoc] at h
    exact List.cons.inj h
theorem absL_nil {ls : List Lfr} (h : absL ls = []) : ls = [] := by
  cases ls with
  | nil => rfl
  | cons a r => have := congrArg List.length h; simp [absL] at this
def own (gl sk ln : Addr) (ls : List Lfr) : List Addr := [gl, sk, ln] ++ (ls.map (·.f) ++ ls.map (·.r))
/-- a game of the law's at gl -/
structure Lg (K : PySem.W.Frag) (Hb H : Hp) (gl sk ln : Addr) (ns : NS) (us : US) (st : Nat) (ls : List Lfr) (lines : List Str) : Prop where
  ex : Ex Hb H
  ob : H gl = some (.lst [.int (st : Int), .ref sk, .ref ln])
  sq : H sk = some (.lst (lfV ls))
  lq : H ln = some (.lst (lines.map V.str))
  nd : (own gl sk ln ls).Nodup
  hb : ∀ a ∈ own gl sk ln ls, Hb a = none
  fr : ∀ x ∈ ls, H x.f = some (.lst [uV x.u, .ref x.r]) ∧ H x.r = some (.lst x.vs.reverse) ∧ RepL K Hb x.b x.vs
  ok : ∀ x ∈ ls, BOk ns us x.b
section
variable {K : PySem.W.Frag} {Hb H H' : Hp} {gl sk ln : Addr} {ns : NS} {us : US} {st : Nat} {ls : List Lfr} {lines : List Str}
theorem own_f {x : Lfr} (h : x ∈ ls) : x.f ∈ own gl sk ln ls := List.mem_append_right _ (List.mem_append_left _ (List.mem_map_of_mem h))
theorem own_r {x : Lfr} (h : x ∈ ls) : x.r ∈ own gl sk ln ls := List.mem_append_right _ (List.mem_append_right _ (List.mem_map_of_mem h))
theorem own_g : gl ∈ own gl sk ln ls := by simp [own]
theorem own_s : sk ∈ own gl sk ln ls := by simp [own]
theorem own_l : ln ∈ own gl sk ln ls := by simp [own]
theorem Lg.there (M : Lg K Hb H gl sk ln ns us st ls lines) {a : Addr} (h : a ∈ own gl sk ln ls) : ∃ o, H a = some o := by
  simp only [own, List.mem_append, List.mem_cons, List.not_mem_nil, or_false, List.mem_map] at h
  rcases h with (rfl | rfl | rfl) | ⟨x, hx, rfl⟩ | ⟨x, hx, rfl⟩
  · exact ⟨_, M.ob⟩
  · exact ⟨_, M.sq⟩
  · exact ⟨_, M.lq⟩
  · exact ⟨_, (M.fr x hx).1⟩
  · exact ⟨_, (M.fr x hx).2.1⟩
theorem Lg.grow (M : Lg K Hb H gl sk ln ns us st ls lines) (e : Ex H H') : Lg K Hb H' gl sk ln ns us st ls lines :=
  ⟨M.ex.trans e, e _ _ M.ob, e _ _ M.sq, e _ _ M.lq, M.nd, M.hb, fun x h => ⟨e _ _ (M.fr x h).1, e _ _ (M.fr x h).2.1, (M.fr x h).2.2⟩, M.ok⟩
/-- more is known -/
theorem Lg.known {H0 : Hp} (M0 : Lg K Hb H0 gl sk ln ns us st ls lines) (M : Lg K Hb H gl sk ln ns us st ls lines) {p : Addr} {o : HO} (h0 : H0 p = none) (h : H p = some o) : Lg K (upd Hb p o) H gl sk ln ns us st ls lines := by
  have e : Ex Hb (upd Hb p o) := Evl.Ex.new (Evl.fresh_back M0.ex h0)
  refine ⟨fun a u ha => ?_, M.ob, M.sq, M.lq, M.nd, fun a ha => ?_, fun x hx => ⟨(M.fr x hx).1, (M.fr x hx).2.1, (M.fr x hx).2.2.mono e⟩, M.ok⟩
  · by_cases z : a = p
    · rw [z, upd_same] at ha
      rw [z, h]
      exact ha
    · rw [upd_ne z] at ha
      exact M.ex a u ha
  · obtain ⟨o', ho'⟩ := M0.there ha
    rw [upd_ne (ne_of_none ho' h0)]
    exact M.hb a ha
theorem Lg.newb (M : Lg K Hb H gl sk ln ns us st ls lines) {p : Addr} {o : HO} (h : H p = none) : Lg K (upd Hb p o) (upd H p o) gl sk ln ns us st ls lines :=
  M.known (M.grow (Evl.Ex.new h)) h upd_same
/-- of two places that are its own the one isn't the other -/
theorem nd_ne {l1 l2 : List Addr} (nd : (l1 ++ l2).Nodup) {a b : Addr} (h1 : a ∈ l1) (h2 : b ∈ l2) : a ≠ b := fun z => (List.nodup_append.mp nd).2.2 a h1 b h2 z
theorem Lg.gs (M : Lg K Hb H gl sk ln ns us st ls lines) : gl ≠ sk ∧ gl ≠ ln ∧ sk ≠ ln := by
  have := (List.nodup_append.mp M.nd).1
  simp only [List.nodup_cons, List.mem_cons, List.not_mem_nil, or_false, not_or, List.nodup_nil, and_true, not_false_eq_true] at this
  exact ⟨this.1.1, this.1.2, this.2⟩
theorem Lg.of3 (M : Lg K Hb H gl sk ln ns us st ls lines) {a : Addr} (ha : a = gl ∨ a = sk ∨ a = ln) {x : Lfr} (hx : x ∈ ls) : x.f ≠ a ∧ x.r ≠ a := by
  have ha' : a ∈ [gl, sk, ln] := by simpa using ha
  exact ⟨(nd_ne M.nd ha' (List.mem_append_left _ (List.mem_map_of_mem hx))).symm, (nd_ne M.nd ha' (List.mem_append_right _ (List.mem_map_of_mem hx))).symm⟩
/-- the store anew -/
theorem Lg.store (M : Lg K Hb H gl sk ln ns us st ls lines) (st' : Nat) : Lg K Hb (upd H gl (.lst [.int (st' : Int), .ref sk, .ref ln])) gl sk ln ns us st' ls lines :=
  ⟨Evl.Ex.mut M.ex (M.hb _ own_g), upd_same, by rw [upd_ne M.gs.1.symm]; exact M.sq, by rw [upd_ne M.gs.2.1.symm]; exact M.lq, M.nd, M.hb,
    fun x hx => ⟨by rw [upd_ne (M.of3 (.inl rfl) hx).1]; exact (M.fr x hx).1, by rw [upd_ne (M.of3 (.inl rfl) hx).2]; exact (M.fr x hx).2.1, (M.fr x hx).2.2⟩, M.ok⟩
/-- a line more -/
theorem Lg.line (M : Lg K Hb H gl sk ln ns us st ls lines) (l : Str) : Lg K Hb (upd H ln (.lst (lines.map V.str ++ [V.str l]))) gl sk ln ns us st ls (lines ++ [l]) :=
  ⟨Evl.Ex.mut M.ex (M.hb _ own_l), by rw [upd_ne M.gs.2.1]; exact M.ob, by rw [upd_ne M.gs.2.2]; exact M.sq, by rw [upd_same, List.map_append]; rfl, M.nd, M.hb,
    fun x hx => ⟨by rw [upd_ne (M.of3 (.inr (.inr rfl)) hx).1]; exact (M.fr x hx).1, by rw [upd_ne (M.of3 (.inr (.inr rfl)) hx).2]; exact (M.fr x hx).2.1, (M.fr x hx).2.2⟩, M.ok⟩
theorem own_sub {l : List Lfr} {x : Lfr} {a : Addr} (h : a ∈ own gl sk ln l) : a ∈ own gl sk ln (l ++ [x]) := by
  simp only [own, List.map_append, List.mem_append] at h ⊢
  rcases h with h | h | h
  · exact .inl h
  · exact .inr (.inl (.inl h))
  · exact .inr (.inr (.inl h))
theorem own_subl {l : List Lfr} {x : Lfr} : (own gl sk ln l).Sublist (own gl sk ln (l ++ [x])) := by
  unfold own
  rw [List.map_append, List.map_append]
  exact List.Sublist.append (List.Sublist.refl _) (List.Sublist.append (List.sublist_append_left _ _) (List.sublist_append_left _ _))
/-- a frame less -/
theorem Lg.popFr {l : List Lfr} {x : Lfr} (M : Lg K Hb H gl sk ln ns us st (l ++ [x]) lines) : Lg K Hb (upd H sk (.lst (lfV l))) gl sk ln ns us st l lines :=
  ⟨Evl.Ex.mut M.ex (M.hb _ own_s), by rw [upd_ne M.gs.1]; exact M.ob, upd_same, by rw [upd_ne M.gs.2.2.symm]; exact M.lq, M.nd.sublist own_subl, fun a ha => M.hb a (own_sub ha),
    fun y hy => by
      have hy' : y ∈ l ++ [x] := List.mem_append_left _ hy
      exact ⟨by rw [upd_ne (M.of3 (.inr (.inl rfl)) hy').1]; exact (M.fr y hy').1, by rw [upd_ne (M.of3 (.inr (.inl rfl)) hy').2]; exact (M.fr y hy').2.1, (M.fr y hy').2.2⟩,
    fun y hy => M.ok y (List.mem_append_left _ hy)⟩
/-- a frame more -/
theorem Lg.push (M : Lg K Hb H gl sk ln ns us st ls lines) {x : Lfr} (hf : H x.f = some (.lst [uV x.u, .ref x.r])) (hr : H x.r = some (.lst x.vs.reverse)) (hR : RepL K Hb x.b x.vs) (nf : x.f ∉ own gl sk ln ls) (nr : x.r ∉ own gl sk ln ls) (nfr : x.f ≠ x.r) (bf : Hb x.f = none) (br : Hb x.r = none) (hB : BOk ns us x.b) :
    Lg K Hb (upd H sk (.lst (lfV (ls ++ [x])))) gl sk ln ns us st (ls ++ [x]) lines := by
  have nfs : x.f ≠ sk := fun z => nf (z ▸ own_s)
  have nrs : x.r ≠ sk := fun z => nr (z ▸ own_s)
  have hmem : ∀ a, a ∈ own gl sk ln (ls ++ [x]) → a ∈ own gl sk ln ls ∨ a = x.f ∨ a = x.r := fun a h => by
    simp only [own, List.map_append, List.mem_append, List.map_cons, List.map_nil, List.mem_cons, List.not_mem_nil, or_false] at h ⊢
    rcases h with h | (h | h) | h | h
    · exact .inl (.inl h)
    · exact .inl (.inr (.inl h))
    · exact .inr (.inl h)
    · exact .inl (.inr (.inr h))
    · exact .inr (.inr h)
  have hperm : (own gl sk ln (ls ++ [x])).Perm (own gl sk ln ls ++ [x.f, x.r]) := by
    unfold own
    rw [List.map_append, List.map_append]
    simp only [List.map_cons, List.map_nil, List.append_assoc]
    refine List.Perm.append_left _ (List.Perm.append_left _ ?_)
    rw [← List.append_assoc, show [x.f, x.r] = [x.f] ++ [x.r] from rfl, ← List.append_assoc]
    exact List.perm_append_comm.append_right _
  refine ⟨Evl.Ex.mut M.ex (M.hb _ own_s), by rw [upd_ne M.gs.1]; exact M.ob, upd_same, by rw [upd_ne M.gs.2.2.symm]; exact M.lq, ?_, fun a ha => ?_, fun y hy => ?_, fun y hy => ?_⟩
  · rw [hperm.nodup_iff]
    refine List.nodup_append.mpr ⟨M.nd, by simp [nfr], fun a ha b hb z => ?_⟩
    simp only [List.mem_cons, List.not_mem_nil, or_false] at hb
    rcases hb with rfl | rfl
    · exact nf (z ▸ ha)
    · exact nr (z ▸ ha)
  · rcases hmem a ha with h | rfl | rfl
    · exact M.hb a h
    · exact bf
    · exact br
  · rcases List.mem_append.mp hy with hy | hy
    · exact ⟨by rw [upd_ne (M.of3 (.inr (.inl rfl)) hy).1]; exact (M.fr y hy).1, by rw [upd_ne (M.of3 (.inr (.inl rfl)) hy).2]; exact (M.fr y hy).2.1, (M.fr y hy).2.2⟩
    · cases (List.mem_singleton.mp hy)
      exact ⟨by rw [upd_ne nfs]; exact hf, by rw [upd_ne nrs]; exact hr, hR⟩
  · rcases List.mem_append.mp hy with hy | hy
    · exact M.ok y hy
    · cases (List.mem_singleton.mp hy); exact hB
/-- the last frame's next statement away -/
theorem Lg.popRow {l : List Lfr} {x : Lfr} {s : Sm} {b : List Sm} {v : V} {vs : List V} (M : Lg K Hb H gl sk ln ns us st (l ++ [x]) lines) (hb : x.b = s :: b) (hv : x.vs = v :: vs) :
    Lg K Hb (upd H x.r (.lst vs.reverse)) gl sk ln ns us st (l ++ [⟨x.f, x.r, x.u, b, vs⟩]) lines := by
  have hm : x ∈ l ++ [x] := List.mem_append_right _ (List.mem_singleton.mpr rfl)
  have hown : own gl sk ln (l ++ [⟨x.f, x.r, x.u, b, vs⟩]) = own gl sk ln (l ++ [x]) := by simp [own]
  have nd2 : ((l ++ [x]).map (·.f) ++ (l ++ [x]).map (·.r)).Nodup := (List.nodup_append.mp M.nd).2.1
  have nr : ∀ y ∈ l, y.r ≠ x.r := fun y hy => by
    have := (List.nodup_append.mp nd2).2.1
    rw [List.map_append] at this
    exact nd_ne this (List.mem_map_of_mem hy) (by simp)
  have nf : ∀ y ∈ l ++ [x], y.f ≠ x.r := fun y hy => nd_ne nd2 (List.mem_map_of_mem hy) (List.mem_map_of_mem hm)
  have hRx := (M.fr x hm).2.2
  refine ⟨Evl.Ex.mut M.ex (M.hb _ (own_r hm)), by rw [upd_ne (M.of3 (.inl rfl) hm).2.symm]; exact M.ob, ?_, by rw [upd_ne (M.of3 (.inr (.inr rfl)) hm).2.symm]; exact M.lq, by rw [hown]; exact M.nd, by rw [hown]; exact M.hb, fun y hy => ?_, fun y hy => ?_⟩
  · rw [upd_ne (M.of3 (.inr (.inl rfl)) hm).2.symm, M.sq]
    simp [lfV]
  · rcases List.mem_append.mp hy with hy | hy
    · have hy' : y ∈ l ++ [x] := List.mem_append_left _ hy
      exact ⟨by rw [upd_ne (nf y hy')]; exact (M.fr y hy').1, by rw [upd_ne (nr y hy)]; exact (M.fr y hy').2.1, (M.fr y hy').2.2⟩
    · cases (List.mem_singleton.mp hy)
      refine ⟨by rw [upd_ne (nf x hm)]; exact (M.fr x hm).1, upd_same, ?_⟩
      rw [hb, hv] at hRx
      simp only [RepL] at hRx
      obtain ⟨u, r, e, _, h⟩ := hRx
      cases e
      exact h
  · rcases List.mem_append.mp hy with hy | hy
    · exact M.ok y (List.mem_append_left _ hy)
    · cases (List.mem_singleton.mp hy)
      obtain ⟨ah, n, k, h1, h2, h3⟩ := M.ok x hm
      rw [hb] at h1 h2
      simp only [OkL] at h1
      simp only [cntL] at h2
      exact ⟨ah, n, k, h1.2, by show cntL b ≤ 20; omega, h3⟩
theorem at_lastL {l : List Lfr} {x : Lfr} : atI (lfV (l ++ [x])) (-1) = some (.ref x.f) := last_ref (by simp [lfV]; rfl)
end
/-- what is asked for, at p -/
def AskV (Hb : Hp) (p : Addr) (st : Nat) : Due → Prop
  | .over => Hb p = some (.tup [.str "over", .int (st : Int)])
  | .back u => Hb p = some (.tup [.str "back", .str u])
  | .loop _ => Hb p = some (.tup [.str "loop"])
  | .call v => Hb p = some (.tup [.str "call", .str v])
  | .cho ls _ => ∃ l, Hb p = some (.tup [.str "choose", .ref l]) ∧ Hb l = some (.lst (ls.map V.str))
  | .drw _ wz => Hb p = some (.tup [.str "turn", .int ((wheel wz).length : Nat)])
theorem wheel_sum : ∀ wz : List (Nat × Nat), (wz.map fun p => ((p.2 : Nat) : Int)).sum = ((wheel wz).length : Nat)
  | [] => by simp [wheel]
  | p :: r => by
    have := wheel_sum r
    simp only [List.map_cons, List.sum_cons, wheel, List.flatMap_cons, List.length_append, List.length_replicate] at this ⊢
    omega
section
variable {P : Program} {w : World} {K : PySem.W.Frag} {mg : Str → Option Value} {base : Heap} {k n : Nat} {ws : List Str}
abbrev N_l_begun : List Str := ["system", "store", "unit", "body"]
theorem sc_l_begun : FnScope N_l_begun ["system", "store"] (defScope (top 92)) := ⟨rfl, rfl, rfl, by decide +kernel, rfl, by decide +kernel, by decide +kernel⟩
def spBegun (K : PySem.W.Frag) : Sp := fun vs H Q _ => ∃ (a : Addr) (st : Nat) (ns : NS) (units pre : US) (un : Str) (b : List Sm), vs = [.ref a, .int (st : Int)] ∧ SysAt K H a ns units ∧ SysOk ns units ∧ units = pre ++ [(un, b)] ∧
  ∀ gl sk ln x H', Ex H H' → Lg K H H' gl sk ln ns units st [x] [] → x.u = some un → x.b = b → Q (.ref gl) H'
theorem ok_l_begun (T : Txt K mg)  : Cal P w K mg base 1 "_law_begun" (spBegun K) [] := by
  obtain ⟨fd, F⟩ := T.d__law_begun
  refine ⟨_, fd, ["system", "store"], [], ?_, T.g__law_begun, F.kp, F.bindsN fun _ _ _ _ _ _ us hl => match us, hl with | [_, _], _ => rfl, .nil⟩
  refine F.ok sc_l_begun (fun vs H Q E h => by obtain ⟨_, _, _, _, _, _, _, rfl, _⟩ := h; rfl) (fun cdv A outer s H vs Q E hr h => ?_)
  have hu := hu_of hr
  refine ⟨_, PSs.nox (pss_cons (ps_asg (pe_ix ix_tup (pe_ix ix_tup (pv 0) pe_int (fun _ _ => rfl)) (pe_un un_neg pe_int) (fun _ _ => rfl)) (pg_tup (by rfl) (pgs_cons (pg_name (i := 2) sc_l_begun.nd rfl (Or.inl rfl)) (pgs_cons (pg_name (i := 3) sc_l_begun.nd rfl (Or.inl rfl)) pgs_nil))))
      (pss_one (ps_ret (pe_lst (pa_cons (pv 1) (pa_cons (pe_lst (pa_cons (pe_lst (pa_cons (pv 2) (pa_cons (pe_revL (pe_callTy call_list_of (by rfl) T.f_list (by decide +kernel) (pa_cons (pv 3) pa_nil))) pa_nil))) pa_nil)) (pa_cons (pe_lst pa_nil) pa_nil))))))), ?_⟩
  obtain ⟨a, st, ns, units, pre, un, b, rfl, hS, hO, hU, hQ⟩ := h
  obtain ⟨pn, pu, o, ou, ps, us0, ha, hpn, ho, hT, hpu, hou, hR⟩ := hS.ex
  obtain ⟨lus, v, el, hv⟩ := rep_last hR hU
  obtain ⟨q0, pb, rfl, hq0, hB⟩ := hv
  obtain ⟨us, hbt, hL⟩ := hB
  refine ⟨_, rfl, a, _, 1, _, rfl, rfl, ha, rfl, _, rfl, pu, _, _, _, rfl, rfl, .inl (.inr ⟨ou, hpu⟩), last_ref el, ?_⟩
  refine ⟨q0, _, rfl, hq0, rfl, _, _, rfl, _, _, rfl, rfl, ?_⟩
  refine ⟨_, rfl, _, rfl, _, rfl, pb, us, rfl, .inr hbt, fun l1 hl1 => ?_⟩
  have e1 := Evl.Ex.new (o := .lst us) hl1
  refine ⟨l1, us, rfl, SqL.of upd_same, fun rr hrr => ?_⟩
  have e2 := e1.trans (Evl.Ex.new (o := .lst us.reverse) hrr)
  have h2 : upd (upd H l1 (.lst us)) rr (.lst us.reverse) rr = some (.lst us.reverse) := upd_same
  have brr := Evl.fresh_back e1 hrr
  generalize upd (upd H l1 (.lst us)) rr (.lst us.reverse) = H2 at e2 h2 ⊢
  refine ⟨(by show 2 ≤ sizeLine; decide), fun f hf => ?_⟩
  have e3 := e2.trans (Evl.Ex.new (o := .lst [.str un, .ref rr]) hf)
  have h3 : upd H2 f (.lst [.str un, .ref rr]) f = some (.lst [.str un, .ref rr]) := upd_same
  have nrf : rr ≠ f := ne_of_none h2 hf
  have h2 := Evl.Ex.new (o := .lst [.str un, .ref rr]) hf _ _ h2
  have bf := Evl.fresh_back e2 hf
  generalize upd H2 f (.lst [.str un, .ref rr]) = H3 at e3 h3 h2 ⊢
  refine ⟨(by show 1 ≤ sizeLine; decide), fun sk hsk => ?_⟩
  have f4 := Evl.Ex.new (o := .lst [.ref f]) hsk
  have e4 := e3.trans f4
  have h4 : upd H3 sk (.lst [.ref f]) sk = some (.lst [.ref f]) := upd_same
  have n1 : rr ≠ sk := ne_of_none h2 hsk
  have n2 : f ≠ sk := ne_of_none h3 hsk
  have h2 := f4 _ _ h2
  have h3 := f4 _ _ h3
  have bsk := Evl.fresh_back e3 hsk
  generalize upd H3 sk (.lst [.ref f]) = H4 at e4 h4 h3 h2 f4 ⊢
  clear f4
  refine ⟨Nat.zero_le _, fun ln hln => ?_⟩
  have f5 := Evl.Ex.new (o := .lst []) hln
  have e5 := e4.trans f5
  have h5 : upd H4 ln (.lst []) ln = some (.lst []) := upd_same
  have n3 : rr ≠ ln := ne_of_none h2 hln
  have n4 : f ≠ ln := ne_of_none h3 hln
  have n5 : sk ≠ ln := ne_of_none h4 hln
  have h2 := f5 _ _ h2
  have h3 := f5 _ _ h3
  have h4 := f5 _ _ h4
  have bln := Evl.fresh_back e4 hln
  generalize upd H4 ln (.lst []) = H5 at e5 h5 h4 h3 h2 f5 ⊢
  clear f5
  refine ⟨(by show 3 ≤ sizeLine; decide), fun gl hgl => ?_⟩
  have f6 := Evl.Ex.new (o := .lst [.int (st : Int), .ref sk, .ref ln]) hgl
  have n6 : rr ≠ gl := ne_of_none h2 hgl
  have n7 : f ≠ gl := ne_of_none h3 hgl
  have n8 : sk ≠ gl := ne_of_none h4 hgl
  have n9 : ln ≠ gl := ne_of_none h5 hgl
  have bgl := Evl.fresh_back e5 hgl
  refine hQ gl sk ln ⟨f, rr, some un, b, us⟩ _ (e5.trans f6) ⟨e5.trans f6, upd_same, f6 _ _ h4, f6 _ _ h5, ?_, fun y hy => ?_, fun y hy => ?_, fun y hy => ?_⟩ rfl rfl
  · simp only [own, List.map_cons, List.map_nil, List.cons_append, List.nil_append, List.nodup_cons, List.mem_cons, List.not_mem_nil, or_false, not_or, List.nodup_nil, and_true, not_false_eq_true]
    exact ⟨⟨n8.symm, n9.symm, n7.symm, n6.symm⟩, ⟨n5, n2.symm, n1.symm⟩, ⟨n4.symm, n3.symm⟩, nrf.symm⟩
  · simp only [own, List.map_cons, List.map_nil, List.cons_append, List.nil_append, List.mem_cons, List.not_mem_nil, or_false] at hy
    rcases hy with rfl | rfl | rfl | rfl | rfl
    · exact bgl
    · exact bsk
    · exact bln
    · exact bf
    · exact brr
  · cases (List.mem_singleton.mp hy)
    exact ⟨f6 _ _ h3, f6 _ _ h2, hL⟩
  · cases (List.mem_singleton.mp hy)
    exact hO.unit (lookup_of (v := un) hO.und (i := pre.length) (by rw [hU]; simp))

end
end K14
namespace K14
open PySem PySem.Spec PyProof.Rows L2 C8

theorem SysAt.kt {K : PySem.W.Frag} {H H' : Hp} (e : Kt H H') {a : Addr} {ns : NS} {units : US} (h : SysAt K H a ns units) : SysAt K H' a ns units := by
  obtain ⟨pn, pu, o, ou, ps, us, h1, h2, h3, h4, h5, h6, h7⟩ := h.ex
  exact ⟨pn, pu, o, ou, ps, us, kt_t e h1, e _ _ h2 rfl, h3, h4.kt e, e _ _ h5 rfl, h6, rep_kt e h7⟩
theorem last_rev {us : List V} {v : V} : atI (v :: us).reverse (-1) = some v := last_ref (List.reverse_cons ..)
theorem qs_top {ns : NS} {st : Nat} {u : Option Str} {s : Sm} {b : List Sm} {r : List Fr} (h : qs ns st ((u, s :: b) :: r) = none) : (∃ c w, s = .whl c w ∧ hdT (envN ns st) c = true) ∨ (∃ x wz, s = .drw x wz) ∨ (∃ ls bs, s = .cho ls bs) ∨ (∃ v, s = .cal v) := by
  cases s with
  | set x e => simp [qs] at h
  | iff c t e => simp [qs] at h
  | whl c w =>
    simp only [qs] at h
    split at h
    · rename_i hc
      exact .inl ⟨c, w, rfl, hc⟩
    · cases h
  | drw x wz => exact .inr (.inl ⟨x, wz, rfl⟩)
  | cho ls bs => exact .inr (.inr (.inl ⟨ls, bs, rfl⟩))
  | cal v => exact .inr (.inr (.inr ⟨v, rfl⟩))
theorem Qt.next {ns : NS} {k st st2 st1 : Nat} {fs fs2 fs1 : List Fr} (q : Qt ns k st fs st2 fs2) (h : qs ns st fs = some (st1, fs1)) : ∃ k', k = k' + 1 ∧ Qt ns k' st1 fs1 st2 fs2 := by
  cases q with
  | stay h0 => rw [h0] at h; cases h
  | turn h0 r =>
    rw [h0] at h
    cases h
    exact ⟨_, rfl, r⟩
theorem Qt.calm0 {ns : NS} {k st st2 : Nat} {fs fs2 : List Fr} (q : Qt ns k st fs st2 fs2) (h : qs ns st fs = none) : st2 = st ∧ fs2 = fs := by
  cases q with
  | stay h0 => exact ⟨rfl, rfl⟩
  | turn h0 r => rw [h0] at h; cases h
theorem RepL.head {K : PySem.W.Frag} {H : Hp} {s : Sm} {b : List Sm} {vs : List V} (h : RepL K H (s :: b) vs) : ∃ v vs', vs = v :: vs' ∧ RepS K H s v ∧ RepL K H b vs' := by
  simp only [RepL] at h
  exact h
theorem RepL.none {K : PySem.W.Frag} {H : Hp} {vs : List V} (h : RepL K H [] vs) : vs = [] := by
  simp only [RepL] at h
  exact h
theorem Env.upd {K : PySem.W.Frag} {H : Hp} {d a : Addr} {ws : List Str} {env : Str → Int} {xs : List V} {o : HO} (h : Env K H d ws env) (ha : H a = some (.lst xs)) : Env K (L2.upd H a o) d ws env := by
  obtain ⟨kvs, hd, hk⟩ := h.ex
  exact ⟨⟨kvs, by rw [upd_ne (ne_of hd ha (fun z => by cases z))]; exact hd, hk⟩, h.bd⟩
theorem Lg.fresh {K : PySem.W.Frag} {Hb H : Hp} {gl sk ln : Addr} {ns : NS} {us : US} {st : Nat} {ls : List Lfr} {lines : List Str} (M : Lg K Hb H gl sk ln ns us st ls lines) {a : Addr} (h : H a = none) : a ∉ own gl sk ln ls := fun z => by
  obtain ⟨o, ho⟩ := M.there z
  rw [h] at ho
  cases ho
theorem ub_pop {b : List Sm} {r : List Fr} (h : UB ((none, b) :: r)) : UB r := by
  cases r with
  | nil => obtain ⟨u, hu⟩ := h; cases hu
  | cons a c => exact h
section
variable {P : Program} {w : World} {K : PySem.W.Frag} {mg : Str → Option Value} {base : Heap} {k n : Nat} {ws : List Str}
abbrev N_l_asks : List Str := ["system", "game", "turn", "unit", "rows", "one", "values", "pair"]
theorem sc_l_asks : FnScope N_l_asks ["system", "game"] (defScope (top 93)) := ⟨rfl, rfl, rfl, by decide +kernel, rfl, by decide +kernel, by decide +kernel⟩
/-- what a game asks for -/
def spAsksL (K : PySem.W.Frag) (ws : List Str) : Sp := fun vs H Q _ => ∃ (a gl sk ln : Addr) (Hb : Hp) (ns : NS) (us : US) (st : Nat) (ls : List Lfr) (lines : List Str) (k st' : Nat) (fs' : List Fr), vs = [.ref a, .ref gl] ∧ SysAt K Hb a ns us ∧ NsOk ns ∧ wds ns = ws ∧ Lg K Hb H gl sk ln ns us st ls lines ∧ st < prodN (szs ns) ∧ Qt ns k st (absL ls) st' fs' ∧ k < 400 ∧ (absL ls ≠ [] → UB (absL ls)) ∧ ls.length + k ≤ 3000 ∧
  ∀ p Hb' ls' H', Ex Hb Hb' → Lg K Hb' H' gl sk ln ns us st' ls' lines → absL ls' = fs' → st' < prodN (szs ns) → AskV Hb' p st' (due fs') → Q (.ref p) H'
theorem ok_l_asks (T : Txt K mg) (C_l_values : Cal P w K mg base 1 "_law_values" (spValues K) []) (C_l_set : Cal P w K mg base 2 "_law_set" (spSet K) []) (C_l_worth : ∀ n, Cal P w K mg base (n + 1) "_law_worth" (spWorth K ws n) []) (C_l_holds : ∀ n, Cal P w K mg base (n + 1) "_law_holds" (spLHolds K ws n) []) : Cal P w K mg base 8 "_law_asks" (spAsksL K ws) [] := by
  obtain ⟨fd, F⟩ := T.d__law_asks
  refine ⟨_, fd, ["system", "game"], [], ?_, T.g__law_asks, F.kp, F.bindsN fun _ _ _ _ _ _ us hl => match us, hl with | [_, _], _ => rfl, .nil⟩
  refine F.ok sc_l_asks (fun vs H Q E h => by obtain ⟨_, _, _, _, _, _, _, _, _, _, _, _, _, rfl, _⟩ := h; rfl) (fun cdv A outer s H vs Q E hr h => ?_)
  have hu := hu_of hr
  refine ⟨_, PSs.nox (pss_cons (ps_for PassesOwn.never rfl (pi_range1 (by rfl) T.f_range (pa_cons pe_int pa_nil)) (pg_name (i := 2) sc_l_asks.nd rfl (Or.inl rfl)) (pss_cons (ps_if (pt_cmpR (op_eq0 hr.units) (pe_ix ix_list (pv 1) pe_int (fun _ _ => rfl)) (pe_lst pa_nil) (nomark _)) (pss_one (ps_ret (pe_tup (pa_cons pe_str (pa_cons (pe_ix ix_list (pv 1) pe_int (fun _ _ => rfl)) pa_nil))))) pss_nil)
      (pss_cons (ps_asg (pe_ix ix_list (pe_ix ix_list (pv 1) pe_int (fun _ _ => rfl)) (pe_un un_neg pe_int) (fun _ _ => rfl)) (pg_lst (by rfl) (pgs_cons (pg_name (i := 3) sc_l_asks.nd rfl (Or.inl rfl)) (pgs_cons (pg_name (i := 4) sc_l_asks.nd rfl (Or.inl rfl)) pgs_nil))))
      (pss_cons (ps_if (PW.pt (pw_and (pt_cmpR (op_eq0 hr.units) (pv 4) (pe_lst pa_nil) (nomark _)) (pw_and1 (pt_cmpR op_notN (pv 3) pe_non (nomark _))))) (pss_one (ps_ret (pe_tup (pa_cons pe_str (pa_cons (pv 3) pa_nil))))) pss_nil)
      (pss_cons (ps_if (pt_cmpR (op_eq0 hr.units) (pv 4) (pe_lst pa_nil) (nomark _)) (pss_cons (ps_expr (pe_bm0 PySem.F.plainAttrs_list PySem.F.slot_list_pop PySem.F.type_list_pop mt_pop (pe_ix ix_list (pv 1) pe_int (fun _ _ => rfl))))
      (pss_one ps_continue)) pss_nil)
      (pss_cons (ps_par (i := 5) (j := 6) (by rfl) sc_l_asks.nd rfl rfl (by decide) rfl rfl (pa_cons (pe_ix ix_list (pv 4) (pe_un un_neg pe_int) (fun _ _ => rfl)) (pa_cons (pe_c C_l_values hr (by omega) rfl (pa_cons (pv 0) (pa_cons (pe_ix ix_list (pv 1) pe_int (fun _ _ => rfl)) pa_nil))) pa_nil)) (by rfl))
      (pss_one (ps_if (pt_cmpR op_eq (pe_ix ix_tup (pv 5) pe_int (fun _ _ => rfl)) pe_str (nomark _)) (pss_cons (ps_expr (pe_bm0 PySem.F.plainAttrs_list PySem.F.slot_list_pop PySem.F.type_list_pop mt_pop (pv 4)))
      (pss_one (ps_asg (pe_c C_l_set hr (by omega) rfl (pa_cons (pv 0) (pa_cons (pe_ix ix_list (pv 1) pe_int (fun _ _ => rfl)) (pa_cons (pe_ix ix_tup (pv 5) pe_int (fun _ _ => rfl)) (pa_cons (pe_c (C_l_worth 6) hr (by omega) rfl (pa_cons (pe_ix ix_tup (pv 5) pe_int (fun _ _ => rfl)) (pa_cons (pv 6) pa_nil))) pa_nil))))) (pg_sub (pv 1) pe_int set_list)))) (pss_one (ps_if (pt_cmpR op_eq (pe_ix ix_tup (pv 5) pe_int (fun _ _ => rfl)) pe_str (nomark _)) (pss_cons (ps_expr (pe_bm0 PySem.F.plainAttrs_list PySem.F.slot_list_pop PySem.F.type_list_pop mt_pop (pv 4)))
      (pss_one (ps_expr (pe_bm PySem.F.plainAttrs_list PySem.F.slot_list_append PySem.F.type_list_append mt_append (pe_ix ix_list (pv 1) pe_int (fun _ _ => rfl)) (pa_cons (pe_lst (pa_cons pe_non (pa_cons (pe_revL (pe_callTy call_list_of (by rfl) T.f_list (by decide +kernel) (pa_cons (pe_ifExp (pt_val (pe_c (C_l_holds 6) hr (by omega) rfl (pa_cons (pe_ix ix_tup (pv 5) pe_int (fun _ _ => rfl)) (pa_cons (pv 6) pa_nil)))) (pe_ix ix_tup (pv 5) pe_int (fun _ _ => rfl)) (pe_ix ix_tup (pv 5) pe_int (fun _ _ => rfl))) pa_nil))) pa_nil))) pa_nil))))) (pss_one (ps_if (PW.pt (pw_and (pt_cmpR op_eq (pe_ix ix_tup (pv 5) pe_int (fun _ _ => rfl)) pe_str (nomark _)) (pw_and1 (pt_not (pt_val (pe_c (C_l_holds 6) hr (by omega) rfl (pa_cons (pe_ix ix_tup (pv 5) pe_int (fun _ _ => rfl)) (pa_cons (pv 6) pa_nil)))))))) (pss_one (ps_expr (pe_bm0 PySem.F.plainAttrs_list PySem.F.slot_list_pop PySem.F.type_list_pop mt_pop (pv 4)))) (pss_one (ps_if (pt_cmpR op_eq (pe_ix ix_tup (pv 5) pe_int (fun _ _ => rfl)) pe_str (nomark _)) (pss_one (ps_ret (pe_tup (pa_cons pe_str (pa_cons (pe_callB (cr_sum rfl) (by rfl) T.f_sum (by decide +kernel) (pa_cons (pe_lc (own := [("pair", 7)]) rfl sc_l_asks.nd (pi_tup (pe_ix ix_tup (pv 5) pe_int (fun _ _ => rfl))) (blkOk_by (own := [("pair", 7)]) (N := N_l_asks) (sc := defScope (top 93)) (by decide +kernel)) (fun _ _ _ _ _ => (pg_name (i := 7) sc_l_asks.nd rfl (Or.inl rfl))) (fun _ _ _ _ _ => pts_nil) (fun _ _ _ _ _ => (pe_ix (ixT (K := K) rfl) (pv 7) pe_int (fun _ _ => rfl)))) pa_nil)) pa_nil))))) (pss_one (ps_if (pt_cmpR op_eq (pe_ix ix_tup (pv 5) pe_int (fun _ _ => rfl)) pe_str (nomark _)) (pss_one (ps_ret (pe_tup (pa_cons pe_str (pa_cons (pe_lc (own := [("pair", 7)]) rfl sc_l_asks.nd (pi_tup (pe_ix ix_tup (pv 5) pe_int (fun _ _ => rfl))) (blkOk_by (own := [("pair", 7)]) (N := N_l_asks) (sc := defScope (top 93)) (by decide +kernel)) (fun _ _ _ _ _ => (pg_name (i := 7) sc_l_asks.nd rfl (Or.inl rfl))) (fun _ _ _ _ _ => pts_nil) (fun _ _ _ _ _ => (pe_ix (ixT (K := K) rfl) (pv 7) pe_int (fun _ _ => rfl)))) pa_nil))))) (pss_one (ps_ret (pe_ifExp (pt_cmpR op_eq (pe_ix ix_tup (pv 5) pe_int (fun _ _ => rfl)) pe_str (nomark _)) (pe_tup (pa_cons pe_str pa_nil)) (pe_tup (pa_cons pe_str (pa_cons (pe_ix ix_tup (pv 5) pe_int (fun _ _ => rfl)) pa_nil))))))))))))))))))))))
      (pss_one (ps_ret pe_non))), ?_⟩
  obtain ⟨a, gl, sk, ln, Hb, ns, us, st, ls, lines, k0, st2, fs2, rfl, hS, hok, rfl, M, hst, hq, hk0, hub, hlk, hQ⟩ := h
  refine ⟨400, rfl, by omega, by omega, ?_⟩
  refine for_it (walk_range (lo := 0) (n := (400 : Int).toNat)) (fun i σ H' => ∃ (ls : List Lfr) (st k : Nat) (x2 x3 x4 x5 x6 : Option V), σ = [some (.ref a), some (.ref gl), x2, x3, x4, x5, x6, none] ∧ Lg K Hb H' gl sk ln ns us st ls lines ∧ st < prodN (szs ns) ∧ Qt ns k st (absL ls) st2 fs2 ∧ k + i ≤ k0 ∧ (absL ls ≠ [] → UB (absL ls)) ∧ ls.length + k ≤ 3000)
    ⟨ls, st, k0, none, none, none, none, none, rfl, M, hst, hq, Nat.le_refl _, hub, hlk⟩ (fun _ _ _ _ _ => trivial) ?_ ?_
  · clear M hst hq hub hlk
    rintro i x σ H1' H1 hi ⟨ls, st, k, x2, x3, x4, x5, x6, rfl, M, hst, hq, hki, hub, hlk⟩ ⟨rfl, rfl⟩
    refine ⟨_, rfl, gl, _, 1, .ref sk, rfl, rfl, SqL.of M.ob, rfl, Nat.zero_le _, fun q hq0 => ?_⟩
    have M1 := M.grow (Evl.Ex.new (o := .lst []) hq0)
    have sq1 : SqL K (upd H1 q (.lst [])) q [] := SqL.of upd_same
    generalize upd H1 q (.lst []) = H2 at M1 sq1 ⊢
    clear M hq0
    have M := M1
    clear M1
    refine ⟨sk, q, lfV ls, rfl, rfl, SqL.of M.sq, sq1, _, rfl, ?_⟩
    cases hls : absL ls with
    | nil =>
      have := absL_nil hls
      subst this
      refine iteT ?_
      rw [hls] at hq
      obtain ⟨rfl, rfl⟩ := hq.calm0 rfl
      refine ⟨_, rfl, gl, _, 0, _, rfl, rfl, SqL.of M.ob, rfl, (by show 2 ≤ sizeLine; decide), fun p hp => ?_⟩
      exact hQ p _ [] _ (Evl.Ex.new (Evl.fresh_back M.ex hp)) (M.newb hp) hls hst upd_same
    | cons f r =>
    obtain ⟨l, x, rfl, hxf, hlr⟩ := absL_top hls
    subst hlr
    have hne : (lfV (l ++ [x])).isEmpty = false := by simp [lfV]
    rw [hne]
    refine iteF ?_
    have F := M.fr x (by simp)
    have hub := hub (by rw [hls]; simp)
    refine ⟨_, rfl, gl, _, 1, .ref sk, rfl, rfl, SqL.of M.ob, rfl, _, rfl, sk, _, _, _, rfl, rfl, SqL.of M.sq, at_lastL, ?_⟩
    refine ⟨x.f, _, rfl, SqL.of F.1, rfl, _, _, rfl, _, _, rfl, rfl, ?_⟩
    have hls0 : absL (l ++ [x]) = (x.u, x.b) :: absL l := absL_snoc l x
    rw [hls0] at hq hub
    clear hxf hls
    refine ⟨_, rfl, Nat.zero_le _, fun q2 hq2 => ?_⟩
    have M1 := M.grow (Evl.Ex.new (o := .lst []) hq2)
    have sq2 : SqL K (upd H2 q2 (.lst [])) q2 [] := SqL.of upd_same
    generalize upd H2 q2 (.lst []) = H3 at M1 sq2 ⊢
    clear M hq2 F
    have M := M1
    clear M1
    have F := M.fr x (by simp)
    refine ⟨x.r, q2, x.vs.reverse, rfl, rfl, SqL.of F.2.1, sq2, _, rfl, ?_⟩
    cases hb : x.b with
    | nil =>
      have hv := RepL.none (hb ▸ F.2.2)
      rw [hv]
      refine iteT ?_
      refine ⟨_, rfl, rfl, _, rfl, ?_⟩
      cases hu : x.u with
      | some u =>
        refine iteTo (by rw [decide_eq_false (show ¬ uV (some u) = .non from fun z => by cases z)]; rfl) ?_
        rw [hb, hu] at hq
        obtain ⟨rfl, rfl⟩ := hq.calm0 rfl
        refine ⟨_, rfl, (by show 2 ≤ sizeLine; decide), fun p hp => ?_⟩
        exact hQ p _ (l ++ [x]) _ (Evl.Ex.new (Evl.fresh_back M.ex hp)) (M.newb hp) (by rw [hls0, hb, hu]) hst upd_same
      | none =>
        refine iteFo (by rw [decide_eq_true (show uV none = .non from rfl)]; rfl) ?_
        refine ⟨_, rfl, Nat.zero_le _, fun q3 hq3 => ?_⟩
        have M1 := M.grow (Evl.Ex.new (o := .lst []) hq3)
        have sq3 : SqL K (upd H3 q3 (.lst [])) q3 [] := SqL.of upd_same
        generalize upd H3 q3 (.lst []) = H4 at M1 sq3 ⊢
        clear M hq3 F
        have M := M1
        clear M1
        have F := M.fr x (by simp)
        refine ⟨x.r, q3, x.vs.reverse, rfl, rfl, SqL.of F.2.1, sq3, _, rfl, ?_⟩
        rw [hv]
        refine iteT ?_
        refine ⟨_, rfl, gl, _, 1, .ref sk, rfl, rfl, SqL.of M.ob, rfl, .inl ⟨rfl, _, SqL.of M.sq⟩, sk, _, _, rfl, rfl, M.sq, (by simp [lfV]; rfl), ?_⟩
        have ed : (lfV (l ++ [x])).dropLast = lfV l := by simp [lfV]
        rw [ed]
        rw [hb, hu] at hq hub
        obtain ⟨k', rfl, hq'⟩ := hq.next (st1 := st) (fs1 := absL l) rfl
        rw [List.length_append] at hlk
        exact ⟨l, st, k', _, _, _, _, _, rfl, M.popFr, hst, hq', by omega, fun _ => ub_pop hub, by omega⟩
    | cons s b =>
      obtain ⟨v, vs, hv, hRs, hRb⟩ := RepL.head (hb ▸ F.2.2)
      have hvr : x.vs.reverse = vs.reverse ++ [v] := by rw [hv, List.reverse_cons]
      have hve : x.vs.reverse.isEmpty = false := by rw [hvr]; simp
      rw [hve]
      refine iteF ?_
      refine ⟨_, rfl, Nat.zero_le _, fun q3 hq3 => ?_⟩
      have M1 := M.grow (Evl.Ex.new (o := .lst []) hq3)
      have sq3 : SqL K (upd H3 q3 (.lst [])) q3 [] := SqL.of upd_same
      generalize upd H3 q3 (.lst []) = H4 at M1 sq3 ⊢
      clear M hq3 F
      have M := M1
      clear M1
      have F := M.fr x (by simp)
      refine ⟨x.r, q3, x.vs.reverse, rfl, rfl, SqL.of F.2.1, sq3, _, rfl, ?_⟩
      rw [hve]
      refine iteF ?_
      rw [List.length_append] at hlk
      simp only [List.length_cons, List.length_nil] at hlk
      rw [hb] at hq hub
      refine ⟨_, rfl, _, rfl, x.r, _, _, v, rfl, rfl, SqL.of F.2.1, by rw [hv]; exact last_rev, ?_⟩
      refine ⟨_, rfl, _, rfl, gl, _, 0, _, rfl, rfl, SqL.of M.ob, rfl, ?_⟩
      refine ⟨a, ns, us, st, rfl, hS.mono M.ex, hok, hst, fun d H5 hd0 e5 hE => ?_⟩
      have M1 := M.grow e5
      clear M F e5
      have M := M1
      clear M1
      have F := M.fr x (by simp)
      refine ⟨_, _, rfl, ?_⟩
      have hBO := M.ok x (by simp)
      obtain ⟨ah, no, lo, hOL, hcl, hah⟩ := id hBO
      rw [hb] at hOL hcl
      simp only [OkL] at hOL
      have hO := hOL.1
      have hRx := hRs
      cases s with
      | set y e =>
        simp only [RepS] at hRs
        obtain ⟨p, u1, rfl, hp, h1⟩ := hRs
        have hO : y ∈ wds ns ∧ IsX (wds ns) 6 e := by cases no <;> cases lo <;> simpa only [OkS] using hO
        obtain ⟨k', rfl, hq'⟩ := hq.next (st1 := setN ns st y (evT (envN ns st) e)) (fs1 := (x.u, b) :: absL l) (by simp only [qs])
        refine ⟨_, rfl, p, _, 0, _, rfl, rfl, Evl.ex_t M.ex hp, rfl, rfl, _, rfl, ?_⟩
        refine ⟨_, rfl, .inl ⟨rfl, _, SqL.of F.2.1⟩, x.r, _, .ref p, rfl, rfl, F.2.1, by rw [hvr]; simp, ?_⟩
        rw [hvr, List.dropLast_concat]
        have M1 := M.popRow hb hv
        have hE := hE.upd (a := x.r) (o := .lst vs.reverse) F.2.1
        generalize upd H5 x.r (.lst vs.reverse) = H6 at M1 hE ⊢
        clear M F
        have M := M1
        clear M1
        refine ⟨_, rfl, _, rfl, gl, _, 0, _, rfl, rfl, SqL.of M.ob, rfl, _, rfl, p, _, 1, _, rfl, rfl, Evl.ex_t M.ex hp, rfl, _, rfl, p, _, 2, _, rfl, rfl, Evl.ex_t M.ex hp, rfl, _, rfl, ?_⟩
        refine ⟨e, u1, d, _, rfl, h1.mono M.ex, hO.2, by decide, hE, ?_⟩
        refine ⟨a, ns, us, st, y, _, rfl, hS.mono M.ex, hok, hst, hO.1, fun H7 e7 => ?_⟩
        have M7 := M.grow e7
        refine ⟨_, rfl, gl, _, _, _, rfl, rfl, M7.ob, rfl, ?_⟩
        exact ⟨_, _, k', _, _, _, _, _, rfl, M7.store _, setN_lt' hok hst hO.1 _, by rw [absL_snoc]; exact hq', by omega, fun _ => by rw [absL_snoc]; exact hub.swap, by rw [List.length_append]; simp only [List.length_cons, List.length_nil]; omega⟩
      | iff c ca cb =>
        simp only [RepS] at hRs
        obtain ⟨p, u1, ba, bb, as, bs, rfl, hp, h1, h2, h3, h4, h5⟩ := hRs
        have hO1 : IsC (wds ns) 6 c := by
          cases no with
          | zero => simp [OkS] at hO
          | succ no => simp only [OkS] at hO; exact hO.1
        obtain ⟨k', rfl, hq'⟩ := hq.next (st1 := st) (fs1 := (none, if hdT (envN ns st) c = true then ca else cb) :: (x.u, b) :: absL l) (by simp only [qs])
        refine ⟨_, rfl, p, _, 0, _, rfl, rfl, Evl.ex_t M.ex hp, rfl, rfl, _, rfl, ?_⟩
        refine ⟨_, rfl, p, _, 0, _, rfl, rfl, Evl.ex_t M.ex hp, rfl, rfl, _, rfl, ?_⟩
        refine ⟨_, rfl, .inl ⟨rfl, _, SqL.of F.2.1⟩, x.r, _, .ref p, rfl, rfl, F.2.1, by rw [hvr]; simp, ?_⟩
        rw [hvr, List.dropLast_concat]
        have M1 := M.popRow hb hv
        have hE := hE.upd (a := x.r) (o := .lst vs.reverse) F.2.1
        generalize upd H5 x.r (.lst vs.reverse) = H6 at M1 hE ⊢
        clear M F
        have M := M1
        clear M1
        refine ⟨_, rfl, gl, _, 1, .ref sk, rfl, rfl, SqL.of M.ob, rfl, .inl ⟨rfl, _, SqL.of M.sq⟩, _, rfl, p, _, 1, _, rfl, rfl, Evl.ex_t M.ex hp, rfl, _, rfl, ?_⟩
        refine ⟨c, u1, d, _, rfl, h1.mono M.ex, hO1, by decide, hE, fun H7 e7 => ⟨_, rfl, ?_⟩⟩
        have M1 := M.grow e7
        clear M hE
        have M := M1
        clear M1
        cases hc : hdT (envN ns st) c with
        | true =>
          rw [hc, if_pos rfl] at hq'
          refine iteT ⟨_, rfl, p, _, 2, _, rfl, rfl, Evl.ex_t M.ex hp, rfl, ba, as, rfl, .inr (Evl.ex_t M.ex h2), fun l2 hl2 => ?_⟩
          have M1 := M.grow (Evl.Ex.new (o := .lst as) hl2)
          have s2 : SqL K (upd H7 l2 (.lst as)) l2 as := SqL.of upd_same
          generalize upd H7 l2 (.lst as) = H8 at M1 s2 ⊢
          refine ⟨l2, _, rfl, s2, fun l3 hl3 => ?_⟩
          have nl3 := M1.fresh hl3
          have bl3 := Evl.fresh_back M1.ex hl3
          have M2 := M1.grow (Evl.Ex.new (o := .lst (as).reverse) hl3)
          have s3 : upd H8 l3 (.lst (as).reverse) l3 = some (.lst (as).reverse) := upd_same
          generalize upd H8 l3 (.lst (as).reverse) = H9 at M2 s3 ⊢
          refine ⟨(by show 2 ≤ sizeLine; decide), fun f hf => ?_⟩
          have nf := M2.fresh hf
          have bf := Evl.fresh_back M2.ex hf
          have nfl : f ≠ l3 := (ne_of_none s3 hf).symm
          have e9 := Evl.Ex.new (o := .lst [.non, .ref l3]) hf
          have M3 := M2.grow e9
          have s3 := e9 _ _ s3
          have s4 : upd H9 f (.lst [.non, .ref l3]) f = some (.lst [uV none, .ref l3]) := upd_same
          generalize upd H9 f (.lst [.non, .ref l3]) = H10 at M3 s3 s4 ⊢
          refine ⟨sk, _, _, rfl, rfl, M3.sq, Nat.lt_of_le_of_lt (show (lfV (l ++ [⟨x.f, x.r, x.u, b, vs⟩])).length ≤ 3000 by simp [lfV]; omega) (by decide), ?_⟩
          have hsn : lfV (l ++ [⟨x.f, x.r, x.u, b, vs⟩]) ++ [V.ref f] = lfV (l ++ [⟨x.f, x.r, x.u, b, vs⟩] ++ [⟨f, l3, none, ca, as⟩]) := by simp [lfV]
          rw [hsn]
          have M4 := M3.push (x := ⟨f, l3, none, ca, as⟩) s4 s3 h4 nf nl3 nfl bf bl3 (hBO.kid (by rw [hb]; exact List.mem_cons_self ..) (by simp [kids]))
          exact ⟨_, _, k', _, _, _, _, _, rfl, M4, hst, by rw [absL_snoc, absL_snoc]; exact hq', by omega, fun _ => by rw [absL_snoc, absL_snoc]; exact UB.cons hub.swap, by rw [List.length_append, List.length_append]; simp only [List.length_cons, List.length_nil]; omega⟩
        | false =>
          rw [hc, if_neg Bool.false_ne_true] at hq'
          refine iteF ⟨_, rfl, p, _, 3, _, rfl, rfl, Evl.ex_t M.ex hp, rfl, bb, bs, rfl, .inr (Evl.ex_t M.ex h3), fun l2 hl2 => ?_⟩
          have M1 := M.grow (Evl.Ex.new (o := .lst bs) hl2)
          have s2 : SqL K (upd H7 l2 (.lst bs)) l2 bs := SqL.of upd_same
          generalize upd H7 l2 (.lst bs) = H8 at M1 s2 ⊢
          refine ⟨l2, _, rfl, s2, fun l3 hl3 => ?_⟩
          have nl3 := M1.fresh hl3
          have bl3 := Evl.fresh_back M1.ex hl3
          have M2 := M1.grow (Evl.Ex.new (o := .lst (bs).reverse) hl3)
          have s3 : upd H8 l3 (.lst (bs).reverse) l3 = some (.lst (bs).reverse) := upd_same
          generalize upd H8 l3 (.lst (bs).reverse) = H9 at M2 s3 ⊢
          refine ⟨(by show 2 ≤ sizeLine; decide), fun f hf => ?_⟩
          have nf := M2.fresh hf
          have bf := Evl.fresh_back M2.ex hf
          have nfl : f ≠ l3 := (ne_of_none s3 hf).symm
          have e9 := Evl.Ex.new (o := .lst [.non, .ref l3]) hf
          have M3 := M2.grow e9
          have s3 := e9 _ _ s3
          have s4 : upd H9 f (.lst [.non, .ref l3]) f = some (.lst [uV none, .ref l3]) := upd_same
          generalize upd H9 f (.lst [.non, .ref l3]) = H10 at M3 s3 s4 ⊢
          refine ⟨sk, _, _, rfl, rfl, M3.sq, Nat.lt_of_le_of_lt (show (lfV (l ++ [⟨x.f, x.r, x.u, b, vs⟩])).length ≤ 3000 by simp [lfV]; omega) (by decide), ?_⟩
          have hsn : lfV (l ++ [⟨x.f, x.r, x.u, b, vs⟩]) ++ [V.ref f] = lfV (l ++ [⟨x.f, x.r, x.u, b, vs⟩] ++ [⟨f, l3, none, cb, bs⟩]) := by simp [lfV]
          rw [hsn]
          have M4 := M3.push (x := ⟨f, l3, none, cb, bs⟩) s4 s3 h5 nf nl3 nfl bf bl3 (hBO.kid (by rw [hb]; exact List.mem_cons_self ..) (by simp [kids]))
          exact ⟨_, _, k', _, _, _, _, _, rfl, M4, hst, by rw [absL_snoc, absL_snoc]; exact hq', by omega, fun _ => by rw [absL_snoc, absL_snoc]; exact UB.cons hub.swap, by rw [List.length_append, List.length_append]; simp only [List.length_cons, List.length_nil]; omega⟩
      | whl c cb =>
        simp only [RepS] at hRs
        obtain ⟨p, u1, bb, bs, rfl, hp, h1, h2, h3⟩ := hRs
        have hO1 : IsC (wds ns) 6 c := by
          cases no with
          | zero => cases lo <;> simp [OkS] at hO
          | succ no =>
            cases lo with
            | zero => simp [OkS] at hO
            | succ lo => simp only [OkS] at hO; exact hO.1
        refine ⟨_, rfl, p, _, 0, _, rfl, rfl, Evl.ex_t M.ex hp, rfl, rfl, _, rfl, ?_⟩
        refine ⟨_, rfl, p, _, 0, _, rfl, rfl, Evl.ex_t M.ex hp, rfl, rfl, _, rfl, ?_⟩
        refine ⟨_, rfl, p, _, 0, _, rfl, rfl, Evl.ex_t M.ex hp, rfl, rfl, _, rfl, ?_⟩
        refine ⟨_, rfl, p, _, 1, _, rfl, rfl, Evl.ex_t M.ex hp, rfl, _, rfl, ?_⟩
        refine ⟨c, u1, d, _, rfl, h1.mono M.ex, hO1, by decide, hE, fun H7 e7 => ⟨_, rfl, ?_⟩⟩
        have M1 := M.grow e7
        clear M F hE
        have M := M1
        clear M1
        have F := M.fr x (by simp)
        cases hc : hdT (envN ns st) c with
        | false =>
          obtain ⟨k', rfl, hq'⟩ := hq.next (st1 := st) (fs1 := (x.u, b) :: absL l) (by simp only [qs, hc, Bool.false_eq_true, if_false])
          refine iteT ?_
          refine ⟨_, rfl, .inl ⟨rfl, _, SqL.of F.2.1⟩, x.r, _, .ref p, rfl, rfl, F.2.1, by rw [hvr]; simp, ?_⟩
          rw [hvr, List.dropLast_concat]
          exact ⟨_, _, k', _, _, _, _, _, rfl, M.popRow hb hv, hst, by rw [absL_snoc]; exact hq', by omega, fun _ => by rw [absL_snoc]; exact hub.swap, by rw [List.length_append]; simp only [List.length_cons, List.length_nil]; omega⟩
        | true =>
          refine iteF ?_
          obtain ⟨rfl, rfl⟩ := hq.calm0 (by simp only [qs, hc, if_true])
          refine ⟨_, rfl, p, _, 0, _, rfl, rfl, Evl.ex_t M.ex hp, rfl, rfl, _, rfl, ?_⟩
          refine ⟨_, rfl, p, _, 0, _, rfl, rfl, Evl.ex_t M.ex hp, rfl, rfl, _, rfl, ?_⟩
          refine ⟨_, rfl, p, _, 0, _, rfl, rfl, Evl.ex_t M.ex hp, rfl, rfl, _, rfl, ?_⟩
          refine ⟨(by show 1 ≤ sizeLine; decide), fun p2 hp2 => ?_⟩
          exact hQ p2 _ (l ++ [x]) _ (Evl.Ex.new (Evl.fresh_back M.ex hp2)) (M.newb hp2) (by rw [hls0, hb]) hst (by simp only [K14.due, AskV]; exact upd_same)
      | drw y wz =>
        simp only [RepS] at hRs
        obtain ⟨p, q0, ps0, rfl, hp, h1, hfz, hW⟩ := hRs
        have hO : y ∈ wds ns ∧ OkW (szf ns y) wz := by cases no <;> cases lo <;> simpa only [OkS] using hO
        obtain ⟨rfl, rfl⟩ := hq.calm0 (by simp [qs])
        have hWl := hW.length
        refine ⟨_, rfl, p, _, 0, _, rfl, rfl, Evl.ex_t M.ex hp, rfl, rfl, _, rfl, ?_⟩
        refine ⟨_, rfl, p, _, 0, _, rfl, rfl, Evl.ex_t M.ex hp, rfl, rfl, _, rfl, ?_⟩
        refine ⟨_, rfl, p, _, 0, _, rfl, rfl, Evl.ex_t M.ex hp, rfl, rfl, _, rfl, ?_⟩
        refine ⟨_, rfl, p, _, 0, _, rfl, rfl, Evl.ex_t M.ex hp, rfl, rfl, _, rfl, ?_⟩
        refine ⟨_, rfl, p, _, 2, _, rfl, rfl, Evl.ex_t M.ex hp, rfl, q0, rfl, ⟨_, Evl.ex_t M.ex h1⟩, fun D hD => ?_⟩
        refine lc_fn (walk_tup (xs := ps0.map V.ref)) (fun i => .int (((wz.getD i (0, 0)).2 : Nat) : Int)) (by rw [List.length_map]; have := hO.2.2.1; omega) hD (fun _ e => Evl.ex_t (M.ex.trans e) h1) ?_ ?_
        · rintro i y2 H1' H1 Z B hi2 e hl ⟨rfl, hx2⟩ hZ
          obtain ⟨a2, rfl, ha2⟩ := refs_get hx2
          obtain ⟨z, hz, hSz⟩ := hW.get ha2
          refine ⟨rfl, ?_⟩
          refine ⟨_, rfl, a2, _, 1, _, rfl, rfl, Evl.ex_t (M.ex.trans e) hSz, rfl, ?_⟩
          have er : wz.getD i (0, 0) = z := by rw [List.getD_eq_getElem?_getD, hz]; rfl
          rw [er] at hZ
          exact hZ _ (Evl.Ex.refl _)
        intro H6 e6 hd6
        have eL : (List.range (ps0.map V.ref).length).map (fun i => V.int (((wz.getD i (0, 0)).2 : Nat) : Int)) = (wz.map fun p => ((p.2 : Nat) : Int)).map V.int := by
          refine List.ext_getElem? fun i => ?_
          by_cases hi : i < wz.length
          · rw [List.getElem?_map, List.getElem?_range (by rw [List.length_map]; omega), List.getElem?_map, List.getElem?_map, List.getElem?_eq_getElem hi]
            simp [List.getD_eq_getElem?_getD, hi]
          · rw [List.getElem?_eq_none (by simp; omega), List.getElem?_eq_none (by simp; omega)]
        rw [eL] at hd6
        refine ⟨D, _, rfl, SqL.of hd6, ?_⟩
        rw [wheel_sum]
        have M1 := M.grow e6
        refine ⟨(by show 2 ≤ sizeLine; decide), fun p2 hp2 => ?_⟩
        exact hQ p2 _ (l ++ [x]) _ (Evl.Ex.new (Evl.fresh_back M1.ex hp2)) (M1.newb hp2) (by rw [hls0, hb]) hst (by simp only [K14.due, AskV]; exact upd_same)
      | cho ls2 bs2 =>
        simp only [RepS] at hRs
        obtain ⟨p, q0, ps0, rfl, hp, h1, hfz, hW⟩ := hRs
        have hO3 : ls2.length ≤ 3 := by
          cases no with
          | zero => simp [OkS] at hO
          | succ no => simp only [OkS] at hO; exact hO.2.1
        obtain ⟨rfl, rfl⟩ := hq.calm0 (by simp [qs])
        have hWl := hW.length.1
        refine ⟨_, rfl, p, _, 0, _, rfl, rfl, Evl.ex_t M.ex hp, rfl, rfl, _, rfl, ?_⟩
        refine ⟨_, rfl, p, _, 0, _, rfl, rfl, Evl.ex_t M.ex hp, rfl, rfl, _, rfl, ?_⟩
        refine ⟨_, rfl, p, _, 0, _, rfl, rfl, Evl.ex_t M.ex hp, rfl, rfl, _, rfl, ?_⟩
        refine ⟨_, rfl, p, _, 0, _, rfl, rfl, Evl.ex_t M.ex hp, rfl, rfl, _, rfl, ?_⟩
        refine ⟨_, rfl, p, _, 0, _, rfl, rfl, Evl.ex_t M.ex hp, rfl, rfl, _, rfl, ?_⟩
        refine ⟨_, rfl, p, _, 1, _, rfl, rfl, Evl.ex_t M.ex hp, rfl, q0, rfl, ⟨_, Evl.ex_t M.ex h1⟩, fun D hD => ?_⟩
        refine lc_fn (walk_tup (xs := ps0.map V.ref)) (fun i => .str (ls2.getD i "")) (by rw [List.length_map]; omega) hD (fun _ e => Evl.ex_t (M.ex.trans e) h1) ?_ ?_
        · rintro i y2 H1' H1 Z B hi2 e hl ⟨rfl, hx2⟩ hZ
          obtain ⟨a2, rfl, ha2⟩ := refs_get hx2
          obtain ⟨z, b3, bt3, us3, hz, _, hSz, _⟩ := hW.get ha2
          refine ⟨rfl, ?_⟩
          refine ⟨_, rfl, a2, _, 0, _, rfl, rfl, Evl.ex_t (M.ex.trans e) hSz, rfl, ?_⟩
          have er : ls2.getD i "" = z := by rw [List.getD_eq_getElem?_getD, hz]; rfl
          rw [er] at hZ
          exact hZ _ (Evl.Ex.refl _)
        intro H6 e6 hd6
        have eL : (List.range (ps0.map V.ref).length).map (fun i => V.str (ls2.getD i "")) = ls2.map V.str := by
          refine List.ext_getElem? fun i => ?_
          by_cases hi : i < ls2.length
          · rw [List.getElem?_map, List.getElem?_range (by rw [List.length_map]; omega), List.getElem?_map, List.getElem?_eq_getElem hi]
            simp [List.getD_eq_getElem?_getD, hi]
          · rw [List.getElem?_eq_none (by simp; omega), List.getElem?_eq_none (by simp; omega)]
        rw [eL] at hd6
        have M1 := M.known (M.grow e6) hD hd6
        refine ⟨(by show 2 ≤ sizeLine; decide), fun p2 hp2 => ?_⟩
        have ebD := Evl.Ex.new (o := .lst (ls2.map V.str)) (Evl.fresh_back M.ex hD)
        have ebP := Evl.Ex.new (o := .tup [.str "choose", .ref D]) (Evl.fresh_back M1.ex hp2)
        exact hQ p2 _ (l ++ [x]) _ (ebD.trans ebP) (M1.newb hp2) (by rw [hls0, hb]) hst (by simp only [K14.due, AskV]; exact ⟨D, upd_same, ebP _ _ upd_same⟩)
      | cal w2 =>
        simp only [RepS] at hRs
        obtain ⟨p, rfl, hp⟩ := hRs
        obtain ⟨rfl, rfl⟩ := hq.calm0 (by simp [qs])
        refine ⟨_, rfl, p, _, 0, _, rfl, rfl, Evl.ex_t M.ex hp, rfl, rfl, _, rfl, ?_⟩
        refine ⟨_, rfl, p, _, 0, _, rfl, rfl, Evl.ex_t M.ex hp, rfl, rfl, _, rfl, ?_⟩
        refine ⟨_, rfl, p, _, 0, _, rfl, rfl, Evl.ex_t M.ex hp, rfl, rfl, _, rfl, ?_⟩
        refine ⟨_, rfl, p, _, 0, _, rfl, rfl, Evl.ex_t M.ex hp, rfl, rfl, _, rfl, ?_⟩
        refine ⟨_, rfl, p, _, 0, _, rfl, rfl, Evl.ex_t M.ex hp, rfl, rfl, _, rfl, ?_⟩
        refine ⟨_, rfl, p, _, 0, _, rfl, rfl, Evl.ex_t M.ex hp, rfl, rfl, _, rfl, ?_⟩
        refine ⟨_, rfl, p, _, 1, _, rfl, rfl, Evl.ex_t M.ex hp, rfl, (by show 2 ≤ sizeLine; decide), fun p2 hp2 => ?_⟩
        exact hQ p2 _ (l ++ [x]) _ (Evl.Ex.new (Evl.fresh_back M.ex hp2)) (M.newb hp2) (by rw [hls0, hb]) hst (by simp only [K14.due, AskV]; exact upd_same)
  · rintro σ H4 ⟨ls, st, k, x2, x3, x4, x5, x6, rfl, M, hst, hq, hki, hub, hlk⟩
    have : (400 : Int).toNat = 400 := rfl
    omega

end
end K14
namespace K14
open PySem PySem.Spec PyProof.Rows L2 C8

theorem emp_back : Str.empty ++ ("back " : Str) = "back " := by decide +kernel
theorem emp_call : Str.empty ++ ("call " : Str) = "call " := by decide +kernel
theorem emp_cho : Str.empty ++ ("choose " : Str) = "choose " := by decide +kernel
theorem emp_turn : Str.empty ++ ("turn " : Str) = "turn " := by decide +kernel
theorem lfV_snoc (ls : List Lfr) (x : Lfr) : lfV ls ++ [V.ref x.f] = lfV (ls ++ [x]) := by simp [lfV]
section
variable {P : Program} {w : World} {K : PySem.W.Frag} {mg : Str → Option Value} {base : Heap} {k n : Nat} {ws : List Str}
abbrev N_l_value : List Str := ["pairs", "part", "wheel", "value", "weight"]
theorem sc_l_value : FnScope N_l_value ["pairs", "part"] (defScope (top 94)) := ⟨rfl, rfl, rfl, by decide +kernel, rfl, by decide +kernel, by decide +kernel⟩
/-- the value at a part of a wheel -/
def spValue (K : PySem.W.Frag) : Sp := fun vs H Q _ => ∃ (q : Addr) (ps : List Addr) (wz : List (Nat × Nat)) (k z : Nat), vs = [.ref q, .int (k : Int)] ∧ SqT K H q (ps.map V.ref) ∧ RepW K H wz ps ∧ wz.length ≤ 3 ∧ (∀ y ∈ wz, y.2 ≤ 12) ∧ (wheel wz)[k]? = some z ∧ ∀ H', Ex H H' → Q (.int (z : Int)) H'
theorem ok_l_value (T : Txt K mg)  : Cal P w K mg base 1 "_law_value" (spValue K) [] := by
  obtain ⟨fd, F⟩ := T.d__law_value
  refine ⟨_, fd, ["pairs", "part"], [], ?_, T.g__law_value, F.kp, F.bindsN fun _ _ _ _ _ _ us hl => match us, hl with | [_, _], _ => rfl, .nil⟩
  refine F.ok sc_l_value (fun vs H Q E h => by obtain ⟨_, _, _, _, _, rfl, _⟩ := h; rfl) (fun cdv A outer s H vs Q E hr h => ?_)
  have hu := hu_of hr
  refine ⟨_, PSs.nox (pss_cons (ps_set (i := 2) sc_l_value.nd rfl (Or.inl rfl) (pe_lst pa_nil))
      (pss_cons (ps_for PassesOwn.never rfl (pi_tup (pv 0)) (pg_tup (by rfl) (pgs_cons (pg_name (i := 3) sc_l_value.nd rfl (Or.inl rfl)) (pgs_cons (pg_name (i := 4) sc_l_value.nd rfl (Or.inl rfl)) pgs_nil))) (pss_one (ps_set (i := 2) sc_l_value.nd rfl (Or.inl rfl) (pe_op op_cat (pv 2) (pe_op op_rep (pe_lst (pa_cons (pv 3) pa_nil)) (pv 4))))))
      (pss_one (ps_ret (pe_ix ix_list (pv 2) (pv 1) (fun _ _ => rfl)))))), ?_⟩
  obtain ⟨q, ps, wz, k, z, rfl, hq, hW, l3, h12, hk, hQ⟩ := h
  have hl := hW.length
  refine ⟨Nat.zero_le _, fun F hF => ?_⟩
  have e0 := Evl.Ex.new (o := .lst []) hF
  refine ⟨_, rfl, q, rfl, ⟨_, Evl.ex_t e0 hq⟩, ?_⟩
  refine for_it (walk_tup (xs := ps.map V.ref)) (fun i σ H' => Ex H H' ∧ ∃ (F : Addr) (x3 x4 : Option V), σ = [some (.ref q), some (.int (k : Int)), some (.ref F), x3, x4] ∧ H' F = some (.lst ((wheel (wz.take i)).map fun v : Nat => V.int (v : Int))))
    ⟨e0, F, none, none, rfl, upd_same⟩ (fun i σ H' _ z => Evl.ex_t z.1 hq) ?_ ?_
  · clear hF e0 F
    rintro i y σ H1 H1' hi ⟨e1, F, x3, x4, rfl, hf1⟩ ⟨rfl, hy⟩
    obtain ⟨a, rfl, ha⟩ := refs_get hy
    obtain ⟨p, hp, hS⟩ := hW.get ha
    have hm := h12 p (List.mem_of_getElem? hp)
    have ht : (wheel (wz.take i)).length ≤ 36 := by
      have := wheel_len (wz.take i) fun y hy => h12 y (List.mem_of_mem_take hy)
      rw [List.length_take] at this
      omega
    refine ⟨a, _, rfl, Evl.ex_t e1 hS, rfl, _, _, rfl, _, _, rfl, rfl, ?_⟩
    refine ⟨_, rfl, _, rfl, (by show 1 ≤ sizeLine; decide), fun L hL => ?_⟩
    have e2 := Evl.Ex.new (o := .lst [.int (p.1 : Int)]) hL
    have sL : upd H1' L (.lst [.int (p.1 : Int)]) L = some (.lst [.int (p.1 : Int)]) := upd_same
    have hf2 := e2 _ _ hf1
    generalize upd H1' L (.lst [.int (p.1 : Int)]) = H2 at e2 sL hf2 ⊢
    refine ⟨_, rfl, L, (p.2 : Int), _, rfl, rfl, sL, by omega, by omega, ?_, fun R hR => ?_⟩
    · exact Nat.le_trans (show 1 * ((p.2 : Int)).toNat ≤ 100 by omega) (by decide)
    have er : (List.replicate ((p.2 : Int)).toNat [V.int (p.1 : Int)]).flatten = (List.replicate p.2 p.1).map fun v : Nat => V.int (v : Int) := by
      rw [Int.toNat_natCast, List.flatten_replicate_singleton, List.map_replicate]
    rw [er]
    have e3 := Evl.Ex.new (o := .lst ((List.replicate p.2 p.1).map fun v : Nat => V.int (v : Int))) hR
    have sR : upd H2 R (.lst ((List.replicate p.2 p.1).map fun v : Nat => V.int (v : Int))) R = some (.lst ((List.replicate p.2 p.1).map fun v : Nat => V.int (v : Int))) := upd_same
    have hf3 := e3 _ _ hf2
    generalize upd H2 R (.lst ((List.replicate p.2 p.1).map fun v : Nat => V.int (v : Int))) = H3 at e3 sR hf3 ⊢
    refine ⟨F, R, _, _, rfl, rfl, hf3, sR, ?_, fun N hN => ?_⟩
    · rw [List.length_map, List.length_map, List.length_replicate]
      exact Nat.le_trans (show _ ≤ 100 by omega) (by decide)
    have e4 := Evl.Ex.new (o := .lst (((wheel (wz.take i)).map fun v : Nat => V.int (v : Int)) ++ (List.replicate p.2 p.1).map fun v : Nat => V.int (v : Int))) hN
    refine ⟨((e1.trans e2).trans e3).trans e4, N, _, _, rfl, ?_⟩
    rw [upd_same, wheel_take wz i p hp, List.map_append]
  · rintro σ H1 ⟨e1, F, x3, x4, rfl, hf1⟩
    rw [List.take_of_length_le (by simp; omega)] at hf1
    exact ⟨_, rfl, _, rfl, F, _, _, _, rfl, rfl, SqL.of hf1, atI_nat (j := k) (by rw [List.getElem?_map, hk]; rfl), hQ H1 e1⟩

abbrev N_l_step : List Str := ["system", "game", "answer", "asked", "rows", "one"]
theorem sc_l_step : FnScope N_l_step ["system", "game", "answer"] (defScope (top 95)) := ⟨rfl, rfl, rfl, by decide +kernel, rfl, by decide +kernel, by decide +kernel⟩
/-- a step of a game that has just been asked -/
def spStepL (K : PySem.W.Frag) (ws : List Str) : Sp := fun vs H Q _ => ∃ (a gl sk ln : Addr) (Hb : Hp) (ns : NS) (us : US) (st : Nat) (ls : List Lfr) (lines : List Str) (v : V) (ao : Option Ans) (line : Str) (st2 : Nat) (fs2 : List Fr), vs = [.ref a, .ref gl, v] ∧ SysAt K Hb a ns us ∧ SysOk ns us ∧ wds ns = ws ∧ Lg K Hb H gl sk ln ns us st ls lines ∧ st < prodN (szs ns) ∧ qs ns st (absL ls) = none ∧ UB (absL ls) ∧ (∀ y, ao = some y → v = y.v) ∧ St1 ns us st (absL ls) ao line st2 fs2 ∧ lines.length ≤ 2000 ∧ ls.length ≤ 2000 ∧
  ∀ Hb' ls' H', Ex Hb Hb' → Lg K Hb' H' gl sk ln ns us st2 ls' (lines ++ [line]) → absL ls' = fs2 → Q .non H'
theorem ok_l_step (T : Txt K mg) (C_l_asks : Cal P w K mg base 8 "_law_asks" (spAsksL K ws) []) (C_l_value : Cal P w K mg base 1 "_law_value" (spValue K) []) (C_l_set : Cal P w K mg base 2 "_law_set" (spSet K) []) : Cal P w K mg base 9 "_law_step" (spStepL K ws) [] := by
  obtain ⟨fd, F⟩ := T.d__law_step
  refine ⟨_, fd, ["system", "game", "answer"], [], ?_, T.g__law_step, F.kp, F.bindsN fun _ _ _ _ _ _ us hl => match us, hl with | [_, _, _], _ => rfl, .nil⟩
  refine F.ok sc_l_step (fun vs H Q E h => by obtain ⟨_, _, _, _, _, _, _, _, _, _, _, _, _, _, _, rfl, _⟩ := h; rfl) (fun cdv A outer s H vs Q E hr h => ?_)
  have hu := hu_of hr
  refine ⟨_, PSs.nox (pss_cons (ps_set (i := 3) sc_l_step.nd rfl (Or.inl rfl) (pe_c C_l_asks hr (by omega) rfl (pa_cons (pv 0) (pa_cons (pv 1) pa_nil))))
      (pss_cons (ps_if (pt_cmpR op_eq (pe_ix ix_tup (pv 3) pe_int (fun _ _ => rfl)) pe_str (nomark _)) (pss_cons (ps_expr (pe_bm0 PySem.F.plainAttrs_list PySem.F.slot_list_pop PySem.F.type_list_pop mt_pop (pe_ix ix_list (pv 1) pe_int (fun _ _ => rfl))))
      (pss_cons (ps_expr (pe_bm PySem.F.plainAttrs_list PySem.F.slot_list_append PySem.F.type_list_append mt_append (pe_ix ix_list (pv 1) pe_int (fun _ _ => rfl)) (pa_cons (pe_op op_add_str pe_str (pe_ix ix_tup (pv 3) pe_int (fun _ _ => rfl))) pa_nil)))
      (pss_one ps_retN))) pss_nil)
      (pss_cons (ps_set (i := 4) sc_l_step.nd rfl (Or.inl rfl) (pe_ix ix_list (pe_ix ix_list (pe_ix ix_list (pv 1) pe_int (fun _ _ => rfl)) (pe_un un_neg pe_int) (fun _ _ => rfl)) pe_int (fun _ _ => rfl)))
      (pss_cons (ps_set (i := 5) sc_l_step.nd rfl (Or.inl rfl) (pe_ix ix_list (pv 4) (pe_un un_neg pe_int) (fun _ _ => rfl)))
      (pss_cons (ps_if (pt_cmpR op_eq (pe_ix ix_tup (pv 3) pe_int (fun _ _ => rfl)) pe_str (nomark _)) (pss_cons (ps_expr (pe_bm PySem.F.plainAttrs_list PySem.F.slot_list_append PySem.F.type_list_append mt_append (pe_ix ix_list (pv 1) pe_int (fun _ _ => rfl)) (pa_cons (pe_lst (pa_cons pe_non (pa_cons (pe_revL (pe_callTy call_list_of (by rfl) T.f_list (by decide +kernel) (pa_cons (pe_ix ix_tup (pv 5) pe_int (fun _ _ => rfl)) pa_nil))) pa_nil))) pa_nil)))
      (pss_cons (ps_expr (pe_bm PySem.F.plainAttrs_list PySem.F.slot_list_append PySem.F.type_list_append mt_append (pe_ix ix_list (pv 1) pe_int (fun _ _ => rfl)) (pa_cons pe_str pa_nil)))
      (pss_one ps_retN))) pss_nil)
      (pss_cons (ps_expr (pe_bm0 PySem.F.plainAttrs_list PySem.F.slot_list_pop PySem.F.type_list_pop mt_pop (pv 4)))
      (pss_one (ps_if (pt_cmpR op_eq (pe_ix ix_tup (pv 3) pe_int (fun _ _ => rfl)) pe_str (nomark _)) (pss_cons (ps_expr (pe_bm PySem.F.plainAttrs_list PySem.F.slot_list_append PySem.F.type_list_append mt_append (pe_ix ix_list (pv 1) pe_int (fun _ _ => rfl)) (pa_cons (pe_lst (pa_cons (pe_ix ix_tup (pv 5) pe_int (fun _ _ => rfl)) (pa_cons (pe_revL (pe_callTy call_list_of (by rfl) T.f_list (by decide +kernel) (pa_cons (pe_dget hu (pe_callTy (call_dictF rfl) (by rfl) T.f_dict (by decide +kernel) (pa_cons (pe_ix ix_tup (pv 0) pe_int (fun _ _ => rfl)) pa_nil)) (pe_ix ix_tup (pv 5) pe_int (fun _ _ => rfl)) (fun _ _ => rfl)) pa_nil))) pa_nil))) pa_nil)))
      (pss_one (ps_expr (pe_bm PySem.F.plainAttrs_list PySem.F.slot_list_append PySem.F.type_list_append mt_append (pe_ix ix_list (pv 1) pe_int (fun _ _ => rfl)) (pa_cons (pe_op op_add_str pe_str (pe_ix ix_tup (pv 5) pe_int (fun _ _ => rfl))) pa_nil))))) (pss_one (ps_if (pt_cmpR op_eq (pe_ix ix_tup (pv 3) pe_int (fun _ _ => rfl)) pe_str (nomark _)) (pss_cons (ps_expr (pe_bm PySem.F.plainAttrs_list PySem.F.slot_list_append PySem.F.type_list_append mt_append (pe_ix ix_list (pv 1) pe_int (fun _ _ => rfl)) (pa_cons (pe_lst (pa_cons pe_non (pa_cons (pe_revL (pe_callTy call_list_of (by rfl) T.f_list (by decide +kernel) (pa_cons (pe_dget hu (pe_callTy (call_dictF rfl) (by rfl) T.f_dict (by decide +kernel) (pa_cons (pe_ix ix_tup (pv 5) pe_int (fun _ _ => rfl)) pa_nil)) (pv 2) (fun _ _ => rfl)) pa_nil))) pa_nil))) pa_nil)))
      (pss_one (ps_expr (pe_bm PySem.F.plainAttrs_list PySem.F.slot_list_append PySem.F.type_list_append mt_append (pe_ix ix_list (pv 1) pe_int (fun _ _ => rfl)) (pa_cons (pe_op op_add_str pe_str (pv 2)) pa_nil))))) (pss_cons (ps_asg (pe_c C_l_set hr (by omega) rfl (pa_cons (pv 0) (pa_cons (pe_ix ix_list (pv 1) pe_int (fun _ _ => rfl)) (pa_cons (pe_ix ix_tup (pv 5) pe_int (fun _ _ => rfl)) (pa_cons (pe_c C_l_value hr (by omega) rfl (pa_cons (pe_ix ix_tup (pv 5) pe_int (fun _ _ => rfl)) (pa_cons (pv 2) pa_nil))) pa_nil))))) (pg_sub (pv 1) pe_int set_list))
      (pss_one (ps_expr (pe_bm PySem.F.plainAttrs_list PySem.F.slot_list_append PySem.F.type_list_append mt_append (pe_ix ix_list (pv 1) pe_int (fun _ _ => rfl)) (pa_cons (pe_op op_add_str (pe_op op_add_str (pe_op op_add_str pe_str (pe_callTy call_str_int (by rfl) T.f_str (by decide +kernel) (pa_cons (pv 2) pa_nil))) pe_str) (pe_callTy call_str_int (by rfl) T.f_str (by decide +kernel) (pa_cons (pe_ix ix_tup (pv 3) pe_int (fun _ _ => rfl)) pa_nil))) pa_nil))))))))))))))), ?_⟩
  obtain ⟨a, gl, sk, ln, Hb, ns, us, st, ls, lines, v', ao, line, st2, fs2, rfl, hS, hO, rfl, M, hst, hcalm, hub, hao, hs, hll, hlen, hQ⟩ := h
  refine ⟨_, rfl, _, rfl, a, gl, sk, ln, Hb, ns, us, st, ls, lines, 0, st, absL ls, rfl, hS, hO.nok, rfl, M, hst, .stay hcalm, by omega, fun _ => hub, by omega, fun p Hb1 ls1 H1 e1 M1 hls1 hst1 hA => ?_⟩
  have hlen1 : ls1.length = ls.length := by
    have := congrArg List.length hls1
    simpa [absL] using this
  have hS1 := hS.mono e1
  clear M hcalm hub
  generalize hfs : absL ls = fs at hs hls1 hA
  cases hs with
  | @back u r h8 =>
    have h8 := h8.hi
    obtain ⟨l, x, rfl, hxf, hlr⟩ := absL_top hls1
    simp only [K14.due, AskV] at hA
    rw [emp_back] at hQ
    refine ⟨_, rfl, p, _, 0, _, rfl, rfl, SqT.of (M1.ex _ _ hA), rfl, rfl, _, rfl, ?_⟩
    refine ⟨_, rfl, gl, _, 1, .ref sk, rfl, rfl, SqL.of M1.ob, rfl, .inl ⟨rfl, _, SqL.of M1.sq⟩, sk, _, _, rfl, rfl, M1.sq, (by simp [lfV]; rfl), ?_⟩
    have ed : (lfV (l ++ [x])).dropLast = lfV l := by simp [lfV]
    rw [ed]
    have M2 := M1.popFr
    generalize upd H1 sk (.lst (lfV l)) = H2 at M2 ⊢
    refine ⟨_, rfl, gl, _, 2, .ref ln, rfl, rfl, SqL.of M2.ob, rfl, .inl ⟨rfl, _, SqL.of M2.lq⟩, _, rfl, p, _, 1, _, rfl, rfl, SqT.of (M2.ex _ _ hA), rfl, _, _, rfl, rfl, Nat.le_trans (show 5 + u.length ≤ 100 by omega) (by decide), ?_⟩
    refine ⟨ln, _, _, rfl, rfl, M2.lq, Nat.lt_of_le_of_lt (show (lines.map V.str).length ≤ 3000 by rw [List.length_map]; omega) (by decide), ?_⟩
    exact hQ Hb1 l _ e1 (M2.line _) hlr
  | @loop o c w b r =>
    obtain ⟨l, x, rfl, hxf, hlr⟩ := absL_top hls1
    have hxu : x.u = o := congrArg Prod.fst hxf
    have hb : x.b = _ := congrArg Prod.snd hxf
    simp only at hxu hb
    have F := M1.fr x (by simp)
    obtain ⟨v0, vs, hv, hRs, hRb⟩ := RepL.head (hb ▸ F.2.2)
    have hvr : x.vs.reverse = vs.reverse ++ [v0] := by rw [hv, List.reverse_cons]
    have hBO := M1.ok x (by simp)
    simp only [List.length_append, List.length_cons, List.length_nil] at hlen1
    simp only [K14.due, AskV] at hA
    simp only [RepS] at hRs
    obtain ⟨p2, u1, bb, bs, rfl, hp, h1, h2, h3⟩ := hRs
    refine ⟨_, rfl, p, _, 0, _, rfl, rfl, SqT.of (M1.ex _ _ hA), rfl, rfl, _, rfl, ?_⟩
    refine ⟨_, rfl, gl, _, 1, .ref sk, rfl, rfl, SqL.of M1.ob, rfl, _, rfl, sk, _, _, _, rfl, rfl, SqL.of M1.sq, at_lastL, x.f, _, 1, .ref x.r, rfl, rfl, SqL.of F.1, rfl, ?_⟩
    refine ⟨_, rfl, _, rfl, x.r, _, _, .ref p2, rfl, rfl, SqL.of F.2.1, by rw [hv]; exact last_rev, ?_⟩
    refine ⟨_, rfl, p, _, 0, _, rfl, rfl, SqT.of (M1.ex _ _ hA), rfl, rfl, _, rfl, ?_⟩
    refine ⟨_, rfl, gl, _, 1, .ref sk, rfl, rfl, SqL.of M1.ob, rfl, .inl ⟨rfl, _, SqL.of M1.sq⟩, _, rfl, p2, _, 2, _, rfl, rfl, Evl.ex_t M1.ex hp, rfl, bb, bs, rfl, .inr (Evl.ex_t M1.ex h2), fun l2 hl2 => ?_⟩
    have Ma := M1.grow (Evl.Ex.new (o := .lst bs) hl2)
    have s2 : SqL K (upd H1 l2 (.lst bs)) l2 bs := SqL.of upd_same
    generalize upd H1 l2 (.lst bs) = Ha at Ma s2 ⊢
    refine ⟨l2, _, rfl, s2, fun l3 hl3 => ?_⟩
    have nl3 := Ma.fresh hl3
    have bl3 := Evl.fresh_back Ma.ex hl3
    have Mb := Ma.grow (Evl.Ex.new (o := .lst (bs).reverse) hl3)
    have s3 : upd Ha l3 (.lst (bs).reverse) l3 = some (.lst (bs).reverse) := upd_same
    generalize upd Ha l3 (.lst (bs).reverse) = Hc at Mb s3 ⊢
    refine ⟨(by show 2 ≤ sizeLine; decide), fun f hf => ?_⟩
    have nf := Mb.fresh hf
    have bf := Evl.fresh_back Mb.ex hf
    have nfl : f ≠ l3 := (ne_of_none s3 hf).symm
    have e9 := Evl.Ex.new (o := .lst [.non, .ref l3]) hf
    have Mc := Mb.grow e9
    have s3 := e9 _ _ s3
    have s4 : upd Hc f (.lst [.non, .ref l3]) f = some (.lst [uV none, .ref l3]) := upd_same
    generalize upd Hc f (.lst [.non, .ref l3]) = Hd at Mc s3 s4 ⊢
    refine ⟨sk, _, _, rfl, rfl, Mc.sq, Nat.lt_of_le_of_lt (show (lfV _).length ≤ 4000 by simp [lfV]; omega) (by decide), ?_⟩
    have Md := Mc.push (x := ⟨f, l3, none, w, bs⟩) s4 s3 h3 nf nl3 nfl bf bl3 (hBO.kid (by rw [hb]; exact List.mem_cons_self ..) (by simp [kids]))
    rw [← lfV_snoc] at Md
    generalize upd Hd sk _ = He at Md ⊢
    refine ⟨_, rfl, gl, _, 2, .ref ln, rfl, rfl, SqL.of Md.ob, rfl, .inl ⟨rfl, _, SqL.of Md.lq⟩, ?_⟩
    refine ⟨ln, _, _, rfl, rfl, Md.lq, Nat.lt_of_le_of_lt (show (lines.map V.str).length ≤ 3000 by rw [List.length_map]; omega) (by decide), ?_⟩
    exact hQ Hb1 _ _ e1 (Md.line _) (by rw [absL_snoc, hls1])
  | @call o v c b r hlk h8 =>
    have h8 := h8.hi
    obtain ⟨l, x, rfl, hxf, hlr⟩ := absL_top hls1
    have hxu : x.u = o := congrArg Prod.fst hxf
    have hb : x.b = _ := congrArg Prod.snd hxf
    simp only at hxu hb
    have F := M1.fr x (by simp)
    obtain ⟨v0, vs, hv, hRs, hRb⟩ := RepL.head (hb ▸ F.2.2)
    have hvr : x.vs.reverse = vs.reverse ++ [v0] := by rw [hv, List.reverse_cons]
    have hBO := M1.ok x (by simp)
    simp only [List.length_append, List.length_cons, List.length_nil] at hlen1
    simp only [K14.due, AskV] at hA
    simp only [RepS] at hRs
    obtain ⟨p2, rfl, hp⟩ := hRs
    rw [emp_call] at hQ
    refine ⟨_, rfl, p, _, 0, _, rfl, rfl, SqT.of (M1.ex _ _ hA), rfl, rfl, _, rfl, ?_⟩
    refine ⟨_, rfl, gl, _, 1, .ref sk, rfl, rfl, SqL.of M1.ob, rfl, _, rfl, sk, _, _, _, rfl, rfl, SqL.of M1.sq, at_lastL, x.f, _, 1, .ref x.r, rfl, rfl, SqL.of F.1, rfl, ?_⟩
    refine ⟨_, rfl, _, rfl, x.r, _, _, .ref p2, rfl, rfl, SqL.of F.2.1, by rw [hv]; exact last_rev, ?_⟩
    refine ⟨_, rfl, p, _, 0, _, rfl, rfl, SqT.of (M1.ex _ _ hA), rfl, rfl, _, rfl, ?_⟩
    refine ⟨_, rfl, .inl ⟨rfl, _, SqL.of F.2.1⟩, x.r, _, .ref p2, rfl, rfl, F.2.1, by rw [hvr]; simp, ?_⟩
    rw [hvr, List.dropLast_concat]
    have M2 := M1.popRow hb hv
    generalize upd H1 x.r (.lst vs.reverse) = H2 at M2 ⊢
    refine ⟨_, rfl, p, _, 0, _, rfl, rfl, SqT.of (M2.ex _ _ hA), rfl, rfl, _, rfl, ?_⟩
    obtain ⟨pn, pu, po, ou, ps, us0, ha, hpn, ho, hT, hpu, hou, hR⟩ := hS1.ex
    obtain ⟨kvs, hkv, hkk, hk3⟩ := unit_kvs hR
    have ha := Evl.ex_t M2.ex ha
    have hpu := M2.ex _ _ hpu
    have hkv := pk_mono M2.ex hkv
    have ndk : (kvs.map (·.1)).Nodup := by
      rw [hkk]
      have : (us.map fun u => (Sum.inr u.1 : Key)) = (us.map Prod.fst).map Sum.inr := by simp
      rw [this]
      exact List.Pairwise.map _ (fun a b hab e => hab (Sum.inr.inj e)) hO.und
    obtain ⟨iu, hiu⟩ := lookup_ix hlk
    obtain ⟨bt, hbt1, us5, hbt2, hbt3⟩ := hk3 iu _ hiu
    refine ⟨_, rfl, gl, _, 1, .ref sk, rfl, rfl, SqL.of M2.ob, rfl, .inl ⟨rfl, _, SqL.of M2.sq⟩, _, rfl, p2, _, 1, _, rfl, rfl, Evl.ex_t M2.ex hp, rfl, _, rfl, a, _, 1, _, rfl, rfl, ha, rfl, pu, ou, us0, kvs, rfl, hpu, hou, hkv, fun d hd0 => ?_⟩
    have hd : upd H2 d (.dK (mergeK [] kvs)) d = some (.dK kvs) := by rw [upd_same, merge_self ndk]
    have eD := Evl.Ex.new (o := .dK (mergeK [] kvs)) hd0
    have hget : DGet (upd H2 d (.dK (mergeK [] kvs))) d (.str v) (some (.ref bt)) := by
      have := DGet.k (k := .inr v) hd
      rw [valV_at ndk hbt1] at this
      exact this
    have M3 := M2.grow eD
    have hbt2 := Evl.ex_t M3.ex hbt2
    generalize upd H2 d (.dK (mergeK [] kvs)) = H3 at M3 hget hbt2 ⊢
    refine ⟨_, rfl, p2, _, 1, _, rfl, rfl, Evl.ex_t M3.ex hp, rfl, d, _, rfl, hget, bt, us5, rfl, .inr hbt2, fun l2 hl2 => ?_⟩
    have Ma := M3.grow (Evl.Ex.new (o := .lst us5) hl2)
    have s2 : SqL K (upd H3 l2 (.lst us5)) l2 us5 := SqL.of upd_same
    generalize upd H3 l2 (.lst us5) = Ha at Ma s2 ⊢
    refine ⟨l2, _, rfl, s2, fun l3 hl3 => ?_⟩
    have nl3 := Ma.fresh hl3
    have bl3 := Evl.fresh_back Ma.ex hl3
    have Mb := Ma.grow (Evl.Ex.new (o := .lst (us5).reverse) hl3)
    have s3 : upd Ha l3 (.lst (us5).reverse) l3 = some (.lst (us5).reverse) := upd_same
    generalize upd Ha l3 (.lst (us5).reverse) = Hc at Mb s3 ⊢
    refine ⟨(by show 2 ≤ sizeLine; decide), fun f hf => ?_⟩
    have nf := Mb.fresh hf
    have bf := Evl.fresh_back Mb.ex hf
    have nfl : f ≠ l3 := (ne_of_none s3 hf).symm
    have e9 := Evl.Ex.new (o := .lst [.str v, .ref l3]) hf
    have Mc := Mb.grow e9
    have s3 := e9 _ _ s3
    have s4 : upd Hc f (.lst [.str v, .ref l3]) f = some (.lst [uV (some v), .ref l3]) := upd_same
    generalize upd Hc f (.lst [.str v, .ref l3]) = Hd at Mc s3 s4 ⊢
    refine ⟨sk, _, _, rfl, rfl, Mc.sq, Nat.lt_of_le_of_lt (show (lfV _).length ≤ 4000 by simp [lfV]; omega) (by decide), ?_⟩
    have Md := Mc.push (x := ⟨f, l3, (some v), c, us5⟩) s4 s3 hbt3 nf nl3 nfl bf bl3 (hO.unit hlk)
    rw [← lfV_snoc] at Md
    generalize upd Hd sk _ = He at Md ⊢
    refine ⟨_, rfl, gl, _, 2, .ref ln, rfl, rfl, SqL.of Md.ob, rfl, .inl ⟨rfl, _, SqL.of Md.lq⟩, _, rfl, p2, _, 1, _, rfl, rfl, Evl.ex_t Md.ex hp, rfl, _, _, rfl, rfl, Nat.le_trans (show 5 + v.length ≤ 100 by omega) (by decide), ?_⟩
    refine ⟨ln, _, _, rfl, rfl, Md.lq, Nat.lt_of_le_of_lt (show (lines.map V.str).length ≤ 3000 by rw [List.length_map]; omega) (by decide), ?_⟩
    exact hQ _ _ _ e1 (Md.line _) (by rw [absL_snoc, absL_snoc, hlr, hxu])
  | @cho o ls2 bs lb b' b i r hi1 hi2 h8 l3 nd =>
    have h8 := h8.hi
    obtain ⟨l, x, rfl, hxf, hlr⟩ := absL_top hls1
    have hxu : x.u = o := congrArg Prod.fst hxf
    have hb : x.b = _ := congrArg Prod.snd hxf
    simp only at hxu hb
    have F := M1.fr x (by simp)
    obtain ⟨v0, vs, hv, hRs, hRb⟩ := RepL.head (hb ▸ F.2.2)
    have hvr : x.vs.reverse = vs.reverse ++ [v0] := by rw [hv, List.reverse_cons]
    have hBO := M1.ok x (by simp)
    simp only [List.length_append, List.length_cons, List.length_nil] at hlen1
    simp only [K14.due, AskV] at hA
    obtain ⟨al, hA, hal⟩ := hA
    simp only [RepS] at hRs
    obtain ⟨p2, q0, ps0, rfl, hp, hq0, hfz, hW⟩ := hRs
    rw [emp_cho] at hQ
    have hv := hao _ rfl
    subst hv
    obtain ⟨kvs, hk1, hk2, hk3⟩ := RepP.kvs hW
    obtain ⟨bt, hbt1, us5, hbt2, hbt3⟩ := hk3 i lb b' hi1 hi2
    have ndk : (kvs.map (·.1)).Nodup := by
      rw [hk2]
      exact List.Pairwise.map _ (fun a b hab e => hab (Sum.inr.inj e)) nd
    refine ⟨_, rfl, p, _, 0, _, rfl, rfl, SqT.of (M1.ex _ _ hA), rfl, rfl, _, rfl, ?_⟩
    refine ⟨_, rfl, gl, _, 1, .ref sk, rfl, rfl, SqL.of M1.ob, rfl, _, rfl, sk, _, _, _, rfl, rfl, SqL.of M1.sq, at_lastL, x.f, _, 1, .ref x.r, rfl, rfl, SqL.of F.1, rfl, ?_⟩
    refine ⟨_, rfl, _, rfl, x.r, _, _, .ref p2, rfl, rfl, SqL.of F.2.1, by rw [hv]; exact last_rev, ?_⟩
    refine ⟨_, rfl, p, _, 0, _, rfl, rfl, SqT.of (M1.ex _ _ hA), rfl, rfl, _, rfl, ?_⟩
    refine ⟨_, rfl, .inl ⟨rfl, _, SqL.of F.2.1⟩, x.r, _, .ref p2, rfl, rfl, F.2.1, by rw [hvr]; simp, ?_⟩
    rw [hvr, List.dropLast_concat]
    have M2 := M1.popRow hb hv
    generalize upd H1 x.r (.lst vs.reverse) = H2 at M2 ⊢
    refine ⟨_, rfl, p, _, 0, _, rfl, rfl, SqT.of (M2.ex _ _ hA), rfl, rfl, _, rfl, ?_⟩
    refine ⟨_, rfl, p, _, 0, _, rfl, rfl, SqT.of (M2.ex _ _ hA), rfl, rfl, _, rfl, ?_⟩
    obtain ⟨oq, hoq, hod⟩ := hfz.mono M2.ex
    refine ⟨_, rfl, gl, _, 1, .ref sk, rfl, rfl, SqL.of M2.ob, rfl, .inl ⟨rfl, _, SqL.of M2.sq⟩, _, rfl, p2, _, 1, _, rfl, rfl, Evl.ex_t M2.ex hp, rfl, q0, oq, ps0, kvs, rfl, hoq, hod, pk_mono M2.ex hk1, fun d hd0 => ?_⟩
    have hd : upd H2 d (.dK (mergeK [] kvs)) d = some (.dK kvs) := by rw [upd_same, merge_self ndk]
    have eD := Evl.Ex.new (o := .dK (mergeK [] kvs)) hd0
    have hget : DGet (upd H2 d (.dK (mergeK [] kvs))) d (.str lb) (some (.ref bt)) := by
      have := DGet.k (k := .inr lb) hd
      rw [valV_at ndk hbt1] at this
      exact this
    have M3 := M2.grow eD
    have hbt2 := Evl.ex_t M3.ex hbt2
    generalize upd H2 d (.dK (mergeK [] kvs)) = H3 at M3 hget hbt2 ⊢
    refine ⟨_, rfl, d, _, rfl, hget, bt, us5, rfl, .inr hbt2, fun l2 hl2 => ?_⟩
    have Ma := M3.grow (Evl.Ex.new (o := .lst us5) hl2)
    have s2 : SqL K (upd H3 l2 (.lst us5)) l2 us5 := SqL.of upd_same
    generalize upd H3 l2 (.lst us5) = Ha at Ma s2 ⊢
    refine ⟨l2, _, rfl, s2, fun l3 hl3 => ?_⟩
    have nl3 := Ma.fresh hl3
    have bl3 := Evl.fresh_back Ma.ex hl3
    have Mb := Ma.grow (Evl.Ex.new (o := .lst (us5).reverse) hl3)
    have s3 : upd Ha l3 (.lst (us5).reverse) l3 = some (.lst (us5).reverse) := upd_same
    generalize upd Ha l3 (.lst (us5).reverse) = Hc at Mb s3 ⊢
    refine ⟨(by show 2 ≤ sizeLine; decide), fun f hf => ?_⟩
    have nf := Mb.fresh hf
    have bf := Evl.fresh_back Mb.ex hf
    have nfl : f ≠ l3 := (ne_of_none s3 hf).symm
    have e9 := Evl.Ex.new (o := .lst [.non, .ref l3]) hf
    have Mc := Mb.grow e9
    have s3 := e9 _ _ s3
    have s4 : upd Hc f (.lst [.non, .ref l3]) f = some (.lst [uV none, .ref l3]) := upd_same
    generalize upd Hc f (.lst [.non, .ref l3]) = Hd at Mc s3 s4 ⊢
    refine ⟨sk, _, _, rfl, rfl, Mc.sq, Nat.lt_of_le_of_lt (show (lfV _).length ≤ 4000 by simp [lfV]; omega) (by decide), ?_⟩
    have Md := Mc.push (x := ⟨f, l3, none, b', us5⟩) s4 s3 hbt3 nf nl3 nfl bf bl3 (hBO.kid (by rw [hb]; exact List.mem_cons_self ..) (List.mem_of_getElem? hi2))
    rw [← lfV_snoc] at Md
    generalize upd Hd sk _ = He at Md ⊢
    refine ⟨_, rfl, gl, _, 2, .ref ln, rfl, rfl, SqL.of Md.ob, rfl, .inl ⟨rfl, _, SqL.of Md.lq⟩, _, rfl, _, _, rfl, rfl, Nat.le_trans (show 7 + lb.length ≤ 100 by omega) (by decide), ?_⟩
    refine ⟨ln, _, _, rfl, rfl, Md.lq, Nat.lt_of_le_of_lt (show (lines.map V.str).length ≤ 3000 by rw [List.length_map]; omega) (by decide), ?_⟩
    exact hQ _ _ _ e1 (Md.line _) (by rw [absL_snoc, absL_snoc, hlr, hxu])
  | @drw o y wz kk z b r hk hW hy =>
    obtain ⟨l, x, rfl, hxf, hlr⟩ := absL_top hls1
    have hxu : x.u = o := congrArg Prod.fst hxf
    have hb : x.b = _ := congrArg Prod.snd hxf
    simp only at hxu hb
    have F := M1.fr x (by simp)
    obtain ⟨v0, vs, hv, hRs, hRb⟩ := RepL.head (hb ▸ F.2.2)
    have hvr : x.vs.reverse = vs.reverse ++ [v0] := by rw [hv, List.reverse_cons]
    have hBO := M1.ok x (by simp)
    simp only [List.length_append, List.length_cons, List.length_nil] at hlen1
    simp only [K14.due, AskV] at hA
    simp only [RepS] at hRs
    obtain ⟨p2, q0, ps0, rfl, hp, hq0, hfz, hWz⟩ := hRs
    have hv := hao _ rfl
    subst hv
    have h12 : ∀ y ∈ wz, y.2 ≤ 12 := fun y hy => (hW.2.2.2 y hy).2.2.2
    have hwl := wheel_len wz h12
    have l3 := hW.2.1
    have hkl := (List.getElem?_eq_some_iff.mp hk).1
    have lk := dec_len kk (by omega)
    have lw := dec_len (wheel wz).length (by omega)
    refine ⟨_, rfl, p, _, 0, _, rfl, rfl, SqT.of (M1.ex _ _ hA), rfl, rfl, _, rfl, ?_⟩
    refine ⟨_, rfl, gl, _, 1, .ref sk, rfl, rfl, SqL.of M1.ob, rfl, _, rfl, sk, _, _, _, rfl, rfl, SqL.of M1.sq, at_lastL, x.f, _, 1, .ref x.r, rfl, rfl, SqL.of F.1, rfl, ?_⟩
    refine ⟨_, rfl, _, rfl, x.r, _, _, .ref p2, rfl, rfl, SqL.of F.2.1, by rw [hv]; exact last_rev, ?_⟩
    refine ⟨_, rfl, p, _, 0, _, rfl, rfl, SqT.of (M1.ex _ _ hA), rfl, rfl, _, rfl, ?_⟩
    refine ⟨_, rfl, .inl ⟨rfl, _, SqL.of F.2.1⟩, x.r, _, .ref p2, rfl, rfl, F.2.1, by rw [hvr]; simp, ?_⟩
    rw [hvr, List.dropLast_concat]
    have M2 := M1.popRow hb hv
    generalize upd H1 x.r (.lst vs.reverse) = H2 at M2 ⊢
    refine ⟨_, rfl, p, _, 0, _, rfl, rfl, SqT.of (M2.ex _ _ hA), rfl, rfl, _, rfl, ?_⟩
    refine ⟨_, rfl, p, _, 0, _, rfl, rfl, SqT.of (M2.ex _ _ hA), rfl, rfl, _, rfl, ?_⟩
    refine ⟨_, rfl, _, rfl, gl, _, 0, _, rfl, rfl, SqL.of M2.ob, rfl, _, rfl, p2, _, 1, _, rfl, rfl, Evl.ex_t M2.ex hp, rfl, _, rfl, p2, _, 2, _, rfl, rfl, Evl.ex_t M2.ex hp, rfl, _, rfl, ?_⟩
    refine ⟨q0, ps0, wz, kk, z, rfl, Evl.ex_t M2.ex hq0, hWz.mono M2.ex, l3, h12, hk, fun H3 e3 => ?_⟩
    have M3 := M2.grow e3
    refine ⟨a, ns, us, st, y, _, rfl, hS1.mono M3.ex, hO.nok, hst, hy, fun H4 e4 => ?_⟩
    have M4 := M3.grow e4
    refine ⟨_, rfl, gl, _, _, _, rfl, rfl, M4.ob, rfl, ?_⟩
    have M5 := M4.store (setN ns st y (z : Int))
    have hst5 : upd H4 gl (.lst ([V.int (st : Int), .ref sk, .ref ln].set (Int.toNat 0) (.int ((setN ns st y (z : Int) : Nat) : Int)))) = upd H4 gl (.lst [V.int ((setN ns st y (z : Int) : Nat) : Int), .ref sk, .ref ln]) := rfl
    rw [hst5]
    generalize upd H4 gl (.lst [V.int ((setN ns st y (z : Int) : Nat) : Int), .ref sk, .ref ln]) = H5 at M5 ⊢
    refine ⟨_, rfl, gl, _, 2, .ref ln, rfl, rfl, SqL.of M5.ob, rfl, .inl ⟨rfl, _, SqL.of M5.lq⟩, ?_⟩
    refine ⟨_, rfl, _, rfl, Nat.lt_of_le_of_lt (Nat.log2_le_self _) (show ((kk : Nat) : Int).natAbs < 1920 by omega), ?_⟩
    refine ⟨_, _, rfl, rfl, Nat.le_trans (show 5 + (toString ((kk : Nat) : Int) : Str).length ≤ 100 by omega) (by decide), ?_⟩
    refine ⟨_, _, rfl, rfl, Nat.le_trans (show (("turn " : Str) ++ (toString ((kk : Nat) : Int) : Str)).length + 4 ≤ 100 by rw [strLen_append]; show 5 + (toString ((kk : Nat) : Int) : Str).length + 4 ≤ 100; omega) (by decide), ?_⟩
    refine ⟨_, rfl, p, _, 1, _, rfl, rfl, SqT.of (M5.ex _ _ hA), rfl, _, rfl, Nat.lt_of_le_of_lt (Nat.log2_le_self _) (show (((wheel wz).length : Nat) : Int).natAbs < 1920 by omega), ?_⟩
    refine ⟨_, _, rfl, rfl, Nat.le_trans (show ((("turn " : Str) ++ (toString ((kk : Nat) : Int) : Str)) ++ " of ").length + (toString (((wheel wz).length : Nat) : Int) : Str).length ≤ 100 by rw [strLen_append, strLen_append]; show 5 + (toString ((kk : Nat) : Int) : Str).length + 4 + (toString (((wheel wz).length : Nat) : Int) : Str).length ≤ 100; omega) (by decide), ?_⟩
    refine ⟨ln, _, _, rfl, rfl, M5.lq, Nat.lt_of_le_of_lt (show (lines.map V.str).length ≤ 3000 by rw [List.length_map]; omega) (by decide), ?_⟩
    have ht : turnS kk (wheel wz).length = ((("turn " : Str) ++ (toString ((kk : Nat) : Int) : Str)) ++ " of ") ++ (toString (((wheel wz).length : Nat) : Int) : Str) := by
      unfold turnS
      rw [emp_turn]
    rw [ht] at hQ
    exact hQ _ _ _ e1 (M5.line _) (by rw [absL_snoc, hlr, hxu])

end
end K14
namespace K14
open PySem PySem.Spec PyProof.Rows L2 C8

section
variable {K : PySem.W.Frag} {Hb H H' : Hp} {gl sk ln b : Addr} {ns : NS} {us : US} {st : Nat} {ls : List Lfr} {lines : List Str}
/-- a list that is known has changed -/
theorem Lg.boxgo (M : Lg K Hb H gl sk ln ns us st ls lines) {xs ys : List V} (hb : Hb b = some (.lst xs)) (g : Go [b] H H') (h : H' b = some (.lst ys)) : Lg K (upd Hb b (.lst ys)) H' gl sk ln ns us st ls lines := by
  have ne : ∀ a, a ∈ own gl sk ln ls → a ≠ b := fun a ha z => by
    have := M.hb a ha
    rw [z, hb] at this
    cases this
  have at' : ∀ a o, a ∈ own gl sk ln ls → H a = some o → H' a = some o := fun a o ha h => g.at h (by simp [ne a ha])
  have k : Kt Hb (upd Hb b (.lst ys)) := kt_put (.inr ⟨xs, hb⟩)
  refine ⟨fun a u ha => ?_, at' _ _ own_g M.ob, at' _ _ own_s M.sq, at' _ _ own_l M.lq, M.nd, fun a ha => by rw [upd_ne (ne a ha)]; exact M.hb a ha, fun x hx => ⟨at' _ _ (own_f hx) (M.fr x hx).1, at' _ _ (own_r hx) (M.fr x hx).2.1, (M.fr x hx).2.2.kt k⟩, M.ok⟩
  by_cases z : a = b
  · rw [z, upd_same] at ha
    rw [z, h]
    exact ha
  · rw [upd_ne z] at ha
    exact g.at (M.ex a u ha) (by simp [z])
/-- a list beside the game, new or known -/
theorem Lg.put (M : Lg K Hb H gl sk ln ns us st ls lines) {xs ys : List V} (hb : Hb b = some (.lst xs)) : Lg K (upd Hb b (.lst ys)) (upd H b (.lst ys)) gl sk ln ns us st ls lines :=
  M.boxgo hb (fun a o ha t => by
    have : a ≠ b := fun z => by
      rcases t with t | t
      · have := M.ex _ _ hb
        rw [z, this] at ha
        cases ha
        cases t
      · exact t (by simp [z])
    rw [upd_ne this]; exact ha) upd_same
end
theorem RepL.kt1 {K : PySem.W.Frag} {H H' : Hp} (e : Kt H H') {b : List Sm} {us : List V} (h : RepL K H b us) : RepL K H' b us := h.kt e
/-- an item as it may be -/
def AnsOk : Ans → Prop
  | .lab l => WordOk l
  | .num k => k < 100
theorem SO.qub {ns : NS} {k st st' : Nat} {fs fs' : List Fr} (q : Qt ns k st fs st' fs') (h : UB fs) : UB fs' := by
  induction q with
  | stay _ => exact h
  | turn h0 r ih => exact ih (qs_ub h h0)
theorem ub_ne {fs : List Fr} (h : UB fs) : fs ≠ [] := fun z => by rw [z] at h; exact h
theorem absL_cons {f : Fr} {r : List Fr} (h : absL [] = f :: r) : False := by
  have := congrArg List.length h
  simp [absL] at this
theorem absL_len (ls : List Lfr) : (absL ls).length = ls.length := by simp [absL]
theorem wheel_pos {sz : Nat} {wz : List (Nat × Nat)} (h : OkW sz wz) : 0 < (wheel wz).length ∧ (wheel wz).length ≤ 36 := by
  obtain ⟨h2, h3, _, h4⟩ := h
  have h5 := wheel_len wz fun z hz => (h4 z hz).2.2.2
  refine ⟨?_, by omega⟩
  match wz, h2 with
  | p :: r, _ =>
    have := (h4 p (List.mem_cons_self ..)).2.2.1
    simp only [wheel, List.flatMap_cons, List.length_append, List.length_replicate]
    omega
section
variable {P : Program} {w : World} {K : PySem.W.Frag} {mg : Str → Option Value} {base : Heap} {k n : Nat} {ws : List Str}
abbrev N_l_play : List Str := ["system", "store", "answers", "most_steps", "game", "used", "turn", "asked", "answer"]
theorem sc_l_play : FnScope N_l_play ["system", "store", "answers", "most_steps"] (defScope (top 97)) := ⟨rfl, rfl, rfl, by decide +kernel, rfl, by decide +kernel, by decide +kernel⟩
/-- what play is to tell -/
def spPlayL (K : PySem.W.Frag) (ws : List Str) : Sp := fun vs H Q _ => ∃ (a : Addr) (st N : Nat) (v : V) (ns : NS) (us pre : US) (un : Str) (b : List Sm) (xs : List V) (lines : List Str) (e : Option Nat), vs = [.ref a, .int (st : Int), v, .int (N : Int)] ∧ SysAt K H a ns us ∧ SysOk ns us ∧ wds ns = ws ∧ st < prodN (szs ns) ∧ N ≤ 2000 ∧ Its K H v xs ∧ us = pre ++ [(un, b)] ∧ Pl ns us N st [(some un, b)] xs lines e ∧
  ∀ p l H', Ex H H' → H l = none → H' p = some (.tup [.ref l, endV e]) → H' l = some (.lst (lines.map V.str)) → Q (.ref p) H'
theorem fn_l_play (T : Txt K mg) (C_l_begun : Cal P w K mg base 1 "_law_begun" (spBegun K) []) (C_l_asks : Cal P w K mg base 8 "_law_asks" (spAsksL K ws) []) (C_l_step : Cal P w K mg base 9 "_law_step" (spStepL K ws) []) {fd : FuncData} (F : FunD K "_law_play" "_law_play" (defArgs (top 97)) (defBody (top 97)) (defScope (top 97)) [] [] (He.ga K "_law_play") fd) : FnOk P w K mg base C8.CX0 10 (He.ga K "_law_play") fd ["system", "store", "answers", "most_steps"] (spPlayL K ws) := by
  refine F.ok sc_l_play (fun vs H Q E h => by obtain ⟨_, _, _, _, _, _, _, _, _, _, _, _, rfl, _⟩ := h; rfl) (fun cdv A outer s H vs Q E hr h => ?_)
  have hu := hu_of hr
  refine ⟨_, PSs.nox (pss_cons (ps_par (i := 4) (j := 5) (by rfl) sc_l_play.nd rfl rfl (by decide) rfl rfl (pa_cons (pe_c C_l_begun hr (by omega) rfl (pa_cons (pv 0) (pa_cons (pv 1) pa_nil))) (pa_cons pe_int pa_nil)) (by rfl))
      (pss_cut (ps_for PassesOwn.never rfl (pi_range1 (by rfl) T.f_range (pa_cons (pv 3) pa_nil)) (pg_name (i := 6) sc_l_play.nd rfl (Or.inl rfl)) (pss_cons (ps_par (i := 7) (j := 8) (by rfl) sc_l_play.nd rfl rfl (by decide) rfl rfl (pa_cons (pe_c C_l_asks hr (by omega) rfl (pa_cons (pv 0) (pa_cons (pv 4) pa_nil))) (pa_cons pe_non pa_nil)) (by rfl))
      (pss_cons (ps_if (pt_cmpR op_eq (pe_ix ix_tup (pv 7) pe_int (fun _ _ => rfl)) pe_str (nomark _)) (pss_one ps_break) pss_nil)
      (pss_cons (ps_if (pt_cmpR op_in_seq (pe_ix ix_tup (pv 7) pe_int (fun _ _ => rfl)) (pe_lst (pa_cons pe_str (pa_cons pe_str pa_nil))) rfl) (pss_cons (ps_if (pt_cmpR op_eq (pv 5) (pe_callB call_len_seq (by rfl) T.f_len (by decide +kernel) (pa_cons (pv 2) pa_nil)) (nomark _)) (pss_one ps_break) pss_nil)
      (pss_cons (ps_set (i := 8) sc_l_play.nd rfl (Or.inl rfl) (pe_ix ix_seq (pv 2) (pv 5) (fun _ _ => rfl)))
      (pss_one (ps_set (i := 5) sc_l_play.nd rfl (Or.inl rfl) (pe_op op_add (pv 5) pe_int))))) pss_nil)
      (pss_one (ps_expr (pe_c C_l_step hr (by omega) rfl (pa_cons (pv 0) (pa_cons (pv 4) (pa_cons (pv 8) pa_nil))))))))))
      (pss_one (ps_ret (pe_tup (pa_cons (pe_ix ix_list (pv 4) pe_int (fun _ _ => rfl)) (pa_cons (pe_ifExp (pt_cmpR (op_eq0 hr.units) (pe_ix ix_list (pv 4) pe_int (fun _ _ => rfl)) (pe_lst pa_nil) (nomark _)) (pe_ix ix_list (pv 4) pe_int (fun _ _ => rfl)) pe_non) pa_nil))))))), ?_⟩
  obtain ⟨a, st, N, v, ns, us, pre, un, b, xs, lines, e, rfl, hS, hO, rfl, hst, hN, hA, hU, hP, hQ⟩ := h
  obtain ⟨pA, rfl, hpA⟩ := hA
  refine ⟨_, rfl, _, rfl, a, st, ns, us, pre, un, b, rfl, hS, hO, hU, fun gl sk ln x H0 e0 M0 hxu hxb => ⟨_, _, rfl, ?_⟩⟩
  have habs : absL [x] = [(some un, b)] := by simp [absL, hxu, hxb]
  have hlnN : H ln = none := M0.hb _ own_l
  refine ⟨fun σ H' => ∃ (Hb : Hp) (ls : List Lfr) (st' : Nat) (x5 x6 x7 x8 : Option V), σ = [some (.ref a), some (.int (st : Int)), some (.ref pA), some (.int (N : Int)), some (.ref gl), x5, x6, x7, x8] ∧ Ex H Hb ∧ Lg K Hb H' gl sk ln ns us st' ls lines ∧ ((ls = [] ∧ e = some st') ∨ (ls ≠ [] ∧ e = none)), ?_, ?_⟩
  · refine ⟨_, rfl, (N : Int), rfl, by omega, by omega, ?_⟩
    refine for_it (walk_range (lo := 0) (n := (N : Int).toNat)) (fun i σ H' => ∃ (Hb : Hp) (ls : List Lfr) (st' m : Nat) (l1 l2 : List Str) (tk : Nat) (x6 x7 x8 : Option V), σ = [some (.ref a), some (.int (st : Int)), some (.ref pA), some (.int (N : Int)), some (.ref gl), some (.int (tk : Int)), x6, x7, x8] ∧ Ex H Hb ∧ Lg K Hb H' gl sk ln ns us st' ls l1 ∧ st' < prodN (szs ns) ∧ m + i = N ∧ l1.length ≤ i ∧ tk ≤ xs.length ∧ lines = l1 ++ l2 ∧ Pl ns us m st' (absL ls) (xs.drop tk) l2 e)
      ⟨H, [x], st, N, [], lines, 0, none, none, none, rfl, Evl.Ex.refl _, M0, hst, rfl, Nat.le_refl _, Nat.zero_le _, rfl, by rw [habs]; exact hP⟩ (fun _ _ _ _ _ => trivial) ?_ ?_
    · clear M0 hP habs e0
      rintro i y σ H1' H1 hi ⟨Hb, ls, st', m, l1, l2, tk, x6, x7, x8, rfl, ec, M, hst', hmi, hl1, htk, hlin, hP⟩ ⟨rfl, rfl⟩
      obtain ⟨n, rfl⟩ : ∃ n, m = n + 1 := ⟨m - 1, by omega⟩
      have hpA1 : ∀ {H' : Hp}, Ex H H' → SqL K H' pA xs ∨ SqT K H' pA xs := fun e => hpA.imp (Evl.ex_l e) (Evl.ex_t e)
      generalize hfs : absL ls = fs at hP
      generalize hxs : xs.drop tk = ys at hP
      refine ⟨_, rfl, _, rfl, ?_⟩
      cases hP with
      | over =>
        refine ⟨a, gl, sk, ln, Hb, ns, us, st', ls, l1, 0, st', [], rfl, hS.mono ec, hO.nok, rfl, M, hst', by rw [hfs]; exact .stay (by simp [qs]), by omega, fun z => absurd hfs z, by have := absL_nil hfs; subst this; simp, fun p Hb1 ls1 H2 e1 M1 hls1 hst1 hA => ⟨_, _, rfl, ?_⟩⟩
        simp only [K14.due, AskV] at hA
        refine ⟨_, rfl, p, _, 0, _, rfl, rfl, SqT.of (M1.ex _ _ hA), rfl, rfl, _, rfl, ?_⟩
        exact ⟨Hb1, ls1, st', _, _, _, _, rfl, ec.trans e1, by rw [hlin, List.append_nil]; exact M1, .inl ⟨absL_nil hls1, rfl⟩⟩
      | @want _ _ k st2 f0 r0 fs2 q ask hp ub =>
        have hqb : k ≤ 300 ∧ ls.length ≤ 300 := by
          have h1 := q.len
          have h2 := fs_len (f0 :: r0)
          have h3 := absL_len ls
          rw [hfs] at h3
          omega
        refine ⟨a, gl, sk, ln, Hb, ns, us, st', ls, l1, k, st2, fs2, rfl, hS.mono ec, hO.nok, rfl, M, hst', by rw [hfs]; exact q, by omega, fun _ => by rw [hfs]; exact ub, by omega, fun p Hb1 ls1 H2 e1 M1 hls1 hst1 hA => ⟨_, _, rfl, ?_⟩⟩
        have hub1 := SO.qub q ub
        have hq2l : ls1.length ≤ 300 := by
          have h1 := q.len
          have h2 := fs_len fs2
          have h3 := absL_len ls1
          rw [hls1] at h3
          omega
        have hA1 := hpA1 (ec.trans e1)
        have hnt : tk = xs.length := drop_nil hxs htk
        obtain ⟨kd, xs', hkd, hA⟩ : ∃ (kd : Str) (xs' : List V), (kd = "choose" ∨ kd = "turn") ∧ Hb1 p = some (.tup (.str kd :: xs')) := by
          generalize K14.due fs2 = du at ask hA
          cases du with
          | cho l2 b2 => obtain ⟨al, h1, h2⟩ := hA; exact ⟨_, _, .inl rfl, h1⟩
          | drw x wz => exact ⟨_, _, .inr rfl, hA⟩
          | _ => simp [Due.asks] at ask
        have hne2 : ls1 ≠ [] := fun z => ub_ne hub1 (by rw [← hls1, z]; rfl)
        rcases hkd with rfl | rfl
        · refine ⟨_, rfl, p, _, 0, _, rfl, rfl, SqT.of (M1.ex _ _ hA), atI_nat (j := 0) rfl, rfl, _, rfl, ?_⟩
          refine ⟨_, rfl, p, _, 0, _, rfl, rfl, SqT.of (M1.ex _ _ hA), atI_nat (j := 0) rfl, (by show 2 ≤ sizeLine; decide), fun qq hqq => ?_⟩
          have M2 := M1.grow (Evl.Ex.new (o := .lst [.str "choose", .str "turn"]) hqq)
          have sqq : SqL K (upd H2 qq (.lst [.str "choose", .str "turn"])) qq [.str "choose", .str "turn"] := SqL.of upd_same
          generalize upd H2 qq (.lst [.str "choose", .str "turn"]) = H3 at M2 sqq ⊢
          refine ⟨qq, _, rfl, .inl sqq, rfl, rfl, _, rfl, ?_⟩
          refine iteTo (by decide +kernel) ?_
          refine ⟨_, rfl, _, rfl, pA, xs, rfl, hpA1 (ec.trans (e1.trans M2.ex)), rfl, _, rfl, ?_⟩
          refine iteTo (decide_eq_true (by rw [hnt])) ?_
          exact ⟨Hb1, ls1, st2, _, _, _, _, rfl, ec.trans e1, by rw [hlin, List.append_nil]; exact M2, .inr ⟨hne2, rfl⟩⟩
        · refine ⟨_, rfl, p, _, 0, _, rfl, rfl, SqT.of (M1.ex _ _ hA), atI_nat (j := 0) rfl, rfl, _, rfl, ?_⟩
          refine ⟨_, rfl, p, _, 0, _, rfl, rfl, SqT.of (M1.ex _ _ hA), atI_nat (j := 0) rfl, (by show 2 ≤ sizeLine; decide), fun qq hqq => ?_⟩
          have M2 := M1.grow (Evl.Ex.new (o := .lst [.str "choose", .str "turn"]) hqq)
          have sqq : SqL K (upd H2 qq (.lst [.str "choose", .str "turn"])) qq [.str "choose", .str "turn"] := SqL.of upd_same
          generalize upd H2 qq (.lst [.str "choose", .str "turn"]) = H3 at M2 sqq ⊢
          refine ⟨qq, _, rfl, .inl sqq, rfl, rfl, _, rfl, ?_⟩
          refine iteTo (by decide +kernel) ?_
          refine ⟨_, rfl, _, rfl, pA, xs, rfl, hpA1 (ec.trans (e1.trans M2.ex)), rfl, _, rfl, ?_⟩
          refine iteTo (decide_eq_true (by rw [hnt])) ?_
          exact ⟨Hb1, ls1, st2, _, _, _, _, rfl, ec.trans e1, by rw [hlin, List.append_nil]; exact M2, .inr ⟨hne2, rfl⟩⟩
      | @step _ _ k st2 st3 f0 r0 fs2 fs3 line _ ls' _ q s hp ub t =>
        have hqb : k ≤ 300 ∧ ls.length ≤ 300 := by
          have h1 := q.len
          have h2 := fs_len (f0 :: r0)
          have h3 := absL_len ls
          rw [hfs] at h3
          omega
        refine ⟨a, gl, sk, ln, Hb, ns, us, st', ls, l1, k, st2, fs2, rfl, hS.mono ec, hO.nok, rfl, M, hst', by rw [hfs]; exact q, by omega, fun _ => by rw [hfs]; exact ub, by omega, fun p Hb1 ls1 H2 e1 M1 hls1 hst1 hA => ⟨_, _, rfl, ?_⟩⟩
        have hub1 := SO.qub q ub
        have hq2l : ls1.length ≤ 300 := by
          have h1 := q.len
          have h2 := fs_len fs2
          have h3 := absL_len ls1
          rw [hls1] at h3
          omega
        have hA1 := hpA1 (ec.trans e1)
        cases s with
        | @back u r h8 =>
        · simp only [K14.due, AskV] at hA
          refine ⟨_, rfl, p, _, 0, _, rfl, rfl, SqT.of (M1.ex _ _ hA), rfl, rfl, _, rfl, ?_⟩
          refine ⟨_, rfl, p, _, 0, _, rfl, rfl, SqT.of (M1.ex _ _ hA), rfl, (by show 2 ≤ sizeLine; decide), fun qq hqq => ?_⟩
          have M2 := M1.grow (Evl.Ex.new (o := .lst [.str "choose", .str "turn"]) hqq)
          have sqq : SqL K (upd H2 qq (.lst [.str "choose", .str "turn"])) qq [.str "choose", .str "turn"] := SqL.of upd_same
          generalize upd H2 qq (.lst [.str "choose", .str "turn"]) = H3 at M2 sqq ⊢
          refine ⟨qq, _, rfl, .inl sqq, rfl, rfl, _, rfl, ?_⟩
          refine iteFo (by decide +kernel) ?_
          refine ⟨_, rfl, _, rfl, _, rfl, a, gl, sk, ln, Hb1, ns, us, st2, ls1, l1, .non, none, _, _, _, rfl, hS.mono (ec.trans e1), hO, rfl, M2, hst1, by rw [hls1]; exact q.calm, by rw [hls1]; exact hub1, (fun y z => by cases z), by rw [hls1]; exact .back h8, by omega, by omega, fun Hb2 ls2 H5 e2 M3 hls2 => ?_⟩
          exact ⟨Hb2, ls2, _, n, _, ls', tk, _, _, _, rfl, (ec.trans e1).trans e2, M3, hst1, by omega, by rw [List.length_append]; simp; omega, by omega, by rw [hlin]; simp, by rw [hls2, hxs]; exact t⟩
          | @loop o c w b2 r =>
        · simp only [K14.due, AskV] at hA
          refine ⟨_, rfl, p, _, 0, _, rfl, rfl, SqT.of (M1.ex _ _ hA), rfl, rfl, _, rfl, ?_⟩
          refine ⟨_, rfl, p, _, 0, _, rfl, rfl, SqT.of (M1.ex _ _ hA), rfl, (by show 2 ≤ sizeLine; decide), fun qq hqq => ?_⟩
          have M2 := M1.grow (Evl.Ex.new (o := .lst [.str "choose", .str "turn"]) hqq)
          have sqq : SqL K (upd H2 qq (.lst [.str "choose", .str "turn"])) qq [.str "choose", .str "turn"] := SqL.of upd_same
          generalize upd H2 qq (.lst [.str "choose", .str "turn"]) = H3 at M2 sqq ⊢
          refine ⟨qq, _, rfl, .inl sqq, rfl, rfl, _, rfl, ?_⟩
          refine iteFo (by decide +kernel) ?_
          refine ⟨_, rfl, _, rfl, _, rfl, a, gl, sk, ln, Hb1, ns, us, st2, ls1, l1, .non, none, _, _, _, rfl, hS.mono (ec.trans e1), hO, rfl, M2, hst1, by rw [hls1]; exact q.calm, by rw [hls1]; exact hub1, (fun y z => by cases z), by rw [hls1]; exact .loop, by omega, by omega, fun Hb2 ls2 H5 e2 M3 hls2 => ?_⟩
          exact ⟨Hb2, ls2, _, n, _, ls', tk, _, _, _, rfl, (ec.trans e1).trans e2, M3, hst1, by omega, by rw [List.length_append]; simp; omega, by omega, by rw [hlin]; simp, by rw [hls2, hxs]; exact t⟩
          | @call o w c b2 r hlk h8 =>
        · simp only [K14.due, AskV] at hA
          refine ⟨_, rfl, p, _, 0, _, rfl, rfl, SqT.of (M1.ex _ _ hA), rfl, rfl, _, rfl, ?_⟩
          refine ⟨_, rfl, p, _, 0, _, rfl, rfl, SqT.of (M1.ex _ _ hA), rfl, (by show 2 ≤ sizeLine; decide), fun qq hqq => ?_⟩
          have M2 := M1.grow (Evl.Ex.new (o := .lst [.str "choose", .str "turn"]) hqq)
          have sqq : SqL K (upd H2 qq (.lst [.str "choose", .str "turn"])) qq [.str "choose", .str "turn"] := SqL.of upd_same
          generalize upd H2 qq (.lst [.str "choose", .str "turn"]) = H3 at M2 sqq ⊢
          refine ⟨qq, _, rfl, .inl sqq, rfl, rfl, _, rfl, ?_⟩
          refine iteFo (by decide +kernel) ?_
          refine ⟨_, rfl, _, rfl, _, rfl, a, gl, sk, ln, Hb1, ns, us, st2, ls1, l1, .non, none, _, _, _, rfl, hS.mono (ec.trans e1), hO, rfl, M2, hst1, by rw [hls1]; exact q.calm, by rw [hls1]; exact hub1, (fun y z => by cases z), by rw [hls1]; exact .call hlk h8, by omega, by omega, fun Hb2 ls2 H5 e2 M3 hls2 => ?_⟩
          exact ⟨Hb2, ls2, _, n, _, ls', tk, _, _, _, rfl, (ec.trans e1).trans e2, M3, hst1, by omega, by rw [List.length_append]; simp; omega, by omega, by rw [hlin]; simp, by rw [hls2, hxs]; exact t⟩
      | @item _ _ k st2 st3 f0 r0 fs2 fs3 line aa xs' ls' _ q s hp ub t =>
        have hqb : k ≤ 300 ∧ ls.length ≤ 300 := by
          have h1 := q.len
          have h2 := fs_len (f0 :: r0)
          have h3 := absL_len ls
          rw [hfs] at h3
          omega
        refine ⟨a, gl, sk, ln, Hb, ns, us, st', ls, l1, k, st2, fs2, rfl, hS.mono ec, hO.nok, rfl, M, hst', by rw [hfs]; exact q, by omega, fun _ => by rw [hfs]; exact ub, by omega, fun p Hb1 ls1 H2 e1 M1 hls1 hst1 hA => ⟨_, _, rfl, ?_⟩⟩
        have hub1 := SO.qub q ub
        have hq2l : ls1.length ≤ 300 := by
          have h1 := q.len
          have h2 := fs_len fs2
          have h3 := absL_len ls1
          rw [hls1] at h3
          omega
        have hA1 := hpA1 (ec.trans e1)
        obtain ⟨hx1, hx2, hx3⟩ := drop_ix hxs
        have hst4 := s.lt hO.nok hst1
        cases s with
        | @cho o ls3 bs lb b' b2 i2 r h1 h2 h3 h4 h5 =>
        · simp only [K14.due, AskV] at hA
          obtain ⟨al, hA, hal⟩ := hA
          refine ⟨_, rfl, p, _, 0, _, rfl, rfl, SqT.of (M1.ex _ _ hA), rfl, rfl, _, rfl, ?_⟩
          refine ⟨_, rfl, p, _, 0, _, rfl, rfl, SqT.of (M1.ex _ _ hA), rfl, (by show 2 ≤ sizeLine; decide), fun qq hqq => ?_⟩
          have M2 := M1.grow (Evl.Ex.new (o := .lst [.str "choose", .str "turn"]) hqq)
          have sqq : SqL K (upd H2 qq (.lst [.str "choose", .str "turn"])) qq [.str "choose", .str "turn"] := SqL.of upd_same
          generalize upd H2 qq (.lst [.str "choose", .str "turn"]) = H3 at M2 sqq ⊢
          refine ⟨qq, _, rfl, .inl sqq, rfl, rfl, _, rfl, ?_⟩
          refine iteTo (by decide +kernel) ?_
          refine ⟨_, rfl, _, rfl, pA, xs, rfl, hpA1 (ec.trans (e1.trans M2.ex)), rfl, _, rfl, ?_⟩
          refine iteFo (decide_eq_false (fun z => by have := V.int.inj z; omega)) ?_
          refine ⟨_, rfl, _, rfl, its_ix (hpA1 (ec.trans (e1.trans M2.ex))) (atI_nat hx1) ?_⟩
          refine ⟨_, rfl, _, _, rfl, rfl, ?_⟩
          refine ⟨_, rfl, _, rfl, _, rfl, a, gl, sk, ln, Hb1, ns, us, st2, ls1, l1, .str lb, some (.lab lb), _, _, _, rfl, hS.mono (ec.trans e1), hO, rfl, M2, hst1, by rw [hls1]; exact q.calm, by rw [hls1]; exact hub1, (fun y z => by cases z; rfl), by rw [hls1]; exact .cho h1 h2 h3 h4 h5, by omega, by omega, fun Hb2 ls2 H5 e2 M3 hls2 => ?_⟩
          exact ⟨Hb2, ls2, _, n, _, ls', tk + 1, _, _, _, rfl, (ec.trans e1).trans e2, M3, hst4, by omega, by rw [List.length_append]; simp; omega, by omega, by rw [hlin]; simp, by rw [hls2, hx2]; exact t⟩
          | @drw o x wz kk z b2 r h1 h2 hx =>
        · simp only [K14.due, AskV] at hA
          refine ⟨_, rfl, p, _, 0, _, rfl, rfl, SqT.of (M1.ex _ _ hA), rfl, rfl, _, rfl, ?_⟩
          refine ⟨_, rfl, p, _, 0, _, rfl, rfl, SqT.of (M1.ex _ _ hA), rfl, (by show 2 ≤ sizeLine; decide), fun qq hqq => ?_⟩
          have M2 := M1.grow (Evl.Ex.new (o := .lst [.str "choose", .str "turn"]) hqq)
          have sqq : SqL K (upd H2 qq (.lst [.str "choose", .str "turn"])) qq [.str "choose", .str "turn"] := SqL.of upd_same
          generalize upd H2 qq (.lst [.str "choose", .str "turn"]) = H3 at M2 sqq ⊢
          refine ⟨qq, _, rfl, .inl sqq, rfl, rfl, _, rfl, ?_⟩
          refine iteTo (by decide +kernel) ?_
          refine ⟨_, rfl, _, rfl, pA, xs, rfl, hpA1 (ec.trans (e1.trans M2.ex)), rfl, _, rfl, ?_⟩
          refine iteFo (decide_eq_false (fun z => by have := V.int.inj z; omega)) ?_
          refine ⟨_, rfl, _, rfl, its_ix (hpA1 (ec.trans (e1.trans M2.ex))) (atI_nat hx1) ?_⟩
          refine ⟨_, rfl, _, _, rfl, rfl, ?_⟩
          refine ⟨_, rfl, _, rfl, _, rfl, a, gl, sk, ln, Hb1, ns, us, st2, ls1, l1, .int (kk : Nat), some (.num kk), _, _, _, rfl, hS.mono (ec.trans e1), hO, rfl, M2, hst1, by rw [hls1]; exact q.calm, by rw [hls1]; exact hub1, (fun y z => by cases z; rfl), by rw [hls1]; exact .drw h1 h2 hx, by omega, by omega, fun Hb2 ls2 H5 e2 M3 hls2 => ?_⟩
          exact ⟨Hb2, ls2, _, n, _, ls', tk + 1, _, _, _, rfl, (ec.trans e1).trans e2, M3, hst4, by omega, by rw [List.length_append]; simp; omega, by omega, by rw [hlin]; simp, by rw [hls2, hx2]; exact t⟩
    · rintro σ H1 ⟨Hb, ls, st', m, l1, l2, tk, x6, x7, x8, rfl, ec, M, hst', hmi, hl1, htk, hlin, hP⟩
      have : m = 0 := by omega
      subst this
      generalize hfs : absL ls = fs at hP
      cases hP with
      | over =>
        have := absL_nil hfs
        subst this
        exact ⟨Hb, [], st', _, _, _, _, rfl, ec, by rw [hlin, List.append_nil]; exact M, .inl ⟨rfl, rfl⟩⟩
      | cut => exact ⟨Hb, ls, st', _, _, _, _, rfl, ec, by rw [hlin, List.append_nil]; exact M, .inr ⟨fun z => absL_cons (z ▸ hfs), rfl⟩⟩
  · rintro σ H4 ⟨Hb, ls, st', x5, x6, x7, x8, rfl, ec, M, hend⟩
    refine ⟨_, rfl, gl, _, 2, .ref ln, rfl, rfl, SqL.of M.ob, rfl, ?_⟩
    refine ⟨_, rfl, gl, _, 1, .ref sk, rfl, rfl, SqL.of M.ob, rfl, Nat.zero_le _, fun q hq => ?_⟩
    have M1 := M.grow (Evl.Ex.new (o := .lst []) hq)
    have sq1 : SqL K (upd H4 q (.lst [])) q [] := SqL.of upd_same
    generalize upd H4 q (.lst []) = H5 at M1 sq1 ⊢
    refine ⟨sk, q, lfV ls, rfl, rfl, SqL.of M1.sq, sq1, _, rfl, ?_⟩
    rcases hend with ⟨rfl, rfl⟩ | ⟨hne, rfl⟩
    · refine iteT ?_
      refine ⟨_, rfl, gl, _, 0, _, rfl, rfl, SqL.of M1.ob, rfl, (by show 2 ≤ sizeLine; decide), fun p hp => ?_⟩
      have eP := Evl.Ex.new (o := .tup [.ref ln, .int (st' : Int)]) hp
      exact hQ p ln _ ((ec.trans M1.ex).trans eP) hlnN upd_same (eP _ _ M1.lq)
    · have : (lfV ls).isEmpty = false := by
        cases ls with
        | nil => exact absurd rfl hne
        | cons a r => rfl
      rw [this]
      refine iteF ?_
      refine ⟨(by show 2 ≤ sizeLine; decide), fun p hp => ?_⟩
      have eP := Evl.Ex.new (o := .tup [.ref ln, .non]) hp
      exact hQ p ln _ ((ec.trans M1.ex).trans eP) hlnN upd_same (eP _ _ M1.lq)
theorem ok_l_play (T : Txt K mg) (C_l_begun : Cal P w K mg base 1 "_law_begun" (spBegun K) []) (C_l_asks : Cal P w K mg base 8 "_law_asks" (spAsksL K ws) []) (C_l_step : Cal P w K mg base 9 "_law_step" (spStepL K ws) []) : Cal P w K mg base 10 "_law_play" (spPlayL K ws) [] := by
  obtain ⟨fd, F⟩ := T.d__law_play
  exact ⟨_, fd, ["system", "store", "answers", "most_steps"], [], fn_l_play T C_l_begun C_l_asks C_l_step F, T.g__law_play, F.kp, F.bindsN fun _ _ _ _ _ _ us hl => match us, hl with | [_, _, _, _], _ => rfl, .nil⟩

end
end K14
namespace K14
open PySem PySem.Spec PyProof.Rows L2 C8

section
variable {P : Program} {w : World} {K : PySem.W.Frag} {mg : Str → Option Value} {base : Heap} {k n : Nat} {ws : List Str}
abbrev N_l_answers : List Str := ["box", "system", "store", "most", "game", "found", "turn", "asked", "answer"]
theorem sc_l_answers : FnScope N_l_answers ["box", "system", "store", "most"] (defScope (top 96)) := ⟨rfl, rfl, rfl, by decide +kernel, rfl, by decide +kernel, by decide +kernel⟩
/-- items that fit are drawn along a game -/
def spAnswers (K : PySem.W.Frag) (ws : List Str) : Sp := fun vs H Q _ => ∃ (b a : Addr) (st N c : Nat) (ns : NS) (us pre : US) (un : Str) (b0 : List Sm), vs = [.ref b, .ref a, .int (st : Int), .int (N : Int)] ∧ Box H b c ∧ c + 50 ≤ 900000 ∧ N ≤ 30 ∧ SysAt K H a ns us ∧ SysOk ns us ∧ wds ns = ws ∧ st < prodN (szs ns) ∧ us = pre ++ [(un, b0)] ∧
  ∀ F is H', Go [b] H H' → Box H' b (c + 50) → H F = none → H' F = some (.lst (is.map Ans.v)) → Dr ns us N st [(some un, b0)] is → is.length ≤ N → (∀ y ∈ is, AnsOk y) → Q (.ref F) H'
theorem fn_l_answers (T : Txt K mg) (C_l_take : Cal P w K mg base 1 "_law_take" spTakeG []) (C_l_begun : Cal P w K mg base 1 "_law_begun" (spBegun K) []) (C_l_asks : Cal P w K mg base 8 "_law_asks" (spAsksL K ws) []) (C_l_step : Cal P w K mg base 9 "_law_step" (spStepL K ws) []) {fd : FuncData} (F : FunD K "_law_answers" "_law_answers" (defArgs (top 96)) (defBody (top 96)) (defScope (top 96)) [] [] (He.ga K "_law_answers") fd) : FnOk P w K mg base C8.CX0 10 (He.ga K "_law_answers") fd ["box", "system", "store", "most"] (spAnswers K ws) := by
  refine F.ok sc_l_answers (fun vs H Q E h => by obtain ⟨_, _, _, _, _, _, _, _, _, _, rfl, _⟩ := h; rfl) (fun cdv A outer s H vs Q E hr h => ?_)
  have hu := hu_of hr
  refine ⟨_, PSs.nox (pss_cons (ps_par (i := 4) (j := 5) (by rfl) sc_l_answers.nd rfl rfl (by decide) rfl rfl (pa_cons (pe_c C_l_begun hr (by omega) rfl (pa_cons (pv 1) (pa_cons (pv 2) pa_nil))) (pa_cons (pe_lst pa_nil) pa_nil)) (by rfl))
      (pss_cons (ps_for PassesOwn.never rfl (pi_range1 (by rfl) T.f_range (pa_cons (pv 3) pa_nil)) (pg_name (i := 6) sc_l_answers.nd rfl (Or.inl rfl)) (pss_cons (ps_par (i := 7) (j := 8) (by rfl) sc_l_answers.nd rfl rfl (by decide) rfl rfl (pa_cons (pe_c C_l_asks hr (by omega) rfl (pa_cons (pv 1) (pa_cons (pv 4) pa_nil))) (pa_cons pe_non pa_nil)) (by rfl))
      (pss_cons (ps_if (pt_cmpR op_eq (pe_ix ix_tup (pv 7) pe_int (fun _ _ => rfl)) pe_str (nomark _)) (pss_one ps_break) pss_nil)
      (pss_cons (ps_if (pt_cmpR op_eq (pe_ix ix_tup (pv 7) pe_int (fun _ _ => rfl)) pe_str (nomark _)) (pss_one (ps_set (i := 8) sc_l_answers.nd rfl (Or.inl rfl) (pe_ix ix_list (pe_ix ix_tup (pv 7) pe_int (fun _ _ => rfl)) (pe_c C_l_take hr (by omega) rfl (pa_cons (pv 0) (pa_cons (pe_callB call_len_seq (by rfl) T.f_len (by decide +kernel) (pa_cons (pe_ix ix_tup (pv 7) pe_int (fun _ _ => rfl)) pa_nil)) pa_nil))) (fun _ _ => rfl)))) pss_nil)
      (pss_cons (ps_if (pt_cmpR op_eq (pe_ix ix_tup (pv 7) pe_int (fun _ _ => rfl)) pe_str (nomark _)) (pss_one (ps_set (i := 8) sc_l_answers.nd rfl (Or.inl rfl) (pe_c C_l_take hr (by omega) rfl (pa_cons (pv 0) (pa_cons (pe_ix ix_tup (pv 7) pe_int (fun _ _ => rfl)) pa_nil))))) pss_nil)
      (pss_cons (ps_if (pt_cmpR op_notN (pv 8) pe_non (nomark _)) (pss_one (ps_expr (pe_bm PySem.F.plainAttrs_list PySem.F.slot_list_append PySem.F.type_list_append mt_append (pv 5) (pa_cons (pv 8) pa_nil)))) pss_nil)
      (pss_one (ps_expr (pe_c C_l_step hr (by omega) rfl (pa_cons (pv 1) (pa_cons (pv 4) (pa_cons (pv 8) pa_nil))))))))))))
      (pss_one (ps_ret (pv 5))))), ?_⟩
  obtain ⟨b, a, st, N, c, ns, us, pre, un, b0, rfl, B, hc, hN, hS, hO, rfl, hst, hU, hQ⟩ := h
  refine ⟨_, rfl, _, rfl, a, st, ns, us, pre, un, b0, rfl, hS, hO, hU, fun gl sk ln x H0 e0 M0 hxu hxb => ?_⟩
  refine ⟨Nat.zero_le _, fun F hF => ⟨_, _, rfl, ?_⟩⟩
  have hF0 : H F = none := Evl.fresh_back e0 hF
  have nFb : F ≠ b := B.ne hF0
  have habs : absL [x] = [(some un, b0)] := by simp [absL, hxu, hxb]
  have M0 := M0.newb (o := .lst []) hF
  have G0 : Go [b] H (upd H F (.lst [])) := (Go.refl H).app hF0
  have B0 : Box (upd H F (.lst [])) b c := B.ex (Evl.Ex.new hF0)
  have hFb0 : upd H F (.lst []) F = some (.lst []) := upd_same
  generalize upd H F (.lst []) = Hb0 at M0 G0 B0 hFb0
  generalize upd H0 F (.lst []) = H1 at M0 ⊢
  clear hF e0
  refine ⟨_, rfl, (N : Int), rfl, by omega, by omega, ?_⟩
  refine for_it (walk_range (lo := 0) (n := (N : Int).toNat)) (fun i σ H' => ∃ (Hb : Hp) (ls : List Lfr) (st' m : Nat) (dn : List Ans) (l1 : List Str) (x6 x7 x8 : Option V), σ = [some (.ref b), some (.ref a), some (.int (st : Int)), some (.int (N : Int)), some (.ref gl), some (.ref F), x6, x7, x8] ∧ Go [b] H Hb ∧ Box Hb b (c + i) ∧ Hb F = some (.lst (dn.map Ans.v)) ∧ Lg K Hb H' gl sk ln ns us st' ls l1 ∧ st' < prodN (szs ns) ∧ SO us (absL ls) ∧ m + i = N ∧ dn.length ≤ i ∧ (∀ y ∈ dn, AnsOk y) ∧ l1.length ≤ i ∧ ∀ rest, Dr ns us m st' (absL ls) rest → Dr ns us N st [(some un, b0)] (dn ++ rest))
    ⟨Hb0, [x], st, N, [], [], none, none, none, rfl, G0, B0, hFb0, M0, hst, by rw [habs]; exact SO.start hO hU, rfl, Nat.le_refl _, (fun y hy => by cases hy), Nat.le_refl _, fun rest hr => by rw [habs] at hr; exact hr⟩ (fun _ _ _ _ _ => trivial) ?_ ?_
  · clear M0 G0 B0 hFb0 habs
    rintro i y σ H1' H1 hi ⟨Hb, ls, st', m, dn, l1, x6, x7, x8, rfl, G, B, hFb, M, hst', hSO, hmi, hdl, hdk, hl1, hDr⟩ ⟨rfl, rfl⟩
    obtain ⟨n, rfl⟩ : ∃ n, m = n + 1 := ⟨m - 1, by omega⟩
    have hSb := hS.kt G.kt
    refine ⟨_, rfl, _, rfl, ?_⟩
    cases hfs : absL ls with
    | nil =>
      refine ⟨a, gl, sk, ln, Hb, ns, us, st', ls, l1, 0, st', [], rfl, hSb, hO.nok, rfl, M, hst', by rw [hfs]; exact .stay (by simp [qs]), by omega, fun z => absurd hfs z, by have := absL_nil hfs; subst this; simp, fun p Hb1 ls1 H2 e1 M1 hls1 hst1 hA => ⟨_, _, rfl, ?_⟩⟩
      simp only [K14.due, AskV] at hA
      refine ⟨_, rfl, p, _, 0, _, rfl, rfl, SqT.of (M1.ex _ _ hA), rfl, rfl, _, rfl, ?_⟩
      have hD := hDr [] (by rw [hfs]; exact .over hst')
      rw [List.append_nil] at hD
      exact ⟨_, rfl, hQ F dn H2 ((G.trans (go e1)).trans (go M1.ex)) (((B.ex e1).ex M1.ex).mono (by omega)) hF0 (M1.ex _ _ (e1 _ _ hFb)) hD (by omega) hdk⟩
    | cons f0 r0 =>
      rw [hfs] at hSO
      have ub := hSO.ub
      have hp246 := SO.ph hO hSO
      have hp : phF (f0 :: r0) ≤ 300 := by omega
      obtain ⟨k, st2, fs2, hk, q⟩ := Qt.total ns 246 st' (f0 :: r0) hp246
      have hSO2 := hSO.qt q
      have hub1 := SO.qub q ub
      have hD := SO.due hO hSO2 (ub_ne hub1) q.calm
      have hqb : k ≤ 300 ∧ ls.length ≤ 300 := by
        have h1 := q.len
        have h2 := fs_len (f0 :: r0)
        have h3 := absL_len ls
        rw [hfs] at h3
        omega
      rw [hfs] at hDr
      refine ⟨a, gl, sk, ln, Hb, ns, us, st', ls, l1, k, st2, fs2, rfl, hSb, hO.nok, rfl, M, hst', by rw [hfs]; exact q, by omega, fun _ => by rw [hfs]; exact ub, by omega, fun p Hb1 ls1 H2 e1 M1 hls1 hst1 hA => ⟨_, _, rfl, ?_⟩⟩
      have hq2l : ls1.length ≤ 300 := by
        have h1 := q.len
        have h2 := fs_len fs2
        have h3 := absL_len ls1
        rw [hls1] at h3
        omega
      have hS1 := hSb.mono e1
      cases hD with
      | @back u r h8 =>
        simp only [K14.due, AskV] at hA
        refine ⟨_, rfl, p, _, 0, _, rfl, rfl, SqT.of (M1.ex _ _ hA), rfl, rfl, _, rfl, ?_⟩
        refine ⟨_, rfl, p, _, 0, _, rfl, rfl, SqT.of (M1.ex _ _ hA), rfl, rfl, _, rfl, ?_⟩
        refine ⟨_, rfl, p, _, 0, _, rfl, rfl, SqT.of (M1.ex _ _ hA), rfl, rfl, _, rfl, ?_⟩
        refine ⟨_, rfl, rfl, _, rfl, ?_⟩
        refine iteFo (by decide +kernel) ?_
        refine ⟨_, rfl, _, rfl, _, rfl, a, gl, sk, ln, Hb1, ns, us, st2, ls1, l1, .non, none, _, _, _, rfl, hS1, hO, rfl, M1, hst1, by rw [hls1]; exact q.calm, by rw [hls1]; exact hub1, (fun y z => by cases z), by rw [hls1]; exact (.back h8), by omega, by omega, fun Hb2 ls2 H5 e2 M9 hls2 => ?_⟩
        exact ⟨Hb2, ls2, _, n, dn, _, _, _, _, rfl, (G.trans (go (e1.trans e2))), (B.ex (e1.trans e2)).mono (by omega), (e1.trans e2) _ _ hFb, M9, hst1, by rw [hls2]; exact SO.step (st := st2) hO (.back h8) hSO2, by omega, by omega, hdk, by rw [List.length_append]; simp; omega, fun rest hr => by
          rw [hls2] at hr
          exact hDr rest (.step q (.back h8) hp ub hr)⟩
      | @loop o cc w b2 r =>
        simp only [K14.due, AskV] at hA
        refine ⟨_, rfl, p, _, 0, _, rfl, rfl, SqT.of (M1.ex _ _ hA), rfl, rfl, _, rfl, ?_⟩
        refine ⟨_, rfl, p, _, 0, _, rfl, rfl, SqT.of (M1.ex _ _ hA), rfl, rfl, _, rfl, ?_⟩
        refine ⟨_, rfl, p, _, 0, _, rfl, rfl, SqT.of (M1.ex _ _ hA), rfl, rfl, _, rfl, ?_⟩
        refine ⟨_, rfl, rfl, _, rfl, ?_⟩
        refine iteFo (by decide +kernel) ?_
        refine ⟨_, rfl, _, rfl, _, rfl, a, gl, sk, ln, Hb1, ns, us, st2, ls1, l1, .non, none, _, _, _, rfl, hS1, hO, rfl, M1, hst1, by rw [hls1]; exact q.calm, by rw [hls1]; exact hub1, (fun y z => by cases z), by rw [hls1]; exact .loop, by omega, by omega, fun Hb2 ls2 H5 e2 M9 hls2 => ?_⟩
        exact ⟨Hb2, ls2, _, n, dn, _, _, _, _, rfl, (G.trans (go (e1.trans e2))), (B.ex (e1.trans e2)).mono (by omega), (e1.trans e2) _ _ hFb, M9, hst1, by rw [hls2]; exact SO.step (st := st2) hO .loop hSO2, by omega, by omega, hdk, by rw [List.length_append]; simp; omega, fun rest hr => by
          rw [hls2] at hr
          exact hDr rest (.step q .loop hp ub hr)⟩
      | @call o w cc b2 r hlk h8 =>
        simp only [K14.due, AskV] at hA
        refine ⟨_, rfl, p, _, 0, _, rfl, rfl, SqT.of (M1.ex _ _ hA), rfl, rfl, _, rfl, ?_⟩
        refine ⟨_, rfl, p, _, 0, _, rfl, rfl, SqT.of (M1.ex _ _ hA), rfl, rfl, _, rfl, ?_⟩
        refine ⟨_, rfl, p, _, 0, _, rfl, rfl, SqT.of (M1.ex _ _ hA), rfl, rfl, _, rfl, ?_⟩
        refine ⟨_, rfl, rfl, _, rfl, ?_⟩
        refine iteFo (by decide +kernel) ?_
        refine ⟨_, rfl, _, rfl, _, rfl, a, gl, sk, ln, Hb1, ns, us, st2, ls1, l1, .non, none, _, _, _, rfl, hS1, hO, rfl, M1, hst1, by rw [hls1]; exact q.calm, by rw [hls1]; exact hub1, (fun y z => by cases z), by rw [hls1]; exact (.call hlk h8), by omega, by omega, fun Hb2 ls2 H5 e2 M9 hls2 => ?_⟩
        exact ⟨Hb2, ls2, _, n, dn, _, _, _, _, rfl, (G.trans (go (e1.trans e2))), (B.ex (e1.trans e2)).mono (by omega), (e1.trans e2) _ _ hFb, M9, hst1, by rw [hls2]; exact SO.step (st := st2) hO (.call hlk h8) hSO2, by omega, by omega, hdk, by rw [List.length_append]; simp; omega, fun rest hr => by
          rw [hls2] at hr
          exact hDr rest (.step q (.call hlk h8) hp ub hr)⟩
      | @cho o ls3 bs b2 r h2 h3 hl nd hw =>
        simp only [K14.due, AskV] at hA
        obtain ⟨al, hA, hal⟩ := hA
        refine ⟨_, rfl, p, _, 0, _, rfl, rfl, SqT.of (M1.ex _ _ hA), rfl, rfl, _, rfl, ?_⟩
        refine ⟨_, rfl, p, _, 0, _, rfl, rfl, SqT.of (M1.ex _ _ hA), rfl, rfl, _, rfl, ?_⟩
        refine ⟨_, rfl, p, _, 1, .ref al, rfl, rfl, SqT.of (M1.ex _ _ hA), rfl, _, rfl, _, rfl, p, _, 1, .ref al, rfl, rfl, SqT.of (M1.ex _ _ hA), rfl, al, _, rfl, .inl (SqL.of (M1.ex _ _ hal)), b, _, _, rfl, (B.ex e1).ex M1.ex, by omega, by rw [List.length_map]; omega, by rw [List.length_map]; omega, fun r3 H3 hr3 g3 B3 => ?_⟩
        rw [List.length_map] at hr3
        have hrz : r3 < ls3.length := by omega
        have nal := (B.ex e1).strs hal
        refine ⟨al, _, _, .str ls3[r3], rfl, rfl, SqL.of (g3.at (M1.ex _ _ hal) (by simp [nal])), atI_nat (by rw [List.getElem?_map, List.getElem?_eq_getElem hrz]; rfl), ?_⟩
        obtain ⟨gg, ff, ss, kk, hbb, hb0⟩ := id (B.ex e1)
        obtain ⟨gg3, ff3, ss3, kk3, hbb3, hb03⟩ := id B3
        have M2 := M1.boxgo hbb g3 hbb3
        have k2 : Kt Hb1 (upd Hb1 b (.lst [.int gg3, .bl ff3, .int ss3, .int kk3])) := kt_put (.inr ⟨_, hbb⟩)
        have G2 : Go [b] H (upd Hb1 b (.lst [.int gg3, .bl ff3, .int ss3, .int kk3])) := (G.trans (go e1)).mut hbb rfl (by simp)
        have Bx : Box (upd Hb1 b (.lst [.int gg3, .bl ff3, .int ss3, .int kk3])) b (c + i + 1) := ⟨gg3, ff3, ss3, kk3, upd_same, hb03⟩
        have hFx : upd Hb1 b (.lst [.int gg3, .bl ff3, .int ss3, .int kk3]) F = some (.lst (dn.map Ans.v)) := by rw [upd_ne nFb]; exact e1 _ _ hFb
        have hA2 := k2 _ _ hA rfl
        have hS2 := hS1.kt k2
        generalize upd Hb1 b (.lst [.int gg3, .bl ff3, .int ss3, .int kk3]) = Hbx at M2 k2 G2 Bx hFx hA2 hS2
        refine ⟨_, rfl, p, _, 0, _, rfl, rfl, SqT.of (M2.ex _ _ hA2), rfl, rfl, _, rfl, ?_⟩
        refine ⟨_, rfl, rfl, _, rfl, ?_⟩
        refine iteTo (by rfl) ?_
        refine ⟨_, rfl, .inl ⟨rfl, _, SqL.of (M2.ex _ _ hFx)⟩, _, rfl, F, _, _, rfl, rfl, M2.ex _ _ hFx, Nat.lt_of_le_of_lt (show (dn.map Ans.v).length ≤ 100 by rw [List.length_map]; omega) (by decide), ?_⟩
        have M3 := M2.put (ys := dn.map Ans.v ++ [V.str ls3[r3]]) hFx
        have kF : Kt Hbx (upd Hbx F (.lst (dn.map Ans.v ++ [V.str ls3[r3]]))) := kt_put (.inr ⟨_, hFx⟩)
        have G3 : Go [b] H (upd Hbx F (.lst (dn.map Ans.v ++ [V.str ls3[r3]]))) := G2.app hF0
        have Bx3 : Box (upd Hbx F (.lst (dn.map Ans.v ++ [V.str ls3[r3]]))) b (c + i + 1) := by
          obtain ⟨g1, g2, g4, g5, h1, h2⟩ := Bx
          exact ⟨g1, g2, g4, g5, by rw [upd_ne nFb.symm]; exact h1, h2⟩
        have hF3 : upd Hbx F (.lst (dn.map Ans.v ++ [V.str ls3[r3]])) F = some (.lst ((dn ++ [Ans.lab ls3[r3]]).map Ans.v)) := by rw [upd_same, List.map_append]; rfl
        have hS3 := hS2.kt kF
        generalize upd Hbx F (.lst (dn.map Ans.v ++ [V.str ls3[r3]])) = Hby at M3 G3 Bx3 hF3 hS3
        generalize upd H3 F (.lst (dn.map Ans.v ++ [V.str ls3[r3]])) = H4 at M3 ⊢
        have s1 : St1 ns us st2 ((o, .cho ls3 bs :: b2) :: r) (some (.lab ls3[r3])) (Str.empty ++ "choose " ++ ls3[r3]) st2 ((none, bs[r3]'(by omega)) :: (o, b2) :: r) := .cho (i := r3) (List.getElem?_eq_getElem hrz) (List.getElem?_eq_getElem (by omega)) (hw _ (List.getElem_mem hrz)) h3 nd
        have hdk2 : ∀ y ∈ dn ++ [Ans.lab ls3[r3]], AnsOk y := fun y hy => by
          rcases List.mem_append.mp hy with hy | hy
          · exact hdk y hy
          · cases (List.mem_singleton.mp hy); exact hw _ (List.getElem_mem hrz)
        refine ⟨_, rfl, _, rfl, _, rfl, a, gl, sk, ln, Hby, ns, us, st2, ls1, l1, .str ls3[r3], some (.lab ls3[r3]), _, _, _, rfl, hS3, hO, rfl, M3, hst1, by rw [hls1]; exact q.calm, by rw [hls1]; exact hub1, (fun y z => by cases z; rfl), by rw [hls1]; exact s1, by omega, by omega, fun Hb2 ls2 H5 e2 M9 hls2 => ?_⟩
        exact ⟨Hb2, ls2, _, n, dn ++ [.lab ls3[r3]], _, _, _, _, rfl, (G3.trans (go e2)), (Bx3.ex e2).mono (by omega), e2 _ _ hF3, M9, hst1, by rw [hls2]; exact SO.step (st := st2) hO s1 hSO2, by omega, by rw [List.length_append]; simp; omega, hdk2, by rw [List.length_append]; simp; omega, fun rest hr => by
          rw [hls2] at hr
          have := hDr (_ :: rest) (.item q s1 hp ub hr)
          rw [List.append_assoc]
          exact this⟩
      | @drw o x1 wz b2 r h2 hx =>
        simp only [K14.due, AskV] at hA
        refine ⟨_, rfl, p, _, 0, _, rfl, rfl, SqT.of (M1.ex _ _ hA), rfl, rfl, _, rfl, ?_⟩
        refine ⟨_, rfl, p, _, 0, _, rfl, rfl, SqT.of (M1.ex _ _ hA), rfl, rfl, _, rfl, ?_⟩
        refine ⟨_, rfl, p, _, 0, _, rfl, rfl, SqT.of (M1.ex _ _ hA), rfl, rfl, _, rfl, ?_⟩
        have wp := wheel_pos h2
        refine ⟨_, rfl, _, rfl, p, _, 1, _, rfl, rfl, SqT.of (M1.ex _ _ hA), rfl, b, _, _, rfl, (B.ex e1).ex M1.ex, by omega, by omega, by omega, fun r3 H3 hr3 g3 B3 => ?_⟩
        have hrz : r3 < (wheel wz).length := by omega
        obtain ⟨gg, ff, ss, kk, hbb, hb0⟩ := id (B.ex e1)
        obtain ⟨gg3, ff3, ss3, kk3, hbb3, hb03⟩ := id B3
        have M2 := M1.boxgo hbb g3 hbb3
        have k2 : Kt Hb1 (upd Hb1 b (.lst [.int gg3, .bl ff3, .int ss3, .int kk3])) := kt_put (.inr ⟨_, hbb⟩)
        have G2 : Go [b] H (upd Hb1 b (.lst [.int gg3, .bl ff3, .int ss3, .int kk3])) := (G.trans (go e1)).mut hbb rfl (by simp)
        have Bx : Box (upd Hb1 b (.lst [.int gg3, .bl ff3, .int ss3, .int kk3])) b (c + i + 1) := ⟨gg3, ff3, ss3, kk3, upd_same, hb03⟩
        have hFx : upd Hb1 b (.lst [.int gg3, .bl ff3, .int ss3, .int kk3]) F = some (.lst (dn.map Ans.v)) := by rw [upd_ne nFb]; exact e1 _ _ hFb
        have hA2 := k2 _ _ hA rfl
        have hS2 := hS1.kt k2
        generalize upd Hb1 b (.lst [.int gg3, .bl ff3, .int ss3, .int kk3]) = Hbx at M2 k2 G2 Bx hFx hA2 hS2
        refine ⟨_, rfl, rfl, _, rfl, ?_⟩
        refine iteTo (by rfl) ?_
        refine ⟨_, rfl, .inl ⟨rfl, _, SqL.of (M2.ex _ _ hFx)⟩, _, rfl, F, _, _, rfl, rfl, M2.ex _ _ hFx, Nat.lt_of_le_of_lt (show (dn.map Ans.v).length ≤ 100 by rw [List.length_map]; omega) (by decide), ?_⟩
        have M3 := M2.put (ys := dn.map Ans.v ++ [V.int (r3 : Int)]) hFx
        have kF : Kt Hbx (upd Hbx F (.lst (dn.map Ans.v ++ [V.int (r3 : Int)]))) := kt_put (.inr ⟨_, hFx⟩)
        have G3 : Go [b] H (upd Hbx F (.lst (dn.map Ans.v ++ [V.int (r3 : Int)]))) := G2.app hF0
        have Bx3 : Box (upd Hbx F (.lst (dn.map Ans.v ++ [V.int (r3 : Int)]))) b (c + i + 1) := by
          obtain ⟨g1, g2, g4, g5, h1, h2⟩ := Bx
          exact ⟨g1, g2, g4, g5, by rw [upd_ne nFb.symm]; exact h1, h2⟩
        have hF3 : upd Hbx F (.lst (dn.map Ans.v ++ [V.int (r3 : Int)])) F = some (.lst ((dn ++ [Ans.num r3]).map Ans.v)) := by rw [upd_same, List.map_append]; rfl
        have hS3 := hS2.kt kF
        generalize upd Hbx F (.lst (dn.map Ans.v ++ [V.int (r3 : Int)])) = Hby at M3 G3 Bx3 hF3 hS3
        generalize upd H3 F (.lst (dn.map Ans.v ++ [V.int (r3 : Int)])) = H4 at M3 ⊢
        have s1 : St1 ns us st2 ((o, .drw x1 wz :: b2) :: r) (some (.num r3)) (turnS r3 (wheel wz).length) (setN ns st2 x1 (((wheel wz)[r3] : Nat) : Int)) ((o, b2) :: r) := .drw (List.getElem?_eq_getElem hrz) h2 hx
        have hdk2 : ∀ y ∈ dn ++ [Ans.num r3], AnsOk y := fun y hy => by
          rcases List.mem_append.mp hy with hy | hy
          · exact hdk y hy
          · cases (List.mem_singleton.mp hy); show r3 < 100; omega
        refine ⟨_, rfl, _, rfl, _, rfl, a, gl, sk, ln, Hby, ns, us, st2, ls1, l1, .int (r3 : Int), some (.num r3), _, _, _, rfl, hS3, hO, rfl, M3, hst1, by rw [hls1]; exact q.calm, by rw [hls1]; exact hub1, (fun y z => by cases z; rfl), by rw [hls1]; exact s1, by omega, by omega, fun Hb2 ls2 H5 e2 M9 hls2 => ?_⟩
        exact ⟨Hb2, ls2, _, n, dn ++ [.num r3], _, _, _, _, rfl, (G3.trans (go e2)), (Bx3.ex e2).mono (by omega), e2 _ _ hF3, M9, s1.lt hO.nok hst1, by rw [hls2]; exact SO.step (st := st2) hO s1 hSO2, by omega, by rw [List.length_append]; simp; omega, hdk2, by rw [List.length_append]; simp; omega, fun rest hr => by
          rw [hls2] at hr
          have := hDr (_ :: rest) (.item q s1 hp ub hr)
          rw [List.append_assoc]
          exact this⟩
  · rintro σ H1 ⟨Hb, ls, st', m, dn, l1, x6, x7, x8, rfl, G, B, hFb, M, hst', hSO, hmi, hdl, hdk, hl1, hDr⟩
    have : m = 0 := by omega
    subst this
    have hD := hDr [] (by
      generalize absL ls = fs
      cases fs with
      | nil => exact .over hst'
      | cons f r => exact .cut)
    rw [List.append_nil] at hD
    exact ⟨_, rfl, hQ F dn H1 (G.trans (go M.ex)) ((B.ex M.ex).mono (by omega)) hF0 (M.ex _ _ hFb) hD (by omega) hdk⟩
theorem ok_l_answers (T : Txt K mg) (C_l_take : Cal P w K mg base 1 "_law_take" spTakeG []) (C_l_begun : Cal P w K mg base 1 "_law_begun" (spBegun K) []) (C_l_asks : Cal P w K mg base 8 "_law_asks" (spAsksL K ws) []) (C_l_step : Cal P w K mg base 9 "_law_step" (spStepL K ws) []) : Cal P w K mg base 10 "_law_answers" (spAnswers K ws) [] := by
  obtain ⟨fd, F⟩ := T.d__law_answers
  exact ⟨_, fd, ["box", "system", "store", "most"], [], fn_l_answers T C_l_take C_l_begun C_l_asks C_l_step F, T.g__law_answers, F.kp, F.bindsN fun _ _ _ _ _ _ us hl => match us, hl with | [_, _, _, _], _ => rfl, .nil⟩

end
end K14
namespace K14
open PySem PySem.Spec PyProof.Rows L2 C8

theorem fn_all {P : Program} {w : World} {K : PySem.W.Frag} {mg : Str → Option Value} {base : Heap} {CX : CXT} {k : Nat} {f : Addr} {fd : FuncData} {ps : List Str} {sp : List Str → Sp} (h : ∀ ws, FnOk P w K mg base CX k f fd ps (sp ws)) : FnOk P w K mg base CX k f fd ps (fun vs H Q E => ∃ ws, sp ws vs H Q E) :=
  ⟨fun vs H Q E ⟨ws, q⟩ => (h ws).len vs H Q E q, fun A outer s H args us vs Q E hr e0 hb r ⟨ws, q⟩ => (h ws).run A outer s H args us vs Q E hr e0 hb r q⟩
def spPlayA (K : PySem.W.Frag) : Sp := fun vs H Q E => ∃ ws, spPlay K ws vs H Q E
def spPlayLA (K : PySem.W.Frag) : Sp := fun vs H Q E => ∃ ws, spPlayL K ws vs H Q E
def spAnswersA (K : PySem.W.Frag) : Sp := fun vs H Q E => ∃ ws, spAnswers K ws vs H Q E
theorem Fine.none : Fine .none 0 4 := ⟨by simp [PyData.canLay0], by simp [PyData.depth], by simp [PyData.showable], by simp [PyData.hasDict], by simp only [PyData.shown]; decide⟩
theorem dp_strs {K : PySem.W.Frag} {H : Hp} : ∀ zs : List Str, DpAll K H (zs.map V.str) (zs.map PyData.str)
  | [] => .nil
  | z :: zs => .cons (.str z) (dp_strs zs)
theorem fine_str {z : Str} (h : ∀ c ∈ z.cps.toList, c < 123) (hl : z.length ≤ 20) : Fine (.str z) 0 202 := by
  have ho : PyData.strOk z = true := by
    unfold PyData.strOk
    rw [Array.all_eq_true']
    intro c hc
    have := h c (by simpa using hc)
    exact decide_eq_true (by omega)
  refine ⟨by simp [PyData.canLay0, ho], by simp [PyData.depth], by simp [PyData.showable], by simp [PyData.hasDict], ?_⟩
  have := StrLaws.reprText_len z fun c hc => by have := h c hc; omega
  simp only [PyData.shown]
  omega

theorem prod8 {ns : NS} (hok : NsOk ns) : prodN (szs ns) ≤ 8 ∧ 2 ≤ prodN (szs ns) := ⟨(menu_facts _ hok.sz).2.1, (menu_facts _ hok.sz).2.2.1⟩
/-- what a play tells, as data -/
def endD : Option Nat → PyData
  | some st => .int (st : Int)
  | none => .none
def toldD (ls : List Str) (e : Option Nat) : PyData := .tuple [.list (ls.map PyData.str), endD e]
theorem dp_told {K : PySem.W.Frag} {H : Hp} {p l : Addr} {ls : List Str} {e : Option Nat} (hp : H p = some (.tup [.ref l, endV e])) (hl : H l = some (.lst (ls.map V.str))) : Dp K H (.ref p) (toldD ls e) := by
  refine .tup (SqT.of hp) (.cons (.lst (SqL.of hl) (dp_strs _)) (.cons ?_ .nil))
  cases e with
  | none => exact .non
  | some st => exact .int _
theorem fine_play {ns : NS} {us : US} {n st : Nat} {fs : List Fr} {xs : List V} {ls : List Str} {e : Option Nat} (hok : NsOk ns) (hn : n ≤ 30) (p : Pl ns us n st fs xs ls e) : Fine (toldD ls e) 5 100000 := by
  have hl := p.len
  have p8 := prod8 hok
  have h1 : Fine (.list (ls.map PyData.str)) 1 (2 + 30 * 204) := by
    refine Fine.list (k := 0) (m := 202) (fun d hd => ?_) (by rw [List.length_map]; omega)
    obtain ⟨z, hz, rfl⟩ := List.mem_map.mp hd
    exact fine_str (p.linesOk z hz).1 (p.linesOk z hz).2
  have h2 : Fine (endD e) 1 (2 + 30 * 204) := by
    cases e with
    | none => exact Fine.none.mono (by omega) (by omega)
    | some s => exact (Fine.int (by have := p.stOk s rfl; omega)).mono (by omega) (by omega)
  have h3 := Fine.tuple (ds := [.list (ls.map PyData.str), endD e]) (k := 1) (m := 2 + 30 * 204) (n := 2) (fun d hd => by
    rcases List.mem_cons.mp hd with rfl | hd
    · exact h1
    · cases (List.mem_singleton.mp hd); exact h2) (by simp)
  exact h3.mono (by omega) (by omega)
def ansD : Ans → PyData
  | .lab l => .str l
  | .num k => .int (k : Int)
theorem fine_num {k : Nat} (h : k < 100) : Fine (.int (k : Int)) 0 2 := by
  have key : ∀ n : Nat, n < 100 → (PyData.int (n : Int)).canLay0 = true ∧ (PyData.int (n : Int)).depth ≤ 0 ∧ (PyData.int (n : Int)).showable = true ∧ (PyData.int (n : Int)).hasDict = false ∧ (PyData.int (n : Int)).shown.length ≤ 2 := by decide +kernel
  obtain ⟨a, b, c, d, e⟩ := key k h
  exact ⟨a, b, c, d, e⟩
theorem dp_ans {K : PySem.W.Frag} {H : Hp} : ∀ is : List Ans, DpAll K H (is.map Ans.v) (is.map ansD)
  | [] => .nil
  | .lab l :: r => .cons (.str l) (dp_ans r)
  | .num k :: r => .cons (.int _) (dp_ans r)
theorem fine_ans {a : Ans} (h : AnsOk a) : Fine (ansD a) 1 300 := by
  cases a with
  | lab l => exact (Fine.str (show WordOk l from h).low (by have := (show WordOk l from h).hi; omega)).mono (by omega) (by omega)
  | num k => exact (fine_num h).mono (by omega) (by omega)
theorem dp_app {K : PySem.W.Frag} {H : Hp} : ∀ {vs us : List V} {ds es : List PyData}, DpAll K H vs ds → DpAll K H us es → DpAll K H (vs ++ us) (ds ++ es)
  | _, _, _, _, .nil, h => h
  | _, _, _, _, .cons a t, h => .cons a (dp_app t h)
theorem dp_len {K : PySem.W.Frag} {H : Hp} : ∀ {vs : List V} {ds : List PyData}, DpAll K H vs ds → ds.length = vs.length
  | _, _, .nil => rfl
  | _, _, .cons a t => by simp [dp_len t]
mutual
theorem dp_mono {K : PySem.W.Frag} {H H' : Hp} (e : Ex H H') : ∀ {v : V} {d : PyData}, Dp K H v d → Dp K H' v d
  | _, _, .non => .non
  | _, _, .bl b => .bl b
  | _, _, .int i => .int i
  | _, _, .str x => .str x
  | _, _, .lst h t => .lst (Evl.ex_l e h) (dpAll_mono e t)
  | _, _, .tup h t => .tup (Evl.ex_t e h) (dpAll_mono e t)
theorem dpAll_mono {K : PySem.W.Frag} {H H' : Hp} (e : Ex H H') : ∀ {vs : List V} {ds : List PyData}, DpAll K H vs ds → DpAll K H' vs ds
  | _, _, .nil => .nil
  | _, _, .cons a t => .cons (dp_mono e a) (dpAll_mono e t)
end
/-- one system, a store, answers along its game, odd values -/
structure CaseAt (K : PySem.W.Frag) (H : Hp) (a F O : Addr) (st N : Nat) (ns : NS) (us : US) (un : Str) (b0 : List Sm) (is : List Ans) (ov : List V) (ds : List PyData) : Prop where
  sys : SysAt K H a ns us
  ok : SysOk ns us
  last : ∃ pre, us = pre ++ [(un, b0)]
  lt : st < prodN (szs ns)
  ans : H F = some (.lst (is.map Ans.v))
  dr : Dr ns us N st [(some un, b0)] is
  il : is.length ≤ N
  n30 : N ≤ 30
  iok : ∀ y ∈ is, AnsOk y
  odd : H O = some (.lst ov)
  od : DpAll K H ov ds
  ol : ov.length ≤ 3
  of : ∀ d ∈ ds, Fine d 1 300
theorem CaseAt.mono {K : PySem.W.Frag} {H H' : Hp} (e : Ex H H') {a F O : Addr} {st N : Nat} {ns : NS} {us : US} {un : Str} {b0 : List Sm} {is : List Ans} {ov : List V} {ds : List PyData} (h : CaseAt K H a F O st N ns us un b0 is ov ds) : CaseAt K H' a F O st N ns us un b0 is ov ds :=
  ⟨h.sys.mono e, h.ok, h.last, h.lt, e _ _ h.ans, h.dr, h.il, h.n30, h.iok, e _ _ h.odd, dpAll_mono e h.od, h.ol, h.of⟩
/-- a list of items that may be asked with -/
def RowAt (K : PySem.W.Frag) (H : Hp) (is : List Ans) (N : Nat) (t : Addr) : Prop := ∃ (I : Addr) (xs : List V) (m : Nat) (ds : List PyData), H t = some (.tup [.ref I, .int (m : Int)]) ∧ H I = some (.lst xs) ∧ Cp is xs ∧ m ≤ N ∧ DpAll K H xs ds ∧ (∀ d ∈ ds, Fine d 1 300) ∧ xs.length ≤ 40
theorem RowAt.mono {K : PySem.W.Frag} {H H' : Hp} (e : Ex H H') {is : List Ans} {N : Nat} {t : Addr} (h : RowAt K H is N t) : RowAt K H' is N t := by
  obtain ⟨I, xs, m, ds, h1, h2, h3, h4, h5, h6, h7⟩ := h
  exact ⟨I, xs, m, ds, e _ _ h1, e _ _ h2, h3, h4, dpAll_mono e h5, h6, h7⟩
theorem fine_items {ds : List PyData} (h : ∀ d ∈ ds, Fine d 1 300) (hl : ds.length ≤ 40) : Fine (.list ds) 5 100000 := (Fine.list h hl).mono (by omega) (by omega)
theorem cp_all (is : List Ans) : Cp is (is.map Ans.v) := .inr ⟨[], (List.append_nil _).symm⟩
theorem cp_take (is : List Ans) (j : Nat) : Cp is ((is.map Ans.v).take j) := .inl ⟨j, by rw [List.map_take]⟩
theorem fine_sub {is : List Ans} (h : ∀ y ∈ is, AnsOk y) : ∀ d ∈ is.map ansD, Fine d 1 300 := fun d hd => by
  obtain ⟨y, hy, rfl⟩ := List.mem_map.mp hd
  exact fine_ans (h y hy)
section
variable {P : Program} {w : World} {K : PySem.W.Frag} {mg : Str → Option Value} {base : Heap} {k n : Nat} {ws : List Str}
abbrev N_l_asked_right : List Str := ["case", "whole", "system", "store", "answers", "most", "cut", "fewer", "odd", "asked", "items", "most_steps", "due", "mine", "told"]
theorem sc_l_asked_right : FnScope N_l_asked_right ["case", "whole"] (defScope (top 98)) := ⟨rfl, rfl, rfl, by decide +kernel, rfl, by decide +kernel, by decide +kernel⟩
def spAskedR (K : PySem.W.Frag) : Sp := fun vs H Q _ => ∃ (c a F O : Addr) (st N cut few : Nat) (wh : Bool) (ns : NS) (us : US) (un : Str) (b0 : List Sm) (is : List Ans) (ov : List V) (ds : List PyData), vs = [.ref c, .bl wh] ∧ H c = some (.lst [.ref a, .int (st : Int), .ref F, .int (N : Int), .int (cut : Int), .int (few : Int), .ref O]) ∧ CaseAt K H a F O st N ns us un b0 is ov ds ∧ few ≤ N ∧ ∀ H', Ex H H' → Q (.bl true) H'
theorem ok_l_asked_right (T : Txt K mg) (C_play : Cal P w K mg base 23 "play" (spPlayA K) []) (CK_play : CalK P w K mg base 23 "play" ["steps", "store", "answers", "system"] [3, 1, 2, 0] (spPlayA K)) (C_l_play : Cal P w K mg base 10 "_law_play" (spPlayLA K) []) : CalG P w K mg base 24 "_law_asked_right" (spAskedR K) := by
  obtain ⟨fd, F⟩ := T.d__law_asked_right
  refine ⟨_, fd, ["case", "whole"], ?_, T.g__law_asked_right, F.kp, F.bindsN fun _ _ _ _ _ _ us hl => match us, hl with | [_, _], _ => rfl⟩
  refine F.okG sc_l_asked_right (fun vs H Q E h => by obtain ⟨_, _, _, _, _, _, _, _, _, _, _, _, _, _, _, _, rfl, _⟩ := h; rfl) (fun cdv A outer s H vs Q E hG hr h => ?_)
  have hu := hu_of hr
  refine ⟨_, PSs.nox (pss_cons (ps_asg (pv 0) (pg_lst (by rfl) (pgs_cons (pg_name (i := 2) sc_l_asked_right.nd rfl (Or.inl rfl)) (pgs_cons (pg_name (i := 3) sc_l_asked_right.nd rfl (Or.inl rfl)) (pgs_cons (pg_name (i := 4) sc_l_asked_right.nd rfl (Or.inl rfl)) (pgs_cons (pg_name (i := 5) sc_l_asked_right.nd rfl (Or.inl rfl)) (pgs_cons (pg_name (i := 6) sc_l_asked_right.nd rfl (Or.inl rfl)) (pgs_cons (pg_name (i := 7) sc_l_asked_right.nd rfl (Or.inl rfl)) (pgs_cons (pg_name (i := 8) sc_l_asked_right.nd rfl (Or.inl rfl)) pgs_nil)))))))))
      (pss_cons (ps_set (i := 9) sc_l_asked_right.nd rfl (Or.inl rfl) (pe_lst (pa_cons (pe_tup (pa_cons (pv 4) (pa_cons (pv 5) pa_nil))) (pa_cons (pe_tup (pa_cons (pe_slice sl_list (pv 4) po_none (po_some (pv 6))) (pa_cons (pv 5) pa_nil))) (pa_cons (pe_tup (pa_cons (pe_op op_cat (pv 4) (pv 8)) (pa_cons (pv 5) pa_nil))) (pa_cons (pe_tup (pa_cons (pv 4) (pa_cons (pv 7) pa_nil))) (pa_cons (pe_tup (pa_cons (pe_lst pa_nil) (pa_cons (pv 5) pa_nil))) pa_nil)))))))
      (pss_cut (ps_for PassesOwn.never rfl (pi_list (pe_slice sl_list (pv 9) po_none (po_some (pe_ifExp (pt_val (pv 1)) pe_int pe_int)))) (pg_tup (by rfl) (pgs_cons (pg_name (i := 10) sc_l_asked_right.nd rfl (Or.inl rfl)) (pgs_cons (pg_name (i := 11) sc_l_asked_right.nd rfl (Or.inl rfl)) pgs_nil))) (pss_cons (ps_par (i := 12) (j := 13) (by rfl) sc_l_asked_right.nd rfl rfl (by decide) rfl rfl (pa_cons (pe_callB (call_repr hG hr.units) (by rfl) T.f_repr (by decide +kernel) (pa_cons (pe_c C_l_play hr (by omega) rfl (pa_cons (pv 2) (pa_cons (pv 3) (pa_cons (pv 10) (pa_cons (pv 11) pa_nil))))) pa_nil)) (pa_cons (pe_callTy call_list_of (by rfl) T.f_list (by decide +kernel) (pa_cons (pv 10) pa_nil)) pa_nil)) (by rfl))
      (pss_cons (ps_set (i := 14) sc_l_asked_right.nd rfl (Or.inl rfl) (pe_c C_play hr (by omega) rfl (pa_cons (pv 2) (pa_cons (pv 3) (pa_cons (pv 13) (pa_cons (pv 11) pa_nil))))))
      (pss_cons (ps_if (PW.pt (pw_or (pt_cmpR op_ne (pe_callB (call_repr hG hr.units) (by rfl) T.f_repr (by decide +kernel) (pa_cons (pv 14) pa_nil)) (pv 12) (nomark _)) (pw_or1 (pt_cmpR op_ne (pe_callB (call_repr hG hr.units) (by rfl) T.f_repr (by decide +kernel) (pa_cons (pv 13) pa_nil)) (pe_callB (call_repr hG hr.units) (by rfl) T.f_repr (by decide +kernel) (pa_cons (pv 10) pa_nil)) (nomark _))))) (pss_one (ps_ret pe_bl)) pss_nil)
      (pss_one (ps_expr (pe_bm PySem.F.plainAttrs_list PySem.F.slot_list_append PySem.F.type_list_append mt_append (pe_ix ix_tup (pv 14) pe_int (fun _ _ => rfl)) (pa_cons pe_str pa_nil))))))))
      (pss_cons (ps_set (i := 12) sc_l_asked_right.nd rfl (Or.inl rfl) (pe_callB (call_repr hG hr.units) (by rfl) T.f_repr (by decide +kernel) (pa_cons (pe_c C_l_play hr (by omega) rfl (pa_cons (pv 2) (pa_cons (pv 3) (pa_cons (pv 4) (pa_cons (pv 5) pa_nil))))) pa_nil)))
      (pss_one (ps_ret (pe_cmpR op_eq (pe_callB (call_repr hG hr.units) (by rfl) T.f_repr (by decide +kernel) (pa_cons (pe_cK0 CK_play hr (by omega) rfl  (pk_cons (pv 5) (pk_cons (pv 3) (pk_cons (pe_callTy call_tupF (by rfl) T.f_tuple (by decide +kernel) (pa_cons (pv 4) pa_nil)) (pk_cons (pv 2) pk_nil))))) pa_nil)) (pv 12) (nomark _)))))))), ?_⟩
  obtain ⟨c, a, F, O, st, N, cut, few, wh, ns, us, un, b0, is, ov, ds, rfl, hc, C, hfew, hQ⟩ := h
  have il := C.il
  have n30 := C.n30
  have ol := C.ol
  refine ⟨_, rfl, c, _, rfl, SqL.of hc, rfl, _, _, rfl, _, _, rfl, _, _, rfl, _, _, rfl, _, _, rfl, _, _, rfl, _, _, rfl, rfl, ?_⟩
  -- what is asked with
  refine ⟨_, rfl, _, rfl, (by show 2 ≤ sizeLine; decide), fun t1 ht1 => ?_⟩
  have f1 := Evl.Ex.new (o := .tup [.ref F, .int (N : Int)]) ht1
  have C1 := C.mono f1
  have r1 : RowAt K (upd H t1 (.tup [.ref F, .int (N : Int)])) is N t1 := ⟨F, _, N, _, upd_same, C1.ans, cp_all is, Nat.le_refl _, dp_ans is, fine_sub C.iok, by rw [List.length_map]; omega⟩
  generalize upd H t1 (.tup [.ref F, .int (N : Int)]) = H1 at f1 C1 r1 ⊢
  refine ⟨_, rfl, _, rfl, _, rfl, F, _, rfl, SqL.of C1.ans, fun S hS => ?_⟩
  rw [cut_takeM]
  have f2 := Evl.Ex.new (o := .lst ((is.map Ans.v).take cut)) hS
  have C2 := C1.mono f2
  have s2 : upd H1 S (.lst ((is.map Ans.v).take cut)) S = some (.lst ((is.map Ans.v).take cut)) := upd_same
  have r1 := r1.mono f2
  have e2 := f1.trans f2
  generalize upd H1 S (.lst ((is.map Ans.v).take cut)) = H2 at e2 f2 C2 s2 r1 ⊢
  refine ⟨_, rfl, (by show 2 ≤ sizeLine; decide), fun t2 ht2 => ?_⟩
  have f3 := Evl.Ex.new (o := .tup [.ref S, .int (N : Int)]) ht2
  have C3 := C2.mono f3
  have r1 := r1.mono f3
  have r2 : RowAt K (upd H2 t2 (.tup [.ref S, .int (N : Int)])) is N t2 := ⟨S, _, N, _, upd_same, f3 _ _ s2, cp_take is cut, Nat.le_refl _, by rw [← List.map_take]; exact dp_ans _, fine_sub fun y hy => C.iok y (List.mem_of_mem_take hy), by rw [List.length_take, List.length_map]; omega⟩
  have e3 := e2.trans f3
  generalize upd H2 t2 (.tup [.ref S, .int (N : Int)]) = H3 at e3 C3 r1 r2 ⊢
  clear f1 f2 f3 s2 e2 C1 C2 hS ht1 ht2
  refine ⟨_, rfl, _, rfl, F, O, _, _, rfl, rfl, C3.ans, C3.odd, Nat.le_trans (show _ ≤ 100 by rw [List.length_map]; omega) (by decide), fun S3 hS3 => ?_⟩
  have f4 := Evl.Ex.new (o := .lst (is.map Ans.v ++ ov)) hS3
  have s4 : upd H3 S3 (.lst (is.map Ans.v ++ ov)) S3 = some (.lst (is.map Ans.v ++ ov)) := upd_same
  have C4 := C3.mono f4
  have r1 := r1.mono f4
  have r2 := r2.mono f4
  have e4 := e3.trans f4
  generalize upd H3 S3 (.lst (is.map Ans.v ++ ov)) = H4 at e4 C4 r1 r2 s4 ⊢
  refine ⟨_, rfl, (by show 2 ≤ sizeLine; decide), fun t3 ht3 => ?_⟩
  have f5 := Evl.Ex.new (o := .tup [.ref S3, .int (N : Int)]) ht3
  have C5 := C4.mono f5
  have r1 := r1.mono f5
  have r2 := r2.mono f5
  have r3 : RowAt K (upd H4 t3 (.tup [.ref S3, .int (N : Int)])) is N t3 := ⟨S3, _, N, is.map ansD ++ ds, upd_same, f5 _ _ s4, .inr ⟨ov, rfl⟩, Nat.le_refl _, dp_app (dp_ans _) C5.od, fun d hd => (List.mem_append.mp hd).elim (fine_sub C.iok d) (C.of d), by rw [List.length_append, List.length_map]; omega⟩
  have e5 := e4.trans f5
  generalize upd H4 t3 (.tup [.ref S3, .int (N : Int)]) = H5 at e5 C5 r1 r2 r3 ⊢
  clear f4 f5 s4 e3 e4 C3 C4 hS3 ht3
  refine ⟨_, rfl, _, rfl, (by show 2 ≤ sizeLine; decide), fun t4 ht4 => ?_⟩
  have f6 := Evl.Ex.new (o := .tup [.ref F, .int (few : Int)]) ht4
  have C6 := C5.mono f6
  have r1 := r1.mono f6
  have r2 := r2.mono f6
  have r3 := r3.mono f6
  have r4 : RowAt K (upd H5 t4 (.tup [.ref F, .int (few : Int)])) is N t4 := ⟨F, _, few, _, upd_same, C6.ans, cp_all is, hfew, dp_ans is, fine_sub C.iok, by rw [List.length_map]; omega⟩
  have e6 := e5.trans f6
  generalize upd H5 t4 (.tup [.ref F, .int (few : Int)]) = H6 at e6 C6 r1 r2 r3 r4 ⊢
  refine ⟨Nat.zero_le _, fun S5 hS5 => ?_⟩
  have f7 := Evl.Ex.new (o := .lst []) hS5
  have s7 : upd H6 S5 (.lst []) S5 = some (.lst []) := upd_same
  have C7 := C6.mono f7
  have r1 := r1.mono f7
  have r2 := r2.mono f7
  have r3 := r3.mono f7
  have r4 := r4.mono f7
  have e7 := e6.trans f7
  generalize upd H6 S5 (.lst []) = H7 at e7 C7 r1 r2 r3 r4 s7 ⊢
  refine ⟨_, rfl, (by show 2 ≤ sizeLine; decide), fun t5 ht5 => ?_⟩
  have f8 := Evl.Ex.new (o := .tup [.ref S5, .int (N : Int)]) ht5
  have C8 := C7.mono f8
  have r1 := r1.mono f8
  have r2 := r2.mono f8
  have r3 := r3.mono f8
  have r4 := r4.mono f8
  have r5 : RowAt K (upd H7 t5 (.tup [.ref S5, .int (N : Int)])) is N t5 := ⟨S5, [], N, [], upd_same, f8 _ _ s7, .inl ⟨0, rfl⟩, Nat.le_refl _, .nil, (fun d hd => by cases hd), by simp⟩
  have e8 := e7.trans f8
  generalize upd H7 t5 (.tup [.ref S5, .int (N : Int)]) = H8 at e8 C8 r1 r2 r3 r4 r5 ⊢
  refine ⟨(by show 5 ≤ sizeLine; decide), fun AL hAL => ?_⟩
  have f9 := Evl.Ex.new (o := .lst ([t1, t2, t3, t4, t5].map V.ref)) hAL
  have s9 : upd H8 AL (.lst ([t1, t2, t3, t4, t5].map V.ref)) AL = some (.lst ([t1, t2, t3, t4, t5].map V.ref)) := upd_same
  have CC := C8.mono f9
  have rr : ∀ t ∈ [t1, t2, t3, t4, t5], RowAt K (upd H8 AL (.lst ([t1, t2, t3, t4, t5].map V.ref))) is N t := fun t ht => by
    simp only [List.mem_cons, List.not_mem_nil, or_false] at ht
    rcases ht with rfl | rfl | rfl | rfl | rfl
    · exact r1.mono f9
    · exact r2.mono f9
    · exact r3.mono f9
    · exact r4.mono f9
    · exact r5.mono f9
  have e9 := e8.trans f9
  have hsh : upd H8 AL (.lst [V.ref t1, V.ref t2, V.ref t3, V.ref t4, V.ref t5]) = upd H8 AL (.lst ([t1, t2, t3, t4, t5].map V.ref)) := rfl
  rw [hsh]
  generalize upd H8 AL (.lst ([t1, t2, t3, t4, t5].map V.ref)) = H9 at e9 CC rr s9 ⊢
  generalize [t1, t2, t3, t4, t5] = ts at rr s9
  clear hsh f6 f7 f8 f9 s7 e5 e6 e7 e8 C5 C6 C7 C8 hS5 ht4 ht5 hAL r1 r2 r3 r4 r5
  obtain ⟨pre, hU⟩ := C.last
  have hok := C.ok.nok
  refine ⟨fun σ H' => ∃ (x9 x10 x11 x12 x13 x14 : Option V), σ = [some (.ref c), some (.bl wh), some (.ref a), some (.int (st : Int)), some (.ref F), some (.int (N : Int)), some (.int (cut : Int)), some (.int (few : Int)), some (.ref O), x9, x10, x11, x12, x13, x14] ∧ Ex H9 H', ?_, ?_⟩
  · refine ⟨_, rfl, ?_⟩
    cases wh with
    | true =>
      refine ⟨_, rfl, _, rfl, iteT ⟨5, rfl, AL, _, rfl, SqL.of s9, fun S hS => ?_⟩⟩
      rw [show (5 : Int) = ((5 : Nat) : Int) from rfl, cut_takeM, ← List.map_take]
      have eS := Evl.Ex.new (o := .lst ((ts.take 5).map V.ref)) hS
      have sS : upd H9 S (.lst ((ts.take 5).map V.ref)) S = some (.lst ((ts.take 5).map V.ref)) := upd_same
      generalize upd H9 S (.lst ((ts.take 5).map V.ref)) = H10 at eS sS ⊢
      refine ⟨S, rfl, ⟨_, SqL.of sS⟩, ?_⟩
      refine for_it (walk_list (xs := (ts.take 5).map V.ref)) (fun i σ H' => ∃ (x10 x11 x12 x13 x14 : Option V), σ = [some (.ref c), some (.bl true), some (.ref a), some (.int (st : Int)), some (.ref F), some (.int (N : Int)), some (.int (cut : Int)), some (.int (few : Int)), some (.ref O), some (.ref AL), x10, x11, x12, x13, x14] ∧ Ex H10 H')
        ⟨none, none, none, none, none, rfl, Evl.Ex.refl _⟩ (fun i σ H' _ z => by obtain ⟨_, _, _, _, _, _, z⟩ := z; exact SqL.of (z _ _ sS)) ?_ ?_
      · rintro i x σ H11 H11' hi ⟨x10, x11, x12, x13, x14, rfl, e11⟩ ⟨rfl, hx⟩
        obtain ⟨t, rfl, ht⟩ := refs_get hx
        have htm : t ∈ ts := List.mem_of_mem_take (List.mem_of_getElem? ht)
        obtain ⟨I, xs, m, dsx, hI1, hI2, hcp, hmN, hdp, hfd, hxl⟩ := (rr t htm).mono (eS.trans e11)
        have C11 := CC.mono (eS.trans e11)
        refine ⟨t, _, rfl, SqT.of hI1, rfl, _, _, rfl, _, _, rfl, rfl, ?_⟩
        obtain ⟨lines, e, hP⟩ := C.dr.play hmN hcp
        have hfine := fine_play hok (by omega) hP
        have hxf : Fine (.list dsx) 5 100000 := fine_items hfd (by rw [dp_len hdp]; exact hxl)
        refine ⟨_, rfl, _, rfl, _, rfl, _, rfl, wds ns, a, st, m, .ref I, ns, us, pre, un, b0, xs, lines, e, rfl, C11.sys, C11.ok, rfl, C11.lt, by omega, ⟨I, rfl, .inl (SqL.of hI2)⟩, hU, hP, fun p l H12 e12 hl12 hp12 hl12' => ?_⟩
        refine repr_ask (dp_told hp12 hl12') hfine (by omega) (by omega) ?_
        refine ⟨_, rfl, I, xs, rfl, .inl (SqL.of (e12 _ _ hI2)), fun mi hmi => ⟨_, _, rfl, ?_⟩⟩
        have f13 := Evl.Ex.new (o := .lst xs) hmi
        have smi : upd H12 mi (.lst xs) mi = some (.lst xs) := upd_same
        generalize upd H12 mi (.lst xs) = H13 at f13 smi ⊢
        have e13 := e12.trans f13
        have C13 := C11.mono e13
        refine ⟨_, rfl, _, rfl, _, rfl, _, rfl, wds ns, a, st, m, .ref mi, ns, us, pre, un, b0, xs, lines, e, rfl, C13.sys, C13.ok, rfl, C13.lt, by omega, ⟨mi, rfl, .inl smi⟩, hU, hP, fun p2 l2 H14 e14 hl14 hp14 hl14' => ?_⟩
        refine ⟨_, rfl, ?_⟩
        refine repr_ask (dp_told hp14 hl14') hfine (by omega) (by omega) ?_
        refine ⟨_, rfl, rfl, _, rfl, iteFo (by simp) ?_⟩
        refine ⟨_, rfl, ?_⟩
        refine repr_ask (.lst (SqL.of (e14 _ _ smi)) (dpAll_mono (e13.trans e14) hdp)) hxf (by omega) (by omega) ?_
        refine ⟨_, rfl, ?_⟩
        refine repr_ask (.lst (SqL.of ((e13.trans e14) _ _ hI2)) (dpAll_mono (e13.trans e14) hdp)) hxf (by omega) (by omega) ?_
        refine ⟨rfl, _, rfl, iteFo (by simp) ?_⟩
        refine ⟨_, rfl, p2, _, 0, _, rfl, rfl, SqT.of hp14, rfl, .inl ⟨rfl, _, SqL.of hl14'⟩, l2, _, _, rfl, rfl, hl14', Nat.lt_of_le_of_lt (show (lines.map V.str).length ≤ 100 by rw [List.length_map]; have := hP.len; omega) (by decide), ?_⟩
        exact ⟨_, _, _, _, _, rfl, Ex.app (e11.trans (e13.trans e14)) (Evl.fresh_back (e11.trans e13) hl14)⟩
      · rintro σ H11 ⟨x10, x11, x12, x13, x14, rfl, e11⟩
        exact ⟨_, _, _, _, _, _, rfl, eS.trans e11⟩
    | false =>
      refine ⟨_, rfl, _, rfl, iteF ⟨1, rfl, AL, _, rfl, SqL.of s9, fun S hS => ?_⟩⟩
      rw [show (1 : Int) = ((1 : Nat) : Int) from rfl, cut_takeM, ← List.map_take]
      have eS := Evl.Ex.new (o := .lst ((ts.take 1).map V.ref)) hS
      have sS : upd H9 S (.lst ((ts.take 1).map V.ref)) S = some (.lst ((ts.take 1).map V.ref)) := upd_same
      generalize upd H9 S (.lst ((ts.take 1).map V.ref)) = H10 at eS sS ⊢
      refine ⟨S, rfl, ⟨_, SqL.of sS⟩, ?_⟩
      refine for_it (walk_list (xs := (ts.take 1).map V.ref)) (fun i σ H' => ∃ (x10 x11 x12 x13 x14 : Option V), σ = [some (.ref c), some (.bl false), some (.ref a), some (.int (st : Int)), some (.ref F), some (.int (N : Int)), some (.int (cut : Int)), some (.int (few : Int)), some (.ref O), some (.ref AL), x10, x11, x12, x13, x14] ∧ Ex H10 H')
        ⟨none, none, none, none, none, rfl, Evl.Ex.refl _⟩ (fun i σ H' _ z => by obtain ⟨_, _, _, _, _, _, z⟩ := z; exact SqL.of (z _ _ sS)) ?_ ?_
      · rintro i x σ H11 H11' hi ⟨x10, x11, x12, x13, x14, rfl, e11⟩ ⟨rfl, hx⟩
        obtain ⟨t, rfl, ht⟩ := refs_get hx
        have htm : t ∈ ts := List.mem_of_mem_take (List.mem_of_getElem? ht)
        obtain ⟨I, xs, m, dsx, hI1, hI2, hcp, hmN, hdp, hfd, hxl⟩ := (rr t htm).mono (eS.trans e11)
        have C11 := CC.mono (eS.trans e11)
        refine ⟨t, _, rfl, SqT.of hI1, rfl, _, _, rfl, _, _, rfl, rfl, ?_⟩
        obtain ⟨lines, e, hP⟩ := C.dr.play hmN hcp
        have hfine := fine_play hok (by omega) hP
        have hxf : Fine (.list dsx) 5 100000 := fine_items hfd (by rw [dp_len hdp]; exact hxl)
        refine ⟨_, rfl, _, rfl, _, rfl, _, rfl, wds ns, a, st, m, .ref I, ns, us, pre, un, b0, xs, lines, e, rfl, C11.sys, C11.ok, rfl, C11.lt, by omega, ⟨I, rfl, .inl (SqL.of hI2)⟩, hU, hP, fun p l H12 e12 hl12 hp12 hl12' => ?_⟩
        refine repr_ask (dp_told hp12 hl12') hfine (by omega) (by omega) ?_
        refine ⟨_, rfl, I, xs, rfl, .inl (SqL.of (e12 _ _ hI2)), fun mi hmi => ⟨_, _, rfl, ?_⟩⟩
        have f13 := Evl.Ex.new (o := .lst xs) hmi
        have smi : upd H12 mi (.lst xs) mi = some (.lst xs) := upd_same
        generalize upd H12 mi (.lst xs) = H13 at f13 smi ⊢
        have e13 := e12.trans f13
        have C13 := C11.mono e13
        refine ⟨_, rfl, _, rfl, _, rfl, _, rfl, wds ns, a, st, m, .ref mi, ns, us, pre, un, b0, xs, lines, e, rfl, C13.sys, C13.ok, rfl, C13.lt, by omega, ⟨mi, rfl, .inl smi⟩, hU, hP, fun p2 l2 H14 e14 hl14 hp14 hl14' => ?_⟩
        refine ⟨_, rfl, ?_⟩
        refine repr_ask (dp_told hp14 hl14') hfine (by omega) (by omega) ?_
        refine ⟨_, rfl, rfl, _, rfl, iteFo (by simp) ?_⟩
        refine ⟨_, rfl, ?_⟩
        refine repr_ask (.lst (SqL.of (e14 _ _ smi)) (dpAll_mono (e13.trans e14) hdp)) hxf (by omega) (by omega) ?_
        refine ⟨_, rfl, ?_⟩
        refine repr_ask (.lst (SqL.of ((e13.trans e14) _ _ hI2)) (dpAll_mono (e13.trans e14) hdp)) hxf (by omega) (by omega) ?_
        refine ⟨rfl, _, rfl, iteFo (by simp) ?_⟩
        refine ⟨_, rfl, p2, _, 0, _, rfl, rfl, SqT.of hp14, rfl, .inl ⟨rfl, _, SqL.of hl14'⟩, l2, _, _, rfl, rfl, hl14', Nat.lt_of_le_of_lt (show (lines.map V.str).length ≤ 100 by rw [List.length_map]; have := hP.len; omega) (by decide), ?_⟩
        exact ⟨_, _, _, _, _, rfl, Ex.app (e11.trans (e13.trans e14)) (Evl.fresh_back (e11.trans e13) hl14)⟩
      · rintro σ H11 ⟨x10, x11, x12, x13, x14, rfl, e11⟩
        exact ⟨_, _, _, _, _, _, rfl, eS.trans e11⟩
  · rintro σ H10 ⟨x9, x10, x11, x12, x13, x14, rfl, e10⟩
    have C10 := CC.mono e10
    obtain ⟨lines, e, hP⟩ := C.dr.play (Nat.le_refl _) (cp_all is)
    have hfine := fine_play hok (by omega) hP
    refine ⟨_, rfl, _, rfl, _, rfl, _, rfl, wds ns, a, st, N, .ref F, ns, us, pre, un, b0, is.map Ans.v, lines, e, rfl, C10.sys, C10.ok, rfl, C10.lt, by omega, ⟨F, rfl, .inl (SqL.of C10.ans)⟩, hU, hP, fun p l H12 e12 hl12 hp12 hl12' => ?_⟩
    refine repr_ask (dp_told hp12 hl12') hfine (by omega) (by omega) ?_
    have C12 := C10.mono e12
    refine ⟨_, rfl, _, rfl, _, rfl, F, _, rfl, .inl ⟨SqL.of C12.ans, fun q o hq ho => ?_⟩⟩
    have f13 := Evl.Ex.new (o := .frz o (.tup (is.map Ans.v))) hq
    have C13 := C12.mono f13
    refine ⟨_, rfl, ?_⟩
    refine ⟨rfl, wds ns, a, st, N, .ref q, ns, us, pre, un, b0, is.map Ans.v, lines, e, rfl, C13.sys, C13.ok, rfl, C13.lt, by omega, ⟨q, rfl, .inr (.inr ⟨o, upd_same⟩)⟩, hU, hP, fun p2 l2 H14 e14 hl14 hp14 hl14' => ?_⟩
    refine repr_ask (dp_told hp14 hl14') hfine (by omega) (by omega) ?_
    refine ⟨_, rfl, rfl, ?_⟩
    rw [decide_eq_true rfl]
    exact hQ _ (e9.trans (e10.trans (e12.trans (f13.trans e14))))

end
end K14
namespace K14
open PySem PySem.Spec PyProof.Rows L2 C8

theorem grow_at {T i : Nat} (hi : i < 2 * T) : (rgV 1 ((T : Int) + 1) ++ (rgV 0 (T : Int)).reverse)[i]? = some (V.int ((if i < T then i + 1 else 2 * T - 1 - i : Nat) : Int)) := by
  have l1 : (rgV 1 ((T : Int) + 1)).length = T := by rw [rgV_length]; omega
  have l0 : (rgV 0 (T : Int)).length = T := by rw [rgV_length]; omega
  by_cases h : i < T
  · rw [if_pos h, List.getElem?_append_left (by omega)]
    unfold rgV
    rw [List.getElem?_map, List.getElem?_range (by omega)]
    show some (V.int (1 + (i : Int))) = _
    rw [show (1 + (i : Int)) = ((i + 1 : Nat) : Int) by omega]
  · rw [if_neg h, List.getElem?_append_right (by omega), l1, List.getElem?_reverse (by omega), l0]
    unfold rgV
    rw [List.getElem?_map, List.getElem?_range (by omega)]
    show some (V.int (0 + ((T - 1 - (i - T) : Nat) : Int))) = _
    rw [Int.zero_add, show T - 1 - (i - T) = 2 * T - 1 - i by omega]
theorem grow_len (T : Nat) : (rgV 1 ((T : Int) + 1) ++ (rgV 0 (T : Int)).reverse).length = 2 * T := by
  rw [List.length_append, List.length_reverse, rgV_length, rgV_length]
  omega
theorem min4_lem (n : Nat) : (if ((n : Nat) : Int) < 4 then ((n : Nat) : Int) else 4) = ((min 4 n : Nat) : Int) := by split <;> omega
section
variable {P : Program} {w : World} {K : PySem.W.Frag} {mg : Str → Option Value} {base : Heap} {k n : Nat} {ws : List Str}
abbrev N_l_grown_right : List Str := ["system", "store", "answers", "most", "grown", "top", "many", "due"]
theorem sc_l_grown_right : FnScope N_l_grown_right ["system", "store", "answers", "most"] (defScope (top 99)) := ⟨rfl, rfl, rfl, by decide +kernel, rfl, by decide +kernel, by decide +kernel⟩
def spGrownR (K : PySem.W.Frag) : Sp := fun vs H Q _ => ∃ (a F O : Addr) (st N : Nat) (ns : NS) (us : US) (un : Str) (b0 : List Sm) (is : List Ans) (ov : List V) (ds : List PyData), vs = [.ref a, .int (st : Int), .ref F, .int (N : Int)] ∧ CaseAt K H a F O st N ns us un b0 is ov ds ∧ ∀ H', Ex H H' → Q (.bl true) H'
theorem ok_l_grown_right (T : Txt K mg) (C_play : Cal P w K mg base 23 "play" (spPlayA K) []) (C_l_play : Cal P w K mg base 10 "_law_play" (spPlayLA K) []) : CalG P w K mg base 24 "_law_grown_right" (spGrownR K) := by
  obtain ⟨fd, F⟩ := T.d__law_grown_right
  refine ⟨_, fd, ["system", "store", "answers", "most"], ?_, T.g__law_grown_right, F.kp, F.bindsN fun _ _ _ _ _ _ us hl => match us, hl with | [_, _, _, _], _ => rfl⟩
  refine F.okG sc_l_grown_right (fun vs H Q E h => by obtain ⟨_, _, _, _, _, _, _, _, _, _, _, _, rfl, _⟩ := h; rfl) (fun cdv A outer s H vs Q E hG hr h => ?_)
  have hu := hu_of hr
  refine ⟨_, PSs.nox (pss_cons (ps_par (i := 4) (j := 5) (by rfl) sc_l_grown_right.nd rfl rfl (by decide) rfl rfl (pa_cons (pe_lst pa_nil) (pa_cons (pe_callB (call_min2 rfl) (by rfl) T.f_min (by decide +kernel) (pa_cons pe_int (pa_cons (pe_callB call_len_seq (by rfl) T.f_len (by decide +kernel) (pa_cons (pv 2) pa_nil)) pa_nil))) pa_nil)) (by rfl))
      (pss_cons (ps_for PassesOwn.never rfl (pi_list (pe_op op_cat (pe_listRg rfl (by rfl) T.f_list (prg_2 (by rfl) T.f_range pe_int (pe_op op_add (pv 5) pe_int))) (pe_revL (pe_listRg rfl (by rfl) T.f_list (prg_1 (by rfl) T.f_range (pv 5)))))) (pg_name (i := 6) sc_l_grown_right.nd rfl (Or.inl rfl)) (pss_cut (ps_if (pt_cmpR op_gt (pv 6) (pe_callB call_len_seq (by rfl) T.f_len (by decide +kernel) (pa_cons (pv 4) pa_nil)) (nomark _)) (pss_one (ps_expr (pe_bm PySem.F.plainAttrs_list PySem.F.slot_list_append PySem.F.type_list_append mt_append (pv 4) (pa_cons (pe_ix ix_list (pv 2) (pe_op op_sub (pv 6) pe_int) (fun _ _ => rfl)) pa_nil)))) (pss_one (ps_expr (pe_bm0 PySem.F.plainAttrs_list PySem.F.slot_list_pop PySem.F.type_list_pop mt_pop (pv 4)))))
      (pss_cons (ps_set (i := 7) sc_l_grown_right.nd rfl (Or.inl rfl) (pe_callB (call_repr hG hr.units) (by rfl) T.f_repr (by decide +kernel) (pa_cons (pe_c C_l_play hr (by omega) rfl (pa_cons (pv 0) (pa_cons (pv 1) (pa_cons (pe_slice sl_list (pv 2) po_none (po_some (pv 6))) (pa_cons (pv 3) pa_nil))))) pa_nil)))
      (pss_one (ps_if (PW.pt (pw_or (pt_cmpR op_ne (pe_callB (call_repr hG hr.units) (by rfl) T.f_repr (by decide +kernel) (pa_cons (pe_c C_play hr (by omega) rfl (pa_cons (pv 0) (pa_cons (pv 1) (pa_cons (pv 4) (pa_cons (pv 3) pa_nil))))) pa_nil)) (pv 7) (nomark _)) (pw_or1 (pt_cmpR op_ne (pe_callB (call_repr hG hr.units) (by rfl) T.f_repr (by decide +kernel) (pa_cons (pv 4) pa_nil)) (pe_callB (call_repr hG hr.units) (by rfl) T.f_repr (by decide +kernel) (pa_cons (pe_slice sl_list (pv 2) po_none (po_some (pv 6))) pa_nil)) (nomark _))))) (pss_one (ps_ret pe_bl)) pss_nil)))))
      (pss_one (ps_ret pe_bl)))), ?_⟩
  obtain ⟨a, F, O, st, N, ns, us, un, b0, is, ov, ds, rfl, C, hQ⟩ := h
  have il := C.il
  have n30 := C.n30
  obtain ⟨pre, hU⟩ := C.last
  have hok := C.ok.nok
  have vl : (is.map Ans.v).length = is.length := List.length_map _
  refine ⟨Nat.zero_le _, fun G hG0 => ?_⟩
  have f1 := Evl.Ex.new (o := .lst []) hG0
  have sG : upd H G (.lst []) G = some (.lst []) := upd_same
  generalize upd H G (.lst []) = H1 at f1 sG ⊢
  have C1 := C.mono f1
  refine ⟨_, rfl, F, _, rfl, .inl (SqL.of C1.ans), _, _, rfl, ?_⟩
  rw [vl, min4_lem]
  have hT4 : min 4 is.length ≤ 4 ∧ min 4 is.length ≤ is.length := by omega
  generalize min 4 is.length = T at hT4 ⊢
  refine ⟨_, _, rfl, ?_⟩
  refine ⟨_, rfl, _, _, rfl, rfl, _, _, rfl, rfl, RgOk.of_le (by omega) (by omega) (by omega) (by omega), fun A hA => ?_⟩
  have f2 := Evl.Ex.new (o := .lst (rgV 1 ((T : Int) + 1))) hA
  have sA : upd H1 A (.lst (rgV 1 ((T : Int) + 1))) A = some (.lst (rgV 1 ((T : Int) + 1))) := upd_same
  generalize upd H1 A (.lst (rgV 1 ((T : Int) + 1))) = H2 at f2 sA ⊢
  refine ⟨_, rfl, _, rfl, RgOk.of_le (by omega) (by omega) (by omega) (by omega), fun B hB => ?_⟩
  have f3 := Evl.Ex.new (o := .lst (rgV 0 (T : Int))) hB
  have sB : upd H2 B (.lst (rgV 0 (T : Int))) B = some (.lst (rgV 0 (T : Int))) := upd_same
  generalize upd H2 B (.lst (rgV 0 (T : Int))) = H3 at f3 sB ⊢
  refine ⟨B, _, rfl, SqL.of sB, fun B2 hB2 => ?_⟩
  have f4 := Evl.Ex.new (o := .lst (rgV 0 (T : Int)).reverse) hB2
  have sB2 : upd H3 B2 (.lst (rgV 0 (T : Int)).reverse) B2 = some (.lst (rgV 0 (T : Int)).reverse) := upd_same
  generalize upd H3 B2 (.lst (rgV 0 (T : Int)).reverse) = H4 at f4 sB2 ⊢
  have gl := grow_len T
  refine ⟨A, B2, _, _, rfl, rfl, (f3.trans f4) _ _ sA, sB2, Nat.le_trans (show (rgV 1 ((T : Int) + 1)).length + (rgV 0 (T : Int)).reverse.length ≤ 100 by rw [List.length_append] at gl; omega) (by decide), fun S hS => ?_⟩
  have f5 := Evl.Ex.new (o := .lst (rgV 1 ((T : Int) + 1) ++ (rgV 0 (T : Int)).reverse)) hS
  have sS : upd H4 S (.lst (rgV 1 ((T : Int) + 1) ++ (rgV 0 (T : Int)).reverse)) S = some (.lst (rgV 1 ((T : Int) + 1) ++ (rgV 0 (T : Int)).reverse)) := upd_same
  generalize upd H4 S (.lst (rgV 1 ((T : Int) + 1) ++ (rgV 0 (T : Int)).reverse)) = H5 at f5 sS ⊢
  have e15 := f2.trans (f3.trans (f4.trans f5))
  have sG := e15 _ _ sG
  have e5 := f1.trans e15
  have nGS : G ≠ S := ne_of_none ((f2.trans (f3.trans f4)) _ _ ‹H1 G = some (.lst [])›) hS
  clear f1 f2 f3 f4 f5 sA sB sB2 C1 hA hB hB2 e15
  refine ⟨S, rfl, ⟨_, SqL.of sS⟩, ?_⟩
  refine for_it (walk_list (xs := rgV 1 ((T : Int) + 1) ++ (rgV 0 (T : Int)).reverse)) (fun i σ H' => ∃ (x6 x7 : Option V), σ = [some (.ref a), some (.int (st : Int)), some (.ref F), some (.int (N : Int)), some (.ref G), some (.int (T : Int)), x6, x7] ∧ Ex H H' ∧ H' S = some (.lst (rgV 1 ((T : Int) + 1) ++ (rgV 0 (T : Int)).reverse)) ∧ H' G = some (.lst ((is.map Ans.v).take (if i ≤ T then i else 2 * T - i))))
    ⟨none, none, rfl, e5, sS, by rw [if_pos (Nat.zero_le _)]; exact sG⟩ (fun i σ H' _ z => by obtain ⟨_, _, _, _, z, _⟩ := z; exact SqL.of z) ?_ ?_
  · clear sG sS e5
    rintro i x σ H6 H6' hi ⟨x6, x7, rfl, e6, sS, sG⟩ ⟨rfl, hx⟩
    rw [gl] at hi
    rw [grow_at hi] at hx
    cases hx
    have C6 := C.mono e6
    have hgl : ((is.map Ans.v).take (if i ≤ T then i else 2 * T - i)).length = (if i ≤ T then i else 2 * T - i) := by
      rw [List.length_take, vl]
      split <;> omega
    refine ⟨fun σ H' => σ = [some (.ref a), some (.int (st : Int)), some (.ref F), some (.int (N : Int)), some (.ref G), some (.int (T : Int)), some (.int ((if i < T then i + 1 else 2 * T - 1 - i : Nat) : Int)), x7] ∧ Ex H H' ∧ H' S = some (.lst (rgV 1 ((T : Int) + 1) ++ (rgV 0 (T : Int)).reverse)) ∧ H' G = some (.lst ((is.map Ans.v).take (if i < T then i + 1 else 2 * T - 1 - i))), ?_, ?_⟩
    · refine ⟨_, rfl, _, rfl, G, _, rfl, .inl (SqL.of sG), _, _, rfl, rfl, _, rfl, ?_⟩
      rw [hgl]
      by_cases h : i < T
      · rw [if_pos (show i ≤ T by omega)] at sG hgl ⊢
        rw [if_pos h]
        refine iteTo (decide_eq_true (by omega)) ?_
        have hix : (is.map Ans.v)[i]? = some ((is.map Ans.v)[i]'(by omega)) := List.getElem?_eq_getElem (by omega)
        refine ⟨_, rfl, .inl ⟨rfl, _, SqL.of sG⟩, _, rfl, _, rfl, _, _, rfl, rfl, F, _, _, _, rfl, rfl, SqL.of C6.ans, by rw [show (((i + 1 : Nat) : Int) - 1) = ((i : Nat) : Int) by omega]; exact atI_nat hix, G, _, _, rfl, rfl, sG, Nat.lt_of_le_of_lt (show _ ≤ 100 by rw [hgl]; omega) (by decide), ?_⟩
        refine ⟨rfl, Ex.app e6 hG0, by rw [upd_ne nGS.symm]; exact sS, ?_⟩
        rw [upd_same, List.take_add_one, hix]
        rfl
      · have hg1 : (if i ≤ T then i else 2 * T - i) = 2 * T - i := by split <;> omega
        rw [hg1] at sG hgl ⊢
        rw [if_neg h]
        refine iteFo (decide_eq_false (by omega)) ?_
        have hlast : ((is.map Ans.v).take (2 * T - i))[((is.map Ans.v).take (2 * T - i)).length - 1]? = some (((is.map Ans.v).take (2 * T - i))[((is.map Ans.v).take (2 * T - i)).length - 1]'(by omega)) := List.getElem?_eq_getElem (by omega)
        refine ⟨_, rfl, .inl ⟨rfl, _, SqL.of sG⟩, G, _, _, rfl, rfl, sG, hlast, ?_⟩
        refine ⟨rfl, Ex.app e6 hG0, by rw [upd_ne nGS.symm]; exact sS, ?_⟩
        rw [upd_same, List.dropLast_eq_take, hgl, List.take_take]
        rw [show min (2 * T - i - 1) (2 * T - i) = 2 * T - 1 - i by omega]
    clear sG sS e6 C6 hgl
    rintro σ H7 ⟨rfl, e7, sS, sG⟩
    have C7 := C.mono e7
    have hnx : (if i + 1 ≤ T then i + 1 else 2 * T - (i + 1)) = (if i < T then i + 1 else 2 * T - 1 - i) := by split <;> split <;> omega
    have hm4 : (if i < T then i + 1 else 2 * T - 1 - i) ≤ 4 := by split <;> omega
    generalize (if i < T then i + 1 else 2 * T - 1 - i) = m at sG hnx hm4 ⊢
    obtain ⟨lines, e, hP⟩ := C.dr.play (Nat.le_refl _) (cp_take is m)
    have hfine := fine_play hok n30 hP
    refine ⟨_, rfl, _, rfl, _, rfl, _, rfl, _, rfl, F, _, rfl, SqL.of C7.ans, fun S1 hS1 => ?_⟩
    rw [cut_takeM]
    have f8 := Evl.Ex.new (o := .lst ((is.map Ans.v).take m)) hS1
    have sS1 : upd H7 S1 (.lst ((is.map Ans.v).take m)) S1 = some (.lst ((is.map Ans.v).take m)) := upd_same
    generalize upd H7 S1 (.lst ((is.map Ans.v).take m)) = H8 at f8 sS1 ⊢
    have C8 := C7.mono f8
    refine ⟨_, rfl, ?_⟩
    refine ⟨wds ns, a, st, N, .ref S1, ns, us, pre, un, b0, _, lines, e, rfl, C8.sys, C8.ok, rfl, C8.lt, by omega, ⟨S1, rfl, .inl (SqL.of sS1)⟩, hU, hP, fun p l H9 e9 hl9 hp9 hl9' => ?_⟩
    refine repr_ask (dp_told hp9 hl9') hfine (by omega) (by omega) ?_
    have C9 := C8.mono e9
    have sG9 := (f8.trans e9) _ _ sG
    refine ⟨_, rfl, _, rfl, _, rfl, _, rfl, wds ns, a, st, N, .ref G, ns, us, pre, un, b0, _, lines, e, rfl, C9.sys, C9.ok, rfl, C9.lt, by omega, ⟨G, rfl, .inl sG9⟩, hU, hP, fun p2 l2 H10 e10 hl10 hp10 hl10' => ?_⟩
    refine repr_ask (dp_told hp10 hl10') hfine (by omega) (by omega) ?_
    refine ⟨_, rfl, rfl, _, rfl, iteFo (by simp) ?_⟩
    have C10 := C9.mono e10
    have sG10 := e10 _ _ sG9
    have dpm : ∀ {H' : Hp}, DpAll K H' ((is.map Ans.v).take m) ((is.take m).map ansD) := fun {H'} => by rw [← List.map_take]; exact dp_ans _
    have hxf : Fine (.list ((is.take m).map ansD)) 5 100000 := fine_items (fine_sub fun y hy => C.iok y (List.mem_of_mem_take hy)) (by rw [List.length_map, List.length_take]; omega)
    refine ⟨_, rfl, ?_⟩
    refine repr_ask (.lst (SqL.of sG10) dpm) hxf (by omega) (by omega) ?_
    refine ⟨_, rfl, _, rfl, _, rfl, F, _, rfl, SqL.of C10.ans, fun S2 hS2 => ?_⟩
    rw [cut_takeM]
    have f11 := Evl.Ex.new (o := .lst ((is.map Ans.v).take m)) hS2
    have sS2 : upd H10 S2 (.lst ((is.map Ans.v).take m)) S2 = some (.lst ((is.map Ans.v).take m)) := upd_same
    generalize upd H10 S2 (.lst ((is.map Ans.v).take m)) = H11 at f11 sS2 ⊢
    refine repr_ask (.lst (SqL.of sS2) dpm) hxf (by omega) (by omega) ?_
    refine ⟨rfl, _, rfl, iteFo (by simp) ?_⟩
    have eA := f8.trans (e9.trans (e10.trans f11))
    exact ⟨_, _, rfl, e7.trans eA, eA _ _ sS, by rw [hnx]; exact eA _ _ sG⟩
  · rintro σ H6 ⟨x6, x7, rfl, e6, _, _⟩
    exact hQ _ e6

end
end K14
namespace K14
open PySem PySem.Spec PyProof.Rows L2 C8

/-- odd values -/
inductive OddIs (z : Addr) : List V → List PyData → Prop
  | a : OddIs z [.non] [.none]
  | b : OddIs z [.str "a", .int (-1)] [.str "a", .int (-1)]
  | c : OddIs z [.ref z, .bl true, .str "loop"] [.list [], .bool true, .str "loop"]
  | d : OddIs z [.int 0, .int 0, .int 0] [.int 0, .int 0, .int 0]
theorem OddIs.dp {K : PySem.W.Frag} {H : Hp} {z : Addr} {ov : List V} {ds : List PyData} (o : OddIs z ov ds) (h : H z = some (.lst [])) : DpAll K H ov ds := by
  cases o with
  | a => exact .cons .non .nil
  | b => exact .cons (.str _) (.cons (.int _) .nil)
  | c => exact .cons (.lst (SqL.of h) .nil) (.cons (.bl _) (.cons (.str _) .nil))
  | d => exact .cons (.int _) (.cons (.int _) (.cons (.int _) .nil))
theorem OddIs.len {z : Addr} {ov : List V} {ds : List PyData} (o : OddIs z ov ds) : ov.length ≤ 3 := by
  cases o <;> simp
theorem fineC {d : PyData} (h1 : d.canLay0 = true) (h2 : d.depth ≤ 1) (h3 : d.showable = true) (h4 : d.hasDict = false) (h5 : d.shown.length ≤ 300) : Fine d 1 300 := ⟨h1, h2, h3, h4, h5⟩
theorem OddIs.fine {z : Addr} {ov : List V} {ds : List PyData} (o : OddIs z ov ds) : ∀ d ∈ ds, Fine d 1 300 := by
  have k1 : Fine .none 1 300 := Fine.none.mono (by omega) (by omega)
  have k2 : Fine (.str "a") 1 300 := fineC (by decide +kernel) (by decide +kernel) (by decide +kernel) (by decide +kernel) (by decide +kernel)
  have k3 : Fine (.int (-1)) 1 300 := fineC (by decide +kernel) (by decide +kernel) (by decide +kernel) (by decide +kernel) (by decide +kernel)
  have k4 : Fine (.list []) 1 300 := fineC (by decide +kernel) (by decide +kernel) (by decide +kernel) (by decide +kernel) (by decide +kernel)
  have k5 : Fine (.bool true) 1 300 := fineC (by decide +kernel) (by decide +kernel) (by decide +kernel) (by decide +kernel) (by decide +kernel)
  have k6 : Fine (.str "loop") 1 300 := fineC (by decide +kernel) (by decide +kernel) (by decide +kernel) (by decide +kernel) (by decide +kernel)
  have k7 : Fine (.int 0) 1 300 := fineC (by decide +kernel) (by decide +kernel) (by decide +kernel) (by decide +kernel) (by decide +kernel)
  intro d hd
  cases o with
  | a =>
    cases (List.mem_singleton.mp hd)
    exact k1
  | b =>
    simp only [List.mem_cons, List.not_mem_nil, or_false] at hd
    rcases hd with rfl | rfl
    · exact k2
    · exact k3
  | c =>
    simp only [List.mem_cons, List.not_mem_nil, or_false] at hd
    rcases hd with rfl | rfl | rfl
    · exact k4
    · exact k5
    · exact k6
  | d =>
    simp only [List.mem_cons, List.not_mem_nil, or_false] at hd
    rcases hd with rfl | rfl | rfl <;> exact k7
/-- a case in the list of cases -/
def CRow (S : List Addr) (K : PySem.W.Frag) (H : Hp) (c : Addr) : Prop := ∃ (a F O z : Addr) (st N cut few : Nat) (ns : NS) (us : US) (un : Str) (b0 : List Sm) (is : List Ans) (ov : List V) (ds : List PyData), H c = some (.lst [.ref a, .int (st : Int), .ref F, .int (N : Int), .int (cut : Int), .int (few : Int), .ref O]) ∧ CaseAt K H a F O st N ns us un b0 is ov ds ∧ few ≤ N ∧ c ∉ S ∧ F ∉ S ∧ O ∉ S ∧ z ∉ S ∧ H z = some (.lst []) ∧ OddIs z ov ds
theorem CRow.go {S : List Addr} {K : PySem.W.Frag} {H H' : Hp} {c : Addr} (g : Go S H H') (h : CRow S K H c) : CRow S K H' c := by
  obtain ⟨a, F, O, z, st, N, cut, few, ns, us, un, b0, is, ov, ds, hc, C, hf, nc, nF, nO, nz, hz, ho⟩ := h
  have hz' := g.at hz nz
  exact ⟨a, F, O, z, st, N, cut, few, ns, us, un, b0, is, ov, ds, g.at hc nc, ⟨C.sys.kt g.kt, C.ok, C.last, C.lt, g.at C.ans nF, C.dr, C.il, C.n30, C.iok, g.at C.odd nO, ho.dp hz', C.ol, C.of⟩, hf, nc, nF, nO, nz, hz', ho⟩
theorem most_menu (r : Nat) (hr : r < 4) : ∃ m : Nat, atI [V.int 30, V.int 30, V.int 12, V.int 20] (r : Int) = some (.int (m : Int)) ∧ 12 ≤ m ∧ m ≤ 30 := by
  have : r = 0 ∨ r = 1 ∨ r = 2 ∨ r = 3 := by omega
  rcases this with rfl | rfl | rfl | rfl
  · exact ⟨30, atI_nat rfl, by omega, by omega⟩
  · exact ⟨30, atI_nat rfl, by omega, by omega⟩
  · exact ⟨12, atI_nat rfl, by omega, by omega⟩
  · exact ⟨20, atI_nat rfl, by omega, by omega⟩
theorem odd_menu {z o1 o2 o3 o4 : Addr} (r : Nat) (hr : r < 4) : ∃ (o : Addr) (ov : List V) (ds : List PyData), atI [V.ref o1, V.ref o2, V.ref o3, V.ref o4] (r : Int) = some (.ref o) ∧ OddIs z ov ds ∧ ((o = o1 ∧ ov = [.non]) ∨ (o = o2 ∧ ov = [.str "a", .int (-1)]) ∨ (o = o3 ∧ ov = [.ref z, .bl true, .str "loop"]) ∨ (o = o4 ∧ ov = [.int 0, .int 0, .int 0])) := by
  have : r = 0 ∨ r = 1 ∨ r = 2 ∨ r = 3 := by omega
  rcases this with rfl | rfl | rfl | rfl
  · exact ⟨o1, _, _, atI_nat rfl, .a, .inl ⟨rfl, rfl⟩⟩
  · exact ⟨o2, _, _, atI_nat rfl, .b, .inr (.inl ⟨rfl, rfl⟩)⟩
  · exact ⟨o3, _, _, atI_nat rfl, .c, .inr (.inr (.inl ⟨rfl, rfl⟩))⟩
  · exact ⟨o4, _, _, atI_nat rfl, .d, .inr (.inr (.inr ⟨rfl, rfl⟩))⟩
theorem minN_lem (p n : Nat) : (if ((n : Nat) : Int) < (p : Int) then ((n : Nat) : Int) else (p : Int)) = ((min p n : Nat) : Int) := by split <;> omega
section
variable {P : Program} {w : World} {K : PySem.W.Frag} {mg : Str → Option Value} {base : Heap} {k n : Nat} {ws : List Str}
abbrev N_l_right : List Str := ["box", "cases", "odd", "turn", "system", "most", "store", "part", "less", "answers", "at", "whole"]
theorem sc_l_right : FnScope N_l_right ["box"] (defScope (top 100)) := ⟨rfl, rfl, rfl, by decide +kernel, rfl, by decide +kernel, by decide +kernel⟩
def spRight : Sp := fun vs H Q _ => ∃ b : Addr, vs = [.ref b] ∧ Box H b 0 ∧ ∀ H', Go [b] H H' → Q (.bl true) H'
theorem ok_l_right (T : Txt K mg) (C_l_take : Cal P w K mg base 1 "_law_take" spTakeG []) (C_l_system : Cal P w K mg base 16 "_law_system" (spLSys K) []) (C_l_many : Cal P w K mg base 1 "_law_many" (spMany K) []) (C_l_answers : Cal P w K mg base 10 "_law_answers" (spAnswersA K) []) (C_l_asked_right : CalG P w K mg base 24 "_law_asked_right" (spAskedR K)) (C_l_grown_right : CalG P w K mg base 24 "_law_grown_right" (spGrownR K)) : CalG P w K mg base 25 "_law_right" (spRight) := by
  obtain ⟨fd, F⟩ := T.d__law_right
  refine ⟨_, fd, ["box"], ?_, T.g__law_right, F.kp, F.bindsN fun _ _ _ _ _ _ us hl => match us, hl with | [_], _ => rfl⟩
  refine F.okG sc_l_right (fun vs H Q E h => by obtain ⟨_, rfl, _⟩ := h; rfl) (fun cdv A outer s H vs Q E hG hr h => ?_)
  have hu := hu_of hr
  refine ⟨_, PSs.nox (pss_cut (ps_par (i := 1) (j := 2) (by rfl) sc_l_right.nd rfl rfl (by decide) rfl rfl (pa_cons (pe_lst pa_nil) (pa_cons (pe_ix ix_list (pe_lst (pa_cons (pe_lst (pa_cons pe_non pa_nil)) (pa_cons (pe_lst (pa_cons pe_str (pa_cons (pe_un un_neg pe_int) pa_nil))) (pa_cons (pe_lst (pa_cons (pe_lst pa_nil) (pa_cons pe_bl (pa_cons pe_str pa_nil)))) (pa_cons (pe_lst (pa_cons pe_int (pa_cons pe_int (pa_cons pe_int pa_nil)))) pa_nil))))) (pe_c C_l_take hr (by omega) rfl (pa_cons (pv 0) (pa_cons pe_int pa_nil))) (fun _ _ => rfl)) pa_nil)) (by rfl))
      (pss_cut (ps_for PassesOwn.never rfl (pi_range1 (by rfl) T.f_range (pa_cons pe_int pa_nil)) (pg_name (i := 3) sc_l_right.nd rfl (Or.inl rfl)) (pss_cons (ps_par (i := 4) (j := 5) (by rfl) sc_l_right.nd rfl rfl (by decide) rfl rfl (pa_cons (pe_c C_l_system hr (by omega) rfl (pa_cons (pv 0) pa_nil)) (pa_cons (pe_ix ix_list (pe_lst (pa_cons pe_int (pa_cons pe_int (pa_cons pe_int (pa_cons pe_int pa_nil))))) (pe_c C_l_take hr (by omega) rfl (pa_cons (pv 0) (pa_cons pe_int pa_nil))) (fun _ _ => rfl)) pa_nil)) (by rfl))
      (pss_cons (ps_par3 (i := 6) (j := 7) (l := 8) (by rfl) sc_l_right.nd rfl rfl rfl (by decide) (by decide) (by decide) rfl rfl rfl (pa_cons (pe_c C_l_take hr (by omega) rfl (pa_cons (pv 0) (pa_cons (pe_c C_l_many hr (by omega) rfl (pa_cons (pv 4) pa_nil)) pa_nil))) (pa_cons (pe_c C_l_take hr (by omega) rfl (pa_cons (pv 0) (pa_cons pe_int pa_nil))) (pa_cons (pe_c C_l_take hr (by omega) rfl (pa_cons (pv 0) (pa_cons pe_int pa_nil))) pa_nil))) (by rfl))
      (pss_cons (ps_set (i := 9) sc_l_right.nd rfl (Or.inl rfl) (pe_c C_l_answers hr (by omega) rfl (pa_cons (pv 0) (pa_cons (pv 4) (pa_cons (pv 6) (pa_cons (pv 5) pa_nil))))))
      (pss_one (ps_expr (pe_bm PySem.F.plainAttrs_list PySem.F.slot_list_append PySem.F.type_list_append mt_append (pv 1) (pa_cons (pe_lst (pa_cons (pv 4) (pa_cons (pv 6) (pa_cons (pv 9) (pa_cons (pv 5) (pa_cons (pe_callB (call_min2 rfl) (by rfl) T.f_min (by decide +kernel) (pa_cons (pv 7) (pa_cons (pe_callB call_len_seq (by rfl) T.f_len (by decide +kernel) (pa_cons (pv 9) pa_nil)) pa_nil))) (pa_cons (pv 8) (pa_cons (pv 2) pa_nil)))))))) pa_nil))))))))
      (pss_cons (ps_for PassesOwn.never rfl (pi_list (pe_lst (pa_cons (pe_tup (pa_cons pe_int (pa_cons pe_bl pa_nil))) (pa_cons (pe_tup (pa_cons pe_int (pa_cons pe_bl pa_nil))) (pa_cons (pe_tup (pa_cons pe_int (pa_cons pe_bl pa_nil))) pa_nil))))) (pg_tup (by rfl) (pgs_cons (pg_name (i := 10) sc_l_right.nd rfl (Or.inl rfl)) (pgs_cons (pg_name (i := 11) sc_l_right.nd rfl (Or.inl rfl)) pgs_nil))) (pss_cons (ps_if (pt_not (pt_val (pe_cG C_l_asked_right hG hr (by omega) rfl (pa_cons (pe_ix ix_list (pv 1) (pv 10) (fun _ _ => rfl)) (pa_cons (pv 11) pa_nil))))) (pss_one (ps_ret pe_bl)) pss_nil)
      (pss_one (ps_if (PW.pt (pw_and (pt_val (pv 11)) (pw_and1 (pt_not (pt_val (pe_cG C_l_grown_right hG hr (by omega) rfl (pa_cons (pe_ix ix_list (pe_ix ix_list (pv 1) (pv 10) (fun _ _ => rfl)) pe_int (fun _ _ => rfl)) (pa_cons (pe_ix ix_list (pe_ix ix_list (pv 1) (pv 10) (fun _ _ => rfl)) pe_int (fun _ _ => rfl)) (pa_cons (pe_ix ix_list (pe_ix ix_list (pv 1) (pv 10) (fun _ _ => rfl)) pe_int (fun _ _ => rfl)) (pa_cons (pe_ix ix_list (pe_ix ix_list (pv 1) (pv 10) (fun _ _ => rfl)) pe_int (fun _ _ => rfl)) pa_nil)))))))))) (pss_one (ps_ret pe_bl)) pss_nil))))
      (pss_one (ps_ret pe_bl))))), ?_⟩
  obtain ⟨b, rfl, B, hQ⟩ := h
  refine ⟨fun σ H' => ∃ (Cs O z : Addr) (ov : List V) (ds : List PyData), σ = [some (.ref b), some (.ref Cs), some (.ref O), none, none, none, none, none, none, none, none, none] ∧ Go [b] H H' ∧ Box H' b 1 ∧ H Cs = none ∧ Cs ≠ b ∧ H' Cs = some (.lst []) ∧ H' O = some (.lst ov) ∧ O ∉ [b, Cs] ∧ z ∉ [b, Cs] ∧ H' z = some (.lst []) ∧ OddIs z ov ds, ?_, ?_⟩
  · refine ⟨Nat.zero_le _, fun Cs hCs => ?_⟩
    have e1 := Evl.Ex.new (o := .lst []) hCs
    have sC : upd H Cs (.lst []) Cs = some (.lst []) := upd_same
    have nCb := B.ne hCs
    have B1 := B.ex e1
    generalize upd H Cs (.lst []) = H1 at e1 sC B1 ⊢
    refine ⟨(by show 1 ≤ sizeLine; decide), fun o1 ho1 => ?_⟩
    have f1 := Evl.Ex.new (o := .lst [.non]) ho1
    have s1 : upd H1 o1 (.lst [.non]) o1 = some (.lst [.non]) := upd_same
    have n1 : o1 ∉ [b, Cs] := by simp [B1.ne ho1, (ne_of_none sC ho1).symm]
    have sC := f1 _ _ sC
    have B1 := B1.ex f1
    have e1 := e1.trans f1
    generalize upd H1 o1 (.lst [.non]) = H2 at e1 sC B1 s1 ⊢
    refine ⟨_, rfl, (by show 2 ≤ sizeLine; decide), fun o2 ho2 => ?_⟩
    have f2 := Evl.Ex.new (o := .lst [.str "a", .int (-1)]) ho2
    have s2 : upd H2 o2 (.lst [.str "a", .int (-1)]) o2 = some (.lst [.str "a", .int (-1)]) := upd_same
    have n2 : o2 ∉ [b, Cs] := by simp [B1.ne ho2, (ne_of_none sC ho2).symm]
    have sC := f2 _ _ sC
    have s1 := f2 _ _ s1
    have B1 := B1.ex f2
    have e1 := e1.trans f2
    generalize upd H2 o2 (.lst [.str "a", .int (-1)]) = H3 at e1 sC B1 s1 s2 ⊢
    refine ⟨Nat.zero_le _, fun z hz => ?_⟩
    have f3 := Evl.Ex.new (o := .lst []) hz
    have sz : upd H3 z (.lst []) z = some (.lst []) := upd_same
    have nz : z ∉ [b, Cs] := by simp [B1.ne hz, (ne_of_none sC hz).symm]
    have sC := f3 _ _ sC
    have s1 := f3 _ _ s1
    have s2 := f3 _ _ s2
    have B1 := B1.ex f3
    have e1 := e1.trans f3
    generalize upd H3 z (.lst []) = H4 at e1 sC B1 s1 s2 sz ⊢
    refine ⟨(by show 3 ≤ sizeLine; decide), fun o3 ho3 => ?_⟩
    have f4 := Evl.Ex.new (o := .lst [.ref z, .bl true, .str "loop"]) ho3
    have s3 : upd H4 o3 (.lst [.ref z, .bl true, .str "loop"]) o3 = some (.lst [.ref z, .bl true, .str "loop"]) := upd_same
    have n3 : o3 ∉ [b, Cs] := by simp [B1.ne ho3, (ne_of_none sC ho3).symm]
    have sC := f4 _ _ sC
    have s1 := f4 _ _ s1
    have s2 := f4 _ _ s2
    have sz := f4 _ _ sz
    have B1 := B1.ex f4
    have e1 := e1.trans f4
    generalize upd H4 o3 (.lst [.ref z, .bl true, .str "loop"]) = H5 at e1 sC B1 s1 s2 sz s3 ⊢
    refine ⟨(by show 3 ≤ sizeLine; decide), fun o4 ho4 => ?_⟩
    have f5 := Evl.Ex.new (o := .lst [.int 0, .int 0, .int 0]) ho4
    have s4 : upd H5 o4 (.lst [.int 0, .int 0, .int 0]) o4 = some (.lst [.int 0, .int 0, .int 0]) := upd_same
    have n4 : o4 ∉ [b, Cs] := by simp [B1.ne ho4, (ne_of_none sC ho4).symm]
    have sC := f5 _ _ sC
    have s1 := f5 _ _ s1
    have s2 := f5 _ _ s2
    have s3 := f5 _ _ s3
    have sz := f5 _ _ sz
    have B1 := B1.ex f5
    have e1 := e1.trans f5
    generalize upd H5 o4 (.lst [.int 0, .int 0, .int 0]) = H6 at e1 sC B1 s1 s2 sz s3 s4 ⊢
    refine ⟨(by show 4 ≤ sizeLine; decide), fun om hom => ?_⟩
    have f6 := Evl.Ex.new (o := .lst [.ref o1, .ref o2, .ref o3, .ref o4]) hom
    have sm : upd H6 om (.lst [.ref o1, .ref o2, .ref o3, .ref o4]) om = some (.lst [.ref o1, .ref o2, .ref o3, .ref o4]) := upd_same
    have nm := B1.ne hom
    have B1 := B1.ex f6
    have e1 := e1.trans f6
    have sC := f6 _ _ sC
    have s1 := f6 _ _ s1
    have s2 := f6 _ _ s2
    have s3 := f6 _ _ s3
    have s4 := f6 _ _ s4
    have sz := f6 _ _ sz
    generalize upd H6 om (.lst [.ref o1, .ref o2, .ref o3, .ref o4]) = H7 at e1 sC B1 s1 s2 sz s3 s4 sm ⊢
    refine ⟨_, rfl, b, 0, 4, rfl, B1, by omega, by decide, by decide, fun r H8 hr g8 B8 => ?_⟩
    have hm8 := g8.at sm (by simp [nm])
    obtain ⟨o, ov, ds, hat, ho, hcs⟩ := odd_menu (z := z) (o1 := o1) (o2 := o2) (o3 := o3) (o4 := o4) r (by omega)
    refine ⟨om, _, _, _, rfl, rfl, SqL.of hm8, hat, ?_⟩
    have hO : H7 o = some (.lst ov) ∧ o ∉ [b, Cs] := by
      rcases hcs with ⟨rfl, rfl⟩ | ⟨rfl, rfl⟩ | ⟨rfl, rfl⟩ | ⟨rfl, rfl⟩
      · exact ⟨s1, n1⟩
      · exact ⟨s2, n2⟩
      · exact ⟨s3, n3⟩
      · exact ⟨s4, n4⟩
    have nb : ∀ {x : Addr}, x ∉ [b, Cs] → x ∉ [b] := fun h h2 => h (by simp at h2; simp [h2])
    exact ⟨_, _, rfl, Cs, o, z, ov, ds, rfl, (go e1).trans g8, B8, hCs, nCb, g8.at sC (by simp [nCb]), g8.at hO.1 (nb hO.2), hO.2, nz, g8.at sz (nb nz), ho⟩
  rintro σ H1 ⟨Cs, O, z, ov, ds, rfl, g1, B1, hCs, nCb, sC, sO, nO, nz, sz, ho⟩
  refine ⟨fun σ H' => ∃ (cl : List Addr) (x3 x4 x5 x6 x7 x8 x9 : Option V), σ = [some (.ref b), some (.ref Cs), some (.ref O), x3, x4, x5, x6, x7, x8, x9, none, none] ∧ Go [b] H H' ∧ H' Cs = some (.lst (cl.map V.ref)) ∧ cl.length = 2 ∧ ∀ c ∈ cl, CRow [b, Cs] K H' c, ?_, ?_⟩
  · refine ⟨2, rfl, by omega, by omega, ?_⟩
    refine for_it (walk_range (lo := 0) (n := (2 : Int).toNat)) (fun i σ H' => ∃ (cl : List Addr) (x3 x4 x5 x6 x7 x8 x9 : Option V), σ = [some (.ref b), some (.ref Cs), some (.ref O), x3, x4, x5, x6, x7, x8, x9, none, none] ∧ Go [b] H H' ∧ Box H' b (1 + 150060 * i) ∧ H' Cs = some (.lst (cl.map V.ref)) ∧ cl.length = i ∧ (∀ c ∈ cl, CRow [b, Cs] K H' c) ∧ H' O = some (.lst ov) ∧ H' z = some (.lst []))
      ⟨[], none, none, none, none, none, none, none, rfl, g1, B1, sC, rfl, (fun c hc => by cases hc), sO, sz⟩ (fun _ _ _ _ _ => trivial) ?_ ?_
    · clear g1 B1 sC sO sz
      rintro i y σ H2 H2' hi ⟨cl, x3, x4, x5, x6, x7, x8, x9, rfl, g2, B2, sC, hcl, hrows, sO, sz⟩ ⟨rfl, rfl⟩
      have hi2 : i < 2 := hi
      have nb : ∀ {x : Addr}, x ∉ [b, Cs] → x ∉ [b] := fun h h2 => h (by simp at h2; simp [h2])
      refine ⟨_, rfl, b, _, rfl, B2, by omega, fun a ns us pre un b0 H3 g3 B3 hS3 hO hU => ?_⟩
      refine ⟨(by show 4 ≤ sizeLine; decide), fun lm hlm => ?_⟩
      have em := Evl.Ex.new (o := .lst [V.int 30, V.int 30, V.int 12, V.int 20]) hlm
      have nlm := B3.ne hlm
      refine ⟨_, rfl, b, _, 4, rfl, B3.ex em, by omega, by decide, by decide, fun r H4 hr4 g4 B4 => ?_⟩
      obtain ⟨N, hN, hN12, hN30⟩ := most_menu r (by omega)
      have hl4 := g4.at (a := lm) (upd_same (H := H3)) (by simp [nlm])
      refine ⟨lm, _, _, _, rfl, rfl, SqL.of hl4, hN, _, _, rfl, ?_⟩
      have g34 := (go (S := [b]) em).trans g4
      have hS4 := hS3.kt g34.kt
      have hok := hO.nok
      have p8 := prod8 hok
      refine ⟨_, rfl, _, rfl, a, ns, us, rfl, hS4, hok, b, _, _, rfl, B4, by omega, by omega, by omega, fun st H5 hst g5 B5 => ?_⟩
      refine ⟨_, rfl, b, _, 6, rfl, B5, by omega, by decide, by decide, fun part H6 hpt g6 B6 => ?_⟩
      refine ⟨_, rfl, b, _, 9, rfl, B6, by omega, by decide, by decide, fun less H7 hls g7 B7 => ⟨_, _, _, rfl, ?_⟩⟩
      have g47 := g5.trans (g6.trans g7)
      have hS7 := hS4.kt g47.kt
      refine ⟨_, rfl, _, rfl, _, rfl, _, rfl, wds ns, b, a, st, N, _, ns, us, pre, un, b0, rfl, B7, by omega, hN30, hS7, hO, rfl, by omega, hU, fun F is H8 g8 B8 hF7 hF8 hD hil hiok => ?_⟩
      have nFb := B7.ne hF7
      have G38 := g3.trans (g34.trans (g47.trans g8))
      have sC7 := (g3.trans (g34.trans g47)).at sC (by simp [nCb])
      have nFC : F ≠ Cs := (ne_of_none sC7 hF7).symm
      have sC8 := G38.at sC (by simp [nCb])
      have sO8 := G38.at sO (nb nO)
      have sz8 := G38.at sz (nb nz)
      have hS8 := hS7.kt g8.kt
      refine ⟨_, rfl, .inl ⟨rfl, _, SqL.of sC8⟩, _, rfl, _, rfl, _, rfl, _, rfl, _, rfl, _, rfl, F, _, rfl, .inl (SqL.of hF8), _, _, rfl, ?_⟩
      rw [List.length_map, minN_lem]
      refine ⟨_, rfl, _, rfl, (by show 7 ≤ sizeLine; decide), fun c hc => ?_⟩
      have eC := Evl.Ex.new (o := .lst [.ref a, .int (st : Int), .ref F, .int (N : Int), .int ((min part is.length : Nat) : Int), .int (less : Int), .ref O]) hc
      have sc : upd H8 c (.lst [.ref a, .int (st : Int), .ref F, .int (N : Int), .int ((min part is.length : Nat) : Int), .int (less : Int), .ref O]) c = some (.lst [.ref a, .int (st : Int), .ref F, .int (N : Int), .int ((min part is.length : Nat) : Int), .int (less : Int), .ref O]) := upd_same
      have ncb := B8.ne hc
      have ncC : c ≠ Cs := (ne_of_none sC8 hc).symm
      have B9 := B8.ex eC
      have row : CRow [b, Cs] K (upd H8 c (.lst [.ref a, .int (st : Int), .ref F, .int (N : Int), .int ((min part is.length : Nat) : Int), .int (less : Int), .ref O])) c :=
        ⟨a, F, O, z, st, N, _, less, ns, us, un, b0, is, ov, ds, sc, ⟨hS8.mono eC, hO, ⟨pre, hU⟩, by omega, eC _ _ hF8, hD, hil, hN30, hiok, eC _ _ sO8, ho.dp (eC _ _ sz8), ho.len, ho.fine⟩, by omega, by simp [ncb, ncC], by simp [nFb, nFC], nO, nz, eC _ _ sz8, ho⟩
      have G39 := G38.trans (go (S := [b]) eC)
      have sC9 := eC _ _ sC8
      have sO9 := eC _ _ sO8
      have sz9 := eC _ _ sz8
      generalize upd H8 c (.lst [.ref a, .int (st : Int), .ref F, .int (N : Int), .int ((min part is.length : Nat) : Int), .int (less : Int), .ref O]) = H9 at row B9 G39 sC9 sO9 sz9 ⊢
      refine ⟨Cs, _, _, rfl, rfl, sC9, Nat.lt_of_le_of_lt (show (cl.map V.ref).length ≤ 100 by rw [List.length_map]; omega) (by decide), ?_⟩
      have gm : Go [b, Cs] H9 (upd H9 Cs (.lst (cl.map V.ref ++ [V.ref c]))) := (Go.refl H9).mut sC9 rfl (by simp)
      have sub : ∀ x ∈ [b], x ∈ [b, Cs] := fun x hx => by simp at hx; simp [hx]
      refine ⟨cl ++ [c], _, _, _, _, _, _, _, rfl, (g2.trans G39).app hCs, ?_, by rw [upd_same]; simp, by simp [hcl], fun x hx => ?_, gm.at sO9 nO, gm.at sz9 nz⟩
      · obtain ⟨gg, ff, ss, kk, h1, h2⟩ := B9.mono (show _ ≤ 1 + 150060 * (i + 1) by omega)
        exact ⟨gg, ff, ss, kk, by rw [upd_ne nCb.symm]; exact h1, h2⟩
      · rcases List.mem_append.mp hx with hx | hx
        · exact (hrows x hx).go ((G39.sub sub).trans gm)
        · cases (List.mem_singleton.mp hx)
          exact row.go gm
    · rintro σ H2 ⟨cl, x3, x4, x5, x6, x7, x8, x9, rfl, g2, B2, sC, hcl, hrows, sO, sz⟩
      exact ⟨cl, _, _, _, _, _, _, _, rfl, g2, sC, hcl, hrows⟩
  clear g1 B1 sC sO sz
  rintro σ H2 ⟨cl, x3, x4, x5, x6, x7, x8, x9, rfl, g2, sC, hcl, hrows⟩
  obtain ⟨c0, c1, rfl⟩ : ∃ c0 c1, cl = [c0, c1] := by
    match cl, hcl with
    | [c0, c1], _ => exact ⟨c0, c1, rfl⟩
  refine ⟨(by show 2 ≤ sizeLine; decide), fun t1 ht1 => ?_⟩
  have f1 := Evl.Ex.new (o := .tup [.int 0, .bl true]) ht1
  have s1 : upd H2 t1 (.tup [.int 0, .bl true]) t1 = some (.tup [.int 0, .bl true]) := upd_same
  generalize upd H2 t1 (.tup [.int 0, .bl true]) = H3 at f1 s1 ⊢
  refine ⟨(by show 2 ≤ sizeLine; decide), fun t2 ht2 => ?_⟩
  have f2 := Evl.Ex.new (o := .tup [.int 1, .bl true]) ht2
  have s2 : upd H3 t2 (.tup [.int 1, .bl true]) t2 = some (.tup [.int 1, .bl true]) := upd_same
  generalize upd H3 t2 (.tup [.int 1, .bl true]) = H4 at f2 s2 ⊢
  refine ⟨(by show 2 ≤ sizeLine; decide), fun t3 ht3 => ?_⟩
  have f3 := Evl.Ex.new (o := .tup [.int 0, .bl false]) ht3
  have s3 : upd H4 t3 (.tup [.int 0, .bl false]) t3 = some (.tup [.int 0, .bl false]) := upd_same
  generalize upd H4 t3 (.tup [.int 0, .bl false]) = H5 at f3 s3 ⊢
  refine ⟨(by show 3 ≤ sizeLine; decide), fun L hL => ?_⟩
  have f4 := Evl.Ex.new (o := .lst ([t1, t2, t3].map V.ref)) hL
  have s4 : upd H5 L (.lst ([t1, t2, t3].map V.ref)) L = some (.lst ([t1, t2, t3].map V.ref)) := upd_same
  have hsh : upd H5 L (.lst [V.ref t1, V.ref t2, V.ref t3]) = upd H5 L (.lst ([t1, t2, t3].map V.ref)) := rfl
  rw [hsh]
  have hts : ∀ t ∈ [t1, t2, t3], ∃ (j : Nat) (wh : Bool), j < 2 ∧ upd H5 L (.lst ([t1, t2, t3].map V.ref)) t = some (.tup [.int (j : Int), .bl wh]) := fun t ht => by
    simp only [List.mem_cons, List.not_mem_nil, or_false] at ht
    rcases ht with rfl | rfl | rfl
    · exact ⟨0, true, by omega, (f2.trans (f3.trans f4)) _ _ s1⟩
    · exact ⟨1, true, by omega, (f3.trans f4) _ _ s2⟩
    · exact ⟨0, false, by omega, f4 _ _ s3⟩
  have e6 := f1.trans (f2.trans (f3.trans f4))
  generalize upd H5 L (.lst ([t1, t2, t3].map V.ref)) = H6 at s4 hts e6 ⊢
  generalize [t1, t2, t3] = ts at s4 hts
  clear hsh f1 f2 f3 f4 s1 s2 s3
  have sC6 := e6 _ _ sC
  have rows6 : ∀ c ∈ [c0, c1], CRow [b, Cs] K H6 c := fun c hc => (hrows c hc).go (go e6)
  have G6 := g2.trans (go (S := [b]) e6)
  refine ⟨L, rfl, ⟨_, SqL.of s4⟩, ?_⟩
  refine for_it (walk_list (xs := ts.map V.ref)) (fun i σ H' => ∃ (x10 x11 : Option V), σ = [some (.ref b), some (.ref Cs), some (.ref O), x3, x4, x5, x6, x7, x8, x9, x10, x11] ∧ Ex H6 H')
    ⟨none, none, rfl, Evl.Ex.refl _⟩ (fun i σ H' _ z => by obtain ⟨_, _, _, z⟩ := z; exact SqL.of (z _ _ s4)) ?_ ?_
  · rintro i x σ H7 H7' hi ⟨x10, x11, rfl, e7⟩ ⟨rfl, hx⟩
    obtain ⟨t, rfl, ht⟩ := refs_get hx
    obtain ⟨j, wh, hj, hst⟩ := hts t (List.mem_of_getElem? ht)
    refine ⟨t, _, rfl, SqT.of (e7 _ _ hst), rfl, _, _, rfl, _, _, rfl, rfl, ?_⟩
    obtain ⟨c, hcj, hcm⟩ : ∃ c, [c0, c1][j]? = some c ∧ c ∈ [c0, c1] := by
      have : j < [c0, c1].length := hj
      exact ⟨_, List.getElem?_eq_getElem this, List.getElem_mem this⟩
    obtain ⟨a, F, O', z', st, N, cut, few, ns, us, un, b0, is, ov', ds', hc, C, hf, _⟩ := (rows6 c hcm).go (go (S := [b, Cs]) e7)
    have aC : ∀ {H' : Hp}, Ex H6 H' → SqL K H' Cs ([c0, c1].map V.ref) := fun e => SqL.of (e _ _ sC6)
    have atj : atI ([c0, c1].map V.ref) (j : Int) = some (.ref c) := atI_nat (refs_at2 hcj)
    refine ⟨_, rfl, _, rfl, Cs, _, _, _, rfl, rfl, aC e7, atj, _, rfl, ?_⟩
    refine ⟨c, a, F, O', st, N, cut, few, wh, ns, us, un, b0, is, ov', ds', rfl, hc, C, hf, fun H8 e8 => ⟨true, rfl, iteFo rfl ?_⟩⟩
    have e78 := e7.trans e8
    have hc8 := SqL.of (K := K) (e8 _ _ hc)
    refine ⟨_, rfl, _, rfl, ?_⟩
    cases wh with
    | false =>
      refine iteF ?_
      exact ⟨_, _, rfl, e78⟩
    | true =>
      refine iteT ?_
      refine ⟨_, rfl, _, rfl, Cs, _, _, _, rfl, rfl, aC e78, atj, c, _, 0, _, rfl, rfl, hc8, rfl, ?_⟩
      refine ⟨_, rfl, _, rfl, Cs, _, _, _, rfl, rfl, aC e78, atj, c, _, 1, _, rfl, rfl, hc8, rfl, ?_⟩
      refine ⟨_, rfl, _, rfl, Cs, _, _, _, rfl, rfl, aC e78, atj, c, _, 2, _, rfl, rfl, hc8, rfl, ?_⟩
      refine ⟨_, rfl, _, rfl, Cs, _, _, _, rfl, rfl, aC e78, atj, c, _, 3, _, rfl, rfl, hc8, rfl, ?_⟩
      refine ⟨a, F, O', st, N, ns, us, un, b0, is, ov', ds', rfl, C.mono e8, fun H9 e9 => ⟨true, rfl, iteFo rfl ?_⟩⟩
      exact ⟨_, _, rfl, e78.trans e9⟩
  · rintro σ H7 ⟨x10, x11, rfl, e7⟩
    exact hQ _ (G6.trans (go e7))

end
end K14
namespace K14
open PySem PySem.Spec PyProof.Rows L2 C8
section
variable {P : Program} {w : World} {K : PySem.W.Frag} {mg : Str → Option Value} {base : Heap}
abbrev N_law : List Str := ["script", "k"]
theorem sc_law : FnScope N_law ["script"] (defScope (top 101)) := ⟨rfl, rfl, rfl, by decide +kernel, rfl, by decide +kernel, by decide +kernel⟩
def spLaw (K : PySem.W.Frag) : Sp := fun vs H Q _ => ∃ (l : Addr) (ns : List Int), vs = [.ref l] ∧ SqL K H l (ns.map V.int) ∧ ns.length ≤ 63 ∧ ∀ H', Q (.bl true) H'
theorem fn_law (T : Txt K mg) (C_l_cell : Cal P w K mg base 1 "_law_cell" (spCell K) []) (C_l_box : Cal P w K mg base 1 "_law_box" spBox []) (C_l_right : CalG P w K mg base 25 "_law_right" spRight) {fd : FuncData} (F : FunD K "law" "law" (defArgs (top 101)) (defBody (top 101)) (defScope (top 101)) [] [] (He.ga K "law") fd) : FnG P w K mg base C8.CX0 26 (He.ga K "law") fd ["script"] (spLaw K) := by
  refine F.okG sc_law (fun vs H Q E h => by obtain ⟨_, _, rfl, _⟩ := h; rfl) (fun cdv A outer s H vs Q E hG hr h => ?_)
  have hu := hu_of hr
  refine ⟨_, PSs.nox (pss_cons (ps_for PassesOwn.never rfl (pi_range1 (by rfl) T.f_range (pa_cons (pe_callB (call_max2 rfl) (by rfl) T.f_max (by decide +kernel) (pa_cons pe_int (pa_cons (pe_callB (call_min2 rfl) (by rfl) T.f_min (by decide +kernel) (pa_cons pe_int (pa_cons (pe_callB call_len_seq (by rfl) T.f_len (by decide +kernel) (pa_cons (pv 0) pa_nil)) pa_nil))) pa_nil))) pa_nil)) (pg_name (i := 1) sc_law.nd rfl (Or.inl rfl)) (pss_one (ps_if (pt_not (pt_val (pe_cG C_l_right hG hr (by decide) rfl (pa_cons (pe_c C_l_box hr (by decide) rfl (pa_cons (pe_c C_l_cell hr (by decide) rfl (pa_cons (pv 0) (pa_cons (pv 1) pa_nil))) pa_nil)) pa_nil)))) (pss_one (ps_ret pe_bl)) pss_nil)))
      (pss_one (ps_ret pe_bl))), ?_⟩
  obtain ⟨l, ns, rfl, hS, hl, hQ⟩ := h
  refine ⟨_, rfl, l, ns.map V.int, rfl, .inl hS, 2, _, rfl, 1, _, rfl, _, rfl, ?_, ?_, ?_⟩
  · split <;> omega
  · split <;> split <;> omega
  refine for_it (walk_range (lo := 0) (n := _)) (fun i σ H' => Ex H H' ∧ ∃ x1, σ = [some (.ref l), x1]) ⟨Evl.Ex.refl _, none, rfl⟩ (fun _ _ _ _ _ => trivial) ?_ ?_
  · rintro i y σ H1' H1 hi ⟨e1, x1, rfl⟩ ⟨rfl, rfl⟩
    have hi4 : i < 10 := by
      refine Nat.lt_of_lt_of_le hi ?_
      split <;> split <;> omega
    refine ⟨_, rfl, _, rfl, l, ns, i, (by show [V.ref l, V.int (0 + (i : Int))] = _; rw [Int.zero_add]), Evl.ex_l e1 hS, hl, hi4, fun H2 e2 v => ?_⟩
    refine ⟨v, rfl, fun b H3 b0 e3 bx => ?_⟩
    refine ⟨b, rfl, bx, fun H4 g4 => ?_⟩
    refine ⟨true, rfl, iteFo rfl ?_⟩
    have e4 : Ex H2 H4 := fun a o ha => g4 a o (e3 a o ha) (.inr (by
      have : a ≠ b := ne_of_none ha b0
      simp [this]))
    exact ⟨e1.trans (e2.trans e4), _, rfl⟩
  · rintro σ H1 ⟨e1, x1, rfl⟩
    exact hQ _

end
end K14
namespace K14
open PySem PySem.Spec PyProof.Rows L2 C8
theorem ok0_l_body {P : Program} {w : World} {K : PySem.W.Frag} {mg : Str → Option Value} {base : Heap} (T : Txt K mg) : Cal P w K mg base 7 "_law_body" (spLB K 0) [] := by
  obtain ⟨fd, F⟩ := T.d__law_body
  refine ⟨_, fd, ["box", "world", "room", "many", "depth", "loops"], [], ?_, T.g__law_body, F.kp, F.bindsN fun _ _ _ _ _ _ us hl => match us, hl with | [_, _, _, _, _, _], _ => rfl, .nil⟩
  exact F.ok sc_l_body (fun vs H Q E h => False.elim (id h)) (fun cdv A outer s H vs Q E hr h => False.elim (id h))
theorem law_ok {P : Program} {w : World} {K : PySem.W.Frag} {mg : Str → Option Value} {base : Heap} (T : Txt K mg) {fd : FuncData} (F : FunD K "law" "law" (defArgs (top 101)) (defBody (top 101)) (defScope (top 101)) [] [] (He.ga K "law") fd) : FnG P w K mg base C8.CX0 26 (He.ga K "law") fd ["script"] (spLaw K) := by
  have C_is_whole := ok_is_whole (P := P) (w := w) (base := base) T 
  have C_is_whole_from := ok_is_whole_from (P := P) (w := w) (base := base) T C_is_whole
  have C_l_cell := ok_l_cell (P := P) (w := w) (base := base) T 
  have C_l_box := ok_l_box (P := P) (w := w) (base := base) T 
  have C_l_take := take_g (ok_l_take (P := P) (w := w) (base := base) T)
  have C_is_word := ok_is_word (P := P) (w := w) (base := base) T 
  have C_is_sized_name := ok_is_sized_name (P := P) (w := w) (base := base) T C_is_word C_is_whole_from
  have C_stores_of_sizes := ok_stores_of_sizes (P := P) (w := w) (base := base) T 
  have C_are_space_names := ok_are_space_names (P := P) (w := w) (base := base) T C_is_sized_name C_stores_of_sizes
  have M_Space := ok_Space_init (P := P) (w := w) (base := base) T C_are_space_names C_stores_of_sizes
  have MK_Space := okK_Space_init (P := P) (w := w) (base := base) T C_are_space_names C_stores_of_sizes
  have S_contains := ok_Space_contains (P := P) (w := w) (base := base) T 
  have M_check_store := ok_Space_check_store (P := P) (w := w) (base := base) T C_is_whole_from
  have M_check_name := ok_Space_check_name (P := P) (w := w) (base := base) T S_contains
  have M_values_of := ok_Space_values_of (P := P) (w := w) (base := base) T M_check_store
  have MK_values_of := okK_Space_values_of (P := P) (w := w) (base := base) T M_check_store
  have M_store_of := ok_Space_store_of (P := P) (w := w) (base := base) T C_is_whole_from
  have MK_store_of := okK_Space_store_of (P := P) (w := w) (base := base) T C_is_whole_from
  have M_size_of := ok_Space_size_of (P := P) (w := w) (base := base) T M_check_name
  have MK_size_of := okK_Space_size_of (P := P) (w := w) (base := base) T M_check_name
  have M_with_value := ok_Space_with_value (P := P) (w := w) (base := base) T M_check_name M_values_of M_size_of M_store_of C_is_whole
  have MK_with_value := okK_Space_with_value (P := P) (w := w) (base := base) T M_check_name M_values_of M_size_of M_store_of C_is_whole
  have C_is_tuple_of := ok_is_tuple_of (P := P) (w := w) (base := base) T 
  have C_is_expression := fun ws => ok_is_expression (P := P) (w := w) (base := base) (ws := ws) T C_is_word C_is_whole_from
  have C_is_condition := fun ws => ok_is_condition (P := P) (w := w) (base := base) (ws := ws) T (C_is_expression ws)
  have C_are_pairs := ok_are_pairs (P := P) (w := w) (base := base) T C_is_tuple_of
  have C_is_draw_pair := ok_is_draw_pair (P := P) (w := w) (base := base) T C_is_whole_from
  have C_has_head_form := fun ws => ok_has_head_form (P := P) (w := w) (base := base) (ws := ws) T (C_is_expression ws) (C_is_condition ws) C_is_word C_are_pairs C_is_draw_pair
  have C_bodies_in := ok_bodies_in (P := P) (w := w) (base := base) T 
  have C_count_in := fun ws => ok_count_in (P := P) (w := w) (base := base) (ws := ws) T (C_has_head_form ws) C_bodies_in
  have C_count_in_unit := fun ws => ok_count_in_unit (P := P) (w := w) (base := base) (ws := ws) T C_is_tuple_of C_is_word (C_count_in ws)
  have C_counts_in_units := fun ws => ok_counts_in_units (P := P) (w := w) (base := base) (ws := ws) T (C_count_in_unit ws)
  have C_counts_in_tree := fun ws => ok_counts_in_tree (P := P) (w := w) (base := base) (ws := ws) T C_is_tuple_of C_is_sized_name (C_counts_in_units ws)
  have C_walked := fun ws => ok_walked (P := P) (w := w) (base := base) (ws := ws) T C_bodies_in
  have C_first_repeated := ok_first_repeated (P := P) (w := w) (base := base) T 
  have C_first_too_large := ok_first_too_large (P := P) (w := w) (base := base) T C_stores_of_sizes
  have C_names_in := fun ws => ok_names_in (P := P) (w := w) (base := base) (ws := ws) T 
  have C_names_of_head := fun ws => ok_names_of_head (P := P) (w := w) (base := base) (ws := ws) T (C_names_in ws)
  have C_wrong_in_statement := fun ws => ok_wrong_in_statement (P := P) (w := w) (base := base) (ws := ws) T (C_names_of_head ws) C_first_repeated
  have C_wrong_in_body := fun ws => ok_wrong_in_body (P := P) (w := w) (base := base) (ws := ws) T (C_wrong_in_statement ws) (C_walked ws)
  have C_first_wrong := fun ws => ok_first_wrong (P := P) (w := w) (base := base) (ws := ws) T C_first_repeated C_first_too_large (C_wrong_in_body ws)
  have C_checked_counts := fun ws => ok_checked_counts (P := P) (w := w) (base := base) (ws := ws) T (C_counts_in_tree ws) (C_first_wrong ws)
  have C_check_system := fun ws => ok_check_system (P := P) (w := w) (base := base) (ws := ws) T (C_checked_counts ws)
  have C_number_of := fun ws => ok_number_of (P := P) (w := w) (base := base) (ws := ws) T 
  have C_holds := fun ws => ok_holds (P := P) (w := w) (base := base) (ws := ws) T (C_number_of ws)
  have C_l_worth := fun ws => ok_l_worth (P := P) (w := w) (base := base) (ws := ws) T 
  have C_l_holds := fun ws => ok_l_holds (P := P) (w := w) (base := base) (ws := ws) T (C_l_worth ws)
  have M_Frame := ok_Frame_init (P := P) (w := w) (base := base) T 
  have M_begin := ok_Playing_begin (P := P) (w := w) (base := base) T M_Frame
  have MD_begin := okD_Playing_begin (P := P) (w := w) (base := base) T M_Frame
  have M_begin_behind := ok_Playing_begin_behind (P := P) (w := w) (base := base) T M_begin
  have MD_begin_behind := okD_Playing_begin_behind (P := P) (w := w) (base := base) T M_begin
  have M_set_value := ok_Playing_set_value (P := P) (w := w) (base := base) T M_with_value
  have M_passes := fun ws => ok_Playing_passes (P := P) (w := w) (base := base) (ws := ws) T M_values_of M_set_value MD_begin_behind (C_number_of ws) (C_holds ws)
  have M_asking := fun ws => ok_Playing_asking (P := P) (w := w) (base := base) (ws := ws) T (M_passes ws)
  have C_needs_item := ok_needs_item (P := P) (w := w) (base := base) T 
  have C_label_list := ok_label_list (P := P) (w := w) (base := base) T 
  have C_wheel_values := ok_wheel_values (P := P) (w := w) (base := base) T 
  have C_fits := ok_fits (P := P) (w := w) (base := base) T C_label_list C_wheel_values C_is_whole_from
  have M_step := ok_Playing_step (P := P) (w := w) (base := base) T MD_begin MD_begin_behind M_begin_behind M_set_value C_wheel_values
  have M_Playing := ok_Playing_init (P := P) (w := w) (base := base) T M_Space M_begin
  have C_check_playing := fun ws => ok_check_playing (P := P) (w := w) (base := base) (ws := ws) T (C_check_system ws) M_check_store M_Space C_is_whole_from
  have C_play : Cal P w K mg base 23 "play" (spPlayA K) [] := by
    obtain ⟨fd, F⟩ := T.d_play
    exact ⟨_, fd, ["system", "store", "answers", "steps"], [], fn_all fun ws => fn_play T (C_check_playing ws) M_Playing (M_asking ws) M_step C_needs_item C_fits F, T.g_play, F.kp, F.bindsN fun _ _ _ _ _ _ us hl => match us, hl with | [_, _, _, _], _ => rfl, .nil⟩
  have CK_play : CalK P w K mg base 23 "play" ["steps", "store", "answers", "system"] [3, 1, 2, 0] (spPlayA K) := by
    obtain ⟨fd, F⟩ := T.d_play
    exact ⟨_, fd, ["system", "store", "answers", "steps"], fn_all fun ws => fn_play T (C_check_playing ws) M_Playing (M_asking ws) M_step C_needs_item C_fits F, T.g_play, F.kp, F.kbindsP 0 ["steps", "store", "answers", "system"] [3, 1, 2, 0] (fun _ _ _ _ _ _ us ws h1 h2 => match us, ws, h1, h2 with | [], [_, _, _, _], _, _ => rfl)⟩
  have C_l_mixed := ok_l_mixed (P := P) (w := w) (base := base) T C_l_take
  have C_l_expression := ok_l_expression (P := P) (w := w) (base := base) T C_l_take
  have C_l_condition := ok_l_condition (P := P) (w := w) (base := base) T C_l_take C_l_expression
  have B0 := ok0_l_body (P := P) (w := w) (base := base) T
  have S0 := ok_l_statement (P := P) (w := w) (base := base) T C_l_take C_l_mixed C_l_expression C_l_condition (by decide) B0
  have B1 := ok_l_body (P := P) (w := w) (base := base) T C_l_take (by decide) S0
  have S1 := ok_l_statement (P := P) (w := w) (base := base) T C_l_take C_l_mixed C_l_expression C_l_condition (by decide) B1
  have B2 := ok_l_body (P := P) (w := w) (base := base) T C_l_take (by decide) S1
  have S2 := ok_l_statement (P := P) (w := w) (base := base) T C_l_take C_l_mixed C_l_expression C_l_condition (by decide) B2
  have B3 := ok_l_body (P := P) (w := w) (base := base) T C_l_take (by decide) S2
  have S3 := ok_l_statement (P := P) (w := w) (base := base) T C_l_take C_l_mixed C_l_expression C_l_condition (by decide) B3
  have B4 := ok_l_body (P := P) (w := w) (base := base) T C_l_take (by decide) S3
  have C_l_body := B4
  have C_l_words := ok_l_words (P := P) (w := w) (base := base) T C_l_take
  have C_l_round := ok_l_round (P := P) (w := w) (base := base) T C_l_take
  have C_l_system := ok_l_system (P := P) (w := w) (base := base) T C_l_take C_l_words C_l_body C_l_round
  have C_l_many := ok_l_many (P := P) (w := w) (base := base) T 
  have C_l_values := ok_l_values (P := P) (w := w) (base := base) T 
  have C_l_set := ok_l_set (P := P) (w := w) (base := base) T C_l_values
  have C_l_begun := ok_l_begun (P := P) (w := w) (base := base) T 
  have C_l_asks := fun ws => ok_l_asks (P := P) (w := w) (base := base) (ws := ws) T C_l_values C_l_set (C_l_worth ws) (C_l_holds ws)
  have C_l_value := ok_l_value (P := P) (w := w) (base := base) T 
  have C_l_step := fun ws => ok_l_step (P := P) (w := w) (base := base) (ws := ws) T (C_l_asks ws) C_l_value C_l_set
  have C_l_play : Cal P w K mg base 10 "_law_play" (spPlayLA K) [] := by
    obtain ⟨fd, F⟩ := T.d__law_play
    exact ⟨_, fd, ["system", "store", "answers", "most_steps"], [], fn_all fun ws => fn_l_play T C_l_begun (C_l_asks ws) (C_l_step ws) F, T.g__law_play, F.kp, F.bindsN fun _ _ _ _ _ _ us hl => match us, hl with | [_, _, _, _], _ => rfl, .nil⟩
  have C_l_answers : Cal P w K mg base 10 "_law_answers" (spAnswersA K) [] := by
    obtain ⟨fd, F⟩ := T.d__law_answers
    exact ⟨_, fd, ["box", "system", "store", "most"], [], fn_all fun ws => fn_l_answers T C_l_take C_l_begun (C_l_asks ws) (C_l_step ws) F, T.g__law_answers, F.kp, F.bindsN fun _ _ _ _ _ _ us hl => match us, hl with | [_, _, _, _], _ => rfl, .nil⟩
  have C_l_asked_right := ok_l_asked_right (P := P) (w := w) (base := base) T C_play CK_play C_l_play
  have C_l_grown_right := ok_l_grown_right (P := P) (w := w) (base := base) T C_play C_l_play
  have C_l_right := ok_l_right (P := P) (w := w) (base := base) T C_l_take C_l_system C_l_many C_l_answers C_l_asked_right C_l_grown_right
  exact fn_law T C_l_cell C_l_box C_l_right F
end K14
set_option Elab.async false
set_option linter.all false
set_option maxRecDepth 100000
set_option maxHeartbeats 0
namespace K14
open PySem PySem.Spec PyProof.Rows L2
theorem txt_of {w : World} {K : PySem.W.Frag} {h : Heap} {mg : Str → Option Value} (X : K.In h) (G : h.Ns mainGlobals mg) (c : He.SaysX fa fn [] [] exB w h K) : Txt K mg := {
  f_isinstance := He.free_ok X G (c.t.d.fact 0 (f := .free "isinstance") rfl),
  f_int := He.free_ok X G (c.t.d.fact 1 (f := .free "int") rfl),
  f_bool := He.free_ok X G (c.t.d.fact 2 (f := .free "bool") rfl),
  f_len := He.free_ok X G (c.t.d.fact 3 (f := .free "len") rfl),
  f_str := He.free_ok X G (c.t.d.fact 4 (f := .free "str") rfl),
  f_all := He.free_ok X G (c.t.d.fact 5 (f := .free "all") rfl),
  f_list := He.free_ok X G (c.t.d.fact 6 (f := .free "list") rfl),
  f_tuple := He.free_ok X G (c.t.d.fact 7 (f := .free "tuple") rfl),
  f_dict := He.free_ok X G (c.t.d.fact 8 (f := .free "dict") rfl),
  f_range := He.free_ok X G (c.t.d.fact 9 (f := .free "range") rfl),
  f_abs := He.free_ok X G (c.t.d.fact 10 (f := .free "abs") rfl),
  f_sum := He.free_ok X G (c.t.d.fact 11 (f := .free "sum") rfl),
  f_min := He.free_ok X G (c.t.d.fact 12 (f := .free "min") rfl),
  f_max := He.free_ok X G (c.t.d.fact 13 (f := .free "max") rfl),
  f_repr := He.free_ok X G (c.t.d.fact 14 (f := .free "repr") rfl),
  f_set := He.free_ok X G (c.t.d.fact 15 (f := .free "set") rfl),
  f_enumerate := He.free_ok X G (c.t.d.fact 16 (f := .free "enumerate") rfl),
  c_LONGEST_WORD := (let ⟨t, h⟩ := He.int_ok X G (c.t.d.fact 17 (f := .int "LONGEST_WORD" 8) rfl); ⟨_, h, t, rfl⟩),
  c_MOST_NAMES := (let ⟨t, h⟩ := He.int_ok X G (c.t.d.fact 18 (f := .int "MOST_NAMES" 3) rfl); ⟨_, h, t, rfl⟩),
  c_LEAST_SIZE := (let ⟨t, h⟩ := He.int_ok X G (c.t.d.fact 19 (f := .int "LEAST_SIZE" 2) rfl); ⟨_, h, t, rfl⟩),
  c_GREATEST_SIZE := (let ⟨t, h⟩ := He.int_ok X G (c.t.d.fact 20 (f := .int "GREATEST_SIZE" 6) rfl); ⟨_, h, t, rfl⟩),
  c_MOST_STORES := (let ⟨t, h⟩ := He.int_ok X G (c.t.d.fact 21 (f := .int "MOST_STORES" 8) rfl); ⟨_, h, t, rfl⟩),
  c_MOST_UNITS := (let ⟨t, h⟩ := He.int_ok X G (c.t.d.fact 22 (f := .int "MOST_UNITS" 6) rfl); ⟨_, h, t, rfl⟩),
  c_MOST_STATEMENTS := (let ⟨t, h⟩ := He.int_ok X G (c.t.d.fact 23 (f := .int "MOST_STATEMENTS" 20) rfl); ⟨_, h, t, rfl⟩),
  c_MOST_STATEMENTS_IN_ALL := (let ⟨t, h⟩ := He.int_ok X G (c.t.d.fact 24 (f := .int "MOST_STATEMENTS_IN_ALL" 60) rfl); ⟨_, h, t, rfl⟩),
  c_MOST_LOOPS := (let ⟨t, h⟩ := He.int_ok X G (c.t.d.fact 25 (f := .int "MOST_LOOPS" 3) rfl); ⟨_, h, t, rfl⟩),
  c_DEEPEST := (let ⟨t, h⟩ := He.int_ok X G (c.t.d.fact 26 (f := .int "DEEPEST" 6) rfl); ⟨_, h, t, rfl⟩),
  c_GREATEST_NUM := (let ⟨t, h⟩ := He.int_ok X G (c.t.d.fact 27 (f := .int "GREATEST_NUM" 99) rfl); ⟨_, h, t, rfl⟩),
  c_GREATEST_VALUE := (let ⟨t, h⟩ := He.int_ok X G (c.t.d.fact 28 (f := .int "GREATEST_VALUE" 5) rfl); ⟨_, h, t, rfl⟩),
  c_GREATEST_WEIGHT := (let ⟨t, h⟩ := He.int_ok X G (c.t.d.fact 29 (f := .int "GREATEST_WEIGHT" 12) rfl); ⟨_, h, t, rfl⟩),
  c_FEWEST_PAIRS := (let ⟨t, h⟩ := He.int_ok X G (c.t.d.fact 30 (f := .int "FEWEST_PAIRS" 2) rfl); ⟨_, h, t, rfl⟩),
  c_MOST_PAIRS := (let ⟨t, h⟩ := He.int_ok X G (c.t.d.fact 31 (f := .int "MOST_PAIRS" 3) rfl); ⟨_, h, t, rfl⟩),
  c_MOST_STEPS := (let ⟨t, h⟩ := He.int_ok X G (c.t.d.fact 32 (f := .int "MOST_STEPS" 2000) rfl); ⟨_, h, t, rfl⟩),
  c_LETTERS := (let ⟨t, h⟩ := He.str_ok X G (c.t.d.fact 33 (f := .str "LETTERS" "abcdefghijklmnopqrstuvwxyz") rfl); ⟨_, h, t, rfl⟩),
  c_LANGUAGE_WORDS := ⟨_, He.glo_ok X G (c.t.d.fact 34 (f := .glo "LANGUAGE_WORDS") rfl), rfl⟩,
  c_SIGNS := ⟨_, He.glo_ok X G (c.t.d.fact 35 (f := .glo "SIGNS") rfl), rfl⟩,
  c_Space := ⟨_, He.glo_ok X G (c.t.d.fact 36 (f := .glo "Space") rfl), rfl⟩,
  c_Frame := ⟨_, He.glo_ok X G (c.t.d.fact 37 (f := .glo "Frame") rfl), rfl⟩,
  c_Playing := ⟨_, He.glo_ok X G (c.t.d.fact 38 (f := .glo "Playing") rfl), rfl⟩,
  t_LW := fun H => He.tupB_ok (exs c.more 0 rfl) H,
  t_SG := fun H => He.tupB_ok (exs c.more 1 rfl) H,
  d_is_whole := c.t.d.def_ 0 (d := dG 12 "is_whole") rfl,
  g_is_whole := He.glo_ok X G (c.t.d.fact 39 (f := .glo "is_whole") rfl),
  d_is_whole_from := c.t.d.def_ 1 (d := dG 13 "is_whole_from") rfl,
  g_is_whole_from := He.glo_ok X G (c.t.d.fact 40 (f := .glo "is_whole_from") rfl),
  d_is_word := c.t.d.def_ 2 (d := dG 22 "is_word") rfl,
  g_is_word := He.glo_ok X G (c.t.d.fact 41 (f := .glo "is_word") rfl),
  d_is_sized_name := c.t.d.def_ 3 (d := dG 23 "is_sized_name") rfl,
  g_is_sized_name := He.glo_ok X G (c.t.d.fact 42 (f := .glo "is_sized_name") rfl),
  d_stores_of_sizes := c.t.d.def_ 4 (d := dG 24 "stores_of_sizes") rfl,
  g_stores_of_sizes := He.glo_ok X G (c.t.d.fact 43 (f := .glo "stores_of_sizes") rfl),
  d_are_space_names := c.t.d.def_ 5 (d := dG 25 "are_space_names") rfl,
  g_are_space_names := He.glo_ok X G (c.t.d.fact 44 (f := .glo "are_space_names") rfl),
  d_is_tuple_of := c.t.d.def_ 6 (d := dG 39 "is_tuple_of") rfl,
  g_is_tuple_of := He.glo_ok X G (c.t.d.fact 45 (f := .glo "is_tuple_of") rfl),
  d_is_expression := c.t.d.def_ 7 (d := dG 40 "is_expression") rfl,
  g_is_expression := He.glo_ok X G (c.t.d.fact 46 (f := .glo "is_expression") rfl),
  d_is_condition := c.t.d.def_ 8 (d := dG 41 "is_condition") rfl,
  g_is_condition := He.glo_ok X G (c.t.d.fact 47 (f := .glo "is_condition") rfl),
  d_are_pairs := c.t.d.def_ 9 (d := dG 42 "are_pairs") rfl,
  g_are_pairs := He.glo_ok X G (c.t.d.fact 48 (f := .glo "are_pairs") rfl),
  d_is_draw_pair := c.t.d.def_ 10 (d := dG 43 "is_draw_pair") rfl,
  g_is_draw_pair := He.glo_ok X G (c.t.d.fact 49 (f := .glo "is_draw_pair") rfl),
  d_has_head_form := c.t.d.def_ 11 (d := dG 44 "has_head_form") rfl,
  g_has_head_form := He.glo_ok X G (c.t.d.fact 50 (f := .glo "has_head_form") rfl),
  d_bodies_in := c.t.d.def_ 12 (d := dG 45 "bodies_in") rfl,
  g_bodies_in := He.glo_ok X G (c.t.d.fact 51 (f := .glo "bodies_in") rfl),
  d_count_in := c.t.d.def_ 13 (d := dG 46 "count_in") rfl,
  g_count_in := He.glo_ok X G (c.t.d.fact 52 (f := .glo "count_in") rfl),
  d_count_in_unit := c.t.d.def_ 14 (d := dG 47 "count_in_unit") rfl,
  g_count_in_unit := He.glo_ok X G (c.t.d.fact 53 (f := .glo "count_in_unit") rfl),
  d_counts_in_units := c.t.d.def_ 15 (d := dG 48 "counts_in_units") rfl,
  g_counts_in_units := He.glo_ok X G (c.t.d.fact 54 (f := .glo "counts_in_units") rfl),
  d_walked := c.t.d.def_ 16 (d := dG 49 "walked") rfl,
  g_walked := He.glo_ok X G (c.t.d.fact 55 (f := .glo "walked") rfl),
  d_counts_in_tree := c.t.d.def_ 17 (d := dG 51 "counts_in_tree") rfl,
  g_counts_in_tree := He.glo_ok X G (c.t.d.fact 56 (f := .glo "counts_in_tree") rfl),
  d_first_repeated := c.t.d.def_ 18 (d := dG 53 "first_repeated") rfl,
  g_first_repeated := He.glo_ok X G (c.t.d.fact 57 (f := .glo "first_repeated") rfl),
  d_first_too_large := c.t.d.def_ 19 (d := dG 54 "first_too_large") rfl,
  g_first_too_large := He.glo_ok X G (c.t.d.fact 58 (f := .glo "first_too_large") rfl),
  d_names_in := c.t.d.def_ 20 (d := dG 55 "names_in") rfl,
  g_names_in := He.glo_ok X G (c.t.d.fact 59 (f := .glo "names_in") rfl),
  d_names_of_head := c.t.d.def_ 21 (d := dG 56 "names_of_head") rfl,
  g_names_of_head := He.glo_ok X G (c.t.d.fact 60 (f := .glo "names_of_head") rfl),
  d_wrong_in_statement := c.t.d.def_ 22 (d := dG 57 "wrong_in_statement") rfl,
  g_wrong_in_statement := He.glo_ok X G (c.t.d.fact 61 (f := .glo "wrong_in_statement") rfl),
  d_wrong_in_body := c.t.d.def_ 23 (d := dG 58 "wrong_in_body") rfl,
  g_wrong_in_body := He.glo_ok X G (c.t.d.fact 62 (f := .glo "wrong_in_body") rfl),
  d_first_wrong := c.t.d.def_ 24 (d := dG 59 "first_wrong") rfl,
  g_first_wrong := He.glo_ok X G (c.t.d.fact 63 (f := .glo "first_wrong") rfl),
  d_checked_counts := c.t.d.def_ 25 (d := dG 60 "checked_counts") rfl,
  g_checked_counts := He.glo_ok X G (c.t.d.fact 64 (f := .glo "checked_counts") rfl),
  d_check_system := c.t.d.def_ 26 (d := dG 61 "check_system") rfl,
  g_check_system := He.glo_ok X G (c.t.d.fact 65 (f := .glo "check_system") rfl),
  d_number_of := c.t.d.def_ 27 (d := dG 63 "number_of") rfl,
  g_number_of := He.glo_ok X G (c.t.d.fact 66 (f := .glo "number_of") rfl),
  d_holds := c.t.d.def_ 28 (d := dG 64 "holds") rfl,
  g_holds := He.glo_ok X G (c.t.d.fact 67 (f := .glo "holds") rfl),
  d_label_list := c.t.d.def_ 29 (d := dG 67 "label_list") rfl,
  g_label_list := He.glo_ok X G (c.t.d.fact 68 (f := .glo "label_list") rfl),
  d_wheel_values := c.t.d.def_ 30 (d := dG 68 "wheel_values") rfl,
  g_wheel_values := He.glo_ok X G (c.t.d.fact 69 (f := .glo "wheel_values") rfl),
  d_needs_item := c.t.d.def_ 31 (d := dG 69 "needs_item") rfl,
  g_needs_item := He.glo_ok X G (c.t.d.fact 70 (f := .glo "needs_item") rfl),
  d_fits := c.t.d.def_ 32 (d := dG 70 "fits") rfl,
  g_fits := He.glo_ok X G (c.t.d.fact 71 (f := .glo "fits") rfl),
  d_check_playing := c.t.d.def_ 33 (d := dG 73 "check_playing") rfl,
  g_check_playing := He.glo_ok X G (c.t.d.fact 72 (f := .glo "check_playing") rfl),
  d_play := c.t.d.def_ 34 (d := dG 74 "play") rfl,
  g_play := He.glo_ok X G (c.t.d.fact 73 (f := .glo "play") rfl),
  d__law_cell := c.t.d.def_ 35 (d := dG 76 "_law_cell") rfl,
  g__law_cell := He.glo_ok X G (c.t.d.fact 74 (f := .glo "_law_cell") rfl),
  d__law_box := c.t.d.def_ 36 (d := dG 77 "_law_box") rfl,
  g__law_box := He.glo_ok X G (c.t.d.fact 75 (f := .glo "_law_box") rfl),
  d__law_take := c.t.d.def_ 37 (d := dG 78 "_law_take") rfl,
  g__law_take := He.glo_ok X G (c.t.d.fact 76 (f := .glo "_law_take") rfl),
  d__law_mixed := c.t.d.def_ 38 (d := dG 79 "_law_mixed") rfl,
  g__law_mixed := He.glo_ok X G (c.t.d.fact 77 (f := .glo "_law_mixed") rfl),
  d__law_words := c.t.d.def_ 39 (d := dG 80 "_law_words") rfl,
  g__law_words := He.glo_ok X G (c.t.d.fact 78 (f := .glo "_law_words") rfl),
  d__law_expression := c.t.d.def_ 40 (d := dG 81 "_law_expression") rfl,
  g__law_expression := He.glo_ok X G (c.t.d.fact 79 (f := .glo "_law_expression") rfl),
  d__law_condition := c.t.d.def_ 41 (d := dG 82 "_law_condition") rfl,
  g__law_condition := He.glo_ok X G (c.t.d.fact 80 (f := .glo "_law_condition") rfl),
  d__law_statement := c.t.d.def_ 42 (d := dG 83 "_law_statement") rfl,
  g__law_statement := He.glo_ok X G (c.t.d.fact 81 (f := .glo "_law_statement") rfl),
  d__law_body := c.t.d.def_ 43 (d := dG 84 "_law_body") rfl,
  g__law_body := He.glo_ok X G (c.t.d.fact 82 (f := .glo "_law_body") rfl),
  d__law_round := c.t.d.def_ 44 (d := dG 85 "_law_round") rfl,
  g__law_round := He.glo_ok X G (c.t.d.fact 83 (f := .glo "_law_round") rfl),
  d__law_system := c.t.d.def_ 45 (d := dG 86 "_law_system") rfl,
  g__law_system := He.glo_ok X G (c.t.d.fact 84 (f := .glo "_law_system") rfl),
  d__law_many := c.t.d.def_ 46 (d := dG 87 "_law_many") rfl,
  g__law_many := He.glo_ok X G (c.t.d.fact 85 (f := .glo "_law_many") rfl),
  d__law_values := c.t.d.def_ 47 (d := dG 88 "_law_values") rfl,
  g__law_values := He.glo_ok X G (c.t.d.fact 86 (f := .glo "_law_values") rfl),
  d__law_set := c.t.d.def_ 48 (d := dG 89 "_law_set") rfl,
  g__law_set := He.glo_ok X G (c.t.d.fact 87 (f := .glo "_law_set") rfl),
  d__law_worth := c.t.d.def_ 49 (d := dG 90 "_law_worth") rfl,
  g__law_worth := He.glo_ok X G (c.t.d.fact 88 (f := .glo "_law_worth") rfl),
  d__law_holds := c.t.d.def_ 50 (d := dG 91 "_law_holds") rfl,
  g__law_holds := He.glo_ok X G (c.t.d.fact 89 (f := .glo "_law_holds") rfl),
  d__law_begun := c.t.d.def_ 51 (d := dG 92 "_law_begun") rfl,
  g__law_begun := He.glo_ok X G (c.t.d.fact 90 (f := .glo "_law_begun") rfl),
  d__law_asks := c.t.d.def_ 52 (d := dG 93 "_law_asks") rfl,
  g__law_asks := He.glo_ok X G (c.t.d.fact 91 (f := .glo "_law_asks") rfl),
  d__law_value := c.t.d.def_ 53 (d := dG 94 "_law_value") rfl,
  g__law_value := He.glo_ok X G (c.t.d.fact 92 (f := .glo "_law_value") rfl),
  d__law_step := c.t.d.def_ 54 (d := dG 95 "_law_step") rfl,
  g__law_step := He.glo_ok X G (c.t.d.fact 93 (f := .glo "_law_step") rfl),
  d__law_answers := c.t.d.def_ 55 (d := dG 96 "_law_answers") rfl,
  g__law_answers := He.glo_ok X G (c.t.d.fact 94 (f := .glo "_law_answers") rfl),
  d__law_play := c.t.d.def_ 56 (d := dG 97 "_law_play") rfl,
  g__law_play := He.glo_ok X G (c.t.d.fact 95 (f := .glo "_law_play") rfl),
  d__law_asked_right := c.t.d.def_ 57 (d := dG 98 "_law_asked_right") rfl,
  g__law_asked_right := He.glo_ok X G (c.t.d.fact 96 (f := .glo "_law_asked_right") rfl),
  d__law_grown_right := c.t.d.def_ 58 (d := dG 99 "_law_grown_right") rfl,
  g__law_grown_right := He.glo_ok X G (c.t.d.fact 97 (f := .glo "_law_grown_right") rfl),
  d__law_right := c.t.d.def_ 59 (d := dG 100 "_law_right") rfl,
  g__law_right := He.glo_ok X G (c.t.d.fact 98 (f := .glo "_law_right") rfl),
  d_Space_values_of := c.t.d.def_ 60 (d := dM 26 5 "Space" "values_of" "Space.values_of") rfl,
  d_Space_store_of := c.t.d.def_ 61 (d := dM 26 6 "Space" "store_of" "Space.store_of") rfl,
  d_Space_size_of := c.t.d.def_ 62 (d := dM 26 7 "Space" "size_of" "Space.size_of") rfl,
  d_Space_with_value := c.t.d.def_ 63 (d := dM 26 9 "Space" "with_value" "Space.with_value") rfl,
  d_Space_check_store := c.t.d.def_ 64 (d := dM 26 10 "Space" "check_store" "Space.check_store") rfl,
  d_Space_check_name := c.t.d.def_ 65 (d := dM 26 11 "Space" "check_name" "Space.check_name") rfl,
  d_Space_init := c.t.d.def_ 66 (d := dM 26 0 "Space" "__init__" "Space.__init__") rfl,
  d_Space_contains := c.t.d.def_ 67 (d := dM 26 2 "Space" "__contains__" "Space.__contains__") rfl,
  m_Space_values_of := He.meth_ok (c.t.d.fact 99 (f := .meth "Space" "values_of") rfl),
  m_Space_store_of := He.meth_ok (c.t.d.fact 100 (f := .meth "Space" "store_of") rfl),
  m_Space_size_of := He.meth_ok (c.t.d.fact 101 (f := .meth "Space" "size_of") rfl),
  m_Space_with_value := He.meth_ok (c.t.d.fact 102 (f := .meth "Space" "with_value") rfl),
  m_Space_check_store := He.meth_ok (c.t.d.fact 103 (f := .meth "Space" "check_store") rfl),
  m_Space_check_name := He.meth_ok (c.t.d.fact 104 (f := .meth "Space" "check_name") rfl),
  s_Space_contains := He.eqO_ok (exs c.more 2 rfl),
  sf_Space_contains := (exs c.more 3 rfl),
  cl_Space := He.cls_ok (c.t.d.fact 105 (f := .cls "Space") rfl),
  mk_Space := He.mkr_ok (c.t.d.fact 106 (f := .mkr "Space") rfl),
  g_Space := He.glo_ok X G (c.t.d.fact 36 (f := .glo "Space") rfl),
  n_names := He.noat_ok (c.t.d.fact 107 (f := .noat "Space" "names") rfl),
  n_never := He.noat_ok (c.t.d.fact 108 (f := .noat "Space" "never") rfl),
  d_Frame_init := c.t.d.def_ 68 (d := dM 71 0 "Frame" "__init__" "Frame.__init__") rfl,
  cl_Frame := He.cls_ok (c.t.d.fact 109 (f := .cls "Frame") rfl),
  mk_Frame := He.mkr_ok (c.t.d.fact 110 (f := .mkr "Frame") rfl),
  g_Frame := He.glo_ok X G (c.t.d.fact 37 (f := .glo "Frame") rfl),
  n_Frame_body := He.noat_ok (c.t.d.fact 111 (f := .noat "Frame" "body") rfl),
  n_Frame_place := He.noat_ok (c.t.d.fact 112 (f := .noat "Frame" "place") rfl),
  n_Frame_unit := He.noat_ok (c.t.d.fact 113 (f := .noat "Frame" "unit") rfl),
  d_Playing_begin := c.t.d.def_ 69 (d := ⟨("Playing", some "begin"), "begin", "Playing.begin", defArgs (inClass (top 72) 1), defBody (inClass (top 72) 1), defScope (inClass (top 72) 1), [.non], []⟩) rfl,
  d_Playing_begin_behind := c.t.d.def_ 70 (d := ⟨("Playing", some "begin_behind"), "begin_behind", "Playing.begin_behind", defArgs (inClass (top 72) 2), defBody (inClass (top 72) 2), defScope (inClass (top 72) 2), [.non], []⟩) rfl,
  d_Playing_set_value := c.t.d.def_ 71 (d := dM 72 3 "Playing" "set_value" "Playing.set_value") rfl,
  d_Playing_asking := c.t.d.def_ 72 (d := dM 72 4 "Playing" "asking" "Playing.asking") rfl,
  d_Playing_passes := c.t.d.def_ 73 (d := dM 72 5 "Playing" "passes" "Playing.passes") rfl,
  d_Playing_step := c.t.d.def_ 74 (d := dM 72 6 "Playing" "step" "Playing.step") rfl,
  d_Playing_init := c.t.d.def_ 75 (d := dM 72 0 "Playing" "__init__" "Playing.__init__") rfl,
  m_Playing_begin := He.meth_ok (c.t.d.fact 114 (f := .meth "Playing" "begin") rfl),
  m_Playing_begin_behind := He.meth_ok (c.t.d.fact 115 (f := .meth "Playing" "begin_behind") rfl),
  m_Playing_set_value := He.meth_ok (c.t.d.fact 116 (f := .meth "Playing" "set_value") rfl),
  m_Playing_asking := He.meth_ok (c.t.d.fact 117 (f := .meth "Playing" "asking") rfl),
  m_Playing_passes := He.meth_ok (c.t.d.fact 118 (f := .meth "Playing" "passes") rfl),
  m_Playing_step := He.meth_ok (c.t.d.fact 119 (f := .meth "Playing" "step") rfl),
  cl_Playing := He.cls_ok (c.t.d.fact 120 (f := .cls "Playing") rfl),
  mk_Playing := He.mkr_ok (c.t.d.fact 121 (f := .mkr "Playing") rfl),
  g_Playing := He.glo_ok X G (c.t.d.fact 38 (f := .glo "Playing") rfl),
  n_Playing_space := He.noat_ok (c.t.d.fact 122 (f := .noat "Playing" "space") rfl),
  n_Playing_bodies := He.noat_ok (c.t.d.fact 123 (f := .noat "Playing" "bodies") rfl),
  n_Playing_store := He.noat_ok (c.t.d.fact 124 (f := .noat "Playing" "store") rfl),
  n_Playing_begun := He.noat_ok (c.t.d.fact 125 (f := .noat "Playing" "begun") rfl) }
theorem law_d {w : World} {K : PySem.W.Frag} {h : Heap} (c : He.SaysX fa fn [] [] exB w h K) : ∃ fd, FunD K "law" "law" (defArgs (top 101)) (defBody (top 101)) (defScope (top 101)) [] [] (He.ga K "law") fd := c.t.d.def_ 76 (d := dG 101 "law") rfl
theorem law_g {w : World} {K : PySem.W.Frag} {h : Heap} {mg : Str → Option Value} (X : K.In h) (G : h.Ns mainGlobals mg) (c : He.SaysX fa fn [] [] exB w h K) : mg "law" = some (.ref (He.ga K "law")) := He.glo_ok X G (c.t.d.fact 126 (f := .glo "law") rfl)
end K14
open L2

open PySem PySem.W PySem.Calls PyProof.Rows
theorem PySem.Challenge.cw_fairpatch_k14_games_step_by_step_holds : PySem.Challenge.rw_fairpatch_k14_games_step_by_step.Holds := by
  w_on; o_law
  refine HandSHeadRun.head_imp (r := OpenLaw.row PySem.Challenge.rw_fairpatch_k14_games_step_by_step) (q := view (OpenLaw.row PySem.Challenge.rw_fairpatch_k14_games_step_by_step).prog [101]) (H := K14.hk) (ob := K14.ob) (M := 8000) (loose := K14.names) (d := HandSHeadRun.topDef (OpenLaw.row PySem.Challenge.rw_fairpatch_k14_games_step_by_step).prog 101) (kwd := []) K14.ob_eq
    K14.run (by kernel_rfl) (by kernel_rfl) (by kernel_rfl) (by rfl) (by first | assumption | decide +kernel) (by decide +kernel) ⟨rfl, rfl, rfl, rfl, rfl, by decide +kernel⟩ ?hw ?hc
  case hw => w_witness2
  case hc =>
    refine L2.walk_ofG (l := PySem.Challenge.rw_fairpatch_k14_games_step_by_step) (n := 63) (k := 26) (x := "script") rfl (by decide) (by kernel_rfl) ⟨rfl, by decide, by decide⟩ ?F
    intro w mg fa h Y G hmg0
    obtain ⟨K, KX, c⟩ := Y
    have hmg : mg ("law" : PySem.Str) = some (.ref fa) := by
      have e : (HandSHeadRun.topDef (OpenLaw.row PySem.Challenge.rw_fairpatch_k14_games_step_by_step).prog 101).name = ("law" : PySem.Str) := by kernel_rfl
      rw [← e]
      exact hmg0
    have T := K14.txt_of KX G c
    obtain ⟨fd, F⟩ := K14.law_d c
    have e := hmg.symm.trans (K14.law_g KX G c)
    cases e
    have b := FunD.bindsA (ps := ["script"]) F fun _ _ _ _ _ _ us hl => match us, hl with | [_], _ => rfl
    exact ⟨K, fd, K14.spLaw K, KX, fun s v => b s [v] rfl, fun H a ns hl _ hS => ⟨a, ns, rfl, hS, hl, fun _ => rfl⟩, fun base _ _ => K14.law_ok T F⟩
