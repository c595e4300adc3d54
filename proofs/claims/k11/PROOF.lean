import PyProof.Rows.All
import Wide.All
import OpenK.AllK
import Wide.FinOn
import HandS.ForMost
import HandS.IsInst
import HandS.Deep
import HandS.FStr
import HandS.Defaults
import HandS.MakeKw
import HandS.MakeKwOnly
import HandS.Property
import HandS.Flow
import HandS.Style
import HandS.TupLe
import HandS.WideBits
import HandS.RaiseMore
import HandS.SlotsOwn
import HandS.ClsMeth
import HandS.More
import HandS.Iter
import HandS.Walk
import KE.GoesMore
import KE.GoesEnum
import KE.GoesNew
import HandS.Star
import HandS.OwnEq
import PyProof.FitsReplace
import PyProof.ReprLoop
import HandS.Text
import HandS.TupAny
import KE.KOpsOwn
import KE.LtSeq
import KE.Datum
import HandS.ExcInit
import HandS.ExcField
import HandS.TryMany
import KE.KExcInit
import HandS.Lambda
import HandS.TupMul
import HandS.Strs
import OpenK.KMeth
import HandS.Dict
import PyProof.ReprRoads
import HandS.EndTab
import HandS.ExcIs
import HandS.WordsExc
import PyProof.NeKinds
import PyProof.StrLawsRepr
import PyProof.ReprNest
import KE.KExcIs
import PyProof.ListRange
import PyProof.LongRange
import HandS.Conv
import PySem.Challenge.RW_unlikecalls_k11_whole_places_by_bytes
import KE.KNestM
set_option Elab.async false
set_option linter.all false
set_option maxRecDepth 100000
set_option maxHeartbeats 4000000
namespace UL
open PySem L2
/-! what every law of this document draws from: a list of two ints -/
/-- all that is tracked stays, but the object at p -/
def Stay (p : Addr) (H H' : Hp) : Prop := ∀ b o, b ≠ p → H b = some o → H' b = some o
theorem Stay.refl (p : Addr) (H : Hp) : Stay p H H := fun _ _ _ h => h
theorem Stay.trans {p : Addr} {H H1 H2 : Hp} (a : Stay p H H1) (b : Stay p H1 H2) : Stay p H H2 := fun c o n h => b c o n (a c o n h)
theorem Same.stay {H H' : Hp} (s : L2.Same H H') (p : Addr) : Stay p H H' := fun b o _ h => s b o h
theorem same_new {H : Hp} {p : Addr} {o : HO} (h : H p = none) : L2.Same H (upd H p o) := fun b u e => by rw [upd_ne (ne_of_none e h)]; exact e
/-- the pot: what is left of the digits, and the mixed number -/
def Pot (H : Hp) (p : Addr) : Prop := ∃ a b : Int, H p = some (.lst [.int a, .int b]) ∧ 0 ≤ b ∧ b < 4294967296
theorem Pot.same {H H' : Hp} {p : Addr} (h : Pot H p) (s : L2.Same H H') : Pot H' p := by
  obtain ⟨a, b, e, h1, h2⟩ := h
  exact ⟨a, b, s _ _ e, h1, h2⟩
theorem stay_upd {H : Hp} {p : Addr} {o : HO} : Stay p H (upd H p o) := fun b u n e => by rw [upd_ne n]; exact e
/-- _law_draw(pot, n): an int from 0 to n - 1 -/
def spDraw : Sp := fun vs H Q _ => ∃ (p : Addr) (n : Int), vs = [.ref p, .int n] ∧ Pot H p ∧ 0 < n ∧ n < 1073741824 ∧
  ∀ (d : Int) (H' : Hp), 0 ≤ d → d < n → Pot H' p → Stay p H H' → Q (.int d) H'
/-- _law_pick(pot, some): one of them -/
def spPick (K : PySem.W.Frag) : Sp := fun vs H Q _ => ∃ (p l : Addr) (xs : List V), vs = [.ref p, .ref l] ∧ Pot H p ∧ SqL K H l xs ∧ xs ≠ [] ∧ xs.length < 1073741824 ∧
  ∀ (i : Nat) (v : V) (H' : Hp), xs[i]? = some v → Pot H' p → Stay p H H' → Q v H'
end UL
set_option Elab.async false
set_option linter.all false
set_option maxRecDepth 100000
set_option maxHeartbeats 4000000
namespace UL
open PySem PySem.Spec PyProof.Rows L2
/-! ### instances of the text's own classes under ==, str, repr -/
section
variable {X : Cx} {CX : CXT} {C g : Addr} {n : Nat} {sp : Sp} {E : XK}
/-- what is asked of an instance's class for isinstance -/
structure CIsi (K : PySem.W.Frag) (C : Addr) : Prop where
  cl : Cls K C
  ca : PySem.W.findIn K (.ref C) "__class__" = some (some (.builtin "object.__class__"))
  cn : PySem.W.specialIn K (.builtin "object.__class__") "__get__" = some (some (.builtin "getset_descriptor.__get__"))
  ct : PySem.W.takesIn K (.builtin "object.__class__") = some true
  cm : PySem.W.mroIn K C (.type "object") = some true
theorem CIsi.ty {K : PySem.W.Frag} {C a dx : Addr} {H : Hp} {fs : List (Str × V)} (c : CIsi K C) (h : H a = some (.ins C dx fs)) : TyX K H (.ref a) (.ref C) :=
  .base (.ins h c.cl c.ca c.cn c.ct c.cm)
/-- x == y by the def at g, x an instance of the class at C, y anything whose type is known -/
def rEqI (K : PySem.W.Frag) (C : Addr) (sp : Sp) (E : XK) : R2 := fun x y H Q => ∃ (a dx : Addr) (fs : List (Str × V)) (t : Value), x = .ref a ∧ H a = some (.ins C dx fs) ∧ TyX K H y t ∧ PySem.W.notFirst K C t = true ∧ sp [x, y] H Q E
theorem op_eqI (hs : PySem.W.findIn X.K (.ref C) "__eq__" = some (some (.ref g))) (hf : PySem.W.isFn X.K (.ref g) = true) (F : FnR X.prog X.w X.K X.mg X.base CX n g sp) (hr : Room n X.A) (hx : Passes CX X E) :
    OpR X (compareOp .Eq) (rEqI X.K C sp E) := by
  intro pins s σ H x y v u Q I rx ry h
  obtain ⟨a, dx, fs, t, rfl, ha, ty, hn, q⟩ := h
  cases (show v = Value.ref a from rx)
  obtain ⟨mA, O, _⟩ := ins_get I.hok ha
  obtain ⟨od, J, _⟩ := O.look
  obtain ⟨m, hF⟩ := I.fr
  obtain ⟨Pk, Z, pk, _⟩ := kit_of I ry ty
  show wpAny _ _ (richCompare .Eq (.ref a) u) _ _ _
  refine PySem.W.cmp_K (op := .Eq) hr.units0 hF I.ok.mod.kin J (Z.ty _ _ I.kIn pk) hn hs hf ?_
  refine wpAny_mono (wpAny_call (run_fnR (us := [.ref a, u]) (vs := [.ref a, y]) F hr hx I (.cons rfl (.cons ry .nil)) q)) (fun r s' z => ?_) fun _ _ e => e
  obtain ⟨z', H', I', rz, qz⟩ := z
  exact SlX.cmpback rz ⟨z', H', I', rz, qz⟩
/-- repr(x), str(x) by the def at g: it hands back a text -/
def rShowI (C : Addr) (sp : Sp) (E : XK) : List V → Hp → VK → Prop := fun xs H Q => ∃ (a dx : Addr) (fs : List (Str × V)), xs = [.ref a] ∧ H a = some (.ins C dx fs) ∧ sp [.ref a] H (fun z H' => ∃ y, z = .str y ∧ Q z H') E
theorem call_reprI (hs : PySem.W.findIn X.K (.ref C) "__repr__" = some (some (.ref g))) (hf : PySem.W.isFn X.K (.ref g) = true) (F : FnR X.prog X.w X.K X.mg X.base CX n g sp) (hr : Room (n + 1) X.A) (hx : Passes CX X E) :
    CallR X (.builtin "repr") (rShowI C sp E) := by
  intro pins s σ H xs us Q I r h
  obtain ⟨a, dx, fs, rfl, ha, q⟩ := h
  obtain ⟨u, rfl, ru⟩ := vals1 r
  cases (show u = Value.ref a from ru)
  obtain ⟨mA, O, _⟩ := ins_get I.hok ha
  obtain ⟨od, J, _⟩ := O.look
  obtain ⟨m, hF⟩ := I.fr
  refine PySem.W.repr_K hr.in1.units0 hF I.ok.mod.kin J hs hf (wpAny_mono (wpAny_call (SlX.run_at (us := [.ref a]) (ws := [.ref a]) F hr.in1 I.env0.in1 hx I (.cons rfl .nil) q)) (fun w s' z => ?_) fun _ _ e => e)
  obtain ⟨z', H', I', rz, y, ey, qz⟩ := z
  subst ey
  obtain ⟨t, rfl⟩ := (show ∃ t, w = Value.str y t from rz)
  exact ⟨.str y, H', I', ⟨t, rfl⟩, qz⟩
theorem call_strI (hs : PySem.W.findIn X.K (.ref C) "__str__" = some (some (.ref g))) (hf : PySem.W.isFn X.K (.ref g) = true) (F : FnR X.prog X.w X.K X.mg X.base CX n g sp) (hr : Room (n + 2) X.A) (hx : Passes CX X E) :
    CallR X (.type "str") (rShowI C sp E) := by
  intro pins s σ H xs us Q I r h
  obtain ⟨a, dx, fs, rfl, ha, q⟩ := h
  obtain ⟨u, rfl, ru⟩ := vals1 r
  cases (show u = Value.ref a from ru)
  obtain ⟨mA, O, _⟩ := ins_get I.hok ha
  obtain ⟨od, J, _⟩ := O.look
  have hr2 : Room n X.A.in1.in1 := (show Room (n + 1) X.A.in1 from Room.in1 hr).in1
  refine PySem.W.kso_call hr2.units0 I.kIn J hs hf (wpAny_mono (wpAny_call (SlX.run_at (us := [.ref a]) (ws := [.ref a]) F hr2 I.env0.in1.in1 hx I (.cons rfl .nil) q)) (fun w s' z => ?_) fun _ _ e => e)
  obtain ⟨z', H', I', rz, y, ey, qz⟩ := z
  subst ey
  obtain ⟨t, rfl⟩ := (show ∃ t, w = Value.str y t from rz)
  exact ⟨.str y, H', I', ⟨t, rfl⟩, qz⟩
end
/-- a name of the module that holds v -/
theorem pe_gl {X : Cx} {x : Str} {v : V} {pos : Pos} (hg : Gl X x) (h : ∃ u, X.mg x = some u ∧ RelV v u) (hd : (x == ("__debug__" : Str)) = false := by decide) : PE X (.Name x pos) (tC v) :=
  let ⟨_, hm, r⟩ := h
  pe_glob hg hm r hd
/-! ### a static method, called by its class's name -/
/-- C.m is the def at g, a static method whose record stands at p -/
structure SMet (K : PySem.W.Frag) (C : Addr) (mc : Value) (m : Str) (p g : Addr) : Prop where
  rd : PySem.W.readsIn K C mc = true
  ga : PySem.W.specialIn K (.ref C) "__getattribute__" = some (some (.builtin "type.__getattribute__"))
  at_ : PySem.W.findCls K (.ref C) mc m = some (.get (.builtin "staticmethod.__get__") (.ref p) .none (.ref C))
  rc : ∃ rest, PySem.W.recIn K p "staticmethod" = some (.ref g :: rest)
  kp : PySem.W.keepIn K (.ref g) = true
section
variable {X : Cx} {CX : CXT} {C p g : Addr} {mc : Value} {k n : Nat} {fd : FuncData} {ps ks : List Str} {sp : Sp} {dvs : List V} {ds : List Value} {E : XK} {o e : Expr} {es : List Expr} {kws : List Keyword} {m : Str} {pos apos : Pos} {ta : TE} {t tk : TA}
  {gg : List Value → List Value → List Value} {gV : List V → List V → List V}
def tSMeth (C : Addr) (sp : Sp) (dvs : List V) (E : XK) (ta : TE) (t : TA) : TE := fun σ H Q => ta σ H fun x H1 => x = .ref C ∧ t σ H1 fun vs H2 => sp (vs ++ dvs) H2 Q E
theorem getsm_ok {pins : List (Addr × Obj)} {σ : L2.St} {H : Hp} {s : Shared} {A : Around} {E' : Value → Shared → Prop} {pl : Sem Bool} {Q : Value × List Value → Shared → Prop} (I : Inv X pins σ H s) (c : SMet X.K C mc m p g)
    (h : ∀ s', Inv X pins σ H s' → Q (.ref g, []) s') : wpAny (model X.prog X.w) A (getMethod (.ref C) m pl) Q E' s := by
  obtain ⟨rest, hp⟩ := c.rc
  refine PySem.W.method_cls I.kIn c.ga (PySem.W.cls_bind I.kIn c.rd c.at_ ?_)
  exact wpAny_call (PySem.W.sm_get (s := { s with toks := s.toks + 1 }) I.kIn hp (PySem.W.handed_on rfl (h _ (I.tok _))))
theorem pe_smeth {pl : Sem Bool} (he : PE X o ta) (c : SMet X.K C mc m p g) (F : FnOk X.prog X.w X.K X.mg X.base CX k g fd ps sp) (hr : Room k X.A) (hb : Binds X.K fd ps ds) (hd : Vals dvs ds) (hx : Passes CX X E) (ha : PA X (e :: es) t)
    (hst : starEach (e :: es) X.env = (false, eval e X.env) :: starEach es X.env := by rfl) (hpl : (backTo pos (starEach es X.env)).any (·.1) = false := by rfl)
    (ht : eval (.Call (.Attribute o m apos) (e :: es) [] pos) X.env = (do
      let ov ← eval o X.env
      standAt apos.atName
      let (fv, fi) ← holding [ov] (getMethod ov m pl)
      callWith pos fv fi (backTo pos (starEach (e :: es) X.env)) (backToKw pos (keywordEach [] X.env))) := by rfl) :
    PE X (.Call (.Attribute o m apos) (e :: es) [] pos) (tSMeth C sp dvs E ta t) := by
  refine ⟨fun pins s σ H Q I h => ?_⟩
  refine PySem.W.methodCall_KW (pl := pl) (thn (he.run pins s σ H _ I h) fun u s1 ⟨x, H1, I1, rx, ex, q⟩ => ?_) ht
  subst ex
  obtain rfl : u = Value.ref C := rx
  refine getsm_ok I1 c fun s2 I2 => ?_
  refine PySem.W.callWith_K (first := []) (h₀ := X.base) I.ok.mod.kin c.kp (thn (ha.run pos pins s2 σ H1 _ I2 q) fun us s3 ⟨vs, H2, I3, r, q2⟩ => ⟨I3.kIn, ?_⟩) hst hpl
  exact run_fn F hr hb hd hx I3 r q2
/-- C.m(k = v, ..): keywords alone -/
def tSMethK (C : Addr) (m : Nat) (sp : Sp) (gV : List V → List V → List V) (E : XK) (ta : TE) (tk : TA) : TE := fun σ H Q => ta σ H fun x H1 => x = .ref C ∧ tk σ H1 fun zs H2 => zs.length = m ∧ sp (gV [] zs) H2 Q E
theorem pe_smethK {pl : Sem Bool} (he : PE X o ta) (c : SMet X.K C mc m p g) (F : FnOk X.prog X.w X.K X.mg X.base CX k g fd ps sp) (hr : Room k X.A) (hb : KBn X.K fd ps 0 ks gg gV) (hx : Passes CX X E) (hkw : PK X kws tk)
    (hall : (backToKw pos (keywordEach kws X.env)).all (·.1.isSome) = true := by rfl) (hks : (backToKw pos (keywordEach kws X.env)).filterMap (·.1) = ks := by rfl)
    (hpl : ((backTo pos (starEach [] X.env)).any (·.1) || (backToKw pos (keywordEach kws X.env)).any (·.1.isNone)) = false := by rfl)
    (ht : eval (.Call (.Attribute o m apos) [] kws pos) X.env = (do
      let ov ← eval o X.env
      standAt apos.atName
      let (fv, fi) ← holding [ov] (getMethod ov m pl)
      callWith pos fv fi (backTo pos (starEach [] X.env)) (backToKw pos (keywordEach kws X.env))) := by rfl) :
    PE X (.Call (.Attribute o m apos) [] kws pos) (tSMethK C ks.length sp gV E ta tk) := by
  refine ⟨fun pins s σ H Q I h => ?_⟩
  refine PySem.W.methodCall_KW (pl := pl) (thn (he.run pins s σ H _ I h) fun u s1 ⟨x, H1, I1, rx, ex, q⟩ => ?_) ht
  subst ex
  obtain rfl : u = Value.ref C := rx
  refine getsm_ok I1 c fun s2 I2 => ?_
  refine PySem.W.callWith_KW0 (h₀ := X.base) I.ok.mod.kin c.kp hall ?_ hpl
  refine thn (hkw.run pos pins s2 σ H1 _ I2 q) fun ws s3 ⟨zs, H2, I3, rz, l2, q2⟩ => ⟨I3.kIn, ?_⟩
  rw [hks]
  exact run_fnN (us := []) (vs := []) F hr hb hx I3 .nil rz rfl l2 q2
end
end UL
set_option Elab.async false
set_option linter.all false
set_option maxRecDepth 100000
set_option maxHeartbeats 4000000
namespace UL
open PySem PySem.Spec PyProof.Rows L2
/-! ### promises that are kept where no repr is under way: defs that say repr of a list -/
structure FnG (P : Program) (w : World) (K : PySem.W.Frag) (mg : Str → Option Value) (base : Heap) (k : Nat) (f : Addr) (fd : FuncData) (ps : List Str) (sp : Sp) : Prop where
  len : ∀ vs H Q E, sp vs H Q E → vs.length = ps.length
  run : ∀ (A : Around) (outer : List Env) (s : Shared) (H : Hp) (args : Args) (us : List Value) (vs : List V) (Q : VK) (E : XK), A.guards = some [] → Room k A → Env0 P w K mg base A outer s H → BindsTo s fd args (ps.zip us) →
    Vals vs us → sp vs H Q E → codeAny (model P w) A (.call (.ref f) args) (CR CX0 outer P w H s Q E) s
section
variable {P : Program} {w : World} {K : PySem.W.Frag} {mg : Str → Option Value} {base : Heap}
theorem FnG.ofOk {k : Nat} {f : Addr} {fd : FuncData} {ps : List Str} {sp : Sp} (F : FnOk P w K mg base CX0 k f fd ps sp) : FnG P w K mg base k f fd ps sp :=
  ⟨F.len, fun A outer s H args us vs Q E _ => F.run A outer s H args us vs Q E⟩
theorem FnG.mk' {x qual : Str} {st : Stmt} {f : Addr} {fd : FuncData} {N ps : List Str} {k : Nat} {sp : Sp} (F : Fun K x qual st f fd) (S : FnScope N ps (defScope st)) (len : ∀ vs H Q E, sp vs H Q E → vs.length = ps.length)
    (go : ∀ (cdv : Value) (A : Around) (outer : List Env) (s : Shared) (H : Hp) (vs : List V) (Q : VK) (E : XK), A.guards = some [] → Room k (A.deeper (envOfC qual (defScope st) s.heap.objs.size f cdv)) → sp vs H Q E →
      ∃ t, PSs (cxOf CX0 P w K mg base N qual (defScope st) f cdv A outer s H E).nox (defBody st) t ∧ t { nx := fun _ H' => Q .non H', rt := Q } (start N vs) H) : FnG P w K mg base (k + 1) f fd ps sp := by
  obtain ⟨oc, od, kV, doc, pm, an, cdv, ct, osl, rfl, lk, hcd⟩ := F.ex
  refine ⟨len, fun A outer s H args us vs Q E hg hr e0 hb r hsp => ?_⟩
  have hlen := len _ _ _ _ hsp
  have inS : K.In s.heap := e0.mod.kin.keeps fun b o e => (e0.bs b o e).1
  have limS : s.heap.NoLimit := e0.mod.nolimit.keeps fun b o e => (e0.bs b o e).1
  have kinds : ∀ y ∈ ps.zip us, (defScope st).names.lookup y.1 = some .local ∨ ((defScope st).names.lookup y.1 = some .cell ∧ ((cellsFrom (s.heap.objs.size + 1) (defScope st).names []).lookup y.1).isSome = true) := by
    rintro ⟨n, v⟩ hy
    exact (S.par n (List.of_mem_zip hy).1).imp id fun q => ⟨q, PySem.W.cellsFrom_some _ _ _ (.inl q)⟩
  refine codeAny_call_function hr.depth (inS _ _ lk) rfl S.co S.gen rfl (PySem.W.codeRec_of inS hcd) (hb _ _ _ _ ?_)
  refine wpAny_newFunctionEnv_cells S.kind kinds fun env henv s1 x => ?_
  subst henv
  refine ⟨limS.keeps x.toInCall.keep, codeAny_func ?_⟩
  obtain ⟨t, ht, hq⟩ := go cdv A outer s H vs Q E hg (hr.deeper _) hsp
  have I : Inv (cxOf CX0 P w K mg base N qual (defScope st) f cdv A outer s H E) [] (start N vs) H s1 := inv_start S hr.hd e0 hlen r x
  refine wpAny_mono (ht.nox.run [] s1 (start N vs) H _ I hq) (fun fl s' hs => ?_) fun e s' hs => hs
  cases fl with
  | ret u =>
    obtain ⟨v, σ', H', J, rv, q⟩ := hs
    exact ⟨v, H', J.os, J.bare, J.base, J.hok, rv, q⟩
  | next =>
    obtain ⟨σ', H', J, q⟩ := hs
    exact ⟨V.non, H', J.os, J.bare, J.base, J.hok, rfl, q⟩
  | brk => exact hs.elim fun _ z => z.elim fun _ y => y.2.elim
  | cont => exact hs.elim fun _ z => z.elim fun _ y => y.2.elim
end
section
variable {X : Cx} {k : Nat} {f : Addr} {fd : FuncData} {ps : List Str} {sp : Sp} {dvs : List V} {ds : List Value} {E : XK} {x : Str} {p pos : Pos} {e : Expr} {es : List Expr} {t : TA}
theorem pe_callG (hgd : X.A.guards = some []) (F : FnG X.prog X.w X.K X.mg X.base k f fd ps sp) (hr : Room k X.A) (hg : Gl X x) (hm : X.mg x = some (.ref f)) (hk : PySem.W.keepIn X.K (.ref f) = true) (hb : Binds X.K fd ps ds) (hd : Vals dvs ds)
    (hx : Passes CX0 X E) (ha : PA X (e :: es) t) (hdb : (x == ("__debug__" : Str)) = false := by decide) (he : starEach (e :: es) X.env = (false, eval e X.env) :: starEach es X.env := by rfl)
    (hpl : (backTo pos (starEach es X.env)).any (·.1) = false := by rfl) : PE X (.Call (.Name x p) (e :: es) [] pos) (tCall sp dvs E t) := by
  refine ⟨fun pins s σ H Q I h => wpAny_Call_Name_kw (ld_glob I hg hm (PySem.W.callWith_K (h₀ := X.base) I.ok.mod.kin hk (thn (ha.run pos pins s σ H _ I h) fun us s1 ⟨vs, H1, I1, r, q⟩ => ⟨I1.kIn, ?_⟩) he hpl) hdb)⟩
  have r2 : Vals (vs ++ dvs) (us ++ ds) := r.append hd
  have hl : (us ++ ds).length = ps.length := r2.length.symm.trans (F.len _ _ _ _ q)
  refine wpAny_call (codeAny_mono (F.run X.A X.stack s1 H1 ⟨us, []⟩ (us ++ ds) (vs ++ dvs) Q E hgd hr I1.env0 (hb s1 us I1.kIn hl) r2 q) fun rr s' hq => ?_)
  cases rr with
  | error er => exact hx pins σ H1 s1 er s' I1 hq
  | ok fl => cases fl <;> first | exact I1.after hq | exact False.elim hq
/-- repr of data -/
def rReprD (K : PySem.W.Frag) : List V → Hp → VK → Prop := fun xs H Q => ∃ (v : V) (d : PyData), xs = [v] ∧ Dp K H v d ∧ d.showable = true ∧ d.hasDict = false ∧ d.depth ≤ 40 ∧ d.shown.length ≤ sizeLine ∧ Q (.str d.shown) H
theorem call_reprD (hgd : X.A.guards = some []) (hu : X.A.units + 64 < cLine) : CallR X (.builtin "repr") (rReprD X.K) := by
  intro pins s σ H xs us Q I r h
  obtain ⟨v, d, rfl, hd, hs, hn, hdp, hz, q⟩ := h
  obtain ⟨u, rfl, ru⟩ := vals1 r
  obtain ⟨as, rd⟩ := Dp.reads I d v u hd ru
  have fin : ∀ h' t tk, (∀ b o, s.heap.get? b = some o → h'.get? b = some o) → EP X pins σ Q (.str d.shown t) { s with heap := h', toks := tk } := fun h' t tk kp => ⟨.str d.shown, H, I.kept kp, ⟨t, rfl⟩, q⟩
  have hsz := hz
  cases rd with
  | none =>
    simp only [PyData.shown] at fin
    exact PySem.P.repr_of_none (fin s.heap _ _ fun _ _ z => z)
  | bool b =>
    simp only [PyData.shown] at fin
    exact PySem.P.repr_of_bool (fin s.heap _ _ fun _ _ z => z)
  | int i t =>
    simp only [PyData.shown] at fin
    exact PySem.P.repr_of_int (by simpa [PyData.showable] using hs) (fin s.heap _ _ fun _ _ z => z)
  | str x t =>
    simp only [PyData.shown] at fin hsz
    exact PySem.P.repr_of_str (fin s.heap _ _ fun _ _ z => z) hsz
  | list h1 h2 h3 h4 => exact repr_of_reads' (.list h1 h2 h3 h4) hs (PyData.noDict_hsm hn) hgd (by omega) (fun _ _ z => z) fin hz
  | tuple h1 h2 h3 h4 => exact repr_of_reads' (.tuple h1 h2 h3 h4) hs (PyData.noDict_hsm hn) hgd (by omega) (fun _ _ z => z) fin hz
  | dict h1 h2 h3 h4 h5 => simp [PyData.hasDict] at hn
end
end UL
set_option Elab.async false
set_option linter.all false
set_option maxRecDepth 100000
set_option maxHeartbeats 4000000
namespace UL
open PySem PySem.Spec PyProof.Rows L2
/-! ### the law's own call, by a promise of the kind FnG -/
section
variable {P : Program} {w : World} {K : PySem.W.Frag} {mg mb : Str → Option Value} {k : Nat} {fa a : Addr} {fd : FuncData} {x : Str} {sp : Sp} {s₁ : Shared} {vs : List Value} {ns : List Int}
/-- from an abstract heap that tracks the script alone, if anything -/
theorem call_from {H : Hp} (KX : K.In s₁.heap) (hns : s₁.heap.Ns mainGlobals mg) (hb : s₁.heap.Ns builtinsNs mb) (hbb : ∀ x : Str, x ≠ "__name__" → mb x = bootBuiltins x) (hlim : s₁.heap.NoLimit) (hg : s₁.gens = #[])
    (ha : s₁.heap.get? a = some { cls := .type "list", data := .seq vs.toArray }) (hr : Room k callerA) (F : ∀ base : Heap, K.In base → base.Ns mainGlobals mg → FnG P w K mg base k fa fd [x] sp) (hbind : ∀ (s : Shared) (u : Value), BindsTo s fd ⟨[u], []⟩ [(x, u)])
    (hO : Only H) (hok : HOk P w H s₁.heap) (only : ∀ b, H b ≠ none → b = a) (out : H a ≠ none → K.lookup a = none) (hsp : sp [.ref a] H (fun v _ => v = .bl true) fun _ _ _ => False) :
    codeAny (model P w) callerA (.call (.ref fa) ⟨[.ref a], []⟩) (fun r s' => r = .ok (.ret (.bool true)) ∧ OldK s₁.heap s'.heap ∧ s'.os = s₁.os ∧ AllBare s'.gens) s₁ := by
  -- what the script's address bears is no dict and no part of the written text
  have hid : ∀ {b : Addr} {o : Obj}, s₁.heap.get? b = some o → (b = a → H a = none) → (hidT s₁.heap H).get? b = some o := fun {b o} e n => hidT_get e (by
    cases q : H b with
    | none => rfl
    | some u =>
      have z : b = a := only b (fun y => by rw [y] at q; cases q)
      rw [z, n z] at q
      cases q)
  have hns' : ∀ {b : Addr} {m : Str → Option Value}, s₁.heap.Ns b m → (hidT s₁.heap H).Ns b m := fun {b m} ⟨o, es, ep, e, d, r⟩ => ⟨o, es, ep, hid e (fun z => by
    subst z
    rw [ha] at e
    cases e
    cases d), d, r⟩
  have hK' : K.In (hidT s₁.heap H) := fun b o e => hid (KX b o e) (fun z => by
    cases q : H a with
    | none => rfl
    | some u =>
      have y := out (fun t => by rw [t] at q; cases q)
      rw [z, y] at e
      cases e)
  have hM : Mod K mg (hidT s₁.heap H) := ⟨hK', hns' hns, ⟨mb, hns' hb, hbb⟩, let ⟨mc, h1, h2⟩ := hlim; ⟨mc, hns' h1, h2⟩⟩
  have e0 : Env0 P w K mg (hidT s₁.heap H) callerA [] s₁ H := ⟨rfl, hM, fun b o e => of_hidT e, Nat.le_of_eq (hidT_size _ _), trivial, fun b z => (nomatch (show b ∈ ([] : List Addr) from z)), hok, .of_eq hg⟩
  refine codeAny_mono ((F _ hK' (hns' hns)).run callerA [] s₁ H ⟨[.ref a], []⟩ [.ref a] [.ref a] _ _ rfl hr e0 (hbind s₁ (.ref a)) (.cons rfl .nil) hsp) fun r s' h => ?_
  match r, h with
  | .ok (.ret u), ⟨v, H', os, bare, un, hok', r', q⟩ =>
    cases (show v = .bl true from q)
    cases (show u = Value.bool true from r')
    refine ⟨rfl, OldK.of_keep fun b o e => ?_, os, bare⟩
    rcases hO b with z | ⟨ob, xs, z⟩
    · exact un.keep b o e z (fun y => nomatch (show b ∈ ([] : List Addr) from y)) (fun y => nomatch (show b ∈ ([] : List Addr) from y))
    · obtain ⟨e1, _⟩ := hok b _ z
      obtain ⟨e2, _⟩ := hok' b _ (un.frzs b ob _ z)
      rw [e] at e1
      cases e1
      exact e2
theorem law_callG (KX : K.In s₁.heap) (hns : s₁.heap.Ns mainGlobals mg) (hb : s₁.heap.Ns builtinsNs mb) (hbb : ∀ x : Str, x ≠ "__name__" → mb x = bootBuiltins x) (hlim : s₁.heap.NoLimit) (hg : s₁.gens = #[])
    (ha : s₁.heap.get? a = some { cls := .type "list", data := .seq vs.toArray }) (hi : IntsAre vs ns) (hl : ns.length ≤ sizeLine) (hr : Room k callerA) (F : ∀ base : Heap, K.In base → base.Ns mainGlobals mg → FnG P w K mg base k fa fd [x] sp)
    (hbind : ∀ (s : Shared) (u : Value), BindsTo s fd ⟨[u], []⟩ [(x, u)]) (hsp : ∀ H : Hp, Only H → SqL K H a (ns.map V.int) → sp [.ref a] H (fun v _ => v = .bl true) fun _ _ _ => False) :
    codeAny (model P w) callerA (.call (.ref fa) ⟨[.ref a], []⟩) (fun r s' => r = .ok (.ret (.bool true)) ∧ OldK s₁.heap s'.heap ∧ s'.os = s₁.os ∧ AllBare s'.gens) s₁ := by
  have rv := vals_ints hi
  have lenV := hi.length
  cases hk : K.lookup a with
  | some o =>
    obtain rfl : _ = o := Option.some.inj (ha.symm.trans (KX a o hk))
    have hO : Only fun _ => none := fun _ => .inl rfl
    exact call_from (H := fun _ => none) KX hns hb hbb hlim hg ha hr F hbind hO (fun b u z => nomatch (show (none : Option HO) = some u from z)) (fun b z => absurd rfl z) (fun z => absurd rfl z)
      (hsp _ hO (.inr ⟨_, vs.toArray, _, hk, rfl, rfl, rfl, by rw [List.size_toArray, lenV]; exact hl, by simpa using rv⟩))
  | none =>
    let H0 : Hp := fun b => if b = a then some (.frz { cls := .type "list", data := .seq vs.toArray } (.lst (ns.map V.int))) else none
    have at_ : H0 a = some (.frz { cls := .type "list", data := .seq vs.toArray } (.lst (ns.map V.int))) := if_pos rfl
    have no_ : ∀ b, b ≠ a → H0 b = none := fun b z => if_neg z
    have hO : Only H0 := fun b => if z : b = a then .inr ⟨{ cls := .type "list", data := .seq vs.toArray }, ns.map V.int, z ▸ at_⟩ else .inl (no_ b z)
    refine call_from (H := H0) KX hns hb hbb hlim hg ha hr F hbind hO (fun b u z => ?_) (fun b z => Decidable.byContradiction fun y => z (no_ b y)) (fun _ => hk) (hsp _ hO (.inl (.inr ⟨_, at_⟩)))
    by_cases y : b = a
    · subst y
      rw [at_] at z
      cases z
      exact ⟨ha, by rw [List.length_map]; exact hl, vs, _, rv, ha⟩
    · rw [no_ b y] at z
      cases z
end
theorem walkG {l : PySem.W.OpenLaw} {n k : Nat} {q : Program} {loose : List Str} {XP : (Str → Option Value) → Heap → Prop} {YP : World → Heap → Prop} {d : DefRec} {K : Params → PySem.W.Frag} {sp : World → Sp} {x : Str}
    (hn : l.most = some n) (hn2 : n ≤ sizeLine) (hdf : d.params.defaults = []) (hr : Room k callerA) (hY : ∀ (w : World) (h : Heap), YP w h → (K w.params).In h)
    (F : ∀ (w : World) (mg : Str → Option Value) (fa : Addr) (h : Heap), (K w.params).In h → h.Ns mainGlobals mg → mg d.name = some (.ref fa) →
      ∃ fd : FuncData, (∀ (s : Shared) (u : Value), BindsTo s fd ⟨[u], []⟩ [(x, u)]) ∧ ∀ base : Heap, (K w.params).In base → base.Ns mainGlobals mg → FnG l.prog w (K w.params) mg base k fa fd [x] (sp w))
    (hsp : ∀ (w : World) (H : Hp) (a : Addr) (ns : List Int), ns.length ≤ n → Only H → SqL (K w.params) H a (ns.map V.int) → sp w [.ref a] H (fun v _ => v = .bl true) fun _ _ _ => False) :
    PySem.W.WalkO q loose XP YP l.row.toRowW d [] (fun f vs => PySem.call f vs) := by
  refine Att.attach_call hn hdf fun w s₀ s₁ mg mb fa o pm cd doc a vs ns G Y _ _ _ hmg hobj hints hlen hg => ?_
  have KX := hY w _ Y
  obtain ⟨fd, hb, hF⟩ := F w mg fa _ KX G.T.g hmg
  exact law_callG KX G.T.g G.T.b G.T.builtins G.T.nolimit hg hobj hints (Nat.le_trans hlen hn2) hr hF hb fun H hO hS => hsp w H a ns hlen hO hS
end UL
set_option Elab.async false
set_option linter.all false
set_option maxRecDepth 100000
set_option maxHeartbeats 4000000
namespace UL
open PySem PySem.Spec PyProof.Rows L2
/-! ### what a caller knows of a def, a method, a property, a class's maker: its promise, nothing else -/
section
variable (P : Program) (w : World) (K : PySem.W.Frag) (mg : Str → Option Value) (base : Heap)
/-- the module's def x keeps sp, at level k -/
def Cal (k : Nat) (x : Str) (sp : Sp) : Prop := ∃ f fd ps, FnOk P w K mg base CX0 k f fd ps sp ∧ PySem.W.keepIn K (.ref f) = true ∧ Binds K fd ps [] ∧ mg x = some (.ref f)
def CalG (k : Nat) (x : Str) (sp : Sp) : Prop := ∃ f fd ps, FnG P w K mg base k f fd ps sp ∧ PySem.W.keepIn K (.ref f) = true ∧ Binds K fd ps [] ∧ mg x = some (.ref f)
/-- the method m of the class at C -/
def CalM (k : Nat) (C : Addr) (m : Str) (sp : Sp) : Prop := ∃ f fd ps, FnOk P w K mg base CX0 k f fd ps sp ∧ Cls K C ∧ Meth K C m f ∧ Binds K fd ps []
/-- .. called with the keywords ks, no positional arguments but self -/
def CalMK (k : Nat) (C : Addr) (m : Str) (ks : List Str) (gV : List V → List V → List V) (sp : Sp) : Prop := ∃ f fd ps g, FnOk P w K mg base CX0 k f fd ps sp ∧ Cls K C ∧ Meth K C m f ∧ KBn K fd ps 1 ks g gV
/-- the property m of the class at C -/
def CalP (k : Nat) (C : Addr) (m : Str) (sp : Sp) : Prop := ∃ p f fd ps, FnOk P w K mg base CX0 k f fd ps sp ∧ Cls K C ∧ PropOf K C m p f ∧ Binds K fd ps []
/-- the class x, at C, made by its __init__, the defaults dvs behind what is written -/
def Mak (k : Nat) (x : Str) (C : Addr) (dvs : List V) (sp : Sp) : Prop := ∃ f fd ps ds, FnOk P w K mg base CX0 k f fd ps sp ∧ Mk K C f ∧ mg x = some (.ref C) ∧ Binds K fd ps ds ∧ Vals dvs ds
/-- .. with the keywords ks alone -/
def MakK (k : Nat) (x : Str) (C : Addr) (ks : List Str) (gV : List V → List V → List V) (sp : Sp) : Prop := ∃ f fd ps g, FnOk P w K mg base CX0 k f fd ps sp ∧ Mk K C f ∧ mg x = some (.ref C) ∧ KBn K fd ps 1 ks g gV
/-- the special method m of the class at C, asked by an operator or a built-in -/
def CalS (k : Nat) (C : Addr) (m : Str) (sp : Sp) : Prop := ∃ f, FnR P w K mg base CX0 k f sp ∧ PySem.W.findIn K (.ref C) m = some (some (.ref f)) ∧ PySem.W.isFn K (.ref f) = true
/-- the static method m of the class x at C -/
def CalT (k : Nat) (C : Addr) (m : Str) (sp : Sp) : Prop := ∃ p f fd ps mc, FnOk P w K mg base CX0 k f fd ps sp ∧ SMet K C mc m p f ∧ Binds K fd ps []
def CalTK (k : Nat) (C : Addr) (m : Str) (ks : List Str) (gV : List V → List V → List V) (sp : Sp) : Prop := ∃ p f fd ps mc g, FnOk P w K mg base CX0 k f fd ps sp ∧ SMet K C mc m p f ∧ KBn K fd ps 0 ks g gV
end
section
variable {X : Cx} {k j : Nat} {x m : Str} {C : Addr} {sp : Sp} {dvs : List V} {e o : Expr} {es : List Expr} {kws : List Keyword} {ks : List Str} {gV : List V → List V → List V} {t tk : TA} {ta : TE} {p pos apos : Pos}
theorem pe_c (c : Cal X.prog X.w X.K X.mg X.base k x sp) (hr : Room j X.A) (hk : k ≤ j) (hg : Gl X x) (ha : PA X (e :: es) t) (hdb : (x == ("__debug__" : Str)) = false := by decide)
    (he : starEach (e :: es) X.env = (false, eval e X.env) :: starEach es X.env := by rfl) (hpl : (backTo pos (starEach es X.env)).any (·.1) = false := by rfl) : PE X (.Call (.Name x p) (e :: es) [] pos) (tCall sp [] E0 t) := by
  obtain ⟨f, fd, ps, F, kp, b, g⟩ := c
  exact pe_call F (hr.mono hk) hg g kp b .nil pass0 ha hdb he hpl
theorem pe_cG (hgd : X.A.guards = some []) (c : CalG X.prog X.w X.K X.mg X.base k x sp) (hr : Room j X.A) (hk : k ≤ j) (hg : Gl X x) (ha : PA X (e :: es) t) (hdb : (x == ("__debug__" : Str)) = false := by decide)
    (he : starEach (e :: es) X.env = (false, eval e X.env) :: starEach es X.env := by rfl) (hpl : (backTo pos (starEach es X.env)).any (·.1) = false := by rfl) : PE X (.Call (.Name x p) (e :: es) [] pos) (tCall sp [] E0 t) := by
  obtain ⟨f, fd, ps, F, kp, b, g⟩ := c
  exact pe_callG hgd F (hr.mono hk) hg g kp b .nil pass0 ha hdb he hpl
theorem pe_m {pl : Sem Bool} (he : PE X o ta) (c : CalM X.prog X.w X.K X.mg X.base k C m sp) (hr : Room j X.A) (hk : k ≤ j) (ha : PA X (e :: es) t)
    (hst : starEach (e :: es) X.env = (false, eval e X.env) :: starEach es X.env := by rfl) (hpl : (backTo pos (starEach es X.env)).any (·.1) = false := by rfl)
    (ht : eval (.Call (.Attribute o m apos) (e :: es) [] pos) X.env = (do
      let ov ← eval o X.env
      standAt apos.atName
      let (fv, fi) ← holding [ov] (getMethod ov m pl)
      callWith pos fv fi (backTo pos (starEach (e :: es) X.env)) (backToKw pos (keywordEach [] X.env))) := by rfl) :
    PE X (.Call (.Attribute o m apos) (e :: es) [] pos) (tMeth C m sp [] E0 ta t) := by
  obtain ⟨f, fd, ps, F, cl, mt, b⟩ := c
  exact pe_meth he cl mt F (hr.mono hk) b .nil pass0 ha hst hpl ht
/-- o.m(k = v, ..) -/
def tMethK (C : Addr) (m : Str) (n : Nat) (gV : List V → List V → List V) (sp : Sp) (ta : TE) (tk : TA) : TE := fun σ H Q => ta σ H fun x H1 => ∃ a dx fs, x = .ref a ∧ H1 a = some (.ins C dx fs) ∧ fs.lookup m = none ∧ tk σ H1 fun zs H2 => zs.length = n ∧ sp (gV [x] zs) H2 Q E0
theorem pe_mK {pl : Sem Bool} (he : PE X o ta) (c : CalMK X.prog X.w X.K X.mg X.base k C m ks gV sp) (hr : Room j X.A) (hk : k ≤ j) (hkw : PK X kws tk)
    (hall : (backToKw pos (keywordEach kws X.env)).all (·.1.isSome) = true := by rfl) (hks : (backToKw pos (keywordEach kws X.env)).filterMap (·.1) = ks := by rfl)
    (hpl : ((backTo pos (starEach [] X.env)).any (·.1) || (backToKw pos (keywordEach kws X.env)).any (·.1.isNone)) = false := by rfl)
    (ht : eval (.Call (.Attribute o m apos) [] kws pos) X.env = (do
      let ov ← eval o X.env
      standAt apos.atName
      let (fv, fi) ← holding [ov] (getMethod ov m pl)
      callWith pos fv fi (backTo pos (starEach [] X.env)) (backToKw pos (keywordEach kws X.env))) := by rfl) :
    PE X (.Call (.Attribute o m apos) [] kws pos) (tMethK C m ks.length gV sp ta tk) := by
  obtain ⟨f, fd, ps, g, F, cl, mt, b⟩ := c
  refine ⟨fun pins s σ H Q I h => ?_⟩
  refine PySem.W.methodCall_KW (pl := pl) (thn (he.run pins s σ H _ I h) fun u s1 ⟨x, H1, I1, rx, a, dx, fs, ex, ea, l, q⟩ => ?_) ht
  subst ex
  obtain rfl : u = Value.ref a := rx
  refine getmeth_ok I1 ea cl mt l ?_
  refine PySem.W.callWith_KW0 (first := [.ref a]) (h₀ := X.base) I.ok.mod.kin mt.kp hall ?_ hpl
  refine thn (hkw.run pos pins s1 σ H1 _ I1 q) fun ws s3 ⟨zs, H2, I3, rz, l2, q2⟩ => ⟨I3.kIn, ?_⟩
  rw [hks]
  exact run_fnN (us := [.ref a]) (vs := [.ref a]) F (hr.mono hk) b pass0 I3 (.cons rfl .nil) rz rfl l2 q2
theorem pe_p (he : PE X o ta) (c : CalP X.prog X.w X.K X.mg X.base k C m sp) (hr : Room j X.A) (hk : k + 1 ≤ j) (hab : attributeBase o m X.env (eval o X.env) = eval o X.env) : PE X (.Attribute o m pos) (tProp C sp [] E0 ta) := by
  obtain ⟨q, f, fd, ps, F, cl, pr, b⟩ := c
  exact pe_prop he cl pr F (hr.mono hk) b .nil pass0 hab
theorem pe_n (c : Mak X.prog X.w X.K X.mg X.base k x C dvs sp) (hr : Room j X.A) (hk : k + 1 ≤ j) (hg : Gl X x) (ha : PA X (e :: es) t) (hdb : (x == ("__debug__" : Str)) = false := by decide)
    (he : starEach (e :: es) X.env = (false, eval e X.env) :: starEach es X.env := by rfl) (hpl : (backTo pos (starEach es X.env)).any (·.1) = false := by rfl) : PE X (.Call (.Name x p) (e :: es) [] pos) (tMake C sp dvs E0 t) := by
  obtain ⟨f, fd, ps, ds, F, M, g, b, v⟩ := c
  exact pe_make M F (hr.mono hk) hg g b v pass0 ha hdb he hpl
theorem pe_n0 (c : Mak X.prog X.w X.K X.mg X.base k x C dvs sp) (hr : Room j X.A) (hk : k + 1 ≤ j) (hg : Gl X x) (hdb : (x == ("__debug__" : Str)) = false := by decide) : PE X (.Call (.Name x p) [] [] pos) (tMake C sp dvs E0 tNil) := by
  obtain ⟨f, fd, ps, ds, F, M, g, b, v⟩ := c
  exact pe_make0 M F (hr.mono hk) hg g b v pass0 hdb
theorem pe_nK (c : MakK X.prog X.w X.K X.mg X.base k x C ks gV sp) (hr : Room j X.A) (hk : k + 1 ≤ j) (hg : Gl X x) (hkw : PK X kws tk)
    (hall : (backToKw pos (keywordEach kws X.env)).all (·.1.isSome) = true := by rfl) (hks : (backToKw pos (keywordEach kws X.env)).filterMap (·.1) = ks := by rfl) (hdb : (x == ("__debug__" : Str)) = false := by decide)
    (hpl : ((backTo pos (starEach [] X.env)).any (·.1) || (backToKw pos (keywordEach kws X.env)).any (·.1.isNone)) = false := by rfl) :
    PE X (.Call (.Name x p) [] kws pos) (tMakeK C 0 ks.length sp gV E0 tNil tk) := by
  obtain ⟨f, fd, ps, gg, F, M, g, b⟩ := c
  exact pe_makeK0 M F (hr.mono hk) hg g b pass0 hkw hall hks hdb hpl
theorem op_eqS (c : CalS X.prog X.w X.K X.mg X.base k C "__eq__" sp) (hr : Room j X.A) (hk : k ≤ j) : OpR X (compareOp .Eq) (rEqI X.K C sp E0) := by
  obtain ⟨f, F, h1, h2⟩ := c
  exact op_eqI h1 h2 F (hr.mono hk) pass0
theorem call_reprS (c : CalS X.prog X.w X.K X.mg X.base k C "__repr__" sp) (hr : Room j X.A) (hk : k + 1 ≤ j) : CallR X (.builtin "repr") (rShowI C sp E0) := by
  obtain ⟨f, F, h1, h2⟩ := c
  exact call_reprI h1 h2 F (hr.mono hk) pass0
theorem call_strS (c : CalS X.prog X.w X.K X.mg X.base k C "__str__" sp) (hr : Room j X.A) (hk : k + 2 ≤ j) : CallR X (.type "str") (rShowI C sp E0) := by
  obtain ⟨f, F, h1, h2⟩ := c
  exact call_strI h1 h2 F (hr.mono hk) pass0
theorem pe_t {pl : Sem Bool} (he : PE X o ta) (c : CalT X.prog X.w X.K X.mg X.base k C m sp) (hr : Room j X.A) (hk : k ≤ j) (ha : PA X (e :: es) t)
    (hst : starEach (e :: es) X.env = (false, eval e X.env) :: starEach es X.env := by rfl) (hpl : (backTo pos (starEach es X.env)).any (·.1) = false := by rfl)
    (ht : eval (.Call (.Attribute o m apos) (e :: es) [] pos) X.env = (do
      let ov ← eval o X.env
      standAt apos.atName
      let (fv, fi) ← holding [ov] (getMethod ov m pl)
      callWith pos fv fi (backTo pos (starEach (e :: es) X.env)) (backToKw pos (keywordEach [] X.env))) := by rfl) :
    PE X (.Call (.Attribute o m apos) (e :: es) [] pos) (tSMeth C sp [] E0 ta t) := by
  obtain ⟨q, f, fd, ps, mc, F, s, b⟩ := c
  exact pe_smeth he s F (hr.mono hk) b .nil pass0 ha hst hpl ht
theorem pe_tK {pl : Sem Bool} (he : PE X o ta) (c : CalTK X.prog X.w X.K X.mg X.base k C m ks gV sp) (hr : Room j X.A) (hk : k ≤ j) (hkw : PK X kws tk)
    (hall : (backToKw pos (keywordEach kws X.env)).all (·.1.isSome) = true := by rfl) (hks : (backToKw pos (keywordEach kws X.env)).filterMap (·.1) = ks := by rfl)
    (hpl : ((backTo pos (starEach [] X.env)).any (·.1) || (backToKw pos (keywordEach kws X.env)).any (·.1.isNone)) = false := by rfl)
    (ht : eval (.Call (.Attribute o m apos) [] kws pos) X.env = (do
      let ov ← eval o X.env
      standAt apos.atName
      let (fv, fi) ← holding [ov] (getMethod ov m pl)
      callWith pos fv fi (backTo pos (starEach [] X.env)) (backToKw pos (keywordEach kws X.env))) := by rfl) :
    PE X (.Call (.Attribute o m apos) [] kws pos) (tSMethK C ks.length sp gV E0 ta tk) := by
  obtain ⟨q, f, fd, ps, mc, g, F, s, b⟩ := c
  exact pe_smethK he s F (hr.mono hk) b pass0 hkw hall hks hpl ht
end
end UL
set_option Elab.async false
set_option linter.all false
set_option maxRecDepth 100000
set_option maxHeartbeats 4000000
namespace UL
open PySem L2
/-! ### small facts of numbers, texts, lists -/
theorem log_small {i : Int} (h : i.natAbs < 2 ^ 64) : i.natAbs.log2 < 1920 := by
  by_cases c : i.natAbs = 0
  · rw [c]
    decide
  · exact Nat.lt_of_lt_of_le ((Nat.log2_lt c).mpr h) (by decide)
theorem eqV_self_str (x : Str) : eqV (.str x) (.str x) = true := by simp [eqV]
theorem eqV_self_int (x : Int) : eqV (.int x) (.int x) = true := by simp [eqV]
theorem inV_mem {v : V} {xs : List V} (h : v ∈ xs) (e : eqV v v = true) : inV v xs = true := List.any_eq_true.mpr ⟨v, h, e⟩
theorem line_ge {n : Nat} (h : n ≤ 16000000) : n ≤ sizeLine := by
  rw [sizeLine_eq]
  omega
theorem line_gt {n : Nat} (h : n ≤ 16000000) : n < sizeLine := by
  rw [sizeLine_eq]
  omega
end UL
set_option Elab.async false
set_option linter.all false
set_option maxRecDepth 100000
set_option maxHeartbeats 4000000
namespace UL
open PySem L2
/-! ### data: shapes, equality -/
theorem shaped_of {d : PyData} (h : d.canLay0 = true) (g : d.depth ≤ 64) : SeqAt.shaped d = true := by
  show (d.canLay0 && decide (d.depth ≤ 64)) = true
  rw [h, decide_eq_true g]
  rfl
theorem lay_all : ∀ {ds : List PyData}, (∀ d ∈ ds, d.canLay0 = true) → PyData.canLayAll0 ds = true
  | [], _ => by simp [PyData.canLayAll0]
  | d :: ds, h => by simp [PyData.canLayAll0, h d List.mem_cons_self, lay_all fun e he => h e (List.mem_cons_of_mem _ he)]
theorem depth_all {k : Nat} : ∀ {ds : List PyData}, (∀ d ∈ ds, d.depth ≤ k) → PyData.depthAll ds ≤ k
  | [], _ => by simp [PyData.depthAll]
  | d :: ds, h => by
    simp only [PyData.depthAll]
    have h1 := h d List.mem_cons_self
    have h2 := depth_all (ds := ds) fun e he => h e (List.mem_cons_of_mem _ he)
    omega
theorem shaped_list {ds : List PyData} {k : Nat} (h : ∀ d ∈ ds, d.canLay0 = true) (g : ∀ d ∈ ds, d.depth ≤ k) (hk : k ≤ 60) : SeqAt.shaped (.list ds) = true :=
  shaped_of (by simpa only [PyData.canLay0] using lay_all h) (by have := depth_all g; simp only [PyData.depth]; omega)
theorem shaped_tuple {ds : List PyData} {k : Nat} (h : ∀ d ∈ ds, d.canLay0 = true) (g : ∀ d ∈ ds, d.depth ≤ k) (hk : k ≤ 60) : SeqAt.shaped (.tuple ds) = true :=
  shaped_of (by simpa only [PyData.canLay0] using lay_all h) (by have := depth_all g; simp only [PyData.depth]; omega)
/-- a pair of an int and a text, as data -/
def pairD (x : Int × Str) : PyData := .tuple [.int x.1, .str x.2]
theorem pairD_eqv (x y : Int × Str) : PyData.eqv (pairD x) (pairD y) = decide (x = y) := by
  obtain ⟨a, b⟩ := x
  obtain ⟨c, d⟩ := y
  have e : PyData.eqv (pairD (a, b)) (pairD (c, d)) = ((a == c) && ((b == d) && true)) := by simp only [pairD, PyData.eqv, PyData.eqvAll]
  rw [e]
  by_cases h1 : a = c <;> by_cases h2 : b = d <;> simp [h1, h2]
theorem pairD_depth (x : Int × Str) : (pairD x).depth ≤ 1 := by simp [pairD, PyData.depth, PyData.depthAll]
theorem pairD_lay {x : Int × Str} (h : (PyData.str x.2).canLay0 = true) : (pairD x).canLay0 = true := by
  simp only [pairD, PyData.canLay0, PyData.canLayAll0]
  simp only [PyData.canLay0] at h
  simp [h]
/-- a list of such pairs at l -/
def PairsAt (H : Hp) (l : Addr) (xs : List (Int × Str)) : Prop := ∃ ps : List Addr, H l = some (.lst (ps.map V.ref)) ∧ ps.length = xs.length ∧
  ∀ (j : Nat) (a : Addr) (x : Int × Str), ps[j]? = some a → xs[j]? = some x → H a = some (.tup [.int x.1, .str x.2])
theorem PairsAt.same {H H' : Hp} {l : Addr} {xs : List (Int × Str)} (h : PairsAt H l xs) (s : L2.Same H H') : PairsAt H' l xs := by
  obtain ⟨ps, h1, h2, h3⟩ := h
  exact ⟨ps, s _ _ h1, h2, fun j a x e1 e2 => s _ _ (h3 j a x e1 e2)⟩
theorem dpAll_at {K : PySem.W.Frag} {H : Hp} : ∀ {vs : List V} {ds : List PyData}, vs.length = ds.length → (∀ (j : Nat) v d, vs[j]? = some v → ds[j]? = some d → Dp K H v d) → DpAll K H vs ds
  | [], [], _, _ => .nil
  | v :: vs, d :: ds, hl, h => .cons (h 0 v d rfl rfl) (dpAll_at (by simpa using hl) fun j a b e1 e2 => h (j + 1) a b (by simpa using e1) (by simpa using e2))
theorem dp_pair {K : PySem.W.Frag} {H : Hp} {a : Addr} {x : Int × Str} (h : H a = some (.tup [.int x.1, .str x.2])) : Dp K H (.ref a) (pairD x) := .tup (SqT.of h) (.cons (.int _) (.cons (.str _) .nil))
theorem PairsAt.dp {K : PySem.W.Frag} {H : Hp} {l : Addr} {xs : List (Int × Str)} (h : PairsAt H l xs) : Dp K H (.ref l) (.list (xs.map pairD)) := by
  obtain ⟨ps, h1, h2, h3⟩ := h
  refine .lst (SqL.of h1) (dpAll_at (by rw [List.length_map, List.length_map, h2]) fun j v d e1 e2 => ?_)
  rw [List.getElem?_map] at e1 e2
  obtain ⟨a, ea, rfl⟩ := Option.map_eq_some_iff.mp e1
  obtain ⟨x, ex, rfl⟩ := Option.map_eq_some_iff.mp e2
  exact dp_pair (h3 j a x ea ex)
theorem any_pairs (xs : List (Int × Str)) (x : Int × Str) : ((xs.map pairD).any fun z => PyData.eqv z (pairD x)) = decide (x ∈ xs) := by
  rw [List.any_map]
  rw [Bool.eq_iff_iff, List.any_eq_true, decide_eq_true_iff]
  constructor
  · rintro ⟨y, hy, e⟩
    have e' : PyData.eqv (pairD y) (pairD x) = true := e
    rw [pairD_eqv] at e'
    rw [← of_decide_eq_true e']
    exact hy
  · intro h
    refine ⟨x, h, ?_⟩
    show PyData.eqv (pairD x) (pairD x) = true
    rw [pairD_eqv]
    exact decide_eq_true rfl
/-- ints as data -/
theorem dp_ints {K : PySem.W.Frag} {H : Hp} : ∀ ns : List Int, DpAll K H (ns.map V.int) (ns.map PyData.int)
  | [] => .nil
  | n :: ns => .cons (.int n) (dp_ints ns)
theorem dp_bls {K : PySem.W.Frag} {H : Hp} : ∀ bs : List Bool, DpAll K H (bs.map V.bl) (bs.map PyData.bool)
  | [] => .nil
  | n :: ns => .cons (.bl n) (dp_bls ns)
end UL
set_option Elab.async false
set_option linter.all false
set_option maxRecDepth 100000
set_option maxHeartbeats 4000000
namespace UL
open PySem PySem.Spec PyProof.Rows L2
/-! ### from the facts that the top has written to what a caller knows -/
section
variable {P : Program} {w : World} {K : PySem.W.Frag} {mg : Str → Option Value} {base : Heap}
/-- a def without defaults, called with the keywords ks behind n values -/
theorem Fun.kbn {x qual : Str} {st : Stmt} {f : Addr} {fd : FuncData} {ps : List Str} (F : Fun K x qual st f fd) (n : Nat) (ks : List Str) (g : {α : Type} → List α → List α → List α)
    (hrel : ∀ {vs zs : List V} {us ws : List Value}, Vals vs us → Vals zs ws → Vals (g vs zs) (g us ws))
    (h : ∀ (kV doc pm : Value) (an : Option Addr) (cdv ct : Value) (us ws : List Value), us.length = n → ws.length = ks.length → bindArgs (PySem.W.fnOf x qual (defArgs st) (defBody st) (defScope st) .none kV doc pm an cdv ct) ⟨us, ks.zip ws⟩ = pure (ps.zip (g us ws))) :
    KBn K fd ps n ks (fun us ws => g us ws) (fun vs zs => g vs zs) := by
  obtain ⟨oc, od, kV, doc, pm, an, cdv, ct, osl, rfl, lk, hcd⟩ := F.ex
  exact ⟨fun s us ws _ l1 l2 => .of_eq (h kV doc pm an cdv ct us ws l1 l2), fun r1 r2 => hrel r1 r2⟩
theorem vals_app {vs zs : List V} {us ws : List Value} (a : Vals vs us) (b : Vals zs ws) : Vals (vs ++ zs) (us ++ ws) := a.append b
theorem vals_rev {zs : List V} {ws : List Value} (b : Vals zs ws) : Vals zs.reverse ws.reverse := by
  induction b with
  | nil => exact .nil
  | cons r _ ih =>
    rw [List.reverse_cons, List.reverse_cons]
    exact ih.append (.cons r .nil)
theorem vals_apprev {vs zs : List V} {us ws : List Value} (a : Vals vs us) (b : Vals zs ws) : Vals (vs ++ zs.reverse) (us ++ ws.reverse) := a.append (vals_rev b)
/-- a built-in class and an own one -/
theorem kt_of {T : String} {C : Addr} (h1 : PySem.W.isClsIn K C = true) (h2 : PySem.W.typeIn K (.ref C) = some (.type "type")) (h3 : PySem.W.subIn K (.type T) (.ref C) = some false) :
    PySem.W.kitOne K (.type T) (.ref C) = some false ∧ PySem.W.notFirst K C (.type T) = true := by
  constructor
  · unfold PySem.W.kitOne PySem.W.kitCls
    rw [if_neg (by intro z; cases (show false = true from z))]
    dsimp only
    rw [if_pos (by rw [h2]; simp [show (PySem.W.clsIn K C).isSome = true from h1])]
    exact h3
  · unfold PySem.W.notFirst
    rw [h3]
    simp
end
end UL
set_option Elab.async false
set_option linter.all false
set_option maxRecDepth 100000
set_option maxHeartbeats 4000000
namespace PySem
open Sem (wp)
theorem UL_meets_enum1 {v : Value} {o : Obj} {H : Heap → Prop} (B : Begins v o H) :
    Meets (Builtin.«enumerate.__new__» ⟨[.type "enumerate", v], []⟩) (fun _ R s => H s.heap ∧
      R (.ok (.ret (.ref (s.heap.push o).objs.size))) { s with heap := (s.heap.push o).push { cls := .type "enumerate", data := .fields #[.none, .bool false, .ref s.heap.objs.size, rawInt 0, .none, .none] } }) :=
  .of_wp fun prog w A R s h => by
    obtain ⟨hp, g, d, tk, os⟩ := s; obtain ⟨h1, h⟩ := h
    have hsub := sub_enumerate
    have q1 : ∀ {A' : Around} {E : Value → Shared → Prop} {Q : Value → Shared → Prop}, Q (.ref hp.objs.size) ⟨hp.push o, g, d, tk, os⟩ → wpAny (model prog w) A' (pyIter v) Q E ⟨hp, g, d, tk, os⟩ :=
      fun q => B.iter prog w _ _ ⟨hp, g, d, tk, os⟩ _ h1 q
    wp_walk using q1
    refine wpAny_stack_any fun st => wpAny_pure ?_
    split
    · rename_i c _ _ _ _ _
      cases (c == Value.type "enumerate")
      · wp_walk using q1
        exact ⟨_, rfl, h⟩
      · wp_walk using q1
        exact ⟨_, rfl, h⟩
    · wp_walk using q1
      exact ⟨_, rfl, h⟩
theorem UL_enum_begins1 {prog : Program} {w : World} {A : Around} {E : Value → Shared → Prop} {s : Shared} {v : Value} {o : Obj} {H : Heap → Prop} {Q : Value → Shared → Prop} (B : Begins v o H) (h1 : H s.heap)
    (h : ∀ h', IsEnum h' (s.heap.objs.size + 1) s.heap.objs.size 0 .none → h'.get? s.heap.objs.size = some o → h'.objs.size = s.heap.objs.size + 2 →
      (∀ b o, s.heap.get? b = some o → h'.get? b = some o) → Q (.ref (s.heap.objs.size + 1)) { s with heap := h' }) :
    wpAny (model prog w) A (call (.type "enumerate") [v]) Q E s := by
  refine callType_new F.called_enumerate (by decide) (F.typeCall_enumerate_1 _) (F.newCall_enumerate_1 _) (fun obj => F.args_object_init_2 obj _) F.entry_enumerate_new
    (UL_meets_enum1 B) ⟨h1, ?_⟩
  have hz : (s.heap.push o).objs.size = s.heap.objs.size + 1 := Heap.size_push ..
  show _ ∧ _
  rw [hz]
  have he : IsEnum ((s.heap.push o).push { cls := .type "enumerate", data := .fields #[.none, .bool false, .ref s.heap.objs.size, rawInt 0, .none, .none] }) (s.heap.objs.size + 1) s.heap.objs.size 0 .none := by
    have := Heap.get?_push_size (s.heap.push o) (o := { cls := .type "enumerate", data := .fields #[.none, .bool false, .ref s.heap.objs.size, rawInt 0, .none, .none] }) rfl
    rw [hz] at this; exact this
  refine ⟨⟨_, he, rfl⟩, h _ he (Heap.get?_push_of_some _ (Heap.get?_push_size _ B.free)) (by rw [Heap.size_push, hz]) fun b o x => Heap.get?_push_of_some _ (Heap.get?_push_of_some _ x)⟩
end PySem
namespace UL
open PySem PySem.Spec PyProof.Rows L2
/-- the tuple at a, each item in a new pair -/
def Itet (K : PySem.W.Frag) (a : Addr) : It :=
  ⟨fun i H => ∃ (xs : List V) (x : V), SqT K H a xs ∧ xs[i]? = some x, fun i H v H' => ∃ T x, v = .ref T ∧ H T = none ∧ H' = upd H T (.tup [.int (i : Nat), x]) ∧ ∀ xs, SqT K H a xs → xs[i]? = some x, fun i H => ∃ xs : List V, SqT K H a xs ∧ xs.length = i⟩
theorem turn_enumT {P : Program} {w : World} {K : PySem.W.Frag} {elts : List Expr} {kk : Nat} {tpos : Pos} (a e it : Addr) :
    Turn P w K (.Tuple elts kk tpos) (Itet K a) [e, it] e (fun i h => (∃ old, IsEnum h e it ((i : Nat) : Int) old) ∧ h.IsTupleIter it a i) where
  mem := by simp
  obj := fun i h st b hb => by
    obtain ⟨⟨old, he⟩, ⟨o, ho, hc, hd⟩⟩ := st
    have e' : b = e ∨ b = it := by simpa using hb
    rcases e' with z | z
    · rw [z]; exact ⟨_, he, fun v q => nomatch q⟩
    · rw [z]; exact ⟨o, ho, fun v q => by rw [hd] at q; cases q⟩
  keep := fun i h h' st k => let ⟨⟨old, he⟩, hi⟩ := st; ⟨⟨old, k e (by simp) _ he⟩, hi.at fun o q => k it (by simp) o q⟩
  item := by
    intro X hP hw hK hc i pins s σ H E I hf st hg
    subst hP hw hK
    obtain ⟨⟨old, he⟩, hit⟩ := st
    obtain ⟨xs, x, hq, hx⟩ := hg
    obtain ⟨its, rv, p, hz⟩ := I.tuple hq
    obtain ⟨u, hu, ru⟩ := rv.get hx
    have p' : s.heap.IsTuple a its.toArray := p
    have hei : e ≠ it := fun z => by
      obtain ⟨o, ho, hc', _⟩ := hit
      rw [← z, he] at ho
      cases ho
      exact absurd (Value.type.inj hc') (by decide)
    have hai : a ≠ it := fun z => by
      obtain ⟨o, ho, hc', _⟩ := hit
      obtain ⟨o2, ho2, hc2, _⟩ := p'
      rw [z, ho] at ho2
      cases ho2
      rw [hc'] at hc2
      exact absurd (Value.type.inj hc2) (by decide)
    have hae : e ≠ a := fun z => by
      obtain ⟨o2, ho2, hc2, _⟩ := p'
      rw [← z, he] at ho2
      cases ho2
      exact absurd (Value.type.inj hc2) (by decide)
    have W := GoesN.ofWalksT (elts := elts) (k := kk) (pos := tpos) (WalksT.enumerateD (A := X.A) (Draws.tuple (prog := X.prog) (w := X.w) (A := X.A.in1) (I.ok.hd hc) it a hai its.toArray) e hei (by simp [hei, hae]) (by simp))
    have hi : i < its.toArray.size := by
      have := (List.getElem?_eq_some_iff.mp hu).1
      simpa using this
    refine W.goes i s _ E hi ⟨⟨old, he⟩, hit, p'⟩ fun v h' tk hY st' hk htk => ?_
    obtain ⟨T, vals, rfl, hT0, ⟨t, y, hy, rfl⟩, hT⟩ := hY
    obtain ⟨⟨old', he'⟩, hit', _⟩ := st'
    have ey : y = u := by
      have h1 : its[i]? = some y := by simpa using hy
      rw [hu] at h1
      exact (Option.some.inj h1).symm
    subst ey
    have new : ObjOk X.prog X.w (upd H T (.tup [.int (i : Nat), x])) h' T (.tup [.int (i : Nat), x]) :=
      ⟨by show 2 ≤ sizeLine; decide, [.int i t, y], .cons ⟨_, rfl⟩ (.cons ru .nil), hT⟩
    have hn : H T = none := I.hok.fresh hT0
    have I1 : Inv X pins σ (upd H T (.tup [.int (i : Nat), x])) { s with heap := h', toks := tk } := I.turnedNew (ch := [e, it]) (fun b ob hb q => hk b ob hb q) hf hT0 new
    refine ⟨.ref T, _, I1, rfl, ⟨T, x, rfl, hn, rfl, fun ys hy => by rw [I.tuple_inj hy hq]; exact hx⟩, ⟨⟨old', by simpa using he'⟩, hit'⟩, fun b hb => ?_⟩
    have nb : b ≠ T := fun z => by
      have e' : b = e ∨ b = it := by simpa using hb
      rcases e' with q | q
      · rw [← z, q] at hT0
        exact absurd (Heap.lt_size he) (Nat.not_lt.mpr hT0)
      · obtain ⟨o, ho, _⟩ := hit
        rw [← z, q] at hT0
        exact absurd (Heap.lt_size ho) (Nat.not_lt.mpr hT0)
    rw [upd_ne nb]
    exact (hf b hb).1
  done := by
    intro X hP hw hK hc i pins s σ H E I hf st hg
    subst hP hw hK
    obtain ⟨⟨old, he⟩, hit⟩ := st
    obtain ⟨xs, hq, hx⟩ := hg
    obtain ⟨its, rv, p, hz⟩ := I.tuple hq
    have p' : s.heap.IsTuple a its.toArray := p
    have hei : e ≠ it := fun z => by
      obtain ⟨o, ho, hc', _⟩ := hit
      rw [← z, he] at ho
      cases ho
      exact absurd (Value.type.inj hc') (by decide)
    have hai : a ≠ it := fun z => by
      obtain ⟨o, ho, hc', _⟩ := hit
      obtain ⟨o2, ho2, hc2, _⟩ := p'
      rw [z, ho] at ho2
      cases ho2
      rw [hc'] at hc2
      exact absurd (Value.type.inj hc2) (by decide)
    have hae : e ≠ a := fun z => by
      obtain ⟨o2, ho2, hc2, _⟩ := p'
      rw [← z, he] at ho2
      cases ho2
      exact absurd (Value.type.inj hc2) (by decide)
    have hn : i = its.toArray.size := by rw [List.size_toArray, ← rv.length]; exact hx.symm
    subst hn
    obtain ⟨f0, f1, f2, f3, f4, f5⟩ := hf it (by simp)
    exact wpAny_pyNext_enum_endD (Draws.tuple (prog := X.prog) (w := X.w) (A := X.A.in1) (I.ok.hd hc) it a hai its.toArray) he ⟨hit, p'⟩ fun h' eb => ⟨rfl, I.turned (t' := s.toks) (fun b o hb q => eb b o hb q) f0 f1 f3 f4 f5⟩
  self := fun A i s Q E st h => let ⟨⟨_, he⟩, _⟩ := st; wpAny_pyIter_enum he h
def iEnumT (K : PySem.W.Frag) (ta : TA) : TI := fun σ H R => ta σ H fun vs H1 => ∃ a xs, vs = [.ref a] ∧ ((SqL K H1 a xs ∧ R (Ite K a) H1) ∨ (SqT K H1 a xs ∧ R (Itet K a) H1))
/-- enumerate(x), x a list or a tuple -/
theorem pi_enumT {X : Cx} {e : Expr} {ta : TA} {p pos tpos : Pos} {elts : List Expr} {kk : Nat} (hg : Gl X "enumerate") (hm : X.mg "enumerate" = none) (ha : PA X [e] ta) (hs : starEach [e] X.env = [(false, eval e X.env)] := by rfl) :
    PI X (.Tuple elts kk tpos) (.Call (.Name "enumerate" p) [e] [] pos) (iEnumT X.K ta) := by
  refine ⟨fun pins s σ H R I h => ?_⟩
  refine Call_ (ld_blt I hg hm boot_enumerate (PyProof.Rows.callWith_type1 (thn (ha.run pos pins s σ H _ I h) fun us s1 ⟨vs, H1, I1, r1, q1⟩ => ?_) hs rfl))
  obtain ⟨a, xs, ex, q1⟩ := q1
  subst ex
  cases r1 with
  | cons r rr =>
    cases rr
    cases r
    have hfp : ∀ b ∈ [s1.heap.objs.size + 1, s1.heap.objs.size], s1.heap.objs.size ≤ b := fun b hb => by
      have e' : b = s1.heap.objs.size + 1 ∨ b = s1.heap.objs.size := by simpa using hb
      rcases e' with z | z
      · rw [z]; exact Nat.le_add_right _ _
      · rw [z]; exact Nat.le_refl _
    rcases q1 with ⟨hq, q⟩ | ⟨hq, q⟩
    · obtain ⟨its, rv, p', hz⟩ := I1.list hq
      refine call_enumerate_list p'.isList fun h' he hit hsz hk => wpAny_pyIter_enum he ?_
      have I2 : Inv X pins σ H1 { s1 with heap := h' } := I1.kept (t' := s1.toks) hk
      exact ⟨s1.heap.objs.size + 1, [s1.heap.objs.size + 1, s1.heap.objs.size], _, _, H1, rfl, I2, turn_enum a (s1.heap.objs.size + 1) s1.heap.objs.size, ⟨⟨.none, he⟩, hit, Nat.succ_ne_self _⟩, fun b hb => I1.fpOk (hfp b hb) (I1.hok.fresh (hfp b hb)), q⟩
    · obtain ⟨its, rv, p', hz⟩ := I1.tuple hq
      refine UL_enum_begins1 (begins_tuple a its.toArray) p' fun h' he hit hsz hk => wpAny_pyIter_enum he ?_
      have I2 : Inv X pins σ H1 { s1 with heap := h' } := I1.kept (t' := s1.toks) hk
      exact ⟨s1.heap.objs.size + 1, [s1.heap.objs.size + 1, s1.heap.objs.size], _, _, H1, rfl, I2, turn_enumT a (s1.heap.objs.size + 1) s1.heap.objs.size, ⟨⟨.none, he⟩, ⟨_, hit, rfl, rfl⟩⟩, fun b hb => I1.fpOk (hfp b hb) (I1.hok.fresh (hfp b hb)), q⟩
/-- the walk of such a loop: the pairs are new -/
theorem for_enumT {K : PySem.W.Frag} {a : Addr} {xs : List V} {g : TG} {tb : TS} {D : Ends} {σ : L2.St} {H : Hp} (Pv : Nat → L2.St → Hp → Prop) (h0 : Pv 0 σ H) (hl : ∀ i σ H, i ≤ xs.length → Pv i σ H → SqT K H a xs)
    (hs : ∀ i x σ H T, xs[i]? = some x → Pv i σ H → H T = none → g (.ref T) σ (upd H T (.tup [.int (i : Nat), x])) fun σ2 H2 => tb { D with nx := Pv (i + 1), ct := Pv (i + 1), bk := D.nx } σ2 H2) (hd : ∀ σ H, Pv xs.length σ H → D.nx σ H) :
    ∃ W : Nat → Nat → L2.St → Hp → Prop, (∃ m, W 0 m σ H) ∧ ∀ i m σ H, W i m σ H →
      ((Itet K a).stop i H ∧ D.nx σ H) ∨ ((Itet K a).go i H ∧ ∃ N : L2.St → Hp → Prop, (∀ σ' H', N σ' H' → ∃ m', m' < m ∧ W (i + 1) m' σ' H') ∧ ∀ x H', (Itet K a).yld i H x H' → g x σ H' fun σ2 H2 => tb { D with nx := N, ct := N, bk := D.nx } σ2 H2) := by
  refine ⟨fun i m σ H => m = xs.length - i ∧ i ≤ xs.length ∧ Pv i σ H, ⟨xs.length, by simp, Nat.zero_le _, h0⟩, ?_⟩
  rintro i m σ H ⟨rfl, hi, p⟩
  have q := hl i σ H hi p
  by_cases hlt : i < xs.length
  · refine .inr ⟨⟨xs, xs[i], q, by simp [hlt]⟩, Pv (i + 1), fun σ' H' p' => ⟨xs.length - (i + 1), by omega, rfl, hlt, p'⟩, fun v H' y => ?_⟩
    obtain ⟨T, x, rfl, hT, rfl, hy⟩ := y
    exact hs i x σ H T (hy xs q) p hT
  · have e : i = xs.length := by omega
    subst e
    exact .inl ⟨⟨xs, q, rfl⟩, hd σ H p⟩
/-- the same over a list -/
theorem for_enumL {K : PySem.W.Frag} {a : Addr} {xs : List V} {g : TG} {tb : TS} {D : Ends} {σ : L2.St} {H : Hp} (Pv : Nat → L2.St → Hp → Prop) (h0 : Pv 0 σ H) (hl : ∀ i σ H, i ≤ xs.length → Pv i σ H → SqL K H a xs)
    (hs : ∀ i x σ H T, xs[i]? = some x → Pv i σ H → H T = none → g (.ref T) σ (upd H T (.tup [.int (i : Nat), x])) fun σ2 H2 => tb { D with nx := Pv (i + 1), ct := Pv (i + 1), bk := D.nx } σ2 H2) (hd : ∀ σ H, Pv xs.length σ H → D.nx σ H) :
    ∃ W : Nat → Nat → L2.St → Hp → Prop, (∃ m, W 0 m σ H) ∧ ∀ i m σ H, W i m σ H →
      ((Ite K a).stop i H ∧ D.nx σ H) ∨ ((Ite K a).go i H ∧ ∃ N : L2.St → Hp → Prop, (∀ σ' H', N σ' H' → ∃ m', m' < m ∧ W (i + 1) m' σ' H') ∧ ∀ x H', (Ite K a).yld i H x H' → g x σ H' fun σ2 H2 => tb { D with nx := N, ct := N, bk := D.nx } σ2 H2) := by
  refine ⟨fun i m σ H => m = xs.length - i ∧ i ≤ xs.length ∧ Pv i σ H, ⟨xs.length, by simp, Nat.zero_le _, h0⟩, ?_⟩
  rintro i m σ H ⟨rfl, hi, p⟩
  have q := hl i σ H hi p
  by_cases hlt : i < xs.length
  · refine .inr ⟨⟨xs, xs[i], q, by simp [hlt]⟩, Pv (i + 1), fun σ' H' p' => ⟨xs.length - (i + 1), by omega, rfl, hlt, p'⟩, fun v H' y => ?_⟩
    obtain ⟨T, x, rfl, hT, rfl, hy⟩ := y
    exact hs i x σ H T (hy xs q) p hT
  · have e : i = xs.length := by omega
    subst e
    exact .inl ⟨⟨xs, q, Nat.le_refl _⟩, hd σ H p⟩
end UL
set_option Elab.async false
set_option linter.all false
set_option maxRecDepth 100000
set_option maxHeartbeats 4000000
namespace UL
open PySem PySem.Spec PyProof.Rows L2
open PySem.W (Looks Frag findIn clsIn InstAt)
/-! ### own + -/
section
variable {prog : Program} {w : World} {A : Around} {E : Value → Shared → Prop} {s : Shared} {K : Frag} {x C D f : Addr} {ox : Obj} {od : Option Obj}
/-- a class of its own that says nothing of the operator -/
theorem fillsNo {M : Model} {h : Heap} {nm : String} {cd : ClassData} (X : K.In h) (hc : clsIn K C = some cd) (hm : cd.mro = [.ref C, .type "object"]) (h1 : findIn K (.ref C) (PySem.dunder nm) = some none) (h2 : findIn K (.ref C) (dunderR nm) = some none)
    (o1 : findIn K (.type "object") (PySem.dunder nm) = some none) (o2 : findIn K (.type "object") (dunderR nm) = some none) : Looks M h (fillsNumberSlot (.ref C) nm) false := by
  intro A Q E s k q
  unfold fillsNumberSlot
  refine wpAny_bind ((PySem.W.looks_clsIn X hc).andThen (f := fun cd => pure cd.mro) .now A _ E s k ?_)
  rw [hm, List.anyM_cons]
  refine wpAny_bind ?_
  show wpAny M A (List.anyM _ [PySem.dunder nm, dunderR nm]) _ _ _
  rw [List.anyM_cons]
  refine wpAny_bind (wpAny_bind (PySem.W.looks_findIn X h1 A _ E s k ?_))
  dsimp only
  refine wpAny_pure ?_
  rw [if_neg Bool.false_ne_true, List.anyM_cons]
  refine wpAny_bind (wpAny_bind (PySem.W.looks_findIn X h2 A _ E s k ?_))
  dsimp only
  refine wpAny_pure ?_
  rw [if_neg Bool.false_ne_true]
  show wpAny M A (pure false) _ _ _
  refine wpAny_pure ?_
  rw [if_neg Bool.false_ne_true, List.anyM_cons]
  refine wpAny_bind ?_
  refine wpAny_bind (PySem.W.looks_findIn X o1 A _ E s k ?_)
  refine wpAny_bind (PySem.W.looks_findIn X o2 A _ E s k ?_)
  refine wpAny_pure ?_
  show wpAny M A (if (false : Bool) = true then _ else _) _ _ _
  rw [if_neg Bool.false_ne_true]
  exact wpAny_pure q
theorem fillsI_no {M : Model} {h : Heap} {nm : String} {add : Bool} {cd : ClassData} (X : K.In h) (hc : clsIn K C = some cd) (hm : cd.mro = [.ref C, .type "object"]) (h1 : findIn K (.ref C) (dunderI nm) = some none)
    (o1 : findIn K (.type "object") (dunderI nm) = some none) : Looks M h (fillsInplaceSlot (.ref C) nm add) false := by
  intro A Q E s k q
  unfold fillsInplaceSlot
  refine wpAny_bind ((PySem.W.looks_clsIn X hc).andThen (f := fun cd => pure cd.mro) .now A _ E s k ?_)
  rw [hm, List.anyM_cons]
  refine wpAny_bind (wpAny_bind (PySem.W.looks_findIn X h1 A _ E s k ?_))
  dsimp only
  refine wpAny_pure ?_
  rw [if_neg Bool.false_ne_true, List.anyM_cons]
  refine wpAny_bind (wpAny_bind (PySem.W.looks_findIn X o1 A _ E s k ?_))
  dsimp only
  refine wpAny_pure ?_
  rw [if_neg Bool.false_ne_true]
  exact wpAny_pure q
/-- what the right one must be: of the same class, or of one without the operator -/
structure OpCls (K : Frag) (C : Addr) (nm : String) : Prop where
  sf : PySem.W.selfFirst K C = true
  no : ∃ cd, clsIn K C = some cd ∧ cd.mro = [.ref C, .type "object"]
structure NoOp (K : Frag) (D : Addr) (nm : String) : Prop where
  no : ∃ cd, clsIn K D = some cd ∧ cd.mro = [.ref D, .type "object"]
  h1 : findIn K (.ref D) (PySem.dunder nm) = some none
  h2 : findIn K (.ref D) (dunderR nm) = some none
  o1 : findIn K (.type "object") (PySem.dunder nm) = some none
  o2 : findIn K (.type "object") (dunderR nm) = some none
theorem bin1_own {nm : String} {b : Value} {tb : Value} {Q : Option Value → Shared → Prop} (X : K.In s.heap) (I : InstAt s.heap x ox C od) (hb : Looks (model prog w) s.heap (typeOf b) tb) (hc : PySem.W.selfFirst K C = true)
    (hr : tb = .ref C ∨ ∃ D, tb = .ref D ∧ NoOp K D nm) (hs : findIn K (.ref C) (PySem.dunder nm) = some (some (.ref f))) (hf : PySem.W.isFn K (.ref f) = true)
    (h : wpAny (model prog w) A (call (.ref f) [.ref x, b]) (PySem.W.CmpBack fun v => Q (some v)) E s) : wpAny (model prog w) A (binaryOp1 nm (.ref x) b) Q E s := by
  obtain ⟨cd, rest, hcd, hm⟩ := PySem.W.ksp_first hc
  have one := PySem.W.ksp_try X I hs hf h
  have hfill := PySem.W.fills_K (M := model prog w) (nm := nm) X hcd hm hs
  have fin : ∀ {v' : Value} {s' : Shared}, Q (some v') s' → wpAny (model prog w) A (pure (some v')) Q E s' := fun q => wpAny_pure q
  unfold binaryOp1
  refine wpAny_bind (I.type.here (wpAny_bind (hb.here (wpAny_bind (hfill.here ?_)))))
  have tail : wpAny (model prog w) A (tryMethod (.ref x) (PySem.dunder nm) b) (fun r s' => ∃ v, r = some v ∧ Q (some v) s') E s := one
  by_cases e : tb = .ref C
  · subst e
    simp only [beq_self_eq_true, if_true]
    refine wpAny_bind (wpAny_pure ?_)
    simp only [Bool.and_false, Bool.false_eq_true, if_false, Bool.false_and]
    refine wpAny_bind (wpAny_pure ?_)
    simp only [Bool.false_eq_true, if_false]
    refine wpAny_bind (m := tryMethod (.ref x) _ b) (wpAny_mono tail (fun r s' ⟨v, hv, q⟩ => ?_) fun _ _ e => e)
    subst hv
    exact wpAny_pure q
  · rcases hr with e' | ⟨D, rfl, nd⟩
    · exact absurd e' e
    · have hne : (Value.ref C == Value.ref D) = false := Bool.eq_false_iff.mpr fun q => e (beq_iff_eq.mp q).symm
      obtain ⟨cd', hc', hm'⟩ := nd.no
      simp only [hne, Bool.false_eq_true, if_false]
      refine wpAny_bind ((fillsNo X hc' hm' nd.h1 nd.h2 nd.o1 nd.o2).here ?_)
      simp only [Bool.and_false, Bool.false_eq_true, if_false, Bool.false_and]
      refine wpAny_bind (wpAny_pure ?_)
      simp only [Bool.false_eq_true, if_false]
      refine wpAny_bind (m := tryMethod (.ref x) _ b) (wpAny_mono tail (fun r s' ⟨v, hv, q⟩ => ?_) fun _ _ e => e)
      subst hv
      exact wpAny_pure q
theorem du_add : PySem.dunder "add" = ("__add__" : Str) := by decide +kernel
theorem di_add : dunderI "add" = ("__iadd__" : Str) := by decide +kernel
theorem binop_own {b tb : Value} {Q : Value → Shared → Prop} (X : K.In s.heap) (I : InstAt s.heap x ox C od) (hb : Looks (model prog w) s.heap (typeOf b) tb) (hc : PySem.W.selfFirst K C = true)
    (hr : tb = .ref C ∨ ∃ D, tb = .ref D ∧ NoOp K D "add") (hs : findIn K (.ref C) "__add__" = some (some (.ref f))) (hf : PySem.W.isFn K (.ref f) = true)
    (h : wpAny (model prog w) A (call (.ref f) [.ref x, b]) (PySem.W.CmpBack Q) E s) : wpAny (model prog w) A (binaryOp .Add (.ref x) b) Q E s := by
  unfold binaryOp
  refine wpAny_holding (wpAny_bind (bin1_own (nm := "add") X I hb hc hr (by rw [du_add]; exact hs) hf (wpAny_mono h (fun v s' z => ?_) fun _ _ e => e)))
  cases v <;> first | exact z.elim | exact wpAny_pure z
theorem inop_own {b tb : Value} {Q : Value → Shared → Prop} (X : K.In s.heap) (I : InstAt s.heap x ox C od) (hb : Looks (model prog w) s.heap (typeOf b) tb) (hc : PySem.W.selfFirst K C = true) {cd : ClassData} (hcd : clsIn K C = some cd) (hm : cd.mro = [.ref C, .type "object"])
    (hi : findIn K (.ref C) "__iadd__" = some none) (oi : findIn K (.type "object") "__iadd__" = some none)
    (hr : tb = .ref C ∨ ∃ D, tb = .ref D ∧ NoOp K D "add") (hs : findIn K (.ref C) "__add__" = some (some (.ref f))) (hf : PySem.W.isFn K (.ref f) = true)
    (h : wpAny (model prog w) A (call (.ref f) [.ref x, b]) (PySem.W.CmpBack Q) E s) : wpAny (model prog w) A (inplaceOp .Add (.ref x) b) Q E s := by
  unfold inplaceOp
  refine wpAny_holding (wpAny_bind (I.type.here (wpAny_bind ((fillsI_no (nm := "add") X hcd hm (by rw [di_add]; exact hi) (by rw [di_add]; exact oi)).here ?_))))
  simp only [Bool.false_eq_true, if_false]
  refine wpAny_bind (bin1_own (nm := "add") X I hb hc hr (by rw [du_add]; exact hs) hf (wpAny_mono h (fun v s' z => ?_) fun _ _ e => e))
  cases v <;> first | exact z.elim | exact wpAny_pure z
end
/-! ### as rules -/
section
variable {X : Cx} {CX : CXT} {C g : Addr} {n : Nat} {sp : Sp} {E : XK}
/-- x + y by the def at g -/
def rOpO (K : PySem.W.Frag) (C : Addr) (nm : String) (sp : Sp) (E : XK) : R2 := fun x y H Q => ∃ (a dx : Addr) (fs : List (Str × V)) (t : Value), x = .ref a ∧ H a = some (.ins C dx fs) ∧ TyX K H y t ∧ (t = .ref C ∨ ∃ D, t = .ref D ∧ NoOp K D nm) ∧ sp [x, y] H Q E
theorem op_addO (hc : PySem.W.selfFirst X.K C = true) (hs : PySem.W.findIn X.K (.ref C) "__add__" = some (some (.ref g))) (hf : PySem.W.isFn X.K (.ref g) = true) (F : FnR X.prog X.w X.K X.mg X.base CX n g sp) (hr : Room n X.A) (hx : Passes CX X E) :
    OpR X (binaryOp .Add) (rOpO X.K C "add" sp E) := by
  intro pins s σ H x y v u Q I rx ry h
  obtain ⟨a, dx, fs, t, rfl, ha, ty, hn, q⟩ := h
  cases (show v = Value.ref a from rx)
  obtain ⟨mA, O, _⟩ := ins_get I.hok ha
  obtain ⟨od, J, _⟩ := O.look
  obtain ⟨Pk, Z, pk, _⟩ := kit_of I ry ty
  refine binop_own I.kIn J (Z.ty _ _ I.kIn pk) hc hn hs hf ?_
  refine wpAny_mono (wpAny_call (run_fnR (us := [.ref a, u]) (vs := [.ref a, y]) F hr hx I (.cons rfl (.cons ry .nil)) q)) (fun r s' z => ?_) fun _ _ e => e
  obtain ⟨z', H', I', rz, qz⟩ := z
  exact SlX.cmpback rz ⟨z', H', I', rz, qz⟩
theorem iop_addO (hc : PySem.W.selfFirst X.K C = true) (ho : ∃ cd, clsIn X.K C = some cd ∧ cd.mro = [.ref C, .type "object"]) (hi : findIn X.K (.ref C) "__iadd__" = some none) (oi : findIn X.K (.type "object") "__iadd__" = some none)
    (hs : PySem.W.findIn X.K (.ref C) "__add__" = some (some (.ref g))) (hf : PySem.W.isFn X.K (.ref g) = true) (F : FnR X.prog X.w X.K X.mg X.base CX n g sp) (hr : Room n X.A) (hx : Passes CX X E) :
    OpR X (inplaceOp .Add) (rOpO X.K C "add" sp E) := by
  intro pins s σ H x y v u Q I rx ry h
  obtain ⟨a, dx, fs, t, rfl, ha, ty, hn, q⟩ := h
  cases (show v = Value.ref a from rx)
  obtain ⟨cd, hcd, hm⟩ := ho
  obtain ⟨mA, O, _⟩ := ins_get I.hok ha
  obtain ⟨od, J, _⟩ := O.look
  obtain ⟨Pk, Z, pk, _⟩ := kit_of I ry ty
  refine inop_own I.kIn J (Z.ty _ _ I.kIn pk) hc hcd hm hi oi hn hs hf ?_
  refine wpAny_mono (wpAny_call (run_fnR (us := [.ref a, u]) (vs := [.ref a, y]) F hr hx I (.cons rfl (.cons ry .nil)) q)) (fun r s' z => ?_) fun _ _ e => e
  obtain ⟨z', H', I', rz, qz⟩ := z
  exact SlX.cmpback rz ⟨z', H', I', rz, qz⟩
/-- len(x) by the def at g -/
def rLenI (C : Addr) (sp : Sp) (E : XK) : List V → Hp → VK → Prop := fun xs H Q => ∃ (a dx : Addr) (fs : List (Str × V)), xs = [.ref a] ∧ H a = some (.ins C dx fs) ∧ sp [.ref a] H (fun z H' => ∃ i : Int, z = .int i ∧ 0 ≤ i ∧ i < 2 ^ 63 ∧ Q z H') E
theorem call_lenI (hs : PySem.W.findIn X.K (.ref C) "__len__" = some (some (.ref g))) (hf : PySem.W.isFn X.K (.ref g) = true) (F : FnR X.prog X.w X.K X.mg X.base CX n g sp) (hr : Room (n + 1) X.A) (hx : Passes CX X E) :
    CallR X (.builtin "len") (rLenI C sp E) := by
  intro pins s σ H xs us Q I r h
  obtain ⟨a, dx, fs, rfl, ha, q⟩ := h
  obtain ⟨u, rfl, ru⟩ := vals1 r
  cases (show u = Value.ref a from ru)
  obtain ⟨mA, O, _⟩ := ins_get I.hok ha
  obtain ⟨od, J, _⟩ := O.look
  obtain ⟨m, hF⟩ := I.fr
  refine PySem.W.len_K hF I.ok.mod.kin J hs hf (wpAny_mono (wpAny_call (SlX.run_at (us := [.ref a]) (ws := [.ref a]) F hr.in1 I.env0.in1 hx I (.cons rfl .nil) q)) (fun w s' z => ?_) fun _ _ e => e)
  obtain ⟨z', H', I', rz, i, ei, h0, h1, qz⟩ := z
  subst ei
  obtain ⟨t, rfl⟩ := (show ∃ t, w = Value.int i t from rz)
  exact ⟨⟨h0, h1⟩, .int i, H', I'.tok _, ⟨_, rfl⟩, qz⟩
end
end UL
set_option Elab.async false
set_option linter.all false
set_option maxRecDepth 100000
set_option maxHeartbeats 4000000
namespace UL
open PySem PySem.Spec PyProof.Rows L2
/-! ### an instance called with keywords -/
theorem callO_ofK {M : Model} {A : Around} {E : Value → Shared → Prop} {s : Shared} {a : Addr} {pos : Pos} {Q : Value → Shared → Prop} {args : List (Bool × Sem Value)} {keywords : List (Option Str × Sem Value)} (hplain : (args.any (·.1) || keywords.any (·.1.isNone)) = false)
    (h : wpAny M A (evalArgs (.ref a) true args keywords) (fun z s₁ => (∃ C ox od, PySem.W.InstAt s₁.heap a ox C od ∧ ox.data = .plain) ∧ wpAny M A (call (.ref a) ([] ++ z.pos) z.kw) Q E s₁) E s) : wpAny M A (callWith pos (.ref a) [] args keywords) Q E s := by
  unfold callWith
  refine wpAny_bind (wpAny_holding (wpAny_mono h (fun z s₁ h₁ => wpAny_bind (wpAny_standAt ?_)) fun _ _ y => y))
  obtain ⟨⟨C, ox, od, J, hd⟩, h₁⟩ := h₁
  have L := PySem.W.kco_keeper (M := M) J hd
  simp only [hplain]
  refine wpAny_bind (L.here ?_)
  have tail : ∀ {t : Sem Value}, wpAny M A t Q E s₁ → wpAny M A (t >>= fun r => holding [r] point >>= fun _ => pure r) Q E s₁ :=
    fun ht => wpAny_bind (wpAny_mono ht (fun r s₂ hr => wpAny_bind (wpAny_holding (wpAny_point (wpAny_pure hr)))) fun _ _ y => y)
  exact tail (wpAny_operateT h₁)
section
variable {X : Cx} {CX : CXT} {C g : Addr} {k : Nat} {fd : FuncData} {ps ks : List Str} {gg : List Value → List Value → List Value} {gV : List V → List V → List V} {sp : Sp} {E : XK} {fe : Expr} {kws : List Keyword} {pos : Pos} {tf : TE} {tk : TA}
def tCallOK (C : Addr) (n : Nat) (gV : List V → List V → List V) (sp : Sp) (E : XK) (tf : TE) (tk : TA) : TE := fun σ H Q => tf σ H fun y H1 => ∃ a, y = V.ref a ∧ tk σ H1 fun zs H2 => (∃ dx fs, H2 a = some (.ins C dx fs)) ∧ zs.length = n ∧ sp (gV [V.ref a] zs) H2 Q E
theorem pe_callOK (hf : PE X fe tf) (c : StX.CallO X.K C g) (F : FnOk X.prog X.w X.K X.mg X.base CX k g fd ps sp) (hb : KBn X.K fd ps 1 ks gg gV) (hr : Room k X.A) (hx : Passes CX X E) (hkw : PK X kws tk)
    (hall : (backToKw pos (keywordEach kws X.env)).all (·.1.isSome) = true := by rfl) (hks : (backToKw pos (keywordEach kws X.env)).filterMap (·.1) = ks := by rfl)
    (ht : eval (.Call fe [] kws pos) X.env = (do callWith pos (← eval fe X.env) [] (backTo pos (starEach [] X.env)) (backToKw pos (keywordEach kws X.env))) := by rfl)
    (hpl : ((backTo pos (starEach [] X.env)).any (·.1) || (backToKw pos (keywordEach kws X.env)).any (·.1.isNone)) = false := by rfl) : PE X (.Call fe [] kws pos) (tCallOK C ks.length gV sp E tf tk) := by
  refine ⟨fun pins s σ H Q I h => ?_⟩
  rw [ht]
  refine wpAny_bind (thn (hf.run pins s σ H _ I h) fun u s1 ⟨y, H1, I1, ry, a, ey, q⟩ => ?_)
  subst ey
  obtain rfl : u = Value.ref a := ry
  refine callO_ofK hpl (evalArgs_kw2_nil hall (thn (hkw.run pos pins s1 σ H1 _ I1 q) fun ws s2 ⟨zs, H2, I2, rz, ⟨dx, fs, hi⟩, l, q2⟩ => ?_))
  obtain ⟨ox, od, J, hd⟩ := StX.insC_at I2 (.inr ⟨dx, fs, hi⟩)
  refine ⟨⟨C, ox, od, J, hd⟩, wpAny_call (PySem.W.kco_code I2.kIn J hd c.at_ c.fn c.fi ?_)⟩
  rw [hks]
  have r1 : Vals [V.ref a] [Value.ref a] := .cons rfl .nil
  have r2 := hb.rel r1 rz
  refine codeAny_mono (F.run X.A X.stack s2 H2 ⟨[.ref a], ks.zip ws⟩ (gg [.ref a] ws) (gV [V.ref a] zs) Q E hr I2.env0 (hb.to s2 [.ref a] ws I2.kIn rfl (rz.length.symm.trans l)) r2 q2) fun r s' hq => ?_
  cases r with
  | error e => exact hx pins σ H2 s2 e s' I2 hq
  | ok fl =>
    cases fl with
    | ret u => exact I2.after hq
    | next => exact False.elim hq
    | brk => exact False.elim hq
    | cont => exact False.elim hq
end
end UL
set_option Elab.async false
set_option linter.all false
set_option maxRecDepth 100000
set_option maxHeartbeats 4000000
namespace GQ
open PySem PySem.SeqAt
open AutoSeq1 (wpAny_loadPart')
open MeetsSeq MeetsSeq2 MeetsSeq3 SeqRoads2
section
variable {prog : Program} {w : World} {A : Around} {R : Result → Shared → Prop} {E : Value → Shared → Prop} {s : Shared}
/-- two tuples of any lengths; the items' == may make objects -/
theorem tuple_eqB (l b : Addr) (items items2 : Array Value) (n n2 : Nat) (dd dd2 : Option Addr) (sl sl2 : Array (Option Value)) (e : Nat → Bool) (I : Shared → Prop)
    (turn : ∀ i (h1 : i < items.size) (h2 : i < items2.size) s, I s → wpAny (model prog w) A.in1 (eqBool items[i] items2[i]) (fun r s' => r = e i ∧ I s') (fun e s' => R (.error e) s') s)
    (fin : ∀ s, I s → R (.ok (.ret (.bool ((List.range (min items.size items2.size)).all e && items.size == items2.size)))) s) {s : Shared} (hl1 : s.heap.get? l = some { cls := .type "tuple", dict := dd, data := .seq items n, slots := sl }) (hb1 : s.heap.get? b = some { cls := .type "tuple", dict := dd2, data := .seq items2 n2, slots := sl2 }) (h : I s) :
    wpAny (model prog w) A.in1 (Builtin.«tuple.__eq__» ⟨[.ref l, .ref b], []⟩) (FinOf prog w A R) (fun e s' => R (.error e) s') s := by
  have f2 := AutoSeq1.sub_tuple_tuple
  have hZ : (items.toList.zip items2.toList).length = min items.size items2.size := by simp
  have h0 := h
  obtain ⟨hp, g, d, tk, os⟩ := s
  wp_walk using wpAny_loadPart' hl1, wpAny_loadPart' hb1, wpAny_forIn_list _ (fun rest b s' => b.1 = none ∧ I s' ∧ ∃ i, rest = (items.toList.zip items2.toList).drop i ∧
      (List.range (min items.size items2.size)).all e = ((List.range (min items.size items2.size)).drop i).all e) _
  case turn =>
    rintro ⟨y, x⟩ rest b s' ⟨hb', hI, i, hz, hR⟩
    have hlt : i < (items.toList.zip items2.toList).length := by
      rcases Nat.lt_or_ge i (items.toList.zip items2.toList).length with h' | h'
      · exact h'
      · rw [List.drop_of_length_le h'] at hz; cases hz
    have hm : i < min items.size items2.size := hZ ▸ hlt
    have h1 : i < items.size := Nat.lt_of_lt_of_le hm (Nat.min_le_left _ _)
    have h2 : i < items2.size := Nat.lt_of_lt_of_le hm (Nat.min_le_right _ _)
    rw [List.drop_eq_getElem_cons hlt] at hz
    injection hz with hyx hrest
    have hy : y = items[i] := by have := congrArg Prod.fst hyx; simpa using this
    have hx : x = items2[i] := by have := congrArg Prod.snd hyx; simpa using this
    subst hy hx
    have hd : (List.range (min items.size items2.size)).drop i = i :: (List.range (min items.size items2.size)).drop (i + 1) := by simp [List.drop_eq_getElem_cons, hm]
    rw [hd, List.all_cons] at hR
    refine wpAny_bind (wpAny_mono (turn i h1 h2 s' hI) (fun r s2 q2 => ?_) fun _ _ x => x)
    obtain ⟨hr, q2⟩ := q2
    subst hr
    cases hy : e i with
    | true =>
      rw [hy] at hR
      wp_walk
      exact ⟨rfl, q2, i + 1, hrest, by simpa using hR⟩
    | false =>
      rw [hy] at hR
      have := fin s2 q2
      rw [hR] at this
      wp_walk
      simpa using this
  case fin =>
    rintro ⟨b1, b2⟩ s' ⟨hb', hI, i, hz, hR⟩
    simp only at hb'
    subst hb'
    have hge : min items.size items2.size ≤ i := by
      rcases Nat.lt_or_ge i (items.toList.zip items2.toList).length with h' | h'
      · rw [List.drop_eq_getElem_cons h'] at hz; cases hz
      · exact hZ ▸ h'
    rw [List.drop_of_length_le (by simpa using hge)] at hR
    have := fin s' hI
    rw [hR] at this
    wp_walk
    simpa [Builtin.Tuple.tupleCompareSizes] using this
  case h =>
    exact ⟨rfl, h0, 0, rfl, by simp⟩
theorem rc_tupB {l b : Addr} {items items2 : Array Value} {Q : Value → Shared → Prop} (e : Nat → Bool) (hu : A.units < cLine) (I : Shared → Prop)
    (hl : s.heap.IsTuple l items) (hb : s.heap.IsTuple b items2)
    (turn : ∀ i (h1 : i < items.size) (h2 : i < items2.size) s, I s → wpAny (model prog w) A.in1 (eqBool items[i] items2[i]) (fun r s' => r = e i ∧ I s') E s)
    (fin : ∀ s, I s → Q (.bool ((List.range (min items.size items2.size)).all e && items.size == items2.size)) s) (h : I s) : wpAny (model prog w) A (richCompare .Eq (.ref l) (.ref b)) Q E s := by
  obtain ⟨⟨cls, dd, data, sl⟩, ho, hc, n, hd⟩ := id hl
  obtain ⟨⟨cls2, dd2, data2, sl2⟩, ho2, hc2, n2, hd2⟩ := id hb
  simp only at hc hd hc2 hd2
  subst hc hd hc2 hd2
  refine wpAny_richCompare_same_room (op := .Eq) ⟨_, ho, rfl⟩ ⟨_, ho2, rfl⟩ F.slot_tuple_eq (call_here F.slot_tuple_eq ⟨_, ho, rfl⟩ F.entry_tuple_eq (F.args_tuple_eq_2 _ _) ?_) hu
  exact tuple_eqB (R := wants (fun v s' => v ≠ .notImplemented ∧ Q v s') E) l b items items2 n n2 dd dd2 sl sl2 e I turn (fun s' q => ⟨(fun x => nomatch x), fin s' q⟩) ho ho2 h
end
end GQ
namespace UL
open PySem PySem.Spec PyProof.Rows L2
/-- how two values compare, by the abstract heap -/
abbrev Eqb := V → V → Bool → Hp → Prop
def MonB (D : Eqb) : Prop := ∀ x y r H H', Ext H H' → D x y r H → D x y r H'
def EqB (X : Cx) (n : Nat) (D : Eqb) : Prop :=
  ∀ (A : Around) (pins : List (Addr × Obj)) (s : Shared) (σ : L2.St) (H : Hp) (x y : V) (r : Bool) (u v : Value), Sub X n A → Inv X pins σ H s → RelV x u → RelV y v → D x y r H →
    wpAny (model X.prog X.w) A (eqBool u v) (fun r' s' => r' = r ∧ ∃ H', Inv X pins σ H' s' ∧ Ext H H') X.xe s
def RcB (X : Cx) (n : Nat) (D : Eqb) : Prop :=
  ∀ (A : Around) (pins : List (Addr × Obj)) (s : Shared) (σ : L2.St) (H : Hp) (x y : V) (r : Bool) (u v : Value), Sub X n A → Inv X pins σ H s → RelV x u → RelV y v → D x y r H →
    wpAny (model X.prog X.w) A (richCompare .Eq u v) (fun r' s' => r' = .bool r ∧ ∃ H', Inv X pins σ H' s' ∧ Ext H H') X.xe s
section
variable {X : Cx} {n m : Nat} {D : Eqb}
def DInsB (C : Addr) (R : Addr → Addr → Bool → Hp → Prop) : Eqb := fun x y r H => ∃ a b dx dy fs gs, x = .ref a ∧ y = .ref b ∧ H a = some (.ins C dx fs) ∧ H b = some (.ins C dy gs) ∧ R a b r H
def spEqB (R : Addr → Addr → Bool → Hp → Prop) : Sp := fun vs H Q _ => ∃ a b r, vs = [.ref a, .ref b] ∧ R a b r H ∧ ∀ H', Ext H H' → Q (.bl r) H'
theorem rcB_ins {CX : CXT} {C f : Addr} {R : Addr → Addr → Bool → Hp → Prop} {E : XK} (F : FnR X.prog X.w X.K X.mg X.base CX n f (spEqB R))
    (hs : PySem.W.findIn X.K (.ref C) "__eq__" = some (some (.ref f))) (hf : PySem.W.isFn X.K (.ref f) = true) (hx : Passes CX X E) : RcB X n (DInsB C R) := by
  intro A pins s σ H x y r u v sb I rx ry d
  obtain ⟨a, b, dx, dy, fs, gs, rfl, rfl, ha, hb', hr⟩ := d
  cases rx
  cases ry
  obtain ⟨mA, J, _⟩ := ins_get I.hok ha
  obtain ⟨mB, J', _⟩ := ins_get I.hok hb'
  obtain ⟨od, J, _⟩ := J.look
  obtain ⟨od', J', _⟩ := J'.look
  obtain ⟨m, hF⟩ := I.fr
  refine PySem.W.cmp_K (op := .Eq) (tb := .ref C) sb.room.units0 hF I.ok.mod.kin J J'.type (by simp [PySem.W.notFirst]) hs hf ?_
  have hsp : spEqB R [.ref a, .ref b] H (fun v H' => v = .bl r ∧ Ext H H') E := ⟨a, b, r, rfl, hr, fun H' e => ⟨rfl, e⟩⟩
  have e0 : Env0 X.prog X.w X.K X.mg X.base A X.stack s H := by
    have e := I.env0
    exact ⟨by rw [sb.fr]; exact e.frames, e.mod, e.bs, e.bsz, e.funs, e.frf, e.hok, e.bare⟩
  have r2 : Vals [V.ref a, V.ref b] [Value.ref a, Value.ref b] := .cons rfl (.cons rfl .nil)
  refine wpAny_call (codeAny_mono (F A X.stack s H [.ref a, .ref b] [.ref a, .ref b] _ E sb.room e0 r2 hsp) fun r' s' hq => ?_)
  cases r' with
  | error e => exact hx pins σ H s e s' I hq
  | ok fl =>
    cases fl with
    | ret w =>
      obtain ⟨z, H', I', rz, ez, ex⟩ := I.after hq
      subst ez
      cases rz
      exact ⟨rfl, H', I', ex⟩
    | next => exact False.elim hq
    | brk => exact False.elim hq
    | cont => exact False.elim hq
theorem RcB.eqB (h : RcB X n D) (hr : ∀ x y r H, D x y r H → ∃ a b, x = .ref a ∧ y = .ref b ∧ (a = b → r = true)) : EqB X n D := by
  intro A pins s σ H x y r u v sb I rx ry d
  obtain ⟨a, b, rfl, rfl, hs⟩ := hr _ _ _ _ d
  cases rx
  cases ry
  by_cases hab : a = b
  · rw [hs hab]
    subst hab
    exact SeqAt.EqAt.same (A := A) (s := s) (.ref a) X.prog X.w X.xe _ ⟨rfl, H, I, Ext.rfl'⟩
  · refine GQ.eqBool_refG hab (wpAny_mono (h A pins s σ H (.ref a) (.ref b) r _ _ sb I rfl rfl d) (fun r' s' q => ?_) fun _ _ x => x)
    obtain ⟨hr', q⟩ := q
    exact ⟨r, hr', rfl, q⟩
/-- two tuples: the i-th items compare as e says -/
def DTupB (K : PySem.W.Frag) (D : Eqb) : Eqb := fun x y r H => ∃ a b xs ys, ∃ e : Nat → Bool, x = .ref a ∧ y = .ref b ∧ SqT K H a xs ∧ SqT K H b ys ∧ (∀ (i : Nat) x y, xs[i]? = some x → ys[i]? = some y → D x y (e i) H) ∧
  r = ((List.range (min xs.length ys.length)).all e && xs.length == ys.length)
theorem rcB_tup (hD : MonB D) (h : EqB X n D) : RcB X (n + 1) (DTupB X.K D) := by
  intro A pins s σ H x y r u v sb I rx ry d
  obtain ⟨a, b, xs, ys, e, rfl, rfl, ha, hb, p, rfl⟩ := d
  cases rx
  cases ry
  obtain ⟨its, r, e1, z⟩ := I.tuple ha
  obtain ⟨its2, r2, e2, z2⟩ := I.tuple hb
  refine GQ.rc_tupB e sb.room.units0 (fun s' => LoopI X pins σ H s') e1 e2 (fun i h1 h2 s' l => ?_) (fun s' q => ⟨?_, q⟩) ⟨H, I, Ext.rfl'⟩
  · obtain ⟨H1, I1, x1⟩ := l
    have g1 : its[i]? = some its.toArray[i] := by
      have h1' : i < its.length := by simpa using h1
      rw [List.getElem?_eq_getElem h1'] <;> simp
    have g2 : its2[i]? = some its2.toArray[i] := by
      have h2' : i < its2.length := by simpa using h2
      rw [List.getElem?_eq_getElem h2'] <;> simp
    have k1 : i < xs.length := by rw [r.length]; simpa using h1
    have k2 : i < ys.length := by rw [r2.length]; simpa using h2
    obtain ⟨u, hu, ru⟩ := r.get (List.getElem?_eq_getElem k1)
    obtain ⟨v, hv, rv⟩ := r2.get (List.getElem?_eq_getElem k2)
    rw [g1] at hu
    rw [g2] at hv
    rw [Option.some.inj hu, Option.some.inj hv]
    refine wpAny_mono (h A.in1 pins s' σ H1 _ _ (e i) u v sb.in1 I1 ru rv (hD _ _ _ _ _ x1 (p i _ _ (List.getElem?_eq_getElem k1) (List.getElem?_eq_getElem k2)))) (fun r s2 q => ?_) fun _ _ x => x
    obtain ⟨hr, H2, I2, x2⟩ := q
    exact ⟨hr, H2, I2, x1.trans x2⟩
  · rw [List.size_toArray, List.size_toArray, ← r.length, ← r2.length]
theorem op_eqB (h : RcB X n D) (hr : Room n X.A) : OpR X (compareOp .Eq) (fun x y H Q => ∃ r, D x y r H ∧ ∀ H', Ext H H' → Q (.bl r) H') := by
  intro pins s σ H x y v u Q I rx ry hq
  obtain ⟨r, d, q⟩ := hq
  show wpAny (model X.prog X.w) X.A (richCompare .Eq v u) (EP X pins σ Q) X.xe s
  refine wpAny_mono (h X.A pins s σ H x y r v u ⟨hr, rfl⟩ I rx ry d) (fun r' s' z => ?_) fun _ _ x => x
  obtain ⟨hr', H', I', e⟩ := z
  subst hr'
  exact ⟨.bl r, H', I', rfl, q H' e⟩
end
end UL
set_option Elab.async false
set_option linter.all false
set_option maxRecDepth 100000
set_option maxHeartbeats 4000000
namespace UL
open PySem PySem.Spec PyProof.Rows L2
section
variable (P : Program) (w : World) (K : PySem.W.Frag) (mg : Str → Option Value) (base : Heap)
/-- the class x, at C, made by a promise of positional values -/
def MakR (k : Nat) (x : Str) (C : Addr) (sp : Sp) : Prop := ∃ f, FnR P w K mg base CX0 k f sp ∧ Mk K C f ∧ mg x = some (.ref C)
/-- an instance of the class at C called -/
def CalO (k : Nat) (C : Addr) (sp : Sp) : Prop := ∃ g, FnR P w K mg base CX0 k g sp ∧ StX.CallO K C g
def CalOK (k : Nat) (C : Addr) (ks : List Str) (gV : List V → List V → List V) (sp : Sp) : Prop := ∃ g fd ps gg, FnOk P w K mg base CX0 k g fd ps sp ∧ StX.CallO K C g ∧ KBn K fd ps 1 ks gg gV
end
section
variable {X : Cx} {k j : Nat} {x : Str} {C : Addr} {sp : Sp} {e fe : Expr} {es : List Expr} {kws : List Keyword} {ks : List Str} {gV : List V → List V → List V} {t tk : TA} {te tf : TE} {p pos sp_ : Pos}
theorem pe_nR (c : MakR X.prog X.w X.K X.mg X.base k x C sp) (hr : Room j X.A) (hk : k + 1 ≤ j) (hg : Gl X x) (ha : PA X (e :: es) t) (hdb : (x == ("__debug__" : Str)) = false := by decide)
    (he : starEach (e :: es) X.env = (false, eval e X.env) :: starEach es X.env := by rfl) (hpl : (backTo pos (starEach es X.env)).any (·.1) = false := by rfl) : PE X (.Call (.Name x p) (e :: es) [] pos) (StX.tMakeR C sp E0 t) := by
  obtain ⟨f, F, M, g⟩ := c
  exact StX.pe_makeR M F (hr.mono hk) hg g pass0 ha hdb he hpl
theorem pe_nR0 (c : MakR X.prog X.w X.K X.mg X.base k x C sp) (hr : Room j X.A) (hk : k + 1 ≤ j) (hg : Gl X x) (hdb : (x == ("__debug__" : Str)) = false := by decide) : PE X (.Call (.Name x p) [] [] pos) (StX.tMakeR C sp E0 tNil) := by
  obtain ⟨f, F, M, g⟩ := c
  refine ⟨fun pins s σ H Q I h => ?_⟩
  refine wpAny_Call_Name_kw (ld_glob I hg g ?_ hdb)
  exact PySem.W.callWith_K0 I.kIn M.kp (StX.run_makeR (us := []) M F (hr.mono hk) pass0 I .nil h)
/-- C(*y) -/
def tMakeS (K : PySem.W.Frag) (C : Addr) (sp : Sp) (E : XK) (te : TE) : TE := fun σ H Q => te σ H fun y H1 => ∃ a xs, y = V.ref a ∧ (SqT K H1 a xs ∨ SqL K H1 a xs) ∧ ∀ x dx, H1 x = none → H1 dx = none → dx ≠ x →
  sp (V.ref x :: xs) (upd (upd H1 dx (.own x)) x (.ins C dx [])) (fun v H2 => v = .non ∧ Q (.ref x) H2) E
theorem pe_nRS (c : MakR X.prog X.w X.K X.mg X.base k x C sp) (hr : Room j X.A) (hk : k + 1 ≤ j) (hg : Gl X x) (he : PE X e te) (hd : (x == ("__debug__" : Str)) = false := by decide)
    (hst : starEach [.Starred e sp_] X.env = [(true, eval e X.env)] := by rfl) : PE X (.Call (.Name x p) [.Starred e sp_] [] pos) (tMakeS X.K C sp E0 te) := by
  obtain ⟨f, F, M, g⟩ := c
  refine ⟨fun pins s σ H Q I h => ?_⟩
  refine wpAny_Call_Name_kw (ld_glob I hg g ?_ hd)
  refine PySem.W.callWith_S (h₀ := X.base) I.ok.mod.kin M.kp (thn (he.run pins s σ H _ I h) fun v s1 ⟨y, H1, I1, ry, a, xs, ey, hxs, q⟩ => ?_) hst
  subst ey
  obtain rfl : v = Value.ref a := ry
  exact StX.star_any I1 hxs fun us s2 I2 rv => ⟨I2.kIn, StX.run_makeR M F (hr.mono hk) pass0 I2 rv q⟩
theorem pe_o (hf : PE X fe tf) (c : CalO X.prog X.w X.K X.mg X.base k C sp) (hr : Room j X.A) (hk : k ≤ j) (ha : PA X (e :: es) t)
    (ht : eval (.Call fe (e :: es) [] pos) X.env = (do callWith pos (← eval fe X.env) [] (backTo pos (starEach (e :: es) X.env)) (backToKw pos (keywordEach [] X.env))) := by rfl)
    (he : starEach (e :: es) X.env = (false, eval e X.env) :: starEach es X.env := by rfl) (hpl : (backTo pos (starEach es X.env)).any (·.1) = false := by rfl) : PE X (.Call fe (e :: es) [] pos) (StX.tCallO X C sp E0 tf t) := by
  obtain ⟨g, F, c⟩ := c
  exact StX.pe_callO hf c F (hr.mono hk) pass0 ha ht he hpl
theorem pe_oK (hf : PE X fe tf) (c : CalOK X.prog X.w X.K X.mg X.base k C ks gV sp) (hr : Room j X.A) (hk : k ≤ j) (hkw : PK X kws tk)
    (hall : (backToKw pos (keywordEach kws X.env)).all (·.1.isSome) = true := by rfl) (hks : (backToKw pos (keywordEach kws X.env)).filterMap (·.1) = ks := by rfl)
    (ht : eval (.Call fe [] kws pos) X.env = (do callWith pos (← eval fe X.env) [] (backTo pos (starEach [] X.env)) (backToKw pos (keywordEach kws X.env))) := by rfl)
    (hpl : ((backTo pos (starEach [] X.env)).any (·.1) || (backToKw pos (keywordEach kws X.env)).any (·.1.isNone)) = false := by rfl) : PE X (.Call fe [] kws pos) (tCallOK C ks.length gV sp E0 tf tk) := by
  obtain ⟨g, fd, ps, gg, F, c, b⟩ := c
  exact pe_callOK hf c F b (hr.mono hk) pass0 hkw hall hks ht hpl
theorem op_addS (c : CalS X.prog X.w X.K X.mg X.base k C "__add__" sp) (hc : PySem.W.selfFirst X.K C = true) (hr : Room j X.A) (hk : k ≤ j) : OpR X (binaryOp .Add) (rOpO X.K C "add" sp E0) := by
  obtain ⟨f, F, h1, h2⟩ := c
  exact op_addO hc h1 h2 F (hr.mono hk) pass0
theorem iop_addS (c : CalS X.prog X.w X.K X.mg X.base k C "__add__" sp) (hc : PySem.W.selfFirst X.K C = true) (ho : ∃ cd, PySem.W.clsIn X.K C = some cd ∧ cd.mro = [.ref C, .type "object"]) (hi : PySem.W.findIn X.K (.ref C) "__iadd__" = some none)
    (oi : PySem.W.findIn X.K (.type "object") "__iadd__" = some none) (hr : Room j X.A) (hk : k ≤ j) : OpR X (inplaceOp .Add) (rOpO X.K C "add" sp E0) := by
  obtain ⟨f, F, h1, h2⟩ := c
  exact iop_addO hc ho hi oi h1 h2 F (hr.mono hk) pass0
theorem call_lenS (c : CalS X.prog X.w X.K X.mg X.base k C "__len__" sp) (hr : Room j X.A) (hk : k + 1 ≤ j) : CallR X (.builtin "len") (rLenI C sp E0) := by
  obtain ⟨f, F, h1, h2⟩ := c
  exact call_lenI h1 h2 F (hr.mono hk) pass0
end
end UL
set_option Elab.async false
set_option linter.all false
set_option maxRecDepth 100000
set_option maxHeartbeats 4000000
namespace UL
open PySem L2
theorem join_len (a : Str) (ys : List Str) : (Txt.join a ys).length ≤ (ys.map (·.length)).sum + ys.length * a.length := by
  cases ys with
  | nil => exact Nat.zero_le _
  | cons y r =>
    show (Array.size _) ≤ _
    show (r.foldl (fun acc p => acc ++ a.cps ++ p.cps) y.cps).size ≤ _
    rw [PySem.size_gluedFold]
    simp only [List.map_cons, List.sum_cons, List.length_cons, Nat.add_mul]
    show y.length + _ + _ ≤ _
    omega
theorem listText_le (ts : List Str) : (listText ts).length ≤ (ts.map fun t => t.length + 2).sum + 2 := by
  cases ts with
  | nil => decide +kernel
  | cons t r =>
    have e : (listText (t :: r)).length = (textFrom 1 (("[" : Str) ++ (if (0 : Nat) > 0 then ", " else "" : String) ++ t) r).length + 1 := by
      show (textFrom 0 "[" (t :: r) ++ ("]" : Str)).length = _
      rw [Str.length_append]
      rfl
    rw [e, textFrom_length_pos _ _ _ (Nat.succ_pos 0)]
    have h1 : (("[" : Str) ++ ((if (0 : Nat) > 0 then ", " else "" : String) : Str) ++ t).length = 1 + t.length := by
      rw [Str.length_append, Str.length_append]
      rfl
    rw [h1]
    show 1 + t.length + (r.map fun t => t.length + 2).sum + 1 ≤ _
    simp only [List.map_cons, List.sum_cons]
    omega
theorem sum_le {α : Type} (f : α → Nat) (k : Nat) : ∀ l : List α, (∀ x ∈ l, f x ≤ k) → (l.map f).sum ≤ l.length * k
  | [], _ => by simp
  | x :: r, h => by
    have h1 := h x List.mem_cons_self
    have h2 := sum_le f k r fun y hy => h y (List.mem_cons_of_mem _ hy)
    simp only [List.map_cons, List.sum_cons, List.length_cons, Nat.add_mul]
    omega
/-! ### rows of bits -/
/-- a bit, None for an unknown one -/
abbrev Bt := Option Bool
def bV : Bt → V
  | none => .non
  | some false => .int 0
  | some true => .int 1
def bD : Bt → PyData
  | none => .none
  | some false => .int 0
  | some true => .int 1
theorem bD_dp {K : PySem.W.Frag} {H : Hp} (b : Bt) : Dp K H (bV b) (bD b) := by
  rcases b with _ | _ | _
  · exact .non
  · exact .int 0
  · exact .int 1
theorem bDs_dp {K : PySem.W.Frag} {H : Hp} : ∀ bs : List Bt, DpAll K H (bs.map bV) (bs.map bD)
  | [] => .nil
  | b :: bs => .cons (bD_dp b) (bDs_dp bs)
theorem shownAll_map : ∀ ds : List PyData, PyData.shownAll ds = ds.map PyData.shown
  | [] => by simp [PyData.shownAll]
  | d :: ds => by simp [PyData.shownAll, shownAll_map ds]
theorem bits_data (bs : List Bt) (h : bs.length ≤ 200) : (PyData.list (bs.map bD)).showable = true ∧ (PyData.list (bs.map bD)).hasDict = false ∧ (PyData.list (bs.map bD)).depth ≤ 40 ∧ (PyData.list (bs.map bD)).shown.length ≤ 4000 := by
  have h1 : ∀ bs : List Bt, PyData.showableAll (bs.map bD) = true := by
    intro bs
    induction bs with
    | nil => simp [PyData.showableAll]
    | cons b bs ih =>
      have : (bD b).showable = true := by rcases b with _ | _ | _ <;> decide +kernel
      simp [PyData.showableAll, ih, this]
  have h2 : ∀ bs : List Bt, PyData.hasDictAll (bs.map bD) = false := by
    intro bs
    induction bs with
    | nil => simp [PyData.hasDictAll]
    | cons b bs ih =>
      have : (bD b).hasDict = false := by rcases b with _ | _ | _ <;> decide +kernel
      simp [PyData.hasDictAll, ih, this]
  refine ⟨by simpa [PyData.showable] using h1 bs, by simpa [PyData.hasDict] using h2 bs, ?_, ?_⟩
  · have := depth_all (k := 0) (ds := bs.map bD) fun d hd => by
      obtain ⟨b, _, rfl⟩ := List.mem_map.mp hd
      rcases b with _ | _ | _ <;> simp [bD, PyData.depth]
    simp only [PyData.depth]
    omega
  · have e : (PyData.list (bs.map bD)).shown = listText (bs.map fun b => (bD b).shown) := by
      simp only [PyData.shown, shownAll_map, List.map_map]
      rfl
    rw [e]
    have h3 := listText_le (bs.map fun b => (bD b).shown)
    have h4 := sum_le (fun t : Str => t.length + 2) 6 (bs.map fun b => (bD b).shown) fun t ht => by
      obtain ⟨b, _, rfl⟩ := List.mem_map.mp ht
      rcases b with _ | _ | _ <;> decide +kernel
    rw [List.length_map] at h4
    omega
end UL
set_option Elab.async false
set_option linter.all false
set_option maxRecDepth 100000
set_option maxHeartbeats 4000000
namespace UL
open PySem PySem.Spec PyProof.Rows L2
def WalkE (J : It) (g : TG) (tb : TS) (D : Ends) (σ : L2.St) (H : Hp) : Prop := ∃ W : Nat → Nat → L2.St → Hp → Prop, (∃ m, W 0 m σ H) ∧ ∀ i m σ H, W i m σ H →
      (J.stop i H ∧ D.nx σ H) ∨ (J.go i H ∧ ∃ N : L2.St → Hp → Prop, (∀ σ' H', N σ' H' → ∃ m', m' < m ∧ W (i + 1) m' σ' H') ∧ ∀ x H', J.yld i H x H' → g x σ H' fun σ2 H2 => tb { D with nx := N, ct := N, bk := D.nx } σ2 H2)
/-- a walk over enumerate of a list or a tuple -/
theorem for_enumB {K : PySem.W.Frag} {a : Addr} {xs : List V} {g : TG} {tb : TS} {D : Ends} {σ : L2.St} {H : Hp} (Pv : Nat → L2.St → Hp → Prop) (h0 : Pv 0 σ H) (hl : (∀ i σ H, Pv i σ H → SqL K H a xs) ∨ ∀ i σ H, Pv i σ H → SqT K H a xs)
    (hs : ∀ i x σ H T, xs[i]? = some x → Pv i σ H → H T = none → g (.ref T) σ (upd H T (.tup [.int (i : Nat), x])) fun σ2 H2 => tb { D with nx := Pv (i + 1), ct := Pv (i + 1), bk := D.nx } σ2 H2) (hd : ∀ σ H, Pv xs.length σ H → D.nx σ H) :
    (SqL K H a xs ∧ WalkE (Ite K a) g tb D σ H) ∨ (SqT K H a xs ∧ WalkE (Itet K a) g tb D σ H) := by
  rcases hl with hl | hl
  · exact .inl ⟨hl 0 σ H h0, for_enumL Pv h0 (fun i σ H _ p => hl i σ H p) hs hd⟩
  · exact .inr ⟨hl 0 σ H h0, for_enumT Pv h0 (fun i σ H _ p => hl i σ H p) hs hd⟩
end UL
set_option Elab.async false
set_option linter.all false
set_option maxRecDepth 100000
set_option maxHeartbeats 4000000
namespace UL
open PySem PySem.Spec PyProof.Rows L2
section
variable {X : Cx} {k j : Nat} {m : Str} {C : Addr} {sp : Sp} {o : Expr} {ta : TE} {pos apos : Pos}
theorem pe_m0 {pl : Sem Bool} (he : PE X o ta) (c : CalM X.prog X.w X.K X.mg X.base k C m sp) (hr : Room j X.A) (hk : k ≤ j)
    (ht : eval (.Call (.Attribute o m apos) [] [] pos) X.env = (do
      let ov ← eval o X.env
      standAt apos.atName
      let (f, first) ← holding [ov] (getMethod ov m pl)
      callWith pos f first (backTo pos (starEach [] X.env)) (backToKw pos (keywordEach [] X.env))) := by rfl) :
    PE X (.Call (.Attribute o m apos) [] [] pos) (tMeth C m sp [] E0 ta tNil) := by
  obtain ⟨f, fd, ps, F, cl, mt, b⟩ := c
  exact pe_meth0 he cl mt F (hr.mono hk) b .nil pass0 ht
end
/-! ### rows of a word and a number, as data -/
theorem eqv_list (ds es : List PyData) : PyData.eqv (.list ds) (.list es) = PyData.eqvAll ds es := by simp only [PyData.eqv]
end UL
set_option Elab.async false
set_option linter.all false
set_option maxRecDepth 100000
set_option maxHeartbeats 4000000
namespace HT
open PySem PySem.Spec PyProof.Rows
theorem rev_pick (xs : Array Value) : ((List.range xs.size).filterMap fun (m : Nat) => xs[(((xs.size : Int) - 1) + (m : Int) * (-1)).toNat]?) = xs.toList.reverse := by
  refine List.ext_getElem? fun i => ?_
  have e : ((List.range xs.size).filterMap fun (m : Nat) => xs[(((xs.size : Int) - 1) + (m : Int) * (-1)).toNat]?) = (List.range xs.size).pmap (fun m (h : m < xs.size) => xs[xs.size - 1 - m]) (fun m hm => List.mem_range.mp hm) := by
    have : ∀ (l : List Nat) (hl : ∀ m ∈ l, m < xs.size), (l.filterMap fun (m : Nat) => xs[(((xs.size : Int) - 1) + (m : Int) * (-1)).toNat]?) = l.pmap (fun m (h : m < xs.size) => xs[xs.size - 1 - m]) hl := by
      intro l
      induction l with
      | nil => intro _; rfl
      | cons m l ih =>
        intro hl
        have hm := hl m List.mem_cons_self
        have e1 : (((xs.size : Int) - 1) + (m : Int) * (-1)).toNat = xs.size - 1 - m := by omega
        rw [List.filterMap_cons, e1, Array.getElem?_eq_getElem (by omega)]
        simp only [List.pmap_cons]
        rw [ih fun k hk => hl k (List.mem_cons_of_mem _ hk)]
    exact this _ _
  rw [e]
  by_cases c : i < xs.size
  · rw [List.getElem?_reverse (by simpa using c)]
    simp [c]
  · rw [List.getElem?_eq_none (by simp; omega), List.getElem?_eq_none (by simp; omega)]
section
variable {prog : Program} {w : World} {A : Around} {E : Value → Shared → Prop} {s : Shared}
theorem sliceApplied_rev {sl : Addr} {vl vu vs : Value} {n : Nat} {Q : Int × Int × Nat → Shared → Prop} (hs : s.heap.IsSliceOf sl vl vu vs) (pl : IsPart vl none) (pu : IsPart vu none) (ps : IsPart vs (some (-1)))
    (h : Q (((n : Int) - 1), -1, n) s) : wpAny (model prog w) A (Builtin.Slice.sliceApplied (.ref sl) (pure (n : Int))) Q E s := by
  obtain ⟨os, hos, hcs, hds⟩ := id hs
  unfold Builtin.Slice.sliceApplied Builtin.Slice.sliceFields
  refine wpAny_bind (wpAny_bind (wpAny_field hos hds (x := vl) rfl (wpAny_bind (wpAny_field hos hds (x := vu) rfl (wpAny_bind (wpAny_field hos hds (x := vs) rfl (wpAny_pure ?_)))))))
  refine wpAny_bind (slicePart_ ps ?_)
  show wpAny _ _ (if ((-1 : Int) == 0) = true then _ else _) _ _ s
  rw [if_neg (by decide)]
  refine wpAny_bind (slicePart_ pl (wpAny_bind (slicePart_ pu (wpAny_bind (wpAny_pure ?_)))))
  have e1 : Builtin.Slice.sliceAdjust none none (-1) (n : Int) = ((n : Int) - 1, -1) := rfl
  have e2 : Builtin.Slice.slicePlaces ((n : Int) - 1) (-1) (-1) = n := by
    unfold Builtin.Slice.slicePlaces
    rw [if_neg (by decide)]
    by_cases c : (n : Int) - 1 > -1
    · rw [if_pos c]
      show ((((n : Int) - 1) - (-1) - 1) / 1 + 1).toNat = n
      rw [Int.ediv_one]
      omega
    · rw [if_neg c]
      omega
  show wpAny _ _ (match Builtin.Slice.sliceAdjust none none (-1) (n : Int) with | (lo, hi) => pure (lo, (-1 : Int), Builtin.Slice.slicePlaces lo hi (-1))) _ _ s
  rw [e1]
  show wpAny _ _ (pure (((n : Int) - 1), (-1 : Int), Builtin.Slice.slicePlaces ((n : Int) - 1) (-1) (-1))) _ _ s
  rw [e2]
  exact wpAny_pure h
theorem getItem_tuple_rev {t sl : Addr} {items : Array Value} {vl vu vs : Value} {Q : Value → Shared → Prop} (ht : IsTup s.heap t items) (hs : s.heap.IsSliceOf sl vl vu vs) (pl : IsPart vl none) (pu : IsPart vu none) (ps : IsPart vs (some (-1)))
    (h : Q (.ref s.heap.objs.size) { s with heap := s.heap.push { cls := .type "tuple", data := .seq items.toList.reverse.toArray } })
    (hsz : items.size ≤ sizeLine) : wpAny (model prog w) A (getItem (.ref t) (.ref sl)) Q E s := by
  have htake : sizeOk (.seq items.toList.reverse.toArray) := by
    show items.toList.reverse.toArray.size ≤ sizeLine
    rw [List.size_toArray, List.length_reverse, Array.length_toList]
    exact hsz
  obtain ⟨os, hos, hcs, hds⟩ := id hs
  have hTs : s.TypeIs (.ref sl) "slice" := ⟨os, hos, hcs⟩
  unfold getItem
  try with_reducible refine wpAny_holding ?_
  first | refine wpAny_bind (wpAny_pure ?_) | skip
  refine wpAny_bind (wpAny_sequenceKey ht.typeIs (by decide) ?_)
  refine wpAny_bind (wpAny_callSpecial?_slot (name := Str.ofString "__getitem__") ht.typeIs PyProof.Rows.slot_tuple_getitem
    (wpAny_call_entry PyProof.Rows.slot_tuple_getitem ht.typeIs entry_tuple_getitem ?_ (args_tuple_getitem _ _)))
  show wpAny _ _ (Builtin.Tuple.tupleItemsOf (.ref t) >>= _) _ _ s
  refine wpAny_bind (tupleItemsOf_ ht ?_)
  refine wpAny_bind (wpAny_typeOf hTs ?_)
  rw [if_pos (by decide)]
  refine wpAny_bind (sliceApplied_rev hs pl pu ps ?_)
  have hno : ¬ ((((items.size : Int) - 1) == 0 && (-1 : Int) == 1 && items.size == items.size) = true) := by simp
  show wpAny _ _ (if (((items.size : Int) - 1) == 0 && (-1 : Int) == 1 && items.size == items.size) = true then _ else _) _ _ s
  rw [if_neg hno, rev_pick]
  first
    | exact wpAny_bind (m := Builtin.Tuple.tupleExact _) (wpAny_newObj_type (wpAny_pure ⟨_, rfl, wpAny_pure h⟩) htake)
    | exact wpAny_bind (m := Builtin.Tuple.tupleExact _) (wpAny_newObj_type (wpAny_bind (wpAny_pure (wpAny_pure ⟨_, rfl, wpAny_pure h⟩))) htake)
    | exact wpAny_bind (wpAny_bind (m := Builtin.Tuple.tupleExact _) (wpAny_newObj_type (wpAny_pure (wpAny_pure ⟨_, rfl, wpAny_pure h⟩)) htake))
    | exact wpAny_bind (wpAny_bind (m := Builtin.Tuple.tupleExact _) (wpAny_newObj_type (wpAny_pure ⟨_, rfl, wpAny_pure h⟩) htake))
end
end HT
namespace UL
open PySem PySem.Spec PyProof.Rows L2
section
variable {X : Cx}
/-- t[::-1], t a tuple -/
def tRevT (K : PySem.W.Frag) (te : TE) : TE := fun σ H Q => te σ H fun x H1 => ∃ a xs, x = .ref a ∧ SqT K H1 a xs ∧ ∀ p, H1 p = none → Q (.ref p) (upd H1 p (.tup xs.reverse))
theorem pe_revT {e : Expr} {te : TE} {k : Nat} {p1 p2 p3 pos : Pos} (he : PE X e te) : PE X (.Subscript e (.Slice none none (some (.UnaryOp .USub (.Constant (.int 1) k p1) p2)) p3) pos) (tRevT X.K te) := by
  refine ⟨fun pins s σ H Q I h => ?_⟩
  refine Subscript_ (thn (he.run pins s σ H _ I h) fun v s1 ⟨x, H1, I1, r1, q1⟩ => ?_)
  obtain ⟨a, xs, ex, hx, q⟩ := q1
  subst ex
  cases r1
  have hst : PO X (some (.UnaryOp .USub (.Constant (.int 1) k p1) p2)) (tPart (tUn (rU fun i => .int (-i)) (tC (.int 1)))) := po_some (pe_un un_neg pe_int)
  refine wpAny_Slice (thn (po_none.run pins s1 σ H1 (fun o H2 => o = none ∧ H2 = H1) I1 ⟨rfl, rfl⟩) fun vl s2 ⟨l, H2, I2, pl, el, e2⟩ => ?_)
  subst el e2
  refine thn (po_none.run pins s2 σ H2 (fun o H3 => o = none ∧ H3 = H2) I2 ⟨rfl, rfl⟩) fun vu s3 ⟨u, H3, I3, pu, eu, e3⟩ => ?_
  subst eu e3
  refine thn (hst.run pins s3 σ H3 (fun o H4 => o = some (-1) ∧ H4 = H3) I3 ⟨1, rfl, -1, rfl, rfl, rfl⟩) fun vs s4 ⟨o, H4, I4, ps, eo, e4⟩ => ?_
  subst eo e4
  have I5 : Inv X pins σ H4 { s4 with heap := s4.heap.push { cls := .type "slice", data := .fields #[vl, vu, vs] } } := I4.kept (t' := s4.toks) fun b ob q => Heap.get?_push_of_some _ q
  obtain ⟨its, r, ht, hz⟩ := I5.tuple hx
  have hlen := r.length
  show wpAny (model X.prog X.w) X.A (subscriptTail e (.Slice none none (some (.UnaryOp .USub (.Constant (.int 1) k p1) p2)) p3) (.ref a) (.ref s4.heap.objs.size)) (EP X pins σ Q) X.xe { s4 with heap := s4.heap.push { cls := .type "slice", data := .fields #[vl, vu, vs] } }
  refine tail_any (ops := [.ref a, .ref s4.heap.objs.size]) ht.typeIs (PyProof.Rows.slot_tuple_getitem.lookup) ?_ (by with_unfolding_all rfl)
  refine HT.getItem_tuple_rev ht (Heap.IsSliceOf.new _ vl vu vs) pl pu ps ?_ (by rw [List.size_toArray]; omega)
  refine ⟨.ref _, _, I5.laid (t' := s4.toks) (o := .tup xs.reverse) (fun b ob q => Heap.get?_push_of_some _ q) (Nat.le_refl _) ?_, rfl, q _ (I5.hok.fresh (Nat.le_refl _))⟩
  exact ⟨by show xs.reverse.length ≤ sizeLine; rw [List.length_reverse]; exact hz, _, r.reverse, ⟨_, Heap.get?_push_size _ rfl, rfl, _, rfl⟩⟩
end
end UL
set_option Elab.async false
set_option linter.all false
set_option maxRecDepth 100000
set_option maxHeartbeats 4000000
namespace UL
open PySem L2
/-! ### unlike rows have unlike texts -/
def tok : Bt → List Nat
  | none => [78, 111, 110, 101]
  | some false => [48]
  | some true => [49]
def encT : List Bt → List Nat
  | [] => [93]
  | x :: xs => 44 :: 32 :: (tok x ++ encT xs)
def enc : List Bt → List Nat
  | [] => [91, 93]
  | x :: xs => 91 :: (tok x ++ encT xs)
theorem encT_inj : ∀ {xs ys : List Bt}, encT xs = encT ys → xs = ys
  | [], [], _ => rfl
  | [], y :: ys, h => by simp [encT] at h
  | x :: xs, [], h => by simp [encT] at h
  | x :: xs, y :: ys, h => by
    have h' : tok x ++ encT xs = tok y ++ encT ys := by
      simp only [encT, List.cons.injEq, true_and] at h
      exact h
    have e : x = y ∧ encT xs = encT ys := by
      rcases x with _ | _ | _ <;> rcases y with _ | _ | _ <;> simp [tok] at h' <;> exact ⟨rfl, h'⟩
    rw [e.1, encT_inj e.2]
theorem enc_inj {xs ys : List Bt} (h : enc xs = enc ys) : xs = ys := by
  cases xs with
  | nil =>
    cases ys with
    | nil => rfl
    | cons y ys =>
      rcases y with _ | _ | _ <;> simp [enc, tok] at h
  | cons x xs =>
    cases ys with
    | nil => rcases x with _ | _ | _ <;> simp [enc, tok] at h
    | cons y ys =>
      apply encT_inj
      simp only [enc, List.cons.injEq, true_and] at h
      simp only [encT, h]
theorem tok_shown (x : Bt) : ((bD x).shown).cps.toList = tok x := by rcases x with _ | _ | _ <;> decide +kernel
theorem cps_app (a b : Str) : (a ++ b).cps.toList = a.cps.toList ++ b.cps.toList := by
  show (a.cps ++ b.cps).toList = _
  simp
theorem text_tail : ∀ (xs : List Bt) (k : Nat) (acc : Str), 0 < k → (textFrom k acc (xs.map fun b => (bD b).shown) ++ ("]" : Str)).cps.toList = acc.cps.toList ++ encT xs
  | [], k, acc, _ => by
    show (acc ++ ("]" : Str)).cps.toList = _
    rw [cps_app]
    rfl
  | x :: xs, k, acc, h => by
    show (textFrom (k + 1) (acc ++ ((if k > 0 then ", " else "" : String) : Str) ++ (bD x).shown) (xs.map fun b => (bD b).shown) ++ ("]" : Str)).cps.toList = _
    rw [text_tail xs (k + 1) _ (Nat.succ_pos k), if_pos h, cps_app, cps_app, tok_shown, List.append_assoc, List.append_assoc]
    rfl
theorem text_enc (xs : List Bt) : (listText (xs.map fun b => (bD b).shown)).cps.toList = enc xs := by
  cases xs with
  | nil => decide +kernel
  | cons x xs =>
    show (textFrom 1 (("[" : Str) ++ ((if (0 : Nat) > 0 then ", " else "" : String) : Str) ++ (bD x).shown) (xs.map fun b => (bD b).shown) ++ ("]" : Str)).cps.toList = _
    rw [text_tail xs 1 _ (by decide), cps_app, cps_app, tok_shown]
    rfl
theorem shown_bits (xs : List Bt) : (PyData.list (xs.map bD)).shown = listText (xs.map fun b => (bD b).shown) := by
  simp only [PyData.shown, shownAll_map, List.map_map]
  rfl
theorem shown_inj {xs ys : List Bt} : decide (V.str (PyData.list (xs.map bD)).shown = V.str (PyData.list (ys.map bD)).shown) = decide (xs = ys) := by
  by_cases h : xs = ys
  · subst h
    rw [decide_eq_true rfl, decide_eq_true rfl]
  · rw [decide_eq_false h]
    refine decide_eq_false fun e => h (enc_inj ?_)
    have e1 := V.str.inj e
    rw [shown_bits, shown_bits] at e1
    rw [← text_enc, ← text_enc, e1]
end UL
set_option Elab.async false
set_option linter.all false
set_option maxRecDepth 100000
set_option maxHeartbeats 4000000
namespace UL
open PySem PySem.Spec PyProof.Rows L2
section
variable {X : Cx}
/-- o[a:b] = v, o and v two tracked lists -/
def gSlset (to ta tb : TE) : TG := fun v σ H Q => to σ H fun o H1 => tPart ta σ H1 fun oa H2 => tPart tb σ H2 fun ob H3 => ∃ (l q : Addr) (xs ys : List V) (a b : Int), o = .ref l ∧ oa = some a ∧ ob = some b ∧ v = .ref q ∧ H3 l = some (.lst xs) ∧ H3 q = some (.lst ys) ∧ l ≠ q ∧
  0 ≤ a ∧ a ≤ b ∧ b ≤ xs.length ∧ xs.length + ys.length ≤ sizeLine ∧ Q σ (upd H3 l (.lst (xs.take a.toNat ++ ys ++ xs.drop b.toNat)))
theorem pg_slset {o a b : Expr} {to ta tb : TE} {p2 pos : Pos} (ho : PE X o to) (ha : PE X a ta) (hb : PE X b tb)
    (he : ∀ v, assign (.Subscript o (.Slice (some a) (some b) none p2) pos) X.env v = (do
      let ov ← holding [v] (eval o X.env)
      let iv ← holding [v, ov] (eval (.Slice (some a) (some b) none p2) X.env)
      standAt pos
      holding [v, ov, iv] (setItem ov iv v)
      release [iv, v, ov] []) := by intro _; rfl) : PG X (.Subscript o (.Slice (some a) (some b) none p2) pos) (gSlset to ta tb) := by
  refine ⟨fun pins s σ H v u Q I r h => ?_⟩
  rw [he]
  refine wpAny_bind (wpAny_holding (thn (ho.run pins s σ H _ I h) fun ov s1 ⟨x, H1, I1, r1, q1⟩ => ?_))
  refine wpAny_bind (wpAny_holding (wpAny_Slice (thn ((po_some ha).run pins s1 σ H1 _ I1 q1) fun vl s2 ⟨lo, H2, I2, pl, q2⟩ => thn ((po_some hb).run pins s2 σ H2 _ I2 q2) fun vu s3 ⟨hi, H3, I3, pu, q3⟩ => ?_)))
  rw [evalPart_none]
  refine wpAny_pure ?_
  obtain ⟨l, q, xs, ys, a', b', rfl, rfl, rfl, rfl, e1, e2, ne, g1, g2, g3, g4, k⟩ := q3
  have I4 : Inv X pins σ H3 { s3 with heap := s3.heap.push { cls := .type "slice", data := .fields #[vl, vu, .none] } } := I3.kept (t' := s3.toks) fun b ob q => Heap.get?_push_of_some _ q
  cases (show ov = Value.ref l from r1)
  cases (show u = Value.ref q from r)
  refine wpAny_bind (wpAny_standAt (wpAny_bind (wpAny_holding ?_)))
  refine set_slice (X := X) (pins := pins) (σ := σ) (a := a') (c := b') I4 e1 e2 ne (Heap.IsSliceOf.new ..) ?_ ?_ g1 g2 g3 g4 fun s5 I5 => wpAny_release ⟨σ, _, I5, k⟩
  · cases pl
    exact ⟨_, rfl⟩
  · cases pu
    exact ⟨_, rfl⟩
end
end UL
set_option Elab.async false
set_option linter.all false
set_option maxRecDepth 100000
set_option maxHeartbeats 4000000
namespace UL
open PySem L2
theorem Same.look {H H' : Hp} {a : Addr} {o : HO} (s : L2.Same H H') (h : H a = some o) : H' a = some o := s _ _ h
theorem new_look {H : Hp} {p a : Addr} {o o' : HO} (hp : H p = none) (h : H a = some o) : upd H p o' a = some o := by rw [upd_ne (ne_of_none h hp)]; exact h
theorem Stay.lookT {H H' : Hp} {p a : Addr} {xs : List V} (s : Stay p H H') (hp : Pot H p) (h : H a = some (.tup xs)) : H' a = some (.tup xs) := by
  obtain ⟨x, y, e, _⟩ := hp
  exact s _ _ (ne_of h e (by intro z; cases z)) h
theorem Stay.lookI {H H' : Hp} {p a C dx : Addr} {fs : List (Str × V)} (s : Stay p H H') (hp : Pot H p) (h : H a = some (.ins C dx fs)) : H' a = some (.ins C dx fs) := by
  obtain ⟨x, y, e, _⟩ := hp
  exact s _ _ (ne_of h e (by intro z; cases z)) h
theorem iteFo' {c : Bool} {A B : Prop} (hc : c = false) (h : B) : if c = true then A else B := by rw [if_neg (by rw [hc]; exact Bool.false_ne_true)]; exact h
theorem iteTo' {c : Bool} {A B : Prop} (hc : c = true) (h : A) : if c = true then A else B := by rw [if_pos hc]; exact h
theorem over_look {H : Hp} {x p : Addr} {o u : HO} (n : p ≠ x) (h : H p = some u) : upd H x o p = some u := by rw [upd_ne n]; exact h
theorem ne_new {H : Hp} {a b : Addr} {o : HO} (hb : H b = none) (ha : H a = some o) : b ≠ a := fun e => by rw [e, ha] at hb; cases hb
theorem up_none {H : Hp} {x p : Addr} {o : HO} (h : upd H x o p = none) : H p = none := by
  by_cases e : p = x
  · rw [e, upd_same] at h
    cases h
  · rw [upd_ne e] at h
    exact h
theorem Same.none {H H' : Hp} {p : Addr} (s : L2.Same H H') (h : H' p = none) : H p = none := by
  cases e : H p with
  | none => rfl
  | some o =>
    rw [s _ _ e] at h
    cases h
theorem Stay.same {H H' : Hp} {p : Addr} (s : Stay p H H') (h : H p = none) : L2.Same H H' := fun b o e => s b o (ne_of_none e h) e
/-- both ways of a conditional expression hand on one value -/
theorem ite_val {c : Bool} {ta tb : TE} {σ : L2.St} {H : Hp} {Q : VK} (v : V) (ha : c = true → ∀ Q : VK, Q v H → ta σ H Q) (hb : c = false → ∀ Q : VK, Q v H → tb σ H Q) (h : Q v H) : if c = true then ta σ H Q else tb σ H Q := by
  cases c with
  | true => rw [if_pos rfl]; exact ha rfl Q h
  | false => rw [if_neg Bool.false_ne_true]; exact hb rfl Q h
theorem ite_and {c : Bool} {t : TT} {σ : L2.St} {H : Hp} {Q : Bool → Hp → Prop} (b : Bool) (ha : c = true → ∀ Q : Bool → Hp → Prop, Q b H → t σ H Q) (hb : c = false → b = false) (h : Q b H) : if c = true then t σ H Q else Q false H := by
  cases c with
  | true => rw [if_pos rfl]; exact ha rfl Q h
  | false => rw [if_neg Bool.false_ne_true, ← hb rfl]; exact h
theorem ite_or {c : Bool} {t : TT} {σ : L2.St} {H : Hp} {Q : Bool → Hp → Prop} (b : Bool) (ha : c = false → ∀ Q : Bool → Hp → Prop, Q b H → t σ H Q) (hb : c = true → b = true) (h : Q b H) : if c = true then Q true H else t σ H Q := by
  cases c with
  | false => rw [if_neg Bool.false_ne_true]; exact ha rfl Q h
  | true => rw [if_pos rfl, ← hb rfl]; exact h
/-- both ways of an if go on from one place -/
theorem ite_st {c : Bool} {ta tb : TS} {D : Ends} {σ : L2.St} {H : Hp} (σ' : L2.St) (H' : Hp) (ha : c = true → ∀ D : Ends, D.nx σ' H' → ta D σ H) (hb : c = false → ∀ D : Ends, D.nx σ' H' → tb D σ H) (h : D.nx σ' H') : if c = true then ta D σ H else tb D σ H := by
  cases c with
  | true => rw [if_pos rfl]; exact ha rfl D h
  | false => rw [if_neg Bool.false_ne_true]; exact hb rfl D h
end UL
set_option Elab.async false
set_option linter.all false
set_option maxRecDepth 100000
set_option maxHeartbeats 4000000
namespace UL
open PySem PySem.Spec PyProof.Rows L2 StX
/-! ### classes made: with keywords behind what is written, with stars, by keywords where the rest is a star -/
section
variable (P : Program) (w : World) (K : PySem.W.Frag) (mg : Str → Option Value) (base : Heap)
/-- n values, then the keywords ks -/
def MakN (k : Nat) (x : Str) (C : Addr) (n : Nat) (ks : List Str) (gV : List V → List V → List V) (sp : Sp) : Prop := ∃ f fd ps g, FnOk P w K mg base CX0 k f fd ps sp ∧ Mk K C f ∧ mg x = some (.ref C) ∧ KBn K fd ps (n + 1) ks g gV
/-- a def run with one value and the keywords ks -/
def FnKw (k : Nat) (f : Addr) (ks : List Str) (sp : Sp) : Prop := ∀ (A : Around) (outer : List Env) (s : Shared) (H : Hp) (u : Value) (v : V) (ws : List Value) (zs : List V) (Q : VK), Room k A → Env0 P w K mg base A outer s H → RelV v u → Vals zs ws → zs.length = ks.length →
  sp (v :: zs) H Q E0 → codeAny (model P w) A (.call (.ref f) ⟨[u], ks.zip ws⟩) (CR CX0 outer P w H s Q E0) s
def MakW (k : Nat) (x : Str) (C : Addr) (ks : List Str) (sp : Sp) : Prop := ∃ f, FnKw P w K mg base k f ks sp ∧ Mk K C f ∧ mg x = some (.ref C)
end
section
variable {X : Cx} {k j n : Nat} {x : Str} {C : Addr} {sp : Sp} {e : Expr} {es : List Expr} {kws : List Keyword} {ks : List Str} {gV : List V → List V → List V} {t tk : TA} {p pos : Pos}
theorem pe_nN (c : MakN X.prog X.w X.K X.mg X.base k x C n ks gV sp) (hr : Room j X.A) (hk : k + 1 ≤ j) (hg : Gl X x) (ha : PA X (e :: es) t) (hkw : PK X kws tk)
    (h1 : (backToKw pos (keywordEach kws X.env)).all (·.1.isSome) = true := by rfl) (h2 : (backToKw pos (keywordEach kws X.env)).filterMap (·.1) = ks := by rfl) (h3 : (x == ("__debug__" : Str)) = false := by decide)
    (h4 : starEach (e :: es) X.env = (false, eval e X.env) :: starEach es X.env := by rfl)
    (h5 : ((backTo pos (starEach (e :: es) X.env)).any (·.1) || (backToKw pos (keywordEach kws X.env)).any (·.1.isNone)) = false := by rfl) :
    PE X (.Call (.Name x p) (e :: es) kws pos) (tMakeN C n ks.length sp gV E0 t tk) := by
  obtain ⟨f, fd, ps, g, F, M, m, b⟩ := c
  exact pe_makeN M F (hr.mono hk) hg m b pass0 ha hkw h1 h2 h3 h4 h5
/-- C(e, .., *y) -/
theorem pe_nR2 (c : MakR X.prog X.w X.K X.mg X.base k x C sp) (hr : Room j X.A) (hk : k + 1 ≤ j) (hg : Gl X x) (ha : PA X (e :: es) t) (h3 : (x == ("__debug__" : Str)) = false := by decide)
    (h4 : starEach (e :: es) X.env = (false, eval e X.env) :: starEach es X.env := by rfl) (h5 : (backTo pos (starEach es X.env)).any (·.1) = true := by rfl) : PE X (.Call (.Name x p) (e :: es) [] pos) (StX.tMakeR C sp E0 t) := by
  obtain ⟨f, F, M, m⟩ := c
  refine ⟨fun pins s σ H Q I h => wpAny_Call_Name_kw (ld_glob I hg m ?_ h3)⟩
  exact PySem.W.callWith_S2 (h₀ := X.base) I.ok.mod.kin M.kp (thn (ha.run pos pins s σ H _ I h) fun us s1 ⟨vs, H1, J, rv, q⟩ => ⟨J.kIn, StX.run_makeR M F (hr.mono hk) pass0 J rv q⟩) h4 h5
/-- C(k = v, ..), the class's rest a star -/
def tMakeW (C : Addr) (m : Nat) (sp : Sp) (tk : TA) : TE := fun σ H Q => tk σ H fun zs H1 => zs.length = m ∧ ∀ x dx, H1 x = none → H1 dx = none → dx ≠ x → sp (V.ref x :: zs) (upd (upd H1 dx (.own x)) x (.ins C dx [])) (fun v H2 => v = .non ∧ Q (.ref x) H2) E0
theorem pe_nW (c : MakW X.prog X.w X.K X.mg X.base k x C ks sp) (hr : Room j X.A) (hk : k + 1 ≤ j) (hg : Gl X x) (hkw : PK X kws tk)
    (h1 : (backToKw pos (keywordEach kws X.env)).all (·.1.isSome) = true := by rfl) (h2 : (backToKw pos (keywordEach kws X.env)).filterMap (·.1) = ks := by rfl) (h3 : (x == ("__debug__" : Str)) = false := by decide)
    (h5 : ((backTo pos (starEach [] X.env)).any (·.1) || (backToKw pos (keywordEach kws X.env)).any (·.1.isNone)) = false := by rfl) : PE X (.Call (.Name x p) [] kws pos) (tMakeW C ks.length sp tk) := by
  obtain ⟨f, F, M, m⟩ := c
  refine ⟨fun pins s σ H Q I h => wpAny_Call_Name_kw (ld_glob I hg m (PySem.W.callWith_KW0 (h₀ := X.base) I.ok.mod.kin M.kp h1 (thn (hkw.run pos pins s σ H _ I h) fun ws s1 ⟨zs, H1, J, rz, l2, q⟩ => ⟨J.kIn, ?_⟩) h5) h3)⟩
  rw [h2]
  have hq := q (s1.heap.objs.size + 1) s1.heap.objs.size (J.hok.fresh (Nat.le_succ _)) (J.hok.fresh (Nat.le_refl _)) (Nat.ne_of_lt (Nat.lt_succ_self _))
  have J2 := Inv.made (C := C) J
  have hr' := hr.mono hk
  refine wpAny_call (make_map (f := f) J.kIn M.makes M.init (beq_iff_eq.mp M.fn) (codeAny_mono (F _ X.stack _ _ (Value.ref (s1.heap.objs.size + 1)) (V.ref (s1.heap.objs.size + 1)) ws zs _ (hr'.make C [] (ks.zip ws)) (J2.env0.make C [] (ks.zip ws)) rfl rz l2 hq) fun r s' hz => ?_))
  cases r with
  | error e => exact pass0 pins σ _ _ e s' J2 hz
  | ok fl =>
    cases fl with
    | ret u =>
      obtain ⟨v, H', J3, rv, ev, qz⟩ := J2.after hz
      subst ev
      exact ⟨rv, ⟨V.ref (s1.heap.objs.size + 1), H', J3, rfl, qz⟩⟩
    | next => exact hz.elim
    | brk => exact hz.elim
    | cont => exact hz.elim
end
/-- def f(self, a, .., *v) called by self and the keywords of a, ..: v is an empty tuple -/
theorem fnKw_star {P : Program} {w : World} {K : PySem.W.Frag} {mg : Str → Option Value} {base : Heap} {k : Nat} {f : Addr} {name qual : Str} {params : Arguments} {body : List Stmt} {scope : Scope} {dV kV doc pm cdv ct oc : Value} {an od : Option Addr}
    {osl : Array (Option Value)} {N ps ks : List Str} {p0 pv : Str} {sp : Sp} (lk : K.lookup f = some ⟨oc, od, .func (PySem.W.fnOf name qual params body scope dV kV doc pm an cdv ct), osl⟩) (hcd : PySem.W.codeIn K cdv qual = true) (S : FnScope N (p0 :: (ks ++ [pv])) scope)
    (hb : ∀ (u : Value) (ws : List Value), ws.length = ks.length → bindArgs (PySem.W.fnOf name qual params body scope dV kV doc pm an cdv ct) ⟨[u], ks.zip ws⟩ = (newTuple [] >>= fun t => pure ((p0, u) :: (ks.zip ws ++ [(pv, t)]))))
    (hbody : ∀ (A : Around) (outer : List Env) (s : Shared) (H : Hp) (vs : List V) (Q : VK) (E : XK), Room k (A.deeper (envOfC qual scope s.heap.objs.size f cdv)) → sp vs H Q E →
      ∃ t, PSs (cxOf CX0 P w K mg base N qual scope f cdv A outer s H E) body t ∧ t { nx := fun _ H' => Q .non H', rt := Q } (start N vs) H) :
    FnKw P w K mg base (k + 1) f ks (fun vs H Q E => vs.length = ks.length + 1 ∧ ∀ p, H p = Option.none → sp (vs ++ [V.ref p]) (upd H p (.tup [])) Q E) := by
  intro A outer s H u v ws zs Q hr e0 ru rz hl h
  have fr : H s.heap.objs.size = Option.none := e0.hok.fresh (Nat.le_refl _)
  refine run_bnd lk hcd S hr e0 (G := fun xs H2 => ∃ p, H p = Option.none ∧ xs = v :: (zs ++ [V.ref p]) ∧ H2 = upd H p (.tup [])) (fun A' Ex Q' z => ?_) fun s2 H2 xs ⟨p, hp, e1, e2⟩ hr' => ?_
  · rw [hb u ws (rz.length.symm.trans hl)]
    refine wpAny_bind (wpAny_newTuple (wpAny_pure ?_) (Nat.zero_le _))
    have new : ObjOk P w (upd H s.heap.objs.size (.tup [])) (s.heap.push ({ cls := .type "tuple", data := .seq (#[] : Array Value) } : Obj)) s.heap.objs.size (.tup []) := ⟨Nat.zero_le _, [], .nil, ⟨_, Heap.get?_push_size _ rfl, rfl, _, rfl⟩⟩
    have lai := un_laid (fs := frs outer) (s := s) (o := ({ cls := .type "tuple", data := .seq (#[] : Array Value) } : Obj)) (u := .tup []) fr
    have y := z _ _ (v :: (zs ++ [V.ref s.heap.objs.size])) (u :: (ws ++ [Value.ref s.heap.objs.size])) (env0_laid e0 new) lai rfl (fun e s' z => (show False from z).elim)
      (.cons ru (rz.append (.cons rfl .nil))) (by simp [hl]) ⟨_, fr, rfl, rfl⟩
    have ez : (p0 :: (ks ++ [pv])).zip (u :: (ws ++ [Value.ref s.heap.objs.size])) = (p0, u) :: (ks.zip ws ++ [(pv, Value.ref s.heap.objs.size)]) := by
      rw [List.zip_cons_cons, List.zip_append (hl.symm.trans rz.length)]
      rfl
    rw [ez] at y
    exact y
  · subst e1 e2
    exact hbody A outer s2 _ _ Q E0 hr' (h.2 p hp)
end UL
set_option Elab.async false
set_option linter.all false
set_option maxRecDepth 100000
set_option maxHeartbeats 4000000
namespace UL
open PySem PySem.Spec PyProof.Rows L2
open PySem.W (Looks Frag findIn clsIn InstAt)
/-! ### own operators beside a built-in type, own orders -/
/-- the class at C beside the built-in type T -/
structure OwnT (K : Frag) (C : Addr) (T nm : String) : Prop where
  sf : PySem.W.selfFirst K C = true
  r : ∃ rc, findIn K (.ref C) (dunderR nm) = some rc ∧ (rc = none ∨ ∃ g : Addr, rc = some (.ref g))
  t1 : ∃ fo, findIn K (.type T) (PySem.dunder nm) = some fo
  t2 : ∃ ro, findIn K (.type T) (dunderR nm) = some ro
  su : PySem.W.subIn K (.type T) (.ref C) = some false
theorem dr_add : dunderR "add" = ("__radd__" : Str) := by decide +kernel
theorem du_mul : PySem.dunder "mul" = ("__mul__" : Str) := by decide +kernel
section
variable {X : Cx} {CX : CXT} {C g : Addr} {n : Nat} {sp : Sp} {E : XK} {T : String}
/-- x op y by the def at g, x an instance, y of the built-in type T -/
def rOpT (C : Addr) (T : String) (sp : Sp) (E : XK) : R2 := fun x y H Q => ∃ (a dx : Addr) (fs : List (Str × V)), x = .ref a ∧ H a = some (.ins C dx fs) ∧ (∀ u, RelV y u → typeOf u = pure (.type T)) ∧ sp [x, y] H Q E
theorem op_ownT {op : Operator} (o : OwnT X.K C T op.info.2) (hs : findIn X.K (.ref C) (PySem.dunder op.info.2) = some (some (.ref g))) (hf : PySem.W.isFn X.K (.ref g) = true) (F : FnR X.prog X.w X.K X.mg X.base CX n g sp) (hr : Room n X.A) (hx : Passes CX X E) :
    OpR X (binaryOp op) (rOpT C T sp E) := by
  intro pins s σ H x y v u Q I rx ry h
  obtain ⟨a, dx, fs, rfl, ha, ty, q⟩ := h
  cases (show v = Value.ref a from rx)
  obtain ⟨mA, O, _⟩ := ins_get I.hok ha
  obtain ⟨od, J, _⟩ := O.look
  obtain ⟨m, hF⟩ := I.fr
  obtain ⟨rc, r1, r2⟩ := o.r
  obtain ⟨fo, t1⟩ := o.t1
  obtain ⟨ro, t2⟩ := o.t2
  refine PySem.W.ksp_binT hF I.ok.mod.kin J (ty u ry) o.sf hs hf r1 r2 t1 t2 o.su ?_
  refine wpAny_mono (wpAny_call (run_fnR (us := [.ref a, u]) (vs := [.ref a, y]) F hr hx I (.cons rfl (.cons ry .nil)) q)) (fun r s' z => ?_) fun _ _ e => e
  obtain ⟨z', H', I', rz, qz⟩ := z
  exact SlX.cmpback rz ⟨z', H', I', rz, qz⟩
/-- x + y by the reflected def at g, y an instance, x of the built-in type T, which doesn't add by number -/
def rOpTR (C : Addr) (T : String) (sp : Sp) (E : XK) : R2 := fun x y H Q => ∃ (a dx : Addr) (fs : List (Str × V)), y = .ref a ∧ H a = some (.ins C dx fs) ∧ (∀ u, RelV x u → typeOf u = pure (.type T)) ∧ sp [y, x] H Q E
theorem op_raddT {fa : Addr} {fo ro : Option Value} (sf : PySem.W.selfFirst X.K C = true) (ha' : findIn X.K (.ref C) "__add__" = some (some (.ref fa))) (t1 : findIn X.K (.type T) (PySem.dunder "add") = some fo) (t2 : findIn X.K (.type T) (dunderR "add") = some ro)
    (t3 : ((fo.isSome && !isSeqSlot fo) || (ro.isSome && !isSeqSlot ro)) = false) (hs : findIn X.K (.ref C) "__radd__" = some (some (.ref g))) (hf : PySem.W.isFn X.K (.ref g) = true) (F : FnR X.prog X.w X.K X.mg X.base CX n g sp) (hr : Room n X.A) (hx : Passes CX X E) :
    OpR X (binaryOp .Add) (rOpTR C T sp E) := by
  intro pins s σ H y x u v Q I ry rx h
  obtain ⟨a, dx, fs, rfl, ha, ty, q⟩ := h
  cases (show v = Value.ref a from rx)
  obtain ⟨mA, O, _⟩ := ins_get I.hok ha
  obtain ⟨od, J, _⟩ := O.look
  have KX := I.kIn
  obtain ⟨cd, rest, hcd, hm⟩ := PySem.W.ksp_first sf
  have fl := PySem.W.ksp_fillsT (M := model X.prog X.w) (nm := "add") KX t1 t2
  rw [t3] at fl
  have fr := PySem.W.fills_K (M := model X.prog X.w) (nm := "add") KX hcd hm (by rw [du_add]; exact ha')
  have one : wpAny (model X.prog X.w) X.A (tryMethod (.ref a) (dunderR "add") u) (fun r s' => ∃ z, r = some z ∧ EP X pins σ Q z s') X.xe s := by
    rw [dr_add]
    refine PySem.W.ksp_try KX J hs hf (wpAny_mono (wpAny_call (run_fnR (us := [.ref a, u]) (vs := [.ref a, y]) F hr hx I (.cons rfl (.cons ry .nil)) q)) (fun r s' z => ?_) fun _ _ e => e)
    obtain ⟨z', H', I', rz, qz⟩ := z
    exact SlX.cmpback rz ⟨z', H', I', rz, qz⟩
  have ne : (Value.type T == Value.ref C) = false := Bool.eq_false_iff.mpr fun q => by cases beq_iff_eq.mp q
  have lt : Looks (model X.prog X.w) s.heap (typeOf u) (.type T) := Looks.of_pure (ty u ry)
  unfold binaryOp
  refine wpAny_holding (wpAny_bind ?_)
  show wpAny _ _ (binaryOp1 "add" u (.ref a)) _ _ _
  unfold binaryOp1
  refine wpAny_bind (lt.here (wpAny_bind (J.type.here (wpAny_bind (fl.here ?_)))))
  simp only [ne, Bool.false_eq_true, if_false, Bool.false_and]
  refine wpAny_bind (fr.here ?_)
  refine wpAny_bind (wpAny_pure ?_)
  simp only [Bool.false_eq_true, if_false, Bool.not_false, Bool.and_true, if_true]
  refine wpAny_bind (wpAny_mono one (fun r s' ⟨z, e, qz⟩ => ?_) fun _ _ e => e)
  subst e
  dsimp only
  refine wpAny_bind (wpAny_rule ?_)
  exact wpAny_pure (wpAny_pure qz)
/-- x < y and the like by the def at g -/
def rCmpI (K : Frag) (C : Addr) (sp : Sp) (E : XK) : R2 := rEqI K C sp E
theorem op_cmpI {op : CmpOp} (hop : ∀ u v : Value, compareOp op u v = richCompare op u v) (hs : findIn X.K (.ref C) (cmpInfo op).2.1 = some (some (.ref g))) (hf : PySem.W.isFn X.K (.ref g) = true) (F : FnR X.prog X.w X.K X.mg X.base CX n g sp) (hr : Room n X.A) (hx : Passes CX X E) :
    OpR X (compareOp op) (rEqI X.K C sp E) := by
  intro pins s σ H x y v u Q I rx ry h
  obtain ⟨a, dx, fs, t, rfl, ha, ty, hn, q⟩ := h
  cases (show v = Value.ref a from rx)
  obtain ⟨mA, O, _⟩ := ins_get I.hok ha
  obtain ⟨od, J, _⟩ := O.look
  obtain ⟨m, hF⟩ := I.fr
  obtain ⟨Pk, Z, pk, _⟩ := kit_of I ry ty
  rw [hop]
  refine PySem.W.cmp_K (op := op) hr.units0 hF I.ok.mod.kin J (Z.ty _ _ I.kIn pk) hn hs hf ?_
  refine wpAny_mono (wpAny_call (run_fnR (us := [.ref a, u]) (vs := [.ref a, y]) F hr hx I (.cons rfl (.cons ry .nil)) q)) (fun r s' z => ?_) fun _ _ e => e
  obtain ⟨z', H', I', rz, qz⟩ := z
  exact SlX.cmpback rz ⟨z', H', I', rz, qz⟩
end
section
variable {X : Cx} {C : Addr} {k j : Nat} {sp : Sp} {T : String}
theorem op_ltS (c : CalS X.prog X.w X.K X.mg X.base k C "__lt__" sp) (hr : Room j X.A) (hk : k ≤ j) : OpR X (compareOp .Lt) (rEqI X.K C sp E0) := by
  obtain ⟨f, F, h1, h2⟩ := c
  exact op_cmpI (fun _ _ => rfl) h1 h2 F (hr.mono hk) pass0
theorem op_leS (c : CalS X.prog X.w X.K X.mg X.base k C "__le__" sp) (hr : Room j X.A) (hk : k ≤ j) : OpR X (compareOp .LtE) (rEqI X.K C sp E0) := by
  obtain ⟨f, F, h1, h2⟩ := c
  exact op_cmpI (fun _ _ => rfl) h1 h2 F (hr.mono hk) pass0
theorem op_gtS (c : CalS X.prog X.w X.K X.mg X.base k C "__gt__" sp) (hr : Room j X.A) (hk : k ≤ j) : OpR X (compareOp .Gt) (rEqI X.K C sp E0) := by
  obtain ⟨f, F, h1, h2⟩ := c
  exact op_cmpI (fun _ _ => rfl) h1 h2 F (hr.mono hk) pass0
theorem op_geS (c : CalS X.prog X.w X.K X.mg X.base k C "__ge__" sp) (hr : Room j X.A) (hk : k ≤ j) : OpR X (compareOp .GtE) (rEqI X.K C sp E0) := by
  obtain ⟨f, F, h1, h2⟩ := c
  exact op_cmpI (fun _ _ => rfl) h1 h2 F (hr.mono hk) pass0
theorem op_addST (c : CalS X.prog X.w X.K X.mg X.base k C "__add__" sp) (o : OwnT X.K C T "add") (hr : Room j X.A) (hk : k ≤ j) : OpR X (binaryOp .Add) (rOpT C T sp E0) := by
  obtain ⟨f, F, h1, h2⟩ := c
  exact op_ownT (op := .Add) o (by show findIn X.K (.ref C) (PySem.dunder "add") = _; rw [du_add]; exact h1) h2 F (hr.mono hk) pass0
theorem op_mulST (c : CalS X.prog X.w X.K X.mg X.base k C "__mul__" sp) (o : OwnT X.K C T "mul") (hr : Room j X.A) (hk : k ≤ j) : OpR X (binaryOp .Mult) (rOpT C T sp E0) := by
  obtain ⟨f, F, h1, h2⟩ := c
  exact op_ownT (op := .Mult) o (by show findIn X.K (.ref C) (PySem.dunder "mul") = _; rw [du_mul]; exact h1) h2 F (hr.mono hk) pass0
/-- what is asked where the instance stands on the right of + -/
structure RadT (K : Frag) (C : Addr) (T : String) : Prop where
  sf : PySem.W.selfFirst K C = true
  ad : ∃ fa : Addr, findIn K (.ref C) "__add__" = some (some (.ref fa))
  t : ∃ fo ro, findIn K (.type T) (PySem.dunder "add") = some fo ∧ findIn K (.type T) (dunderR "add") = some ro ∧ ((fo.isSome && !isSeqSlot fo) || (ro.isSome && !isSeqSlot ro)) = false
theorem op_raddS (c : CalS X.prog X.w X.K X.mg X.base k C "__radd__" sp) (o : RadT X.K C T) (hr : Room j X.A) (hk : k ≤ j) : OpR X (binaryOp .Add) (rOpTR C T sp E0) := by
  obtain ⟨f, F, h1, h2⟩ := c
  obtain ⟨fa, ha⟩ := o.ad
  obtain ⟨fo, ro, t1, t2, t3⟩ := o.t
  exact op_raddT o.sf ha t1 t2 t3 h1 h2 F (hr.mono hk) pass0
theorem ty_str {x : Str} : ∀ u, RelV (.str x) u → typeOf u = pure (.type "str") := fun u ⟨t, e⟩ => by subst e; rfl
end
end UL
set_option Elab.async false
set_option linter.all false
set_option maxRecDepth 100000
set_option maxHeartbeats 4000000
namespace GQ
open PySem PySem.SeqAt
open AutoSeq1 (wpAny_loadPart')
open MeetsSeq MeetsSeq2 MeetsSeq3 SeqRoads2
open Ob (RcOp lexAt lexAt_zero lexAt_succ)
/-! ### the four orders of lists: the first place that differs decides -/
/-- two lists lie there -/
def TwoL (s : Shared) (l b : Addr) (xs ys : Array Value) (n m : Nat) (d1 d2 : Option Addr) (sl sm : Array (Option Value)) : Prop :=
  s.heap.get? l = some { cls := .type "list", dict := d1, data := .seq xs n, slots := sl } ∧ s.heap.get? b = some { cls := .type "list", dict := d2, data := .seq ys m, slots := sm }
theorem lt_from (l b : Addr) (xs ys : Array Value) (n m : Nat) (d1 d2 : Option Addr) (sl sm : Array (Option Value)) (e r : Nat → Bool) (k : Nat) : ∀ i : Nat, min xs.size ys.size - i = k →
    Meets (Builtin.«list.__eq__.loop» ⟨[.ref l, .ref b, rawInt i, rawInt 0], []⟩) (fun A R s => TwoL s l b xs ys n m d1 d2 sl sm ∧
      (∀ j (h1 : j < xs.size) (h2 : j < ys.size), EqAt A.in1 s xs[j] ys[j] (e j)) ∧ (∀ j (h1 : j < xs.size) (h2 : j < ys.size), e j = false → RcOp .Lt A.in1 s xs[j] ys[j] (r j)) ∧
      R (.ok (.ret (.bool (lexAt e r (decide (xs.size < ys.size)) i k)))) s) := by
  induction k with
  | zero =>
    intro i hk prog w A R s ⟨⟨hl, hb⟩, he, hr, hR⟩
    obtain ⟨hp, g, d, tk, os⟩ := s
    rw [lexAt_zero] at hR
    wp_walk using wpAny_loadPart' hl, wpAny_loadPart' hb
    by_cases c : xs.size ≤ i
    · rw [show xs[((i : Nat) : Int).toNat]? = none by simp; omega]
      wp_walk using wpAny_loadPart' hl, wpAny_loadPart' hb
      exact hR
    · rw [show xs[((i : Nat) : Int).toNat]? = some (xs[i]'(by omega)) by simp, show ys[((i : Nat) : Int).toNat]? = none by simp; omega]
      wp_walk using wpAny_loadPart' hl, wpAny_loadPart' hb
      exact hR
  | succ k ih =>
    intro i hk prog w A R s ⟨⟨hl, hb⟩, he, hr, hR⟩
    obtain ⟨hp, g, d, tk, os⟩ := s
    have p1 : i < xs.size := by omega
    have p2 : i < ys.size := by omega
    have q1 : xs[((i : Nat) : Int).toNat]? = some xs[i] := by simp [p1]
    have q2 : ys[((i : Nat) : Int).toNat]? = some ys[i] := by simp [p2]
    rw [lexAt_succ] at hR
    wp_walk using wpAny_loadPart' hl, wpAny_loadPart' hb
    rw [q1, q2]
    refine wpAny_bind (he i p1 p2 prog w _ _ ?_)
    cases c : e i with
    | true =>
      rw [if_pos c] at hR
      wp_walk
      rw [show ((i : Int) + 1) = ((i + 1 : Nat) : Int) by push_cast; rfl]
      refine ⟨plainId_quiet plain_eq_loop _, codeAny_builtin entry_eq_loop ?_⟩
      rw [Around.under_plainId plain_eq_loop _]
      exact ih (i + 1) (by omega) prog w A R _ ⟨⟨hl, hb⟩, he, hr, hR⟩
    | false =>
      rw [if_neg (by rw [c]; exact Bool.false_ne_true)] at hR
      wp_walk using wpAny_loadPart' hl, wpAny_loadPart' hb
      rw [q1, q2]
      repeat (first | refine hr i p1 p2 c prog w _ _ ?_ | wp_step)
      wp_walk
      exact hR
theorem lists_lt {A : Around} {s : Shared} {l b : Addr} {xs ys : Array Value} {e r : Nat → Bool} (hl : s.heap.IsList l xs) (hb : s.heap.IsList b ys) (hu : A.units < cLine) (he : ∀ j (h1 : j < xs.size) (h2 : j < ys.size), EqAt A.in1 s xs[j] ys[j] (e j))
    (hr : ∀ j (h1 : j < xs.size) (h2 : j < ys.size), e j = false → RcOp .Lt A.in1 s xs[j] ys[j] (r j)) : RcOp .Lt A s (.ref l) (.ref b) (lexAt e r (decide (xs.size < ys.size)) 0 (min xs.size ys.size)) := fun prog w E Q hq => by
  obtain ⟨⟨c1, d1, w1, sl⟩, ho, z1, n, v1⟩ := id hl
  obtain ⟨⟨c2, d2, w2, sm⟩, hp, z2, m, v2⟩ := id hb
  simp only at z1 v1 z2 v2
  subst z1 v1 z2 v2
  have go : Meets (Builtin.«list.__lt__» ⟨[.ref l, .ref b], []⟩) (fun A R s => TwoL s l b xs ys n m d1 d2 sl sm ∧
      (∀ j (h1 : j < xs.size) (h2 : j < ys.size), EqAt A.in1 s xs[j] ys[j] (e j)) ∧ (∀ j (h1 : j < xs.size) (h2 : j < ys.size), e j = false → RcOp .Lt A.in1 s xs[j] ys[j] (r j)) ∧
      R (.ok (.ret (.bool (lexAt e r (decide (xs.size < ys.size)) 0 (min xs.size ys.size))))) s) := by
    intro prog w A R s ⟨⟨hl, hb⟩, he, hr, hR⟩
    obtain ⟨hp, g, d, tk, os⟩ := s
    have f3 := AutoSeq1.sub_list_list
    wp_walk using wpAny_loadPart' hl, wpAny_loadPart' hb
    refine ⟨plainId_quiet plain_eq_loop _, codeAny_builtin entry_eq_loop ?_⟩
    rw [Around.under_plainId plain_eq_loop _]
    exact lt_from l b xs ys n m d1 d2 sl sm e r _ 0 (by simp) prog w A R _ ⟨⟨hl, hb⟩, he, hr, hR⟩
  exact richCompare_meets_room (op := .Lt) ⟨_, ho, rfl⟩ ⟨_, hp, rfl⟩ F.slot_list_lt F.entry_list_lt (F.args_list_lt_2 _ _) go ⟨⟨ho, hp⟩, he, hr, (fun x => nomatch x), hq⟩ hu
theorem le_from (l b : Addr) (xs ys : Array Value) (n m : Nat) (d1 d2 : Option Addr) (sl sm : Array (Option Value)) (e r : Nat → Bool) (k : Nat) : ∀ i : Nat, min xs.size ys.size - i = k →
    Meets (Builtin.«list.__eq__.loop» ⟨[.ref l, .ref b, rawInt i, rawInt 1], []⟩) (fun A R s => TwoL s l b xs ys n m d1 d2 sl sm ∧
      (∀ j (h1 : j < xs.size) (h2 : j < ys.size), EqAt A.in1 s xs[j] ys[j] (e j)) ∧ (∀ j (h1 : j < xs.size) (h2 : j < ys.size), e j = false → RcOp .LtE A.in1 s xs[j] ys[j] (r j)) ∧
      R (.ok (.ret (.bool (lexAt e r (decide (xs.size ≤ ys.size)) i k)))) s) := by
  induction k with
  | zero =>
    intro i hk prog w A R s ⟨⟨hl, hb⟩, he, hr, hR⟩
    obtain ⟨hp, g, d, tk, os⟩ := s
    rw [lexAt_zero] at hR
    wp_walk using wpAny_loadPart' hl, wpAny_loadPart' hb
    by_cases c : xs.size ≤ i
    · rw [show xs[((i : Nat) : Int).toNat]? = none by simp; omega]
      wp_walk using wpAny_loadPart' hl, wpAny_loadPart' hb
      exact hR
    · rw [show xs[((i : Nat) : Int).toNat]? = some (xs[i]'(by omega)) by simp, show ys[((i : Nat) : Int).toNat]? = none by simp; omega]
      wp_walk using wpAny_loadPart' hl, wpAny_loadPart' hb
      exact hR
  | succ k ih =>
    intro i hk prog w A R s ⟨⟨hl, hb⟩, he, hr, hR⟩
    obtain ⟨hp, g, d, tk, os⟩ := s
    have p1 : i < xs.size := by omega
    have p2 : i < ys.size := by omega
    have q1 : xs[((i : Nat) : Int).toNat]? = some xs[i] := by simp [p1]
    have q2 : ys[((i : Nat) : Int).toNat]? = some ys[i] := by simp [p2]
    rw [lexAt_succ] at hR
    wp_walk using wpAny_loadPart' hl, wpAny_loadPart' hb
    rw [q1, q2]
    refine wpAny_bind (he i p1 p2 prog w _ _ ?_)
    cases c : e i with
    | true =>
      rw [if_pos c] at hR
      wp_walk
      rw [show ((i : Int) + 1) = ((i + 1 : Nat) : Int) by push_cast; rfl]
      refine ⟨plainId_quiet plain_eq_loop _, codeAny_builtin entry_eq_loop ?_⟩
      rw [Around.under_plainId plain_eq_loop _]
      exact ih (i + 1) (by omega) prog w A R _ ⟨⟨hl, hb⟩, he, hr, hR⟩
    | false =>
      rw [if_neg (by rw [c]; exact Bool.false_ne_true)] at hR
      wp_walk using wpAny_loadPart' hl, wpAny_loadPart' hb
      rw [q1, q2]
      repeat (first | refine hr i p1 p2 c prog w _ _ ?_ | wp_step)
      wp_walk
      exact hR
theorem lists_le {A : Around} {s : Shared} {l b : Addr} {xs ys : Array Value} {e r : Nat → Bool} (hl : s.heap.IsList l xs) (hb : s.heap.IsList b ys) (hu : A.units < cLine) (he : ∀ j (h1 : j < xs.size) (h2 : j < ys.size), EqAt A.in1 s xs[j] ys[j] (e j))
    (hr : ∀ j (h1 : j < xs.size) (h2 : j < ys.size), e j = false → RcOp .LtE A.in1 s xs[j] ys[j] (r j)) : RcOp .LtE A s (.ref l) (.ref b) (lexAt e r (decide (xs.size ≤ ys.size)) 0 (min xs.size ys.size)) := fun prog w E Q hq => by
  obtain ⟨⟨c1, d1, w1, sl⟩, ho, z1, n, v1⟩ := id hl
  obtain ⟨⟨c2, d2, w2, sm⟩, hp, z2, m, v2⟩ := id hb
  simp only at z1 v1 z2 v2
  subst z1 v1 z2 v2
  have go : Meets (Builtin.«list.__le__» ⟨[.ref l, .ref b], []⟩) (fun A R s => TwoL s l b xs ys n m d1 d2 sl sm ∧
      (∀ j (h1 : j < xs.size) (h2 : j < ys.size), EqAt A.in1 s xs[j] ys[j] (e j)) ∧ (∀ j (h1 : j < xs.size) (h2 : j < ys.size), e j = false → RcOp .LtE A.in1 s xs[j] ys[j] (r j)) ∧
      R (.ok (.ret (.bool (lexAt e r (decide (xs.size ≤ ys.size)) 0 (min xs.size ys.size))))) s) := by
    intro prog w A R s ⟨⟨hl, hb⟩, he, hr, hR⟩
    obtain ⟨hp, g, d, tk, os⟩ := s
    have f3 := AutoSeq1.sub_list_list
    wp_walk using wpAny_loadPart' hl, wpAny_loadPart' hb
    refine ⟨plainId_quiet plain_eq_loop _, codeAny_builtin entry_eq_loop ?_⟩
    rw [Around.under_plainId plain_eq_loop _]
    exact le_from l b xs ys n m d1 d2 sl sm e r _ 0 (by simp) prog w A R _ ⟨⟨hl, hb⟩, he, hr, hR⟩
  exact richCompare_meets_room (op := .LtE) ⟨_, ho, rfl⟩ ⟨_, hp, rfl⟩ F.slot_list_le F.entry_list_le (F.args_list_le_2 _ _) go ⟨⟨ho, hp⟩, he, hr, (fun x => nomatch x), hq⟩ hu
theorem gt_from (l b : Addr) (xs ys : Array Value) (n m : Nat) (d1 d2 : Option Addr) (sl sm : Array (Option Value)) (e r : Nat → Bool) (k : Nat) : ∀ i : Nat, min xs.size ys.size - i = k →
    Meets (Builtin.«list.__eq__.loop» ⟨[.ref l, .ref b, rawInt i, rawInt 4], []⟩) (fun A R s => TwoL s l b xs ys n m d1 d2 sl sm ∧
      (∀ j (h1 : j < xs.size) (h2 : j < ys.size), EqAt A.in1 s xs[j] ys[j] (e j)) ∧ (∀ j (h1 : j < xs.size) (h2 : j < ys.size), e j = false → RcOp .Gt A.in1 s xs[j] ys[j] (r j)) ∧
      R (.ok (.ret (.bool (lexAt e r (decide (ys.size < xs.size)) i k)))) s) := by
  induction k with
  | zero =>
    intro i hk prog w A R s ⟨⟨hl, hb⟩, he, hr, hR⟩
    obtain ⟨hp, g, d, tk, os⟩ := s
    rw [lexAt_zero] at hR
    wp_walk using wpAny_loadPart' hl, wpAny_loadPart' hb
    by_cases c : xs.size ≤ i
    · rw [show xs[((i : Nat) : Int).toNat]? = none by simp; omega]
      wp_walk using wpAny_loadPart' hl, wpAny_loadPart' hb
      exact hR
    · rw [show xs[((i : Nat) : Int).toNat]? = some (xs[i]'(by omega)) by simp, show ys[((i : Nat) : Int).toNat]? = none by simp; omega]
      wp_walk using wpAny_loadPart' hl, wpAny_loadPart' hb
      exact hR
  | succ k ih =>
    intro i hk prog w A R s ⟨⟨hl, hb⟩, he, hr, hR⟩
    obtain ⟨hp, g, d, tk, os⟩ := s
    have p1 : i < xs.size := by omega
    have p2 : i < ys.size := by omega
    have q1 : xs[((i : Nat) : Int).toNat]? = some xs[i] := by simp [p1]
    have q2 : ys[((i : Nat) : Int).toNat]? = some ys[i] := by simp [p2]
    rw [lexAt_succ] at hR
    wp_walk using wpAny_loadPart' hl, wpAny_loadPart' hb
    rw [q1, q2]
    refine wpAny_bind (he i p1 p2 prog w _ _ ?_)
    cases c : e i with
    | true =>
      rw [if_pos c] at hR
      wp_walk
      rw [show ((i : Int) + 1) = ((i + 1 : Nat) : Int) by push_cast; rfl]
      refine ⟨plainId_quiet plain_eq_loop _, codeAny_builtin entry_eq_loop ?_⟩
      rw [Around.under_plainId plain_eq_loop _]
      exact ih (i + 1) (by omega) prog w A R _ ⟨⟨hl, hb⟩, he, hr, hR⟩
    | false =>
      rw [if_neg (by rw [c]; exact Bool.false_ne_true)] at hR
      wp_walk using wpAny_loadPart' hl, wpAny_loadPart' hb
      rw [q1, q2]
      repeat (first | refine hr i p1 p2 c prog w _ _ ?_ | wp_step)
      wp_walk
      exact hR
theorem lists_gt {A : Around} {s : Shared} {l b : Addr} {xs ys : Array Value} {e r : Nat → Bool} (hl : s.heap.IsList l xs) (hb : s.heap.IsList b ys) (hu : A.units < cLine) (he : ∀ j (h1 : j < xs.size) (h2 : j < ys.size), EqAt A.in1 s xs[j] ys[j] (e j))
    (hr : ∀ j (h1 : j < xs.size) (h2 : j < ys.size), e j = false → RcOp .Gt A.in1 s xs[j] ys[j] (r j)) : RcOp .Gt A s (.ref l) (.ref b) (lexAt e r (decide (ys.size < xs.size)) 0 (min xs.size ys.size)) := fun prog w E Q hq => by
  obtain ⟨⟨c1, d1, w1, sl⟩, ho, z1, n, v1⟩ := id hl
  obtain ⟨⟨c2, d2, w2, sm⟩, hp, z2, m, v2⟩ := id hb
  simp only at z1 v1 z2 v2
  subst z1 v1 z2 v2
  have go : Meets (Builtin.«list.__gt__» ⟨[.ref l, .ref b], []⟩) (fun A R s => TwoL s l b xs ys n m d1 d2 sl sm ∧
      (∀ j (h1 : j < xs.size) (h2 : j < ys.size), EqAt A.in1 s xs[j] ys[j] (e j)) ∧ (∀ j (h1 : j < xs.size) (h2 : j < ys.size), e j = false → RcOp .Gt A.in1 s xs[j] ys[j] (r j)) ∧
      R (.ok (.ret (.bool (lexAt e r (decide (ys.size < xs.size)) 0 (min xs.size ys.size))))) s) := by
    intro prog w A R s ⟨⟨hl, hb⟩, he, hr, hR⟩
    obtain ⟨hp, g, d, tk, os⟩ := s
    have f3 := AutoSeq1.sub_list_list
    wp_walk using wpAny_loadPart' hl, wpAny_loadPart' hb
    refine ⟨plainId_quiet plain_eq_loop _, codeAny_builtin entry_eq_loop ?_⟩
    rw [Around.under_plainId plain_eq_loop _]
    exact gt_from l b xs ys n m d1 d2 sl sm e r _ 0 (by simp) prog w A R _ ⟨⟨hl, hb⟩, he, hr, hR⟩
  exact richCompare_meets_room (op := .Gt) ⟨_, ho, rfl⟩ ⟨_, hp, rfl⟩ F.slot_list_gt F.entry_list_gt (F.args_list_gt_2 _ _) go ⟨⟨ho, hp⟩, he, hr, (fun x => nomatch x), hq⟩ hu
theorem ge_from (l b : Addr) (xs ys : Array Value) (n m : Nat) (d1 d2 : Option Addr) (sl sm : Array (Option Value)) (e r : Nat → Bool) (k : Nat) : ∀ i : Nat, min xs.size ys.size - i = k →
    Meets (Builtin.«list.__eq__.loop» ⟨[.ref l, .ref b, rawInt i, rawInt 5], []⟩) (fun A R s => TwoL s l b xs ys n m d1 d2 sl sm ∧
      (∀ j (h1 : j < xs.size) (h2 : j < ys.size), EqAt A.in1 s xs[j] ys[j] (e j)) ∧ (∀ j (h1 : j < xs.size) (h2 : j < ys.size), e j = false → RcOp .GtE A.in1 s xs[j] ys[j] (r j)) ∧
      R (.ok (.ret (.bool (lexAt e r (decide (ys.size ≤ xs.size)) i k)))) s) := by
  induction k with
  | zero =>
    intro i hk prog w A R s ⟨⟨hl, hb⟩, he, hr, hR⟩
    obtain ⟨hp, g, d, tk, os⟩ := s
    rw [lexAt_zero] at hR
    wp_walk using wpAny_loadPart' hl, wpAny_loadPart' hb
    by_cases c : xs.size ≤ i
    · rw [show xs[((i : Nat) : Int).toNat]? = none by simp; omega]
      wp_walk using wpAny_loadPart' hl, wpAny_loadPart' hb
      exact hR
    · rw [show xs[((i : Nat) : Int).toNat]? = some (xs[i]'(by omega)) by simp, show ys[((i : Nat) : Int).toNat]? = none by simp; omega]
      wp_walk using wpAny_loadPart' hl, wpAny_loadPart' hb
      exact hR
  | succ k ih =>
    intro i hk prog w A R s ⟨⟨hl, hb⟩, he, hr, hR⟩
    obtain ⟨hp, g, d, tk, os⟩ := s
    have p1 : i < xs.size := by omega
    have p2 : i < ys.size := by omega
    have q1 : xs[((i : Nat) : Int).toNat]? = some xs[i] := by simp [p1]
    have q2 : ys[((i : Nat) : Int).toNat]? = some ys[i] := by simp [p2]
    rw [lexAt_succ] at hR
    wp_walk using wpAny_loadPart' hl, wpAny_loadPart' hb
    rw [q1, q2]
    refine wpAny_bind (he i p1 p2 prog w _ _ ?_)
    cases c : e i with
    | true =>
      rw [if_pos c] at hR
      wp_walk
      rw [show ((i : Int) + 1) = ((i + 1 : Nat) : Int) by push_cast; rfl]
      refine ⟨plainId_quiet plain_eq_loop _, codeAny_builtin entry_eq_loop ?_⟩
      rw [Around.under_plainId plain_eq_loop _]
      exact ih (i + 1) (by omega) prog w A R _ ⟨⟨hl, hb⟩, he, hr, hR⟩
    | false =>
      rw [if_neg (by rw [c]; exact Bool.false_ne_true)] at hR
      wp_walk using wpAny_loadPart' hl, wpAny_loadPart' hb
      rw [q1, q2]
      repeat (first | refine hr i p1 p2 c prog w _ _ ?_ | wp_step)
      wp_walk
      exact hR
theorem lists_ge {A : Around} {s : Shared} {l b : Addr} {xs ys : Array Value} {e r : Nat → Bool} (hl : s.heap.IsList l xs) (hb : s.heap.IsList b ys) (hu : A.units < cLine) (he : ∀ j (h1 : j < xs.size) (h2 : j < ys.size), EqAt A.in1 s xs[j] ys[j] (e j))
    (hr : ∀ j (h1 : j < xs.size) (h2 : j < ys.size), e j = false → RcOp .GtE A.in1 s xs[j] ys[j] (r j)) : RcOp .GtE A s (.ref l) (.ref b) (lexAt e r (decide (ys.size ≤ xs.size)) 0 (min xs.size ys.size)) := fun prog w E Q hq => by
  obtain ⟨⟨c1, d1, w1, sl⟩, ho, z1, n, v1⟩ := id hl
  obtain ⟨⟨c2, d2, w2, sm⟩, hp, z2, m, v2⟩ := id hb
  simp only at z1 v1 z2 v2
  subst z1 v1 z2 v2
  have go : Meets (Builtin.«list.__ge__» ⟨[.ref l, .ref b], []⟩) (fun A R s => TwoL s l b xs ys n m d1 d2 sl sm ∧
      (∀ j (h1 : j < xs.size) (h2 : j < ys.size), EqAt A.in1 s xs[j] ys[j] (e j)) ∧ (∀ j (h1 : j < xs.size) (h2 : j < ys.size), e j = false → RcOp .GtE A.in1 s xs[j] ys[j] (r j)) ∧
      R (.ok (.ret (.bool (lexAt e r (decide (ys.size ≤ xs.size)) 0 (min xs.size ys.size))))) s) := by
    intro prog w A R s ⟨⟨hl, hb⟩, he, hr, hR⟩
    obtain ⟨hp, g, d, tk, os⟩ := s
    have f3 := AutoSeq1.sub_list_list
    wp_walk using wpAny_loadPart' hl, wpAny_loadPart' hb
    refine ⟨plainId_quiet plain_eq_loop _, codeAny_builtin entry_eq_loop ?_⟩
    rw [Around.under_plainId plain_eq_loop _]
    exact ge_from l b xs ys n m d1 d2 sl sm e r _ 0 (by simp) prog w A R _ ⟨⟨hl, hb⟩, he, hr, hR⟩
  exact richCompare_meets_room (op := .GtE) ⟨_, ho, rfl⟩ ⟨_, hp, rfl⟩ F.slot_list_ge F.entry_list_ge (F.args_list_ge_2 _ _) go ⟨⟨ho, hp⟩, he, hr, (fun x => nomatch x), hq⟩ hu
end GQ
set_option Elab.async false
set_option linter.all false
set_option maxRecDepth 100000
set_option maxHeartbeats 4000000
namespace UL
open PySem PySem.Spec PyProof.Rows L2 PySem.SeqAt
open Ob (RcOp lexAt lexAt_zero lexAt_succ)
/-! ### the orders of nested lists and tuples of whole numbers -/
def opI : CmpOp → Int → Int → Bool
  | .Lt, a, b => decide (a < b)
  | .LtE, a, b => decide (a ≤ b)
  | .Gt, a, b => decide (b < a)
  | .GtE, a, b => decide (b ≤ a)
  | _, _, _ => false
def opN : CmpOp → Nat → Nat → Bool
  | .Lt, a, b => decide (a < b)
  | .LtE, a, b => decide (a ≤ b)
  | .Gt, a, b => decide (b < a)
  | .GtE, a, b => decide (b ≤ a)
  | _, _, _ => false
mutual
def ordV (o : CmpOp) : PyData → PyData → Bool
  | .int a, .int b => opI o a b
  | .list xs, .list ys => ordL o (opN o xs.length ys.length) xs ys
  | .tuple xs, .tuple ys => ordL o (opN o xs.length ys.length) xs ys
  | _, _ => false
def ordL (o : CmpOp) (z : Bool) : List PyData → List PyData → Bool
  | x :: xs, y :: ys => if PyData.eqv x y = true then ordL o z xs ys else ordV o x y
  | [], _ => z
  | _ :: _, [] => z
end
mutual
/-- they can be ordered: whole numbers where they first differ -/
def ordOk : PyData → PyData → Bool
  | .int _, .int _ => true
  | .list xs, .list ys => ordOkL xs ys
  | .tuple xs, .tuple ys => ordOkL xs ys
  | _, _ => false
def ordOkL : List PyData → List PyData → Bool
  | x :: xs, y :: ys => (PyData.eqv x y || ordOk x y) && ordOkL xs ys
  | [], _ => true
  | _ :: _, [] => true
end
inductive IsOrd : CmpOp → Prop
  | lt : IsOrd .Lt
  | le : IsOrd .LtE
  | gt : IsOrd .Gt
  | ge : IsOrd .GtE
theorem rc_int {o : CmpOp} (ho : IsOrd o) {A : Around} {s : Shared} (a b : Int) (t u : Tok) : RcOp o A s (.int a t) (.int b u) (opI o a b) := by
  cases ho
  · exact RcOp.lt_int a b t u
  · exact RcOp.le_int a b t u
  · exact RcOp.gt_int a b t u
  · exact RcOp.ge_int a b t u
theorem rc_lists {o : CmpOp} (ho : IsOrd o) {A : Around} {s : Shared} {l b : Addr} {xs ys : Array Value} {e r : Nat → Bool} (hl : s.heap.IsList l xs) (hb : s.heap.IsList b ys) (hu : A.units < cLine) (he : ∀ j (h1 : j < xs.size) (h2 : j < ys.size), EqAt A.in1 s xs[j] ys[j] (e j))
    (hr : ∀ j (h1 : j < xs.size) (h2 : j < ys.size), e j = false → RcOp o A.in1 s xs[j] ys[j] (r j)) : RcOp o A s (.ref l) (.ref b) (lexAt e r (opN o xs.size ys.size) 0 (min xs.size ys.size)) := by
  cases ho
  · exact GQ.lists_lt hl hb hu he hr
  · exact GQ.lists_le hl hb hu he hr
  · exact GQ.lists_gt hl hb hu he hr
  · exact GQ.lists_ge hl hb hu he hr
theorem rc_tups {o : CmpOp} (ho : IsOrd o) {A : Around} {s : Shared} {l b : Addr} {xs ys : Array Value} {e r : Nat → Bool} (hl : s.heap.IsTuple l xs) (hb : s.heap.IsTuple b ys) (hu : A.units < cLine) (he : ∀ j (h1 : j < xs.size) (h2 : j < ys.size), EqAt A.in1 s xs[j] ys[j] (e j))
    (hr : ∀ j (h1 : j < xs.size) (h2 : j < ys.size), e j = false → RcOp o A.in1 s xs[j] ys[j] (r j)) : RcOp o A s (.ref l) (.ref b) (lexAt e r (opN o xs.size ys.size) 0 (min xs.size ys.size)) := by
  cases ho
  · exact RcOp.tuples_lt hl hb hu he hr
  · exact RcOp.tuples_le hl hb hu he hr
  · exact RcOp.tuples_gt hl hb hu he hr
  · exact RcOp.tuples_ge hl hb hu he hr
theorem lex_ordL {o : CmpOp} {z : Bool} {e r : Nat → Bool} : ∀ (xs ys : List PyData) (i : Nat), (∀ j, e (i + j) = pairEq xs ys j) → (∀ j, j < min xs.length ys.length → r (i + j) = ordV o (xs.getD j .none) (ys.getD j .none)) →
    lexAt e r z i (min xs.length ys.length) = ordL o z xs ys
  | [], ys, i, _, _ => by
    rw [show min ([] : List PyData).length ys.length = 0 by simp, lexAt_zero]
    cases ys <;> simp [ordL]
  | x :: xs, [], i, _, _ => by
    rw [show min (x :: xs).length ([] : List PyData).length = 0 by simp, lexAt_zero]
    simp [ordL]
  | x :: xs, y :: ys, i, he, hr => by
    rw [show min (x :: xs).length (y :: ys).length = min xs.length ys.length + 1 by simp only [List.length_cons]; omega, lexAt_succ]
    have e0 := he 0
    have r0 := hr 0 (by simp only [List.length_cons]; omega)
    rw [Nat.add_zero] at e0 r0
    rw [e0, r0, lex_ordL xs ys (i + 1) (fun j => by rw [show i + 1 + j = i + (j + 1) by omega, he (j + 1)]; rfl) (fun j hj => by
      rw [show i + 1 + j = i + (j + 1) by omega, hr (j + 1) (by simp only [List.length_cons]; omega)]; rfl)]
    rw [ordL]
    rfl
theorem ra_len {h : Heap} : ∀ {vs : List Value} {ds : List PyData} {as : List Addr}, ReadsAll h vs ds as → vs.length = ds.length
  | _, _, _, .nil => rfl
  | _, _, _, .cons _ t => congrArg (· + 1) (ra_len t)
mutual
theorem rc_data {o : CmpOp} (ho : IsOrd o) : ∀ (d e : PyData) (A : Around) (s : Shared) (u v : Value) (as bs : List Addr), Reads s.heap u d as → Reads s.heap v e bs → ordOk d e = true → d.canLay0 = true → e.canLay0 = true → A.units + d.depth < cLine →
    RcOp o A s u v (ordV o d e)
  | .int a, e, A, s, _, _, _, _, r1, r2, h, _, _, hu => by
    cases e <;> simp only [ordOk, Bool.false_eq_true] at h
    cases r1
    cases r2
    rw [ordV]
    exact rc_int ho _ _ _ _
  | .list xs, e, A, s, _, _, _, _, r1, r2, h, l1, l2, hu => by
    cases e <;> simp only [ordOk, Bool.false_eq_true] at h
    rename_i ys
    have m1 : PyData.canLayAll0 xs = true := by simpa [PyData.canLay0] using l1
    have m2 : PyData.canLayAll0 ys = true := by simpa [PyData.canLay0] using l2
    have hd : (PyData.list xs).depth = PyData.depthAll xs + 1 := by simp [PyData.depth]
    cases r1 with
    | list p1 p2 p3 p4 =>
      rename_i oa vs na aa
      cases r2 with
      | list q1 q2 q3 q4 =>
        rename_i ob ws nb bb
        have n1 : vs.size = xs.length := by rw [← Array.length_toList]; exact ra_len p4
        have n2 : ws.size = ys.length := by rw [← Array.length_toList]; exact ra_len q4
        have step := rc_lists ho (A := A) (s := s) (e := pairEq xs ys) (r := fun j => ordV o (xs.getD j .none) (ys.getD j .none)) ⟨_, p1, p2, _, p3⟩ ⟨_, q1, q2, _, q3⟩ (by omega) (fun j h1 h2 => by
          have k := eqAt_readsAll xs ys A.in1 s _ _ _ _ p4 q4 m1 m2 (by have : A.in1.units = A.units + 1 := rfl; omega) j (by simpa using h1) (by simpa using h2)
          simpa using k) (fun j h1 h2 hj => by
          have k := rc_dataAll ho xs ys A.in1 s _ _ _ _ p4 q4 h m1 m2 (by have : A.in1.units = A.units + 1 := rfl; omega) j (by simpa using h1) (by simpa using h2) hj
          simpa using k)
        rw [n1, n2, lex_ordL xs ys 0 (fun j => by rw [Nat.zero_add]) (fun j _ => by rw [Nat.zero_add])] at step
        rw [ordV]
        exact step
  | .tuple xs, e, A, s, _, _, _, _, r1, r2, h, l1, l2, hu => by
    cases e <;> simp only [ordOk, Bool.false_eq_true] at h
    rename_i ys
    have m1 : PyData.canLayAll0 xs = true := by simpa [PyData.canLay0] using l1
    have m2 : PyData.canLayAll0 ys = true := by simpa [PyData.canLay0] using l2
    have hd : (PyData.tuple xs).depth = PyData.depthAll xs + 1 := by simp [PyData.depth]
    cases r1 with
    | tuple p1 p2 p3 p4 =>
      rename_i aa oa vs na
      cases r2 with
      | tuple q1 q2 q3 q4 =>
        rename_i bb ob ws nb
        have n1 : vs.size = xs.length := by rw [← Array.length_toList]; exact ra_len p4
        have n2 : ws.size = ys.length := by rw [← Array.length_toList]; exact ra_len q4
        have step := rc_tups ho (A := A) (s := s) (e := pairEq xs ys) (r := fun j => ordV o (xs.getD j .none) (ys.getD j .none)) ⟨_, p1, p2, _, p3⟩ ⟨_, q1, q2, _, q3⟩ (by omega) (fun j h1 h2 => by
          have k := eqAt_readsAll xs ys A.in1 s _ _ _ _ p4 q4 m1 m2 (by have : A.in1.units = A.units + 1 := rfl; omega) j (by simpa using h1) (by simpa using h2)
          simpa using k) (fun j h1 h2 hj => by
          have k := rc_dataAll ho xs ys A.in1 s _ _ _ _ p4 q4 h m1 m2 (by have : A.in1.units = A.units + 1 := rfl; omega) j (by simpa using h1) (by simpa using h2) hj
          simpa using k)
        rw [n1, n2, lex_ordL xs ys 0 (fun j => by rw [Nat.zero_add]) (fun j _ => by rw [Nat.zero_add])] at step
        rw [ordV]
        exact step
  | .none, _, _, _, _, _, _, _, _, _, h, _, _, _ => by simp [ordOk] at h
  | .bool _, _, _, _, _, _, _, _, _, _, h, _, _, _ => by simp [ordOk] at h
  | .str _, _, _, _, _, _, _, _, _, _, h, _, _, _ => by simp [ordOk] at h
  | .dict _, _, _, _, _, _, _, _, _, _, h, _, _, _ => by simp [ordOk] at h
theorem rc_dataAll {o : CmpOp} (ho : IsOrd o) : ∀ (xs ys : List PyData) (A : Around) (s : Shared) (us vs : List Value) (as bs : List Addr), ReadsAll s.heap us xs as → ReadsAll s.heap vs ys bs → ordOkL xs ys = true → PyData.canLayAll0 xs = true → PyData.canLayAll0 ys = true →
    A.units + PyData.depthAll xs < cLine → ∀ j (h1 : j < us.length) (h2 : j < vs.length), pairEq xs ys j = false → RcOp o A s us[j] vs[j] (ordV o (xs.getD j .none) (ys.getD j .none))
  | [], _, _, _, _, _, _, _, ra, _, _, _, _, _, j, h1, _, _ => by cases ra; exact absurd h1 (Nat.not_lt_zero _)
  | _ :: _, [], _, _, _, _, _, _, _, rb, _, _, _, _, j, _, h2, _ => by cases rb; exact absurd h2 (Nat.not_lt_zero _)
  | x :: xs, y :: ys, A, s, _, _, _, _, ra, rb, h, m1, m2, hu, j, h1, h2, hj => by
    have a1 : x.canLay0 = true ∧ PyData.canLayAll0 xs = true := by simpa [PyData.canLayAll0] using m1
    have a2 : y.canLay0 = true ∧ PyData.canLayAll0 ys = true := by simpa [PyData.canLayAll0] using m2
    have hh : (PyData.eqv x y = true ∨ ordOk x y = true) ∧ ordOkL xs ys = true := by simpa [ordOkL] using h
    have hd : x.depth ≤ PyData.depthAll (x :: xs) ∧ PyData.depthAll xs ≤ PyData.depthAll (x :: xs) := by
      simp only [PyData.depthAll]
      omega
    cases ra with
    | cons ra1 ra2 =>
      cases rb with
      | cons rb1 rb2 =>
        cases j with
        | zero =>
          have hj' : PyData.eqv x y = false := hj
          have ok : ordOk x y = true := by
            rcases hh.1 with z | z
            · rw [hj'] at z
              cases z
            · exact z
          exact rc_data ho x y A s _ _ _ _ ra1 rb1 ok a1.1 a2.1 (by omega)
        | succ j => exact rc_dataAll ho xs ys A s _ _ _ _ ra2 rb2 hh.2 a1.2 a2.2 (by omega) j (Nat.lt_of_succ_lt_succ h1) (Nat.lt_of_succ_lt_succ h2) hj
end
/-- x op y of data that can be ordered -/
def rOrdD (K : PySem.W.Frag) (o : CmpOp) : R2 := fun x y H Q => ∃ d e, Dp K H x d ∧ Dp K H y e ∧ ordOk d e = true ∧ d.canLay0 = true ∧ e.canLay0 = true ∧ d.depth ≤ 60 ∧ Q (.bl (ordV o d e)) H
section
variable {X : Cx}
theorem op_ordD {o : CmpOp} (ho : IsOrd o) (hu : X.A.units + 64 < cLine) : OpR X (compareOp o) (rOrdD X.K o) := by
  intro pins s σ H x y v u Q I rx ry h
  obtain ⟨d, e, hd, he, ok, l1, l2, dp, q⟩ := h
  obtain ⟨as, r1⟩ := Dp.reads I d x v hd rx
  obtain ⟨bs, r2⟩ := Dp.reads I e y u he ry
  have go := rc_data ho d e X.A s v u as bs r1 r2 ok l1 l2 (by omega) X.prog X.w X.xe _ (show EP X pins σ Q (.bool (ordV o d e)) s from ⟨.bl _, H, I, rfl, q⟩)
  cases ho <;> exact go
end
end UL
set_option Elab.async false
set_option linter.all false
set_option maxRecDepth 100000
set_option maxHeartbeats 4000000
namespace UL
open PySem PySem.Spec PyProof.Rows L2
/-! ### comprehensions whose elements leave the heap's objects alone (but a pot) -/
section
variable {J : It} {n : Nat} {G : Hp → Prop} {Y : Nat → Hp → V → Hp → Prop} {g : TG} {tt : TT} {te : TE} {vs : List Nat} {σ : L2.St} {H1 : Hp} {D : Addr} {Qd : Hp → Prop}
/-- what lc_it says -/
def LcW (J : It) (g : TG) (tt : TT) (te : TE) (vs : List Nat) (σ : L2.St) (H1 : Hp) (D : Addr) (Qd : Hp → Prop) : Prop :=
    ∃ W : Nat → Nat → Hp → Prop, (∃ m, W 0 m (upd H1 D (.lst []))) ∧ ∀ i m H, W i m H →
      (J.stop i H ∧ Qd H) ∨ (J.go i H ∧ ∃ Nx : Hp → Prop, (∀ H', Nx H' → ∃ m', m' < m ∧ W (i + 1) m' H') ∧ ∀ x H', J.yld i H x H' → g x (wipe σ vs) H' fun σ2 H2 => wipe σ2 vs = wipe σ vs ∧ tt σ2 H2 fun b H3 =>
        if b = true then te σ2 H3 fun y H4 => ∃ acc, H4 D = some (.lst acc) ∧ acc.length < sizeLine ∧ Nx (upd H4 D (.lst (acc ++ [y]))) else Nx H3)
/-- the i-th element is f i -/
theorem lc_same (w : Walk J n G Y) (hD : H1 D = none) (f : Nat → V) (hn : n ≤ 16000000) (hG : ∀ H, L2.Same H1 H → G H)
    (hs : ∀ i x H H', i < n → L2.Same H1 H → Y i H x H' → ∀ R : V → Hp → Prop, (∀ H4, L2.Same H H4 → R (f i) H4) → g x (wipe σ vs) H' fun σ2 H2 => wipe σ2 vs = wipe σ vs ∧ te σ2 H2 R)
    (hd : ∀ H, L2.Same H1 H → H D = some (.lst ((List.range n).map f)) → Qd H) : LcW J g tYes te vs σ H1 D Qd := by
  refine lc_it w (fun i H => H D = some (.lst ((List.range i).map f)) ∧ L2.Same H1 H) ⟨upd_same, same_new hD⟩ (fun i H _ p => hG H p.2) (fun i x H H' hi p y => ?_) fun H p => hd H p.2 p.1
  refine hs i x H H' hi p.2 y _ fun H4 s4 => ?_
  refine ⟨_, s4 _ _ p.1, line_gt (by rw [List.length_map, List.length_range]; omega), ?_, ?_⟩
  · rw [List.range_succ, List.map_append]
    exact upd_same
  · intro b o e
    rw [upd_ne (ne_of_none e hD)]
    exact s4 _ _ (p.2 _ _ e)
/-- some of them are kept -/
theorem lc_filt (w : Walk J n G Y) (hD : H1 D = none) (b : Nat → Bool) (f : Nat → V) (hn : n ≤ 16000000) (hG : ∀ H, L2.Same H1 H → G H)
    (hs : ∀ i x H H', i < n → L2.Same H1 H → Y i H x H' → ∀ (R : V → Hp → Prop) (Z : Hp → Prop), (b i = true → ∀ H4, L2.Same H H4 → R (f i) H4) → (b i = false → ∀ H4, L2.Same H H4 → Z H4) → g x (wipe σ vs) H' fun σ2 H2 => wipe σ2 vs = wipe σ vs ∧ tt σ2 H2 fun c H3 => if c = true then te σ2 H3 R else Z H3)
    (hd : ∀ H, L2.Same H1 H → H D = some (.lst (((List.range n).filter b).map f)) → Qd H) : LcW J g tt te vs σ H1 D Qd := by
  refine lc_it w (fun i H => H D = some (.lst (((List.range i).filter b).map f)) ∧ L2.Same H1 H) ⟨upd_same, same_new hD⟩ (fun i H _ p => hG H p.2) (fun i x H H' hi p y => ?_) fun H p => hd H p.2 p.1
  refine hs i x H H' hi p.2 y _ _ (fun c H4 s4 => ?_) fun c H4 s4 => ?_
  · refine ⟨_, s4 _ _ p.1, line_gt (by rw [List.length_map]; have := List.length_filter_le b (List.range i); rw [List.length_range] at this; omega), ?_, ?_⟩
    · rw [List.range_succ, List.filter_append, List.map_append, List.filter_cons_of_pos c]
      exact upd_same
    · intro b o e
      rw [upd_ne (ne_of_none e hD)]
      exact s4 _ _ (p.2 _ _ e)
  · refine ⟨?_, p.2.trans s4⟩
    rw [List.range_succ, List.filter_append, List.map_append, List.filter_cons_of_neg (by rw [c]; exact Bool.false_ne_true)]
    simp only [List.filter_nil, List.map_nil, List.append_nil]
    exact s4 _ _ p.1
/-- all but lists stay -/
def Keep (H H' : Hp) : Prop := ∀ b o, H b = some o → (∀ xs, o ≠ .lst xs) → H' b = some o
theorem Keep.refl (H : Hp) : Keep H H := fun _ _ h _ => h
theorem Keep.trans {H H1 H2 : Hp} (a : Keep H H1) (b : Keep H1 H2) : Keep H H2 := fun c o h n => b c o (a c o h n) n
theorem Same.keep {H H' : Hp} (s : L2.Same H H') : Keep H H' := fun b o h _ => s b o h
theorem Stay.keep {H H' : Hp} {p : Addr} (s : Stay p H H') (hp : Pot H p) : Keep H H' := fun b o h n => by
  obtain ⟨x, y, e, _⟩ := hp
  exact s b o (fun z => n _ (Option.some.inj (h.symm.trans (by rw [z]; exact e)))) h
theorem Keep.ins {H H' : Hp} {a C dx : Addr} {fs : List (Str × V)} (k : Keep H H') (h : H a = some (.ins C dx fs)) : H' a = some (.ins C dx fs) := k _ _ h fun xs z => by cases z
theorem Keep.tup {H H' : Hp} {a : Addr} {xs : List V} (k : Keep H H') (h : H a = some (.tup xs)) : H' a = some (.tup xs) := k _ _ h fun xs z => by cases z
/-- the elements tell R; a pot may change -/
theorem lc_stay (w : Walk J n G Y) {p : Addr} (hD : H1 D = none) (hp : Pot H1 p) (R : Nat → V → Hp → Prop)
    (mono : ∀ i v H H', R i v H → (∃ xs, H D = some (.lst xs)) → Pot H p → (∀ b o, b ≠ p → b ≠ D → H b = some o → H' b = some o) → R i v H') (hn : n ≤ 16000000) (hG : ∀ H, Stay p H1 H → Pot H p → G H)
    (hs : ∀ i x H H', i < n → Stay p H1 H → Pot H p → Y i H x H' → ∀ Z : V → Hp → Prop, (∀ y H4, R i y H4 → Stay p H H4 → Pot H4 p → Z y H4) → g x (wipe σ vs) H' fun σ2 H2 => wipe σ2 vs = wipe σ vs ∧ te σ2 H2 Z)
    (hd : ∀ H ys, ys.length = n → (∀ i y, ys[i]? = some y → R i y H) → Stay p H1 H → Pot H p → H D = some (.lst ys) → Qd H) : LcW J g tYes te vs σ H1 D Qd := by
  obtain ⟨a0, b0, e0, _⟩ := id hp
  have np : D ≠ p := (ne_of_none e0 hD).symm
  refine lc_it w (fun i H => ∃ ys : List V, ys.length = i ∧ (∀ j y, ys[j]? = some y → R j y H) ∧ H D = some (.lst ys) ∧ Stay p H1 H ∧ Pot H p) ⟨[], rfl, fun j y z => by simp at z, upd_same, Same.stay (same_new hD) p, hp.same (same_new hD)⟩
    (fun i H _ ⟨_, _, _, _, s, q⟩ => hG H s q) (fun i x H H' hi ⟨ys, l, r, d, s, q⟩ y => ?_) fun H ⟨ys, l, r, d, s, q⟩ => hd H ys l r s q d
  refine hs i x H H' hi s q y _ fun y H4 ry s4 q4 => ?_
  have d4 : H4 D = some (.lst ys) := s4 _ _ np d
  have mv : ∀ (b : Addr) (o : HO), b ≠ p → b ≠ D → H4 b = some o → upd H4 D (.lst (ys ++ [y])) b = some o := fun b o _ n e => by rw [upd_ne n]; exact e
  refine ⟨ys, d4, line_gt (by omega), ys ++ [y], by rw [List.length_append, l]; rfl, fun j z hz => ?_, upd_same, ?_, ?_⟩
  · rw [List.getElem?_append] at hz
    split at hz
    · exact mono j z H4 _ (mono j z H H4 (r j z hz) ⟨_, d⟩ q fun b o n1 _ e => s4 b o n1 e) ⟨_, d4⟩ q4 mv
    · have e : j = i ∧ y = z := by
        have hl : j - ys.length < 1 := by
          have := (List.getElem?_eq_some_iff.mp hz).1
          simpa using this
        have : j - ys.length = 0 := by omega
        rw [this] at hz
        simp at hz
        exact ⟨by omega, hz⟩
      obtain ⟨rfl, rfl⟩ := e
      exact mono _ _ H4 _ ry ⟨_, d4⟩ q4 mv
  · intro b o n e
    rw [upd_ne (ne_of_none e hD)]
    exact s4 _ _ n (s _ _ n e)
  · obtain ⟨a4, b4, e4, r4⟩ := q4
    exact ⟨a4, b4, by rw [upd_ne np.symm]; exact e4, r4⟩
/-- .. where R speaks of no lists -/
theorem lc_keep (w : Walk J n G Y) {p : Addr} (hD : H1 D = none) (hp : Pot H1 p) (R : Nat → V → Hp → Prop) (mono : ∀ i v H H', R i v H → Keep H H' → R i v H') (hn : n ≤ 16000000) (hG : ∀ H, Stay p H1 H → Pot H p → G H)
    (hs : ∀ i x H H', i < n → Stay p H1 H → Pot H p → Y i H x H' → ∀ Z : V → Hp → Prop, (∀ y H4, R i y H4 → Stay p H H4 → Pot H4 p → Z y H4) → g x (wipe σ vs) H' fun σ2 H2 => wipe σ2 vs = wipe σ vs ∧ te σ2 H2 Z)
    (hd : ∀ H ys, ys.length = n → (∀ i y, ys[i]? = some y → R i y H) → Stay p H1 H → Pot H p → H D = some (.lst ys) → Qd H) : LcW J g tYes te vs σ H1 D Qd :=
  lc_stay w hD hp R (fun i v H H' r ⟨xs, d⟩ ⟨a, b, e, _⟩ k => mono i v H H' r fun c o h n => k c o (fun z => n _ (Option.some.inj (h.symm.trans ((congrArg H z).trans e)))) (fun z => n _ (Option.some.inj (h.symm.trans ((congrArg H z).trans d)))) h) hn hG hs hd
end
/-- row by row -/
def Each {α : Type} (R : V → α → Prop) (vs : List V) (ds : List α) : Prop := vs.length = ds.length ∧ ∀ (i : Nat) v d, vs[i]? = some v → ds[i]? = some d → R v d
section
variable {α : Type} {R R' : V → α → Prop}
theorem Each.nil : Each R [] [] := ⟨rfl, fun i v d h => by simp at h⟩
theorem Each.imp {vs : List V} {ds : List α} (e : Each R vs ds) (h : ∀ v d, R v d → R' v d) : Each R' vs ds := ⟨e.1, fun i v d h1 h2 => h v d (e.2 i v d h1 h2)⟩
theorem Each.cons {v : V} {d : α} {vs : List V} {ds : List α} (h : R v d) (e : Each R vs ds) : Each R (v :: vs) (d :: ds) := ⟨by rw [List.length_cons, List.length_cons, e.1], fun i x y h1 h2 => by
  cases i with
  | zero =>
    simp at h1 h2
    rw [← h1, ← h2]
    exact h
  | succ i => exact e.2 i x y (by simpa using h1) (by simpa using h2)⟩
theorem Each.app {vs us : List V} {ds es : List α} (a : Each R vs ds) (b : Each R us es) : Each R (vs ++ us) (ds ++ es) := by
  induction vs generalizing ds with
  | nil =>
    cases ds with
    | nil => exact b
    | cons d ds => exact absurd a.1 (by simp)
  | cons v vs ih =>
    cases ds with
    | nil => exact absurd a.1 (by simp)
    | cons d ds => exact Each.cons (a.2 0 v d rfl rfl) (ih ⟨by have := a.1; simpa using this, fun i x y h1 h2 => a.2 (i + 1) x y (by simpa using h1) (by simpa using h2)⟩)
theorem Each.one {v : V} {d : α} (h : R v d) : Each R [v] [d] := Each.cons h Each.nil
theorem Each.at {vs : List V} {ds : List α} (e : Each R vs ds) {i : Nat} {v : V} (h : vs[i]? = some v) : ∃ d, ds[i]? = some d ∧ R v d := by
  have hl := (List.getElem?_eq_some_iff.mp h).1
  have hl2 : i < ds.length := by rw [← e.1]; exact hl
  exact ⟨ds[i], List.getElem?_eq_getElem hl2, e.2 i v _ h (List.getElem?_eq_getElem hl2)⟩
theorem Each.atD {vs : List V} {ds : List α} (e : Each R vs ds) {i : Nat} {d : α} (h : ds[i]? = some d) : ∃ v, vs[i]? = some v ∧ R v d := by
  have hl := (List.getElem?_eq_some_iff.mp h).1
  have hl2 : i < vs.length := by rw [e.1]; exact hl
  exact ⟨vs[i], List.getElem?_eq_getElem hl2, e.2 i _ d (List.getElem?_eq_getElem hl2) h⟩
theorem Each.of_map {β : Type} {f : β → V} {g : β → α} {l : List β} (h : ∀ x ∈ l, R (f x) (g x)) : Each R (l.map f) (l.map g) := ⟨by simp, fun i v d h1 h2 => by
  rw [List.getElem?_map] at h1 h2
  obtain ⟨x, e1, rfl⟩ := Option.map_eq_some_iff.mp h1
  obtain ⟨y, e2, rfl⟩ := Option.map_eq_some_iff.mp h2
  rw [e1] at e2
  cases e2
  exact h x (List.mem_of_getElem? e1)⟩
end
/-- a row written by its places -/
theorem range_map {α : Type} {f : Nat → α} {l : List α} (h : ∀ i (hi : i < l.length), f i = l[i]) : (List.range l.length).map f = l := by
  refine List.ext_getElem (by simp) fun i h1 h2 => ?_
  rw [List.getElem_map, List.getElem_range]
  exact h i h2
end UL
set_option Elab.async false
set_option linter.all false
set_option maxRecDepth 100000
set_option maxHeartbeats 4000000
namespace UL
open PySem PySem.Spec PyProof.Rows L2
section
variable {J : It} {n : Nat} {G : Hp → Prop} {Y : Nat → Hp → V → Hp → Prop} {g : TG} {tb : TS} {σ : L2.St} {H1 : Hp} {D : Ends}
/-- a for whose turns leave all objects alone: P by the turn and the slots -/
theorem fr_same (w : Walk J n G Y) (P : Nat → L2.St → Prop) (h0 : P 0 σ) (hG : ∀ H, L2.Same H1 H → G H)
    (hs : ∀ i x σ H H', i < n → L2.Same H1 H → P i σ → Y i H x H' → ∀ Z : L2.St → Hp → Prop, (∀ σ2 H2, P (i + 1) σ2 → L2.Same H H2 → Z σ2 H2) → g x σ H' fun σ2 H2 => tb { D with nx := Z, ct := Z, bk := D.nx } σ2 H2)
    (hd : ∀ σ H, P n σ → L2.Same H1 H → D.nx σ H) : WalkE J g tb D σ H1 :=
  for_it w (fun i σ H => P i σ ∧ L2.Same H1 H) ⟨h0, L2.Same.refl _⟩ (fun i σ H _ p => hG H p.2) (fun i x σ H H' hi p y => hs i x σ H H' hi p.2 p.1 y _ fun σ2 H2 p2 s2 => ⟨p2, p.2.trans s2⟩) fun σ H p => hd σ H p.1 p.2
/-- .. but a pot: P by the turn, the slots and the heap -/
theorem fr_stay (w : Walk J n G Y) {p : Addr} (hp : Pot H1 p) (P : Nat → L2.St → Hp → Prop) (h0 : P 0 σ H1) (hG : ∀ H, Stay p H1 H → Pot H p → G H)
    (hs : ∀ i x σ H H', i < n → Stay p H1 H → Pot H p → P i σ H → Y i H x H' → ∀ Z : L2.St → Hp → Prop, (∀ σ2 H2, P (i + 1) σ2 H2 → Stay p H H2 → Pot H2 p → Z σ2 H2) → g x σ H' fun σ2 H2 => tb { D with nx := Z, ct := Z, bk := D.nx } σ2 H2)
    (hd : ∀ σ H, P n σ H → Stay p H1 H → Pot H p → D.nx σ H) : WalkE J g tb D σ H1 :=
  for_it w (fun i σ H => P i σ H ∧ Stay p H1 H ∧ Pot H p) ⟨h0, Stay.refl _ _, hp⟩ (fun i σ H _ q => hG H q.2.1 q.2.2) (fun i x σ H H' hi q y => hs i x σ H H' hi q.2.1 q.2.2 q.1 y _ fun σ2 H2 p2 s2 q2 => ⟨p2, q.2.1.trans s2, q2⟩) fun σ H q => hd σ H q.1 q.2.1 q.2.2
end
theorem over_look2 {H : Hp} {x p : Addr} {o o' u : HO} (h : H p = some u) (hx : H x = some o') (n : u ≠ o') : upd H x o p = some u := by rw [upd_ne (ne_of h hx n)]; exact h
theorem kit_own {K : PySem.W.Frag} {C : Addr} : PySem.W.kitOne K (.ref C) (.ref C) = some true := by simp [PySem.W.kitOne]
/-! ### parts of rows -/
theorem cut_to (xs : List V) (i : Nat) : cutV xs none (some (i : Int)) = xs.take i := by
  unfold cutV
  rw [HT.sIx_nat, HT.sIx_none, List.drop_zero, Nat.sub_zero]
  rcases Nat.le_total i xs.length with h | h
  · rw [Nat.min_eq_left h]
  · rw [Nat.min_eq_right h, List.take_of_length_le (Nat.le_refl _), List.take_of_length_le h]
theorem cut_from (xs : List V) (i : Nat) : cutV xs (some (i : Int)) none = xs.drop i := by
  unfold cutV
  rw [HT.sIx_nat, HT.sIx_none]
  rcases Nat.le_total i xs.length with h | h
  · rw [Nat.min_eq_left h]
    exact List.take_of_length_le (by simp)
  · rw [Nat.min_eq_right h, List.drop_of_length_le (Nat.le_refl _), List.drop_of_length_le h, List.take_nil]
theorem range_getD {l : List V} {d : V} : (List.range l.length).map (fun i => l.getD i d) = l := range_map fun i h => by simp [h]
theorem flat_strs (xs : List Str) : (xs.map V.str).all flatV = true := by simp [flatV]
theorem flat_ints (xs : List Int) : (xs.map V.int).all flatV = true := by simp [flatV]
theorem in_strs (x : Str) (xs : List Str) : inV (.str x) (xs.map V.str) = decide (x ∈ xs) := by
  unfold inV
  rw [Bool.eq_iff_iff, List.any_eq_true, decide_eq_true_iff]
  constructor
  · rintro ⟨v, hv, e⟩
    obtain ⟨y, hy, rfl⟩ := List.mem_map.mp hv
    have : x = y ∨ y = x := by
      simp [eqV] at e
      first | exact .inl e | exact .inr e
    rcases this with rfl | rfl <;> exact hy
  · intro h
    exact ⟨.str x, List.mem_map.mpr ⟨x, h, rfl⟩, eqV_self_str x⟩
theorem not_ahead {α : Type} : ∀ {l : List α} {i : Nat} {x : α}, l.Nodup → l[i]? = some x → x ∉ l.take i
  | [], i, x, _, h => by simp at h
  | y :: l, 0, x, _, _ => by simp
  | y :: l, i + 1, x, nd, h => by
    rw [List.nodup_cons] at nd
    have h' : l[i]? = some x := by simpa using h
    intro hm
    rw [List.take_succ_cons, List.mem_cons] at hm
    rcases hm with rfl | hm
    · exact nd.1 (List.mem_of_getElem? h')
    · exact not_ahead nd.2 h' hm
/-- t + u of tuples, any -/
def rCatS : R2 := fun x y H Q => ∃ a b xs ys, x = .ref a ∧ y = .ref b ∧ H a = some (.tup xs) ∧ H b = some (.tup ys) ∧ xs.length + ys.length ≤ sizeLine ∧ ∀ p H', L2.Same H H' → H' p = some (.tup (xs ++ ys)) → Q (.ref p) H'
theorem op_catS {X : Cx} : OpR X (binaryOp .Add) rCatS := by
  intro pins s σ H x y v u Q I rx ry h
  obtain ⟨a, b, xs, ys, rfl, rfl, ha, hb, hz, q⟩ := h
  refine op_catA pins s σ H _ _ v u Q I rx ry ⟨a, b, xs, ys, rfl, rfl, SqT.of ha, SqT.of hb, hz, fun e => ?_, fun _ e => ?_, fun _ _ p hp => ?_⟩
  · refine q b H (L2.Same.refl _) ?_
    rw [e]
    exact hb
  · refine q a H (L2.Same.refl _) ?_
    rw [e, List.append_nil]
    exact ha
  · exact q p _ (same_new hp) upd_same
theorem walk_enumT {K : PySem.W.Frag} {a : Addr} {xs : List V} : Walk (Itet K a) xs.length (fun H => SqT K H a xs) (YPair (fun i => some (.int (i : Nat))) (fun i => xs[i]?)) := by
  refine ⟨fun i _ hi q => ⟨xs, xs[i], q, by simp [hi]⟩, fun _ q => ⟨xs, q, rfl⟩, fun i H v H' _ q y => ?_⟩
  obtain ⟨T, x, h1, h2, h3, h4⟩ := y
  exact ⟨T, .int (i : Nat), x, h1, h2, h3, rfl, h4 xs q⟩
/-- a thing that comes once at most stands once at most -/
theorem once_ahead {l : List Str} {x : Str} (h : l.count x ≤ 1) {i : Nat} (hi : l[i]? = some x) : x ∉ l.take i := by
  intro hm
  have e : l = l.take i ++ l.drop i := (List.take_append_drop i l).symm
  have h2 : x ∈ l.drop i := by
    refine List.mem_of_getElem? (i := 0) ?_
    rw [List.getElem?_drop, Nat.add_zero]
    exact hi
  have h3 := List.count_pos_iff.mpr hm
  have h4 := List.count_pos_iff.mpr h2
  rw [e, List.count_append] at h
  omega
theorem mem_take_succ {l : List Str} {x y : Str} {i : Nat} (hi : l[i]? = some y) : x ∈ l.take (i + 1) ↔ x ∈ l.take i ∨ x = y := by
  have hl := (List.getElem?_eq_some_iff.mp hi)
  obtain ⟨h1, h2⟩ := hl
  rw [List.take_succ_eq_append_getElem h1, List.mem_append, List.mem_singleton, h2]
/-! ### what is read within a comprehension speaks of the same fragment -/
theorem pe_conv {X : Cx} {e : Expr} {t t' : TE} (h : PE X e t) (q : t = t') : PE X e t' := q ▸ h
theorem pts_conv {X : Cx} {es : List Expr} {t t' : TT} (h : PTs X es t) (q : t = t') : PTs X es t' := q ▸ h
theorem blk_K {X : Cx} {s : Shared} {H : Hp} {scope : Scope} {env : Env} {fp : List Addr} : (X.blk s H scope env fp).K = X.K := rfl
theorem nox_K {X : Cx} : X.nox.K = X.K := rfl
theorem cxOf_K {CX : CXT} {P : Program} {w : World} {K : PySem.W.Frag} {mg : Str → Option Value} {base : Heap} {N : List Str} {qual : Str} {scope : Scope} {f : Addr} {cdv : Value} {A : Around} {outer : List Env} {s : Shared} {H : Hp} {E : XK} : (cxOf CX P w K mg base N qual scope f cdv A outer s H E).K = K := rfl
/-- where a text stands first -/
theorem idx_strs {al : List Str} {l : Str} (h : l ∈ al) : (al.map V.str)[al.idxOf l]? = some (.str l) ∧ eqV (.str l) (.str l) = true ∧ ∀ (m : Nat) (z : V), m < al.idxOf l → (al.map V.str)[m]? = some z → eqV z (.str l) = false := by
  have hl := List.idxOf_lt_length_iff.mpr h
  refine ⟨by rw [List.getElem?_map, List.getElem?_eq_getElem hl, List.getElem_idxOf hl]; rfl, eqV_self_str l, fun m z hm hz => ?_⟩
  rw [List.getElem?_map] at hz
  obtain ⟨y, hy, rfl⟩ := Option.map_eq_some_iff.mp hz
  have ne : y ≠ l := by
    intro e
    have := List.not_of_lt_findIdx (p := (· == l)) (xs := al) hm
    obtain ⟨h1, h2⟩ := List.getElem?_eq_some_iff.mp hy
    simp only [h2, e] at this
    simp at this
  simp only [eqV]
  simpa using ne
theorem ty_lst {K : PySem.W.Frag} {H : Hp} {p : Addr} {xs : List V} (h : H p = some (.lst xs)) : tyV K "list" (.ref p) H := .inl ⟨rfl, xs, SqL.of h⟩
theorem Stay.seqL {K : PySem.W.Frag} {p l : Addr} {H H' : Hp} {xs : List V} (s : Stay p H H') (n : l ≠ p) (h : SqL K H l xs) : SqL K H' l xs := by
  rcases h with (h | ⟨o, h⟩) | h
  · exact .inl (.inl (s _ _ n h))
  · exact .inl (.inr ⟨o, s _ _ n h⟩)
  · exact .inr h
theorem Stay.lookN {H H' : Hp} {p a : Addr} {o : HO} (s : Stay p H H') (n : a ≠ p) (h : H a = some o) : H' a = some o := s _ _ n h
theorem ne_pot {H : Hp} {b p : Addr} (hb : H b = none) (hp : Pot H p) : b ≠ p := by
  obtain ⟨x, y, e, _⟩ := hp
  exact ne_new hb e
/-- one of a written row -/
theorem at_ints {ns : List Int} {i : Nat} {v : V} (h : (ns.map V.int)[i]? = some v) : ∃ n ∈ ns, v = .int n := by
  rw [List.getElem?_map] at h
  obtain ⟨n, h1, h2⟩ := Option.map_eq_some_iff.mp h
  exact ⟨n, List.mem_of_getElem? h1, h2.symm⟩
theorem at_strs {ns : List Str} {i : Nat} {v : V} (h : (ns.map V.str)[i]? = some v) : ∃ n ∈ ns, v = .str n := by
  rw [List.getElem?_map] at h
  obtain ⟨n, h1, h2⟩ := Option.map_eq_some_iff.mp h
  exact ⟨n, List.mem_of_getElem? h1, h2.symm⟩
/-- a written row of texts, found in the heap -/
theorem strs_of {ys : List V} {R : Str → Prop} (h : ∀ (i : Nat) y, ys[i]? = some y → ∃ x, R x ∧ y = .str x) : ∃ zs : List Str, ys = zs.map V.str ∧ ∀ z ∈ zs, R z := by
  induction ys with
  | nil => exact ⟨[], rfl, fun z h => by cases h⟩
  | cons y ys ih =>
    obtain ⟨x, rx, rfl⟩ := h 0 y rfl
    obtain ⟨zs, e, hz⟩ := ih fun i z hz => h (i + 1) z (by simpa using hz)
    exact ⟨x :: zs, by rw [e]; rfl, fun z hz' => by
      rcases List.mem_cons.mp hz' with rfl | hz'
      · exact rx
      · exact hz z hz'⟩
theorem Stay.over {H H' : Hp} {p D : Addr} {o : HO} (s : Stay p H H') (hD : H D = none) : Stay p H (upd H' D o) := fun b u n e => by rw [upd_ne (ne_of_none e hD)]; exact s b u n e
theorem Pot.over {H : Hp} {p D : Addr} {o : HO} (h : Pot H p) (n : D ≠ p) : Pot (upd H D o) p := by
  obtain ⟨a, b, e, r⟩ := h
  exact ⟨a, b, by rw [upd_ne n.symm]; exact e, r⟩
/-- a statement that the walk leaves alone -/
@[irreducible] def Hold (P : Prop) : Prop := P
theorem Hold.mk {P : Prop} (h : P) : Hold P := by unfold Hold; exact h
theorem Hold.out {P : Prop} (h : Hold P) : P := by unfold Hold at h; exact h
theorem range_filt {l : List Str} {d : Str} (b : Str → Bool) (f : Str → V) {n : Nat} (hn : n = l.length) : ((List.range n).filter fun u => b (l.getD u d)).map (fun u => f (l.getD u d)) = (l.filter b).map f := by
  subst hn
  have e : (List.range l.length).map (fun u => l.getD u d) = l := range_map fun i h => by simp [h]
  have h := List.filter_map (p := b) (f := fun u => l.getD u d) (l := List.range l.length)
  rw [e] at h
  rw [h, List.map_map]
  rfl
/-- a datum for each of a row -/
theorem each_choose {α : Type} : ∀ {ys : List V} {R : Nat → V → α → Prop}, (∀ (i : Nat) y, ys[i]? = some y → ∃ k, R i y k) → ∃ ks : List α, ks.length = ys.length ∧ ∀ (i : Nat) y k, ys[i]? = some y → ks[i]? = some k → R i y k
  | [], R, h => ⟨[], rfl, fun i y k e => by simp at e⟩
  | y :: ys, R, h => by
    obtain ⟨k, hk⟩ := h 0 y rfl
    obtain ⟨ks, l, h2⟩ := each_choose (ys := ys) (R := fun i => R (i + 1)) fun i z e => h (i + 1) z (by simpa using e)
    refine ⟨k :: ks, by simp [l], fun i z q e1 e2 => ?_⟩
    cases i with
    | zero =>
      simp at e1 e2
      subst e1 e2
      exact hk
    | succ i => exact h2 i z q (by simpa using e1) (by simpa using e2)
theorem Stay.none {H H' : Hp} {p D : Addr} (s : Stay p H H') (hp : Pot H' p) (h : H' D = none) : H D = none := by
  cases e : H D with
  | none => rfl
  | some o =>
    by_cases c : D = p
    · obtain ⟨a, b, e', _⟩ := hp
      rw [c, e'] at h
      cases h
    · rw [s _ _ c e] at h
      cases h
theorem at_strs' {ns : List Str} {i : Nat} {v : V} (h : (ns.map V.str)[i]? = some v) : ∃ n, ns[i]? = some n ∧ v = .str n := by
  rw [List.getElem?_map] at h
  obtain ⟨n, h1, h2⟩ := Option.map_eq_some_iff.mp h
  exact ⟨n, h1, h2.symm⟩
/-- an if whose one way ends; what comes behind is shown once -/
theorem seq_if {t : TT} {a u : TS} {D : Ends} {σ : L2.St} {H : Hp} (P : Hp → Prop) (rest : ∀ H', P H' → u D σ H') (h : (∀ H', P H' → u D σ H') → tIfS t a tNext { D with nx := u D } σ H) : tSeq (tIfS t a tNext) u D σ H := h rest
theorem gname_go {i : Nat} {x : V} {σ : L2.St} {H : Hp} {Q : L2.St → Hp → Prop} (h : Q (σ.set i (some x)) H) : gName i x σ H Q := h
end UL
set_option Elab.async false
set_option linter.all false
set_option maxRecDepth 100000
set_option maxHeartbeats 4000000
namespace UL
open PySem PySem.Spec PyProof.Rows L2 PySem.SeqAt
/-! ### xs.count(y) of data -/
theorem DpAll.len {K : PySem.W.Frag} {H : Hp} : ∀ {vs : List V} {ds : List PyData}, DpAll K H vs ds → vs.length = ds.length
  | _, _, .nil => rfl
  | _, _, .cons _ q => by rw [List.length_cons, List.length_cons, DpAll.len q]
def rCntD (K : PySem.W.Frag) : V → List V → Hp → VK → Prop := fun x xs H Q => ∃ (p : Addr) (ys : List V) (ds : List PyData) (v : V) (d : PyData), x = .ref p ∧ xs = [v] ∧ SqL K H p ys ∧ DpAll K H ys ds ∧ Dp K H v d ∧ PyData.plainAll ds = true ∧ d.plain = true ∧ d.depth ≤ 40 ∧ Q (.int ((ds.countP fun y => PyData.eqv y d : Nat) : Int)) H
theorem mt_dcount {X : Cx} (hu : X.A.units + 64 < cLine) : MtR X "list.count" (rCntD X.K) := by
  intro pins s σ H x xs v us Q I rx rxs h
  obtain ⟨p, ys, ds, y, d, rfl, rfl, hs, hds, hd, p1, p2, dp, q⟩ := h
  cases rx
  obtain ⟨u, rfl, ru⟩ := rxs.one
  obtain ⟨its, rv, hl, hlen⟩ := I.list hs
  obtain ⟨as, r1⟩ := Dp.readsAll I ds ys its hds rv
  obtain ⟨bs, r2⟩ := Dp.reads I d y u hd ru
  exact count_list_data hl.isList (by simpa using r1) r2 p1 p2 (by omega) ⟨.int _, H, I.tok _, ⟨_, rfl⟩, q⟩
/-! ### orders of rows of whole numbers -/
theorem eqv_int (a b : Int) : PyData.eqv (.int a) (.int b) = decide (a = b) := PySem.W.Datum.eqv a b
theorem eqv_ints (xs ys : List Int) : PyData.eqvAll (xs.map PyData.int) (ys.map PyData.int) = decide (xs = ys) := PySem.W.eqvAll_map xs ys
theorem ordL_lt : ∀ (z : Bool) (xs ys : List Int), (z = decide (xs.length < ys.length)) → ordL .Lt z (xs.map PyData.int) (ys.map PyData.int) = decide (xs < ys)
  | z, [], [], e => by
    subst e
    simp [ordL]
  | z, [], y :: ys, e => by
    subst e
    simp [ordL]
  | z, x :: xs, [], e => by
    subst e
    simp [ordL]
  | z, x :: xs, y :: ys, e => by
    simp only [List.map_cons, ordL, eqv_int]
    by_cases c : x = y
    · rw [if_pos (decide_eq_true c), ordL_lt z xs ys (by rw [e]; simp), decide_eq_decide, List.cons_lt_cons_iff]
      subst c
      simp
    · have hh : decide (x :: xs < y :: ys) = decide (x < y ∨ x = y ∧ xs < ys) := decide_eq_decide.mpr List.cons_lt_cons_iff
      rw [if_neg (by simpa using c), hh]
      simp [ordV, opI, c]
theorem ordL_le : ∀ (z : Bool) (xs ys : List Int), (z = decide (xs.length ≤ ys.length)) → ordL .LtE z (xs.map PyData.int) (ys.map PyData.int) = decide (xs ≤ ys)
  | z, [], [], e => by
    subst e
    simp [ordL]
  | z, [], y :: ys, e => by
    subst e
    simp [ordL]
  | z, x :: xs, [], e => by
    subst e
    simp [ordL]
  | z, x :: xs, y :: ys, e => by
    simp only [List.map_cons, ordL, eqv_int]
    by_cases c : x = y
    · rw [if_pos (decide_eq_true c), ordL_le z xs ys (by rw [e]; simp), decide_eq_decide, List.cons_le_cons_iff]
      subst c
      simp
    · have hh : decide (x :: xs ≤ y :: ys) = decide (x < y ∨ x = y ∧ xs ≤ ys) := decide_eq_decide.mpr List.cons_le_cons_iff
      rw [if_neg (by simpa using c), hh]
      simp [ordV, opI, c]
      try omega
/-- a row put into a row in order, at the first place behind all that are below -/
theorem ins_sorted {α : Type} {r : α → α → Prop} (tot : ∀ a b, r a b ∨ r b a) (tr : ∀ a b c, r a b → r b c → r a c) {l : List α} {x : α} {i : Nat} (h : l.Pairwise r) (lo : ∀ y ∈ l.take i, r y x) (hi : ∀ y, l[i]? = some y → r x y) : (l.take i ++ [x] ++ l.drop i).Pairwise r := by
  have e : l = l.take i ++ l.drop i := (List.take_append_drop i l).symm
  rw [e, List.pairwise_append] at h
  obtain ⟨h1, h2, h3⟩ := h
  have hx : ∀ y ∈ l.drop i, r x y := by
    cases hd : l.drop i with
    | nil => exact fun y hy => by cases hy
    | cons y ys =>
      have h0 : l[i]? = some y := by
        have : (l.drop i)[0]? = some y := by rw [hd]; rfl
        rw [List.getElem?_drop, Nat.add_zero] at this
        exact this
      rw [hd, List.pairwise_cons] at h2
      exact fun z hz => by
        rcases List.mem_cons.mp hz with rfl | hz
        · exact hi _ h0
        · exact tr _ _ _ (hi _ h0) (h2.1 z hz)
  rw [List.append_assoc, List.pairwise_append]
  refine ⟨h1, ?_, fun a ha b hb => ?_⟩
  · rw [List.singleton_append, List.pairwise_cons]
    exact ⟨hx, h2⟩
  · rcases List.mem_append.mp hb with hb | hb
    · rw [List.mem_singleton.mp hb]
      exact lo a ha
    · exact h3 a ha b hb
theorem ins_perm {α : Type} (l : List α) (x : α) (i : Nat) : (l.take i ++ [x] ++ l.drop i).Perm (x :: l) := by
  have h := @List.perm_middle _ x (l.take i) (l.drop i)
  rw [List.take_append_drop] at h
  simpa using h
/-- what a def does that is run with n values, its star empty -/
@[irreducible] def spW (n : Nat) (sp : Sp) : Sp := fun vs H Q E => vs.length = n + 1 ∧ ∀ p, H p = Option.none → sp (vs ++ [V.ref p]) (upd H p (.tup [])) Q E
/-- an if whose one way ends; what comes behind is shown once, and hidden within -/
theorem seq_ifN {t : TT} {a u : TS} {D : Ends} {σ : L2.St} {H : Hp} (P : Hp → Prop) (rest : ∀ H', P H' → u D σ H') (h : ∀ Nx : L2.St → Hp → Prop, (∀ H', P H' → Nx σ H') → tIfS t a tNext { D with nx := Nx } σ H) : tSeq (tIfS t a tNext) u D σ H := h _ rest
section
variable {J : It} {n : Nat} {G : Hp → Prop} {Y : Nat → Hp → V → Hp → Prop} {g : TG} {te : TE} {vs : List Nat} {σ : L2.St} {H1 : Hp} {D : Addr} {Qd : Hp → Prop}
/-- the elements tell R, objects made on the way too; nothing changes but the row itself -/
theorem lc_made (w : Walk J n G Y) (hD : H1 D = none) (R : Nat → V → Hp → Prop)
    (mono : ∀ i v H H', R i v H → (∀ b o, b ≠ D → H b = some o → H' b = some o) → R i v H') (hn : n ≤ 16000000) (hG : ∀ H, L2.Same H1 H → G H)
    (hs : ∀ i x H H', i < n → L2.Same H1 H → (∃ xs, H D = some (.lst xs)) → Y i H x H' → ∀ Z : V → Hp → Prop, (∀ y H4, R i y H4 → L2.Same H H4 → Z y H4) → g x (wipe σ vs) H' fun σ2 H2 => wipe σ2 vs = wipe σ vs ∧ te σ2 H2 Z)
    (hd : ∀ H ys, ys.length = n → (∀ i y, ys[i]? = some y → R i y H) → L2.Same H1 H → H D = some (.lst ys) → Qd H) : LcW J g tYes te vs σ H1 D Qd := by
  refine lc_it w (fun i H => ∃ ys : List V, ys.length = i ∧ (∀ j y, ys[j]? = some y → R j y H) ∧ H D = some (.lst ys) ∧ L2.Same H1 H) ⟨[], rfl, fun j y z => by simp at z, upd_same, same_new hD⟩
    (fun i H _ ⟨_, _, _, _, s⟩ => hG H s) (fun i x H H' hi ⟨ys, l, r, d, s⟩ y => ?_) fun H ⟨ys, l, r, d, s⟩ => hd H ys l r s d
  refine hs i x H H' hi s ⟨_, d⟩ y _ fun y H4 ry s4 => ?_
  have d4 : H4 D = some (.lst ys) := s4 _ _ d
  have mv : ∀ (b : Addr) (o : HO), b ≠ D → H4 b = some o → upd H4 D (.lst (ys ++ [y])) b = some o := fun b o n e => by rw [upd_ne n]; exact e
  refine ⟨ys, d4, line_gt (by omega), ys ++ [y], by rw [List.length_append, l]; rfl, fun j z hz => ?_, upd_same, ?_⟩
  · rw [List.getElem?_append] at hz
    split at hz
    · exact mono j z H4 _ (mono j z H H4 (r j z hz) fun b o _ e => s4 b o e) mv
    · have e : j = i ∧ y = z := by
        have hl : j - ys.length < 1 := by
          have := (List.getElem?_eq_some_iff.mp hz).1
          simpa using this
        have : j - ys.length = 0 := by omega
        rw [this] at hz
        simp at hz
        exact ⟨by omega, hz⟩
      obtain ⟨rfl, rfl⟩ := e
      exact mono _ _ H4 _ ry mv
  · intro b o e
    rw [upd_ne (ne_of_none e hD)]
    exact s4 _ _ (s _ _ e)
end
end UL
set_option Elab.async false
set_option linter.all false
set_option maxRecDepth 100000
set_option maxHeartbeats 4000000
namespace UL
open PySem PySem.Spec PyProof.Rows L2
/-- a while whose turns are counted up to n at most -/
theorem while_up {c : TT} {tb : TS} {D : Ends} {σ : L2.St} {H : Hp} (n : Nat) (Pv : Nat → L2.St → Hp → Prop) (h0 : Pv 0 σ H)
    (hs : ∀ i σ H, i ≤ n → Pv i σ H → ∀ R : Bool → Hp → Prop, (∀ H1, (i < n ∧ tb { D with nx := Pv (i + 1), ct := Pv (i + 1), bk := D.nx } σ H1) → R true H1) → (∀ H1, D.nx σ H1 → R false H1) → c σ H R) : tWhile c tb D σ H := by
  refine ⟨fun m σ H => ∃ i, m = n - i ∧ i ≤ n ∧ Pv i σ H, ⟨n, 0, by simp, Nat.zero_le _, h0⟩, ?_⟩
  rintro m σ H ⟨i, rfl, hi, p⟩
  refine hs i σ H hi p _ (fun H1 q => ?_) fun H1 q => ?_
  · rw [if_pos rfl]
    exact ⟨Pv (i + 1), fun σ' H' p' => ⟨n - (i + 1), by have := q.1; omega, i + 1, rfl, q.1, p'⟩, q.2⟩
  · rw [if_neg Bool.false_ne_true]
    exact q
/-- both ways of a conditional expression hand on what P tells -/
theorem ite_any {c : Bool} {ta tb : TE} {σ : L2.St} {H : Hp} {Q : VK} (P : V → Hp → Prop) (ha : c = true → ∀ Q : VK, (∀ v H', P v H' → Q v H') → ta σ H Q) (hb : c = false → ∀ Q : VK, (∀ v H', P v H' → Q v H') → tb σ H Q) (h : ∀ v H', P v H' → Q v H') :
    if c = true then ta σ H Q else tb σ H Q := by
  cases c with
  | true => rw [if_pos rfl]; exact ha rfl Q h
  | false => rw [if_neg Bool.false_ne_true]; exact hb rfl Q h
theorem sq_past {K : PySem.W.Frag} {a p : Addr} {H H1 H2 : Hp} {xs : List V} (h : SqL K H a xs) (hp : H p = none) (s : L2.Same H H1) (st : Stay p H1 H2) : SqL K H2 a xs := by
  rcases h with (h | ⟨o, h⟩) | h
  · exact .inl (.inl (st _ _ (ne_of_none h hp) (s _ _ h)))
  · exact .inl (.inr ⟨o, st _ _ (ne_of_none h hp) (s _ _ h)⟩)
  · exact .inr h
theorem sq_same {K : PySem.W.Frag} {a : Addr} {H H1 : Hp} {xs : List V} (h : SqL K H a xs) (s : L2.Same H H1) : SqL K H1 a xs := by
  rcases h with (h | ⟨o, h⟩) | h
  · exact .inl (.inl (s _ _ h))
  · exact .inl (.inr ⟨o, s _ _ h⟩)
  · exact .inr h
theorem sq_off {K : PySem.W.Frag} {a D : Addr} {H : Hp} {xs : List V} (h : SqL K H a xs) (hD : H D = none) : ∀ (H2 : Hp) (o : HO), SqL K H2 a xs → SqL K (upd H2 D o) a xs := by
  intro H2 o h2
  have key : a ≠ D → SqL K (upd H2 D o) a xs := fun n => by
    rcases h2 with (h2 | ⟨u, h2⟩) | h2
    · exact .inl (.inl (by rw [upd_ne n]; exact h2))
    · exact .inl (.inr ⟨u, by rw [upd_ne n]; exact h2⟩)
    · exact .inr h2
  rcases h with (h | ⟨u, h⟩) | h
  · exact key (ne_of_none h hD)
  · exact key (ne_of_none h hD)
  · exact .inr h
/-- all of a row of truths -/
theorem all_true {n : Nat} : ((List.replicate n true).all id) = true := by
  rw [List.all_eq_true]
  intro x hx
  rw [List.eq_of_mem_replicate hx]
  rfl
end UL
namespace PySem.W
open PySem.Spec PyProof.Rows
section
variable {prog : Program} {w : World} {A : Around} {E : Value → Shared → Prop} {s : Shared} {K : Frag} {x C L f : Addr} {h₀ : Heap} {m : Str → Option Value} {ox : Obj} {od : Option Obj} {b tb : Value}
/-- x != b where the class has an own == alone -/
theorem ne_K {Q : Value → Shared → Prop} (hu : A.units + 1 < cLine) (F : Fr h₀ L s.heap m) (X₀ : K.In h₀) (I : InstAt s.heap x ox C od) (hb : Looks (model prog w) s.heap (typeOf b) tb) (hn : notFirst K C tb = true)
    (hne : findIn K (.ref C) "__ne__" = some (some (.builtin "object.__ne__"))) (hob : mroIn K C (.type "object") = some true) (hs : findIn K (.ref C) "__eq__" = some (some (.ref f))) (hf : isFn K (.ref f) = true)
    (h : wpAny (model prog w) A.in1 (call (.ref f) [.ref x, b]) (fun v s' => ∃ c, v = .bool c ∧ Q (.bool (!c)) s') E s) : wpAny (model prog w) A (richCompare .NotEq (.ref x) b) Q E s := by
  have X := X₀.keeps F.keep
  have S := PySem.F.cmp_object.ne
  have entry : ∀ {R : Fin → Shared → Prop}, (∀ c s', Q (.bool (!c)) s' → R (.done (.ret (.bool (!c)))) s') → wpAny (model prog w) A.in1 (Builtin.«object.__ne__» ⟨[.ref x, b], []⟩) R E s := fun {R} hR => by
    unfold Builtin.«object.__ne__»
    repeat (first
      | with_reducible refine wpAny_cRoomFor (show A.in1.units < cLine from hu) ?_
      | (refine wpAny_bind (m := callSpecialIfBound? (.ref x) (Str.ofString "__eq__") [b])
          (ifBound_K X I hs hf (wpAny_mono h (fun r s' hr => by
            obtain ⟨c, rfl, hq⟩ := hr
            repeat (first | exact hR _ _ hq | exact wpAny_pure (hR _ _ hq) | (refine wpAny_bind (m := truthy (.bool _)) (wpAny_truthy_bool ?_)) | wp_step)) fun _ _ e => e)))
      | wp_step)
  have one : wpAny (model prog w) A (tryCompare (.ref x) (cmpInfo .NotEq).2.1 b) (fun r s' => ∃ v, r = some v ∧ Q v s') E s := by
    unfold tryCompare
    refine wpAny_bind (m := callSpecialIfBound? (.ref x) (cmpInfo .NotEq).2.1 [b]) ?_
    simp only [callSpecialIfBound?, bindSpecialIfBound?]
    refine wpAny_holding (wpAny_bind (wpAny_bind (wpAny_bind (I.type.here ((looks_findIn X (show findIn K (.ref C) (cmpInfo .NotEq).2.1 = _ from hne)).here ?_)))))
    simp only [S.bind]
    refine wpAny_bind (wpAny_askSetting (wpAny_ite ?_))
    have sub : Looks (model prog w) s.heap (isInstance (.ref x) (.type "object")) true := I.type.andThen (looks_mroIn X hob)
    have fin : wpAny (model prog w) A (call (.builtin "object.__ne__") ([.ref x] ++ [b]) >>= fun v => pure (some v)) (fun r s' => wpAny (model prog w) A (match r with | some .notImplemented | none => pure none | some r => pure (some r)) (fun r s' => ∃ v, r = some v ∧ Q v s') E s') E s := by
      refine wpAny_bind (wpAny_call (codeAny_call_builtin S.plain PySem.F.cmpEntry_ne (check_slot PySem.F.cmpKind_ne PySem.F.cmpSplit_ne sub (PySem.F.cmpArgs_ne _ _) (entry fun c s' q => ?_))))
      exact wpAny_pure (wpAny_pure ⟨_, rfl, q⟩)
    split
    · exact wpAny_bind (wpAny_pure (wpAny_pure fin))
    · exact wpAny_tryCatch (wpAny_bind (wpAny_pure (wpAny_pure fin)))
  unfold richCompare
  simp only [oneThing_ref]
  refine wpAny_holding (wpAny_bind (wpAny_cRoomFor (Nat.lt_of_succ_lt hu) ?_))
  refine wpAny_bind (I.type.here (wpAny_bind (hb.here ?_)))
  split
  · rename_i q
    have e : subIn K tb (.ref C) = some false := by
      rcases Bool.or_eq_true_iff.mp hn with e | e
      · rw [beq_iff_eq.mp e] at q; simp at q
      · exact beq_iff_eq.mp e
    refine wpAny_bind ((looks_subIn X e).here ?_)
    simp only [Bool.false_eq_true, if_false]
    refine wpAny_bind (wpAny_mono one (fun r s' z => ?_) fun _ _ e => e)
    obtain ⟨v, rfl, hq⟩ := z
    exact wpAny_pure hq
  · refine wpAny_bind (wpAny_pure ?_)
    simp only [Bool.false_eq_true, if_false]
    refine wpAny_bind (wpAny_mono one (fun r s' z => ?_) fun _ _ e => e)
    obtain ⟨v, rfl, hq⟩ := z
    exact wpAny_pure hq
end
end PySem.W
namespace UL
open PySem PySem.Spec PyProof.Rows L2
section
variable {X : Cx} {CX : CXT} {C g : Addr} {n : Nat} {sp : Sp} {E : XK}
/-- x != y by the class's own == -/
def rNeI (K : PySem.W.Frag) (C : Addr) (sp : Sp) (E : XK) : R2 := fun x y H Q => ∃ (a dx : Addr) (fs : List (Str × V)) (t : Value), x = .ref a ∧ H a = some (.ins C dx fs) ∧ TyX K H y t ∧ PySem.W.notFirst K C t = true ∧ sp [x, y] H (fun z H' => ∃ c, z = .bl c ∧ Q (.bl (!c)) H') E
theorem op_neI (hne : PySem.W.findIn X.K (.ref C) "__ne__" = some (some (.builtin "object.__ne__"))) (ci : CIsi X.K C) (hs : PySem.W.findIn X.K (.ref C) "__eq__" = some (some (.ref g))) (hf : PySem.W.isFn X.K (.ref g) = true) (F : FnR X.prog X.w X.K X.mg X.base CX n g sp) (hr : Room (n + 1) X.A) (hx : Passes CX X E) :
    OpR X (compareOp .NotEq) (rNeI X.K C sp E) := by
  intro pins s σ H x y v u Q I rx ry h
  obtain ⟨a, dx, fs, t, rfl, ha, ty, hn, q⟩ := h
  cases (show v = Value.ref a from rx)
  obtain ⟨mA, O, _⟩ := ins_get I.hok ha
  obtain ⟨od, J, _⟩ := O.look
  obtain ⟨m, hF⟩ := I.fr
  obtain ⟨Pk, Z, pk, _⟩ := kit_of I ry ty
  show wpAny _ _ (richCompare .NotEq (.ref a) u) _ _ _
  refine PySem.W.ne_K (show X.A.units + 1 < cLine from hr.in1.units0) hF I.ok.mod.kin J (Z.ty _ _ I.kIn pk) hn hne ci.cm hs hf ?_
  refine wpAny_mono (wpAny_call (SlX.run_at (us := [.ref a, u]) (ws := [.ref a, y]) F hr.in1 I.env0.in1 hx I (.cons rfl (.cons ry .nil)) q)) (fun r s' z => ?_) fun _ _ e => e
  obtain ⟨z', H', I', rz, c, ez, qz⟩ := z
  subst ez
  cases (show r = Value.bool c from rz)
  exact ⟨c, rfl, .bl (!c), H', I', rfl, qz⟩
variable {k j : Nat}
theorem op_neS (c : CalS X.prog X.w X.K X.mg X.base k C "__eq__" sp) (hne : PySem.W.findIn X.K (.ref C) "__ne__" = some (some (.builtin "object.__ne__"))) (ci : CIsi X.K C) (hr : Room j X.A) (hk : k + 1 ≤ j) : OpR X (compareOp .NotEq) (rNeI X.K C sp E0) := by
  obtain ⟨f, F, h1, h2⟩ := c
  exact op_neI hne ci h1 h2 F (hr.mono hk) pass0
end
end UL
set_option Elab.async false
set_option linter.all false
set_option maxRecDepth 100000
set_option maxHeartbeats 4000000
/-! ### own exceptions over any built-in base, their __init__ walked as a def -/
namespace UL
open PySem PySem.Spec PyProof.Rows L2
open PySem.Builtin PySem.Builtin.ObjectAttr
/-- what the written part says of such a class -/
structure ExB (K : PySem.W.Frag) (C : Addr) (B newId initId : String) (bmB : List Value) : Prop where
  fb : ExcBaseFacts B newId initId bmB
  sf : StoreFacts B bmB "object.__setattr__" "object"
  cls : ∃ nm q N bs bm sn sub ab col dd k0 k1 k2 k3 k5, K.lookup C = some (excClassObj nm q C N bs bm true sn sub ab col dd k0 k1 k2 k3 k5 newId) ∧ PySem.W.excTail bmB bm = true
  sa : PySem.W.findIn K (.ref C) "__setattr__" = some (some (.builtin "object.__setattr__"))
  exC : PySem.W.subIn K (.ref C) (.type "BaseException") = some true
  tyC : PySem.W.typeIn K (.ref C) = some (.type "type")
  kC : PySem.W.keepIn K (.ref C) = true
section
variable {K : PySem.W.Frag} {C : Addr} {B newId initId : String} {bmB : List Value}
theorem ExB.has (T : ExB K C B newId initId bmB) : ∃ cd, PySem.W.clsIn K C = some cd ∧ cd.hasDict = true ∧ PySem.W.excOver K C bmB = true := by
  obtain ⟨nm, q, N, bs, bm, sn, sub, ab, col, dd, k0, k1, k2, k3, k5, hC, ht⟩ := T.cls
  have e : PySem.W.clsIn K C = some { name := nm, bases := bs, mro := .ref C :: bm, ns := N, qualname := q, hasDict := true, slotNames := sn, subclasses := sub, abstract := ab, collection := col, hasDel := false } := by
    unfold PySem.W.clsIn
    rw [hC] <;> rfl
  refine ⟨_, e, rfl, ?_⟩
  unfold PySem.W.excOver
  rw [e]
  simp [ht]
theorem taker_none {f : Str} (h : PySem.W.findIn K (.ref C) f = some none) : PySem.W.takerIn K C f = some none := by
  unfold PySem.W.takerIn
  rw [h]
  rfl
end
section
variable {X : Cx} {pins : List (Addr × Obj)} {σ : L2.St} {H : Hp} {s : Shared} {a C dx : Addr} {f : Str} {y : V} {u : Value} {fs : List (Str × V)} {Q : Unit → Shared → Prop} {E : Value → Shared → Prop} {A : Around} {B newId initId : String} {bmB : List Value}
/-- self.f = y on one that has no dict yet -/
theorem exs_new (T : ExB X.K C B newId initId bmB) (I : Inv X pins σ H s) (e : H a = some (exo a C none)) (hno : PySem.W.findIn X.K (.ref C) f = some none) (ry : RelV y u)
    (h : ∀ dx s', H dx = none → dx ≠ a → Inv X pins σ (upd (upd H dx (exd dx [(f, y)])) a (exo a C (some dx))) s' → Q () s') : wpAny (model X.prog X.w) A (setAttr (.ref a) f u) Q E s := by
  obtain ⟨cd, hcd, hdict, hover⟩ := T.has
  obtain ⟨t1, ho⟩ := exo_at I.hok e
  obtain ⟨hp, g, d, t, os⟩ := s
  have J : PySem.W.InstAt hp a { cls := .ref C, dict := none, data := .fields #[.ref t1, .none, .none, .none, .bool false, .none] } C none := ⟨ho, rfl, rfl, trivial⟩
  refine PySem.W.set_plain I.kIn J T.sa (PySem.W.osa_openX T.sf I.kIn J hover (taker_none hno) fun b => ?_)
  have hcl : PySem.W.Looks (model X.prog X.w) hp (classData C) cd := PySem.W.looks_clsIn I.kIn hcd
  have nx : a ≠ hp.objs.size := Nat.ne_of_lt (Heap.lt_size ho)
  show wpAny _ _ (storeInOwnDict (.ref a) (.ref C) _ f u b) _ _ _
  obtain ⟨nm, bs, mro, ns, qn, hd, sn, sb, ab, col, del⟩ := cd
  dsimp only at hdict
  subst hdict
  unfold storeInOwnDict ownDictForStores
  repeat (first
    | with_reducible refine PySem.HandSPX.store_in_new ?_ ?_
    | with_reducible refine wpAny_loadPart_at ho ?_
    | with_reducible refine hcl.at ?_
    | wp_step)
  · refine ⟨_, #[], _, (Heap.get?_update_ne _ _ _ _ nx.symm).trans (Heap.get?_push_at rfl rfl), rfl, ?_, fun _ => rfl⟩
    intro z hz
    exact absurd hz (by simp)
  · intro h' tk' hn hs
    have new : (hp.push { cls := .type "dict", data := .dict #[] }).get? a = some { cls := .ref C, data := .fields #[.ref t1, .none, .none, .none, .bool false, .none] } := Heap.get?_push_of_some _ ho
    have k : ∀ b o, b ≠ a → hp.get? b = some o → h'.get? b = some o := fun b o hb q =>
      (hs.2 b (Nat.ne_of_lt (Heap.lt_size q))).trans ((Heap.get?_update_ne _ _ _ _ hb).trans (Heap.get?_push_of_some _ q))
    have hx : h'.get? a = some { cls := .ref C, dict := some hp.objs.size, data := .fields #[.ref t1, .none, .none, .none, .bool false, .none] } := (hs.2 a nx).trans (Heap.get?_update_self _ new rfl)
    have hnd : H hp.objs.size = none := I.hok.fresh (Nat.le_refl _)
    have old : ∀ {b : Addr} {o : Obj}, hp.get? b = some o → b ≠ hp.objs.size := fun q => Nat.ne_of_lt (Heap.lt_size q)
    have off : ∀ {b : Addr}, H b = none → b ≠ a := fun n z => by
      rw [z, e] at n
      cases n
    have U : Un X.fs [] H (upd (upd H hp.objs.size (exd hp.objs.size [(f, y)])) a (exo a C (some hp.objs.size))) hp h' := by
      constructor
      case keep => exact fun b o q n _ _ => k b o (off n) q
      case slot => exact fun b o q n _ _ => ⟨o.slots, k b o (off n) q⟩
      case free => exact fun b o q n _ => by rw [upd_ne (off n), upd_ne (old q)]; exact n
      case there =>
        intro b o q _
        by_cases hb : b = a
        · exact ⟨_, by rw [hb]; exact hx⟩
        · exact ⟨o, k b o hb q⟩
      case tups => exact fun b xs q => by rw [upd_ne (at_ne e q exo_tup), upd_ne (ne_of_none q hnd)]; exact q
      case frzs => exact fun b o v q => by rw [upd_ne (at_ne e q exo_frz), upd_ne (ne_of_none q hnd)]; exact q
      case tbls =>
        intro b ps q
        refine ⟨#[], ?_⟩
        rw [upd_ne (at_ne e q exo_tbl), upd_ne (ne_of_none q hnd), q]
        simp
    have J2 := I.un (t' := tk') U fun b o q => by
      by_cases hb : b = a
      · subst hb
        rw [upd_same] at q
        cases q
        exact exo_ok hx
      rw [upd_ne hb] at q
      by_cases hd : b = hp.objs.size
      · subst hd
        rw [upd_same] at q
        cases q
        exact exd_ok hn (relO_put (fs := []) ry fun g => True.intro)
      rw [upd_ne hd] at q
      refine (I.hok b o q).stay (fun c v hc z => k c v ?_ z) (fun c hc => ?_) (fun c xs hc => ?_)
      · rcases hc with rfl | hc
        · exact hb
        · exact at_ne e hc exo_own
      · rw [upd_ne (at_ne e hc exo_own), upd_ne (ne_of_none hc hnd)]
        exact hc
      · rw [upd_ne (at_ne e hc exo_tup), upd_ne (ne_of_none hc hnd)]
        exact hc
    exact h hp.objs.size _ hnd nx.symm J2
/-- self.f = y on one that has its dict -/
theorem exs_old (T : ExB X.K C B newId initId bmB) (I : Inv X pins σ H s) (e : H a = some (exo a C (some dx))) (ed : H dx = some (exd dx fs)) (hl : fs.length ≤ 900) (hno : PySem.W.findIn X.K (.ref C) f = some none) (ry : RelV y u)
    (h : ∀ s', Inv X pins σ (upd H dx (exd dx ((f, y) :: fs))) s' → Q () s') : wpAny (model X.prog X.w) A (setAttr (.ref a) f u) Q E s := by
  obtain ⟨cd, hcd, hdict, hover⟩ := T.has
  obtain ⟨t1, ho⟩ := exo_at I.hok e
  obtain ⟨mA, hns, rel⟩ := exd_at I.hok ed
  have hw := within_of rel
  obtain ⟨hp, g, d, t, os⟩ := s
  obtain ⟨oD, _, _, hoD, _, _⟩ := hns.count hw
  have J : PySem.W.InstAt hp a { cls := .ref C, dict := some dx, data := .fields #[.ref t1, .none, .none, .none, .bool false, .none] } C (some oD) := ⟨ho, rfl, rfl, hoD⟩
  refine PySem.W.set_plain I.kIn J T.sa (PySem.W.osa_openX T.sf I.kIn J hover (taker_none hno) fun b => ?_)
  have hcl : PySem.W.Looks (model X.prog X.w) hp (classData C) cd := PySem.W.looks_clsIn I.kIn hcd
  show wpAny _ _ (storeInOwnDict (.ref a) (.ref C) _ f u b) _ _ _
  obtain ⟨nm, bs, mro, ns, qn, hd, sn, sb, ab, col, del⟩ := cd
  dsimp only at hdict
  subst hdict
  unfold storeInOwnDict ownDictForStores
  repeat (first
    | with_reducible refine PySem.OEX.store_in_old hns hw (by rw [List.length_map]; omega) ?_
    | with_reducible refine wpAny_loadPart_at ho ?_
    | with_reducible refine hcl.at ?_
    | wp_step)
  intro h' tk' hn hs
  have k : ∀ b o, b ≠ dx → hp.get? b = some o → h'.get? b = some o := fun b o hb q => (hs.2 b hb).trans q
  have there : ∃ o, h'.get? dx = some o := by
    obtain ⟨o, _, _, e', _⟩ := hn
    exact ⟨o, e'⟩
  exact h _ (I.write (t' := tk') (x := dx) (e := dx) (o := exd dx ((f, y) :: fs)) (by rw [ed]; exact True.intro) (.inl rfl) k there (exd_ok hn (relO_put ry rel)))
end
/-- self.f = e, self an exception of the class at C -/
def tExs (C : Addr) (f : Str) (to te : TE) : TS := fun D σ H => te σ H fun y H1 => to σ H1 fun x H2 => ∃ a : Addr, x = .ref a ∧
  ((H2 a = some (exo a C none) ∧ ∀ dx, H2 dx = none → dx ≠ a → D.nx σ (upd (upd H2 dx (exd dx [(f, y)])) a (exo a C (some dx)))) ∨
    ∃ (dx : Addr) (fs : List (Str × V)), H2 a = some (exo a C (some dx)) ∧ H2 dx = some (exd dx fs) ∧ fs.length ≤ 900 ∧ D.nx σ (upd H2 dx (exd dx ((f, y) :: fs))))
section
variable {X : Cx} {C : Addr} {B newId initId : String} {bmB : List Value} {o e : Expr} {es : List Expr} {to te : TE} {ta : TA} {f : Str} {p p' pos : Pos}
theorem ps_exs (T : ExB X.K C B newId initId bmB) (hno : PySem.W.findIn X.K (.ref C) f = some none) (he : PE X e te) (ho : PE X o to) (hs : swapsWith e (some (.Attribute o f p')) pos.line X.env = pure false := by rfl) : PS X (.Assign [.Attribute o f p'] e pos) (tExs C f to te) := by
  refine ⟨fun pins s σ H D I h => plainObj_wpAny_Assign_Attribute (thn (he.run pins s σ H _ I h) fun v s1 ⟨y, H1, I1, r1, q1⟩ => thn (ho.run pins s1 σ H1 _ I1 q1) fun u s2 ⟨x, H2, I2, r2, a, ex, q⟩ => ?_) hs⟩
  subst ex
  cases (show u = Value.ref a from r2)
  rcases q with ⟨ea, q⟩ | ⟨dx, fs, ea, ed, hl, q⟩
  · exact exs_new T I2 ea hno r1 fun dx s' n ne J => ⟨σ, _, J, q dx n ne⟩
  · exact exs_old T I2 ea ed hl hno r1 fun s' J => ⟨σ, _, J, q⟩
/-- what an __init__ does that keeps its values in these fields -/
def spExI (C : Addr) (fs : List Str) : Sp := fun vs H Q _ => ∃ (a : Addr) (ws : List V), vs = .ref a :: ws ∧ ws.length = fs.length ∧ H a = some (exo a C none) ∧
  ∀ (d : Addr) (H' : Hp), H d = none → d ≠ a → (H' = fun b => if b = a then some (exo a C (some d)) else if b = d then some (exd d (fs.zip ws).reverse) else H b) → Q .non H'
/-- C(e, ..): the error's class, its own new dict -/
def tMkE (C : Addr) (fs : List Str) (ta : TA) : L2.St → Hp → XK → Prop := fun σ H Q => ta σ H fun ws H1 => ws.length = fs.length ∧ ∀ d, H1 d = none → Q (.ref C) (some d) (upd H1 d (.xd (fs.zip ws).reverse))
theorem pmk_exB {x : Str} {fI : Addr} {k j : Nat} {fd : FuncData} {ps : List Str} {fs : List Str} (T : ExB X.K C B newId initId bmB) (iC : PySem.W.findIn X.K (.ref C) "__init__" = some (some (.ref fI))) (tI : PySem.W.typeIn X.K (.ref fI) = some (.type "function"))
    (F1 : FnOk X.prog X.w X.K X.mg X.base CX0 k fI fd ps (spExI C fs)) (hr : Room j X.A) (hk : k + 1 ≤ j) (hb : Binds X.K fd ps []) (hf : fs.length ≤ 1000) (hg : Gl X x) (hm : X.mg x = some (.ref C)) (ha : PA X (e :: es) ta)
    (hdb : (x == ("__debug__" : Str)) = false := by decide) (he : starEach (e :: es) X.env = (false, eval e X.env) :: starEach es X.env := by rfl) (hpl : (backTo pos (starEach es X.env)).any (·.1) = false := by rfl) :
    PMk X (.Call (.Name x p) (e :: es) [] pos) (tMkE C fs ta) := by
  intro pins s σ H Q I h
  obtain ⟨nm, q, N, bs, bm, sn, sub, ab, col, dd, k0, k1, k2, k3, k5, hC, ht⟩ := T.cls
  refine wpAny_Call_Name_kw (ld_glob I hg hm ?_ hdb)
  refine PySem.W.callWith_K (h₀ := X.base) I.ok.mod.kin T.kC (thn (ha.run pos pins s σ H _ I h) fun us s1 ⟨ws, H1, I1, r1, hz, q1⟩ => ⟨I1.kIn, ?_⟩) he hpl
  show wpAny _ _ (call (.ref C) us) _ _ _
  obtain ⟨hp, g, dr, tk, os⟩ := s1
  have hn : H1 (hp.objs.size + 1) = none := I1.hok.fresh (Nat.le_succ _)
  have keep : ∀ b o, hp.get? b = some o → ((hp.push (PySem.W.kdv_tup us)).push (PySem.HandSPX.excO C hp.objs.size)).get? b = some o := fun b o z => Heap.get?_push_of_some _ (Heap.get?_push_of_some _ z)
  have made : ((hp.push (PySem.W.kdv_tup us)).push (PySem.HandSPX.excO C hp.objs.size)).get? (hp.objs.size + 1) = some (PySem.HandSPX.excO C hp.objs.size) := by heap_get
  have I2 := I1.laid (t' := tk) (a := hp.objs.size + 1) (o := exo (hp.objs.size + 1) C none) (h' := (hp.push (PySem.W.kdv_tup us)).push (PySem.HandSPX.excO C hp.objs.size)) keep (Nat.le_succ _) (exo_ok made)
  have r2 : Vals (V.ref (hp.objs.size + 1) :: ws) (Value.ref (hp.objs.size + 1) :: us) := .cons rfl r1
  have body : spExI C fs (V.ref (hp.objs.size + 1) :: ws) (upd H1 (hp.objs.size + 1) (exo (hp.objs.size + 1) C none))
      (fun v H2 => v = .non ∧ ∃ (d : Addr) (gs : List (Str × V)), H2 (hp.objs.size + 1) = some (exo (hp.objs.size + 1) C (some d)) ∧ H2 d = some (exd d gs) ∧ H1 d = none ∧ Q (.ref C) (some d) (upd (del H2 (hp.objs.size + 1)) d (.xd gs))) (fun _ _ _ => False) := by
    refine ⟨_, ws, rfl, hz, upd_same, fun d H' hd hne hH => ⟨rfl, d, (fs.zip ws).reverse, ?_, ?_, ?_, ?_⟩⟩
    · rw [hH]
      exact if_pos rfl
    · rw [hH]
      show (if d = _ then _ else if d = d then _ else _) = _
      rw [if_neg hne, if_pos rfl]
    · rw [upd_ne hne] at hd
      exact hd
    · have hd1 : H1 d = none := by
        rw [upd_ne hne] at hd
        exact hd
      have eH : upd (del H' (hp.objs.size + 1)) d (.xd (fs.zip ws).reverse) = upd H1 d (.xd (fs.zip ws).reverse) := by
        funext b
        by_cases c1 : b = d
        · rw [c1, upd_same, upd_same]
        rw [upd_ne c1, upd_ne c1]
        by_cases c2 : b = hp.objs.size + 1
        · rw [c2, del_same, hn]
        rw [del_ne c2, hH]
        show (if b = _ then _ else if b = d then _ else _) = _
        rw [if_neg c2, if_neg c1, upd_ne c2]
      rw [eH]
      exact q1 d hd1
  have hl : (Value.ref (hp.objs.size + 1) :: us).length = ps.length := r2.length.symm.trans (F1.len _ _ _ _ body)
  have b := hb ⟨(hp.push (PySem.W.kdv_tup us)).push (PySem.HandSPX.excO C hp.objs.size), g, dr, tk, os⟩ (Value.ref (hp.objs.size + 1) :: us) I2.kIn (by rw [List.append_nil]; exact hl)
  rw [List.append_nil] at b
  have hus : us.length ≤ sizeLine := line_ge (by rw [← r1.length, hz]; omega)
  refine wpAny_call (PySem.HandSPX.call_own T.fb (fun Y => PySem.W.excTail_contains Y bm ht) (I1.kIn _ _ hC) (PySem.W.looks_findIn I1.kIn iC) (fun self => PySem.W.bind_fn I1.kIn self tI) hus
    (codeAny_mono (F1.run _ X.stack _ _ ⟨Value.ref (hp.objs.size + 1) :: us, []⟩ (Value.ref (hp.objs.size + 1) :: us) _ _ (fun _ _ _ => False) ((hr.mono hk).make C us []) (I2.env0.make C us []) b r2 body) fun r s' hq => ?_))
  rcases r with er | fl
  · exact pass0 pins σ _ _ er s' I2 hq
  cases fl with
  | next => exact hq.elim
  | brk => exact hq.elim
  | cont => exact hq.elim
  | ret u =>
    obtain ⟨v, H2, os2, bare2, un2, hok2, rv, ev, d, gs, ea, ed, hd1, q2⟩ := hq
    subst ev
    obtain ⟨h2, g2, d2, t2, os'⟩ := s'
    exact ⟨rv, mk_end (raises_own T.exC T.tyC) I1 (Nat.le_succ _) keep un2 hok2 os2 bare2 ea ed hd1 q2⟩
end
end UL
set_option Elab.async false
set_option linter.all false
set_option maxRecDepth 100000
set_option maxHeartbeats 4000000
/-! ### try with several clauses «except C as n» -/
namespace UL
open PySem PySem.Spec PyProof.Rows L2
/-- behind a suite its name is gone -/
def endsOff (D : Ends) (i : Nat) : Ends := { nx := fun σ' H' => D.nx (σ'.set i none) H', rt := D.rt, bk := fun σ' H' => D.bk (σ'.set i none) H', ct := fun σ' H' => D.ct (σ'.set i none) H' }
/-- what the clauses wish of an exception: class, slot, suite -/
def wAsN (K : PySem.W.Frag) (Wout : WX) (D : Ends) : List (Value × Nat × (Addr → Value → Option Addr → TS)) → WX
  | [] => Wout
  | (c, i, ts) :: r => fun cls d σ H => ∃ b, PySem.W.exmOne K cls c = some b ∧ (b = true → ∀ a, H a = none → ts a cls d (endsOff D i) (σ.set i (some (.ref a))) H) ∧ (b = false → wAsN K Wout D r cls d σ H)
inductive Clauses (X : Cx) : List ExceptHandler → List (Value × Nat × (Addr → Value → Option Addr → TS)) → Prop
  | nil : Clauses X [] []
  | cons {x n : Str} {i : Nat} {c : Value} {ts : Addr → Value → Option Addr → TS} {b₀ : Stmt} {suite : List Stmt} {np ps : Pos} {hds : List ExceptHandler} {l : List (Value × Nat × (Addr → Value → Option Addr → TS))} (hi : X.N[i]? = some n) (hl : X.env.kindOf n = some .local) (hc : Names X x c)
      (go : ∀ (a : Addr) (oe : Obj) (cls : Value) (d : Option Addr) (pn : List (Addr × Obj)), Zc cls d oe → (∃ vs, oe.data = .fields vs) → PSs (X.suite a ((a, oe) :: pn)) (b₀ :: suite) (ts a cls d)) (more : Clauses X hds l) :
      Clauses X (.ExceptHandler (some (.Name x np)) (some n) (b₀ :: suite) ps :: hds) ((c, i, ts) :: l)
section
variable {X : Cx} {body : List Stmt} {h₀ : ExceptHandler} {hds : List ExceptHandler} {l : List (Value × Nat × (Addr → Value → Option Addr → TS))} {pos : Pos} {tb : WX → TS} {Wout : WX}
theorem ps_tries (hs : X.stack = X.env :: X.outer) (hf : X.env.frame = some X.env.locals) (hN : X.N.Nodup) (tk : Takes X Wout)
    (hb : ∀ (W : WX) (pn : List (Addr × Obj)) (xe : Value → Shared → Prop), Takes (X.tr pn xe) W → PassesOwn (model X.prog X.w) X.A X.env xe → PSs (X.tr pn xe) body (tb W))
    (hh : Clauses X (h₀ :: hds) l) : PS X (.Try body (h₀ :: hds) [] [] pos) (fun D σ H => tb (wAsN X.K Wout D l) D σ H) := by
  refine ⟨fun pins s σ H D I h => ?_⟩
  have ok := I.ok
  have hfr : X.A.frames = some (X.env :: X.outer) := by rw [ok.frames, hs]
  let look : Value → Shared → Prop := fun e s₁ => wpAny (model X.prog X.w) X.A (noteFrame e X.env) (fun _ s₂ => wpAny (model X.prog X.w) X.A (setFlight e none) (fun _ s₃ => wpAny (model X.prog X.w) X.A (handleBy e X.env (h₀ :: hds)) (SP X pins D) X.xe s₃) X.xe s₂) X.xe s₁
  refine wpAny_Try_except (wpAny_mono ((hb (wAsN X.K Wout D l) (X.pn ++ pins) look (fun u s' xx => ?_) PassesOwn.looking).run [] s σ H D (I.toTry _) h) (fun f s1 hsp => ?_) fun e s1 he => he)
  · obtain ⟨a, B, sI, pins', σ', H', cls, d, rfl, J', nb, up, sky, na, os, ag, w⟩ := xx
    have J : Inv X pins σ' H' sI := J'.ofTry ok
    have sky2 : Sky B (X.env :: X.outer) a (Zc cls d) X.env.locals s'.heap := by rw [← hs]; exact sky
    show wpAny (model X.prog X.w) X.A (noteFrame (.ref a) X.env) _ _ _
    refine Sky.land Zc.steady hfr hf sky2 fun h3 fl3 up3 => ?_
    have J3 : Inv X pins σ' H' { s' with heap := h3 } := J.landed nb fl3.1 (up.trans up3) os ag
    obtain ⟨oe3, vs3, he3, hz3, hd3⟩ := fl3.there
    have nfr : a ∉ frs (X.env :: X.outer) := fun hm => by
      obtain ⟨_, o', e', bad⟩ := fl3.2.2.1.mem hm
      cases he3.symm.trans e'
      exact bad _ hd3
    have nL : a ≠ X.env.locals := fun z => nfr (List.mem_filterMap.mpr ⟨X.env, List.mem_cons_self, by rw [hf, z]⟩)
    have nF : a ∉ X.fs := fun hm => by
      obtain ⟨en, hen, q⟩ := List.mem_filterMap.mp hm
      exact nfr (List.mem_filterMap.mpr ⟨en, List.mem_cons_of_mem _ hen, q⟩)
    have S3 := J3.suite he3 hd3 na nL nF
    have LT : PySem.W.Looks (model X.prog X.w) h3 (typeOf (.ref a)) cls := fun A Q E s k q => wpAny_typeOf_ref (k _ _ he3) (by rw [hz3.1]; exact q)
    have turn : ∀ {hds' : List ExceptHandler} {l' : List (Value × Nat × (Addr → Value → Option Addr → TS))}, Clauses X hds' l' → wAsN X.K Wout D l' cls d σ' H' → wpAny (model X.prog X.w) X.A (handleBy (.ref a) X.env hds') (SP X pins D) X.xe { s' with heap := h3 } := by
      intro hds' l' hk
      induction hk with
      | nil =>
        intro w
        refine wpAny_handleBy_nil ?_
        obtain ⟨_, _, _, oe, vs, T, oT, ts', he, hz, hd, h1, hr⟩ := id fl3
        unfold PySem.passOn
        refine wpAny_bind (wpAny_field he hd h1 ?_)
        rw [if_neg (show ¬ ((Value.ref T == Value.none) = true) by simp)]
        have out : wpAny (model X.prog X.w) X.A (setFlight (.ref a) X.env.frame) (fun _ s4 => wpAny (model X.prog X.w) X.A (throw (.ref a) : Sem Flow) (SP X pins D) X.xe s4) X.xe { s' with heap := h3 } := by
          rw [hf]
          refine HandSPX.setFlight_upZ fl3 fun h4 hh4 up4 => wpAny_throw (tk _ _ ⟨a, B, sI, pins, σ', H', cls, d, rfl, J, nb, (up.trans up3).trans up4, .inr (.inr ?_), na, os, ag, w⟩)
          rw [hs]
          exact hh4
        first | exact wpAny_bind (wpAny_pure (wpAny_bind out)) | exact wpAny_bind out
      | @cons x n i c ts b₀ suite np ps hds2 l2 hi hl hc go more ih =>
        intro w
        obtain ⟨b, hb1, yes, no⟩ := w
        refine wpAny_handleBy_cons (codeAny_handlers_test ?_) (by intro q; cases q)
        have asks : ∀ {Q : Value → Shared → Prop} {E : Value → Shared → Prop}, Q c { s' with heap := h3 } → wpAny (model X.prog X.w) (X.A.mark (some (.ref a))) (eval (.Name x np) X.env) Q E { s' with heap := h3 } := fun {Q E} q => by
          obtain ⟨hg, hdb, hm | ⟨hm, hv, hn⟩⟩ := hc
          · exact ld_glob (X := X.suite a ((a, oe3) :: (X.pn ++ pins))) S3 hg hm q hdb
          · exact ld_blt (X := X.suite a ((a, oe3) :: (X.pn ++ pins))) S3 hg hm hv q hn hdb
        refine asks ((PySem.W.exm_one (M := model X.prog X.w) J3.kIn LT hb1).here ?_)
        cases b with
        | false => exact ih (no rfl)
        | true =>
          refine codeAny_handlers_suite_as (HandSPX.lands_againZ fl3 fun h4 fl4 up4 => ?_)
          have J4 : Inv X pins σ' H' { s' with heap := h4 } := J.landed nb fl4.1 ((up.trans up3).trans up4) os ag
          obtain ⟨oe4, vs4, he4, hz4, hd4⟩ := fl4.there
          refine store_ok (X := X.suite a ((a, oe4) :: (X.pn ++ pins))) (v := .ref a) (J4.suite he4 hd4 na nL nF) hN hi (.inl hl) rfl (fun s5 S5 => ?_) (.inr hl)
          refine wpAny_mono ((go a oe4 cls d (X.pn ++ pins) hz4 ⟨_, hd4⟩).run [] s5 _ H' _ S5 (yes rfl a na)) (fun f s6 hsp => ?_) fun _ _ z => False.elim z
          have gone : ∀ {σ6 : L2.St} {H6 : Hp} {Q : Shared → Prop}, Inv (X.suite a ((a, oe4) :: (X.pn ++ pins))) [] σ6 H6 s6 → (∀ s7, Inv X pins (σ6.set i none) H6 s7 → Q s7) →
              wpAny (model X.prog X.w) X.A (do bindName X.env n .none; unbindBehindTheSuite X.env n ps) (fun _ s7 => Q s7) X.xe s6 := fun {σ6 H6 Q} S6 hq => gone_ok (S6.unsuite ok) hN hi hl hq
          cases f with
          | next =>
            obtain ⟨_, _, S6, q6⟩ := hsp
            exact gone S6 fun s7 J7 => ⟨_, _, J7, q6⟩
          | brk =>
            obtain ⟨_, _, S6, q6⟩ := hsp
            exact gone S6 fun s7 J7 => ⟨_, _, J7, q6⟩
          | cont =>
            obtain ⟨_, _, S6, q6⟩ := hsp
            exact gone S6 fun s7 J7 => ⟨_, _, J7, q6⟩
          | ret u =>
            obtain ⟨_, _, _, S6, r6, q6⟩ := hsp
            exact gone S6 fun s7 J7 => ⟨_, _, _, J7, r6, q6⟩
    exact turn hh w
  · cases f with
    | ret u =>
      obtain ⟨v, _, _, J', r, q⟩ := hsp
      exact ⟨v, _, _, J'.ofTry ok, r, q⟩
    | next =>
      obtain ⟨_, _, J', q⟩ := hsp
      exact wpAny_execs_nil ⟨_, _, J'.ofTry ok, q⟩
    | brk =>
      obtain ⟨_, _, J', q⟩ := hsp
      exact ⟨_, _, J'.ofTry ok, q⟩
    | cont =>
      obtain ⟨_, _, J', q⟩ := hsp
      exact ⟨_, _, J'.ofTry ok, q⟩
end
end UL
set_option Elab.async false
set_option linter.all false
set_option maxRecDepth 100000
set_option maxHeartbeats 4000000
/-! ### what a caller knows of a def that may raise -/
namespace UL
open PySem PySem.Spec PyProof.Rows L2
section
variable (P : Program) (w : World) (K : PySem.W.Frag) (mg : Str → Option Value) (base : Heap)
def CalE (k : Nat) (x : Str) (sp : Sp) : Prop := ∃ f fd ps, FnOk P w K mg base (L2.CX P w) k f fd ps sp ∧ PySem.W.keepIn K (.ref f) = true ∧ Binds K fd ps [] ∧ mg x = some (.ref f)
def CalME (k : Nat) (C : Addr) (m : Str) (sp : Sp) : Prop := ∃ f fd ps, FnOk P w K mg base (L2.CX P w) k f fd ps sp ∧ Cls K C ∧ Meth K C m f ∧ Binds K fd ps []
def CalSE (k : Nat) (C : Addr) (m : Str) (sp : Sp) : Prop := ∃ f, FnR P w K mg base (L2.CX P w) k f sp ∧ PySem.W.findIn K (.ref C) m = some (some (.ref f)) ∧ PySem.W.isFn K (.ref f) = true
def MakRE (k : Nat) (x : Str) (C : Addr) (sp : Sp) : Prop := ∃ f, FnR P w K mg base (L2.CX P w) k f sp ∧ Mk K C f ∧ mg x = some (.ref C)
/-- an error's class: what its __init__ keeps -/
def MakE (k : Nat) (x : Str) (C : Addr) (fs : List Str) : Prop := ∃ B n i bm fI fd ps, ExB K C B n i bm ∧ PySem.W.findIn K (.ref C) "__init__" = some (some (.ref fI)) ∧ PySem.W.typeIn K (.ref fI) = some (.type "function") ∧ FnOk P w K mg base CX0 k fI fd ps (spExI C fs) ∧ Binds K fd ps [] ∧ mg x = some (.ref C)
end
section
variable {X : Cx} {E : XK}
/-- what leaves a def leaves it by its own promise -/
theorem px_def {E₁ : Value → Shared → Prop} (hs : X.stack = X.env :: X.outer) (hf : X.env.frame = some X.env.locals) (hex : X.ex = [])
    (hx : X.xe = fun e s' => wpAny (model X.prog X.w) X.A (leaving X.env e) (fun _ s'' => L2.CX X.prog X.w X.outer X.H_0 X.s_0 E e s'') E₁ s') : Passes (L2.CX X.prog X.w) X E := passes_call (takes_of hs hf hex hx) fun _ _ _ _ h => h
/-- nothing is raised -/
theorem px_none : Passes (L2.CX X.prog X.w) X E0 := fun _ _ _ _ _ _ _ h => by
  obtain ⟨_, _, _, _, _, _, _, _, _, _, _, _, z⟩ := h
  exact z.elim
variable {k j : Nat} {x m : Str} {C : Addr} {sp : Sp} {e o : Expr} {es : List Expr} {fs : List Str} {t : TA} {ta te : TE} {p pos apos : Pos}
theorem pe_cE (c : CalE X.prog X.w X.K X.mg X.base k x sp) (px : Passes (L2.CX X.prog X.w) X E) (hr : Room j X.A) (hk : k ≤ j) (hg : Gl X x) (ha : PA X (e :: es) t) (hdb : (x == ("__debug__" : Str)) = false := by decide)
    (he : starEach (e :: es) X.env = (false, eval e X.env) :: starEach es X.env := by rfl) (hpl : (backTo pos (starEach es X.env)).any (·.1) = false := by rfl) : PE X (.Call (.Name x p) (e :: es) [] pos) (tCall sp [] E t) := by
  obtain ⟨f, fd, ps, F, kp, b, g⟩ := c
  exact pe_call F (hr.mono hk) hg g kp b .nil px ha hdb he hpl
theorem pe_mE {pl : Sem Bool} (he : PE X o ta) (c : CalME X.prog X.w X.K X.mg X.base k C m sp) (px : Passes (L2.CX X.prog X.w) X E) (hr : Room j X.A) (hk : k ≤ j) (ha : PA X (e :: es) t)
    (hst : starEach (e :: es) X.env = (false, eval e X.env) :: starEach es X.env := by rfl) (hpl : (backTo pos (starEach es X.env)).any (·.1) = false := by rfl)
    (ht : eval (.Call (.Attribute o m apos) (e :: es) [] pos) X.env = (do
      let ov ← eval o X.env
      standAt apos.atName
      let (fv, fi) ← holding [ov] (getMethod ov m pl)
      callWith pos fv fi (backTo pos (starEach (e :: es) X.env)) (backToKw pos (keywordEach [] X.env))) := by rfl) :
    PE X (.Call (.Attribute o m apos) (e :: es) [] pos) (tMeth C m sp [] E ta t) := by
  obtain ⟨f, fd, ps, F, cl, mt, b⟩ := c
  exact pe_meth he cl mt F (hr.mono hk) b .nil px ha hst hpl ht
theorem pe_nR2E (c : MakRE X.prog X.w X.K X.mg X.base k x C sp) (px : Passes (L2.CX X.prog X.w) X E) (hr : Room j X.A) (hk : k + 1 ≤ j) (hg : Gl X x) (ha : PA X (e :: es) t) (h3 : (x == ("__debug__" : Str)) = false := by decide)
    (h4 : starEach (e :: es) X.env = (false, eval e X.env) :: starEach es X.env := by rfl) (h5 : (backTo pos (starEach es X.env)).any (·.1) = true := by rfl) : PE X (.Call (.Name x p) (e :: es) [] pos) (StX.tMakeR C sp E t) := by
  obtain ⟨f, F, M, m⟩ := c
  refine ⟨fun pins s σ H Q I h => wpAny_Call_Name_kw (ld_glob I hg m ?_ h3)⟩
  exact PySem.W.callWith_S2 (h₀ := X.base) I.ok.mod.kin M.kp (thn (ha.run pos pins s σ H _ I h) fun us s1 ⟨vs, H1, J, rv, q⟩ => ⟨J.kIn, StX.run_makeR M F (hr.mono hk) px J rv q⟩) h4 h5
theorem op_addSE (c : CalSE X.prog X.w X.K X.mg X.base k C "__add__" sp) (px : Passes (L2.CX X.prog X.w) X E) (hc : PySem.W.selfFirst X.K C = true) (hr : Room j X.A) (hk : k ≤ j) : OpR X (binaryOp .Add) (rOpO X.K C "add" sp E) := by
  obtain ⟨f, F, h1, h2⟩ := c
  exact op_addO hc h1 h2 F (hr.mono hk) px
variable {T : String}
theorem op_addSTE (c : CalSE X.prog X.w X.K X.mg X.base k C "__add__" sp) (px : Passes (L2.CX X.prog X.w) X E) (o : OwnT X.K C T "add") (hr : Room j X.A) (hk : k ≤ j) : OpR X (binaryOp .Add) (rOpT C T sp E) := by
  obtain ⟨f, F, h1, h2⟩ := c
  exact op_ownT (op := .Add) o (by show PySem.W.findIn X.K (.ref C) (PySem.dunder "add") = _; rw [du_add]; exact h1) h2 F (hr.mono hk) px
theorem op_mulSTE (c : CalSE X.prog X.w X.K X.mg X.base k C "__mul__" sp) (px : Passes (L2.CX X.prog X.w) X E) (o : OwnT X.K C T "mul") (hr : Room j X.A) (hk : k ≤ j) : OpR X (binaryOp .Mult) (rOpT C T sp E) := by
  obtain ⟨f, F, h1, h2⟩ := c
  exact op_ownT (op := .Mult) o (by show PySem.W.findIn X.K (.ref C) (PySem.dunder "mul") = _; rw [du_mul]; exact h1) h2 F (hr.mono hk) px
theorem op_raddSE (c : CalSE X.prog X.w X.K X.mg X.base k C "__radd__" sp) (px : Passes (L2.CX X.prog X.w) X E) (o : RadT X.K C T) (hr : Room j X.A) (hk : k ≤ j) : OpR X (binaryOp .Add) (rOpTR C T sp E) := by
  obtain ⟨f, F, h1, h2⟩ := c
  obtain ⟨fa, ha⟩ := o.ad
  obtain ⟨fo, ro, t1, t2, t3⟩ := o.t
  exact op_raddT o.sf ha t1 t2 t3 h1 h2 F (hr.mono hk) px
/-- an error made, to be raised -/
theorem pmk_E (c : MakE X.prog X.w X.K X.mg X.base k x C fs) (hr : Room j X.A) (hk : k + 1 ≤ j) (hf : fs.length ≤ 1000) (hg : Gl X x) (ha : PA X (e :: es) t) (hdb : (x == ("__debug__" : Str)) = false := by decide)
    (he : starEach (e :: es) X.env = (false, eval e X.env) :: starEach es X.env := by rfl) (hpl : (backTo pos (starEach es X.env)).any (·.1) = false := by rfl) : PMk X (.Call (.Name x p) (e :: es) [] pos) (tMkE C fs t) := by
  obtain ⟨B, n, i, bm, fI, fd, ps, T, iC, tI, F, b, g⟩ := c
  exact pmk_exB T iC tI F hr hk b hf hg g ha hdb he hpl
end
/-! ### a def whose code object is known: it makes lambdas -/
structure FunC (K : PySem.W.Frag) (x qual : Str) (st : Stmt) (f : Addr) (fd : FuncData) (c : Addr) : Prop where
  ex : ∃ (oc : Value) (od : Option Addr) (kV doc pm : Value) (an : Option Addr) (ct : Value) (osl : Array (Option Value)),
    fd = PySem.W.fnOf x qual (defArgs st) (defBody st) (defScope st) .none kV doc pm an (.ref c) ct ∧ K.lookup f = some ⟨oc, od, .func fd, osl⟩ ∧ PySem.W.codeIn K (.ref c) qual = true
  kp : PySem.W.keepIn K (.ref f) = true
section
variable {P : Program} {w : World} {K : PySem.W.Frag} {mg : Str → Option Value} {base : Heap}
theorem FunC.ok {x qual : Str} {st : Stmt} {f c : Addr} {fd : FuncData} {N ps : List Str} {k : Nat} {sp : Sp} (F : FunC K x qual st f fd c) (S : FnScope N ps (defScope st)) (len : ∀ vs H Q E, sp vs H Q E → vs.length = ps.length)
    (go : ∀ (A : Around) (outer : List Env) (s : Shared) (H : Hp) (vs : List V) (Q : VK) (E : XK), Room k (A.deeper (envOfC qual (defScope st) s.heap.objs.size f (.ref c))) → sp vs H Q E →
      ∃ t, PSs (cxOf CX0 P w K mg base N qual (defScope st) f (.ref c) A outer s H E).nox (defBody st) t ∧ t { nx := fun _ H' => Q .non H', rt := Q } (start N vs) H) : FnOk P w K mg base CX0 (k + 1) f fd ps sp := by
  obtain ⟨oc, od, kV, doc, pm, an, ct, osl, rfl, lk, hcd⟩ := F.ex
  refine fn_of lk hcd S len fun A outer s H vs Q E hr hsp => ?_
  obtain ⟨t, h, q⟩ := go A outer s H vs Q E hr hsp
  exact ⟨t, h.nox, q⟩
theorem FunC.fun {x qual : Str} {st : Stmt} {f c : Addr} {fd : FuncData} (F : FunC K x qual st f fd c) : Fun K x qual st f fd := by
  obtain ⟨oc, od, kV, doc, pm, an, ct, osl, e, lk, hcd⟩ := F.ex
  exact ⟨⟨oc, od, kV, doc, pm, an, _, ct, osl, e, lk, hcd⟩, F.kp⟩
end
end UL
set_option Elab.async false
set_option linter.all false
set_option maxRecDepth 100000
set_option maxHeartbeats 4000000
/-! ### a lambda handed to a def whose clauses look at the slots -/
namespace UL
open PySem PySem.Spec PyProof.Rows L2 LamX
section
variable {X : Cx} {pins : List (Addr × Obj)} {σ : L2.St} {H : Hp} {s : Shared}
/-- what a() does in the def that got the lambda at f: its code object's name q stands at c' -/
def tDeed (i : Nat) (f c' : Addr) (q : Str) (W : WX) (tl : XK → Hp → VK → Prop) : TE := fun σZ HZ Q => σZ[i]? = some (some (.ref f)) ∧ HZ c' = some (CodeO c' q) ∧ tl (WE W σZ) HZ Q
theorem pe_deed {CXg : CXT} {Eg : XK} {Ng : List Str} {qg : Str} {sg : Scope} {g f c' : Addr} {cdg pm ctv : Value} {params : Arguments} {body : Expr} {scope : Scope} {k i : Nat} {a : Str} {pn : List (Addr × Obj)} {xe : Value → Shared → Prop} {W : WX} {tb : XK → TE} {p1 p2 : Pos}
    (I : Inv X pins σ H s) (L : LamS X.env.scope scope) (hf : s.heap.get? f = some (PySem.W.kla_obj "<lambda>" (X.env.qual ++ "<lambda>") params body scope (cloFrom X.env.cells scope.names []) pm c' ctv)) (hfn : H f = none) (hfr : f ∉ frs X.stack)
    (hbind : bindArgs (PySem.W.kla_fn "<lambda>" (X.env.qual ++ "<lambda>") params body scope (cloFrom X.env.cells scope.names []) pm (.ref c') ctv) ⟨[], []⟩ = pure [])
    (tk : Takes ((cxOf CXg X.prog X.w X.K X.mg X.base Ng qg sg g cdg X.A X.stack s H Eg).tr pn xe) W) (hr : Room (k + 1) (X.A.deeper (envOfC qg sg s.heap.objs.size g cdg)))
    (hbody : ∀ (A : Around) (outer : List Env) (s : Shared) (H : Hp) (E : XK), Room k (A.deeper (lamEnv X scope s.heap.objs.size f c')) → PE (lamCx X A outer s H E scope f c') body (tb E))
    (hN : Ng[i]? = some a) (hv : Vis sg a) (hd : (a == ("__debug__" : Str)) = false) (hcd : (a == ("__classdict__" : Str)) = false) :
    PE ((cxOf CXg X.prog X.w X.K X.mg X.base Ng qg sg g cdg X.A X.stack s H Eg).tr pn xe) (.Call (.Name a p1) [] [] p2) (tDeed i f c' (X.env.qual ++ "<lambda>") W fun E H' Q' => tb E σ H' Q') := by
  refine ⟨fun pinsZ sZ σZ HZ Q IZ hh => ?_⟩
  obtain ⟨at_, hc, ht⟩ := hh
  have E : XK := WE W σZ
  refine wpAny_Call_Name_kw (thn ((pe_var (pos := p1) (i := i) hN hv hd hcd).run pinsZ sZ σZ HZ (fun v H1 => v = .ref f ∧ H1 = HZ) IZ ⟨.ref f, at_, rfl, rfl⟩) fun u s1 ⟨v, H1, I1, r1, ev, eH⟩ => ?_)
  subst ev eH
  cases (show u = Value.ref f from r1)
  have of1 := I1.base.keep f _ hf hfn hfr (fun z => nomatch (show f ∈ ([] : List Addr) from z))
  refine PySem.W.callWith_F0 ⟨_, _, _, _, of1⟩ ?_
  have un : Un (frs X.stack) [] H H1 s.heap s1.heap := I1.base
  obtain ⟨⟨oc, vs, t, hoc, hdc, hvc⟩, _, _⟩ := I1.hok c' _ hc
  have run : codeAny (model X.prog X.w) (X.A.deeper (envOfC qg sg s.heap.objs.size g cdg)) (.call (.ref f) ⟨[], []⟩) (CR (L2.CX X.prog X.w) (envOfC qg sg s.heap.objs.size g cdg :: X.stack) X.prog X.w H1 s1 Q (WE W σZ)) s1 := by
    refine PySem.W.kla_callFunE hr.depth of1 rfl L.co L.gen rfl ⟨c', oc, vs, t, rfl, hoc, hdc, hvc⟩ ?_
    rw [hbind]
    refine wpAny_pure (wpAny_newFunctionEnv (fun y hy => (L.own y hy).2) (fun y hy => absurd hy (by simp)) (fun h₁ hns hsb => ⟨I1.nolimit.fresh _ hsb, ?_⟩) L.kind)
    have kp : ∀ b o, s1.heap.get? b = some o → h₁.get? b = some o := fun b o z => hsb.extBut b o (Nat.ne_of_lt (Heap.lt_size z)) (Heap.get?_push_of_some _ z)
    have J := lam_start2 (tk := s1.toks + ([] : List (Str × Value)).length) (E := WE W σZ) (f := f) (c' := c') I L I1.env0 hr.hd un hns kp
    refine PySem.W.kla_codeExpr (wpAny_mono ((hbody _ _ s1 H1 (WE W σZ) (hr.deeper _)).run [] _ _ H1 Q J ht) (fun v s' hq => ?_) fun e s' hq => hq)
    obtain ⟨w', H', J', rv, q⟩ := hq
    exact ⟨w', H', J'.os, J'.bare, J'.base, J'.hok, rv, q⟩
  refine wpAny_call (codeAny_mono run fun r s' hq => ?_)
  rcases r with e | fl
  · exact passAt tk σZ pinsZ H1 s1 e s' I1 hq
  cases fl with
  | ret u => exact I1.after hq
  | next => exact hq.elim
  | brk => exact hq.elim
  | cont => exact hq.elim
end
/-- the def that calls what it got, its clauses free to look at the slots -/
def GivesS (n : Nat) (X : Cx) (Ng : List Str) (x : Str) (sg : Scope) (g : Addr) (cdg : Value) (bg : List Stmt) (a : Str) (q : Str) (TT : (XK → Hp → VK → Prop) → Hp → VK → Prop) : Prop :=
  ∀ (f c' : Addr) (s : Shared) (H : Hp) (Q : VK) (tl : XK → Hp → VK → Prop),
    (∀ (W : WX) (pn : List (Addr × Obj)) (xe : Value → Shared → Prop) (p1 p2 : Pos), Takes ((cxOf CX0 X.prog X.w X.K X.mg X.base Ng x sg g cdg X.A X.stack s H E0).tr pn xe) W →
      PE ((cxOf CX0 X.prog X.w X.K X.mg X.base Ng x sg g cdg X.A X.stack s H E0).tr pn xe) (.Call (.Name a p1) [] [] p2) (tDeed 0 f c' q W tl)) →
    Room n X.A → H c' = some (CodeO c' q) → TT tl H Q →
    ∃ t, PSs (cxOf CX0 X.prog X.w X.K X.mg X.base Ng x sg g cdg X.A X.stack s H E0).nox bg t ∧ t { nx := fun _ H' => Q .non H', rt := Q } (L2.start Ng [.ref f]) H
section
variable {X : Cx}
/-- x(lambda: body) -/
theorem pe_lamS {T : List (Addr × Str)} {TT : (XK → Hp → VK → Prop) → Hp → VK → Prop} {x a : Str} {g c P : Addr} {k n : Nat} {pg : Arguments} {bg : List Stmt} {sg : Scope} {dV kV doc pm cdv ct oc : Value} {an od : Option Addr} {osl : Array (Option Value)} {Ng : List Str}
    {params : Arguments} {body : Expr} {scope : Scope} {t : XK → TE} {p lpos pos : Pos} (hg : Gl X x) (hm : X.mg x = some (.ref g)) (hk : PySem.W.keepIn X.K (.ref g) = true)
    (lk : X.K.lookup g = some ⟨oc, od, .func (PySem.W.fnOf x x pg bg sg dV kV doc pm an cdv ct), osl⟩) (hcg : PySem.W.codeIn X.K cdv x = true) (hb : Binds X.K (PySem.W.fnOf x x pg bg sg dV kV doc pm an cdv ct) [a] []) (Sg : FnScope Ng [a] sg) (hNg : Ng[0]? = some a) (hva : Vis sg a)
    (hG : GivesS n X Ng x sg g cdv bg a (X.env.qual ++ "<lambda>") TT)
    (TB : TabB X.base X.mg c P) (hcode : X.env.code = .ref c) (hmT : (P, X.env.qual ++ "<lambda>") ∈ T) (hu : ∀ p ∈ T, p.1 = P → p.2 = X.env.qual ++ "<lambda>") (hr : Room (k + 2) X.A) (hn : n ≤ k + 2) (L : LamS X.env.scope scope) (hdef : defaultsOf params X.env = ([], []))
    (hbind : ∀ (q : Str) (cl : List (Str × Addr)) (pm cv ctv : Value), bindArgs (PySem.W.kla_fn "<lambda>" q params body scope cl pm cv ctv) ⟨[], []⟩ = pure [])
    (hbody : ∀ (A : Around) (outer : List Env) (s : Shared) (H : Hp) (E : XK) (f c' : Addr), Room k (A.deeper (lamEnv X scope s.heap.objs.size f c')) → PE (lamCx X A outer s H E scope f c') body (t E))
    (hdb : (x == ("__debug__" : Str)) = false) (hd : (a == ("__debug__" : Str)) = false) (hcd : (a == ("__classdict__" : Str)) = false) :
    PE X (.Call (.Name x p) [.Lambda params body scope lpos] [] pos) (tLam T TT t) := by
  refine ⟨fun pins s σ H Q I hh => wpAny_Call_Name_kw (ld_glob I hg hm ?_ hdb)⟩
  obtain ⟨hT, h⟩ := hh
  refine PySem.W.callWith_K (h₀ := X.base) I.ok.mod.kin hk ?_ (by rfl) (by rfl)
  show wpAny _ _ (spliced ((false, eval (.Lambda params body scope lpos) X.env) :: backTo pos (starEach [] X.env))) _ _ s
  refine Calls.spliced_cons (lam_make2 I TB hcode hmT hu hT hdef (L.has I.ok) fun f c' pm' ctv H1 s' I1 eN T1 hf hfn hfr hco => Calls.spliced_nil ⟨I1.kIn, ?_⟩)
  have rc : codeAny (model X.prog X.w) X.A (.call (.ref g) ⟨[.ref f], []⟩) (CR CX0 X.stack X.prog X.w H1 s' Q E0) s' := by
    refine run_ofS (N := Ng) (ps := [a]) (us := [.ref f]) (vs := [.ref f]) lk hcg Sg hr I1.env0 (hb s' [.ref f] I1.kIn rfl) (.cons rfl .nil) rfl fun hr' => ?_
    obtain ⟨t', ht', hq'⟩ := hG f c' s' H1 Q (fun E H' Q' => t E σ H' Q') (fun W pn xe p1 p2 tk => pe_deed (i := 0) I1 L hf hfn hfr (hbind _ _ _ _ _) tk hr' (fun A outer s H E hr2 => hbody A outer s H E f c' hr2) hNg hva hd hcd) (hr.mono hn) hco (h H1 eN T1)
    exact ⟨t', ht'.nox, hq'⟩
  refine wpAny_call (codeAny_mono rc fun r s2 hq => ?_)
  rcases r with e | fl
  · exact (show False from hq).elim
  cases fl with
  | ret u => exact I1.after hq
  | next => exact hq.elim
  | brk => exact hq.elim
  | cont => exact hq.elim
end
/-- what the maker of a lambda knows of the def that gets it -/
def CalL (P : Program) (w : World) (K : PySem.W.Frag) (mg : Str → Option Value) (base : Heap) (n : Nat) (x a : Str) (TT : (XK → Hp → VK → Prop) → Hp → VK → Prop) : Prop :=
  ∃ (g : Addr) (oc : Value) (od : Option Addr) (pg : Arguments) (bg : List Stmt) (sg : Scope) (dV kV doc pm cdv ct : Value) (an : Option Addr) (osl : Array (Option Value)) (Ng : List Str),
    mg x = some (.ref g) ∧ PySem.W.keepIn K (.ref g) = true ∧ K.lookup g = some ⟨oc, od, .func (PySem.W.fnOf x x pg bg sg dV kV doc pm an cdv ct), osl⟩ ∧ PySem.W.codeIn K cdv x = true ∧ Binds K (PySem.W.fnOf x x pg bg sg dV kV doc pm an cdv ct) [a] [] ∧ FnScope Ng [a] sg ∧ Ng[0]? = some a ∧ Vis sg a ∧
    ∀ (X : Cx) (q : Str), X.prog = P → X.w = w → X.K = K → X.mg = mg → X.base = base → GivesS n X Ng x sg g cdv bg a q TT
section
variable {X : Cx} {n j : Nat} {x a : Str} {T : List (Addr × Str)} {TT : (XK → Hp → VK → Prop) → Hp → VK → Prop} {c P : Addr} {params : Arguments} {body : Expr} {scope : Scope} {t : XK → TE} {p lpos pos : Pos}
theorem pe_lam (cl : CalL X.prog X.w X.K X.mg X.base n x a TT) (hg : Gl X x) (TB : TabB X.base X.mg c P) (hcode : X.env.code = .ref c) (hmT : (P, X.env.qual ++ "<lambda>") ∈ T) (hu : ∀ p ∈ T, p.1 = P → p.2 = X.env.qual ++ "<lambda>") (hr : Room j X.A) (hn : n ≤ j) (hj : 2 ≤ j)
    (L : LamS X.env.scope scope) (hdef : defaultsOf params X.env = ([], [])) (hbind : ∀ (q : Str) (cl : List (Str × Addr)) (pm cv ctv : Value), bindArgs (PySem.W.kla_fn "<lambda>" q params body scope cl pm cv ctv) ⟨[], []⟩ = pure [])
    (hbody : ∀ (A : Around) (outer : List Env) (s : Shared) (H : Hp) (E : XK) (f c' : Addr), Room (j - 2) (A.deeper (lamEnv X scope s.heap.objs.size f c')) → PE (lamCx X A outer s H E scope f c') body (t E))
    (hdb : (x == ("__debug__" : Str)) = false := by decide) (hd : (a == ("__debug__" : Str)) = false := by decide) (hcd : (a == ("__classdict__" : Str)) = false := by decide) :
    PE X (.Call (.Name x p) [.Lambda params body scope lpos] [] pos) (tLam T TT t) := by
  obtain ⟨g, oc, od, pg, bg, sg, dV, kV, doc, pm, cdv, ct, an, osl, Ng, hm, kp, lk, hcg, hb, Sg, hN, hv, hG⟩ := cl
  have hj2 : j - 2 + 2 = j := by omega
  exact pe_lamS (k := j - 2) hg hm kp lk hcg hb Sg hN hv (hG X _ rfl rfl rfl rfl rfl) TB hcode hmT hu (by rw [hj2]; exact hr) (by omega) L hdef hbind hbody hdb hd hcd
end
end UL
set_option Elab.async false
set_option linter.all false
set_option maxRecDepth 100000
set_option maxHeartbeats 4000000
/-! ### a tuple times a count: once is the tuple itself -/
namespace UL
open PySem PySem.Spec PyProof.Rows L2
theorem tuple_mul1 (l : Addr) (items : Array Value) (n : Nat) (sl : Array (Option Value)) (dd : Option Addr) (u : Tok) :
    Meets (Builtin.«tuple.__mul__» ⟨[.ref l, .int 1 u], []⟩) (fun _ R s => s.heap.get? l = some { cls := .type "tuple", dict := dd, data := .seq items n, slots := sl } ∧ R (.ok (.ret (Value.ref l))) s) :=
  .of_wp fun prog w A R s h => by
    obtain ⟨hp, g, d, tk, os⟩ := s
    obtain ⟨hl, h⟩ := h
    have f1 := AutoSeq1.idx_int
    wp_walk using wpAny_loadPart' hl
    repeat (first
      | (refine wpAny_ite_false (decide_eq_false (by decide)) ?_; wp_walk using wpAny_loadPart' hl)
      | (refine wpAny_ite_true (decide_eq_true (by simp)) ?_; wp_walk using wpAny_loadPart' hl))
    exact ⟨_, rfl, h⟩
theorem tuple_mul0 (l : Addr) (items : Array Value) (n : Nat) (dd : Option Addr) (sl : Array (Option Value)) (u : Tok) (hi : items.isEmpty = false) :
    Meets (Builtin.«tuple.__mul__» ⟨[.ref l, .int 0 u], []⟩) (fun _ R s => s.heap.get? l = some { cls := .type "tuple", dict := dd, data := .seq items n, slots := sl } ∧
      R (.ok (.ret (Value.ref s.heap.objs.size))) { s with heap := s.heap.push { cls := Value.type "tuple", data := Data.seq #[] }, toks := s.toks }) :=
  .of_wp fun prog w A R s h => by
    obtain ⟨hp, g, d, tk, os⟩ := s
    obtain ⟨hl, h⟩ := h
    have f1 := AutoSeq1.idx_int
    wp_walk using wpAny_loadPart' hl
    repeat (first
      | (refine wpAny_ite_false (decide_eq_false (by simp [hi])) ?_; wp_walk using wpAny_loadPart' hl)
      | (refine wpAny_ite_true (decide_eq_true (by simp)) ?_; wp_walk using wpAny_loadPart' hl))
    exact ⟨_, rfl, h⟩
structure RepOk (n : Nat) (k : Int) : Prop where
  lo : 0 ≤ k
  hi : k ≤ 100000
  mul : (n : Int) * k ≤ 1000000
/-- t * k of a tuple that is not empty, k at least 0 -/
def rRepS (K : PySem.W.Frag) : R2 := fun x y H Q => ∃ l k xs, x = .ref l ∧ y = .int k ∧ SqT K H l xs ∧ xs ≠ [] ∧ RepOk xs.length k ∧
  ∀ p H', L2.Same H H' → SqT K H' p (List.replicate k.toNat xs).flatten → Q (.ref p) H'
theorem op_repS {X : Cx} : OpR X (binaryOp .Mult) (rRepS X.K) := by
  intro pins s σ H x y v u Q I rx ry h
  obtain ⟨l, k, xs, rfl, rfl, hT, hne, ⟨h1, h2, hz⟩, q⟩ := h
  cases rx
  obtain ⟨t, rfl⟩ := ry
  obtain ⟨its, r, ⟨⟨cls, dd, data, sl⟩, ho, hc, n, hd⟩, hs⟩ := I.tuple hT
  simp only at hc hd
  subst hc hd
  have hle : its.length = xs.length := r.length.symm
  have hn : its ≠ [] := fun e => hne (by
    rw [e] at hle
    exact List.eq_nil_of_length_eq_zero hle.symm)
  have hi : its.toArray.isEmpty = false := by
    cases its with
    | nil => exact absurd rfl hn
    | cons a b => rfl
  have hsz0 : its.toArray.size = xs.length := by rw [List.size_toArray, hle]
  have flen0 : k.toNat * xs.length ≤ 1000000 := by
    have e : ((k.toNat * xs.length : Nat) : Int) = (xs.length : Int) * k := by rw [Int.natCast_mul, Int.toNat_of_nonneg h1, Int.mul_comm]
    omega
  have flen : (List.replicate k.toNat its).flatten.length ≤ sizeLine := by
    rw [PyProof.Rows.lm_len_rep_flat, hle, sizeLine_eq]
    omega
  have flen2 : (List.replicate k.toNat xs).flatten.length ≤ sizeLine := by
    rw [PyProof.Rows.lm_len_rep_flat, sizeLine_eq]
    omega
  refine wpAny_binaryOp_repeat_ref (T := "tuple") (U := "int") (by decide) ⟨_, ho, rfl⟩ (fun s' => typeIs_int s' k t) noFill_tuple_mul F.fills_int_mul F.slot_int_rmul repeat_tuple F.slot_int_index.lookup
    (call_meets F.slot_int_rmul (typeIs_int s k t) F.entry_int_rmul (F.args_int_rmul_2 _ _) (int_rmul_tuple k t l its.toArray n dd sl)
      ⟨ho, rfl, ⟨_, ho, rfl⟩, ?_⟩)
  by_cases e1 : k = 1
  · subst e1
    refine call_meets F.slot_tuple_mul ⟨_, ho, rfl⟩ F.entry_tuple_mul (F.args_tuple_mul_2 _ _) (tuple_mul1 l its.toArray n sl dd t) ⟨ho, ?_⟩
    exact ⟨.ref l, H, I, rfl, q l H (L2.Same.refl _) (by simpa using hT)⟩
  by_cases e0 : k = 0
  · subst e0
    refine call_meets F.slot_tuple_mul ⟨_, ho, rfl⟩ F.entry_tuple_mul (F.args_tuple_mul_2 _ _) (tuple_mul0 l its.toArray n dd sl t hi) ⟨ho, ?_⟩
    refine ⟨.ref s.heap.objs.size, _, I.laid (t' := s.toks) (o := .tup []) (fun b ob q => Heap.get?_push_of_some _ q) (Nat.le_refl _) ?_, rfl, ?_⟩
    · exact ⟨by simp, [], .nil, IsTup.new _ _⟩
    · exact q _ _ (same_new (I.hok.fresh (Nat.le_refl _))) (SqT.of upd_same)
  have c0 : (decide (k < -(2 ^ 63)) || decide (k ≥ 2 ^ 63)) = false := by
    rw [decide_eq_false (by omega), decide_eq_false (by omega)] <;> rfl
  have c1 : (its.toArray.isEmpty || k == 1) = false := by
    rw [hi, Bool.false_or]
    exact beq_eq_false_iff_ne.mpr (by omega)
  have c2 : (decide (k ≤ 0) || its.toArray.isEmpty) = false := by
    rw [hi, Bool.or_false]
    exact decide_eq_false (by omega)
  have c4 : Builtin.Tuple.tupleTooMany (((its.toArray.size : Nat) : Int) * k) = false := by
    unfold Builtin.Tuple.tupleTooMany
    rw [sizeLine_eq, hsz0]
    exact decide_eq_false (by omega)
  refine call_meets F.slot_tuple_mul ⟨_, ho, rfl⟩ F.entry_tuple_mul (F.args_tuple_mul_2 _ _) (tuple_mulW l its.toArray n dd sl k t c0 c1 c2 (by rw [hsz0]; omega) c4 (by rw [size_rep, List.size_toArray]; exact flen)) ⟨ho, ?_⟩
  rw [size_rep]
  refine ⟨.ref s.heap.objs.size, _, I.laid (t' := s.toks) (o := .tup (List.replicate k.toNat xs).flatten) (fun b ob q => Heap.get?_push_of_some _ q) (Nat.le_refl _) ?_, rfl, q _ _ (same_new (I.hok.fresh (Nat.le_refl _))) (SqT.of upd_same)⟩
  exact ⟨flen2, _, r.rep k.toNat, IsTup.new _ _⟩
end UL
namespace UL
open PySem PySem.Spec PyProof.Rows L2
/-- t[lo:hi] of a tuple, the whole or not -/
def rSlS (K : PySem.W.Frag) : V → Option Int → Option Int → Hp → VK → Prop := fun x lo hi H Q => ∃ a xs, x = .ref a ∧ SqT K H a xs ∧ ∀ p H', L2.Same H H' → SqT K H' p (cutV xs lo hi) → Q (.ref p) H'
theorem sl_tupS {X : Cx} : SlR X (rSlS X.K) := by
  intro pins s σ H x v vl vu lo hi sl Q I rx hs pl pu h
  obtain ⟨a, xs, rfl, hx, q⟩ := h
  refine sl_tupA pins s σ H _ v vl vu lo hi sl Q I rx hs pl pu ⟨a, xs, rfl, hx, fun hw => ?_, fun _ p hp => q p _ (same_new hp) (SqT.of upd_same)⟩
  refine q a H (L2.Same.refl _) ?_
  have e : cutV xs lo hi = xs := by
    unfold cutV
    rw [hw.1, hw.2]
    simp
  rw [e]
  exact hx
/-- t + u of tuples, any -/
def rCatF (K : PySem.W.Frag) : R2 := fun x y H Q => ∃ a b xs ys, x = .ref a ∧ y = .ref b ∧ SqT K H a xs ∧ SqT K H b ys ∧ xs.length + ys.length ≤ sizeLine ∧ ∀ p H', L2.Same H H' → SqT K H' p (xs ++ ys) → Q (.ref p) H'
theorem op_catF {X : Cx} : OpR X (binaryOp .Add) (rCatF X.K) := by
  intro pins s σ H x y v u Q I rx ry h
  obtain ⟨a, b, xs, ys, rfl, rfl, ha, hb, hz, q⟩ := h
  refine op_catA pins s σ H _ _ v u Q I rx ry ⟨a, b, xs, ys, rfl, rfl, ha, hb, hz, fun e => ?_, fun _ e => ?_, fun _ _ p hp => ?_⟩
  · refine q b H (L2.Same.refl _) ?_
    rw [e]
    exact hb
  · refine q a H (L2.Same.refl _) ?_
    rw [e, List.append_nil]
    exact ha
  · exact q p _ (same_new hp) (SqT.of upd_same)
/-! ### a tuple that is surely no more than a tuple -/
structure TupO (o : Obj) : Prop where
  cls : o.cls = .type "tuple"
  dict : o.dict = Option.none
def tBMF (T : String) (r : V → List V → Hp → VK → Prop) (to : TE) (t : TA) : TE := fun σ H Q => to σ H fun x H1 => (∃ p o u, x = .ref p ∧ H1 p = some (.frz o u) ∧ TupO o) ∧ t σ H1 fun xs H2 => r x xs H2 Q
theorem pe_bmF {X : Cx} {o e : Expr} {es : List Expr} {to : TE} {t : TA} {name : Str} {apos cpos : Pos} {id : String} {r : V → List V → Hp → VK → Prop}
    (pa : PlainAttrs "tuple") (slot : Slot "tuple" name id) (hty : typeOf (.builtin id) = pure (.type "method_descriptor")) (hm : MtR X id r) (ho : PE X o to) (ha : PA X (e :: es) t)
    (hbase : attributeBase o name X.env (eval o X.env) = eval o X.env := by rfl)
    (hfew : ((backTo cpos (starEach (e :: es) X.env)).all (fun x => !x.1) && (backToKw cpos (keywordEach [] X.env)).all (fun x => x.1.isSome)
      && decide ((e :: es).length + ([] : List Keyword).length + (if ([] : List Keyword).isEmpty then 0 else 1) < 30)) = true := by rfl)
    (hline : (apos.endLine == cpos.line) = true := by rfl) (hs : starEach (e :: es) X.env = (false, eval e X.env) :: starEach es X.env := by rfl) (hplain : (backTo cpos (starEach es X.env)).any (·.1) = false := by rfl) :
    PE X (.Call (.Attribute o name apos) (e :: es) [] cpos) (tBMF "tuple" r to t) := by
  refine ⟨fun pins s σ H Q I h => ?_⟩
  refine wpAny_Call_method_late hbase hfew hline rfl (thn (ho.run pins s σ H _ I h) fun v s1 ⟨x, H1, I1, r1, ⟨p, ob, ho, ex, hp, hto⟩, q1⟩ => ?_)
  subst ex
  cases (show v = Value.ref p from r1)
  have hg : s1.heap.get? p = some ob := (I1.hok p _ hp).1
  refine ⟨"tuple", id, pa, slot, hty, ⟨ob, hg, hto.cls⟩, fun a e => (by cases e; exact ⟨ob, hg, hto.dict⟩), ?_⟩
  have hA := ha.run cpos pins s1 σ H1 _ I1 q1
  rw [hs] at hA ⊢
  refine Calls.callWith_builtin (by show (false || (backTo cpos (starEach es X.env)).any (·.1)) = false; rw [hplain] <;> rfl) (Calls.evalArgs_plain ?_)
  exact thn hA fun us s2 ⟨vs, H2, I2, r2, q2⟩ => hm pins s2 σ H2 (.ref p) vs (.ref p) us Q I2 rfl r2 q2
section
variable {CX : CXT} {P : Program} {w : World} {K : PySem.W.Frag} {mg : Str → Option Value} {base : Heap} {k : Nat} {f : Addr} {name qual : Str} {params : Arguments} {body : List Stmt} {scope : Scope} {dV kV doc pm cdv ct oc : Value} {an od : Option Addr}
  {osl : Array (Option Value)} {N ps : List Str} {sp : Sp}
/-- def f(a, .., *v): what is left over is a new tuple, and no more -/
theorem fn_starF {pv : Str} (lk : K.lookup f = some ⟨oc, od, .func (PySem.W.fnOf name qual params body scope dV kV doc pm an cdv ct), osl⟩) (hcd : PySem.W.codeIn K cdv qual = true) (S : FnScope N (ps ++ [pv]) scope) (hCX : StX.CXUp CX)
    (hb : ∀ us rest : List Value, us.length = ps.length → bindArgs (PySem.W.fnOf name qual params body scope dV kV doc pm an cdv ct) ⟨us ++ rest, []⟩ = (newTuple rest >>= fun t => pure (ps.zip us ++ [(pv, t)])))
    (hbody : ∀ (A : Around) (outer : List Env) (s : Shared) (H : Hp) (vs : List V) (Q : VK) (E : XK), Room k (A.deeper (envOfC qual scope s.heap.objs.size f cdv)) → sp vs H Q E →
      ∃ t, PSs (cxOf CX P w K mg base N qual scope f cdv A outer s H E) body t ∧ t { nx := fun _ H' => Q .non H', rt := Q } (start N vs) H) :
    FnR P w K mg base CX (k + 1) f (fun vs H Q E => ∃ ws rest, vs = ws ++ rest ∧ ws.length = ps.length ∧ rest.length ≤ sizeLine ∧ ∀ p o, H p = Option.none → TupO o → sp (ws ++ [V.ref p]) (upd H p (.frz o (.tup rest))) Q E) := by
  intro A outer s H us vs Q E hr e0 r hsp
  obtain ⟨ws, rest, ev, hl, hz, hq⟩ := hsp
  subst ev
  obtain ⟨u1, u2, eu, r1, r2⟩ := StX.vals_split r
  subst eu
  have hn : H s.heap.objs.size = Option.none := e0.hok.fresh (Nat.le_refl _)
  have hl1 : u1.length = ps.length := by rw [← r1.length]; exact hl
  have hl2 : u2.length ≤ sizeLine := by rw [← r2.length]; exact hz
  refine StX.run_bnd lk hcd S hr e0 (G := fun xs H2 => ∃ p o, H p = Option.none ∧ TupO o ∧ xs = ws ++ [V.ref p] ∧ H2 = upd H p (.frz o (.tup rest))) (fun A' Ex Q' h => ?_) fun s2 H2 xs ⟨p, o, hp, ho, ex, eH⟩ hr' => ?_
  · rw [hb u1 u2 hl1]
    refine wpAny_bind (wpAny_newTuple (wpAny_pure ?_) hl2)
    have new : ObjOk P w (upd H s.heap.objs.size (.frz ({ cls := .type "tuple", data := .seq u2.toArray } : Obj) (.tup rest))) (s.heap.push ({ cls := .type "tuple", data := .seq u2.toArray } : Obj)) s.heap.objs.size (.frz ({ cls := .type "tuple", data := .seq u2.toArray } : Obj) (.tup rest)) :=
      ⟨Heap.get?_push_size _ rfl, hz, u2, r2, ⟨_, Heap.get?_push_size _ rfl, rfl, _, rfl⟩⟩
    have un := StX.un_laid (fs := frs outer) (s := s) (o := ({ cls := .type "tuple", data := .seq u2.toArray } : Obj)) (u := .frz ({ cls := .type "tuple", data := .seq u2.toArray } : Obj) (.tup rest)) hn
    have z := h _ _ (ws ++ [V.ref s.heap.objs.size]) (u1 ++ [Value.ref s.heap.objs.size]) (StX.env0_laid e0 new) un rfl (fun e s' => hCX outer s H _ _ E e s' un (fun b o q => Heap.get?_push_of_some _ q) rfl) (r1.append (.cons rfl .nil))
      (by rw [List.length_append, List.length_append, hl] <;> rfl) ⟨_, ({ cls := .type "tuple", data := .seq u2.toArray } : Obj), hn, ⟨rfl, rfl⟩, rfl, rfl⟩
    rw [List.zip_append hl1.symm] at z
    exact z
  · subst ex eH
    exact hbody A outer s2 _ _ Q E hr' (hq p o hp ho)
end
end UL
namespace UL
open PySem PySem.Spec PyProof.Rows L2
theorem SqT.frz {K : PySem.W.Frag} {H : Hp} {a : Addr} {o : Obj} {xs : List V} (h : H a = some (.frz o (.tup xs))) : SqT K H a xs := .inl (.inr ⟨o, h⟩)
theorem Keep.frz {H H' : Hp} {a : Addr} {o : Obj} {u : HO} (k : Keep H H') (h : H a = some (.frz o u)) : H' a = some (.frz o u) := k _ _ h fun xs z => by cases z
theorem sqT_same {K : PySem.W.Frag} {H H' : Hp} {a : Addr} {xs : List V} (h : SqT K H a xs) (s : L2.Same H H') : SqT K H' a xs := by
  rcases h with (h | ⟨o, h⟩) | h
  · exact .inl (.inl (s _ _ h))
  · exact .inl (.inr ⟨o, s _ _ h⟩)
  · exact .inr h
end UL
set_option Elab.async false
set_option linter.all false
set_option maxRecDepth 100000
set_option maxHeartbeats 4000000
/-! ### x[y] and y in x by a class's own defs -/
namespace UL
open PySem PySem.Spec PyProof.Rows L2
section
variable {X : Cx} {k j : Nat} {C : Addr} {sp : Sp} {a b : Expr} {ta tb : TE} {pos : Pos}
/-- x[y] by the def of x's class at C -/
def rIxO (C : Addr) (sp : Sp) (E : XK) : R2 := fun x y H Q => ∃ (a dx : Addr) (fs : List (Str × V)), x = .ref a ∧ H a = some (.ins C dx fs) ∧ sp [.ref a, y] H Q E
theorem pe_ixS (c : CalS X.prog X.w X.K X.mg X.base k C "__getitem__" sp) (hg : ∃ g, PySem.W.findIn X.K (.ref C) "__getitem__" = some (some (.ref g)) ∧ PySem.W.fnIn X.K g = true) (hr : Room j X.A) (hk : k + 1 ≤ j) (ha : PE X a ta) (hb : PE X b tb)
    (hsl : ∀ o i, subscripted b true o i = runValue (.builtin "lifetime.subscript" ⟨[o, i], []⟩)) : PE X (.Subscript a b pos) (tOp (rIxO C sp E0) ta tb) := by
  obtain ⟨f, F, h1, h2⟩ := c
  obtain ⟨g, g1, g2⟩ := hg
  have e : g = f := by
    rw [h1] at g1
    injection g1 with z
    injection z with z
    injection z with z
    exact z.symm
  subst e
  refine ⟨fun pins s σ H Q I h => ?_⟩
  refine Subscript_ (binT ha hb I h fun v u s2 x y H2 I2 rx ry q => ?_)
  obtain ⟨p, dx, fs, rfl, hp, q⟩ := q
  cases (show v = Value.ref p from rx)
  obtain ⟨mA, O, _⟩ := ins_get I2.hok hp
  obtain ⟨od, J, _⟩ := O.look
  obtain ⟨m, hF⟩ := I2.fr
  refine PySem.W.sub_K hF I2.ok.mod.kin J h1 g2 h2 (wpAny_mono (wpAny_call (SlX.run_at (us := [.ref p, u]) (ws := [.ref p, y]) F (hr.mono hk).in1 I2.env0.in1 pass0 I2 (.cons rfl (.cons ry .nil)) q)) (fun w s' z => ?_) fun _ _ e => e) (hsl _ _)
  exact z
end
end UL
set_option Elab.async false
set_option linter.all false
set_option maxRecDepth 100000
set_option maxHeartbeats 4000000
namespace UL
open PySem PySem.Spec PyProof.Rows L2
section
variable {X : Cx} {k j : Nat} {C : Addr} {sp : Sp} {x : Str} {e : Expr} {es : List Expr} {t : TA} {p pos : Pos} {E : XK}
/-- C(..) of a class whose making may raise -/
theorem pe_nRE (c : MakRE X.prog X.w X.K X.mg X.base k x C sp) (px : Passes (L2.CX X.prog X.w) X E) (hr : Room j X.A) (hk : k + 1 ≤ j) (hg : Gl X x) (ha : PA X (e :: es) t) (hdb : (x == ("__debug__" : Str)) = false := by decide)
    (he : starEach (e :: es) X.env = (false, eval e X.env) :: starEach es X.env := by rfl) (hpl : (backTo pos (starEach es X.env)).any (·.1) = false := by rfl) : PE X (.Call (.Name x p) (e :: es) [] pos) (StX.tMakeR C sp E t) := by
  obtain ⟨f, F, M, g⟩ := c
  exact StX.pe_makeR M F (hr.mono hk) hg g px ha hdb he hpl
end
end UL
set_option Elab.async false
set_option linter.all false
set_option maxRecDepth 100000
set_option maxHeartbeats 4000000
/-! ### data with dicts: what repr says of it -/
namespace UL
open PySem PySem.Spec PyProof.Rows L2
def keyD : Key → PyData
  | .inl i => .int i
  | .inr x => .str x
def flatD : V → PyData
  | .non => .none
  | .bl b => .bool b
  | .int i => .int i
  | .str x => .str x
  | _ => .none
/-- what stands in a list that is told: data without dicts, or a dict of plain values -/
inductive Itm (K : PySem.W.Frag) (H : Hp) : V → PyData → Prop
  | dp {v : V} {d : PyData} (h : Dp K H v d) (n : d.hasDict = false) : Itm K H v d
  | dct {a : Addr} {kvs : List (Key × V)} (h : H a = some (.dK kvs)) (q : ∀ p ∈ kvs, flatV p.2 = true) : Itm K H (.ref a) (.dict (kvs.map fun p => (keyD p.1, flatD p.2)))
inductive ItmAll (K : PySem.W.Frag) (H : Hp) : List V → List PyData → Prop
  | nil : ItmAll K H [] []
  | cons {v : V} {vs : List V} {d : PyData} {ds : List PyData} (h : Itm K H v d) (q : ItmAll K H vs ds) : ItmAll K H (v :: vs) (d :: ds)
theorem Itm.flat {K : PySem.W.Frag} {H : Hp} : ∀ {v : V}, flatV v = true → Itm K H v (flatD v)
  | .non, _ => .dp .non rfl
  | .bl b, _ => .dp (.bl b) rfl
  | .int i, _ => .dp (.int i) rfl
  | .str x, _ => .dp (.str x) rfl
  | .ref _, h => by cases h
theorem flat_reads {h : Heap} {v : V} {u : Value} (f : flatV v = true) (r : RelV v u) : Reads h u (flatD v) [] := by
  cases v with
  | non =>
    cases (show u = Value.none from r)
    exact .none
  | bl b =>
    cases (show u = Value.bool b from r)
    exact .bool b
  | int i =>
    obtain ⟨t, rfl⟩ := r
    exact .int i t
  | str x =>
    obtain ⟨t, rfl⟩ := r
    exact .str x t
  | _ => cases f
theorem dict_reads {prog : Program} {w : World} {h : Heap} : ∀ {es : List DictEntry} {vs : List (Key × Value)} {kvs : List (Key × V)}, Pairs (mixKind prog w) es vs → KV kvs vs → (∀ p ∈ kvs, flatV p.2 = true) →
    ReadsAll h (es.map (·.key)) ((kvs.map fun p => (keyD p.1, flatD p.2)).map (·.1)) [] ∧ ReadsAll h (es.map (·.val)) ((kvs.map fun p => (keyD p.1, flatD p.2)).map (·.2)) []
  | _, _, _, .nil, .nil, _ => ⟨.nil, .nil⟩
  | _, _, _, .cons (e := en) hk hv rest, .cons (a := p) hp hq, hf => by
    obtain ⟨i1, i2⟩ := dict_reads (h := h) rest hq fun p hp => hf p (List.mem_cons_of_mem _ hp)
    obtain ⟨e1, e2⟩ := hp
    have f1 := hf p List.mem_cons_self
    have key : Reads h en.key (keyD p.1) [] := by
      rw [e1]
      rcases keyIs_shape hk with ⟨i, t, ek, ev⟩ | ⟨x, t, ek, ev⟩
      · rw [ek, ev]
        exact .int i t
      · rw [ek, ev]
        exact .str x t
    have val : Reads h en.val (flatD p.2) [] := by
      rw [hv]
      exact flat_reads f1 e2
    exact ⟨.cons (as := []) (bs := []) key i1, .cons (as := []) (bs := []) val i2⟩
section
variable {X : Cx} {pins : List (Addr × Obj)} {σ : L2.St} {H : Hp} {s : Shared}
theorem Itm.reads (I : Inv X pins σ H s) {v : V} {d : PyData} {u : Value} (i : Itm X.K H v d) (r : RelV v u) : ∃ as, Reads s.heap u d as ∧ (d.hasDict = true → sysModules ∉ as) := by
  cases i with
  | dp h n =>
    obtain ⟨as, rd⟩ := Dp.reads I d v u h r
    exact ⟨as, rd, PyData.noDict_hsm n⟩
  | @dct a kvs h q =>
    cases (show u = Value.ref a from r)
    obtain ⟨hz, hd, vs, rel, o, es, ep, ho, ⟨hc, _, _⟩, hdt, _, hp, _⟩ := dk_of I.hok h
    obtain ⟨r1, r2⟩ := dict_reads (h := s.heap) hp rel q
    refine ⟨a :: [] ++ [], .dict ho hc hdt r1 r2, fun _ z => ?_⟩
    have z' : sysModules = a := by simpa using z
    rw [z'] at hd
    simp at hd
theorem items_reprs (I : Inv X pins σ H s) : ∀ {vs : List V} {ds : List PyData} {us : List Value}, ItmAll X.K H vs ds → Vals vs us → PyData.showableAll ds = true → (∀ t ∈ PyData.shownAll ds, t.length ≤ sizeLine) →
    ∃ as bs, ReadsAll s.heap us ds as ∧ ReadAtMost s.heap (PyData.depthAll ds) bs ∧ ReprAllK X.prog X.w bs s.heap (PyData.depthAll ds) us (PyData.shownAll ds)
  | _, _, _, .nil, .nil, _, _ => ⟨[], [], .nil, fun _ h => (nomatch h), by simp only [PyData.shownAll]; exact .nil⟩
  | _, d :: ds, _, .cons h q, .cons r rr, hs, hz => by
    simp only [PyData.showableAll, Bool.and_eq_true] at hs
    simp only [PyData.shownAll, List.mem_cons] at hz
    obtain ⟨as, rd, sm⟩ := h.reads I r
    obtain ⟨b1, m1, k1⟩ := ReprK.of_reads (prog := X.prog) (w := X.w) rd hs.1 sm (hz _ (.inl rfl))
    obtain ⟨as2, b2, rd2, m2, k2⟩ := items_reprs I q rr hs.2 fun t ht => hz t (.inr ht)
    have e1 : d.depth ≤ PyData.depthAll (d :: ds) := by simp only [PyData.depthAll]; omega
    have e2 : PyData.depthAll ds ≤ PyData.depthAll (d :: ds) := by simp only [PyData.depthAll]; omega
    refine ⟨as ++ as2, b1 ++ b2, .cons rd rd2, (m1.mono e1).append (m2.mono e2), ?_⟩
    have w1 : ReprAllK X.prog X.w b1 s.heap d.depth [_] [d.shown] := .cons k1 .nil
    have w1' := ReprAllK.more_le (as' := b1 ++ b2) (fun b hb => List.mem_append_left _ hb) e1 w1
    simp only [PyData.shownAll]
    cases w1' with
    | cons k1' _ => exact .cons k1' (ReprAllK.more_le (fun b hb => List.mem_append_right _ hb) e2 k2)
end
/-- repr of a list that was told -/
def rReprT (K : PySem.W.Frag) : List V → Hp → VK → Prop := fun xs H Q => ∃ (a : Addr) (vs : List V) (ds : List PyData), xs = [.ref a] ∧ H a = some (.lst vs) ∧ ItmAll K H vs ds ∧ PyData.showableAll ds = true ∧ PyData.depthAll ds ≤ 40 ∧ (PyData.list ds).shown.length ≤ sizeLine ∧ Q (.str (PyData.list ds).shown) H
section
variable {X : Cx}
theorem call_reprT (hgd : X.A.guards = some []) (hu : X.A.units + 64 < cLine) : CallR X (.builtin "repr") (rReprT X.K) := by
  intro pins s σ H xs us Q I r h
  obtain ⟨a, vs, ds, rfl, ha, hi, hs, hdp, hz, q⟩ := h
  obtain ⟨u, rfl, ru⟩ := vals1 r
  cases (show u = Value.ref a from ru)
  obtain ⟨hl, its, n, rv, ho⟩ : vs.length ≤ sizeLine ∧ ∃ (its : List Value) (n : Nat), Vals vs its ∧ s.heap.get? a = some { cls := .type "list", data := .seq its.toArray n } := I.hok a _ ha
  have hz2 : (listText (PyData.shownAll ds)).length ≤ sizeLine := by simpa only [PyData.shown] using hz
  obtain ⟨as, bs, rd, hm, hk⟩ := items_reprs I hi rv hs fun t ht => Nat.le_trans (listText_mem_le ht) hz2
  have fin : ∀ h' t tk, (∀ b o, s.heap.get? b = some o → h'.get? b = some o) → EP X pins σ Q (.str (PyData.list ds).shown t) { s with heap := h', toks := tk } := fun h' t tk kp => ⟨.str (PyData.list ds).shown, H, I.kept kp, ⟨t, rfl⟩, q⟩
  have whole : Reads s.heap (.ref a) (.list ds) (a :: as) := .list ho rfl rfl (by simpa using rd)
  have na : a ∉ bs := not_mem_of_deeper whole (by simp only [PyData.depth]; omega) hm
  refine call_repr_slot (by omega) ⟨_, ho, rfl⟩ F.slot_list_repr.toG ?_
  cases rv with
  | nil =>
    cases hi
    simp only [PyData.shown, PyData.shownAll, listText_nil] at fin
    exact call_list_repr_empty ⟨_, ho, rfl⟩ ho rfl ⟨_, _, rfl, fin s.heap _ _ fun _ _ z => z⟩
  | cons r1 r2 =>
    simp only [PyData.shown] at fin
    exact call_list_reprK ho rfl rfl na (by simpa using hk.length_eq) (fun i y e => hk.item i y (by simpa using e)) hgd (fun b _ => Clear.nil b) (by show X.A.units + 1 + (PyData.depthAll ds + 1) < cLine; omega) (fun _ _ z => z) (fun h' t tk kp => ⟨_, _, rfl, fin h' t tk kp⟩) hz2
end
/-! data stays -/
mutual
theorem dp_ext {K : PySem.W.Frag} {H H' : Hp} (s : ∀ b o, H b = some o → (∀ ps, o ≠ .tbl ps) → H' b = some o) : ∀ {v : V} {d : PyData}, Dp K H v d → Dp K H' v d
  | _, _, .non => .non
  | _, _, .bl b => .bl b
  | _, _, .int i => .int i
  | _, _, .str x => .str x
  | _, _, .lst h q => .lst (by
      rcases h with (h | ⟨o, h⟩) | h
      · exact .inl (.inl (s _ _ h (fun _ z => by cases z)))
      · exact .inl (.inr ⟨o, s _ _ h (fun _ z => by cases z)⟩)
      · exact .inr h) (dp_extA s q)
  | _, _, .tup h q => .tup (by
      rcases h with (h | ⟨o, h⟩) | h
      · exact .inl (.inl (s _ _ h (fun _ z => by cases z)))
      · exact .inl (.inr ⟨o, s _ _ h (fun _ z => by cases z)⟩)
      · exact .inr h) (dp_extA s q)
theorem dp_extA {K : PySem.W.Frag} {H H' : Hp} (s : ∀ b o, H b = some o → (∀ ps, o ≠ .tbl ps) → H' b = some o) : ∀ {vs : List V} {ds : List PyData}, DpAll K H vs ds → DpAll K H' vs ds
  | _, _, .nil => .nil
  | _, _, .cons h q => .cons (dp_ext s h) (dp_extA s q)
end
theorem Itm.ext {K : PySem.W.Frag} {H H' : Hp} {v : V} {d : PyData} (i : Itm K H v d) (s : ∀ b o, H b = some o → (∀ ps, o ≠ .tbl ps) → H' b = some o) : Itm K H' v d := by
  cases i with
  | dp h n => exact .dp (dp_ext s h) n
  | dct h q => exact .dct (s _ _ h (fun _ z => by cases z)) q
/-! ### a maker of lambdas whose callees say repr -/
section
variable {P : Program} {w : World} {K : PySem.W.Frag} {mg : Str → Option Value} {base : Heap}
theorem FnG.mkC {x qual : Str} {st : Stmt} {f c : Addr} {fd : FuncData} {N ps : List Str} {k : Nat} {sp : Sp} (F : FunC K x qual st f fd c) (S : FnScope N ps (defScope st)) (len : ∀ vs H Q E, sp vs H Q E → vs.length = ps.length)
    (go : ∀ (A : Around) (outer : List Env) (s : Shared) (H : Hp) (vs : List V) (Q : VK) (E : XK), A.guards = some [] → Room k (A.deeper (envOfC qual (defScope st) s.heap.objs.size f (.ref c))) → sp vs H Q E →
      ∃ t, PSs (cxOf CX0 P w K mg base N qual (defScope st) f (.ref c) A outer s H E).nox (defBody st) t ∧ t { nx := fun _ H' => Q .non H', rt := Q } (start N vs) H) : FnG P w K mg base (k + 1) f fd ps sp := by
  obtain ⟨oc, od, kV, doc, pm, an, ct, osl, rfl, lk, hcd⟩ := F.ex
  refine ⟨len, fun A outer s H args us vs Q E hg hr e0 hb r hsp => ?_⟩
  have hlen := len _ _ _ _ hsp
  have inS : K.In s.heap := e0.mod.kin.keeps fun b o e => (e0.bs b o e).1
  have limS : s.heap.NoLimit := e0.mod.nolimit.keeps fun b o e => (e0.bs b o e).1
  have kinds : ∀ y ∈ ps.zip us, (defScope st).names.lookup y.1 = some .local ∨ ((defScope st).names.lookup y.1 = some .cell ∧ ((cellsFrom (s.heap.objs.size + 1) (defScope st).names []).lookup y.1).isSome = true) := by
    rintro ⟨n, v⟩ hy
    exact (S.par n (List.of_mem_zip hy).1).imp id fun q => ⟨q, PySem.W.cellsFrom_some _ _ _ (.inl q)⟩
  refine codeAny_call_function hr.depth (inS _ _ lk) rfl S.co S.gen rfl (PySem.W.codeRec_of inS hcd) (hb _ _ _ _ ?_)
  refine wpAny_newFunctionEnv_cells S.kind kinds fun env henv s1 x => ?_
  subst henv
  refine ⟨limS.keeps x.toInCall.keep, codeAny_func ?_⟩
  obtain ⟨t, ht, hq⟩ := go A outer s H vs Q E hg (hr.deeper _) hsp
  have I : Inv (cxOf CX0 P w K mg base N qual (defScope st) f (.ref c) A outer s H E) [] (start N vs) H s1 := inv_start S hr.hd e0 hlen r x
  refine wpAny_mono (ht.nox.run [] s1 (start N vs) H _ I hq) (fun fl s' hs => ?_) fun e s' hs => hs
  cases fl with
  | ret u =>
    obtain ⟨v, σ', H', J, rv, q⟩ := hs
    exact ⟨v, H', J.os, J.bare, J.base, J.hok, rv, q⟩
  | next =>
    obtain ⟨σ', H', J, q⟩ := hs
    exact ⟨V.non, H', J.os, J.bare, J.base, J.hok, rfl, q⟩
  | brk => exact hs.elim fun _ z => z.elim fun _ y => y.2.elim
  | cont => exact hs.elim fun _ z => z.elim fun _ y => y.2.elim
end
/-! ### classes made with keywords, whose making may raise -/
section
variable (P : Program) (w : World) (K : PySem.W.Frag) (mg : Str → Option Value) (base : Heap)
def MakDE (k : Nat) (x : Str) (C : Addr) (dvs : List V) (sp : Sp) : Prop := ∃ f fd ps ds, FnOk P w K mg base (L2.CX P w) k f fd ps sp ∧ Mk K C f ∧ mg x = some (.ref C) ∧ Binds K fd ps ds ∧ Vals dvs ds
def MakKE (k : Nat) (x : Str) (C : Addr) (ks : List Str) (gV : List V → List V → List V) (sp : Sp) : Prop := ∃ f fd ps g, FnOk P w K mg base (L2.CX P w) k f fd ps sp ∧ Mk K C f ∧ mg x = some (.ref C) ∧ KBn K fd ps 1 ks g gV
def MakNE (k : Nat) (x : Str) (C : Addr) (n : Nat) (ks : List Str) (gV : List V → List V → List V) (sp : Sp) : Prop := ∃ f fd ps g, FnOk P w K mg base (L2.CX P w) k f fd ps sp ∧ Mk K C f ∧ mg x = some (.ref C) ∧ KBn K fd ps (n + 1) ks g gV
end
section
variable {X : Cx} {k j n : Nat} {x : Str} {C : Addr} {sp : Sp} {dvs : List V} {e : Expr} {es : List Expr} {kws : List Keyword} {ks : List Str} {gV : List V → List V → List V} {t tk : TA} {p pos : Pos} {E : XK}
theorem pe_nDE (c : MakDE X.prog X.w X.K X.mg X.base k x C dvs sp) (px : Passes (L2.CX X.prog X.w) X E) (hr : Room j X.A) (hk : k + 1 ≤ j) (hg : Gl X x) (ha : PA X (e :: es) t) (hdb : (x == ("__debug__" : Str)) = false := by decide)
    (he : starEach (e :: es) X.env = (false, eval e X.env) :: starEach es X.env := by rfl) (hpl : (backTo pos (starEach es X.env)).any (·.1) = false := by rfl) : PE X (.Call (.Name x p) (e :: es) [] pos) (tMake C sp dvs E t) := by
  obtain ⟨f, fd, ps, ds, F, M, g, b, v⟩ := c
  exact pe_make M F (hr.mono hk) hg g b v px ha hdb he hpl
theorem pe_nKE (c : MakKE X.prog X.w X.K X.mg X.base k x C ks gV sp) (px : Passes (L2.CX X.prog X.w) X E) (hr : Room j X.A) (hk : k + 1 ≤ j) (hg : Gl X x) (hkw : PK X kws tk)
    (hall : (backToKw pos (keywordEach kws X.env)).all (·.1.isSome) = true := by rfl) (hks : (backToKw pos (keywordEach kws X.env)).filterMap (·.1) = ks := by rfl) (hdb : (x == ("__debug__" : Str)) = false := by decide)
    (hpl : ((backTo pos (starEach [] X.env)).any (·.1) || (backToKw pos (keywordEach kws X.env)).any (·.1.isNone)) = false := by rfl) :
    PE X (.Call (.Name x p) [] kws pos) (tMakeK C 0 ks.length sp gV E tNil tk) := by
  obtain ⟨f, fd, ps, gg, F, M, g, b⟩ := c
  exact pe_makeK0 M F (hr.mono hk) hg g b px hkw hall hks hdb hpl
theorem pe_nNE (c : MakNE X.prog X.w X.K X.mg X.base k x C n ks gV sp) (px : Passes (L2.CX X.prog X.w) X E) (hr : Room j X.A) (hk : k + 1 ≤ j) (hg : Gl X x) (ha : PA X (e :: es) t) (hkw : PK X kws tk)
    (h1 : (backToKw pos (keywordEach kws X.env)).all (·.1.isSome) = true := by rfl) (h2 : (backToKw pos (keywordEach kws X.env)).filterMap (·.1) = ks := by rfl) (h3 : (x == ("__debug__" : Str)) = false := by decide)
    (h4 : starEach (e :: es) X.env = (false, eval e X.env) :: starEach es X.env := by rfl)
    (h5 : ((backTo pos (starEach (e :: es) X.env)).any (·.1) || (backToKw pos (keywordEach kws X.env)).any (·.1.isNone)) = false := by rfl) :
    PE X (.Call (.Name x p) (e :: es) kws pos) (tMakeN C n ks.length sp gV E t tk) := by
  obtain ⟨f, fd, ps, g, F, M, m, b⟩ := c
  exact pe_makeN M F (hr.mono hk) hg m b px ha hkw h1 h2 h3 h4 h5
end
end UL
set_option Elab.async false
set_option linter.all false
set_option maxRecDepth 100000
set_option maxHeartbeats 4000000
/-! ### the law's own call: no repr is under way, a maker's tables -/
namespace UL
open PySem PySem.Spec PyProof.Rows L2 LamX
section
variable {P : Program} {w : World} {K : PySem.W.Frag} {mg mb : Str → Option Value} {k : Nat} {fa a : Addr} {cs : List (Addr × Addr)} {fd : FuncData} {x : Str} {sp : Sp} {s₁ : Shared} {vs : List Value} {ns : List Int}
/-- what may stand at b when the law is called -/
def AtFirst (K : PySem.W.Frag) (h : Heap) (a : Addr) (vs : List Value) (cs : List (Addr × Addr)) (H : Hp) (b : Addr) : Prop :=
  H b = none ∨ (b = a ∧ K.lookup a = none ∧ ∃ xs, H b = some (.frz { cls := .type "list", data := .seq vs.toArray } (.lst xs))) ∨ (∃ p ∈ cs, b = p.2 ∧ H b = some (.tbl #[]))
theorem call_fromS {H : Hp} (KX : K.In s₁.heap) (hns : s₁.heap.Ns mainGlobals mg) (hb : s₁.heap.Ns builtinsNs mb) (hbb : ∀ x : Str, x ≠ "__name__" → mb x = bootBuiltins x) (hlim : s₁.heap.NoLimit) (hg : s₁.gens = #[])
    (hT : ∀ p ∈ cs, s₁.heap.get? p.2 = some { cls := .none, data := .fields #[] }) (nT : ∀ p ∈ cs, K.lookup p.2 = none) (cP : ∀ p ∈ cs, PySem.W.codeHdIn K p.1 p.2 = true)
    (hbm : ∃ (bm : Addr) (ob : Obj), mg "__builtins__" = some (.ref bm) ∧ bm ≠ builtinsNs ∧ s₁.heap.get? bm = some ob ∧ ob.cls = .type "module" ∧ ob.dict = some builtinsNs ∧ ob.data = .plain)
    (ha : s₁.heap.get? a = some { cls := .type "list", data := .seq vs.toArray }) (hr : Room k callerA)
    (F : ∀ base : Heap, K.In base → base.Ns mainGlobals mg → (∀ p ∈ cs, TabB base mg p.1 p.2) → FnG P w K mg base k fa fd [x] sp) (hbind : ∀ (s : Shared) (u : Value), BindsTo s fd ⟨[u], []⟩ [(x, u)])
    (only : ∀ b, AtFirst K s₁.heap a vs cs H b) (hok : HOk P w H s₁.heap) (hsp : sp [.ref a] H (fun v _ => v = .bl true) fun _ _ _ => False) :
    codeAny (model P w) callerA (.call (.ref fa) ⟨[.ref a], []⟩) (fun r s' => r = .ok (.ret (.bool true)) ∧ OldK s₁.heap s'.heap ∧ s'.os = s₁.os ∧ AllBare s'.gens) s₁ := by
  have stays : ∀ {b : Addr} {o : Obj}, s₁.heap.get? b = some o → H b = none → (hidT s₁.heap H).get? b = some o := fun e n => hidT_get e n
  have free : ∀ {b : Addr} {o : Obj}, s₁.heap.get? b = some o → (∀ n, o.data ≠ .seq vs.toArray n) → o.data ≠ .fields #[] → H b = none := fun {b o} e h1 h2 => by
    rcases only b with z | ⟨z, _, _⟩ | ⟨p, hp, z, _⟩
    · exact z
    · rw [z, ha] at e
      cases e
      exact (h1 _ rfl).elim
    · rw [z, hT p hp] at e
      cases e
      exact (h2 rfl).elim
  have hKb : K.In (hidT s₁.heap H) := fun b o e => stays (KX b o e) (by
    rcases only b with z | ⟨z, y, _⟩ | ⟨p, hp, z, _⟩
    · exact z
    · rw [z, y] at e
      cases e
    · rw [z, nT p hp] at e
      cases e)
  have nsK : ∀ {b : Addr} {m : Str → Option Value}, s₁.heap.Ns b m → (hidT s₁.heap H).Ns b m := fun {b m} ⟨o, es, ep, e, d, r⟩ => ⟨o, es, ep, stays e (free e (fun n z => by rw [d] at z; cases z) (fun z => by rw [d] at z; cases z)), d, r⟩
  have nG := nsK hns
  have hM : Mod K mg (hidT s₁.heap H) := ⟨hKb, nG, ⟨mb, nsK hb, hbb⟩, let ⟨mc, h1, h2⟩ := hlim; ⟨mc, nsK h1, h2⟩⟩
  have TB : ∀ p ∈ cs, TabB (hidT s₁.heap H) mg p.1 p.2 := fun p hp => by
    obtain ⟨bm, ob, q1, q2, q3, q4, q5, q6⟩ := hbm
    have g1 : bm ≠ mainGlobals := fun z => by
      obtain ⟨o, es, ep, e, hd, _⟩ := id hns
      rw [z, e] at q3
      cases q3
      rw [hd] at q6
      cases q6
    have g2 : bm ≠ p.2 := fun z => by
      rw [z, hT p hp] at q3
      cases q3
      cases q6
    refine ⟨PySem.W.codeHd_of_K hKb (cP p hp), ⟨bm, ob, q1, q2, g1, g2, stays q3 (free q3 (fun n z => by rw [q6] at z; cases z) (fun z => by rw [q6] at z; cases z)), q4, q5, q6⟩, fun z => ?_⟩
    obtain ⟨o, es, ep, e, hd, _⟩ := id hns
    rw [z, hT p hp] at e
    cases e
    cases hd
  have e0 : Env0 P w K mg (hidT s₁.heap H) callerA [] s₁ H := ⟨rfl, hM, fun b o e => of_hidT e, Nat.le_of_eq (hidT_size _ _), trivial, fun b z => (nomatch (show b ∈ ([] : List Addr) from z)), hok, .of_eq hg⟩
  refine codeAny_mono ((F _ hKb nG TB).run callerA [] s₁ H ⟨[.ref a], []⟩ [.ref a] [.ref a] _ _ rfl hr e0 (hbind s₁ (.ref a)) (.cons rfl .nil) hsp) fun r s' h => ?_
  match r, h with
  | .ok (.ret u), ⟨v, H', os, bare, un, hok', r', q⟩ =>
    cases (show v = .bl true from q)
    cases (show u = Value.bool true from r')
    have frz : ∀ {b : Addr} {o ob : Obj} {z : HO}, H b = some (.frz ob z) → s₁.heap.get? b = some o → s'.heap.get? b = some o := fun {b o ob z} hz e => by
      obtain ⟨e1, _⟩ := hok b _ hz
      obtain ⟨e2, _⟩ := hok' b _ (un.frzs b ob _ hz)
      rw [e] at e1
      cases e1
      exact e2
    have grown : ∀ p ∈ cs, H p.2 = some (.tbl #[]) → ∃ more : Array Value, s'.heap.get? p.2 = some { cls := .none, data := .fields more } := fun p hp e => by
      obtain ⟨more, z⟩ := un.tbls p.2 #[] e
      exact ⟨_, hok' p.2 _ z⟩
    refine ⟨rfl, ⟨fun b o e => ?_, fun b o e => ?_⟩, os, bare⟩
    · rcases only b with z | ⟨_, _, xs, z⟩ | ⟨p, hp, y, z⟩
      · exact .inl (un.keep b o e z (fun y => nomatch (show b ∈ ([] : List Addr) from y)) (fun y => nomatch (show b ∈ ([] : List Addr) from y)))
      · exact .inl (frz z e)
      · subst y
        obtain ⟨more, hm⟩ := grown p hp z
        rw [hT p hp] at e
        cases e
        exact .inr (.inl ⟨((PySem.W.codeHd_of_K KX (cP p hp)).tab (hT p hp)).isCodeTable, rfl, #[], more, rfl, by rw [Array.empty_append]; exact hm⟩)
    · rcases only b with z | ⟨_, _, xs, z⟩ | ⟨p, hp, y, z⟩
      · exact ⟨o, un.keep b o e z (fun y => nomatch (show b ∈ ([] : List Addr) from y)) (fun y => nomatch (show b ∈ ([] : List Addr) from y))⟩
      · exact ⟨o, frz z e⟩
      · subst y
        obtain ⟨more, hm⟩ := grown p hp z
        exact ⟨_, hm⟩
theorem law_callS (KX : K.In s₁.heap) (hns : s₁.heap.Ns mainGlobals mg) (hb : s₁.heap.Ns builtinsNs mb) (hbb : ∀ x : Str, x ≠ "__name__" → mb x = bootBuiltins x) (hlim : s₁.heap.NoLimit) (hg : s₁.gens = #[])
    (hT : ∀ p ∈ cs, s₁.heap.get? p.2 = some { cls := .none, data := .fields #[] }) (nT : ∀ p ∈ cs, K.lookup p.2 = none) (cP : ∀ p ∈ cs, PySem.W.codeHdIn K p.1 p.2 = true)
    (hbm : ∃ (bm : Addr) (ob : Obj), mg "__builtins__" = some (.ref bm) ∧ bm ≠ builtinsNs ∧ s₁.heap.get? bm = some ob ∧ ob.cls = .type "module" ∧ ob.dict = some builtinsNs ∧ ob.data = .plain)
    (ha : s₁.heap.get? a = some { cls := .type "list", data := .seq vs.toArray }) (hi : IntsAre vs ns) (hl : ns.length ≤ sizeLine) (hr : Room k callerA)
    (F : ∀ base : Heap, K.In base → base.Ns mainGlobals mg → (∀ p ∈ cs, TabB base mg p.1 p.2) → FnG P w K mg base k fa fd [x] sp) (hbind : ∀ (s : Shared) (u : Value), BindsTo s fd ⟨[u], []⟩ [(x, u)])
    (hsp : ∀ H : Hp, (∀ p ∈ cs, H p.2 = some (.tbl #[])) → SqL K H a (ns.map V.int) → sp [.ref a] H (fun v _ => v = .bl true) fun _ _ _ => False) :
    codeAny (model P w) callerA (.call (.ref fa) ⟨[.ref a], []⟩) (fun r s' => r = .ok (.ret (.bool true)) ∧ OldK s₁.heap s'.heap ∧ s'.os = s₁.os ∧ AllBare s'.gens) s₁ := by
  have rv := vals_ints hi
  have lenV := hi.length
  have aT : ∀ p ∈ cs, p.2 ≠ a := fun p hp z => by
    have q := hT p hp
    rw [z, ha] at q
    cases q
  let H0 : Hp := fun b => if b ∈ cs.map (·.2) then some (.tbl #[]) else if b = a ∧ K.lookup a = none then some (.frz { cls := .type "list", data := .seq vs.toArray } (.lst (ns.map V.int))) else none
  have eT : ∀ p ∈ cs, H0 p.2 = some (.tbl #[]) := fun p hp => if_pos (List.mem_map.mpr ⟨p, hp, rfl⟩)
  have nT' : ∀ b, b ∉ cs.map (·.2) → H0 b = if b = a ∧ K.lookup a = none then some (.frz { cls := .type "list", data := .seq vs.toArray } (.lst (ns.map V.int))) else none := fun b hb => if_neg hb
  have aN : a ∉ cs.map (·.2) := fun z => by
    obtain ⟨p, hp, e⟩ := List.mem_map.mp z
    exact aT p hp e
  have oA : ∀ b u, H0 b = some u → AtFirst K s₁.heap a vs cs H0 b ∧ ObjOk P w H0 s₁.heap b u := fun b u e => by
    by_cases c : b ∈ cs.map (·.2)
    · obtain ⟨p, hp, ep⟩ := List.mem_map.mp c
      subst ep
      have e' := eT p hp
      rw [e'] at e
      cases e
      exact ⟨.inr (.inr ⟨p, hp, rfl, e'⟩), hT p hp⟩
    · have e' := nT' b c
      by_cases d : b = a ∧ K.lookup a = none
      · rw [if_pos d] at e'
        rw [e'] at e
        cases e
        obtain ⟨rfl, d2⟩ := d
        exact ⟨.inr (.inl ⟨rfl, d2, _, e'⟩), ha, by rw [List.length_map]; exact hl, vs, _, rv, ha⟩
      · rw [if_neg d] at e'
        rw [e'] at e
        cases e
  refine call_fromS (H := H0) KX hns hb hbb hlim hg hT nT cP hbm ha hr F hbind (fun b => ?_) (fun b u e => (oA b u e).2) (hsp H0 eT ?_)
  · cases e : H0 b with
    | none => exact .inl e
    | some u => exact (oA b u e).1
  · cases hk : K.lookup a with
    | some o =>
      obtain rfl : _ = o := Option.some.inj (ha.symm.trans (KX a o hk))
      exact .inr ⟨_, vs.toArray, _, hk, rfl, rfl, rfl, by rw [List.size_toArray, lenV]; exact hl, by simpa using rv⟩
    | none =>
      have e' := nT' a aN
      rw [if_pos ⟨rfl, hk⟩] at e'
      exact .inl (.inr ⟨_, e'⟩)
end
/-- what is known of the law's promise at the head's heap -/
def LawAtG (l : PySem.W.OpenLaw) (w : World) (K : PySem.W.Frag) (k n : Nat) (x : Str) (mg : Str → Option Value) (fa : Addr) (h : Heap) : Prop :=
  ∃ (fd : FuncData) (cs : List (Addr × Addr)) (sp : Sp), (∀ p ∈ cs, h.get? p.2 = some { cls := .none, data := .fields #[] }) ∧ (∀ p ∈ cs, K.lookup p.2 = none) ∧ (∀ p ∈ cs, PySem.W.codeHdIn K p.1 p.2 = true) ∧
    (∀ (s : Shared) (u : Value), BindsTo s fd ⟨[u], []⟩ [(x, u)]) ∧
    (∀ (H : Hp) (a : Addr) (ns : List Int), ns.length ≤ n → (∀ p ∈ cs, H p.2 = some (.tbl #[])) → SqL K H a (ns.map V.int) → sp [.ref a] H (fun v _ => v = .bl true) fun _ _ _ => False) ∧
    ∀ base : Heap, K.In base → base.Ns mainGlobals mg → (∀ p ∈ cs, TabB base mg p.1 p.2) → FnG l.prog w K mg base k fa fd [x] sp
theorem walkGS {l : PySem.W.OpenLaw} {n k : Nat} {q : Program} {loose : List Str} {XP : (Str → Option Value) → Heap → Prop} {YP : World → Heap → Prop} {d : DefRec} {K : Params → PySem.W.Frag} {x : Str}
    (hn : l.most = some n) (hn2 : n ≤ sizeLine) (hdf : d.params.defaults = []) (hr : Room k callerA) (hY : ∀ (w : World) (h : Heap), YP w h → (K w.params).In h)
    (F : ∀ (w : World) (mg : Str → Option Value) (fa : Addr) (h : Heap), YP w h → (K w.params).In h → h.Ns mainGlobals mg → mg d.name = some (.ref fa) → LawAtG l w (K w.params) k n x mg fa h) :
    PySem.W.WalkO q loose XP YP l.row.toRowW d [] (fun f vs => PySem.call f vs) := by
  refine Att.attach_call hn hdf fun w s₀ s₁ mg mb fa o pm cd doc a vs ns G Y _ _ _ hmg hobj hints hlen hg => ?_
  have KX := hY w _ Y
  obtain ⟨fd, cs, sp, hT, nT, cP, hb, hsp, hF⟩ := F w mg fa _ Y KX G.T.g hmg
  exact law_callS KX G.T.g G.T.b G.T.builtins G.T.nolimit hg hT nT cP G.T.bmain hobj hints (Nat.le_trans hlen hn2) hr hF hb fun H h1 h2 => hsp H a ns hlen h1 h2
end UL
set_option Elab.async false
set_option linter.all false
set_option maxRecDepth 100000
set_option maxHeartbeats 4000000
/-! ### isinstance(e, C) of a caught error, which it is -/
namespace UL
open PySem PySem.Spec PyProof.Rows L2
section
variable {prog : Program} {w : World} {A : Around} {E : Value → Shared → Prop} {s : Shared} {K : PySem.W.Frag} {x t c : Value} {Q : Value → Shared → Prop}
theorem isi_true (X : K.In s.heap) (LT : PySem.W.Looks (model prog w) s.heap (typeOf x) t) (e : PySem.W.kitCls K t c = some true) (ne : (t == c) = false) (hx : x ≠ .builtin "__main__.__loader__#opaque") (h : ∀ tk, Q (.bool true) { s with toks := tk }) :
    wpAny (model prog w) A (call (.builtin "isinstance") [x, c]) Q E s := by
  obtain ⟨hty, his, hsub⟩ := PySem.W.kit_cls (M := model prog w) X e
  have LI : PySem.W.Looks (model prog w) s.heap (isInstance x c) true := LT.andThen hsub
  obtain ⟨hp, g, d, tt, os⟩ := s
  refine call_isinstance_of ?_ hx
  unfold Builtin.«isinstance.nested»
  refine wpAny_bind (LT.at ?_)
  rw [ne, if_neg Bool.false_ne_true]; refine wpAny_bind (hty.at ?_)
  rw [if_pos (by decide)]; k_delta "plainIsInstance"
  refine wpAny_bind (wpAny_bind (his.at ?_)); simp only [Bool.not_true, Bool.false_eq_true, if_false]
  refine wpAny_bind (LI.at ?_); first
    | exact wpAny_pure (wpAny_pure (h tt))
    | (simp only [if_true]; first | exact wpAny_pure (wpAny_pure (h tt)) | exact wpAny_pure (h tt) | exact wpAny_bind (wpAny_pure (wpAny_pure (h tt))))
end
/-- isinstance(e, c), e the error that the suite holds, c a class above its own -/
def rIsT (K : PySem.W.Frag) (a : Addr) (cls : Value) : List V → Hp → VK → Prop := fun xs H Q => ∃ (c : V) (cv : Value), xs = [.ref a, c] ∧ (∀ u, RelV c u → u = cv) ∧ PySem.W.kitCls K cls cv = some true ∧ (cls == cv) = false ∧ Q (.bl true) H
theorem call_isT {X : Cx} {a : Addr} {cls : Value} {d : Option Addr} {oe : Obj} {pn : List (Addr × Obj)} (hz : Zc cls d oe) : CallR (X.suite a ((a, oe) :: pn)) (.builtin "isinstance") (rIsT X.K a cls) := by
  intro pins s σ H xs us Q I r h
  obtain ⟨c, cv, rfl, hcv, e, ne, q⟩ := h
  obtain ⟨u1, u2, rfl, r1, r2⟩ := vals2 r
  cases (show u1 = Value.ref a from r1)
  obtain rfl := hcv _ r2
  obtain ⟨hget, _⟩ := I.pin (a, oe) (List.mem_append.mpr (.inl List.mem_cons_self))
  have LT : PySem.W.Looks (model X.prog X.w) s.heap (typeOf (.ref a)) cls := fun A Q E s' k q => wpAny_typeOf_ref (k _ _ hget) (by rw [hz.1]; exact q)
  exact isi_true I.kIn LT e ne (fun z => nomatch z) fun tk => ⟨.bl true, H, I.tok tk, rfl, q⟩
end UL
set_option Elab.async false
set_option linter.all false
set_option maxRecDepth 100000
set_option maxHeartbeats 4000000
/-! ### values of any kind; menus; what a told list fits in; an own + beside anything; lists beside an empty one -/
namespace UL
open PySem PySem.Spec PyProof.Rows L2 LamX
/-! values of any kind: what they are -/
inductive Vd (K : PySem.W.Frag) (H : Hp) : V → PyData → Prop
  | non : Vd K H .non .none
  | bl (b : Bool) : Vd K H (.bl b) (.bool b)
  | int (i : Int) : Vd K H (.int i) (.int i)
  | str (x : Str) : Vd K H (.str x) (.str x)
  | lst {a : Addr} {ds : List PyData} (h : ∃ xs, H a = some (.lst xs)) : Vd K H (.ref a) (.list ds)
  | tup {a : Addr} {ds : List PyData} (h : ∃ xs, H a = some (.tup xs)) : Vd K H (.ref a) (.tuple ds)
  | dct {a : Addr} {ds : List (PyData × PyData)} (h : ∃ kvs, H a = some (.dK kvs)) : Vd K H (.ref a) (.dict ds)
/-- the type's name -/
def tyN : PyData → String
  | .none => "NoneType"
  | .bool _ => "bool"
  | .int _ => "int"
  | .str _ => "str"
  | .list _ => "list"
  | .tuple _ => "tuple"
  | .dict _ => "dict"
abbrev T7 : List String := ["NoneType", "tuple", "str", "int", "list", "bool", "dict"]
theorem tyN_mem (d : PyData) : tyN d ∈ T7 := by cases d <;> simp [tyN, T7]
theorem Vd.ty {K : PySem.W.Frag} {H : Hp} {v : V} {d : PyData} (h : Vd K H v d) : TyX K H v (.type (tyN d)) := by
  cases h with
  | non => exact .base .non
  | bl b => exact .base (.bl b)
  | int i => exact .base (.int i)
  | str x => exact .base (.str x)
  | lst h =>
    obtain ⟨_, h⟩ := h
    exact .base (.lst h)
  | tup h =>
    obtain ⟨_, h⟩ := h
    exact .base (.tup h)
  | dct h =>
    obtain ⟨_, h⟩ := h
    exact .base (.dK h)
theorem Vd.ext {K : PySem.W.Frag} {H H' : Hp} {v : V} {d : PyData} (h : Vd K H v d) (s : ExtN H H') : Vd K H' v d := by
  cases h with
  | non => exact .non
  | bl b => exact .bl b
  | int i => exact .int i
  | str x => exact .str x
  | lst h =>
    obtain ⟨_, h⟩ := h
    exact .lst ⟨_, s _ _ h (by simp)⟩
  | tup h =>
    obtain ⟨_, h⟩ := h
    exact .tup ⟨_, s _ _ h (by simp)⟩
  | dct h =>
    obtain ⟨_, h⟩ := h
    exact .dct ⟨_, s _ _ h (by simp)⟩
theorem Vd.same {K : PySem.W.Frag} {H H' : Hp} {v : V} {d : PyData} (h : Vd K H v d) (s : L2.Same H H') : Vd K H' v d := h.ext (ExtN.of s)
def isS : PyData → Bool
  | .str _ => true
  | _ => false
def isB : PyData → Bool
  | .bool _ => true
  | _ => false
def isI : PyData → Bool
  | .int _ => true
  | _ => false
theorem kit_str {K : PySem.W.Frag} (d : PyData) : PySem.W.kitOne K (.type (tyN d)) (.type "str") = some (isS d) := by cases d <;> simp only [tyN, isS] <;> exact kit_ty (by decide +kernel)
theorem kit_bool {K : PySem.W.Frag} (d : PyData) : PySem.W.kitOne K (.type (tyN d)) (.type "bool") = some (isB d) := by cases d <;> simp only [tyN, isB] <;> exact kit_ty (by decide +kernel)
theorem kit_int {K : PySem.W.Frag} (d : PyData) : PySem.W.kitOne K (.type (tyN d)) (.type "int") = some (isI d || isB d) := by cases d <;> simp only [tyN, isI, isB] <;> exact kit_ty (by decide +kernel)
theorem isI_at {K : PySem.W.Frag} {H : Hp} {v : V} {d : PyData} (h : Vd K H v d) (e : isI d = true) : ∃ i, v = .int i ∧ d = .int i := by
  cases h <;> first | exact ⟨_, rfl, rfl⟩ | cases e
theorem isS_at {K : PySem.W.Frag} {H : Hp} {v : V} {d : PyData} (h : Vd K H v d) (e : isS d = true) : ∃ x, v = .str x ∧ d = .str x := by
  cases h <;> first | exact ⟨_, rfl, rfl⟩ | cases e
theorem isIB (d : PyData) : ((isI d || isB d) && !isB d) = isI d := by cases d <;> rfl
/-! values from a menu -/
inductive Mv (p : Addr) (H : Hp) : V → PyData → Prop
  | flat {v : V} (h : flatV v = true) : Mv p H v (flatD v)
  | lst {a : Addr} {xs : List V} (h : H a = some (.lst xs)) (n : a ≠ p) (f : xs.all flatV = true) : Mv p H (.ref a) (.list (xs.map flatD))
  | tup {a : Addr} {xs : List V} (h : H a = some (.tup xs)) (f : xs.all flatV = true) : Mv p H (.ref a) (.tuple (xs.map flatD))
  | dct {a : Addr} {kvs : List (Key × V)} (h : H a = some (.dK kvs)) (q : ∀ e ∈ kvs, flatV e.2 = true) : Mv p H (.ref a) (.dict (kvs.map fun e => (keyD e.1, flatD e.2)))
theorem Mv.stay {p : Addr} {H H' : Hp} {v : V} {d : PyData} (m : Mv p H v d) (hp : Pot H p) (s : Stay p H H') : Mv p H' v d := by
  obtain ⟨x, y, hp, _⟩ := hp
  cases m with
  | flat h => exact .flat h
  | lst h n f => exact .lst (s _ _ n h) n f
  | tup h f => exact .tup (s _ _ (ne_of h hp (by intro z; cases z)) h) f
  | dct h q => exact .dct (s _ _ (ne_of h hp (by intro z; cases z)) h) q
theorem Mv.ext {p : Addr} {H H' : Hp} {v : V} {d : PyData} (m : Mv p H v d) (s : ExtN H H') : Mv p H' v d := by
  cases m with
  | flat h => exact .flat h
  | lst h n f => exact .lst (s _ _ h (by simp)) n f
  | tup h f => exact .tup (s _ _ h (by simp)) f
  | dct h q => exact .dct (s _ _ h (by simp)) q
theorem Mv.same {p : Addr} {H H' : Hp} {v : V} {d : PyData} (m : Mv p H v d) (s : L2.Same H H') : Mv p H' v d := m.ext (ExtN.of s)
/-- a list that holds something not plain is written anew -/
theorem Mv.grow {p La : Addr} {H : Hp} {v : V} {d : PyData} {xs : List V} {o : HO} (m : Mv p H v d) (h : H La = some (.lst xs)) (nf : xs.all flatV = false) : Mv p (upd H La o) v d := by
  cases m with
  | flat h => exact .flat h
  | @lst a ys hx n f =>
    have na : a ≠ La := fun z => by
      rw [z, h] at hx
      cases hx
      rw [f] at nf
      cases nf
    exact .lst ((upd_ne na).trans hx) n f
  | @tup a ys hx f =>
    have na : a ≠ La := fun z => by
      rw [z, h] at hx
      cases hx
    exact .tup ((upd_ne na).trans hx) f
  | @dct a ys hx q =>
    have na : a ≠ La := fun z => by
      rw [z, h] at hx
      cases hx
    exact .dct ((upd_ne na).trans hx) q
theorem flat_vd {K : PySem.W.Frag} {H : Hp} : ∀ {v : V}, flatV v = true → Vd K H v (flatD v)
  | .non, _ => .non
  | .bl b, _ => .bl b
  | .int i, _ => .int i
  | .str x, _ => .str x
  | .ref _, h => by cases h
theorem Mv.vd {K : PySem.W.Frag} {p : Addr} {H : Hp} {v : V} {d : PyData} (m : Mv p H v d) : Vd K H v d := by
  cases m with
  | flat h => exact flat_vd h
  | lst h n f => exact .lst ⟨_, h⟩
  | tup h f => exact .tup ⟨_, h⟩
  | dct h q => exact .dct ⟨_, h⟩
theorem flat_dp {K : PySem.W.Frag} {H : Hp} : ∀ {v : V}, flatV v = true → Dp K H v (flatD v) ∧ (flatD v).hasDict = false
  | .non, _ => ⟨.non, rfl⟩
  | .bl b, _ => ⟨.bl b, rfl⟩
  | .int i, _ => ⟨.int i, rfl⟩
  | .str x, _ => ⟨.str x, rfl⟩
  | .ref _, h => by cases h
theorem flats_dp {K : PySem.W.Frag} {H : Hp} : ∀ {xs : List V}, xs.all flatV = true → DpAll K H xs (xs.map flatD) ∧ PyData.hasDictAll (xs.map flatD) = false
  | [], _ => ⟨.nil, rfl⟩
  | x :: xs, h => by
    simp only [List.all_cons, Bool.and_eq_true] at h
    obtain ⟨h1, h2⟩ := flat_dp (K := K) (H := H) h.1
    obtain ⟨h3, h4⟩ := flats_dp (K := K) (H := H) h.2
    exact ⟨.cons h1 h3, by simp [PyData.hasDictAll, h2, h4]⟩
theorem Mv.itm {K : PySem.W.Frag} {p : Addr} {H : Hp} {v : V} {d : PyData} (m : Mv p H v d) : Itm K H v d := by
  cases m with
  | flat h => exact .flat h
  | lst h n f =>
    obtain ⟨h1, h2⟩ := flats_dp (K := K) (H := H) f
    exact .dp (.lst (SqL.of h) h1) (by simpa [PyData.hasDict] using h2)
  | tup h f =>
    obtain ⟨h1, h2⟩ := flats_dp (K := K) (H := H) f
    exact .dp (.tup (SqT.of h) h1) (by simpa [PyData.hasDict] using h2)
  | dct h q => exact .dct h q
/-- small enough -/
def fine (d : PyData) : Bool := d.showable && decide (d.depth ≤ 2) && decide (d.shown.length ≤ 1000) && match d with
  | .str x => decide (x.length ≤ 1000)
  | _ => true
/-- all that a list offers is small, and P says b of it -/
def Menu (p : Addr) (H : Hp) (P : PyData → Bool) (b : Bool) (xs : List V) : Prop := ∀ v ∈ xs, ∃ d, Mv p H v d ∧ fine d = true ∧ P d = b
theorem Menu.nil {p : Addr} {H : Hp} {P : PyData → Bool} {b : Bool} : Menu p H P b [] := fun _ h => by cases h
theorem Menu.cons {p : Addr} {H : Hp} {P : PyData → Bool} {b : Bool} {v : V} {d : PyData} {xs : List V} (m : Mv p H v d) (h1 : fine d = true) (h2 : P d = b) (r : Menu p H P b xs) : Menu p H P b (v :: xs) := fun u hu => by
  rcases List.mem_cons.mp hu with rfl | hu
  · exact ⟨d, m, h1, h2⟩
  · exact r u hu
theorem Menu.app {p : Addr} {H : Hp} {P : PyData → Bool} {b : Bool} {xs ys : List V} (r : Menu p H P b xs) (q : Menu p H P b ys) : Menu p H P b (xs ++ ys) := fun u hu => (List.mem_append.mp hu).elim (r u) (q u)
theorem Menu.same {p : Addr} {H H' : Hp} {P : PyData → Bool} {b : Bool} {xs : List V} (r : Menu p H P b xs) (s : L2.Same H H') : Menu p H' P b xs := fun u hu => by
  obtain ⟨d, m, h⟩ := r u hu
  exact ⟨d, m.same s, h⟩
theorem Menu.stay {p : Addr} {H H' : Hp} {P : PyData → Bool} {b : Bool} {xs : List V} (r : Menu p H P b xs) (hp : Pot H p) (s : Stay p H H') : Menu p H' P b xs := fun u hu => by
  obtain ⟨d, m, h⟩ := r u hu
  exact ⟨d, m.stay hp s, h⟩
theorem listText_le' : ∀ ts : List Str, (listText ts).length ≤ piled ts + 2
  | [] => by rw [listText_nil]; decide +kernel
  | t :: r => by
    have h := textFrom_length_pos r 1 (("[" : Str) ++ ("" : Str) ++ t) (by decide)
    have l1 : (("[" : Str)).length = 1 := by decide +kernel
    have l2 : (("" : Str)).length = 0 := by decide +kernel
    have l3 : (("]" : Str)).length = 1 := by decide +kernel
    have e : listText (t :: r) = textFrom 1 (("[" : Str) ++ ("" : Str) ++ t) r ++ "]" := rfl
    rw [e, Str.length_append, h, Str.length_append, Str.length_append, l1, l2, l3, piled_cons]
    omega
theorem fine_parts {d : PyData} (h : fine d = true) : d.showable = true ∧ d.depth ≤ 2 ∧ d.shown.length ≤ 1000 := by
  unfold fine at h
  simp only [Bool.and_eq_true, decide_eq_true_eq] at h
  exact ⟨h.1.1.1, h.1.1.2, h.1.2⟩
theorem fine_str {d : PyData} {x : Str} (h : fine d = true) (e : d = .str x) : x.length ≤ 1000 := by
  subst e
  unfold fine at h
  simp only [Bool.and_eq_true, decide_eq_true_eq] at h
  exact h.2
theorem fine_all : ∀ {ds : List PyData}, (∀ d ∈ ds, fine d = true) → PyData.showableAll ds = true ∧ PyData.depthAll ds ≤ 2 ∧ piled (PyData.shownAll ds) ≤ 1002 * ds.length
  | [], _ => ⟨rfl, by simp [PyData.depthAll], by simp [PyData.shownAll, piled_nil]⟩
  | d :: ds, h => by
    obtain ⟨h1, h2, h3⟩ := fine_all (ds := ds) fun x hx => h x (List.mem_cons_of_mem _ hx)
    obtain ⟨f1, f2, f3⟩ := fine_parts (h d List.mem_cons_self)
    refine ⟨by simp [PyData.showableAll, h1, f1], by simp only [PyData.depthAll]; omega, ?_⟩
    simp only [PyData.shownAll]
    rw [piled_cons, List.length_cons]
    omega
theorem told_fits {ds : List PyData} (hf : ∀ d ∈ ds, fine d = true) (hn : ds.length ≤ 1000) : PyData.showableAll ds = true ∧ PyData.depthAll ds ≤ 40 ∧ (PyData.list ds).shown.length ≤ sizeLine := by
  obtain ⟨h1, h2, h3⟩ := fine_all hf
  refine ⟨h1, by omega, line_ge ?_⟩
  have h := listText_le' (PyData.shownAll ds)
  simp only [PyData.shown]
  omega
theorem reprT_mk {K : PySem.W.Frag} {H : Hp} {a : Addr} {vs : List V} {ds : List PyData} {Q : VK} (ha : H a = some (.lst vs)) (hi : ItmAll K H vs ds) (hf : ∀ d ∈ ds, fine d = true) (hn : ds.length ≤ 1000) (q : Q (.str (PyData.list ds).shown) H) : rReprT K [.ref a] H Q := by
  obtain ⟨h1, h2, h3⟩ := told_fits hf hn
  exact ⟨a, vs, ds, rfl, ha, hi, h1, h2, h3, q⟩
/-- a list of short plain texts -/
theorem fine_strs {xs : List Str} (h : ∀ x ∈ xs, x.length ≤ 8 ∧ ∀ c ∈ x.cps.toList, c < 16 ^ 8) (hn : xs.length ≤ 11) : fine (.list (xs.map PyData.str)) = true := by
  have h1 : PyData.showableAll (xs.map PyData.str) = true := by
    clear h hn
    induction xs with
    | nil => rfl
    | cons x xs ih => simp [PyData.showableAll, PyData.showable, ih]
  have h2 : PyData.depthAll (xs.map PyData.str) ≤ 1 := by
    clear h hn h1
    induction xs with
    | nil => simp [PyData.depthAll]
    | cons x xs ih =>
      simp only [List.map_cons, PyData.depthAll, PyData.depth]
      omega
  have h3 : piled (PyData.shownAll (xs.map PyData.str)) ≤ 84 * xs.length := by
    clear hn h1 h2
    induction xs with
    | nil => simp [PyData.shownAll, piled_nil]
    | cons x xs ih =>
      have := ih fun y hy => h y (List.mem_cons_of_mem _ hy)
      obtain ⟨g1, g2⟩ := h x List.mem_cons_self
      have l := PySem.StrLaws.reprText_len x g2
      simp only [List.map_cons, PyData.shownAll, PyData.shown]
      rw [piled_cons, List.length_cons]
      omega
  have h4 := listText_le' (PyData.shownAll (xs.map PyData.str))
  unfold fine
  simp only [PyData.showable, h1, PyData.depth, PyData.shown, Bool.and_eq_true, decide_eq_true_eq, Bool.true_and, Bool.and_true]
  exact ⟨decide_eq_true (by omega), decide_eq_true (by omega)⟩
theorem fine_text {x : Str} (h : x.length ≤ 8) (g : ∀ c ∈ x.cps.toList, c < 16 ^ 8) : fine (.str x) = true := by
  have l := PySem.StrLaws.reprText_len x g
  unfold fine
  simp only [PyData.showable, PyData.depth, PyData.shown, Bool.and_eq_true, decide_eq_true_eq, Bool.true_and]
  exact ⟨⟨decide_eq_true (by omega), decide_eq_true (by omega)⟩, by omega⟩
theorem flatD_strs (xs : List Str) : (xs.map V.str).map flatD = xs.map PyData.str := by
  rw [List.map_map]
  rfl
/-! ### a list beside an empty one -/
def rEq0 (K : PySem.W.Frag) : R2 := fun x y H Q => ∃ (a b : Addr) (xs ys : List V), x = .ref a ∧ y = .ref b ∧ SqL K H a xs ∧ SqL K H b ys ∧ ys.length = 0 ∧ Q (.bl (decide (xs.length = 0))) H
def rNe0 (K : PySem.W.Frag) : R2 := fun x y H Q => ∃ (a b : Addr) (xs ys : List V), x = .ref a ∧ y = .ref b ∧ SqL K H a xs ∧ SqL K H b ys ∧ ys.length = 0 ∧ Q (.bl (!decide (xs.length = 0))) H
section
variable {X : Cx}
theorem op_eq0 (hu : X.A.units + 64 < cLine) : OpR X (compareOp .Eq) (rEq0 X.K) := by
  intro pins s σ H x y v u Q I rx ry h
  obtain ⟨a, b, xs, ys, rfl, rfl, ha, hb, hn, q⟩ := h
  cases (show v = Value.ref a from rx)
  cases (show u = Value.ref b from ry)
  obtain ⟨its, r1, e1, _⟩ := I.list ha
  obtain ⟨it2, r2, e2, _⟩ := I.list hb
  have l1 := r1.length
  have l2 := r2.length
  have z2 : it2 = [] := List.eq_nil_of_length_eq_zero (by omega)
  subst z2
  show wpAny _ _ (richCompare .Eq (.ref a) (.ref b)) _ _ _
  cases xs with
  | nil =>
    have z1 : its = [] := List.eq_nil_of_length_eq_zero l1.symm
    subst z1
    have q' : Q (.bl true) H := q
    exact SeqAt.RcAt.lists (e := fun _ => true) e1.isList e2.isList rfl (by omega) (fun j hj => absurd hj (by simp)) X.prog X.w X.xe _ ⟨.bl true, H, I, rfl, q'⟩
  | cons z zs =>
    have q' : Q (.bl false) H := q
    exact SeqAt.RcAt.lists_lengths e1.isList e2.isList (by simp at l1; simp; intro z; rw [z] at l1; simp at l1) (by omega) X.prog X.w X.xe _ ⟨.bl false, H, I, rfl, q'⟩
theorem op_ne0 (hu : X.A.units + 64 < cLine) : OpR X (compareOp .NotEq) (rNe0 X.K) := by
  intro pins s σ H x y v u Q I rx ry h
  obtain ⟨a, b, xs, ys, rfl, rfl, ha, hb, hn, q⟩ := h
  cases (show v = Value.ref a from rx)
  cases (show u = Value.ref b from ry)
  obtain ⟨its, r1, e1, _⟩ := I.list ha
  obtain ⟨it2, r2, e2, _⟩ := I.list hb
  have l1 := r1.length
  have l2 := r2.length
  have z2 : it2 = [] := List.eq_nil_of_length_eq_zero (by omega)
  subst z2
  show wpAny _ _ (richCompare .NotEq (.ref a) (.ref b)) _ _ _
  cases xs with
  | nil =>
    have z1 : its = [] := List.eq_nil_of_length_eq_zero l1.symm
    subst z1
    have q' : Q (.bl false) H := q
    exact SeqAt.RcNeAt.lists (e := fun _ => true) e1.isList e2.isList rfl (by omega) (fun j hj => absurd hj (by simp)) X.prog X.w X.xe _ ⟨.bl false, H, I, rfl, q'⟩
  | cons z zs =>
    have q' : Q (.bl true) H := q
    exact SeqAt.RcNeAt.lists_lengths e1.isList e2.isList (by simp at l1; simp; intro z; rw [z] at l1; simp at l1) (by omega) X.prog X.w X.xe _ ⟨.bl true, H, I, rfl, q'⟩
end
/-! ### an own + whose other side is anything -/
open PySem.W (Looks Frag findIn clsIn InstAt) in
theorem bin1_type {prog : Program} {w : World} {A : Around} {E : Value → Shared → Prop} {s : Shared} {K : PySem.W.Frag} {x C f : Addr} {ox : Obj} {od : Option Obj} {nm T : String} {b : Value} {Q : Option Value → Shared → Prop} (KX : K.In s.heap) (J : InstAt s.heap x ox C od) (hb : Looks (model prog w) s.heap (typeOf b) (.type T))
    (o : OwnT K C T nm) (hs : findIn K (.ref C) (PySem.dunder nm) = some (some (.ref f))) (hf : PySem.W.isFn K (.ref f) = true) (h : wpAny (model prog w) A (call (.ref f) [.ref x, b]) (PySem.W.CmpBack fun v => Q (some v)) E s) :
    wpAny (model prog w) A (binaryOp1 nm (.ref x) b) Q E s := by
  obtain ⟨cd, rest, hcd, hm⟩ := PySem.W.ksp_first o.sf
  obtain ⟨rc, r1, r2⟩ := o.r
  obtain ⟨fo, t1⟩ := o.t1
  obtain ⟨ro, t2⟩ := o.t2
  have try_ := PySem.W.ksp_try KX J hs hf h
  obtain ⟨hp, gg, dd, tt, os⟩ := s
  have k1 : Looks (model prog w) hp (typeOf (.ref x)) (.ref C) := J.type
  have k2 := hb
  have k3 : Looks (model prog w) hp (fillsNumberSlot (.ref C) nm) true := PySem.W.fills_K KX hcd hm hs
  have k4 := PySem.W.ksp_fillsT (M := model prog w) (nm := nm) KX t1 t2
  have k5 : Looks (model prog w) hp (isSubtype (.type T) (.ref C)) false := PySem.W.looks_subIn KX o.su
  have k6 : Looks (model prog w) hp (numberSlotInPython (.ref C) nm) true := PySem.W.ksp_inPy KX hs r1 r2
  have k7 : Looks (model prog w) hp (numberSlotInPython (.type T) nm) false := Looks.of_pure rfl
  have k8 : Looks (model prog w) hp (typeLookup (.type T) (dunderR nm)) ro := PySem.W.looks_findIn KX t2
  generalize ((fo.isSome && !isSeqSlot fo) || (ro.isSome && !isSeqSlot ro)) = rt at k4
  have dif : (Value.ref C == Value.type T) = false := Bool.eq_false_iff.mpr fun q => by cases beq_iff_eq.mp q
  unfold binaryOp1
  refine wpAny_bind (k1.at (wpAny_bind (k2.at (wpAny_bind (k3.at ?_)))))
  simp only [dif, Bool.false_eq_true, if_false]
  cases rt
  · ksp_lk
    refine wpAny_mono try_ (fun r s' ⟨v, er, hq⟩ => ?_) fun _ _ e => e
    subst er
    ksp_lk
    exact hq
  · ksp_lk
    refine wpAny_mono try_ (fun r s' ⟨v, er, hq⟩ => ?_) fun _ _ e => e
    subst er
    ksp_lk
    exact hq
open PySem.W (Looks Frag findIn clsIn InstAt) in
theorem binop_type {prog : Program} {w : World} {A : Around} {E : Value → Shared → Prop} {s : Shared} {K : PySem.W.Frag} {x C f : Addr} {ox : Obj} {od : Option Obj} {T : String} {b : Value} {Q : Value → Shared → Prop} (KX : K.In s.heap) (J : InstAt s.heap x ox C od) (hb : Looks (model prog w) s.heap (typeOf b) (.type T))
    (o : OwnT K C T "add") (hs : findIn K (.ref C) "__add__" = some (some (.ref f))) (hf : PySem.W.isFn K (.ref f) = true) (h : wpAny (model prog w) A (call (.ref f) [.ref x, b]) (PySem.W.CmpBack Q) E s) : wpAny (model prog w) A (binaryOp .Add (.ref x) b) Q E s := by
  unfold binaryOp
  refine wpAny_holding (wpAny_bind (bin1_type (nm := "add") KX J hb o (by rw [du_add]; exact hs) hf (wpAny_mono h (fun v s' z => ?_) fun _ _ e => e)))
  cases v <;> first | exact z.elim | exact wpAny_pure z
/-- x + y by the def at g, y of the same class, of one without the operator, or of a built-in type -/
def rOpAny (K : PySem.W.Frag) (C : Addr) (nm : String) (sp : Sp) (E : XK) : R2 := fun x y H Q => ∃ (a dx : Addr) (fs : List (Str × V)) (t : Value), x = .ref a ∧ H a = some (.ins C dx fs) ∧ TyX K H y t ∧ (t = .ref C ∨ (∃ D, t = .ref D ∧ NoOp K D nm) ∨ ∃ T, t = .type T ∧ OwnT K C T nm) ∧ sp [x, y] H Q E
section
variable {X : Cx} {CX : CXT} {C g : Addr} {n k j : Nat} {sp : Sp} {E : XK}
theorem op_addAny (hc : PySem.W.selfFirst X.K C = true) (hs : PySem.W.findIn X.K (.ref C) "__add__" = some (some (.ref g))) (hf : PySem.W.isFn X.K (.ref g) = true) (F : FnR X.prog X.w X.K X.mg X.base CX n g sp) (hr : Room n X.A) (hx : Passes CX X E) :
    OpR X (binaryOp .Add) (rOpAny X.K C "add" sp E) := by
  intro pins s σ H x y v u Q I rx ry h
  obtain ⟨a, dx, fs, t, rfl, ha, ty, hn, q⟩ := h
  rcases hn with hn | hn | ⟨T, rfl, o⟩
  · exact op_addO hc hs hf F hr hx pins s σ H (.ref a) y v u Q I rx ry ⟨a, dx, fs, t, rfl, ha, ty, .inl hn, q⟩
  · exact op_addO hc hs hf F hr hx pins s σ H (.ref a) y v u Q I rx ry ⟨a, dx, fs, t, rfl, ha, ty, .inr hn, q⟩
  cases (show v = Value.ref a from rx)
  obtain ⟨mA, O, _⟩ := ins_get I.hok ha
  obtain ⟨od, J, _⟩ := O.look
  obtain ⟨Pk, Z, pk, _⟩ := kit_of I ry ty
  refine binop_type I.kIn J (Z.ty _ _ I.kIn pk) o hs hf ?_
  refine wpAny_mono (wpAny_call (run_fnR (us := [.ref a, u]) (vs := [.ref a, y]) F hr hx I (.cons rfl (.cons ry .nil)) q)) (fun r s' z => ?_) fun _ _ e => e
  obtain ⟨z', H', I', rz, qz⟩ := z
  exact SlX.cmpback rz ⟨z', H', I', rz, qz⟩
theorem op_addSAE (c : CalSE X.prog X.w X.K X.mg X.base k C "__add__" sp) (px : Passes (L2.CX X.prog X.w) X E) (hc : PySem.W.selfFirst X.K C = true) (hr : Room j X.A) (hk : k ≤ j) : OpR X (binaryOp .Add) (rOpAny X.K C "add" sp E) := by
  obtain ⟨f, F, h1, h2⟩ := c
  exact op_addAny hc h1 h2 F (hr.mono hk) px
end
/-! ### a lambda handed to a def that says repr -/
def CalLG (P : Program) (w : World) (K : PySem.W.Frag) (mg : Str → Option Value) (base : Heap) (n : Nat) (x a : Str) (TT : (XK → Hp → VK → Prop) → Hp → VK → Prop) : Prop :=
  ∃ (g : Addr) (oc : Value) (od : Option Addr) (pg : Arguments) (bg : List Stmt) (sg : Scope) (dV kV doc pm cdv ct : Value) (an : Option Addr) (osl : Array (Option Value)) (Ng : List Str),
    mg x = some (.ref g) ∧ PySem.W.keepIn K (.ref g) = true ∧ K.lookup g = some ⟨oc, od, .func (PySem.W.fnOf x x pg bg sg dV kV doc pm an cdv ct), osl⟩ ∧ PySem.W.codeIn K cdv x = true ∧ Binds K (PySem.W.fnOf x x pg bg sg dV kV doc pm an cdv ct) [a] [] ∧ FnScope Ng [a] sg ∧ Ng[0]? = some a ∧ Vis sg a ∧
    ∀ (X : Cx) (q : Str), X.prog = P → X.w = w → X.K = K → X.mg = mg → X.base = base → X.A.guards = some [] → GivesS n X Ng x sg g cdv bg a q TT
section
variable {X : Cx} {n j : Nat} {x a : Str} {T : List (Addr × Str)} {TT : (XK → Hp → VK → Prop) → Hp → VK → Prop} {c P : Addr} {params : Arguments} {body : Expr} {scope : Scope} {t : XK → TE} {p lpos pos : Pos}
theorem pe_lamG (hgd : X.A.guards = some []) (cl : CalLG X.prog X.w X.K X.mg X.base n x a TT) (hg : Gl X x) (TB : TabB X.base X.mg c P) (hcode : X.env.code = .ref c) (hmT : (P, X.env.qual ++ "<lambda>") ∈ T) (hu : ∀ p ∈ T, p.1 = P → p.2 = X.env.qual ++ "<lambda>") (hr : Room j X.A) (hn : n ≤ j) (hj : 2 ≤ j)
    (L : LamS X.env.scope scope) (hdef : defaultsOf params X.env = ([], [])) (hbind : ∀ (q : Str) (cl : List (Str × Addr)) (pm cv ctv : Value), bindArgs (PySem.W.kla_fn "<lambda>" q params body scope cl pm cv ctv) ⟨[], []⟩ = pure [])
    (hbody : ∀ (A : Around) (outer : List Env) (s : Shared) (H : Hp) (E : XK) (f c' : Addr), Room (j - 2) (A.deeper (lamEnv X scope s.heap.objs.size f c')) → PE (lamCx X A outer s H E scope f c') body (t E))
    (hdb : (x == ("__debug__" : Str)) = false := by decide) (hd : (a == ("__debug__" : Str)) = false := by decide) (hcd : (a == ("__classdict__" : Str)) = false := by decide) :
    PE X (.Call (.Name x p) [.Lambda params body scope lpos] [] pos) (tLam T TT t) := by
  obtain ⟨g, oc, od, pg, bg, sg, dV, kV, doc, pm, cdv, ct, an, osl, Ng, hm, kp, lk, hcg, hb, Sg, hN, hv, hG⟩ := cl
  have hj2 : j - 2 + 2 = j := by omega
  exact pe_lamS (k := j - 2) hg hm kp lk hcg hb Sg hN hv (hG X _ rfl rfl rfl rfl rfl hgd) TB hcode hmT hu (by rw [hj2]; exact hr) (by omega) L hdef hbind hbody hdb hd hcd
end
/-! ### classes made of a star or of nothing, whose making may raise -/
section
variable {X : Cx} {k j : Nat} {C : Addr} {sp : Sp} {x : Str} {e : Expr} {te : TE} {p pos sp_ : Pos} {E : XK}
theorem pe_nR0E (c : MakRE X.prog X.w X.K X.mg X.base k x C sp) (px : Passes (L2.CX X.prog X.w) X E) (hr : Room j X.A) (hk : k + 1 ≤ j) (hg : Gl X x) (hdb : (x == ("__debug__" : Str)) = false := by decide) : PE X (.Call (.Name x p) [] [] pos) (StX.tMakeR C sp E tNil) := by
  obtain ⟨f, F, M, g⟩ := c
  exact ⟨fun pins s σ H Q I h => wpAny_Call_Name_kw (ld_glob I hg g (PySem.W.callWith_K0 I.kIn M.kp (StX.run_makeR (us := []) M F (hr.mono hk) px I .nil h)) hdb)⟩
theorem pe_nRSE (c : MakRE X.prog X.w X.K X.mg X.base k x C sp) (px : Passes (L2.CX X.prog X.w) X E) (hr : Room j X.A) (hk : k + 1 ≤ j) (hg : Gl X x) (he : PE X e te) (hd : (x == ("__debug__" : Str)) = false := by decide)
    (hst : starEach [.Starred e sp_] X.env = [(true, eval e X.env)] := by rfl) : PE X (.Call (.Name x p) [.Starred e sp_] [] pos) (tMakeS X.K C sp E te) := by
  obtain ⟨f, F, M, g⟩ := c
  refine ⟨fun pins s σ H Q I h => wpAny_Call_Name_kw (ld_glob I hg g (PySem.W.callWith_S (h₀ := X.base) I.ok.mod.kin M.kp (thn (he.run pins s σ H _ I h) fun v s1 ⟨y, H1, I1, ry, a, xs, ey, hxs, q⟩ => ?_) hst) hd)⟩
  subst ey
  obtain rfl : v = Value.ref a := ry
  exact StX.star_any I1 hxs fun us s2 I2 rv => ⟨I2.kIn, StX.run_makeR M F (hr.mono hk) px I2 rv q⟩
end
/-- a list walked within a try: what it reads may not name the try's own context -/
theorem pi_listK {X : Cx} {K' : PySem.W.Frag} {l tg : Expr} {tl : TE} (q : X.K = K') (hl : PE X l tl) : PI X tg l (iList K' tl) := q ▸ pi_list hl
/-- two tables -/
theorem two_1 {P1 P2 : Addr} {q1 q2 : Str} (ne : P1 ≠ P2) : ∀ p ∈ [(P1, q1), (P2, q2)], p.1 = P1 → p.2 = q1 := fun p hp e => by
  simp only [List.mem_cons, List.not_mem_nil, or_false] at hp
  rcases hp with rfl | rfl
  · rfl
  · exact absurd e.symm ne
theorem two_2 {P1 P2 : Addr} {q1 q2 : Str} (ne : P1 ≠ P2) : ∀ p ∈ [(P1, q1), (P2, q2)], p.1 = P2 → p.2 = q2 := fun p hp e => by
  simp only [List.mem_cons, List.not_mem_nil, or_false] at hp
  rcases hp with rfl | rfl
  · exact absurd e ne
  · rfl
/-- the first place where b says yes -/
theorem find_at {n i : Nat} {b : Nat → Bool} (h : b i = true) (hi : i < n) (no : ∀ j, j < i → b j = false) : (List.range n).find? b = some i := by
  rw [List.find?_range_eq_some]
  exact ⟨h, List.mem_range.mpr hi, fun j hj => by simp [no j hj]⟩
theorem find_none {n : Nat} {b : Nat → Bool} (no : ∀ j, j < n → b j = false) : (List.range n).find? b = none := by
  rw [List.find?_eq_none]
  intro j hj
  simp [no j (List.mem_range.mp hj)]
end UL
set_option Elab.async false
set_option linter.all false
set_option maxRecDepth 100000
set_option maxHeartbeats 4000000
namespace UL
open PySem PySem.Spec PyProof.Rows L2
section
variable {J : It} {n : Nat} {G : Hp → Prop} {Y : Nat → Hp → V → Hp → Prop} {g : TG} {tt : TT} {te : TE} {vs : List Nat} {σ : L2.St} {H1 : Hp} {D : Addr} {Qd : Hp → Prop}
/-- the elements tell R, which may speak of lists other than the row itself; a pot may change -/
theorem lc_stayD (w : Walk J n G Y) {p : Addr} (hD : H1 D = none) (hp : Pot H1 p) (R : Nat → V → Hp → Prop)
    (mono : ∀ i v H H', R i v H → (∃ xs, H D = some (.lst xs)) → Pot H p → (∀ b o, b ≠ p → b ≠ D → H b = some o → H' b = some o) → R i v H') (hn : n ≤ 16000000) (hG : ∀ H, Stay p H1 H → Pot H p → G H)
    (hs : ∀ i x H H', i < n → Stay p H1 H → Pot H p → (∃ xs, H D = some (.lst xs)) → Y i H x H' → ∀ Z : V → Hp → Prop, (∀ y H4, R i y H4 → Stay p H H4 → Pot H4 p → Z y H4) → g x (wipe σ vs) H' fun σ2 H2 => wipe σ2 vs = wipe σ vs ∧ te σ2 H2 Z)
    (hd : ∀ H ys, ys.length = n → (∀ i y, ys[i]? = some y → R i y H) → Stay p H1 H → Pot H p → H D = some (.lst ys) → Qd H) : LcW J g tYes te vs σ H1 D Qd := by
  obtain ⟨a0, b0, e0, _⟩ := id hp
  have np : D ≠ p := (ne_of_none e0 hD).symm
  refine lc_it w (fun i H => ∃ ys : List V, H D = some (.lst ys) ∧ ys.length = i ∧ Stay p H1 H ∧ Pot H p ∧ ∀ j y, ys[j]? = some y → R j y H) ⟨[], upd_same, rfl, Same.stay (same_new hD) p, hp.same (same_new hD), fun j y z => by simp at z⟩
    (fun i H _ ⟨_, _, _, s, q, _⟩ => hG H s q) (fun i x H H' hi ⟨ys, d, l, s, q, r⟩ y => ?_) fun H ⟨ys, d, l, s, q, r⟩ => hd H ys l r s q d
  refine hs i x H H' hi s q ⟨_, d⟩ y _ fun y H4 ry s4 q4 => ?_
  have d4 : H4 D = some (.lst ys) := s4 _ _ np d
  have go : ∀ (b : Addr) (o : HO), b ≠ p → b ≠ D → H4 b = some o → upd H4 D (.lst (ys ++ [y])) b = some o := fun b o _ n e => (upd_ne n).trans e
  refine ⟨ys, d4, line_gt (by omega), ys ++ [y], upd_same, by rw [List.length_append, l]; rfl, fun b o n e => ?_, ?_, fun j z hz => ?_⟩
  · rw [upd_ne (ne_of_none e hD)]
    exact s4 _ _ n (s _ _ n e)
  · obtain ⟨a4, b4, e4, r4⟩ := q4
    exact ⟨a4, b4, (upd_ne np.symm).trans e4, r4⟩
  · by_cases c : j < ys.length
    · rw [List.getElem?_append_left c] at hz
      exact mono j z H4 _ (mono j z H H4 (r j z hz) ⟨_, d⟩ q fun b o n1 _ e => s4 b o n1 e) ⟨_, d4⟩ q4 go
    · have hb := (List.getElem?_eq_some_iff.mp hz).1
      rw [List.length_append, List.length_singleton] at hb
      have ej : j = ys.length := by omega
      rw [ej, List.getElem?_concat_length] at hz
      cases hz
      rw [show j = i by omega]
      exact mono _ _ H4 _ ry ⟨_, d4⟩ q4 go
end
end UL
set_option Elab.async false
set_option linter.all false
set_option maxRecDepth 100000
set_option maxHeartbeats 4000000
/-! ### y in x by x's class; repr of a list that holds instances -/
namespace UL
open PySem PySem.Spec PyProof.Rows L2
section
variable {X : Cx} {k j : Nat} {C : Addr} {sp : Sp}
/-- y in x by the def of x's class at C, which answers a truth -/
def rInO (C : Addr) (neg : Bool) (sp : Sp) (E : XK) : R2 := fun y x H Q => ∃ (a dx : Addr) (fs : List (Str × V)), x = .ref a ∧ H a = some (.ins C dx fs) ∧ sp [.ref a, y] H (fun z H' => ∃ b : Bool, z = .bl b ∧ Q (.bl (if neg then !b else b)) H') E
theorem op_inS (c : CalS X.prog X.w X.K X.mg X.base k C "__contains__" sp) (hr : Room j X.A) (hk : k + 1 ≤ j) : OpR X (compareOp .In) (rInO C false sp E0) := by
  obtain ⟨f, F, h1, h2⟩ := c
  intro pins s σ H y x u v Q I ry rx h
  obtain ⟨a, dx, fs, rfl, ha, q⟩ := h
  cases (show v = Value.ref a from rx)
  obtain ⟨mA, O, _⟩ := ins_get I.hok ha
  obtain ⟨od, J, _⟩ := O.look
  obtain ⟨m, hF⟩ := I.fr
  refine PySem.W.in_K hF I.ok.mod.kin J h1 h2 (wpAny_mono (wpAny_call (SlX.run_at (us := [.ref a, u]) (ws := [.ref a, y]) F (hr.mono (Nat.le_trans (Nat.le_succ _) hk)) I.env0 pass0 I (.cons rfl (.cons ry .nil)) q)) (fun r s' z => ?_) fun _ _ e => e)
  obtain ⟨z', H', I', rz, b, ez, qz⟩ := z
  subst ez
  cases (show r = Value.bool b from rz)
  exact wpAny_truthy_bool ⟨.bl b, H', I', rfl, qz⟩
theorem op_notInS (c : CalS X.prog X.w X.K X.mg X.base k C "__contains__" sp) (hr : Room j X.A) (hk : k + 1 ≤ j) : OpR X (compareOp .NotIn) (rInO C true sp E0) := by
  obtain ⟨f, F, h1, h2⟩ := c
  intro pins s σ H y x u v Q I ry rx h
  obtain ⟨a, dx, fs, rfl, ha, q⟩ := h
  cases (show v = Value.ref a from rx)
  obtain ⟨mA, O, _⟩ := ins_get I.hok ha
  obtain ⟨od, J, _⟩ := O.look
  obtain ⟨m, hF⟩ := I.fr
  refine PySem.W.notIn_K hF I.ok.mod.kin J h1 h2 (wpAny_mono (wpAny_call (SlX.run_at (us := [.ref a, u]) (ws := [.ref a, y]) F (hr.mono (Nat.le_trans (Nat.le_succ _) hk)) I.env0 pass0 I (.cons rfl (.cons ry .nil)) q)) (fun r s' z => ?_) fun _ _ e => e)
  obtain ⟨z', H', I', rz, b, ez, qz⟩ := z
  subst ez
  cases (show r = Value.bool b from rz)
  exact wpAny_truthy_bool ⟨.bl (!b), H', I', rfl, qz⟩
end
/-! ### repr of an instance from within a list's repr -/
open PySem.W (Frag findIn InstAt) in
theorem under_inst {prog : Program} {w : World} {A : Around} {E : Value → Shared → Prop} {s : Shared} {K : Frag} {x C f : Addr} {ox : Obj} {od : Option Obj} {base : Nat} {Q : Value → Shared → Prop} (hu : A.units < cLine) (KX : K.In s.heap) (J : InstAt s.heap x ox C od) (hs : findIn K (.ref C) "__repr__" = some (some (.ref f)))
    (hf : PySem.W.isFn K (.ref f) = true) (h : wpAny (model prog w) A (call (.ref f) [.ref x]) (fun v s' => ∃ y u, v = .str y u ∧ Q v s') E s) : wpAny (model prog w) A (pyReprObjUnder base (.ref x)) Q E s := by
  have fn := beq_iff_eq.mp hf
  have look := PySem.W.looks_findIn (M := model prog w) KX hs
  have last : wpAny (model prog w) A (call (.ref f) [.ref x] >>= fun v => pure (some v)) (fun r s' => ∃ y u, r = some (.str y u) ∧ Q (.str y u) s') E s := wpAny_bind (wpAny_mono h (fun v s' hv => by
    obtain ⟨y, u, rfl, q⟩ := hv
    exact wpAny_pure ⟨y, u, rfl, q⟩) fun _ _ z => z)
  unfold pyReprObjUnder pyReprObjBy
  refine wpAny_bind (wpAny_cRoomFor hu (wpAny_bind (wpAny_bind (J.type.here (look.here ?_)))))
  show wpAny _ _ (if (some (Value.ref f)).isNone = true then _ else _) _ _ _
  rw [if_neg (show ¬ (some (Value.ref f)).isNone = true from Bool.false_ne_true)]
  refine wpAny_bind (m := callSpecialIfBoundBy? _ (.ref x) _) (wpAny_mono (Q := fun r s' => ∃ y u, r = some (.str y u) ∧ Q (.str y u) s') ?_ (fun r s' hr => ?_) fun _ _ z => z)
  · unfold callSpecialIfBoundBy? bindSpecialIfBound?
    refine wpAny_holding (wpAny_bind (wpAny_bind (wpAny_bind (J.type.here (look.here (wpAny_bind (wpAny_askSetting (wpAny_ite ?_))))))))
    split
    · exact wpAny_bind ((PySem.W.bind_fn KX _ fn).here (wpAny_pure (by exact last)))
    · exact wpAny_tryCatch (wpAny_bind ((PySem.W.bind_fn KX _ fn).here (wpAny_pure (by exact last))))
  · obtain ⟨y, u, rfl, q⟩ := hr
    refine wpAny_bind (wpAny_isInstance (typeIs_str _ _ _) isSubtype_str_str ?_)
    first
      | exact wpAny_pure q
      | (rw [if_pos rfl]; exact wpAny_pure q)
      | (simp only [if_true]; exact wpAny_pure q)
section
variable {X : Cx} {pins : List (Addr × Obj)} {σ : L2.St} {H : Hp}
/-- what is told from within: the state and an object at P stay -/
def UnderOk (X : Cx) (pins : List (Addr × Obj)) (σ : L2.St) (H : Hp) (a : Addr) (v : V) (t : Str) : Prop :=
  ∀ (base : Nat) (A : Around) (s : Shared) (Q : Str → Shared → Prop) (u : Value) (rest : List Value), base + t.length ≤ sizeLine → A.guards = some [.builtin "list.__repr__.loop" ⟨.ref a :: rest, []⟩] → A.frames = X.A.frames → A.handled = none → A.depth ≤ X.A.depth + 3 → A.units ≤ X.A.units + 16 →
    Inv X pins σ H s → RelV v u → (∀ s', Inv X pins σ H s' → (∀ b o, s.heap.get? b = some o → H b = none → b ∉ frs X.stack → s'.heap.get? b = some o) → Q t s') → wpAny (model X.prog X.w) A (pyReprUnder base u) Q X.xe s
theorem UnderOk.flat {a : Addr} {v : V} (f : flatV v = true) (hs : (flatD v).showable = true) (hz : (flatD v).shown.length ≤ sizeLine) : UnderOk X pins σ H a v (flatD v).shown := by
  intro base A s Q u rest hb hg _ _ _ _ I r q
  have go : ∀ {t : Str}, ReprIs X.prog X.w u t → base + t.length ≤ sizeLine → (∀ tk, Q t { s with toks := tk }) → wpAny (model X.prog X.w) A (pyReprUnder base u) Q X.xe s := fun k hb2 hq => k base hb2 A X.xe s Q hq
  have fin : ∀ tk, Q (flatD v).shown { s with toks := tk } := fun tk => q _ (I.tok tk) fun _ _ e _ _ => e
  cases v with
  | non =>
    cases (show u = Value.none from r)
    simp only [flatD, PyData.shown] at fin hb
    exact go ReprIs.none hb fin
  | bl b =>
    cases (show u = Value.bool b from r)
    simp only [flatD, PyData.shown] at fin hb
    exact go (ReprIs.bool b) hb fin
  | int i =>
    obtain ⟨t, rfl⟩ := r
    simp only [flatD, PyData.shown] at fin hb
    exact go (ReprIs.int t (by simpa [flatD, PyData.showable] using hs)) hb fin
  | str x =>
    obtain ⟨t, rfl⟩ := r
    simp only [flatD, PyData.shown] at fin hb hz
    exact go (ReprIs.str x t hz) hb fin
  | _ => cases f
theorem UnderOk.inst {a b C dx g : Addr} {fs : List (Str × V)} {t : Str} {sp : Sp} {n : Nat} (hs : PySem.W.findIn X.K (.ref C) "__repr__" = some (some (.ref g))) (hf : PySem.W.isFn X.K (.ref g) = true) (F : FnR X.prog X.w X.K X.mg X.base CX0 n g sp) (hr : Room (n + 2) X.A) (hb : H b = some (.ins C dx fs)) (q : ∀ Q : VK, Q (.str t) H → sp [.ref b] H Q E0) :
    UnderOk X pins σ H a (.ref b) t := by
  intro base A s Q u rest hbz hg hfr hh hd hu I r fin
  cases (show u = Value.ref b from r)
  obtain ⟨mA, O, _⟩ := ins_get I.hok hb
  obtain ⟨od, J, _⟩ := O.look
  have room : Room n A := ⟨hh, by have := hr.dp; omega, by have := hr.un; omega⟩
  have e0 : Env0 X.prog X.w X.K X.mg X.base A X.stack s H := by
    have e := I.env0
    exact ⟨by rw [hfr]; exact e.frames, e.mod, e.bs, e.bsz, e.funs, e.frf, e.hok, e.bare⟩
  refine wpAny_pyReprUnder_ref (by omega) (under_inst room.units0 I.kIn J hs hf ?_)
  refine wpAny_call (codeAny_mono (F A X.stack s H [.ref b] [.ref b] (fun z H' => z = .str t ∧ H' = H) E0 room e0 (.cons rfl .nil) (q _ ⟨rfl, rfl⟩)) fun r' s' hq => ?_)
  cases r' with
  | error e => exact pass0 pins σ H s e s' I hq
  | ok fl =>
    cases fl with
    | ret w =>
      have hq' := hq
      obtain ⟨z, H', os, bare, un, hok, rz, ez, eH⟩ := hq
      subst ez eH
      obtain ⟨t0, rfl⟩ := rz
      obtain ⟨z2, H2, I2, rz2, ez2, eH2⟩ := I.after hq'
      subst eH2
      exact ⟨t, t0, rfl, t, t0, rfl, fin s' I2 fun c o hc hn hfr => un.keep c o hc hn hfr (by simp)⟩
    | next => exact hq.elim
    | brk => exact hq.elim
    | cont => exact hq.elim
/-- the values' texts, one by one -/
inductive UnderAll (X : Cx) (pins : List (Addr × Obj)) (σ : L2.St) (H : Hp) (a : Addr) : List V → List Str → Prop
  | nil : UnderAll X pins σ H a [] []
  | cons {v : V} {t : Str} {vs : List V} {ts : List Str} (h : UnderOk X pins σ H a v t) (r : UnderAll X pins σ H a vs ts) : UnderAll X pins σ H a (v :: vs) (t :: ts)
theorem UnderAll.len {a : Addr} : ∀ {vs : List V} {ts : List Str}, UnderAll X pins σ H a vs ts → vs.length = ts.length
  | _, _, .nil => rfl
  | _, _, .cons _ r => by rw [List.length_cons, List.length_cons, r.len]
theorem UnderAll.at {a : Addr} : ∀ {vs : List V} {ts : List Str} {i : Nat} {v : V}, UnderAll X pins σ H a vs ts → vs[i]? = some v → ∃ t, ts[i]? = some t ∧ UnderOk X pins σ H a v t
  | _, _, _, _, .nil, e => by simp at e
  | _, _, 0, v, .cons h _, e => by
    simp at e
    subst e
    exact ⟨_, rfl, h⟩
  | _, _, i + 1, v, .cons _ r, e => by
    obtain ⟨t, h1, h2⟩ := r.at (i := i) (v := v) (by simpa using e)
    exact ⟨t, by simpa using h1, h2⟩
theorem loop_under (A : Around) (args : Args) : (A.under (.builtin "list.__repr__.loop" args)).frames = A.frames ∧ (A.under (.builtin "list.__repr__.loop" args)).handled = A.handled ∧ (A.under (.builtin "list.__repr__.loop" args)).depth ≤ A.depth + 2 ∧ (A.under (.builtin "list.__repr__.loop" args)).units = A.units + 1 := by
  refine ⟨?_, ?_, ?_, ?_⟩
  · first | rfl | simp [Around.under, Code.frames, Code.isFrame]
  · first | rfl | simp [Around.under]
  · first | exact Nat.le_add_right _ _ | exact Nat.le_succ _ | simp [Around.under, Code.weight, Code.isCreation, Code.isGuard, Code.isCaller, Code.frames, Code.isFrame, guardIds]
  · first | rfl | simp [Around.under, Code.cUnits, Code.frames, Code.isFrame]
theorem loopU {A : Around} {a P : Addr} {vs : List V} {ts : List Str} {R : Result → Shared → Prop} (hg : A.guards = some []) (hfr : A.frames = X.A.frames) (hh : A.handled = none) (hd : A.depth ≤ X.A.depth + 1) (hu : A.units ≤ X.A.units + 10) (ha : H a = some (.lst vs)) (hU : UnderAll X pins σ H a vs ts)
    (fp : FpOk X pins H P) (hz : (listText ts).length ≤ sizeLine) (hx : ∀ e s', X.xe e s' → R (.error e) s') (hR : ∀ s' u, Inv X pins σ H s' → R (.ok (.ret (.str (listText ts) u))) s') :
    ∀ (k i : Nat) (s : Shared) (acc : Array Value) (c : Nat) (done : List (Str × Tok)), vs.length - i = k → i ≤ vs.length → Inv X pins σ H s → s.heap.get? P = some { cls := .type "list", dict := none, data := .seq acc c, slots := #[] } → acc.toList = strValues done → done.map (·.1) = ts.take i →
      codeAny (model X.prog X.w) A (.builtin "list.__repr__.loop" ⟨[.ref a, rawInt i, .ref P, rawInt ((piled (ts.take i) : Nat) : Int)], []⟩) R s := by
  obtain ⟨f0, f1, f2, f3, f4, f5⟩ := id fp
  have lvt := hU.len
  have tl := textFrom_len ts 0 "["
  have tx : (listText ts).length = (textFrom 0 "[" ts).length + 1 := by
    show (textFrom 0 "[" ts ++ "]").length = _
    rw [strLen_append]
    rfl
  have pl := piled_le_listText ts
  have nts : ts.length ≤ sizeLine := by
    have h1 := tl.1
    simp only [Nat.lt_irrefl, if_false] at h1
    omega
  have each : ∀ t ∈ ts, t.length ≤ sizeLine := fun t ht => by
    have := tl.2.1 t ht
    omega
  have nPa : P ≠ a := fun z => by
    rw [z, ha] at f0
    cases f0
  intro k
  induction k with
  | zero =>
    intro i s acc c done hk hi I hP hacc hdone
    obtain ⟨_, its, n, rv, ho⟩ : vs.length ≤ sizeLine ∧ ∃ (its : List Value) (n : Nat), Vals vs its ∧ s.heap.get? a = some { cls := .type "list", data := .seq its.toArray n } := I.hok a _ ha
    have out : its.toArray[(i : Int).toNat]? = none := by
      have := rv.length
      simp
      omega
    have all : done.map (·.1) = ts := by
      rw [hdone, show i = ts.length by omega, List.take_length]
    refine codeAny_builtin F.entry_list_repr_loop ?_
    show wpAny _ _ (Builtin.«list.__repr__.loop» ⟨[.ref a, .int i 0, .ref P, .int ((piled (ts.take i) : Nat) : Int) 0], []⟩) _ _ s
    rw [repr_loop_tree]
    refine wpAny_bind (wpAny_listItems ho rfl ?_)
    simp only [out]
    unfold reprEnd
    refine wpAny_bind (wpAny_listItems hP rfl ?_)
    rw [hacc, repr_fold, all]
    exact wpAny_bind (wpAny_pure (wpAny_bind (wpAny_mkStr (wpAny_pure (hR _ _ (I.tok _))) hz)))
  | succ k ih =>
    intro i s acc c done hk hi I hP hacc hdone
    obtain ⟨_, its, n, rv, ho⟩ : vs.length ≤ sizeLine ∧ ∃ (its : List Value) (n : Nat), Vals vs its ∧ s.heap.get? a = some { cls := .type "list", data := .seq its.toArray n } := I.hok a _ ha
    have hv : i < vs.length := by omega
    obtain ⟨u, hu1, ru⟩ := rv.get (List.getElem?_eq_getElem hv)
    obtain ⟨t, ht, ok⟩ := hU.at (List.getElem?_eq_getElem hv)
    have got : its.toArray[(i : Int).toNat]? = some u := by simpa using hu1
    have p1 := piled_take_succ ht
    have p2 := piled_take_le ts (i + 1)
    obtain ⟨g1, g2, g3, g4⟩ := loop_under A ⟨[.ref a, rawInt i, .ref P, rawInt ((piled (ts.take i) : Nat) : Int)], []⟩
    refine codeAny_builtin F.entry_list_repr_loop ?_
    show wpAny _ _ (Builtin.«list.__repr__.loop» ⟨[.ref a, .int i 0, .ref P, .int ((piled (ts.take i) : Nat) : Int) 0], []⟩) _ _ s
    rw [repr_loop_tree]
    refine wpAny_bind (wpAny_listItems ho rfl ?_)
    simp only [got]
    rw [Int.toNat_natCast]
    refine wpAny_bind (wpAny_holding (wpAny_mono (ok (piled (ts.take i) + 1) _ s (fun x s' => x = t ∧ Inv X pins σ H s' ∧ s'.heap.get? P = some { cls := .type "list", dict := none, data := .seq acc c, slots := #[] }) u [rawInt i, .ref P, rawInt ((piled (ts.take i) : Nat) : Int)] (by omega) (guards_under_guard (isGuard_list_loop _) hg) (g1.trans hfr) (g2.trans hh) (by omega) (by omega) I ru
      fun s' I' kp => ⟨rfl, I', kp _ _ hP f0 fun z => ?_⟩) (fun x s1 hx1 => ?_) fun e s1 he => hx e s1 he))
    · exact (List.mem_cons.mp (I.stkSub _ z)).elim f1 f2
    obtain ⟨rfl, I1, hP1⟩ := hx1
    refine wpAny_bind (wpAny_mkStr ?_ (each x (List.mem_of_getElem? ht)))
    have small : acc.size ≤ sizeLine := by
      have e1 : acc.toList.length = acc.size := by simp
      have e2 : (strValues done).length = done.length := by simp [strValues]
      have e3 : done.length = (ts.take i).length := by rw [← hdone, List.length_map]
      have e4 := List.length_take (i := i) (l := ts)
      rw [hacc] at e1
      omega
    refine wpAny_bind ?_
    show wpAny _ _ (updateSeq P _) _ _ _
    refine wpAny_updateSeq hP1 rfl (wpAny_pure ⟨F.quiet_list_repr_loop _, ?_⟩) small
    rw [show ((i : Int) + 1) = ((i + 1 : Nat) : Int) by omega, show piled (ts.take i) + (x.length + 2) = piled (ts.take (i + 1)) by omega]
    have I2 : Inv X pins σ H { s1 with heap := s1.heap.update P (Obj.mapSeq (·.push (.str x s1.toks))), toks := s1.toks + 1 } := (I1.turned (t' := s1.toks + 1) (it := P) (fun b o hb e => (Heap.get?_update_other _ _ (Ne.symm hb)).trans e) f0 f1 f3 f4 f5)
    exact ih (i + 1) _ (acc.push (.str x s1.toks)) _ (done ++ [(x, s1.toks)]) (by omega) hv I2 (Heap.get?_update_self _ hP1 rfl) (by simp [hacc, strValues]) (by simp [List.take_add_one, ht, hdone])
end
/-- repr of a list whose values have texts of their own -/
def rReprU (tx : Hp → V → Str → Prop) : List V → Hp → VK → Prop := fun xs H Q => ∃ (a : Addr) (vs : List V) (ts : List Str), xs = [.ref a] ∧ H a = some (.lst vs) ∧ vs ≠ [] ∧ vs.length = ts.length ∧ (∀ (i : Nat) v t, vs[i]? = some v → ts[i]? = some t → tx H v t) ∧ (listText ts).length ≤ sizeLine ∧ Q (.str (listText ts)) H
theorem under_all {X : Cx} {pins : List (Addr × Obj)} {σ : L2.St} {H : Hp} {a : Addr} {tx : Hp → V → Str → Prop} (h : ∀ v t, tx H v t → UnderOk X pins σ H a v t) : ∀ {vs : List V} {ts : List Str}, vs.length = ts.length → (∀ (i : Nat) v t, vs[i]? = some v → ts[i]? = some t → tx H v t) → UnderAll X pins σ H a vs ts
  | [], [], _, _ => .nil
  | [], _ :: _, l, _ => absurd l (by simp)
  | _ :: _, [], l, _ => absurd l (by simp)
  | v :: vs, t :: ts, l, q => .cons (h v t (q 0 v t rfl rfl)) (under_all h (by simpa using l) fun i v' t' h1 h2 => q (i + 1) v' t' (by simpa using h1) (by simpa using h2))
theorem call_reprU {X : Cx} {j : Nat} {tx : Hp → V → Str → Prop} (hgd : X.A.guards = some []) (hr : Room j X.A) (htx : ∀ (pins : List (Addr × Obj)) (σ : L2.St) (H : Hp) (a : Addr) (v : V) (t : Str), tx H v t → UnderOk X pins σ H a v t) : CallR X (.builtin "repr") (rReprU tx) := by
  intro pins s σ H xs us Q I r h
  obtain ⟨a, vs, ts, rfl, ha, ne, hl, hT, hz, q⟩ := h
  obtain ⟨u, rfl, ru⟩ := vals1 r
  cases (show u = Value.ref a from ru)
  obtain ⟨_, its, n, rv, ho⟩ : vs.length ≤ sizeLine ∧ ∃ (its : List Value) (n : Nat), Vals vs its ∧ s.heap.get? a = some { cls := .type "list", data := .seq its.toArray n } := I.hok a _ ha
  have un := hr.units
  have dn := hr.depth
  obtain ⟨x, l, rfl⟩ : ∃ x l, its = x :: l := by
    cases rv with
    | nil => exact absurd rfl ne
    | cons _ _ => exact ⟨_, _, rfl⟩
  have P0 : (s.heap.push { cls := .type "list", data := .seq #[] }).get? s.heap.objs.size = some { cls := .type "list", dict := none, data := .seq #[] 0, slots := #[] } := Heap.get?_push_size _ rfl
  have I1 : Inv X pins σ H { s with heap := s.heap.push { cls := .type "list", data := .seq #[] } } := I.kept fun b o e => Heap.get?_push_of_some _ e
  have fp : FpOk X pins H s.heap.objs.size := I.fpOk (Nat.le_refl _) (I.hok.fresh (Nat.le_refl _))
  refine call_repr_slot (by omega) ⟨_, ho, rfl⟩ F.slot_list_repr.toG (wpAny_call (codeAny_call_builtin F.slot_list_repr.plain F.entry_list_repr (F.slot_list_repr.check _ _ _ _ _ _ _ _ ⟨_, ho, rfl⟩ (F.args_list_repr_1 _) ?_)))
  refine wpAny_list_repr_head hgd (fun _ _ _ hm => nomatch hm) ho rfl (wpAny_bind (m := newList []) (wpAny_newObj_type (wpAny_pure ⟨F.quiet_list_repr_loop _, ?_⟩)))
  refine loopU (X := X) (pins := pins) (σ := σ) (H := H) (P := s.heap.objs.size) (ts := ts) ?_ ?_ ?_ ?_ ?_ ha (under_all (fun v t => htx pins σ H a v t) hl hT) fp hz ?_ ?_ _ 0 _ #[] 0 [] rfl (Nat.zero_le _) I1 P0 rfl (by simp)
  · exact hgd
  · rfl
  · exact hr.hd
  · exact Nat.le_succ _
  · show X.A.units + 1 ≤ _
    omega
  · exact fun e s' he => he
  · exact fun s' u I' => ⟨listText ts, u, rfl, .str (listText ts), H, I', ⟨u, rfl⟩, q⟩
/-- a plain value, or an instance whose class says repr -/
theorem call_reprUI {X : Cx} {j k : Nat} {C : Addr} {sp : Sp} (hgd : X.A.guards = some []) (c : CalS X.prog X.w X.K X.mg X.base k C "__repr__" sp) (hr : Room j X.A) (hk : k + 2 ≤ j) :
    CallR X (.builtin "repr") (rReprU fun H v t => (flatV v = true ∧ (flatD v).showable = true ∧ (flatD v).shown.length ≤ sizeLine ∧ t = (flatD v).shown) ∨ ∃ (b dx : Addr) (fs : List (Str × V)), v = .ref b ∧ H b = some (.ins C dx fs) ∧ ∀ Q : VK, Q (.str t) H → sp [.ref b] H Q E0) := by
  obtain ⟨f, F, h1, h2⟩ := c
  refine call_reprU hgd hr fun pins σ H a v t h => ?_
  rcases h with ⟨f1, f2, f3, rfl⟩ | ⟨b, dx, fs, rfl, hb, q⟩
  · exact UnderOk.flat f1 f2 f3
  · exact UnderOk.inst h1 h2 F (hr.mono hk) hb q
/-- tuple(x) of a list: a new tuple, and no more -/
theorem call_tupleF {X : Cx} : CallR X (.type "tuple") (fun xs H Q => ∃ p ys, xs = [.ref p] ∧ SqL X.K H p ys ∧ ∀ l o, H l = none → TupO o → Q (.ref l) (upd H l (.frz o (.tup ys)))) := by
  intro pins s σ H xs us Q I r h
  obtain ⟨p, ys, rfl, hq, q⟩ := h
  obtain ⟨u, rfl, rx⟩ := vals1 r
  cases (show u = Value.ref p from rx)
  obtain ⟨its, rv, pl, hz⟩ := I.list hq
  have small := rv.length
  refine call_tuple_list pl.isList (fun h' kp => ?_) (by simp only [List.size_toArray] <;> omega)
  have J := I.kept (t' := s.toks) kp
  have J2 := J.laid (t' := s.toks) (o := .frz ({ cls := .type "tuple", data := .seq its.toArray } : Obj) (.tup ys)) (fun b o e => Heap.get?_push_of_some ({ cls := .type "tuple", data := .seq its.toArray } : Obj) e) (Nat.le_refl _) ⟨Heap.get?_push_size _ rfl, hz, its, rv, ⟨_, Heap.get?_push_size _ rfl, rfl, _, rfl⟩⟩
  exact ⟨.ref h'.objs.size, _, J2, rfl, q _ _ (J.hok.fresh (Nat.le_refl _)) ⟨rfl, rfl⟩⟩
end UL
set_option Elab.async false
set_option linter.all false
set_option maxRecDepth 100000
set_option maxHeartbeats 4000000
/-! ### isinstance(e, C) of a caught error with a dict, true or false; repr of a list by either way -/
namespace UL
open PySem PySem.Spec PyProof.Rows L2
/-- isinstance(e, c), e the error of class C that the suite holds, its names in a dict -/
def rIsB (K : PySem.W.Frag) (C a : Addr) (cls : Value) (d : Option Addr) : List V → Hp → VK → Prop := fun xs H Q => ∃ (c : V) (cv : Value) (b : Bool) (da : Addr) (gs : List (Str × V)), xs = [.ref a, c] ∧ (∀ u, RelV c u → u = cv) ∧ cls = .ref C ∧ PySem.W.kitOne K (.ref C) cv = some b ∧ d = some da ∧ H da = some (.xd gs) ∧ Q (.bl b) H
theorem call_isB {X : Cx} {C a : Addr} {cls : Value} {d : Option Addr} {oe : Obj} {pn : List (Addr × Obj)} (EC : ExcC X.K C) (hz : Zc cls d oe) (hf : ∃ vs, oe.data = .fields vs) : CallR (X.suite a ((a, oe) :: pn)) (.builtin "isinstance") (rIsB X.K C a cls d) := by
  intro pins s σ H xs us Q I r h
  obtain ⟨c, cv, b, da, fs, rfl, hcv, rfl, e, rfl, hda, q⟩ := h
  obtain ⟨u1, u2, rfl, r1, r2⟩ := vals2 r
  cases (show u1 = Value.ref a from r1)
  obtain rfl := hcv _ r2
  obtain ⟨hget, _⟩ := I.pin (a, oe) (List.mem_append.mpr (.inl List.mem_cons_self))
  obtain ⟨vs, hv⟩ := hf
  obtain ⟨mA, ⟨od, es, ep, ed, hcc⟩, _⟩ := (show ∃ mA, s.heap.Ns1 da mA ∧ ∀ f, RelO (fs.lookup f) (mA f) from I.hok da _ hda)
  have J : PySem.W.InstAt s.heap a oe C (some od) := by
    obtain ⟨oc, odi, oda, osl⟩ := oe
    obtain ⟨h1, h2⟩ := hz
    dsimp only at h1 h2 hv
    subst h1 h2 hv
    exact ⟨hget, rfl, rfl, ed⟩
  have hcl : (PySem.W.clsIn X.K C).isSome = true := by
    obtain ⟨cd, hc, _⟩ := PySem.W.any_some EC.hd
    rw [hc]
    rfl
  exact PySem.W.kia_one (PySem.W.kitx_exc hcl EC.hg EC.hk EC.hs EC.ha EC.hn EC.ht EC.hm) I.kIn J e (fun z => nomatch z) fun tk => ⟨.bl b, H, I.kept (t' := tk) fun _ _ z => z, rfl, q⟩
/-- by either way -/
theorem call_or {X : Cx} {f : Value} {r1 r2 : List V → Hp → VK → Prop} (h1 : CallR X f r1) (h2 : CallR X f r2) : CallR X f (fun xs H Q => r1 xs H Q ∨ r2 xs H Q) := by
  intro pins s σ H xs us Q I r h
  rcases h with h | h
  · exact h1 pins s σ H xs us Q I r h
  · exact h2 pins s σ H xs us Q I r h
/-- what repr says of a plain value or of an instance -/
def TxUI (C : Addr) (sp : Sp) : Hp → V → Str → Prop := fun H v t => (flatV v = true ∧ (flatD v).showable = true ∧ (flatD v).shown.length ≤ sizeLine ∧ t = (flatD v).shown) ∨ ∃ (b dx : Addr) (fs : List (Str × V)), v = .ref b ∧ H b = some (.ins C dx fs) ∧ ∀ Q : VK, Q (.str t) H → sp [.ref b] H Q E0
def rReprA (K : PySem.W.Frag) (C : Addr) (sp : Sp) : List V → Hp → VK → Prop := fun xs H Q => rReprT K xs H Q ∨ rReprU (TxUI C sp) xs H Q
theorem call_reprA {X : Cx} {j k : Nat} {C : Addr} {sp : Sp} (hgd : X.A.guards = some []) (c : CalS X.prog X.w X.K X.mg X.base k C "__repr__" sp) (hr : Room j X.A) (hk : k + 2 ≤ j) : CallR X (.builtin "repr") (rReprA X.K C sp) :=
  call_or (call_reprT hgd hr.units) (call_reprUI hgd c hr hk)
/-- _law_draw(pot, n), n up to 2^130 -/
def spDrawW : Sp := fun vs H Q _ => ∃ (p : Addr) (n : Int), vs = [.ref p, .int n] ∧ Pot H p ∧ 0 < n ∧ n < 1361129467683753853853498429727072845824 ∧
  ∀ (d : Int) (H' : Hp), 0 ≤ d → d < n → Pot H' p → Stay p H H' → Q (.int d) H'
theorem nopy {x n : Int} (h0 : 0 < n) (h1 : n < 1361129467683753853853498429727072845824) : Builtin.divisionGoesByPylong x n = false := PyProof.noPylong_of_log2 (by
  have : n.natAbs.log2 < 130 := (Nat.log2_lt (by omega)).mpr (by omega)
  omega)
/-! ### o.m(k = v, ..) that may raise -/
def CalMKE (P : Program) (w : World) (K : PySem.W.Frag) (mg : Str → Option Value) (base : Heap) (k : Nat) (C : Addr) (m : Str) (ks : List Str) (gV : List V → List V → List V) (sp : Sp) : Prop := ∃ f fd ps g, FnOk P w K mg base (L2.CX P w) k f fd ps sp ∧ Cls K C ∧ Meth K C m f ∧ KBn K fd ps 1 ks g gV
def tMethKE (C : Addr) (m : Str) (n : Nat) (gV : List V → List V → List V) (sp : Sp) (E : XK) (ta : TE) (tk : TA) : TE := fun σ H Q => ta σ H fun x H1 => ∃ a dx fs, x = .ref a ∧ H1 a = some (.ins C dx fs) ∧ fs.lookup m = none ∧ tk σ H1 fun zs H2 => zs.length = n ∧ sp (gV [x] zs) H2 Q E
section
variable {X : Cx} {k j : Nat} {m : Str} {C : Addr} {sp : Sp} {o : Expr} {kws : List Keyword} {ks : List Str} {gV : List V → List V → List V} {tk : TA} {ta : TE} {pos apos : Pos} {E : XK}
theorem pe_mKE {pl : Sem Bool} (he : PE X o ta) (c : CalMKE X.prog X.w X.K X.mg X.base k C m ks gV sp) (px : Passes (L2.CX X.prog X.w) X E) (hr : Room j X.A) (hk : k ≤ j) (hkw : PK X kws tk)
    (hall : (backToKw pos (keywordEach kws X.env)).all (·.1.isSome) = true := by rfl) (hks : (backToKw pos (keywordEach kws X.env)).filterMap (·.1) = ks := by rfl)
    (hpl : ((backTo pos (starEach [] X.env)).any (·.1) || (backToKw pos (keywordEach kws X.env)).any (·.1.isNone)) = false := by rfl)
    (ht : eval (.Call (.Attribute o m apos) [] kws pos) X.env = (do
      let ov ← eval o X.env
      standAt apos.atName
      let (fv, fi) ← holding [ov] (getMethod ov m pl)
      callWith pos fv fi (backTo pos (starEach [] X.env)) (backToKw pos (keywordEach kws X.env))) := by rfl) :
    PE X (.Call (.Attribute o m apos) [] kws pos) (tMethKE C m ks.length gV sp E ta tk) := by
  obtain ⟨f, fd, ps, g, F, cl, mt, b⟩ := c
  refine ⟨fun pins s σ H Q I h => ?_⟩
  refine PySem.W.methodCall_KW (pl := pl) (thn (he.run pins s σ H _ I h) fun u s1 ⟨x, H1, I1, rx, a, dx, fs, ex, ea, l, q⟩ => ?_) ht
  subst ex
  obtain rfl : u = Value.ref a := rx
  refine getmeth_ok I1 ea cl mt l ?_
  refine PySem.W.callWith_KW0 (first := [.ref a]) (h₀ := X.base) I.ok.mod.kin mt.kp hall ?_ hpl
  refine thn (hkw.run pos pins s1 σ H1 _ I1 q) fun ws s3 ⟨zs, H2, I3, rz, l2, q2⟩ => ⟨I3.kIn, ?_⟩
  rw [hks]
  exact run_fnN (us := [.ref a]) (vs := [.ref a]) F (hr.mono hk) b px I3 (.cons rfl .nil) rz rfl l2 q2
end
end UL
set_option Elab.async false
set_option linter.all false
set_option maxRecDepth 100000
set_option maxHeartbeats 4000000
/-! ### list(range(a, b)) of great numbers -/
namespace UL
open PySem
open Sem (wp)
section
variable {prog : Program} {w : World} {A : Around} {E : Value → Shared → Prop} {s : Shared}
/-- what the list's row is behind it -/
def LrRow (n : Nat) (a c : Int) (S : Addr) (h h' : Heap) (acc : Array Value) (cap : Nat) : Prop := (∀ b o, b ≠ S → h.get? b = some o → h'.get? b = some o) ∧ h'.get? S = some { cls := .type "list", dict := none, data := .seq acc cap, slots := #[] } ∧ ItemsOf (fun i v => ∃ t, v = .int (a + i * c) t) acc n
theorem lr_extend {R : Result → Shared → Prop} {r : Addr} {a b c : Int} {t u v : Tok} {n : Nat} (hh : A.handled = none) (hr : IsRange s.heap r a b c t u v) (hl : Builtin.Range.small a b c = false) (hn : Builtin.Range.rangeSize a b c = n) (h24 : n ≤ 2 ^ 24)
    (S : Addr) (res : Value) (c0 : Nat) (hS : s.heap.get? S = some { cls := .type "list", data := .seq #[] c0 }) (k : ∀ h' tk acc cap, LrRow n a c S s.heap h' acc cap → R (.ok (.ret res)) { s with heap := h', toks := tk }) :
    wpAny (model prog w) A.in1 (Builtin.List.listExtendWith (.ref S) (.ref r) res) (fun fin s' => match fin with | .done f => R (.ok f) s' | .again cd => cd.quiet = true ∧ codeAny (model prog w) A cd R s') (fun e s' => R (.error e) s') s := by
  have nr : S ≠ r := fun e => by
    rw [e, hr] at hS
    simp at hS
  have lt : S < s.heap.objs.size := Heap.lt_size hS
  have nI : S ≠ s.heap.objs.size := Nat.ne_of_lt lt
  have nf : S ∉ [s.heap.objs.size] := fun m => nI (List.mem_singleton.mp m)
  have W := (Walks.longrange (prog := prog) (w := w) (A := A.in1) hh s.heap.objs.size a c n).toS
  have key : ∀ (h : Heap) (c1 tk : Nat), IsLongIter h s.heap.objs.size (a + ((0 : Nat) : Int) * c) ((n : Int) - ((0 : Nat) : Int)) c → (∀ b o, b ≠ S → s.heap.get? b = some o → h.get? b = some o) → h.get? S = some { cls := .type "list", data := .seq #[] c1 } →
      codeAny (model prog w) A (.builtin "list.extend.loop" ⟨[.ref S, .ref s.heap.objs.size, res], []⟩) R { s with heap := h, toks := tk } := fun h c1 tk hit hk h1 => by
    refine codeAny_extend_loopS W (by rw [sizeLine_eq]; omega) S nf res n 0 _ #[] c1 rfl (Nat.zero_le _) hit h1 (ItemsOf.nil _) fun s' acc cap hm hS' hacc => ?_
    rw [Moved.eq_with hm]
    refine k s'.heap s'.toks acc cap ⟨fun b o hb e => hm.heap b o (fun mem => ?_) (hk b o hb e), hS', hacc⟩
    rcases List.mem_cons.mp mem with z | mem
    · exact hb z
    · exact absurd (Heap.lt_size e) (by rw [List.mem_singleton.mp mem]; exact Nat.lt_irrefl _)
  unfold Builtin.List.listExtendWith
  refine wpAny_bind (wpAny_typeOf (T := "range") ⟨_, hr, rfl⟩ ?_)
  have q1 : Builtin.List.listSameRef (.ref S) (.ref r) = false := by simp [Builtin.List.listSameRef, nr]
  have q2 : (Value.type "range" == Value.type "list") = false := by decide
  have q3 : (Value.type "range" == Value.type "tuple") = false := by decide
  simp only [q1, q2, q3, Bool.or_false, Bool.false_eq_true, if_false]
  refine wpAny_bind (wpAny_pyIter_longrange hr hl ?_)
  refine wpAny_bind (wpAny_holding (wpAny_hint_range (n := n) (Heap.get?_push_of_some _ hr) hn h24 ?_))
  have it1 : IsLongIter (s.heap.push { cls := .type "longrange_iterator", data := .fields #[rawInt a, rawInt (Builtin.Range.rangeSize a b c), rawInt c] }) s.heap.objs.size (a + ((0 : Nat) : Int) * c) ((n : Int) - ((0 : Nat) : Int)) c := by
    show IsLongIter _ _ _ _ _
    rw [hn]
    simpa using Heap.get?_push_size _ rfl
  have S1 := Heap.get?_push_of_some { cls := .type "longrange_iterator", data := .fields #[rawInt a, rawInt (Builtin.Range.rangeSize a b c), rawInt c] } hS
  refine wpAny_ite_split (fun _ => ?_) (fun _ => wpAny_pure ⟨plainId_quiet F.plain_extend_loop _, key _ c0 _ it1 (fun b o _ e => Heap.get?_push_of_some _ e) S1⟩)
  refine wpAny_bind (wpAny_rule (wpAny_bind ?_))
  show wpAny _ _ (updateSeq S (fun z => z.push .none) >>= fun _ => updateSeq S (fun z => z.pop)) _ _ _
  refine wpAny_bind (wpAny_updateSeq S1 rfl ?_)
  have S2 := Heap.get?_update_self (Obj.mapSeq (·.push Value.none)) S1 rfl
  refine wpAny_updateSeq (hz := by seq_fits) S2 rfl ?_
  have S3 := Heap.get?_update_self (Obj.mapSeq (·.pop)) S2 rfl
  refine wpAny_pure ⟨plainId_quiet F.plain_extend_loop _, key _ _ _ ?_ (fun b o hb e => ?_) S3⟩
  · exact (Heap.get?_update_other _ _ nI).trans ((Heap.get?_update_other _ _ nI).trans it1)
  · exact (Heap.get?_update_other _ _ (Ne.symm hb)).trans ((Heap.get?_update_other _ _ (Ne.symm hb)).trans (Heap.get?_push_of_some _ e))
theorem lr_init {R : Result → Shared → Prop} {r : Addr} {a b c : Int} {t u v : Tok} {n : Nat} (hh : A.handled = none) (hr : IsRange s.heap r a b c t u v) (hl : Builtin.Range.small a b c = false) (hn : Builtin.Range.rangeSize a b c = n) (h24 : n ≤ 2 ^ 24) (S : Addr)
    (S0 : s.heap.get? S = some { cls := .type "list", data := .seq #[] }) (k : ∀ h' tk acc cap, LrRow n a c S s.heap h' acc cap → R (.ok (.ret .none)) { s with heap := h', toks := tk }) :
    wpAny (model prog w) A.in1 (Builtin.«list.__init__» ⟨[.ref S, .ref r], []⟩) (fun fin s' => match fin with | .done f => R (.ok f) s' | .again cd => cd.quiet = true ∧ codeAny (model prog w) A cd R s') (fun e s' => R (.error e) s') s := by
  have nr : S ≠ r := fun e => by
    rw [e, hr] at S0
    simp at S0
  show wpAny _ _ (Builtin.List.listItems (.ref S) >>= fun old => Builtin.List.listUpdate (.ref S) (fun _ => #[]) >>= fun _ => letGo old.toList.reverse >>= fun _ => Builtin.List.listExtendWith (.ref S) (.ref r) .none) _ _ s
  refine wpAny_bind ?_
  unfold Builtin.List.listItems
  refine wpAny_bind (wpAny_seqItems S0 rfl (wpAny_pure ?_))
  show wpAny _ _ (updateSeq S (fun _ => #[]) >>= fun _ => letGo ([] : List Value) >>= fun _ => Builtin.List.listExtendWith (.ref S) (.ref r) .none) _ _ s
  refine wpAny_bind (wpAny_updateSeq S0 rfl ?_)
  have S2 := Heap.get?_update_self (Obj.mapSeq (fun _ => (#[] : Array Value))) S0 rfl
  have oth : ∀ b o, b ≠ S → s.heap.get? b = some o → (s.heap.update S (Obj.mapSeq (fun _ => (#[] : Array Value)))).get? b = some o := fun b o hb e => (Heap.get?_update_other _ _ (Ne.symm hb)).trans e
  refine wpAny_bind (wpAny_letGo ?_)
  exact lr_extend hh (oth r _ (Ne.symm nr) hr) hl hn h24 S .none _ S2 fun h' tk acc cap z => k h' tk acc cap ⟨fun b o hb e => z.1 b o hb (oth b o hb e), z.2⟩
theorem lr_list {Q : Value → Shared → Prop} {r : Addr} {a b c : Int} {t u v : Tok} {n : Nat} (hh : A.handled = none) (hr : IsRange s.heap r a b c t u v) (hl : Builtin.Range.small a b c = false) (hn : Builtin.Range.rangeSize a b c = n) (h24 : n ≤ 2 ^ 24)
    (k : ∀ h' tk acc cap, (∀ b o, s.heap.get? b = some o → h'.get? b = some o) → h'.get? s.heap.objs.size = some { cls := .type "list", dict := none, data := .seq acc cap, slots := #[] } → ItemsOf (fun i v => ∃ t, v = .int (a + i * c) t) acc n → Q (.ref s.heap.objs.size) { s with heap := h', toks := tk }) :
    wpAny (model prog w) A (call (.type "list") [.ref r]) Q E s := by
  refine callType_codes (Q₁ := fun obj s1 => obj = .ref s.heap.objs.size ∧ s1 = { s with heap := s.heap.push { cls := .type "list", data := .seq #[] } }) F.called_list (F.typeCall_list_1 _) F.entry_list_init (code_list_new _ ⟨rfl, rfl⟩) fun obj s1 z => ?_
  obtain ⟨rfl, rfl⟩ := z
  have S0 : (s.heap.push { cls := .type "list", data := .seq #[] }).get? s.heap.objs.size = some { cls := .type "list", data := .seq #[] } := Heap.get?_push_size _ rfl
  exact ⟨⟨_, S0, rfl⟩, F.args_list_init_2 _ _, lr_init (A := A.in1) hh (Heap.get?_push_of_some _ hr) hl hn h24 _ S0 fun h' tk acc cap z => ⟨rfl, k h' tk acc cap (fun b o e => z.1 b o (Nat.ne_of_lt (Heap.lt_size e)) (Heap.get?_push_of_some _ e)) z.2.1 z.2.2⟩⟩
end
end UL
namespace UL
open PySem PySem.Spec PyProof.Rows L2
section
variable {X : Cx} {e : Expr} {te : L2.St → Hp → (Int → Int → Hp → Prop) → Prop}
/-- list(range(a, b)), numbers of any size, not too many -/
def tLstRgA (te : L2.St → Hp → (Int → Int → Hp → Prop) → Prop) : TE := fun σ H Q => te σ H fun a b H1 => (b - a).toNat ≤ 16777216 ∧ ∀ q, H1 q = none → Q (.ref q) (upd H1 q (.lst (rgV a b)))
theorem pe_listRgA {p pos : Pos} (hc : X.calm = true) (hg : Gl X "list") (hm : X.mg "list" = none) (he : PRg X e te) (na : starEach [e] X.env = (false, eval e X.env) :: starEach [] X.env := by rfl) : PE X (.Call (.Name "list" p) [e] [] pos) (tLstRgA te) := by
  constructor
  intro pins s σ H Q I h
  refine Call_ (ld_blt I hg hm boot_list (PyProof.Rows.callWith_type1 (args_cons (thn (he pins s σ H _ I h) fun x s1 z => args_nil ?_) na) na))
  obtain ⟨r, a, b, t, u, v, H1, ex, hr, I1, n24, q⟩ := z
  subst ex
  have fin : ∀ (h' : Heap) (tk : Nat) (acc : Array Value) (cap : Nat), (∀ b o, s1.heap.get? b = some o → h'.get? b = some o) → h'.get? s1.heap.objs.size = some { cls := .type "list", dict := none, data := .seq acc cap, slots := #[] } → ItemsOf (fun i v => ∃ t, v = .int (a + i * 1) t) acc (b - a).toNat →
      EP X pins σ Q (.ref s1.heap.objs.size) { s1 with heap := h', toks := tk } := fun h' tk acc cap hk hS hi => by
    refine ⟨.ref s1.heap.objs.size, upd H1 s1.heap.objs.size (.lst (rgV a b)), I1.laid hk (Nat.le_refl _) ?_, rfl, q _ (I1.hok.fresh (Nat.le_refl _))⟩
    exact ⟨by rw [rgV_length, sizeLine_eq]; omega, acc.toList, cap, vals_rg hi, by rw [Array.toArray_toList]; exact hS⟩
  cases sm : Builtin.Range.small a b 1 with
  | true => exact call_list_range (n := (b - a).toNat) (I1.ok.hd hc) hr sm (rangeSize_nat a b) (by omega) fin
  | false => exact lr_list (n := (b - a).toNat) (I1.ok.hd hc) hr sm (rangeSize_nat a b) (by omega) fin
end
end UL
/-! ### own - beside a built-in type, own += and -= -/
namespace UL
open PySem PySem.Spec PyProof.Rows L2
open PySem.W (Looks Frag findIn clsIn InstAt)
theorem du_sub : PySem.dunder "sub" = ("__sub__" : Str) := by decide +kernel
theorem di_sub : dunderI "sub" = ("__isub__" : Str) := by decide +kernel
/-- the class at C and its base have no own nm in place -/
structure NoI (K : Frag) (C : Addr) (nm : String) : Prop where
  no : ∃ cd D, clsIn K C = some cd ∧ cd.mro = [.ref C, .ref D, .type "object"] ∧ findIn K (.ref D) (dunderI nm) = some none
  h1 : findIn K (.ref C) (dunderI nm) = some none
  h2 : findIn K (.type "object") (dunderI nm) = some none
theorem fillsI_three {K : Frag} {C : Addr} {M : Model} {h : Heap} {nm : String} {add : Bool} (X : K.In h) (n : NoI K C nm) : Looks M h (fillsInplaceSlot (.ref C) nm add) false := by
  obtain ⟨⟨cd, D, hc, hm, d1⟩, h1, o1⟩ := n
  intro A Q E s k q
  unfold fillsInplaceSlot
  refine wpAny_bind ((PySem.W.looks_clsIn X hc).andThen (f := fun cd => pure cd.mro) .now A _ E s k ?_)
  rw [hm]
  rw [List.anyM_cons]
  refine wpAny_bind (wpAny_bind (PySem.W.looks_findIn X h1 A _ E s k (wpAny_pure ?_)))
  rw [if_neg (by simp)]
  rw [List.anyM_cons]
  refine wpAny_bind (wpAny_bind (PySem.W.looks_findIn X d1 A _ E s k (wpAny_pure ?_)))
  rw [if_neg (by simp)]
  rw [List.anyM_cons]
  refine wpAny_bind (wpAny_bind (PySem.W.looks_findIn X o1 A _ E s k (wpAny_pure ?_)))
  rw [if_neg (by simp)]
  exact wpAny_pure q
section
variable {prog : Program} {w : World} {A : Around} {E : Value → Shared → Prop} {s : Shared} {K : PySem.W.Frag} {x C f : Addr} {ox : Obj} {od : Option Obj} {T : String} {b : Value} {Q : Value → Shared → Prop}
theorem inop_add (KX : K.In s.heap) (J : InstAt s.heap x ox C od) (hb : Looks (model prog w) s.heap (typeOf b) (.type T)) (n : NoI K C "add") (o : OwnT K C T "add") (hs : findIn K (.ref C) "__add__" = some (some (.ref f))) (hf : PySem.W.isFn K (.ref f) = true)
    (h : wpAny (model prog w) A (call (.ref f) [.ref x, b]) (PySem.W.CmpBack Q) E s) : wpAny (model prog w) A (inplaceOp .Add (.ref x) b) Q E s := by
  unfold inplaceOp
  refine wpAny_holding (wpAny_bind (J.type.here (wpAny_bind ((fillsI_three (nm := "add") KX n).here ?_))))
  rw [if_neg (by simp)]
  refine wpAny_bind (bin1_type (nm := "add") KX J hb o (by rw [du_add]; exact hs) hf (wpAny_mono h (fun v s' z => ?_) fun _ _ e => e))
  cases v <;> first | exact z.elim | exact wpAny_pure z
theorem inop_sub (KX : K.In s.heap) (J : InstAt s.heap x ox C od) (hb : Looks (model prog w) s.heap (typeOf b) (.type T)) (n : NoI K C "sub") (o : OwnT K C T "sub") (hs : findIn K (.ref C) "__sub__" = some (some (.ref f))) (hf : PySem.W.isFn K (.ref f) = true)
    (h : wpAny (model prog w) A (call (.ref f) [.ref x, b]) (PySem.W.CmpBack Q) E s) : wpAny (model prog w) A (inplaceOp .Sub (.ref x) b) Q E s := by
  unfold inplaceOp
  refine wpAny_holding (wpAny_bind (J.type.here (wpAny_bind ((fillsI_three (nm := "sub") KX n).here ?_))))
  rw [if_neg (by simp)]
  refine wpAny_bind (bin1_type (nm := "sub") KX J hb o (by rw [du_sub]; exact hs) hf (wpAny_mono h (fun v s' z => ?_) fun _ _ e => e))
  cases v <;> first | exact z.elim | exact wpAny_pure z
end
section
variable {X : Cx} {CX : CXT} {C g : Addr} {n k j : Nat} {sp : Sp} {E : XK} {T : String}
theorem op_subST (c : CalS X.prog X.w X.K X.mg X.base k C "__sub__" sp) (o : OwnT X.K C T "sub") (hr : Room j X.A) (hk : k ≤ j) : OpR X (binaryOp .Sub) (rOpT C T sp E0) := by
  obtain ⟨f, F, h1, h2⟩ := c
  exact op_ownT (op := .Sub) o (by show findIn X.K (.ref C) (PySem.dunder "sub") = _; rw [du_sub]; exact h1) h2 F (hr.mono hk) pass0
theorem iop_any {op : Operator} (hF : FnR X.prog X.w X.K X.mg X.base CX n g sp) (hr : Room n X.A) (hx : Passes CX X E)
    (hop : ∀ {s : Shared} {a : Addr} {oa : Obj} {od : Option Obj} {u : Value} {Q : Value → Shared → Prop}, X.K.In s.heap → InstAt s.heap a oa C od → Looks (model X.prog X.w) s.heap (typeOf u) (.type T) → wpAny (model X.prog X.w) X.A (call (.ref g) [.ref a, u]) (PySem.W.CmpBack Q) X.xe s → wpAny (model X.prog X.w) X.A (inplaceOp op (.ref a) u) Q X.xe s) :
    OpR X (inplaceOp op) (rOpT C T sp E) := by
  intro pins s σ H x y v u Q I rx ry h
  obtain ⟨a, dx, fs, rfl, ha, ty, q⟩ := h
  cases (show v = Value.ref a from rx)
  obtain ⟨mA, O, _⟩ := ins_get I.hok ha
  obtain ⟨od, J, _⟩ := O.look
  refine hop I.kIn J (Looks.of_pure (ty u ry)) ?_
  refine wpAny_mono (wpAny_call (run_fnR (us := [.ref a, u]) (vs := [.ref a, y]) hF hr hx I (.cons rfl (.cons ry .nil)) q)) (fun r s' z => ?_) fun _ _ e => e
  obtain ⟨z', H', I', rz, qz⟩ := z
  exact SlX.cmpback rz ⟨z', H', I', rz, qz⟩
theorem iop_addST (c : CalS X.prog X.w X.K X.mg X.base k C "__add__" sp) (o : OwnT X.K C T "add") (i : NoI X.K C "add") (hr : Room j X.A) (hk : k ≤ j) : OpR X (inplaceOp .Add) (rOpT C T sp E0) := by
  obtain ⟨f, F, h1, h2⟩ := c
  exact iop_any F (hr.mono hk) pass0 fun KX J hb h => inop_add KX J hb i o h1 h2 h
theorem iop_subST (c : CalS X.prog X.w X.K X.mg X.base k C "__sub__" sp) (o : OwnT X.K C T "sub") (i : NoI X.K C "sub") (hr : Room j X.A) (hk : k ≤ j) : OpR X (inplaceOp .Sub) (rOpT C T sp E0) := by
  obtain ⟨f, F, h1, h2⟩ := c
  exact iop_any F (hr.mono hk) pass0 fun KX J hb h => inop_sub KX J hb i o h1 h2 h
end
end UL
/-! ### == with a built-in value on the left, an instance with an own __eq__ on the right -/
namespace UL
open PySem PySem.Spec PyProof.Rows L2 PySem.SeqAt
open PySem.W (Looks Frag findIn clsIn InstAt)
section
variable {prog : Program} {w : World} {A : Around} {E : Value → Shared → Prop} {s : Shared} {K : PySem.W.Frag} {y C f : Addr} {oy : Obj} {od : Option Obj} {T : String} {x : Value}
/-- x's type has no answer -/
def Decl (prog : Program) (w : World) (A : Around) (E : Value → Shared → Prop) (s : Shared) (x : Value) (y : Addr) : Prop := wpAny (model prog w) A (tryCompare x "__eq__" (.ref y)) (fun r s' => r = none ∧ s' = s) E s
theorem eq_right {Q : Value → Shared → Prop} (hu : A.units < cLine) (KX : K.In s.heap) (J : InstAt s.heap y oy C od) (tx : s.TypeIs x T) (d : Decl prog w A E s x y) (su : PySem.W.subIn K (.ref C) (.type T) = some false)
    (hs : findIn K (.ref C) "__eq__" = some (some (.ref f))) (hf : PySem.W.isFn K (.ref f) = true) (h : wpAny (model prog w) A (call (.ref f) [.ref y, x]) (PySem.W.CmpBack Q) E s) : wpAny (model prog w) A (richCompare .Eq x (.ref y)) Q E s := by
  have one : wpAny (model prog w) A (tryCompare (.ref y) "__eq__" x) (fun r s' => ∃ v, r = some v ∧ Q v s') E s := by
    unfold tryCompare
    refine wpAny_bind (PySem.W.ifBound_K KX J hs hf (wpAny_mono h (fun v s' hv => ?_) fun _ _ e => e))
    cases v <;> first | exact hv.elim | exact wpAny_pure ⟨_, rfl, hv⟩
  simp only [richCompare, cmpInfo_Eq, tx.oneThing_none]
  refine wpAny_holding (wpAny_bind (wpAny_cRoomFor hu ?_))
  refine wpAny_bind (wpAny_typeOf tx (wpAny_bind (J.type.here ?_)))
  split
  · refine wpAny_bind ((PySem.W.looks_subIn KX su).here ?_)
    simp only [Bool.false_eq_true, if_false, Bool.not_false, if_true]
    refine wpAny_bind (m := tryCompare x _ (.ref y)) (wpAny_mono d (fun r s1 z => ?_) fun _ _ e => e)
    obtain ⟨z1, z2⟩ := z
    subst z1 z2
    refine wpAny_bind (m := tryCompare (.ref y) _ x) (wpAny_mono one (fun r s2 z => ?_) fun _ _ e => e)
    obtain ⟨v, rfl, hq⟩ := z
    exact wpAny_pure hq
  · rename_i q
    exact absurd (by simp) q
theorem decl_none : Decl prog w A E s .none y :=
  wpAny_tryCompare_declines (show s.TypeIs .none "NoneType" from rfl) F.slot_NoneType_eq_refl (call_gives F.slot_NoneType_eq_refl rfl F.entry_NoneType_eq (F.args_NoneType_eq_2 _ _) (NoneType___eq___none_ref_0 y) ⟨rfl, rfl, rfl⟩)
theorem int_meets (b : Int) (u : Tok) (l C dx : Addr) : Meets (Builtin.«int.__eq__» ⟨[.int b u, .ref l], []⟩) (fun _ R s => s.heap.get? l = some { cls := .ref C, dict := some dx, data := .plain, slots := #[] } ∧ R (.ok (.ret .notImplemented)) s) :=
  .of_wp fun prog w A R s h => by
    obtain ⟨hp, g, d, tk, os⟩ := s
    obtain ⟨hl, h⟩ := h
    wp_walk using AutoSeq1.wpAny_loadPart' hl, wpAny_load hl
    exact ⟨_, rfl, h⟩
theorem str_meets (b : Str) (u : Tok) (l C dx : Addr) : Meets (Builtin.«str.__eq__» ⟨[.str b u, .ref l], []⟩) (fun _ R s => s.heap.get? l = some { cls := .ref C, dict := some dx, data := .plain, slots := #[] } ∧ R (.ok (.ret .notImplemented)) s) :=
  .of_wp fun prog w A R s h => by
    obtain ⟨hp, g, d, tk, os⟩ := s
    obtain ⟨hl, h⟩ := h
    wp_walk using AutoSeq1.wpAny_loadPart' hl, wpAny_load hl
    exact ⟨_, rfl, h⟩
theorem decl_int {b : Int} {u : Tok} {dx : Addr} (hy : s.heap.get? y = some (PySem.W.instObj C dx)) : Decl prog w A E s (.int b u) y :=
  wpAny_tryCompare_declines (typeIs_int s b u) F.slot_int_eq (call_meets F.slot_int_eq (typeIs_int s b u) F.entry_int_eq (F.args_int_eq_2 _ _) (int_meets b u y C dx) ⟨hy, rfl, rfl, rfl⟩)
theorem decl_str {b : Str} {u : Tok} {dx : Addr} (hy : s.heap.get? y = some (PySem.W.instObj C dx)) : Decl prog w A E s (.str b u) y :=
  wpAny_tryCompare_declines (typeIs_str s b u) F.slot_str_eq (call_meets F.slot_str_eq (typeIs_str s b u) F.entry_str_eq (F.args_str_eq_2 _ _) (str_meets b u y C dx) ⟨hy, rfl, rfl, rfl⟩)
theorem decl_list {l : Addr} {items : Array Value} (KX : K.In s.heap) (J : InstAt s.heap y oy C od) (su : PySem.W.subIn K (.ref C) (.type "list") = some false) (hl : s.heap.IsList l items) : Decl prog w A E s (.ref l) y := by
  obtain ⟨⟨cls, dd, data, sl⟩, ho, hc, n, hd⟩ := id hl
  simp only at hc hd
  subst hc hd
  refine wpAny_tryCompare_declines ⟨_, ho, rfl⟩ F.slot_list_eq (wpAny_call_entry F.slot_list_eq ⟨_, ho, rfl⟩ F.entry_list_eq ?_ (F.args_list_eq_2 _ _))
  have hi : Looks (model prog w) s.heap (isInstance (.ref y) (.type "list")) false := J.type.andThen (PySem.W.looks_subIn KX su)
  obtain ⟨hp, g, d, tk, os⟩ := s
  wp_walk using AutoSeq1.wpAny_loadPart' ho, hi.here
  exact ⟨_, rfl, rfl, rfl, rfl⟩
theorem decl_tuple {l : Addr} {items : Array Value} (KX : K.In s.heap) (J : InstAt s.heap y oy C od) (su : PySem.W.subIn K (.ref C) (.type "tuple") = some false) (hl : s.heap.IsTuple l items) : Decl prog w A E s (.ref l) y := by
  obtain ⟨⟨cls, dd, data, sl⟩, ho, hc, n, hd⟩ := id hl
  simp only at hc hd
  subst hc hd
  refine wpAny_tryCompare_declines ⟨_, ho, rfl⟩ F.slot_tuple_eq (wpAny_call_entry F.slot_tuple_eq ⟨_, ho, rfl⟩ F.entry_tuple_eq ?_ (F.args_tuple_eq_2 _ _))
  have hi : Looks (model prog w) s.heap (isInstance (.ref y) (.type "tuple")) false := J.type.andThen (PySem.W.looks_subIn KX su)
  obtain ⟨hp, g, d, tk, os⟩ := s
  wp_walk using AutoSeq1.wpAny_loadPart' ho, hi.here
  exact ⟨_, rfl, rfl, rfl, rfl⟩
end
/-- a value on the left whose own == has no answer for instances -/
inductive LftT (K : Frag) (H : Hp) : V → String → Prop
  | non : LftT K H .non "NoneType"
  | int (i : Int) : LftT K H (.int i) "int"
  | str (x : Str) : LftT K H (.str x) "str"
  | lst {p : Addr} {xs : List V} (h : SqL K H p xs) : LftT K H (.ref p) "list"
  | tup {p : Addr} {xs : List V} (h : SqT K H p xs) : LftT K H (.ref p) "tuple"
/-- x == y, y an instance whose def at g is asked for it -/
def rEqR (K : Frag) (C : Addr) (sp : Sp) (E : XK) : R2 := fun x y H Q => ∃ (a dx : Addr) (fs : List (Str × V)) (T : String), y = .ref a ∧ H a = some (.ins C dx fs) ∧ LftT K H x T ∧ PySem.W.subIn K (.ref C) (.type T) = some false ∧ sp [y, x] H Q E
section
variable {X : Cx} {CX : CXT} {C g : Addr} {n k j : Nat} {sp : Sp} {E : XK}
theorem op_eqR (hs : findIn X.K (.ref C) "__eq__" = some (some (.ref g))) (hf : PySem.W.isFn X.K (.ref g) = true) (F : FnR X.prog X.w X.K X.mg X.base CX n g sp) (hr : Room n X.A) (hx : Passes CX X E) : OpR X (compareOp .Eq) (rEqR X.K C sp E) := by
  intro pins s σ H x y v u Q I rx ry h
  obtain ⟨a, dx, fs, T, rfl, ha, lt, su, q⟩ := h
  cases (show u = Value.ref a from ry)
  obtain ⟨mA, O, _⟩ := ins_get I.hok ha
  have ho := O.obj
  obtain ⟨od, J, _⟩ := O.look
  have fin : wpAny (model X.prog X.w) X.A (call (.ref g) [.ref a, v]) (PySem.W.CmpBack (EP X pins σ Q)) X.xe s := wpAny_mono (wpAny_call (run_fnR (us := [.ref a, v]) (vs := [.ref a, x]) F hr hx I (.cons rfl (.cons rx .nil)) q)) (fun r s' z => by
    obtain ⟨z', H', I', rz, qz⟩ := z
    exact SlX.cmpback rz ⟨z', H', I', rz, qz⟩) fun _ _ e => e
  show wpAny _ _ (richCompare .Eq v (.ref a)) _ _ _
  cases lt with
  | non =>
    cases (show v = Value.none from rx)
    exact eq_right hr.units0 I.kIn J rfl decl_none su hs hf fin
  | int i =>
    obtain ⟨t, rfl⟩ := (show ∃ t, v = Value.int i t from rx)
    exact eq_right hr.units0 I.kIn J (typeIs_int s i t) (decl_int ho) su hs hf fin
  | str i =>
    obtain ⟨t, rfl⟩ := (show ∃ t, v = Value.str i t from rx)
    exact eq_right hr.units0 I.kIn J (typeIs_str s i t) (decl_str ho) su hs hf fin
  | lst h =>
    cases (show v = Value.ref _ from rx)
    obtain ⟨its, rv, pl, hz⟩ := I.list h
    obtain ⟨o1, ho1, hc1, _⟩ := id pl.isList
    exact eq_right hr.units0 I.kIn J ⟨o1, ho1, hc1⟩ (decl_list I.kIn J su pl.isList) su hs hf fin
  | tup h =>
    cases (show v = Value.ref _ from rx)
    obtain ⟨its, rv, pl, hz⟩ := I.tuple h
    obtain ⟨o1, ho1, hc1, _⟩ := id pl
    exact eq_right hr.units0 I.kIn J ⟨o1, ho1, hc1⟩ (decl_tuple I.kIn J su pl) su hs hf fin
theorem op_eqRS (c : CalS X.prog X.w X.K X.mg X.base k C "__eq__" sp) (hr : Room j X.A) (hk : k ≤ j) : OpR X (compareOp .Eq) (rEqR X.K C sp E0) := by
  obtain ⟨f, F, h1, h2⟩ := c
  exact op_eqR h1 h2 F (hr.mono hk) pass0
theorem op_or {f : Value → Value → Sem Value} {r1 r2 : R2} (h1 : OpR X f r1) (h2 : OpR X f r2) : OpR X f (fun x y H Q => r1 x y H Q ∨ r2 x y H Q) := by
  intro pins s σ H x y v u Q I rx ry h
  rcases h with h | h
  · exact h1 pins s σ H x y v u Q I rx ry h
  · exact h2 pins s σ H x y v u Q I rx ry h
end
end UL
/-! ### C(), a class without an __init__ of its own -/
namespace UL
open PySem PySem.Spec PyProof.Rows L2
theorem make_map0 {prog : Program} {w : World} {A : Around} {K : PySem.W.Frag} {C : Addr} {s : Shared} {R : Result → Shared → Prop} (KX : K.In s.heap) (hm : PySem.W.makesIn K C = true) (hi : PySem.W.findIn K (.ref C) "__init__" = some (some (.builtin "object.__init__")))
    (h : R (.ok (.ret (.ref (s.heap.objs.size + 1)))) { s with heap := (s.heap.push PySem.W.emptyDict).push (PySem.W.instObj C s.heap.objs.size) }) : codeAny (model prog w) A (.call (.ref C) ⟨[], []⟩) R s := by
  obtain ⟨hh, g, d, t, os⟩ := s
  have Y := PySem.W.makes_of (M := model prog w) KX hm
  have hx : ((hh.push PySem.W.emptyDict).push (PySem.W.instObj C hh.objs.size)).get? (hh.objs.size + 1) = some (PySem.W.instObj C hh.objs.size) := by
    have z := Heap.get?_push_size (hh.push PySem.W.emptyDict) (o := PySem.W.instObj C hh.objs.size) rfl
    rwa [Heap.size_push] at z
  refine PySem.W.make_core Y (PySem.W.looks_findIn KX hi) (fun self => PySem.W.Looks.of_pure (PySem.W.oi_bind self)) (.inr ⟨rfl, rfl⟩) ?_
  have t1 : PySem.W.Looks (model prog w) ((hh.push PySem.W.emptyDict).push (PySem.W.instObj C hh.objs.size)) (typeOf (.ref (hh.objs.size + 1))) (.ref C) := (PySem.W.Looks.ld hx).andThen .now
  have t2 : PySem.W.Looks (model prog w) ((hh.push PySem.W.emptyDict).push (PySem.W.instObj C hh.objs.size)) (isInstance (.ref (hh.objs.size + 1)) (.type "object")) true := t1.andThen (Y.top.keeps fun b o e => Heap.get?_push_of_some (PySem.W.instObj C hh.objs.size) (Heap.get?_push_of_some PySem.W.emptyDict e))
  refine codeAny_call_builtin PySem.W.oi_plain PySem.W.entry_oi (@PySem.W.check_slot (model prog w) _ _ _ "object.__init__" "object" "__init__" (.ref (hh.objs.size + 1)) [] [] _ PySem.W.oi_kind PySem.W.oi_split t2 (PySem.W.oi_args (.ref (hh.objs.size + 1))) ?_)
  rw [PySem.W.oi_run]
  exact wpAny_pure (And.intro rfl h)
/-- a class that makes instances without an __init__ of its own -/
structure Mk0 (K : PySem.W.Frag) (C : Addr) : Prop where
  makes : PySem.W.makesIn K C = true
  init : PySem.W.findIn K (.ref C) "__init__" = some (some (.builtin "object.__init__"))
  kp : PySem.W.keepIn K (.ref C) = true
def tMake0 (C : Addr) : TE := fun _ H Q => ∀ x dx, H x = none → H dx = none → dx ≠ x → Q (.ref x) (upd (upd H dx (.own x)) x (.ins C dx []))
theorem pe_mk0 {X : Cx} {x : Str} {C : Addr} {p pos : Pos} (M : Mk0 X.K C) (hm : X.mg x = some (.ref C)) (hg : Gl X x) (hdb : (x == ("__debug__" : Str)) = false := by decide) : PE X (.Call (.Name x p) [] [] pos) (tMake0 C) := by
  constructor
  intro pins s σ H Q I h
  refine wpAny_Call_Name_kw (ld_glob I hg hm ?_ hdb)
  have q := h (s.heap.objs.size + 1) s.heap.objs.size (I.hok.fresh (Nat.le_succ _)) (I.hok.fresh (Nat.le_refl _)) (Nat.ne_of_lt (Nat.lt_succ_self _))
  exact PySem.W.callWith_K0 I.kIn M.kp (wpAny_call (make_map0 I.kIn M.makes M.init ⟨.ref (s.heap.objs.size + 1), _, Inv.made (C := C) I, rfl, q⟩))
end UL
/-! ### statements one by one: the rest of a body stays out of the goal -/
namespace UL
open PySem PySem.Spec PyProof.Rows L2
theorem seq_cut {a u : TS} {D : Ends} {σ : L2.St} {H : Hp} (P : L2.St → Hp → Prop) (rest : ∀ σ' H', P σ' H' → u D σ' H') (h : ∀ Nx : L2.St → Hp → Prop, (∀ σ' H', P σ' H' → Nx σ' H') → a { D with nx := Nx } σ H) : tSeq a u D σ H := h _ rest
end UL
namespace UL
open PySem PySem.Spec PyProof.Rows L2
theorem ip_of {X : Cx} {op : Operator} {r : R2} (h : OpR X (inplaceOp op) r) : PIp X op r := fun pins s σ H x y v u Q I r1 r2 h' => h pins s σ H x y v u Q I r1 r2 h'
end UL
namespace UL
open PySem PySem.Spec PyProof.Rows L2
/-- o.m(e, ..), o a tuple of the text -/
def tBMK (K : PySem.W.Frag) (r : V → List V → Hp → VK → Prop) (to : TE) (t : TA) : TE := fun σ H Q => to σ H fun x H1 => (∃ (p : Addr) (it : Array Value) (n : Nat) (sl : Array (Option Value)), x = .ref p ∧ K.lookup p = some ⟨.type "tuple", none, .seq it n, sl⟩) ∧ t σ H1 fun xs H2 => r x xs H2 Q
theorem pe_bmK {X : Cx} {o e : Expr} {es : List Expr} {to : TE} {t : TA} {name : Str} {apos cpos : Pos} {id : String} {r : V → List V → Hp → VK → Prop}
    (pa : PlainAttrs "tuple") (slot : Slot "tuple" name id) (hty : typeOf (.builtin id) = pure (.type "method_descriptor")) (hm : MtR X id r) (ho : PE X o to) (ha : PA X (e :: es) t)
    (hbase : attributeBase o name X.env (eval o X.env) = eval o X.env := by rfl)
    (hfew : ((backTo cpos (starEach (e :: es) X.env)).all (fun x => !x.1) && (backToKw cpos (keywordEach [] X.env)).all (fun x => x.1.isSome)
      && decide ((e :: es).length + ([] : List Keyword).length + (if ([] : List Keyword).isEmpty then 0 else 1) < 30)) = true := by rfl)
    (hline : (apos.endLine == cpos.line) = true := by rfl) (hs : starEach (e :: es) X.env = (false, eval e X.env) :: starEach es X.env := by rfl) (hplain : (backTo cpos (starEach es X.env)).any (·.1) = false := by rfl) :
    PE X (.Call (.Attribute o name apos) (e :: es) [] cpos) (tBMK X.K r to t) := by
  refine ⟨fun pins s σ H Q I h => ?_⟩
  refine wpAny_Call_method_late hbase hfew hline rfl (thn (ho.run pins s σ H _ I h) fun v s1 ⟨x, H1, I1, r1, ⟨p, it, n, sl, ex, hp⟩, q1⟩ => ?_)
  subst ex
  cases (show v = Value.ref p from r1)
  have hg := I1.kIn _ _ hp
  refine ⟨"tuple", id, pa, slot, hty, ⟨_, hg, rfl⟩, fun a e => (by cases e; exact ⟨_, hg, rfl⟩), ?_⟩
  have hA := ha.run cpos pins s1 σ H1 _ I1 q1
  rw [hs] at hA ⊢
  refine Calls.callWith_builtin (by show (false || (backTo cpos (starEach es X.env)).any (·.1)) = false; rw [hplain] <;> rfl) (Calls.evalArgs_plain ?_)
  exact thn hA fun us s2 ⟨vs, H2, I2, r2, q2⟩ => hm pins s2 σ H2 (.ref p) vs (.ref p) us Q I2 rfl r2 q2
end UL
set_option Elab.async false
set_option linter.all false
set_option maxRecDepth 100000
set_option maxHeartbeats 4000000

local macro_rules | `(tactic| walk_at "look") => `(tactic| first
  | assumption
  | exact L2.upd_same
  | (with_reducible apply UL.new_look (by assumption)
     walk_at "look")
  | (with_reducible apply UL.Same.look (by assumption)
     walk_at "look")
  | (with_reducible apply UL.Stay.lookT (by assumption) (by walk_at "pot")
     walk_at "look")
  | (with_reducible apply UL.Stay.lookI (by assumption) (by walk_at "pot")
     walk_at "look")
  | (with_reducible apply UL.Stay.lookN (by assumption)
     · walk_at "ne"
     walk_at "look")
  | (with_reducible apply UL.over_look
     · walk_at "ne"
     walk_at "look")
  | (with_reducible apply UL.over_look2
     · walk_at "look"
     · walk_at "look"
     · intro z_; cases z_)
  | fail)
local macro_rules | `(tactic| walk_at "ne") => `(tactic| first
  | assumption
  | (refine Ne.symm ?_; assumption)
  | exact UL.ne_pot (by assumption) (by walk_at "pot")
  | exact Ne.symm (UL.ne_pot (by assumption) (by walk_at "pot"))
  | exact UL.ne_new (by assumption) (by walk_at "look")
  | exact Ne.symm (UL.ne_new (by assumption) (by walk_at "look"))
  | fail)
local macro_rules | `(tactic| walk_at "pot") => `(tactic| first
  | assumption
  | (with_reducible refine UL.Pot.same (H := _) ?_ (UL.same_new (by assumption)); walk_at "pot")
  | (with_reducible refine UL.Pot.same (H := _) ?_ (by assumption); walk_at "pot")
  | fail)
local macro_rules | `(tactic| walk_at "same") => `(tactic| first
  | assumption
  | exact L2.Same.refl _
  | exact UL.same_new (by assumption)
  | (with_reducible refine L2.Same.trans ?_ (UL.same_new (by assumption)); walk_at "same")
  | (with_reducible refine L2.Same.trans ?_ (by assumption); walk_at "same")
  | fail)
local macro_rules | `(tactic| walk_at "stay") => `(tactic| first
  | assumption
  | exact UL.Stay.refl _ _
  | exact UL.stay_upd
  | exact UL.Same.stay (by walk_at "same") _
  | (with_reducible refine UL.Stay.trans ?_ (UL.Same.stay (UL.same_new (by assumption)) _); walk_at "stay")
  | (with_reducible refine UL.Stay.trans ?_ (UL.Same.stay (by assumption) _); walk_at "stay")
  | (with_reducible refine UL.Stay.trans ?_ (by assumption); walk_at "stay")
  | (with_reducible refine UL.Stay.trans ?_ UL.stay_upd; walk_at "stay")
  | fail)
local macro_rules | `(tactic| walk_at "side") => `(tactic| first
  | ((with_reducible show (_ : Int) < _); omega)
  | assumption
  | rfl
  | ((with_reducible show _ ≠ _); walk_at "ne")
  | ((with_reducible show ∃ _, _ = _); exact ⟨_, rfl⟩)
  | ((with_reducible show L2.SqL _ _ _ _); exact L2.SqL.of (by walk_at "look"))
  | ((with_reducible show L2.SqT _ _ _ _); exact L2.SqT.of (by walk_at "look"))
  | ((with_reducible show _ = some _); walk_at "look")
  | ((with_reducible show L2.atI _ _ = _); first | exact L2.atI_nat rfl | exact L2.atI_nat (j := 0) rfl | exact L2.atI_nat (j := 1) rfl | exact L2.atI_nat (j := 2) rfl | exact L2.atI_nat (j := 3) rfl | exact L2.atI_nat (j := 4) rfl | fail)
  | ((with_reducible show UL.Pot _ _); walk_at "pot")
  | ((with_reducible show L2.Same _ _); walk_at "same")
  | ((with_reducible show UL.Stay _ _ _); walk_at "stay")
  | ((with_reducible show L2.CMul _ _); unfold L2.CMul; omega)
  | ((with_reducible show L2.CDiv _ _); unfold L2.CDiv; omega)
  | ((with_reducible show _ < 1000); exact of_decide_eq_true rfl)
  | ((with_reducible show _ ≤ PySem.sizeLine); refine UL.line_ge ?_; first | (simp; done) | (simp; omega) | fail)
  | ((with_reducible show _ < PySem.sizeLine); refine UL.line_gt ?_; first | (simp; done) | (simp; omega) | fail)
  | ((with_reducible show _ < List.length _); first | (simp; done) | (simp; omega) | fail)
  | ((with_reducible show List.length _ < _); first | (simp; done) | (simp; omega) | fail)
  | ((with_reducible show List.all _ _ = true); first | exact UL.flat_strs _ | exact UL.flat_ints _ | (simp [L2.flatV]; done) | fail)
  | (intro z_; cases z_; done)
  | walk_at "txt"
  | ((with_reducible show L2.tyV _ _ _ _); apply UL.ty_lst; walk_at "look")
  | exact L2.ClsV.own _
  | exact L2.ClsV.ty _
  | ((with_reducible show L2.TyX _ _ _ _); first | exact L2.TyX.base (L2.TyOf.int _) | exact L2.TyX.base (L2.TyOf.str _))
  | ((with_reducible show PySem.W.kitOne _ _ _ = _); first | exact UL.kit_own | exact L2.kit_ty (by decide +kernel) | fail)
  | omega
  | decide
  | ((with_reducible show _ ∨ _); first | exact Or.inl (by walk_at "side") | exact Or.inr (by walk_at "side"))
  | ((with_reducible show _ ∧ _); exact And.intro (by walk_at "side") (by walk_at "side"))
  | fail)
local macro_rules | `(tactic| walk_at "st4") => `(tactic| first
  | (apply And.intro; · walk_at "side"
     walk_at "st3")
  | fail)
local macro_rules | `(tactic| walk_at "st3") => `(tactic| first
  | (apply And.intro; · walk_at "side"
     walk_at "st3")
  | (apply Or.inl; walk_at "st4")
  | (apply Or.inr; walk_at "st4")
  | skip)
local macro_rules | `(tactic| walk_at "st2") => `(tactic| first
  | (apply Exists.intro; walk_at "st2")
  | (apply And.intro; · walk_at "side"
     walk_at "st3")
  | fail)
local macro_rules | `(tactic| walk_at "cond") => `(tactic| first
  | rfl
  | assumption
  | (rw [Bool.not_eq_false']; assumption)
  | (rw [Bool.not_eq_true']; assumption)
  | (simp only [decide_eq_false_iff_not, decide_eq_true_iff, L2.V.int.injEq, Bool.not_eq_false', Bool.not_eq_true']; omega)
  | (simp; done)
  | (simp; omega)
  | (simp [*]; done)
  | (simp [*]; omega)
  | fail)
local macro_rules | `(tactic| walk_at "st") => `(tactic| first
  | (apply Exists.intro; walk_at "st2"; all_goals (change (_ : Prop)))
  | (refine L2.iteT ?_)
  | (refine L2.iteF ?_)
  | (apply And.intro; · walk_at "side"
     walk_at "st3"; all_goals (change (_ : Prop)))
  | (intro _ _; change (_ : Prop))
  | (intro _; change (_ : Prop))
  | (refine UL.iteFo' ?hc_ ?_; · walk_at "cond")
  | (refine UL.iteTo' ?hc_ ?_; · walk_at "cond")
  | (apply Or.inl; walk_at "st")
  | (apply Or.inr; walk_at "st")
  | fail)
local macro_rules | `(tactic| walk_at "go") => `(tactic| repeat walk_at "st")
local macro_rules | `(tactic| walk_at "unk") => `(tactic| first
  | (simp only [UL.blk_K, UL.nox_K, UL.cxOf_K]; done)
  | (simp only [UL.blk_K, UL.nox_K, UL.cxOf_K]; rfl)
  | rfl
  | fail)
local macro_rules | `(tactic| walk_at "side") => `(tactic| ((with_reducible show _ ≤ PySem.sizeLine); refine UL.line_ge ?_; omega))
local macro_rules | `(tactic| walk_at "side") => `(tactic| ((with_reducible show _ < PySem.sizeLine); refine UL.line_gt ?_; omega))
local macro_rules | `(tactic| walk_at "side") => `(tactic| first
  | ((with_reducible show L2.SqT _ _ _ _); exact UL.SqT.frz (by walk_at "look"))
  | ((with_reducible show UL.TupO _); assumption)
  | fail)

namespace K11
open PySem L2 UL ClX
def top (i : Nat) : Stmt := PySem.Challenge.pw_unlikecalls_k11_whole_places_by_bytes.main.body.getD i (.Pass ⟨0, 0, 0, 0⟩)
structure Bi (mg : Str → Option Value) : Prop where
  ValueError : mg "ValueError" = none
  abs : mg "abs" = none
  all : mg "all" = none
  bool : mg "bool" = none
  divmod : mg "divmod" = none
  enumerate : mg "enumerate" = none
  int : mg "int" = none
  isinstance : mg "isinstance" = none
  len : mg "len" = none
  list : mg "list" = none
  max : mg "max" = none
  min : mg "min" = none
  property : mg "property" = none
  range : mg "range" = none
  repr : mg "repr" = none
  str : mg "str" = none
structure Ad where
  c_CallError : Addr
  c_InvalidNumber : Addr
  c_InvalidPlace : Addr
  c_Place : Addr
  c_Register : Addr
  c_Slots : Addr
  c_Next : Addr
  a_GROUPS : Addr
  a_ALIGNMENTS : Addr
structure Txt (K : PySem.W.Frag) (mg : Str → Option Value) (ad : Ad) : Prop where
  bi : Bi mg
  v_GROUPS : mg "GROUPS" = some (.ref ad.a_GROUPS)
  t_GROUPS : ∀ H : Hp, SqT K H ad.a_GROUPS [.str "whole", .str "float"]
  v_LAST_NUMBER : ∃ u, mg "LAST_NUMBER" = some u ∧ RelV (.int 7) u
  v_GROUP_STRIDE : ∃ u, mg "GROUP_STRIDE" = some u ∧ RelV (.int 8) u
  v_REGISTER_BITS : ∃ u, mg "REGISTER_BITS" = some u ∧ RelV (.int 64) u
  v_ALIGNMENTS : mg "ALIGNMENTS" = some (.ref ad.a_ALIGNMENTS)
  t_ALIGNMENTS : ∀ H : Hp, SqT K H ad.a_ALIGNMENTS [.int 1, .int 2, .int 4, .int 8, .int 16]
  v_MOST_BYTES : ∃ u, mg "MOST_BYTES" = some u ∧ RelV (.int 16) u
  g_Place : mg "Place" = some (.ref ad.c_Place)
  i_Place : CIsi K ad.c_Place
  no_Place : NoOp K ad.c_Place "add"
  k_Place : ∀ T ∈ (["NoneType", "tuple", "str", "int", "list", "bool", "dict"] : List String), PySem.W.kitOne K (.type T) (.ref ad.c_Place) = some false ∧ PySem.W.notFirst K ad.c_Place (.type T) = true
  g_Register : mg "Register" = some (.ref ad.c_Register)
  i_Register : CIsi K ad.c_Register
  ne_Register : PySem.W.findIn K (.ref ad.c_Register) "__ne__" = some (some (.builtin "object.__ne__"))
  n_Register_group : NoAttr K ad.c_Register "_group"
  n_Register_number : NoAttr K ad.c_Register "_number"
  n_Register_code : NoAttr K ad.c_Register "_code"
  k_Register : ∀ T ∈ (["NoneType", "tuple", "str", "int", "list", "bool", "dict"] : List String), PySem.W.kitOne K (.type T) (.ref ad.c_Register) = some false ∧ PySem.W.notFirst K ad.c_Register (.type T) = true
  g_Slots : mg "Slots" = some (.ref ad.c_Slots)
  i_Slots : CIsi K ad.c_Slots
  sf_Slots : PySem.W.selfFirst K ad.c_Slots = true
  os_Slots : OwnT K ad.c_Slots "str" "add"
  ki_Slots : ∀ T ∈ (["str", "int", "bool"] : List String), PySem.W.kitOne K (.ref ad.c_Slots) (.type T) = some false
  ne_Slots : PySem.W.findIn K (.ref ad.c_Slots) "__ne__" = some (some (.builtin "object.__ne__"))
  n_Slots_offset : NoAttr K ad.c_Slots "_offset"
  n_Slots_many : NoAttr K ad.c_Slots "_many"
  k_Slots : ∀ T ∈ (["NoneType", "tuple", "str", "int", "list", "bool", "dict"] : List String), PySem.W.kitOne K (.type T) (.ref ad.c_Slots) = some false ∧ PySem.W.notFirst K ad.c_Slots (.type T) = true
  g_Next : mg "Next" = some (.ref ad.c_Next)
  i_Next : CIsi K ad.c_Next
  ne_Next : PySem.W.findIn K (.ref ad.c_Next) "__ne__" = some (some (.builtin "object.__ne__"))
  n_Next_align : NoAttr K ad.c_Next "_align"
  n_Next_many : NoAttr K ad.c_Next "_many"
  k_Next : ∀ T ∈ (["NoneType", "tuple", "str", "int", "list", "bool", "dict"] : List String), PySem.W.kitOne K (.type T) (.ref ad.c_Next) = some false ∧ PySem.W.notFirst K ad.c_Next (.type T) = true
  z_Place : Mk0 K ad.c_Place
  oi_add_Slots : OwnT K ad.c_Slots "int" "add"
  ni_add_Slots : NoI K ad.c_Slots "add"
  oi_sub_Slots : OwnT K ad.c_Slots "int" "sub"
  ni_sub_Slots : NoI K ad.c_Slots "sub"
  ks_Register_Place : PySem.W.kitOne K (.ref ad.c_Register) (.ref ad.c_Place) = some true
  ks_Slots_Place : PySem.W.kitOne K (.ref ad.c_Slots) (.ref ad.c_Place) = some true
  ks_Next_Place : PySem.W.kitOne K (.ref ad.c_Next) (.ref ad.c_Place) = some true
  ks_Register_Slots : PySem.W.kitOne K (.ref ad.c_Register) (.ref ad.c_Slots) = some false
  nf_Register_Slots : PySem.W.notFirst K ad.c_Slots (.ref ad.c_Register) = true
  ks_Register_Next : PySem.W.kitOne K (.ref ad.c_Register) (.ref ad.c_Next) = some false
  nf_Register_Next : PySem.W.notFirst K ad.c_Next (.ref ad.c_Register) = true
  ks_Slots_Register : PySem.W.kitOne K (.ref ad.c_Slots) (.ref ad.c_Register) = some false
  nf_Slots_Register : PySem.W.notFirst K ad.c_Register (.ref ad.c_Slots) = true
  ks_Slots_Next : PySem.W.kitOne K (.ref ad.c_Slots) (.ref ad.c_Next) = some false
  nf_Slots_Next : PySem.W.notFirst K ad.c_Next (.ref ad.c_Slots) = true
  ks_Next_Register : PySem.W.kitOne K (.ref ad.c_Next) (.ref ad.c_Register) = some false
  nf_Next_Register : PySem.W.notFirst K ad.c_Register (.ref ad.c_Next) = true
  ks_Next_Slots : PySem.W.kitOne K (.ref ad.c_Next) (.ref ad.c_Slots) = some false
  nf_Next_Slots : PySem.W.notFirst K ad.c_Slots (.ref ad.c_Next) = true
  l_GROUPS : ∃ (it : Array Value) (n : Nat) (sl : Array (Option Value)), K.lookup ad.a_GROUPS = some ⟨.type "tuple", none, .seq it n, sl⟩
  sr_Register : ∀ T ∈ (["NoneType", "tuple", "str", "int", "list"] : List String), PySem.W.subIn K (.ref ad.c_Register) (.type T) = some false
  sr_Slots : ∀ T ∈ (["NoneType", "tuple", "str", "int", "list"] : List String), PySem.W.subIn K (.ref ad.c_Slots) (.type T) = some false
  sr_Next : ∀ T ∈ (["NoneType", "tuple", "str", "int", "list"] : List String), PySem.W.subIn K (.ref ad.c_Next) (.type T) = some false
local macro_rules | `(tactic| walk_at "txt") => `(tactic| first
  | ((with_reducible show PySem.W.kitOne _ (.ref _) (.ref _) = _); first | exact Txt.ks_Register_Place (by assumption) | exact Txt.ks_Slots_Place (by assumption) | exact Txt.ks_Next_Place (by assumption) | exact Txt.ks_Register_Slots (by assumption) | exact Txt.ks_Register_Next (by assumption) | exact Txt.ks_Slots_Register (by assumption) | exact Txt.ks_Slots_Next (by assumption) | exact Txt.ks_Next_Register (by assumption) | exact Txt.ks_Next_Slots (by assumption))
  | ((with_reducible show PySem.W.notFirst _ _ (.ref _) = _); first | exact Txt.nf_Register_Slots (by assumption) | exact Txt.nf_Register_Next (by assumption) | exact Txt.nf_Slots_Register (by assumption) | exact Txt.nf_Slots_Next (by assumption) | exact Txt.nf_Next_Register (by assumption) | exact Txt.nf_Next_Slots (by assumption))
  | ((with_reducible show L2.SqT _ _ _ _); first | exact Txt.t_GROUPS (by assumption) _ | exact Txt.t_ALIGNMENTS (by assumption) _)
  | ((with_reducible show L2.Cls _ _); first | exact UL.CIsi.cl (Txt.i_Place (by assumption)) | exact UL.CIsi.cl (Txt.i_Register (by assumption)) | exact UL.CIsi.cl (Txt.i_Slots (by assumption)) | exact UL.CIsi.cl (Txt.i_Next (by assumption)))
  | ((with_reducible show UL.CIsi _ _); first | exact Txt.i_Place (by assumption) | exact Txt.i_Register (by assumption) | exact Txt.i_Slots (by assumption) | exact Txt.i_Next (by assumption))
  | ((with_reducible show L2.NoAttr _ _ _); first | exact Txt.n_Register_group (by assumption) | exact Txt.n_Register_number (by assumption) | exact Txt.n_Register_code (by assumption) | exact Txt.n_Slots_offset (by assumption) | exact Txt.n_Slots_many (by assumption) | exact Txt.n_Next_align (by assumption) | exact Txt.n_Next_many (by assumption))
  | ((with_reducible show L2.TyX _ _ _ _); first | exact UL.CIsi.ty (Txt.i_Place (by assumption)) (by walk_at "look") | exact UL.CIsi.ty (Txt.i_Register (by assumption)) (by walk_at "look") | exact UL.CIsi.ty (Txt.i_Slots (by assumption)) (by walk_at "look") | exact UL.CIsi.ty (Txt.i_Next (by assumption)) (by walk_at "look"))
  | ((with_reducible show PySem.W.kitOne _ (.type _) (.ref _) = _); first | exact ((Txt.k_Place (by assumption)) _ (by simp)).1 | exact ((Txt.k_Register (by assumption)) _ (by simp)).1 | exact ((Txt.k_Slots (by assumption)) _ (by simp)).1 | exact ((Txt.k_Next (by assumption)) _ (by simp)).1)
  | ((with_reducible show _ = PySem.Value.ref _ ∨ _); first | exact .inl rfl | exact .inr ⟨_, rfl, Txt.no_Place (by assumption)⟩)
  | fail)
theorem same_over {H H1 : Hp} {L : Addr} {o : HO} (s : L2.Same H H1) (hL : H L = none) : L2.Same H (upd H1 L o) := fun b u e => by
  rw [upd_ne (ne_of_none e hL)]
  exact s b u e
def inS (xs : List V) : PyData → Bool
  | .str x => inV (.str x) xs
  | _ => false
def cntD : PyData → Bool
  | .int i => decide (0 ≤ i)
  | _ => false
def betD (lo hi : Int) : PyData → Bool
  | .int i => decide (lo ≤ i) && decide (i ≤ hi)
  | _ => false
/-- an instance of an own class: it is neither a text nor a number -/
def Inst (K : PySem.W.Frag) (H : Hp) (v : V) : Prop := ∃ C, TyX K H v (.ref C) ∧ ∀ T ∈ (["str", "int", "bool"] : List String), PySem.W.kitOne K (.ref C) (.type T) = some false
/-- a value of any kind -/
def Any (K : PySem.W.Frag) (H : Hp) (v : V) (d : PyData) : Prop := Vd K H v d ∨ (Inst K H v ∧ d = .none)
theorem Any.str {K : PySem.W.Frag} {H : Hp} {v : V} {d : PyData} (h : Any K H v d) : ∃ t, TyX K H v t ∧ PySem.W.kitOne K t (.type "str") = some (isS d) := by
  rcases h with h | ⟨⟨C, ty, q⟩, rfl⟩
  · exact ⟨_, h.ty, kit_str d⟩
  · exact ⟨_, ty, q "str" (by simp)⟩
theorem Any.int {K : PySem.W.Frag} {H : Hp} {v : V} {d : PyData} (h : Any K H v d) : ∃ t, TyX K H v t ∧ PySem.W.kitOne K t (.type "int") = some (isI d || isB d) ∧ PySem.W.kitOne K t (.type "bool") = some (isB d) := by
  rcases h with h | ⟨⟨C, ty, q⟩, rfl⟩
  · exact ⟨_, h.ty, kit_int d, kit_bool d⟩
  · exact ⟨_, ty, q "int" (by simp), q "bool" (by simp)⟩
theorem Any.isI {K : PySem.W.Frag} {H : Hp} {v : V} {d : PyData} (h : Any K H v d) (e : isI d = true) : ∃ i, v = .int i ∧ d = .int i := by
  rcases h with h | ⟨_, rfl⟩
  · exact isI_at h e
  · cases e
theorem Any.isS {K : PySem.W.Frag} {H : Hp} {v : V} {d : PyData} (h : Any K H v d) (e : isS d = true) : ∃ x, v = .str x ∧ d = .str x := by
  rcases h with h | ⟨_, rfl⟩
  · exact isS_at h e
  · cases e
section
variable {P : Program} {w : World} {K : PySem.W.Frag} {mg : Str → Option Value} {base : Heap} {ad : Ad}
def spIsInt : Sp := fun vs H Q _ => ∃ i : Int, vs = [.int i] ∧ Q (.bl true) H
def spCount (K : PySem.W.Frag) : Sp := fun vs H Q _ => ∃ (v : V) (d : PyData), vs = [v] ∧ Any K H v d ∧ Q (.bl (cntD d)) H
def spBetw (K : PySem.W.Frag) : Sp := fun vs H Q _ => ∃ (v : V) (d : PyData) (lo hi : Int), vs = [v, .int lo, .int hi] ∧ Any K H v d ∧ Q (.bl (betD lo hi d)) H
def spOneOf (K : PySem.W.Frag) : Sp := fun vs H Q _ => ∃ (i : Int) (a : Addr) (xs : List V), vs = [.int i, .ref a] ∧ SqT K H a xs ∧ xs.all flatV = true ∧ Q (.bl (inV (.int i) xs)) H
def spWordOf (K : PySem.W.Frag) : Sp := fun vs H Q _ => ∃ (v : V) (d : PyData) (a : Addr) (xs : List V), vs = [v, .ref a] ∧ Any K H v d ∧ SqT K H a xs ∧ xs.all flatV = true ∧ Q (.bl (inS xs d)) H
abbrev st_is_integer : Stmt := top 2
theorem sc_is_integer : FnScope ["value"] ["value"] (defScope st_is_integer) := ⟨rfl, rfl, rfl, by decide +kernel, rfl, by decide +kernel, by decide +kernel⟩
theorem ok_is_integer {f : Addr} {fd : FuncData} (F : Fun K "is_integer" "is_integer" st_is_integer f fd) (T : Txt K mg ad)  :
    FnOk P w K mg base CX0 1 f fd ["value"] spIsInt := by
  refine F.ok sc_is_integer (fun vs H Q E h => ?_) (fun cdv A outer s H vs Q E hr h => ?_)
  · obtain (⟨i, rfl, k⟩) := h
    rfl
  · obtain (⟨i, rfl, k⟩) := h
    refine ⟨_, pss_one (ps_ret (pe_and (pe_callB call_isi (by rfl) T.bi.isinstance (by decide +kernel) (pa_cons (pv 0) (pa_cons (pe_bltn (v := .ty "int") (by rfl) T.bi.int (by decide +kernel) rfl) pa_nil))) (pe_one (pe_not (pe_callB call_isi (by rfl) T.bi.isinstance (by decide +kernel) (pa_cons (pv 0) (pa_cons (pe_bltn (v := .ty "bool") (by rfl) T.bi.bool (by decide +kernel) rfl) pa_nil))))))), ?_⟩
    refine ⟨_, rfl, _, _, _, _, true, rfl, .ty "int", .base (.int i), kit_ty (by decide +kernel), _, rfl, iteT ?_⟩
    exact ⟨_, rfl, _, _, _, _, false, rfl, .ty "bool", .base (.int i), kit_ty (by decide +kernel), _, rfl, k⟩
abbrev st_is_count : Stmt := top 3
theorem sc_is_count : FnScope ["value"] ["value"] (defScope st_is_count) := ⟨rfl, rfl, rfl, by decide +kernel, rfl, by decide +kernel, by decide +kernel⟩
theorem ok_is_count {f : Addr} {fd : FuncData} (F : Fun K "is_count" "is_count" st_is_count f fd) (T : Txt K mg ad)  :
    FnOk P w K mg base CX0 1 f fd ["value"] (spCount K) := by
  refine F.ok sc_is_count (fun vs H Q E h => ?_) (fun cdv A outer s H vs Q E hr h => ?_)
  · obtain (⟨v, d, rfl, hv, k⟩) := h
    rfl
  · obtain (⟨v, d, rfl, hv, k⟩) := h
    refine ⟨_, pss_one (ps_ret (pe_and (pe_callB call_isi (by rfl) T.bi.isinstance (by decide +kernel) (pa_cons (pv 0) (pa_cons (pe_bltn (v := .ty "int") (by rfl) T.bi.int (by decide +kernel) rfl) pa_nil))) (pe_and (pe_not (pe_callB call_isi (by rfl) T.bi.isinstance (by decide +kernel) (pa_cons (pv 0) (pa_cons (pe_bltn (v := .ty "bool") (by rfl) T.bi.bool (by decide +kernel) rfl) pa_nil)))) (pe_one (pe_cmpR op_ge (pv 0) pe_int (nomark _)))))), ?_⟩
    obtain ⟨tt, t, e1, e2⟩ := hv.int
    refine ⟨_, rfl, _, _, _, _, _, rfl, .ty "int", t, e1, _, rfl, ?_⟩
    cases h : (isI d || isB d) with
    | false =>
      have e : cntD d = false := by cases d <;> simp [isI, isB, cntD] at h ⊢
      rw [e] at k
      exact iteF k
    | true =>
      refine iteT ⟨_, rfl, _, _, _, _, _, rfl, .ty "bool", t, e2, _, rfl, _, rfl, ?_⟩
      cases hb : isB d with
      | true =>
        have e : cntD d = false := by cases d <;> simp [isB, cntD] at hb ⊢
        rw [e] at k
        exact iteF k
      | false =>
        have hi' : isI d = true := by cases d <;> simp [isI, isB] at h hb ⊢
        obtain ⟨i, rfl, rfl⟩ := hv.isI hi'
        have k : Q (.bl (decide (0 ≤ i))) H := k
        exact iteT ⟨_, rfl, _, _, rfl, rfl, k⟩
abbrev st_is_between : Stmt := top 4
theorem sc_is_between : FnScope ["value", "least", "most"] ["value", "least", "most"] (defScope st_is_between) := ⟨rfl, rfl, rfl, by decide +kernel, rfl, by decide +kernel, by decide +kernel⟩
theorem ok_is_between {f : Addr} {fd : FuncData} (F : Fun K "is_between" "is_between" st_is_between f fd) (T : Txt K mg ad)  :
    FnOk P w K mg base CX0 1 f fd ["value", "least", "most"] (spBetw K) := by
  refine F.ok sc_is_between (fun vs H Q E h => ?_) (fun cdv A outer s H vs Q E hr h => ?_)
  · obtain (⟨v, d, lo, hi, rfl, hv, k⟩) := h
    rfl
  · obtain (⟨v, d, lo, hi, rfl, hv, k⟩) := h
    refine ⟨_, pss_one (ps_ret (pe_and (pe_callB call_isi (by rfl) T.bi.isinstance (by decide +kernel) (pa_cons (pv 0) (pa_cons (pe_bltn (v := .ty "int") (by rfl) T.bi.int (by decide +kernel) rfl) pa_nil))) (pe_and (pe_not (pe_callB call_isi (by rfl) T.bi.isinstance (by decide +kernel) (pa_cons (pv 0) (pa_cons (pe_bltn (v := .ty "bool") (by rfl) T.bi.bool (by decide +kernel) rfl) pa_nil)))) (pe_one (pe_chain op_le op_le (pv 1) (pv 0) (pv 2)))))), ?_⟩
    obtain ⟨tt, t, e1, e2⟩ := hv.int
    refine ⟨_, rfl, _, _, _, _, _, rfl, .ty "int", t, e1, _, rfl, ?_⟩
    cases h : (isI d || isB d) with
    | false =>
      have e : betD lo hi d = false := by cases d <;> simp [isI, isB, betD] at h ⊢
      rw [e] at k
      exact iteF k
    | true =>
      refine iteT ⟨_, rfl, _, _, _, _, _, rfl, .ty "bool", t, e2, _, rfl, _, rfl, ?_⟩
      cases hb : isB d with
      | true =>
        have e : betD lo hi d = false := by cases d <;> simp [isB, betD] at hb ⊢
        rw [e] at k
        exact iteF k
      | false =>
        have hi' : isI d = true := by cases d <;> simp [isI, isB] at h hb ⊢
        obtain ⟨i, rfl, rfl⟩ := hv.isI hi'
        have k : Q (.bl (decide (lo ≤ i) && decide (i ≤ hi))) H := k
        refine iteT ⟨_, rfl, _, rfl, _, _, rfl, rfl, _, rfl, ?_⟩
        by_cases c : lo ≤ i
        · rw [decide_eq_true c] at k ⊢
          exact iteT ⟨_, rfl, _, _, rfl, rfl, k⟩
        · rw [decide_eq_false c] at k ⊢
          exact iteF k
abbrev st_is_one_of : Stmt := top 5
theorem sc_is_one_of : FnScope ["value", "numbers"] ["value", "numbers"] (defScope st_is_one_of) := ⟨rfl, rfl, rfl, by decide +kernel, rfl, by decide +kernel, by decide +kernel⟩
theorem ok_is_one_of {f : Addr} {fd : FuncData} (F : Fun K "is_one_of" "is_one_of" st_is_one_of f fd) (T : Txt K mg ad) (c_is_integer : Cal P w K mg base 1 "is_integer" spIsInt) :
    FnOk P w K mg base CX0 2 f fd ["value", "numbers"] (spOneOf K) := by
  refine F.ok sc_is_one_of (fun vs H Q E h => ?_) (fun cdv A outer s H vs Q E hr h => ?_)
  · obtain (⟨i, a, xs, rfl, hS, hf, k⟩) := h
    rfl
  · obtain (⟨i, a, xs, rfl, hS, hf, k⟩) := h
    refine ⟨_, pss_one (ps_ret (pe_and (pe_c c_is_integer hr (by decide) (by rfl) (pa_cons (pv 0) pa_nil)) (pe_one (pe_cmpR op_in_seq (pv 0) (pv 1) (by rfl))))), ?_⟩
    exact ⟨_, rfl, i, rfl, _, rfl, iteT ⟨_, rfl, _, rfl, a, xs, rfl, .inr hS, rfl, hf, k⟩⟩
abbrev st_is_word_of : Stmt := top 6
theorem sc_is_word_of : FnScope ["value", "words"] ["value", "words"] (defScope st_is_word_of) := ⟨rfl, rfl, rfl, by decide +kernel, rfl, by decide +kernel, by decide +kernel⟩
theorem ok_is_word_of {f : Addr} {fd : FuncData} (F : Fun K "is_word_of" "is_word_of" st_is_word_of f fd) (T : Txt K mg ad)  :
    FnOk P w K mg base CX0 1 f fd ["value", "words"] (spWordOf K) := by
  refine F.ok sc_is_word_of (fun vs H Q E h => ?_) (fun cdv A outer s H vs Q E hr h => ?_)
  · obtain (⟨v, d, a, xs, rfl, hv, hS, hf, k⟩) := h
    rfl
  · obtain (⟨v, d, a, xs, rfl, hv, hS, hf, k⟩) := h
    refine ⟨_, pss_one (ps_ret (pe_and (pe_callB call_isi (by rfl) T.bi.isinstance (by decide +kernel) (pa_cons (pv 0) (pa_cons (pe_bltn (v := .ty "str") (by rfl) T.bi.str (by decide +kernel) rfl) pa_nil))) (pe_one (pe_cmpR op_in_seq (pv 0) (pv 1) (by rfl))))), ?_⟩
    obtain ⟨tt, t, e1⟩ := hv.str
    refine ⟨_, rfl, _, _, _, _, _, rfl, .ty "str", t, e1, _, rfl, ?_⟩
    cases h : isS d with
    | false =>
      have e : inS xs d = false := by cases d <;> simp [isS, inS] at h ⊢
      rw [e] at k
      exact iteF k
    | true =>
      obtain ⟨x, rfl, rfl⟩ := hv.isS h
      exact iteT ⟨_, rfl, _, rfl, a, xs, rfl, .inr hS, rfl, hf, k⟩
end
end K11
set_option Elab.async false
set_option linter.all false
set_option maxRecDepth 100000
set_option maxHeartbeats 4000000


namespace K11
open PySem L2 UL ClX
local macro_rules | `(tactic| walk_at "txt") => `(tactic| first
  | ((with_reducible show PySem.W.kitOne _ (.ref _) (.ref _) = _); first | exact Txt.ks_Register_Place (by assumption) | exact Txt.ks_Slots_Place (by assumption) | exact Txt.ks_Next_Place (by assumption) | exact Txt.ks_Register_Slots (by assumption) | exact Txt.ks_Register_Next (by assumption) | exact Txt.ks_Slots_Register (by assumption) | exact Txt.ks_Slots_Next (by assumption) | exact Txt.ks_Next_Register (by assumption) | exact Txt.ks_Next_Slots (by assumption))
  | ((with_reducible show PySem.W.notFirst _ _ (.ref _) = _); first | exact Txt.nf_Register_Slots (by assumption) | exact Txt.nf_Register_Next (by assumption) | exact Txt.nf_Slots_Register (by assumption) | exact Txt.nf_Slots_Next (by assumption) | exact Txt.nf_Next_Register (by assumption) | exact Txt.nf_Next_Slots (by assumption))
  | ((with_reducible show L2.SqT _ _ _ _); first | exact Txt.t_GROUPS (by assumption) _ | exact Txt.t_ALIGNMENTS (by assumption) _)
  | ((with_reducible show L2.Cls _ _); first | exact UL.CIsi.cl (Txt.i_Place (by assumption)) | exact UL.CIsi.cl (Txt.i_Register (by assumption)) | exact UL.CIsi.cl (Txt.i_Slots (by assumption)) | exact UL.CIsi.cl (Txt.i_Next (by assumption)))
  | ((with_reducible show UL.CIsi _ _); first | exact Txt.i_Place (by assumption) | exact Txt.i_Register (by assumption) | exact Txt.i_Slots (by assumption) | exact Txt.i_Next (by assumption))
  | ((with_reducible show L2.NoAttr _ _ _); first | exact Txt.n_Register_group (by assumption) | exact Txt.n_Register_number (by assumption) | exact Txt.n_Register_code (by assumption) | exact Txt.n_Slots_offset (by assumption) | exact Txt.n_Slots_many (by assumption) | exact Txt.n_Next_align (by assumption) | exact Txt.n_Next_many (by assumption))
  | ((with_reducible show L2.TyX _ _ _ _); first | exact UL.CIsi.ty (Txt.i_Place (by assumption)) (by walk_at "look") | exact UL.CIsi.ty (Txt.i_Register (by assumption)) (by walk_at "look") | exact UL.CIsi.ty (Txt.i_Slots (by assumption)) (by walk_at "look") | exact UL.CIsi.ty (Txt.i_Next (by assumption)) (by walk_at "look"))
  | ((with_reducible show PySem.W.kitOne _ (.type _) (.ref _) = _); first | exact ((Txt.k_Place (by assumption)) _ (by simp)).1 | exact ((Txt.k_Register (by assumption)) _ (by simp)).1 | exact ((Txt.k_Slots (by assumption)) _ (by simp)).1 | exact ((Txt.k_Next (by assumption)) _ (by simp)).1)
  | ((with_reducible show _ = PySem.Value.ref _ ∨ _); first | exact .inl rfl | exact .inr ⟨_, rfl, Txt.no_Place (by assumption)⟩)
  | fail)
def rfs (g : Str) (n : Int) (p : Addr) : List (Str × V) := [("_group", .str g), ("_number", .int n), ("_code", .ref p)]
def sfs (o m : Int) : List (Str × V) := [("_offset", .int o), ("_many", .int m)]
def nfs (l m : Int) : List (Str × V) := [("_align", .int l), ("_many", .int m)]
def RegAt (ad : Ad) (H : Hp) (v : V) (g : Str) (n : Int) : Prop := ∃ a dx p, v = .ref a ∧ H a = some (.ins ad.c_Register dx (rfs g n p))
def SlAt (ad : Ad) (H : Hp) (v : V) (o m : Int) : Prop := ∃ a dx, v = .ref a ∧ H a = some (.ins ad.c_Slots dx (sfs o m))
def NxAt (ad : Ad) (H : Hp) (v : V) (l m : Int) : Prop := ∃ a dx, v = .ref a ∧ H a = some (.ins ad.c_Next dx (nfs l m))
theorem RegAt.keep {ad : Ad} {H H' : Hp} {v : V} {g : Str} {n : Int} (h : RegAt ad H v g n) (s : Keep H H') : RegAt ad H' v g n := by
  obtain ⟨a, dx, p, e, h1⟩ := h
  exact ⟨a, dx, p, e, s.ins h1⟩
theorem SlAt.keep {ad : Ad} {H H' : Hp} {v : V} {o m : Int} (h : SlAt ad H v o m) (s : Keep H H') : SlAt ad H' v o m := by
  obtain ⟨a, dx, e, h1⟩ := h
  exact ⟨a, dx, e, s.ins h1⟩
theorem NxAt.keep {ad : Ad} {H H' : Hp} {v : V} {l m : Int} (h : NxAt ad H v l m) (s : Keep H H') : NxAt ad H' v l m := by
  obtain ⟨a, dx, e, h1⟩ := h
  exact ⟨a, dx, e, s.ins h1⟩
theorem RegAt.same {ad : Ad} {H H' : Hp} {v : V} {g : Str} {n : Int} (h : RegAt ad H v g n) (s : L2.Same H H') : RegAt ad H' v g n := h.keep (UL.Same.keep s)
theorem SlAt.same {ad : Ad} {H H' : Hp} {v : V} {o m : Int} (h : SlAt ad H v o m) (s : L2.Same H H') : SlAt ad H' v o m := h.keep (UL.Same.keep s)
theorem NxAt.same {ad : Ad} {H H' : Hp} {v : V} {l m : Int} (h : NxAt ad H v l m) (s : L2.Same H H') : NxAt ad H' v l m := h.keep (UL.Same.keep s)
section
variable {P : Program} {w : World} {K : PySem.W.Frag} {mg : Str → Option Value} {base : Heap} {ad : Ad}
def gOk (g : Str) : Prop := g = "whole" ∨ g = "float"
def aOk (l : Int) : Prop := l = 1 ∨ l = 2 ∨ l = 4 ∨ l = 8 ∨ l = 16
@[irreducible] def spRegI (ad : Ad) : Sp := fun vs H Q _ => ∃ (x dx : Addr) (g : Str) (n : Int), vs = [.ref x, .str g, .int n] ∧ gOk g ∧ 0 ≤ n ∧ n ≤ 7 ∧ H x = some (.ins ad.c_Register dx []) ∧ ∀ (p : Addr) (H' : Hp), H' x = some (.ins ad.c_Register dx (rfs g n p)) → Stay x H H' → Q .non H'
@[irreducible] def spSlI (ad : Ad) : Sp := fun vs H Q _ => ∃ (x dx : Addr) (o m : Int), vs = [.ref x, .int o, .int m] ∧ 0 ≤ o ∧ 1 ≤ m ∧ m ≤ 16 ∧ H x = some (.ins ad.c_Slots dx []) ∧ ∀ (H' : Hp), H' x = some (.ins ad.c_Slots dx (sfs o m)) → Stay x H H' → Q .non H'
@[irreducible] def spNxI (ad : Ad) : Sp := fun vs H Q _ => ∃ (x dx : Addr) (l m : Int), vs = [.ref x, .int l, .int m] ∧ aOk l ∧ 1 ≤ m ∧ m ≤ 16 ∧ H x = some (.ins ad.c_Next dx []) ∧ ∀ (H' : Hp), H' x = some (.ins ad.c_Next dx (nfs l m)) → Stay x H H' → Q .non H'
abbrev st_Register_init : Stmt := inClass (top 20) 0
theorem sc_Register_init : FnScope ["self", "group", "number"] ["self", "group", "number"] (defScope st_Register_init) := ⟨rfl, rfl, rfl, by decide +kernel, rfl, by decide +kernel, by decide +kernel⟩
theorem ok_Register_init {f : Addr} {fd : FuncData} (F : Fun K "__init__" "Register.__init__" st_Register_init f fd) (T : Txt K mg ad) (c_is_word_of : Cal P w K mg base 1 "is_word_of" (spWordOf K)) (c_is_between : Cal P w K mg base 1 "is_between" (spBetw K)) :
    FnOk P w K mg base CX0 2 f fd ["self", "group", "number"] (spRegI ad) := by
  refine F.ok sc_Register_init (fun vs H Q E h => ?_) (fun cdv A outer s H vs Q E hr h => ?_)
  · unfold spRegI at h; obtain (⟨x, dx, g, n, rfl, og, n0, n7, hx, q⟩) := h
    rfl
  · unfold spRegI at h; obtain (⟨x, dx, g, n, rfl, og, n0, n7, hx, q⟩) := h
    refine ⟨_, pss_cons (ps_if (pt_not (pt_val (pe_c c_is_word_of hr (by decide) (by rfl) (pa_cons (pv 1) (pa_cons (pe_glob (v := .ref ad.a_GROUPS) (by rfl) T.v_GROUPS rfl) pa_nil))))) (pss_one ps_never) pss_nil)
      (pss_cons (ps_if (pt_not (pt_val (pe_c c_is_between hr (by decide) (by rfl) (pa_cons (pv 2) (pa_cons pe_int (pa_cons (pe_gl (by rfl) T.v_LAST_NUMBER) pa_nil)))))) (pss_one ps_never) pss_nil)
      (pss_cons (ps_fld (pv 0) (pv 1) rfl)
      (pss_cons (ps_fld (pv 0) (pv 2) rfl)
      (pss_one (ps_fld (pv 0) (pe_tup (pa_cons (pe_op op_add (pe_op op_mul (pe_bmK PySem.F.plainAttrs_tuple PySem.F.slot_tuple_index PySem.F.type_tuple_index mt_tup_index (pe_glob (v := .ref ad.a_GROUPS) (by rfl) T.v_GROUPS rfl) (pa_cons (pv 1) pa_nil)) (pe_gl (by rfl) T.v_GROUP_STRIDE)) (pv 2)) (pa_cons pe_int pa_nil))) rfl))))), ?_⟩
    have e1 : inS [.str "whole", .str "float"] (.str g) = true := by rcases og with rfl | rfl <;> decide +kernel
    have e2 : betD 0 7 (.int n) = true := by simp [betD, n0, n7]
    walk_at "go"
    refine ⟨.str g, .str g, ad.a_GROUPS, _, rfl, .inl (.str _), T.t_GROUPS _, rfl, _, rfl, ?_⟩
    rw [e1]
    refine iteF ?_
    walk_at "go"
    refine ⟨.int n, .int n, 0, 7, rfl, .inl (.int _), _, rfl, ?_⟩
    rw [e2]
    refine iteF ?_
    walk_at "go"
    obtain ⟨git, gn, gsl, hgl⟩ := T.l_GROUPS
    rcases og with rfl | rfl
    · refine ⟨⟨_, _, _, _, rfl, hgl⟩, ?_⟩
      refine ⟨_, rfl, ?_⟩
      refine ⟨ad.a_GROUPS, ["whole", "float"], "whole", 0, rfl, rfl, T.t_GROUPS _, rfl, fun m hm => by omega, ?_⟩
      walk_at "go"
      rename_i p hp
      exact q p _ (by walk_at "look") (by walk_at "stay")
    · refine ⟨⟨_, _, _, _, rfl, hgl⟩, ?_⟩
      refine ⟨_, rfl, ?_⟩
      refine ⟨ad.a_GROUPS, ["whole", "float"], "float", 1, rfl, rfl, T.t_GROUPS _, rfl, fun m hm => ?_, ?_⟩
      · obtain rfl : m = 0 := by omega
        decide +kernel
      walk_at "go"
      rename_i p hp
      exact q p _ (by walk_at "look") (by walk_at "stay")
abbrev st_Slots_init : Stmt := inClass (top 21) 0
theorem sc_Slots_init : FnScope ["self", "offset", "many"] ["self", "offset", "many"] (defScope st_Slots_init) := ⟨rfl, rfl, rfl, by decide +kernel, rfl, by decide +kernel, by decide +kernel⟩
theorem ok_Slots_init {f : Addr} {fd : FuncData} (F : Fun K "__init__" "Slots.__init__" st_Slots_init f fd) (T : Txt K mg ad) (c_is_count : Cal P w K mg base 1 "is_count" (spCount K)) (c_is_between : Cal P w K mg base 1 "is_between" (spBetw K)) :
    FnOk P w K mg base CX0 2 f fd ["self", "offset", "many"] (spSlI ad) := by
  refine F.ok sc_Slots_init (fun vs H Q E h => ?_) (fun cdv A outer s H vs Q E hr h => ?_)
  · unfold spSlI at h; obtain (⟨x, dx, o, m, rfl, o0, m1, m2, hx, q⟩) := h
    rfl
  · unfold spSlI at h; obtain (⟨x, dx, o, m, rfl, o0, m1, m2, hx, q⟩) := h
    refine ⟨_, pss_cons (ps_if (pt_not (pt_val (pe_c c_is_count hr (by decide) (by rfl) (pa_cons (pv 1) pa_nil)))) (pss_one ps_never) pss_nil)
      (pss_cons (ps_if (pt_not (pt_val (pe_c c_is_between hr (by decide) (by rfl) (pa_cons (pv 2) (pa_cons pe_int (pa_cons (pe_gl (by rfl) T.v_MOST_BYTES) pa_nil)))))) (pss_one ps_never) pss_nil)
      (pss_cons (ps_fld (pv 0) (pv 1) rfl)
      (pss_one (ps_fld (pv 0) (pv 2) rfl)))), ?_⟩
    have e1 : cntD (.int o) = true := by simp [cntD, o0]
    have e2 : betD 1 16 (.int m) = true := by simp [betD, m1, m2]
    walk_at "go"
    refine ⟨.int o, .int o, rfl, .inl (.int _), _, rfl, ?_⟩
    rw [e1]
    refine iteF ?_
    walk_at "go"
    refine ⟨.int m, .int m, 1, 16, rfl, .inl (.int _), _, rfl, ?_⟩
    rw [e2]
    refine iteF ?_
    walk_at "go"
    exact q _ (by walk_at "look") (by walk_at "stay")
abbrev st_Next_init : Stmt := inClass (top 22) 0
theorem sc_Next_init : FnScope ["self", "align", "many"] ["self", "align", "many"] (defScope st_Next_init) := ⟨rfl, rfl, rfl, by decide +kernel, rfl, by decide +kernel, by decide +kernel⟩
theorem ok_Next_init {f : Addr} {fd : FuncData} (F : Fun K "__init__" "Next.__init__" st_Next_init f fd) (T : Txt K mg ad) (c_is_one_of : Cal P w K mg base 2 "is_one_of" (spOneOf K)) (c_is_between : Cal P w K mg base 1 "is_between" (spBetw K)) :
    FnOk P w K mg base CX0 3 f fd ["self", "align", "many"] (spNxI ad) := by
  refine F.ok sc_Next_init (fun vs H Q E h => ?_) (fun cdv A outer s H vs Q E hr h => ?_)
  · unfold spNxI at h; obtain (⟨x, dx, l, m, rfl, al, m1, m2, hx, q⟩) := h
    rfl
  · unfold spNxI at h; obtain (⟨x, dx, l, m, rfl, al, m1, m2, hx, q⟩) := h
    refine ⟨_, pss_cons (ps_if (pt_not (pt_val (pe_c c_is_one_of hr (by decide) (by rfl) (pa_cons (pv 1) (pa_cons (pe_glob (v := .ref ad.a_ALIGNMENTS) (by rfl) T.v_ALIGNMENTS rfl) pa_nil))))) (pss_one ps_never) pss_nil)
      (pss_cons (ps_if (pt_not (pt_val (pe_c c_is_between hr (by decide) (by rfl) (pa_cons (pv 2) (pa_cons pe_int (pa_cons (pe_gl (by rfl) T.v_MOST_BYTES) pa_nil)))))) (pss_one ps_never) pss_nil)
      (pss_cons (ps_fld (pv 0) (pv 1) rfl)
      (pss_one (ps_fld (pv 0) (pv 2) rfl)))), ?_⟩
    have e1 : inV (.int l) [.int 1, .int 2, .int 4, .int 8, .int 16] = true := by rcases al with rfl | rfl | rfl | rfl | rfl <;> simp [inV, eqV]
    have e2 : betD 1 16 (.int m) = true := by simp [betD, m1, m2]
    walk_at "go"
    refine ⟨.int m, .int m, 1, 16, rfl, .inl (.int _), _, rfl, ?_⟩
    rw [e2]
    refine iteF ?_
    walk_at "go"
    exact q _ (by walk_at "look") (by walk_at "stay")
end
end K11
set_option Elab.async false
set_option linter.all false
set_option maxRecDepth 100000
set_option maxHeartbeats 4000000


namespace K11
open PySem L2 UL ClX
local macro_rules | `(tactic| walk_at "txt") => `(tactic| first
  | ((with_reducible show PySem.W.kitOne _ (.ref _) (.ref _) = _); first | exact Txt.ks_Register_Place (by assumption) | exact Txt.ks_Slots_Place (by assumption) | exact Txt.ks_Next_Place (by assumption) | exact Txt.ks_Register_Slots (by assumption) | exact Txt.ks_Register_Next (by assumption) | exact Txt.ks_Slots_Register (by assumption) | exact Txt.ks_Slots_Next (by assumption) | exact Txt.ks_Next_Register (by assumption) | exact Txt.ks_Next_Slots (by assumption))
  | ((with_reducible show PySem.W.notFirst _ _ (.ref _) = _); first | exact Txt.nf_Register_Slots (by assumption) | exact Txt.nf_Register_Next (by assumption) | exact Txt.nf_Slots_Register (by assumption) | exact Txt.nf_Slots_Next (by assumption) | exact Txt.nf_Next_Register (by assumption) | exact Txt.nf_Next_Slots (by assumption))
  | ((with_reducible show L2.SqT _ _ _ _); first | exact Txt.t_GROUPS (by assumption) _ | exact Txt.t_ALIGNMENTS (by assumption) _)
  | ((with_reducible show L2.Cls _ _); first | exact UL.CIsi.cl (Txt.i_Place (by assumption)) | exact UL.CIsi.cl (Txt.i_Register (by assumption)) | exact UL.CIsi.cl (Txt.i_Slots (by assumption)) | exact UL.CIsi.cl (Txt.i_Next (by assumption)))
  | ((with_reducible show UL.CIsi _ _); first | exact Txt.i_Place (by assumption) | exact Txt.i_Register (by assumption) | exact Txt.i_Slots (by assumption) | exact Txt.i_Next (by assumption))
  | ((with_reducible show L2.NoAttr _ _ _); first | exact Txt.n_Register_group (by assumption) | exact Txt.n_Register_number (by assumption) | exact Txt.n_Register_code (by assumption) | exact Txt.n_Slots_offset (by assumption) | exact Txt.n_Slots_many (by assumption) | exact Txt.n_Next_align (by assumption) | exact Txt.n_Next_many (by assumption))
  | ((with_reducible show L2.TyX _ _ _ _); first | exact UL.CIsi.ty (Txt.i_Place (by assumption)) (by walk_at "look") | exact UL.CIsi.ty (Txt.i_Register (by assumption)) (by walk_at "look") | exact UL.CIsi.ty (Txt.i_Slots (by assumption)) (by walk_at "look") | exact UL.CIsi.ty (Txt.i_Next (by assumption)) (by walk_at "look"))
  | ((with_reducible show PySem.W.kitOne _ (.type _) (.ref _) = _); first | exact ((Txt.k_Place (by assumption)) _ (by simp)).1 | exact ((Txt.k_Register (by assumption)) _ (by simp)).1 | exact ((Txt.k_Slots (by assumption)) _ (by simp)).1 | exact ((Txt.k_Next (by assumption)) _ (by simp)).1)
  | ((with_reducible show _ = PySem.Value.ref _ ∨ _); first | exact .inl rfl | exact .inr ⟨_, rfl, Txt.no_Place (by assumption)⟩)
  | fail)
theorem RegAt.ins {ad : Ad} {H : Hp} {v : V} {g : Str} {n : Int} (h : RegAt ad H v g n) : ∃ a dx p, v = .ref a ∧ H a = some (.ins ad.c_Register dx (rfs g n p)) := h
theorem rmade1 {ad : Ad} {H1 : Hp} {x dx : Addr} {g : Str} {n : Int} {R : VK} (nx : H1 x = none) (nd : H1 dx = none) (ne : dx ≠ x) (og : gOk g) (n0 : 0 ≤ n) (n7 : n ≤ 7) (kk : ∀ H', L2.Same H1 H' → RegAt ad H' (.ref x) g n → R .non H') :
    spRegI ad [.ref x, .str g, .int n] (upd (upd H1 dx (.own x)) x (.ins ad.c_Register dx [])) R E0 := by
  have s1 : L2.Same H1 (upd H1 dx (.own x)) := same_new nd
  have n2 : upd H1 dx (.own x) x = none := by rw [upd_ne ne.symm]; exact nx
  unfold spRegI
  exact ⟨x, dx, g, n, rfl, og, n0, n7, upd_same, fun p H' h1 st => kk H' (fun b o e => st b o (ne_of_none e nx) (same_new n2 b o (s1 b o e))) ⟨x, dx, p, rfl, h1⟩⟩
theorem smade1 {ad : Ad} {H1 : Hp} {x dx : Addr} {o m : Int} {R : VK} (nx : H1 x = none) (nd : H1 dx = none) (ne : dx ≠ x) (o0 : 0 ≤ o) (m1 : 1 ≤ m) (m2 : m ≤ 16) (kk : ∀ H', L2.Same H1 H' → SlAt ad H' (.ref x) o m → R .non H') :
    spSlI ad [.ref x, .int o, .int m] (upd (upd H1 dx (.own x)) x (.ins ad.c_Slots dx [])) R E0 := by
  have s1 : L2.Same H1 (upd H1 dx (.own x)) := same_new nd
  have n2 : upd H1 dx (.own x) x = none := by rw [upd_ne ne.symm]; exact nx
  unfold spSlI
  exact ⟨x, dx, o, m, rfl, o0, m1, m2, upd_same, fun H' h1 st => kk H' (fun b o e => st b o (ne_of_none e nx) (same_new n2 b o (s1 b o e))) ⟨x, dx, rfl, h1⟩⟩
theorem nmade1 {ad : Ad} {H1 : Hp} {x dx : Addr} {l m : Int} {R : VK} (nx : H1 x = none) (nd : H1 dx = none) (ne : dx ≠ x) (al : aOk l) (m1 : 1 ≤ m) (m2 : m ≤ 16) (kk : ∀ H', L2.Same H1 H' → NxAt ad H' (.ref x) l m → R .non H') :
    spNxI ad [.ref x, .int l, .int m] (upd (upd H1 dx (.own x)) x (.ins ad.c_Next dx [])) R E0 := by
  have s1 : L2.Same H1 (upd H1 dx (.own x)) := same_new nd
  have n2 : upd H1 dx (.own x) x = none := by rw [upd_ne ne.symm]; exact nx
  unfold spNxI
  exact ⟨x, dx, l, m, rfl, al, m1, m2, upd_same, fun H' h1 st => kk H' (fun b o e => st b o (ne_of_none e nx) (same_new n2 b o (s1 b o e))) ⟨x, dx, rfl, h1⟩⟩
def gKC : List V → List V → List V := fun vs zs => vs ++ zs
def gQ : List V → List V → List V := fun vs zs => vs ++ zs.reverse
section
variable {P : Program} {w : World} {K : PySem.W.Frag} {mg : Str → Option Value} {base : Heap} {ad : Ad}
def spRGet (ad : Ad) (f : Str → Int → V) : Sp := fun vs H Q _ => ∃ v g n, vs = [v] ∧ RegAt ad H v g n ∧ Q (f g n) H
def spSGet (ad : Ad) (f : Int → Int → V) : Sp := fun vs H Q _ => ∃ v o m, vs = [v] ∧ SlAt ad H v o m ∧ Q (f o m) H
def spNGet (ad : Ad) (f : Int → Int → V) : Sp := fun vs H Q _ => ∃ v o m, vs = [v] ∧ NxAt ad H v o m ∧ Q (f o m) H
def spPBits : Sp := fun vs H Q _ => ∃ v, vs = [v] ∧ Q (.int 0) H
abbrev st_Place_bits : Stmt := inClass (top 19) 0
theorem sc_Place_bits : FnScope ["self"] ["self"] (defScope st_Place_bits) := ⟨rfl, rfl, rfl, by decide +kernel, rfl, by decide +kernel, by decide +kernel⟩
theorem ok_Place_bits {f : Addr} {fd : FuncData} (F : Fun K "bits" "Place.bits" st_Place_bits f fd) (T : Txt K mg ad)  :
    FnOk P w K mg base CX0 1 f fd ["self"] spPBits := by
  refine F.ok sc_Place_bits (fun vs H Q E h => ?_) (fun cdv A outer s H vs Q E hr h => ?_)
  · obtain (⟨v, rfl, q⟩) := h
    rfl
  · obtain (⟨v, rfl, q⟩) := h
    refine ⟨_, pss_one (ps_ret pe_int), ?_⟩
    walk_at "go"
    exact q
abbrev st_Register_group : Stmt := inClass (top 20) 1
theorem sc_Register_group : FnScope ["self"] ["self"] (defScope st_Register_group) := ⟨rfl, rfl, rfl, by decide +kernel, rfl, by decide +kernel, by decide +kernel⟩
theorem ok_Register_group {f : Addr} {fd : FuncData} (F : Fun K "group" "Register.group" st_Register_group f fd) (T : Txt K mg ad)  :
    FnOk P w K mg base CX0 1 f fd ["self"] (spRGet ad fun g _ => .str g) := by
  refine F.ok sc_Register_group (fun vs H Q E h => ?_) (fun cdv A outer s H vs Q E hr h => ?_)
  · obtain (⟨v, g, n, rfl, ⟨a, dx, p, rfl, h1⟩, q⟩) := h
    rfl
  · obtain (⟨v, g, n, rfl, ⟨a, dx, p, rfl, h1⟩, q⟩) := h
    refine ⟨_, pss_one (ps_ret (pe_fld (pv 0) rfl)), ?_⟩
    walk_at "go"
    exact q
abbrev st_Register_number : Stmt := inClass (top 20) 2
theorem sc_Register_number : FnScope ["self"] ["self"] (defScope st_Register_number) := ⟨rfl, rfl, rfl, by decide +kernel, rfl, by decide +kernel, by decide +kernel⟩
theorem ok_Register_number {f : Addr} {fd : FuncData} (F : Fun K "number" "Register.number" st_Register_number f fd) (T : Txt K mg ad)  :
    FnOk P w K mg base CX0 1 f fd ["self"] (spRGet ad fun _ n => .int n) := by
  refine F.ok sc_Register_number (fun vs H Q E h => ?_) (fun cdv A outer s H vs Q E hr h => ?_)
  · obtain (⟨v, g, n, rfl, ⟨a, dx, p, rfl, h1⟩, q⟩) := h
    rfl
  · obtain (⟨v, g, n, rfl, ⟨a, dx, p, rfl, h1⟩, q⟩) := h
    refine ⟨_, pss_one (ps_ret (pe_fld (pv 0) rfl)), ?_⟩
    walk_at "go"
    exact q
abbrev st_Register_bits : Stmt := inClass (top 20) 3
theorem sc_Register_bits : FnScope ["self"] ["self"] (defScope st_Register_bits) := ⟨rfl, rfl, rfl, by decide +kernel, rfl, by decide +kernel, by decide +kernel⟩
theorem ok_Register_bits {f : Addr} {fd : FuncData} (F : Fun K "bits" "Register.bits" st_Register_bits f fd) (T : Txt K mg ad)  :
    FnOk P w K mg base CX0 1 f fd ["self"] (spRGet ad fun _ _ => .int 64) := by
  refine F.ok sc_Register_bits (fun vs H Q E h => ?_) (fun cdv A outer s H vs Q E hr h => ?_)
  · obtain (⟨v, g, n, rfl, ⟨a, dx, p, rfl, h1⟩, q⟩) := h
    rfl
  · obtain (⟨v, g, n, rfl, ⟨a, dx, p, rfl, h1⟩, q⟩) := h
    refine ⟨_, pss_one (ps_ret (pe_gl (by rfl) T.v_REGISTER_BITS)), ?_⟩
    walk_at "go"
    exact q
abbrev st_Slots_offset : Stmt := inClass (top 21) 1
theorem sc_Slots_offset : FnScope ["self"] ["self"] (defScope st_Slots_offset) := ⟨rfl, rfl, rfl, by decide +kernel, rfl, by decide +kernel, by decide +kernel⟩
theorem ok_Slots_offset {f : Addr} {fd : FuncData} (F : Fun K "offset" "Slots.offset" st_Slots_offset f fd) (T : Txt K mg ad)  :
    FnOk P w K mg base CX0 1 f fd ["self"] (spSGet ad fun o _ => .int o) := by
  refine F.ok sc_Slots_offset (fun vs H Q E h => ?_) (fun cdv A outer s H vs Q E hr h => ?_)
  · obtain (⟨v, o, m, rfl, ⟨a, dx, rfl, h1⟩, q⟩) := h
    rfl
  · obtain (⟨v, o, m, rfl, ⟨a, dx, rfl, h1⟩, q⟩) := h
    refine ⟨_, pss_one (ps_ret (pe_fld (pv 0) rfl)), ?_⟩
    walk_at "go"
    exact q
abbrev st_Slots_many : Stmt := inClass (top 21) 2
theorem sc_Slots_many : FnScope ["self"] ["self"] (defScope st_Slots_many) := ⟨rfl, rfl, rfl, by decide +kernel, rfl, by decide +kernel, by decide +kernel⟩
theorem ok_Slots_many {f : Addr} {fd : FuncData} (F : Fun K "many" "Slots.many" st_Slots_many f fd) (T : Txt K mg ad)  :
    FnOk P w K mg base CX0 1 f fd ["self"] (spSGet ad fun _ m => .int m) := by
  refine F.ok sc_Slots_many (fun vs H Q E h => ?_) (fun cdv A outer s H vs Q E hr h => ?_)
  · obtain (⟨v, o, m, rfl, ⟨a, dx, rfl, h1⟩, q⟩) := h
    rfl
  · obtain (⟨v, o, m, rfl, ⟨a, dx, rfl, h1⟩, q⟩) := h
    refine ⟨_, pss_one (ps_ret (pe_fld (pv 0) rfl)), ?_⟩
    walk_at "go"
    exact q
abbrev st_Slots_end : Stmt := inClass (top 21) 3
theorem sc_Slots_end : FnScope ["self"] ["self"] (defScope st_Slots_end) := ⟨rfl, rfl, rfl, by decide +kernel, rfl, by decide +kernel, by decide +kernel⟩
theorem ok_Slots_end {f : Addr} {fd : FuncData} (F : Fun K "end" "Slots.end" st_Slots_end f fd) (T : Txt K mg ad)  :
    FnOk P w K mg base CX0 1 f fd ["self"] (spSGet ad fun o m => .int (o + m)) := by
  refine F.ok sc_Slots_end (fun vs H Q E h => ?_) (fun cdv A outer s H vs Q E hr h => ?_)
  · obtain (⟨v, o, m, rfl, ⟨a, dx, rfl, h1⟩, q⟩) := h
    rfl
  · obtain (⟨v, o, m, rfl, ⟨a, dx, rfl, h1⟩, q⟩) := h
    refine ⟨_, pss_one (ps_ret (pe_op op_add (pe_fld (pv 0) rfl) (pe_fld (pv 0) rfl))), ?_⟩
    walk_at "go"
    exact q
def spSBits (ad : Ad) : Sp := fun vs H Q _ => ∃ v o m, vs = [v] ∧ SlAt ad H v o m ∧ 1 ≤ m ∧ m ≤ 16 ∧ Q (.int (8 * m)) H
abbrev st_Slots_bits : Stmt := inClass (top 21) 4
theorem sc_Slots_bits : FnScope ["self"] ["self"] (defScope st_Slots_bits) := ⟨rfl, rfl, rfl, by decide +kernel, rfl, by decide +kernel, by decide +kernel⟩
theorem ok_Slots_bits {f : Addr} {fd : FuncData} (F : Fun K "bits" "Slots.bits" st_Slots_bits f fd) (T : Txt K mg ad)  :
    FnOk P w K mg base CX0 1 f fd ["self"] (spSBits ad) := by
  refine F.ok sc_Slots_bits (fun vs H Q E h => ?_) (fun cdv A outer s H vs Q E hr h => ?_)
  · obtain (⟨v, o, m, rfl, ⟨a, dx, rfl, h1⟩, m1, m2, q⟩) := h
    rfl
  · obtain (⟨v, o, m, rfl, ⟨a, dx, rfl, h1⟩, m1, m2, q⟩) := h
    refine ⟨_, pss_one (ps_ret (pe_op op_mul pe_int (pe_fld (pv 0) rfl))), ?_⟩
    walk_at "go"
    exact q
abbrev st_Next_align : Stmt := inClass (top 22) 1
theorem sc_Next_align : FnScope ["self"] ["self"] (defScope st_Next_align) := ⟨rfl, rfl, rfl, by decide +kernel, rfl, by decide +kernel, by decide +kernel⟩
theorem ok_Next_align {f : Addr} {fd : FuncData} (F : Fun K "align" "Next.align" st_Next_align f fd) (T : Txt K mg ad)  :
    FnOk P w K mg base CX0 1 f fd ["self"] (spNGet ad fun o _ => .int o) := by
  refine F.ok sc_Next_align (fun vs H Q E h => ?_) (fun cdv A outer s H vs Q E hr h => ?_)
  · obtain (⟨v, o, m, rfl, ⟨a, dx, rfl, h1⟩, q⟩) := h
    rfl
  · obtain (⟨v, o, m, rfl, ⟨a, dx, rfl, h1⟩, q⟩) := h
    refine ⟨_, pss_one (ps_ret (pe_fld (pv 0) rfl)), ?_⟩
    walk_at "go"
    exact q
abbrev st_Next_many : Stmt := inClass (top 22) 2
theorem sc_Next_many : FnScope ["self"] ["self"] (defScope st_Next_many) := ⟨rfl, rfl, rfl, by decide +kernel, rfl, by decide +kernel, by decide +kernel⟩
theorem ok_Next_many {f : Addr} {fd : FuncData} (F : Fun K "many" "Next.many" st_Next_many f fd) (T : Txt K mg ad)  :
    FnOk P w K mg base CX0 1 f fd ["self"] (spNGet ad fun _ m => .int m) := by
  refine F.ok sc_Next_many (fun vs H Q E h => ?_) (fun cdv A outer s H vs Q E hr h => ?_)
  · obtain (⟨v, o, m, rfl, ⟨a, dx, rfl, h1⟩, q⟩) := h
    rfl
  · obtain (⟨v, o, m, rfl, ⟨a, dx, rfl, h1⟩, q⟩) := h
    refine ⟨_, pss_one (ps_ret (pe_fld (pv 0) rfl)), ?_⟩
    walk_at "go"
    exact q
def spNBits (ad : Ad) : Sp := fun vs H Q _ => ∃ v o m, vs = [v] ∧ NxAt ad H v o m ∧ 1 ≤ m ∧ m ≤ 16 ∧ Q (.int (8 * m)) H
abbrev st_Next_bits : Stmt := inClass (top 22) 3
theorem sc_Next_bits : FnScope ["self"] ["self"] (defScope st_Next_bits) := ⟨rfl, rfl, rfl, by decide +kernel, rfl, by decide +kernel, by decide +kernel⟩
theorem ok_Next_bits {f : Addr} {fd : FuncData} (F : Fun K "bits" "Next.bits" st_Next_bits f fd) (T : Txt K mg ad)  :
    FnOk P w K mg base CX0 1 f fd ["self"] (spNBits ad) := by
  refine F.ok sc_Next_bits (fun vs H Q E h => ?_) (fun cdv A outer s H vs Q E hr h => ?_)
  · obtain (⟨v, o, m, rfl, ⟨a, dx, rfl, h1⟩, m1, m2, q⟩) := h
    rfl
  · obtain (⟨v, o, m, rfl, ⟨a, dx, rfl, h1⟩, m1, m2, q⟩) := h
    refine ⟨_, pss_one (ps_ret (pe_op op_mul pe_int (pe_fld (pv 0) rfl))), ?_⟩
    walk_at "go"
    exact q
def spREq (K : PySem.W.Frag) (ad : Ad) : Sp := fun vs H Q _ => ∃ v u g n r, vs = [v, u] ∧ RegAt ad H v g n ∧ ((∃ g' n', RegAt ad H u g' n' ∧ r = (decide (g = g') && decide (n = n'))) ∨ (∃ t, TyX K H u t ∧ PySem.W.kitOne K t (.ref ad.c_Register) = some false ∧ r = false)) ∧ Q (.bl r) H
abbrev st_Register_eq : Stmt := inClass (top 20) 5
theorem sc_Register_eq : FnScope ["self", "other"] ["self", "other"] (defScope st_Register_eq) := ⟨rfl, rfl, rfl, by decide +kernel, rfl, by decide +kernel, by decide +kernel⟩
theorem ok_Register_eq {f : Addr} {fd : FuncData} (F : Fun K "__eq__" "Register.__eq__" st_Register_eq f fd) (T : Txt K mg ad)  :
    FnOk P w K mg base CX0 1 f fd ["self", "other"] (spREq K ad) := by
  refine F.ok sc_Register_eq (fun vs H Q E h => ?_) (fun cdv A outer s H vs Q E hr h => ?_)
  · obtain (⟨v, u, g, n, r, rfl, ⟨a, dx, p, rfl, h1⟩, hr', q⟩) := h
    rfl
  · obtain (⟨v, u, g, n, r, rfl, ⟨a, dx, p, rfl, h1⟩, hr', q⟩) := h
    refine ⟨_, pss_one (ps_ret (pe_and (pe_callB call_isi (by rfl) T.bi.isinstance (by decide +kernel) (pa_cons (pv 1) (pa_cons (pe_glob (v := .ref ad.c_Register) (by rfl) T.g_Register rfl) pa_nil))) (pe_and (pe_cmpR op_eq (pe_fld (pv 0) rfl) (pe_fld (pv 1) rfl) (nomark _)) (pe_one (pe_cmpR op_eq (pe_fld (pv 0) rfl) (pe_fld (pv 1) rfl) (nomark _)))))), ?_⟩
    rcases hr' with ⟨g', n', ⟨b, dy, p', rfl, h2⟩, rfl⟩ | ⟨t, ty, kt, rfl⟩
    · walk_at "go"
      have e2 : decide (V.int n = V.int n') = decide (n = n') := by simp
      by_cases c : g = g'
      · rw [show decide (V.str g = V.str g') = true by simp [c]]
        rw [decide_eq_true c, Bool.true_and, ← e2] at q
        refine iteT ?_
        walk_at "go"
        exact q
      · rw [show decide (V.str g = V.str g') = false by simp [c]]
        rw [decide_eq_false c, Bool.false_and] at q
        exact iteF q
    · walk_at "go"
      exact q
end
end K11
set_option Elab.async false
set_option linter.all false
set_option maxRecDepth 100000
set_option maxHeartbeats 4000000


namespace K11
open PySem L2 UL ClX
local macro_rules | `(tactic| walk_at "txt") => `(tactic| first
  | ((with_reducible show PySem.W.kitOne _ (.ref _) (.ref _) = _); first | exact Txt.ks_Register_Place (by assumption) | exact Txt.ks_Slots_Place (by assumption) | exact Txt.ks_Next_Place (by assumption) | exact Txt.ks_Register_Slots (by assumption) | exact Txt.ks_Register_Next (by assumption) | exact Txt.ks_Slots_Register (by assumption) | exact Txt.ks_Slots_Next (by assumption) | exact Txt.ks_Next_Register (by assumption) | exact Txt.ks_Next_Slots (by assumption))
  | ((with_reducible show PySem.W.notFirst _ _ (.ref _) = _); first | exact Txt.nf_Register_Slots (by assumption) | exact Txt.nf_Register_Next (by assumption) | exact Txt.nf_Slots_Register (by assumption) | exact Txt.nf_Slots_Next (by assumption) | exact Txt.nf_Next_Register (by assumption) | exact Txt.nf_Next_Slots (by assumption))
  | ((with_reducible show L2.SqT _ _ _ _); first | exact Txt.t_GROUPS (by assumption) _ | exact Txt.t_ALIGNMENTS (by assumption) _)
  | ((with_reducible show L2.Cls _ _); first | exact UL.CIsi.cl (Txt.i_Place (by assumption)) | exact UL.CIsi.cl (Txt.i_Register (by assumption)) | exact UL.CIsi.cl (Txt.i_Slots (by assumption)) | exact UL.CIsi.cl (Txt.i_Next (by assumption)))
  | ((with_reducible show UL.CIsi _ _); first | exact Txt.i_Place (by assumption) | exact Txt.i_Register (by assumption) | exact Txt.i_Slots (by assumption) | exact Txt.i_Next (by assumption))
  | ((with_reducible show L2.NoAttr _ _ _); first | exact Txt.n_Register_group (by assumption) | exact Txt.n_Register_number (by assumption) | exact Txt.n_Register_code (by assumption) | exact Txt.n_Slots_offset (by assumption) | exact Txt.n_Slots_many (by assumption) | exact Txt.n_Next_align (by assumption) | exact Txt.n_Next_many (by assumption))
  | ((with_reducible show L2.TyX _ _ _ _); first | exact UL.CIsi.ty (Txt.i_Place (by assumption)) (by walk_at "look") | exact UL.CIsi.ty (Txt.i_Register (by assumption)) (by walk_at "look") | exact UL.CIsi.ty (Txt.i_Slots (by assumption)) (by walk_at "look") | exact UL.CIsi.ty (Txt.i_Next (by assumption)) (by walk_at "look"))
  | ((with_reducible show PySem.W.kitOne _ (.type _) (.ref _) = _); first | exact ((Txt.k_Place (by assumption)) _ (by simp)).1 | exact ((Txt.k_Register (by assumption)) _ (by simp)).1 | exact ((Txt.k_Slots (by assumption)) _ (by simp)).1 | exact ((Txt.k_Next (by assumption)) _ (by simp)).1)
  | ((with_reducible show _ = PySem.Value.ref _ ∨ _); first | exact .inl rfl | exact .inr ⟨_, rfl, Txt.no_Place (by assumption)⟩)
  | fail)
local macro_rules | `(tactic| walk_at "side") => `(tactic| ((with_reducible show _ ≤ PySem.sizeLine); refine UL.line_ge ?_; simp only [PySem.Str.length_append]; omega))
theorem big_log {i : Int} (h0 : 0 ≤ i) (h1 : i ≤ 1000000000000000000000) : i.natAbs.log2 < 1920 := by
  by_cases z : i.natAbs = 0
  · rw [z]
    decide
  · have a : i.natAbs < 2 ^ 70 := by omega
    have := (Nat.log2_lt z).mpr a
    omega
theorem big_len {i : Int} (h0 : 0 ≤ i) (h1 : i ≤ 1000000000000000000000) : (Str.ofString (toString i)).length ≤ 23 := by
  rw [ofString_length]
  exact PySem.int_text_length_le10 (k := 22) (by decide) (by omega)
section
variable {P : Program} {w : World} {K : PySem.W.Frag} {mg : Str → Option Value} {base : Heap} {ad : Ad}
def spSEq (K : PySem.W.Frag) (ad : Ad) : Sp := fun vs H Q _ => ∃ v u o m r, vs = [v, u] ∧ SlAt ad H v o m ∧ ((∃ o' m', SlAt ad H u o' m' ∧ r = (decide (o = o') && decide (m = m'))) ∨ (∃ t, TyX K H u t ∧ PySem.W.kitOne K t (.ref ad.c_Slots) = some false ∧ r = false)) ∧ Q (.bl r) H
def spNEq (K : PySem.W.Frag) (ad : Ad) : Sp := fun vs H Q _ => ∃ v u o m r, vs = [v, u] ∧ NxAt ad H v o m ∧ ((∃ o' m', NxAt ad H u o' m' ∧ r = (decide (o = o') && decide (m = m'))) ∨ (∃ t, TyX K H u t ∧ PySem.W.kitOne K t (.ref ad.c_Next) = some false ∧ r = false)) ∧ Q (.bl r) H
abbrev st_Slots_eq : Stmt := inClass (top 21) 10
theorem sc_Slots_eq : FnScope ["self", "other"] ["self", "other"] (defScope st_Slots_eq) := ⟨rfl, rfl, rfl, by decide +kernel, rfl, by decide +kernel, by decide +kernel⟩
theorem ok_Slots_eq {f : Addr} {fd : FuncData} (F : Fun K "__eq__" "Slots.__eq__" st_Slots_eq f fd) (T : Txt K mg ad)  :
    FnOk P w K mg base CX0 1 f fd ["self", "other"] (spSEq K ad) := by
  refine F.ok sc_Slots_eq (fun vs H Q E h => ?_) (fun cdv A outer s H vs Q E hr h => ?_)
  · obtain (⟨v, u, o, m, r, rfl, ⟨a, dx, rfl, h1⟩, hr', q⟩) := h
    rfl
  · obtain (⟨v, u, o, m, r, rfl, ⟨a, dx, rfl, h1⟩, hr', q⟩) := h
    refine ⟨_, pss_one (ps_ret (pe_and (pe_callB call_isi (by rfl) T.bi.isinstance (by decide +kernel) (pa_cons (pv 1) (pa_cons (pe_glob (v := .ref ad.c_Slots) (by rfl) T.g_Slots rfl) pa_nil))) (pe_and (pe_cmpR op_eq (pe_fld (pv 0) rfl) (pe_fld (pv 1) rfl) (nomark _)) (pe_one (pe_cmpR op_eq (pe_fld (pv 0) rfl) (pe_fld (pv 1) rfl) (nomark _)))))), ?_⟩
    rcases hr' with ⟨o', m', ⟨b, dy, rfl, h2⟩, rfl⟩ | ⟨t, ty, kt, rfl⟩
    · walk_at "go"
      have e2 : decide (V.int m = V.int m') = decide (m = m') := by simp
      by_cases c : o = o'
      · rw [show decide (V.int o = V.int o') = true by simp [c]]
        rw [decide_eq_true c, Bool.true_and, ← e2] at q
        refine iteT ?_
        walk_at "go"
        exact q
      · rw [show decide (V.int o = V.int o') = false by simp [c]]
        rw [decide_eq_false c, Bool.false_and] at q
        exact iteF q
    · walk_at "go"
      exact q
abbrev st_Next_eq : Stmt := inClass (top 22) 6
theorem sc_Next_eq : FnScope ["self", "other"] ["self", "other"] (defScope st_Next_eq) := ⟨rfl, rfl, rfl, by decide +kernel, rfl, by decide +kernel, by decide +kernel⟩
theorem ok_Next_eq {f : Addr} {fd : FuncData} (F : Fun K "__eq__" "Next.__eq__" st_Next_eq f fd) (T : Txt K mg ad)  :
    FnOk P w K mg base CX0 1 f fd ["self", "other"] (spNEq K ad) := by
  refine F.ok sc_Next_eq (fun vs H Q E h => ?_) (fun cdv A outer s H vs Q E hr h => ?_)
  · obtain (⟨v, u, o, m, r, rfl, ⟨a, dx, rfl, h1⟩, hr', q⟩) := h
    rfl
  · obtain (⟨v, u, o, m, r, rfl, ⟨a, dx, rfl, h1⟩, hr', q⟩) := h
    refine ⟨_, pss_one (ps_ret (pe_and (pe_callB call_isi (by rfl) T.bi.isinstance (by decide +kernel) (pa_cons (pv 1) (pa_cons (pe_glob (v := .ref ad.c_Next) (by rfl) T.g_Next rfl) pa_nil))) (pe_and (pe_cmpR op_eq (pe_fld (pv 0) rfl) (pe_fld (pv 1) rfl) (nomark _)) (pe_one (pe_cmpR op_eq (pe_fld (pv 0) rfl) (pe_fld (pv 1) rfl) (nomark _)))))), ?_⟩
    rcases hr' with ⟨o', m', ⟨b, dy, rfl, h2⟩, rfl⟩ | ⟨t, ty, kt, rfl⟩
    · walk_at "go"
      have e2 : decide (V.int m = V.int m') = decide (m = m') := by simp
      by_cases c : o = o'
      · rw [show decide (V.int o = V.int o') = true by simp [c]]
        rw [decide_eq_true c, Bool.true_and, ← e2] at q
        refine iteT ?_
        walk_at "go"
        exact q
      · rw [show decide (V.int o = V.int o') = false by simp [c]]
        rw [decide_eq_false c, Bool.false_and] at q
        exact iteF q
    · walk_at "go"
      exact q
def spSIn (K : PySem.W.Frag) (ad : Ad) : Sp := fun vs H Q _ => ∃ v u o m d, vs = [v, u] ∧ SlAt ad H v o m ∧ Any K H u d ∧ Q (.bl (betD o (o + m - 1) d)) H
abbrev st_Slots_contains : Stmt := inClass (top 21) 6
theorem sc_Slots_contains : FnScope ["self", "x"] ["self", "x"] (defScope st_Slots_contains) := ⟨rfl, rfl, rfl, by decide +kernel, rfl, by decide +kernel, by decide +kernel⟩
theorem ok_Slots_contains {f : Addr} {fd : FuncData} (F : Fun K "__contains__" "Slots.__contains__" st_Slots_contains f fd) (T : Txt K mg ad) (c_is_between : Cal P w K mg base 1 "is_between" (spBetw K)) :
    FnOk P w K mg base CX0 2 f fd ["self", "x"] (spSIn K ad) := by
  refine F.ok sc_Slots_contains (fun vs H Q E h => ?_) (fun cdv A outer s H vs Q E hr h => ?_)
  · obtain (⟨v, u, o, m, d, rfl, ⟨a, dx, rfl, h1⟩, hu, q⟩) := h
    rfl
  · obtain (⟨v, u, o, m, d, rfl, ⟨a, dx, rfl, h1⟩, hu, q⟩) := h
    refine ⟨_, pss_one (ps_ret (pe_c c_is_between hr (by decide) (by rfl) (pa_cons (pv 1) (pa_cons (pe_fld (pv 0) rfl) (pa_cons (pe_op op_sub (pe_op op_add (pe_fld (pv 0) rfl) (pe_fld (pv 0) rfl)) pe_int) pa_nil))))), ?_⟩
    walk_at "go"
    exact q
def spMeets (ad : Ad) : Sp := fun vs H Q _ => ∃ v u o m o' m', vs = [v, u] ∧ SlAt ad H v o m ∧ SlAt ad H u o' m' ∧ Q (.bl (decide (o < o' + m') && decide (o' < o + m))) H
abbrev st_Slots_meets : Stmt := inClass (top 21) 7
theorem sc_Slots_meets : FnScope ["self", "other"] ["self", "other"] (defScope st_Slots_meets) := ⟨rfl, rfl, rfl, by decide +kernel, rfl, by decide +kernel, by decide +kernel⟩
theorem ok_Slots_meets {f : Addr} {fd : FuncData} (F : Fun K "meets" "Slots.meets" st_Slots_meets f fd) (T : Txt K mg ad) (c_Slots_end : CalP P w K mg base 1 ad.c_Slots "end" (spSGet ad fun o m => .int (o + m))) (c_Slots_offset : CalP P w K mg base 1 ad.c_Slots "offset" (spSGet ad fun o _ => .int o)) :
    FnOk P w K mg base CX0 3 f fd ["self", "other"] (spMeets ad) := by
  refine F.ok sc_Slots_meets (fun vs H Q E h => ?_) (fun cdv A outer s H vs Q E hr h => ?_)
  · obtain (⟨v, u, o, m, o', m', rfl, ⟨a, dx, rfl, h1⟩, ⟨b, dy, rfl, h2⟩, q⟩) := h
    rfl
  · obtain (⟨v, u, o, m, o', m', rfl, ⟨a, dx, rfl, h1⟩, ⟨b, dy, rfl, h2⟩, q⟩) := h
    refine ⟨_, pss_cons (ps_if (pt_not (pt_val (pe_callB call_isi (by rfl) T.bi.isinstance (by decide +kernel) (pa_cons (pv 1) (pa_cons (pe_glob (v := .ref ad.c_Slots) (by rfl) T.g_Slots rfl) pa_nil))))) (pss_one ps_never) pss_nil)
      (pss_one (ps_ret (pe_and (pe_cmpR op_lt (pe_fld (pv 0) rfl) (pe_p (pv 1) c_Slots_end hr (by decide) (by rfl)) (nomark _)) (pe_one (pe_cmpR op_lt (pe_p (pv 1) c_Slots_offset hr (by decide) (by rfl)) (pe_p (pv 0) c_Slots_end hr (by decide) (by rfl)) (nomark _)))))), ?_⟩
    have k1 : SlAt ad H (.ref a) o m := ⟨a, dx, rfl, h1⟩
    have k2 : SlAt ad H (.ref b) o' m' := ⟨b, dy, rfl, h2⟩
    walk_at "go"
    by_cases c : o < o' + m'
    · rw [decide_eq_true c] at q ⊢
      refine iteT ?_
      walk_at "go"
      exact q
    · rw [decide_eq_false c] at q ⊢
      exact iteF q
def spSAdd (ad : Ad) : Sp := fun vs H Q _ => ∃ v o m k, vs = [v, .int k] ∧ SlAt ad H v o m ∧ 0 ≤ o ∧ 1 ≤ m ∧ m ≤ 16 ∧ 0 ≤ k ∧ ∀ v' H', L2.Same H H' → SlAt ad H' v' (o + k) m → Q v' H'
abbrev st_Slots_add : Stmt := inClass (top 21) 8
theorem sc_Slots_add : FnScope ["self", "other"] ["self", "other"] (defScope st_Slots_add) := ⟨rfl, rfl, rfl, by decide +kernel, rfl, by decide +kernel, by decide +kernel⟩
theorem ok_Slots_add {f : Addr} {fd : FuncData} (F : Fun K "__add__" "Slots.__add__" st_Slots_add f fd) (T : Txt K mg ad) (c_is_count : Cal P w K mg base 1 "is_count" (spCount K)) (m_Slots_2 : Mak P w K mg base 3 "Slots" ad.c_Slots [] (spSlI ad)) :
    FnOk P w K mg base CX0 5 f fd ["self", "other"] (spSAdd ad) := by
  refine F.ok sc_Slots_add (fun vs H Q E h => ?_) (fun cdv A outer s H vs Q E hr h => ?_)
  · obtain (⟨v, o, m, k, rfl, ⟨a, dx, rfl, h1⟩, o0, m1, m2, k0, q⟩) := h
    rfl
  · obtain (⟨v, o, m, k, rfl, ⟨a, dx, rfl, h1⟩, o0, m1, m2, k0, q⟩) := h
    refine ⟨_, pss_cons (ps_if (pt_not (pt_val (pe_c c_is_count hr (by decide) (by rfl) (pa_cons (pv 1) pa_nil)))) (pss_one ps_never) pss_nil)
      (pss_one (ps_ret (pe_n m_Slots_2 hr (by decide) (by rfl) (pa_cons (pe_op op_add (pe_fld (pv 0) rfl) (pv 1)) (pa_cons (pe_fld (pv 0) rfl) pa_nil))))), ?_⟩
    have e1 : cntD (.int k) = true := by simp [cntD, k0]
    walk_at "go"
    refine ⟨.int k, .int k, rfl, .inl (.int _), _, rfl, ?_⟩
    rw [e1]
    refine iteF ?_
    walk_at "go"
    rename_i x dx' nx nd ne
    exact smade1 nx nd ne (by omega) m1 m2 fun H' s h => ⟨rfl, q _ _ s h⟩
def spSSub (ad : Ad) : Sp := fun vs H Q _ => ∃ v o m k, vs = [v, .int k] ∧ SlAt ad H v o m ∧ 0 ≤ o ∧ 1 ≤ m ∧ m ≤ 16 ∧ 0 ≤ k ∧ k ≤ o ∧ ∀ v' H', L2.Same H H' → SlAt ad H' v' (o - k) m → Q v' H'
abbrev st_Slots_sub : Stmt := inClass (top 21) 9
theorem sc_Slots_sub : FnScope ["self", "other"] ["self", "other"] (defScope st_Slots_sub) := ⟨rfl, rfl, rfl, by decide +kernel, rfl, by decide +kernel, by decide +kernel⟩
theorem ok_Slots_sub {f : Addr} {fd : FuncData} (F : Fun K "__sub__" "Slots.__sub__" st_Slots_sub f fd) (T : Txt K mg ad) (c_is_between : Cal P w K mg base 1 "is_between" (spBetw K)) (m_Slots_2 : Mak P w K mg base 3 "Slots" ad.c_Slots [] (spSlI ad)) :
    FnOk P w K mg base CX0 5 f fd ["self", "other"] (spSSub ad) := by
  refine F.ok sc_Slots_sub (fun vs H Q E h => ?_) (fun cdv A outer s H vs Q E hr h => ?_)
  · obtain (⟨v, o, m, k, rfl, ⟨a, dx, rfl, h1⟩, o0, m1, m2, k0, ko, q⟩) := h
    rfl
  · obtain (⟨v, o, m, k, rfl, ⟨a, dx, rfl, h1⟩, o0, m1, m2, k0, ko, q⟩) := h
    refine ⟨_, pss_cons (ps_if (pt_not (pt_val (pe_c c_is_between hr (by decide) (by rfl) (pa_cons (pv 1) (pa_cons pe_int (pa_cons (pe_fld (pv 0) rfl) pa_nil)))))) (pss_one ps_never) pss_nil)
      (pss_one (ps_ret (pe_n m_Slots_2 hr (by decide) (by rfl) (pa_cons (pe_op op_sub (pe_fld (pv 0) rfl) (pv 1)) (pa_cons (pe_fld (pv 0) rfl) pa_nil))))), ?_⟩
    have e1 : betD 0 o (.int k) = true := by simp [betD, k0, ko]
    walk_at "go"
    refine ⟨.int k, .int k, _, _, rfl, .inl (.int _), _, rfl, ?_⟩
    rw [e1]
    refine iteF ?_
    walk_at "go"
    rename_i x dx' nx nd ne
    exact smade1 nx nd ne (by omega) m1 m2 fun H' s h => ⟨rfl, q _ _ s h⟩
def spNxM : Sp := fun vs H Q _ => ∃ b l : Int, vs = [.int b, .int l] ∧ aOk l ∧ Q (.int ((b + l - 1) / l * l)) H
abbrev st_next_multiple : Stmt := top 18
theorem sc_next_multiple : FnScope ["number", "step"] ["number", "step"] (defScope st_next_multiple) := ⟨rfl, rfl, rfl, by decide +kernel, rfl, by decide +kernel, by decide +kernel⟩
theorem ok_next_multiple {f : Addr} {fd : FuncData} (F : Fun K "next_multiple" "next_multiple" st_next_multiple f fd) (T : Txt K mg ad)  :
    FnOk P w K mg base CX0 1 f fd ["number", "step"] spNxM := by
  refine F.ok sc_next_multiple (fun vs H Q E h => ?_) (fun cdv A outer s H vs Q E hr h => ?_)
  · obtain (⟨b, l, rfl, al, q⟩) := h
    rfl
  · obtain (⟨b, l, rfl, al, q⟩) := h
    refine ⟨_, pss_one (ps_ret (pe_op op_mul (pe_op op_fdiv (pe_op op_sub (pe_op op_add (pv 0) (pv 1)) pe_int) (pv 1)) (pv 1))), ?_⟩
    have l1 : 1 ≤ l ∧ l ≤ 16 := by rcases al with rfl | rfl | rfl | rfl | rfl <;> omega
    walk_at "go"
    exact q
def spFrom (ad : Ad) : Sp := fun vs H Q _ => ∃ v l m b, vs = [v, .int b] ∧ NxAt ad H v l m ∧ aOk l ∧ 1 ≤ m ∧ m ≤ 16 ∧ 0 ≤ b ∧ ∀ v' H', L2.Same H H' → SlAt ad H' v' ((b + l - 1) / l * l) m → Q v' H'
abbrev st_Next_from_offset : Stmt := inClass (top 22) 5
theorem sc_Next_from_offset : FnScope ["self", "offset"] ["self", "offset"] (defScope st_Next_from_offset) := ⟨rfl, rfl, rfl, by decide +kernel, rfl, by decide +kernel, by decide +kernel⟩
theorem ok_Next_from_offset {f : Addr} {fd : FuncData} (F : Fun K "from_offset" "Next.from_offset" st_Next_from_offset f fd) (T : Txt K mg ad) (c_is_count : Cal P w K mg base 1 "is_count" (spCount K)) (m_Slots_2 : Mak P w K mg base 3 "Slots" ad.c_Slots [] (spSlI ad)) (c_next_multiple : Cal P w K mg base 1 "next_multiple" spNxM) :
    FnOk P w K mg base CX0 5 f fd ["self", "offset"] (spFrom ad) := by
  refine F.ok sc_Next_from_offset (fun vs H Q E h => ?_) (fun cdv A outer s H vs Q E hr h => ?_)
  · obtain (⟨v, l, m, b, rfl, ⟨a, dx, rfl, h1⟩, al, m1, m2, b0, q⟩) := h
    rfl
  · obtain (⟨v, l, m, b, rfl, ⟨a, dx, rfl, h1⟩, al, m1, m2, b0, q⟩) := h
    refine ⟨_, pss_cons (ps_if (pt_not (pt_val (pe_c c_is_count hr (by decide) (by rfl) (pa_cons (pv 1) pa_nil)))) (pss_one ps_never) pss_nil)
      (pss_one (ps_ret (pe_n m_Slots_2 hr (by decide) (by rfl) (pa_cons (pe_c c_next_multiple hr (by decide) (by rfl) (pa_cons (pv 1) (pa_cons (pe_fld (pv 0) rfl) pa_nil))) (pa_cons (pe_fld (pv 0) rfl) pa_nil))))), ?_⟩
    have e1 : cntD (.int b) = true := by simp [cntD, b0]
    have p0 : 0 ≤ (b + l - 1) / l * l := by
      have l1 : 1 ≤ l ∧ l ≤ 16 := by rcases al with rfl | rfl | rfl | rfl | rfl <;> omega
      exact Int.mul_nonneg (Int.ediv_nonneg (by omega) (by omega)) (by omega)
    walk_at "go"
    refine ⟨.int b, .int b, rfl, .inl (.int _), _, rfl, ?_⟩
    rw [e1]
    refine iteF ?_
    walk_at "go"
    rename_i x dx' nx nd ne
    exact smade1 nx nd ne p0 m1 m2 fun H' s h => ⟨rfl, q _ _ s h⟩
def sTxt (o m : Int) : Str := Str.empty ++ Str.ofString "Slots(" ++ Str.ofString (toString o) ++ Str.ofString ", " ++ Str.ofString (toString m) ++ Str.ofString ")"
def spSRepr (ad : Ad) : Sp := fun vs H Q _ => ∃ v o m, vs = [v] ∧ SlAt ad H v o m ∧ 0 ≤ o ∧ o ≤ 1000000000000000000000 ∧ 1 ≤ m ∧ m ≤ 16 ∧ Q (.str (sTxt o m)) H
abbrev st_Slots_repr : Stmt := inClass (top 21) 11
theorem sc_Slots_repr : FnScope ["self"] ["self"] (defScope st_Slots_repr) := ⟨rfl, rfl, rfl, by decide +kernel, rfl, by decide +kernel, by decide +kernel⟩
theorem ok_Slots_repr {f : Addr} {fd : FuncData} (F : Fun K "__repr__" "Slots.__repr__" st_Slots_repr f fd) (T : Txt K mg ad)  :
    FnOk P w K mg base CX0 1 f fd ["self"] (spSRepr ad) := by
  refine F.ok sc_Slots_repr (fun vs H Q E h => ?_) (fun cdv A outer s H vs Q E hr h => ?_)
  · obtain (⟨v, o, m, rfl, ⟨a, dx, rfl, h1⟩, o0, o1, m1, m2, q⟩) := h
    rfl
  · obtain (⟨v, o, m, rfl, ⟨a, dx, rfl, h1⟩, o0, o1, m1, m2, q⟩) := h
    refine ⟨_, pss_one (ps_ret (pe_joined (PJ.cons pe_str (PJ.cons (pe_fmt (pe_fld (pv 0) rfl)) (PJ.cons pe_str (PJ.cons (pe_fmt (pe_fld (pv 0) rfl)) (PJ.cons pe_str PJ.nil))))))), ?_⟩
    have e0 : Str.empty.length = 0 := rfl
    have a1 : (Str.ofString "Slots(").length = 6 := by decide +kernel
    have a2 : (Str.ofString ", ").length = 2 := by decide +kernel
    have a3 : (Str.ofString ")").length = 1 := by decide +kernel
    have g1 := big_log o0 o1
    have g2 := big_log (i := m) (by omega) (by omega)
    have l1 := big_len o0 o1
    have l2 := big_len (i := m) (by omega) (by omega)
    walk_at "go"
    exact q
def nTxt (o m : Int) : Str := Str.empty ++ Str.ofString "Next(" ++ Str.ofString (toString o) ++ Str.ofString ", " ++ Str.ofString (toString m) ++ Str.ofString ")"
def spNRepr (ad : Ad) : Sp := fun vs H Q _ => ∃ v o m, vs = [v] ∧ NxAt ad H v o m ∧ aOk o ∧ 1 ≤ m ∧ m ≤ 16 ∧ Q (.str (nTxt o m)) H
abbrev st_Next_repr : Stmt := inClass (top 22) 7
theorem sc_Next_repr : FnScope ["self"] ["self"] (defScope st_Next_repr) := ⟨rfl, rfl, rfl, by decide +kernel, rfl, by decide +kernel, by decide +kernel⟩
theorem ok_Next_repr {f : Addr} {fd : FuncData} (F : Fun K "__repr__" "Next.__repr__" st_Next_repr f fd) (T : Txt K mg ad)  :
    FnOk P w K mg base CX0 1 f fd ["self"] (spNRepr ad) := by
  refine F.ok sc_Next_repr (fun vs H Q E h => ?_) (fun cdv A outer s H vs Q E hr h => ?_)
  · obtain (⟨v, o, m, rfl, ⟨a, dx, rfl, h1⟩, al, m1, m2, q⟩) := h
    rfl
  · obtain (⟨v, o, m, rfl, ⟨a, dx, rfl, h1⟩, al, m1, m2, q⟩) := h
    refine ⟨_, pss_one (ps_ret (pe_joined (PJ.cons pe_str (PJ.cons (pe_fmt (pe_fld (pv 0) rfl)) (PJ.cons pe_str (PJ.cons (pe_fmt (pe_fld (pv 0) rfl)) (PJ.cons pe_str PJ.nil))))))), ?_⟩
    have e0 : Str.empty.length = 0 := rfl
    have a1 : (Str.ofString "Next(").length = 5 := by decide +kernel
    have a2 : (Str.ofString ", ").length = 2 := by decide +kernel
    have a3 : (Str.ofString ")").length = 1 := by decide +kernel
    have o0 : 0 ≤ o ∧ o ≤ 16 := by rcases al with rfl | rfl | rfl | rfl | rfl <;> omega
    have g1 := big_log (i := o) (by omega) (by omega)
    have g2 := big_log (i := m) (by omega) (by omega)
    have l1 := big_len (i := o) (by omega) (by omega)
    have l2 := big_len (i := m) (by omega) (by omega)
    walk_at "go"
    exact q
def rTxt (g : Str) (n : Int) : Str := Str.empty ++ Str.ofString "Register(" ++ reprText g ++ Str.ofString ", " ++ Str.ofString (toString n) ++ Str.ofString ")"
def spRRepr (ad : Ad) : Sp := fun vs H Q _ => ∃ v o m, vs = [v] ∧ RegAt ad H v o m ∧ gOk o ∧ 0 ≤ m ∧ m ≤ 7 ∧ Q (.str (rTxt o m)) H
abbrev st_Register_repr : Stmt := inClass (top 20) 6
theorem sc_Register_repr : FnScope ["self"] ["self"] (defScope st_Register_repr) := ⟨rfl, rfl, rfl, by decide +kernel, rfl, by decide +kernel, by decide +kernel⟩
theorem ok_Register_repr {f : Addr} {fd : FuncData} (F : Fun K "__repr__" "Register.__repr__" st_Register_repr f fd) (T : Txt K mg ad)  :
    FnOk P w K mg base CX0 1 f fd ["self"] (spRRepr ad) := by
  refine F.ok sc_Register_repr (fun vs H Q E h => ?_) (fun cdv A outer s H vs Q E hr h => ?_)
  · obtain (⟨v, o, m, rfl, ⟨a, dx, p, rfl, h1⟩, og, m1, m2, q⟩) := h
    rfl
  · obtain (⟨v, o, m, rfl, ⟨a, dx, p, rfl, h1⟩, og, m1, m2, q⟩) := h
    refine ⟨_, pss_one (ps_ret (pe_joined (PJ.cons pe_str (PJ.cons (pe_fmtR (pe_fld (pv 0) rfl)) (PJ.cons pe_str (PJ.cons (pe_fmt (pe_fld (pv 0) rfl)) (PJ.cons pe_str PJ.nil))))))), ?_⟩
    have e0 : Str.empty.length = 0 := rfl
    have a1 : (Str.ofString "Register(").length = 9 := by decide +kernel
    have a2 : (Str.ofString ", ").length = 2 := by decide +kernel
    have a3 : (Str.ofString ")").length = 1 := by decide +kernel
    have g2 := big_log (i := m) (by omega) (by omega)
    have l2 := big_len (i := m) (by omega) (by omega)
    have l1 : (reprText o).length ≤ 7 := by rcases og with rfl | rfl <;> decide +kernel
    walk_at "go"
    exact q
end
end K11
set_option Elab.async false
set_option linter.all false
set_option maxRecDepth 100000
set_option maxHeartbeats 4000000


namespace K11
open PySem L2 UL ClX
local macro_rules | `(tactic| walk_at "txt") => `(tactic| first
  | ((with_reducible show PySem.W.kitOne _ (.ref _) (.ref _) = _); first | exact Txt.ks_Register_Place (by assumption) | exact Txt.ks_Slots_Place (by assumption) | exact Txt.ks_Next_Place (by assumption) | exact Txt.ks_Register_Slots (by assumption) | exact Txt.ks_Register_Next (by assumption) | exact Txt.ks_Slots_Register (by assumption) | exact Txt.ks_Slots_Next (by assumption) | exact Txt.ks_Next_Register (by assumption) | exact Txt.ks_Next_Slots (by assumption))
  | ((with_reducible show PySem.W.notFirst _ _ (.ref _) = _); first | exact Txt.nf_Register_Slots (by assumption) | exact Txt.nf_Register_Next (by assumption) | exact Txt.nf_Slots_Register (by assumption) | exact Txt.nf_Slots_Next (by assumption) | exact Txt.nf_Next_Register (by assumption) | exact Txt.nf_Next_Slots (by assumption))
  | ((with_reducible show L2.SqT _ _ _ _); first | exact Txt.t_GROUPS (by assumption) _ | exact Txt.t_ALIGNMENTS (by assumption) _)
  | ((with_reducible show L2.Cls _ _); first | exact UL.CIsi.cl (Txt.i_Place (by assumption)) | exact UL.CIsi.cl (Txt.i_Register (by assumption)) | exact UL.CIsi.cl (Txt.i_Slots (by assumption)) | exact UL.CIsi.cl (Txt.i_Next (by assumption)))
  | ((with_reducible show UL.CIsi _ _); first | exact Txt.i_Place (by assumption) | exact Txt.i_Register (by assumption) | exact Txt.i_Slots (by assumption) | exact Txt.i_Next (by assumption))
  | ((with_reducible show L2.NoAttr _ _ _); first | exact Txt.n_Register_group (by assumption) | exact Txt.n_Register_number (by assumption) | exact Txt.n_Register_code (by assumption) | exact Txt.n_Slots_offset (by assumption) | exact Txt.n_Slots_many (by assumption) | exact Txt.n_Next_align (by assumption) | exact Txt.n_Next_many (by assumption))
  | ((with_reducible show L2.TyX _ _ _ _); first | exact UL.CIsi.ty (Txt.i_Place (by assumption)) (by walk_at "look") | exact UL.CIsi.ty (Txt.i_Register (by assumption)) (by walk_at "look") | exact UL.CIsi.ty (Txt.i_Slots (by assumption)) (by walk_at "look") | exact UL.CIsi.ty (Txt.i_Next (by assumption)) (by walk_at "look"))
  | ((with_reducible show PySem.W.kitOne _ (.type _) (.ref _) = _); first | exact ((Txt.k_Place (by assumption)) _ (by simp)).1 | exact ((Txt.k_Register (by assumption)) _ (by simp)).1 | exact ((Txt.k_Slots (by assumption)) _ (by simp)).1 | exact ((Txt.k_Next (by assumption)) _ (by simp)).1)
  | ((with_reducible show _ = PySem.Value.ref _ ∨ _); first | exact .inl rfl | exact .inr ⟨_, rfl, Txt.no_Place (by assumption)⟩)
  | fail)
section
variable {P : Program} {w : World} {K : PySem.W.Frag} {mg : Str → Option Value} {base : Heap} {ad : Ad}
/-- _law_pick(pot, some): one of them -/
def spPick1 (K : PySem.W.Frag) : Sp := fun vs H Q _ => ∃ (p l : Addr) (xs : List V), vs = [.ref p, .ref l] ∧ Pot H p ∧ l ≠ p ∧ SqL K H l xs ∧ 0 < xs.length ∧ xs.length < 1073741824 ∧
  ∀ (i : Nat) (v : V) (H' : Hp), xs[i]? = some v → Pot H' p → Stay p H H' → Q v H'
/-- _law_pot(script, k): a new pot -/
def spPot (K : PySem.W.Frag) : Sp := fun vs H Q _ => ∃ (a : Addr) (ns : List Int) (k : Int), vs = [.ref a, .int k] ∧ SqL K H a (ns.map V.int) ∧ 0 ≤ k ∧ k ≤ 100 ∧
  ∀ (p : Addr) (H' : Hp), H p = none → Pot H' p → L2.Same H H' → Q (.ref p) H'
abbrev st_l_draw : Stmt := top 25
theorem sc_l_draw : FnScope ["_law_pot_here", "_law_size", "_law_digit"] ["_law_pot_here", "_law_size"] (defScope st_l_draw) := ⟨rfl, rfl, rfl, by decide +kernel, rfl, by decide +kernel, by decide +kernel⟩
theorem ok_l_draw {f : Addr} {fd : FuncData} (F : Fun K "_law_draw" "_law_draw" st_l_draw f fd) (T : Txt K mg ad)  :
    FnOk P w K mg base CX0 1 f fd ["_law_pot_here", "_law_size"] spDraw := by
  refine F.ok sc_l_draw (fun vs H Q E h => ?_) (fun cdv A outer s H vs Q E hr h => ?_)
  · obtain (⟨p, n, rfl, ⟨a, b, hp, hb0, hb1⟩, hn0, hn1, k⟩) := h
    rfl
  · obtain (⟨p, n, rfl, ⟨a, b, hp, hb0, hb1⟩, hn0, hn1, k⟩) := h
    refine ⟨_, pss_cons (ps_if (pt_cmpR op_gt (pe_ix ix_list (pv 0) pe_int (fun _ _ => rfl)) pe_int (nomark _)) (pss_cons (ps_asg (pe_callB call_divmod (by rfl) T.bi.divmod (by decide +kernel) (pa_cons (pe_ix ix_list (pv 0) pe_int (fun _ _ => rfl)) (pa_cons (pv 1) pa_nil))) (pg_tup rfl (pgs_cons (pg_sub (pv 0) pe_int set_list) (pgs_cons (pg_name (i := 2) sc_l_draw.nd rfl (Or.inl rfl)) pgs_nil))))
          (pss_one (ps_ret (pv 2)))) pss_nil)
      (pss_cons (ps_asg (pe_op op_mod (pe_callTy call_int1 (by rfl) T.bi.int (by decide +kernel) (pa_cons (pe_op op_add (pe_op op_mul (pe_ix ix_list (pv 0) pe_int (fun _ _ => rfl)) pe_int) pe_int) pa_nil)) pe_int) (pg_sub (pv 0) pe_int set_list))
      (pss_one (ps_ret (pe_op op_mod (pe_callTy call_int1 (by rfl) T.bi.int (by decide +kernel) (pa_cons (pe_op op_fdiv (pe_op op_mod (pe_callTy call_int1 (by rfl) T.bi.int (by decide +kernel) (pa_cons (pe_op op_mul (pe_ix ix_list (pv 0) pe_int (fun _ _ => rfl)) (pe_ix ix_list (pv 0) pe_int (fun _ _ => rfl))) pa_nil)) pe_int) pe_int) pa_nil)) (pv 1))))), ?_⟩
    -- if pot[0] > 0
    refine ⟨_, rfl, p, _, _, _, rfl, rfl, SqL.of hp, atI_nat (j := 0) rfl, _, _, rfl, rfl, _, rfl, ?_⟩
    by_cases c : 0 < a
    · rw [decide_eq_true c]
      refine iteT ?_
      refine ⟨_, rfl, p, _, _, _, rfl, rfl, SqL.of hp, atI_nat (j := 0) rfl, _, rfl, _, _, rfl, ⟨hn0, hn1⟩, fun t ht => ?_⟩
      have npt : p ≠ t := ne_of_none hp ht
      refine ⟨t, _, rfl, SqT.of upd_same, rfl, _, _, rfl, _, rfl, p, _, _, 0, rfl, rfl, (by rw [upd_ne npt]; exact hp), rfl, _, _, rfl, rfl, ?_⟩
      refine ⟨_, rfl, ?_⟩
      refine k _ _ (Int.emod_nonneg _ (by omega)) (Int.emod_lt_of_pos _ hn0) ⟨_, b, upd_same, hb0, hb1⟩ fun u o hu e => ?_
      rw [upd_ne hu, upd_ne (ne_of_none e ht)]
      exact e
    · rw [decide_eq_false c]
      refine iteF ?_
      refine ⟨_, rfl, p, _, _, _, rfl, rfl, SqL.of hp, atI_nat (j := 1) rfl, _, _, rfl, rfl, .inr ⟨by decide, by decide⟩, _, _, rfl, rfl, .inl ⟨_, rfl, _, _, rfl, rfl, (by show (0 : Int) < 2147483587; decide), ?_⟩⟩
      refine ⟨_, rfl, p, _, _, 1, rfl, rfl, hp, rfl, ?_⟩
      have e1 : 0 ≤ (b * 48271 + 12161) % 2147483587 := Int.emod_nonneg _ (by decide)
      have e2 : (b * 48271 + 12161) % 2147483587 < 2147483587 := Int.emod_lt_of_pos _ (by decide)
      dsimp only [List.set]
      generalize (b * 48271 + 12161) % 2147483587 = z at e1 e2 ⊢
      refine ⟨_, rfl, p, _, _, _, rfl, rfl, SqL.of upd_same, atI_nat (j := 1) rfl, _, rfl, p, _, _, _, rfl, rfl, SqL.of upd_same, atI_nat (j := 1) rfl, _, _, rfl, rfl, .inl ⟨by omega, by omega⟩, .inl ⟨_, rfl, _, _, rfl, rfl, (by show (0 : Int) < 2147483549; decide), _, _, rfl, rfl, ⟨by decide, by decide⟩,
        .inl ⟨_, rfl, _, rfl, _, _, rfl, rfl, hn0, ?_⟩⟩⟩
      exact k _ _ (Int.emod_nonneg _ (by omega)) (Int.emod_lt_of_pos _ hn0) ⟨a, z, upd_same, e1, by omega⟩ stay_upd
abbrev st_l_pick : Stmt := top 26
theorem sc_l_pick : FnScope ["_law_pot_here", "_law_some"] ["_law_pot_here", "_law_some"] (defScope st_l_pick) := ⟨rfl, rfl, rfl, by decide +kernel, rfl, by decide +kernel, by decide +kernel⟩
theorem ok_l_pick {f : Addr} {fd : FuncData} (F : Fun K "_law_pick" "_law_pick" st_l_pick f fd) (T : Txt K mg ad) (c_l_draw : Cal P w K mg base 1 "_law_draw" spDraw) :
    FnOk P w K mg base CX0 2 f fd ["_law_pot_here", "_law_some"] (spPick1 K) := by
  refine F.ok sc_l_pick (fun vs H Q E h => ?_) (fun cdv A outer s H vs Q E hr h => ?_)
  · obtain (⟨p, l, xs, rfl, hp, hne, hS, h0, h1, k⟩) := h
    rfl
  · obtain (⟨p, l, xs, rfl, hp, hne, hS, h0, h1, k⟩) := h
    refine ⟨_, pss_one (ps_ret (pe_ix ix_list (pv 1) (pe_c c_l_draw hr (by decide) (by rfl) (pa_cons (pv 0) (pa_cons (pe_callB call_len_seq (by rfl) T.bi.len (by decide +kernel) (pa_cons (pv 1) pa_nil)) pa_nil))) (fun _ _ => rfl))), ?_⟩
    refine ⟨_, rfl, _, rfl, _, rfl, l, xs, rfl, .inl hS, p, (xs.length : Int), rfl, hp, by omega, by omega, fun d H' d0 d1 hp' st => ?_⟩
    obtain ⟨j, rfl⟩ : ∃ j : Nat, d = (j : Int) := ⟨d.toNat, by omega⟩
    have hj : j < xs.length := by omega
    exact ⟨l, xs, _, xs[j], rfl, rfl, Stay.seqL st hne hS, atI_nat (List.getElem?_eq_getElem hj), k j _ H' (List.getElem?_eq_getElem hj) hp' st⟩
theorem pot_b (z k : Int) : 0 ≤ (z % 2147483549 + 7) * (2 * k + 3) ^ 3 % 2147483477 + 1 ∧ (z % 2147483549 + 7) * (2 * k + 3) ^ 3 % 2147483477 + 1 < 4294967296 := by
  have h1 := Int.emod_nonneg ((z % 2147483549 + 7) * (2 * k + 3) ^ 3) (show (2147483477 : Int) ≠ 0 by decide)
  have h2 := Int.emod_lt_of_pos ((z % 2147483549 + 7) * (2 * k + 3) ^ 3) (show (0 : Int) < 2147483477 by decide)
  omega
abbrev st_l_pot : Stmt := top 24
theorem sc_l_pot : FnScope ["_law_script", "_law_k", "_law_cell"] ["_law_script", "_law_k"] (defScope st_l_pot) := ⟨rfl, rfl, rfl, by decide +kernel, rfl, by decide +kernel, by decide +kernel⟩
theorem ok_l_pot {f : Addr} {fd : FuncData} (F : Fun K "_law_pot" "_law_pot" st_l_pot f fd) (T : Txt K mg ad)  :
    FnOk P w K mg base CX0 1 f fd ["_law_script", "_law_k"] (spPot K) := by
  refine F.ok sc_l_pot (fun vs H Q E h => ?_) (fun cdv A outer s H vs Q E hr h => ?_)
  · obtain (⟨a, ns, i, rfl, hS, i0, i1, k⟩) := h
    rfl
  · obtain (⟨a, ns, i, rfl, hS, i0, i1, k⟩) := h
    refine ⟨_, pss_cons (ps_set (i := 2) sc_l_pot.nd rfl (.inl rfl) (pe_op op_add (pe_op op_mul pe_int (pv 1)) pe_int))
      (pss_cons (ps_if (pt_cmpR op_lt (pv 1) (pe_callB call_len_seq (by rfl) T.bi.len (by decide +kernel) (pa_cons (pv 0) pa_nil)) (nomark _)) (pss_one (ps_set (i := 2) sc_l_pot.nd rfl (.inl rfl) (pe_callB call_abs (by rfl) T.bi.abs (by decide +kernel) (pa_cons (pe_ix ix_list (pv 0) (pv 1) (fun _ _ => rfl)) pa_nil)))) pss_nil)
      (pss_one (ps_ret (pe_lst (pa_cons (pe_callB (call_max2 rfl) (by rfl) T.bi.max (by decide +kernel) (pa_cons pe_int (pa_cons (pe_op op_sub (pv 2) (pe_op op_pow pe_int pe_int)) pa_nil))) (pa_cons (pe_op op_add (pe_op op_mod (pe_op op_mul (pe_callTy call_int1 (by rfl) T.bi.int (by decide +kernel) (pa_cons (pe_op op_add (pe_op op_mod (pe_callTy call_int1 (by rfl) T.bi.int (by decide +kernel) (pa_cons (pv 2) pa_nil)) pe_int) pe_int) pa_nil)) (pe_op op_pow (pe_op op_add (pe_op op_mul pe_int (pv 1)) pe_int) pe_int)) pe_int) pe_int) pa_nil)))))), ?_⟩
    refine ⟨_, rfl, _, _, rfl, rfl, .inl ⟨by decide, by decide⟩, _, _, rfl, rfl, ?_⟩
    refine ⟨_, rfl, _, rfl, a, _, rfl, .inl hS, _, _, rfl, rfl, _, rfl, ?_⟩
    have m1 : ∀ z : Int, -(2 ^ 64) < z % 2147483549 + 7 ∧ z % 2147483549 + 7 < 2 ^ 64 := fun z => by
      have h1 := Int.emod_nonneg z (show (2147483549 : Int) ≠ 0 by decide)
      have h2 := Int.emod_lt_of_pos z (show (0 : Int) < 2147483549 by decide)
      omega
    by_cases c : i < ((ns.map V.int).length : Int)
    · rw [decide_eq_true c]
      rw [List.length_map] at c
      obtain ⟨j, rfl⟩ : ∃ j : Nat, i = (j : Int) := ⟨i.toNat, by omega⟩
      have hj : j < ns.length := by omega
      refine iteT ⟨_, rfl, _, rfl, a, _, _, V.int ns[j], rfl, rfl, hS, atI_nat (by rw [List.getElem?_map, List.getElem?_eq_getElem hj]; rfl), _, rfl, ?_⟩
      generalize (if ns[j] < 0 then -ns[j] else ns[j]) = z
      refine ⟨_, rfl, _, _, rfl, rfl, ⟨by decide, by decide, by decide⟩, _, _, rfl, rfl, 0, _, rfl, ?_⟩
      refine ⟨_, rfl, .inl ⟨z, rfl, _, _, rfl, rfl, (by show (0 : Int) < 2147483549; decide), _, _, rfl, rfl, .inl ⟨_, rfl, _, rfl, _, _, rfl, rfl, .inl ⟨by decide, by decide⟩, _, _, rfl, rfl, _, _, rfl, rfl, ⟨by decide, by decide, by omega⟩, _, _, rfl, rfl,
        .inl (m1 z), _, _, rfl, rfl, (by show (0 : Int) < 2147483477; decide), _, _, rfl, rfl, (by show 2 ≤ sizeLine; decide), fun q hq => ?_⟩⟩⟩
      exact k q _ hq ⟨_, _, upd_same, pot_b z _⟩ (same_new hq)
    · rw [decide_eq_false c]
      refine iteF ?_
      refine ⟨_, rfl, _, _, rfl, rfl, ⟨by decide, by decide, by decide⟩, _, _, rfl, rfl, 0, _, rfl, ?_⟩
      refine ⟨_, rfl, .inl ⟨29 * i + 8, rfl, _, _, rfl, rfl, (by show (0 : Int) < 2147483549; decide), _, _, rfl, rfl, .inl ⟨_, rfl, _, rfl, _, _, rfl, rfl, .inl ⟨by decide, by decide⟩, _, _, rfl, rfl, _, _, rfl, rfl, ⟨by decide, by decide, by omega⟩, _, _, rfl, rfl,
        .inl (m1 _), _, _, rfl, rfl, (by show (0 : Int) < 2147483477; decide), _, _, rfl, rfl, (by show 2 ≤ sizeLine; decide), fun q hq => ?_⟩⟩⟩
      exact k q _ hq ⟨_, _, upd_same, pot_b _ _⟩ (same_new hq)
end
end K11
set_option Elab.async false
set_option linter.all false
set_option maxRecDepth 100000
set_option maxHeartbeats 4000000


namespace K11
open PySem L2 UL ClX
local macro_rules | `(tactic| walk_at "txt") => `(tactic| first
  | ((with_reducible show PySem.W.kitOne _ (.ref _) (.ref _) = _); first | exact Txt.ks_Register_Place (by assumption) | exact Txt.ks_Slots_Place (by assumption) | exact Txt.ks_Next_Place (by assumption) | exact Txt.ks_Register_Slots (by assumption) | exact Txt.ks_Register_Next (by assumption) | exact Txt.ks_Slots_Register (by assumption) | exact Txt.ks_Slots_Next (by assumption) | exact Txt.ks_Next_Register (by assumption) | exact Txt.ks_Next_Slots (by assumption))
  | ((with_reducible show PySem.W.notFirst _ _ (.ref _) = _); first | exact Txt.nf_Register_Slots (by assumption) | exact Txt.nf_Register_Next (by assumption) | exact Txt.nf_Slots_Register (by assumption) | exact Txt.nf_Slots_Next (by assumption) | exact Txt.nf_Next_Register (by assumption) | exact Txt.nf_Next_Slots (by assumption))
  | ((with_reducible show L2.SqT _ _ _ _); first | exact Txt.t_GROUPS (by assumption) _ | exact Txt.t_ALIGNMENTS (by assumption) _)
  | ((with_reducible show L2.Cls _ _); first | exact UL.CIsi.cl (Txt.i_Place (by assumption)) | exact UL.CIsi.cl (Txt.i_Register (by assumption)) | exact UL.CIsi.cl (Txt.i_Slots (by assumption)) | exact UL.CIsi.cl (Txt.i_Next (by assumption)))
  | ((with_reducible show UL.CIsi _ _); first | exact Txt.i_Place (by assumption) | exact Txt.i_Register (by assumption) | exact Txt.i_Slots (by assumption) | exact Txt.i_Next (by assumption))
  | ((with_reducible show L2.NoAttr _ _ _); first | exact Txt.n_Register_group (by assumption) | exact Txt.n_Register_number (by assumption) | exact Txt.n_Register_code (by assumption) | exact Txt.n_Slots_offset (by assumption) | exact Txt.n_Slots_many (by assumption) | exact Txt.n_Next_align (by assumption) | exact Txt.n_Next_many (by assumption))
  | ((with_reducible show L2.TyX _ _ _ _); first | exact UL.CIsi.ty (Txt.i_Place (by assumption)) (by walk_at "look") | exact UL.CIsi.ty (Txt.i_Register (by assumption)) (by walk_at "look") | exact UL.CIsi.ty (Txt.i_Slots (by assumption)) (by walk_at "look") | exact UL.CIsi.ty (Txt.i_Next (by assumption)) (by walk_at "look"))
  | ((with_reducible show PySem.W.kitOne _ (.type _) (.ref _) = _); first | exact ((Txt.k_Place (by assumption)) _ (by simp)).1 | exact ((Txt.k_Register (by assumption)) _ (by simp)).1 | exact ((Txt.k_Slots (by assumption)) _ (by simp)).1 | exact ((Txt.k_Next (by assumption)) _ (by simp)).1)
  | ((with_reducible show _ = PySem.Value.ref _ ∨ _); first | exact .inl rfl | exact .inr ⟨_, rfl, Txt.no_Place (by assumption)⟩)
  | fail)
local macro_rules | `(tactic| walk_at "side") => `(tactic| ((with_reducible show _ ≤ PySem.sizeLine); refine UL.line_ge ?_; simp only [PySem.Str.length_append]; omega))
def rgI (a b : Int) : List Int := (List.range (b - a).toNat).map fun i => a + (i : Nat)
theorem rgV_eq (a b : Int) : rgV a b = (rgI a b).map V.int := by
  unfold rgV rgI
  rw [List.map_map]
  rfl
theorem dp_ints {K : PySem.W.Frag} {H : Hp} : ∀ ns : List Int, DpAll K H (ns.map V.int) (ns.map PyData.int)
  | [] => .nil
  | n :: ns => .cons (.int n) (dp_ints ns)
theorem dp_bls {K : PySem.W.Frag} {H : Hp} : ∀ ns : List Bool, DpAll K H (ns.map V.bl) (ns.map PyData.bool)
  | [] => .nil
  | n :: ns => .cons (.bl n) (dp_bls ns)
theorem eqv_ints : ∀ ns ms : List Int, PyData.eqvAll (ns.map PyData.int) (ms.map PyData.int) = decide (ns = ms)
  | [], [] => by simp [PyData.eqvAll]
  | [], m :: ms => by simp [PyData.eqvAll]
  | n :: ns, [] => by simp [PyData.eqvAll]
  | n :: ns, m :: ms => by
    have := eqv_ints ns ms
    simp only [List.map_cons, PyData.eqvAll, PyData.eqv, this]
    by_cases c : n = m <;> by_cases d : ns = ms <;> simp [c, d]
theorem eqv_bls : ∀ ns ms : List Bool, PyData.eqvAll (ns.map PyData.bool) (ms.map PyData.bool) = decide (ns = ms)
  | [], [] => by simp [PyData.eqvAll]
  | [], m :: ms => by simp [PyData.eqvAll]
  | n :: ns, [] => by simp [PyData.eqvAll]
  | n :: ns, m :: ms => by
    have := eqv_bls ns ms
    simp only [List.map_cons, PyData.eqvAll, PyData.eqv, this]
    by_cases c : n = m <;> by_cases d : ns = ms <;> simp [c, d]
theorem shaped_ints (ns : List Int) : SeqAt.shaped (.list (ns.map PyData.int)) = true := shaped_of (by
  rw [PyData.canLay0]
  exact lay_all fun d hd => by
    obtain ⟨n, hn, rfl⟩ := List.mem_map.mp hd
    simp [PyData.canLay0]) (by
  have := depth_all (k := 0) (ds := ns.map PyData.int) fun d hd => by
    obtain ⟨n, hn, rfl⟩ := List.mem_map.mp hd
    simp [PyData.depth]
  simp only [PyData.depth]
  omega)
theorem shaped_bls (ns : List Bool) : SeqAt.shaped (.list (ns.map PyData.bool)) = true := shaped_of (by
  rw [PyData.canLay0]
  exact lay_all fun d hd => by
    obtain ⟨n, hn, rfl⟩ := List.mem_map.mp hd
    simp [PyData.canLay0]) (by
  have := depth_all (k := 0) (ds := ns.map PyData.bool) fun d hd => by
    obtain ⟨n, hn, rfl⟩ := List.mem_map.mp hd
    simp [PyData.depth]
  simp only [PyData.depth]
  omega)
/-- != and == of rows of numbers, of truths -/
theorem ne_ints {K : PySem.W.Frag} {H : Hp} {a b : Addr} {ns ms : List Int} {Q : VK} (ha : H a = some (.lst (ns.map V.int))) (hb : H b = some (.lst (ms.map V.int))) (q : Q (.bl (!decide (ns = ms))) H) : rNeD K (.ref a) (.ref b) H Q := by
  refine ⟨_, _, .lst (SqL.of ha) (dp_ints ns), .lst (SqL.of hb) (dp_ints ms), shaped_ints _, shaped_ints _, ?_⟩
  rw [PyData.eqv, eqv_ints]
  exact q
theorem eq_ints {K : PySem.W.Frag} {H : Hp} {a b : Addr} {ns ms : List Int} {Q : VK} (ha : H a = some (.lst (ns.map V.int))) (hb : H b = some (.lst (ms.map V.int))) (q : Q (.bl (decide (ns = ms))) H) : rEqD K (.ref a) (.ref b) H Q := by
  refine ⟨_, _, .lst (SqL.of ha) (dp_ints ns), .lst (SqL.of hb) (dp_ints ms), shaped_ints _, shaped_ints _, ?_⟩
  rw [PyData.eqv, eqv_ints]
  exact q
theorem ne_bls {K : PySem.W.Frag} {H : Hp} {a b : Addr} {ns ms : List Bool} {Q : VK} (ha : H a = some (.lst (ns.map V.bl))) (hb : H b = some (.lst (ms.map V.bl))) (q : Q (.bl (!decide (ns = ms))) H) : rNeD K (.ref a) (.ref b) H Q := by
  refine ⟨_, _, .lst (SqL.of ha) (dp_bls ns), .lst (SqL.of hb) (dp_bls ms), shaped_bls _, shaped_bls _, ?_⟩
  rw [PyData.eqv, eqv_bls]
  exact q
theorem eq_bls {K : PySem.W.Frag} {H : Hp} {a b : Addr} {ns ms : List Bool} {Q : VK} (ha : H a = some (.lst (ns.map V.bl))) (hb : H b = some (.lst (ms.map V.bl))) (q : Q (.bl (decide (ns = ms))) H) : rEqD K (.ref a) (.ref b) H Q := by
  refine ⟨_, _, .lst (SqL.of ha) (dp_bls ns), .lst (SqL.of hb) (dp_bls ms), shaped_bls _, shaped_bls _, ?_⟩
  rw [PyData.eqv, eqv_bls]
  exact q
theorem strok_two {g : Str} (h : gOk g) : PyData.strOk g = true := by
  rcases h with rfl | rfl <;> decide +kernel
/-- a word and two numbers -/
theorem ne_reg {K : PySem.W.Frag} {H : Hp} {a b : Addr} {g : Str} {n m : Int} {Q : VK} (og : gOk g) (ha : H a = some (.lst [.str g, .int n, .int m])) (hb : H b = some (.lst [.str g, .int n, .int m])) (q : Q (.bl false) H) : rNeD K (.ref a) (.ref b) H Q := by
  have z : ∀ {c : Addr}, H c = some (.lst [.str g, .int n, .int m]) → Dp K H (.ref c) (.list [.str g, .int n, .int m]) := fun h => .lst (SqL.of h) (.cons (.str _) (.cons (.int _) (.cons (.int _) .nil)))
  have l : PyData.canLay0 (.list [.str g, .int n, .int m]) = true := by simp [PyData.canLay0, PyData.canLayAll0, strok_two og]
  have s : SeqAt.shaped (.list [.str g, .int n, .int m]) = true := shaped_of l (by simp [PyData.depth, PyData.depthAll])
  refine ⟨_, _, z ha, z hb, s, s, ?_⟩
  rw [SeqAt.eqv_refl _ l]
  exact q
theorem two_at {i : Nat} {v : V} (e : [V.str (Str.ofString "whole"), V.str (Str.ofString "float")][i]? = some v) : ∃ g, v = .str g ∧ gOk g := by
  match i, e with
  | 0, e => exact ⟨_, (Option.some.inj e).symm, .inl rfl⟩
  | 1, e => exact ⟨_, (Option.some.inj e).symm, .inr rfl⟩
theorem reg_txt {g : Str} {n : Int} (og : gOk g) : rTxt g n = Str.ofString "Register('" ++ g ++ Str.ofString "', " ++ Str.ofString (toString n) ++ Str.ofString ")" := by
  unfold rTxt
  rcases og with rfl | rfl
  · rw [show Str.empty ++ Str.ofString "Register(" ++ reprText "whole" ++ Str.ofString ", " = Str.ofString "Register('" ++ "whole" ++ Str.ofString "', " by decide +kernel]
  · rw [show Str.empty ++ Str.ofString "Register(" ++ reprText "float" ++ Str.ofString ", " = Str.ofString "Register('" ++ "float" ++ Str.ofString "', " by decide +kernel]
section
variable {P : Program} {w : World} {K : PySem.W.Frag} {mg : Str → Option Value} {base : Heap} {ad : Ad}
def spBytes : Sp := fun vs H Q _ => ∃ a m : Int, vs = [.int a, .int m] ∧ 1 ≤ m ∧ m ≤ 16 ∧ ∀ l, H l = none → Q (.ref l) (upd H l (.lst ((rgI a (a + m)).map V.int)))
abbrev st_l_bytes : Stmt := top 28
theorem sc_l_bytes : FnScope ["_law_start", "_law_big"] ["_law_start", "_law_big"] (defScope st_l_bytes) := ⟨rfl, rfl, rfl, by decide +kernel, rfl, by decide +kernel, by decide +kernel⟩
theorem ok_l_bytes {f : Addr} {fd : FuncData} (F : Fun K "_law_bytes" "_law_bytes" st_l_bytes f fd) (T : Txt K mg ad)  :
    FnOk P w K mg base CX0 1 f fd ["_law_start", "_law_big"] spBytes := by
  refine F.ok sc_l_bytes (fun vs H Q E h => ?_) (fun cdv A outer s H vs Q E hr h => ?_)
  · obtain (⟨a, m, rfl, m1, m2, q⟩) := h
    rfl
  · obtain (⟨a, m, rfl, m1, m2, q⟩) := h
    refine ⟨_, pss_one (ps_ret (pe_listRgA rfl (by rfl) T.bi.list (prg_2 (by rfl) T.bi.range (pv 0) (pe_op op_add (pv 0) (pv 1))))), ?_⟩
    rw [← rgV_eq] at q
    walk_at "go"
    exact q _ (by assumption)
def spRegsR : Sp := fun vs H Q _ => ∃ p : Addr, vs = [.ref p] ∧ Pot H p ∧ ∀ H', Pot H' p → Stay p H H' → Q (.bl true) H'
set_option maxHeartbeats 40000000
abbrev st_l_registers_right : Stmt := top 27
theorem sc_l_registers_right : FnScope ["_law_pot_here", "_law_side", "_law_number_now", "_law_near", "_law_again", "_law_other_group", "_law_k"] ["_law_pot_here"] (defScope st_l_registers_right) := ⟨rfl, rfl, rfl, by decide +kernel, rfl, by decide +kernel, by decide +kernel⟩
theorem ok_l_registers_right {f : Addr} {fd : FuncData} (F : Fun K "_law_registers_right" "_law_registers_right" st_l_registers_right f fd) (T : Txt K mg ad) (c_l_pick : Cal P w K mg base 2 "_law_pick" (spPick1 K)) (c_l_draw : Cal P w K mg base 1 "_law_draw" spDraw) (m_Register_2 : Mak P w K mg base 3 "Register" ad.c_Register [] (spRegI ad)) (m_Register_0_number_group : MakK P w K mg base 3 "Register" ad.c_Register ["number", "group"] gQ (spRegI ad)) (c_Register_group : CalP P w K mg base 1 ad.c_Register "group" (spRGet ad fun g _ => .str g)) (c_Register_number : CalP P w K mg base 1 ad.c_Register "number" (spRGet ad fun _ n => .int n)) (c_Register_bits : CalP P w K mg base 1 ad.c_Register "bits" (spRGet ad fun _ _ => .int 64)) (c_Register_eq : CalS P w K mg base 1 ad.c_Register "__eq__" (spREq K ad)) (c_Place_bits : CalP P w K mg base 1 ad.c_Place "bits" spPBits) (c_Register_repr : CalS P w K mg base 1 ad.c_Register "__repr__" (spRRepr ad)) :
    FnOk P w K mg base CX0 5 f fd ["_law_pot_here"] spRegsR := by
  refine F.ok sc_l_registers_right (fun vs H Q E h => ?_) (fun cdv A outer s H vs Q E hr h => ?_)
  · obtain (⟨p, rfl, hp, q⟩) := h
    rfl
  · obtain (⟨p, rfl, hp, q⟩) := h
    refine ⟨_, pss_cons (ps_par (i := 1) (j := 2) rfl sc_l_registers_right.nd rfl rfl (by decide) rfl rfl (pa_cons (pe_c c_l_pick hr (by decide) (by rfl) (pa_cons (pv 0) (pa_cons (pe_lst (pa_cons pe_str (pa_cons pe_str pa_nil))) pa_nil))) (pa_cons (pe_c c_l_draw hr (by decide) (by rfl) (pa_cons (pv 0) (pa_cons pe_int pa_nil))) pa_nil)) (by rfl))
      (pss_cons (ps_par (i := 3) (j := 4) rfl sc_l_registers_right.nd rfl rfl (by decide) rfl rfl (pa_cons (pe_n m_Register_2 hr (by decide) (by rfl) (pa_cons (pv 1) (pa_cons (pv 2) pa_nil))) (pa_cons (pe_nK m_Register_0_number_group hr (by decide) (by rfl) (pk_cons (pv 2) (pk_cons (pv 1) pk_nil))) pa_nil)) (by rfl))
      (pss_cons (ps_if (PW.pt (pw_or (pt_cmpR (op_neD hr.units) (pe_lst (pa_cons (pe_p (pv 3) c_Register_group hr (by decide) (by rfl)) (pa_cons (pe_p (pv 3) c_Register_number hr (by decide) (by rfl)) (pa_cons (pe_p (pv 3) c_Register_bits hr (by decide) (by rfl)) pa_nil)))) (pe_lst (pa_cons (pv 1) (pa_cons (pv 2) (pa_cons pe_int pa_nil)))) (nomark _)) (pw_or1 (pt_not (pt_cmpR (op_eqS c_Register_eq hr (by decide)) (pv 3) (pv 4) (nomark _)))))) (pss_one (ps_ret pe_bl)) pss_nil)
      (pss_cons (ps_if (pt_cmpR op_ne (pe_p (pe_mk0 T.z_Place T.g_Place (by rfl)) c_Place_bits hr (by decide) (by rfl)) pe_int (nomark _)) (pss_one (ps_ret pe_bl)) pss_nil)
      (pss_cons (ps_if (pt_cmpR op_ne (pe_callB (call_reprS c_Register_repr hr (by decide)) (by rfl) T.bi.repr (by decide +kernel) (pa_cons (pv 3) pa_nil)) (pe_op op_add_str (pe_op op_add_str (pe_op op_add_str (pe_op op_add_str pe_str (pv 1)) pe_str) (pe_callTy call_str_int (by rfl) T.bi.str (by decide +kernel) (pa_cons (pv 2) pa_nil))) pe_str) (nomark _)) (pss_one (ps_ret pe_bl)) pss_nil)
      (pss_cons (ps_if (pt_not (pt_val (pe_callB call_isi (by rfl) T.bi.isinstance (by decide +kernel) (pa_cons (pv 3) (pa_cons (pe_glob (v := .ref ad.c_Place) (by rfl) T.g_Place rfl) pa_nil))))) (pss_one (ps_ret pe_bl)) pss_nil)
      (pss_cons (ps_for PassesOwn.never rfl (pi_list (pe_lst (pa_cons pe_str (pa_cons pe_str pa_nil)))) (pg_name (i := 5) sc_l_registers_right.nd rfl (Or.inl rfl))
        (pss_one (ps_for PassesOwn.never rfl (pi_range1 (by rfl) T.bi.range (pa_cons pe_int pa_nil)) (pg_name (i := 6) sc_l_registers_right.nd rfl (Or.inl rfl))
            (pss_one (ps_if (pt_cmpR op_ne (pe_cmpR (op_eqS c_Register_eq hr (by decide)) (pv 3) (pe_n m_Register_2 hr (by decide) (by rfl) (pa_cons (pv 5) (pa_cons (pv 6) pa_nil))) (nomark _)) (pe_and (pe_cmpR op_eq (pv 5) (pv 1) (nomark _)) (pe_one (pe_cmpR op_eq (pv 6) (pv 2) (nomark _)))) (nomark _)) (pss_one (ps_ret pe_bl)) pss_nil)))))
      (pss_one (ps_ret pe_bl)))))))), ?_⟩
    have nf : PySem.W.notFirst K ad.c_Register (.ref ad.c_Register) = true := by simp [PySem.W.notFirst]
    refine seq_cut (fun σ' H' => ∃ g n, σ' = [some (.ref p), some (.str g), some (.int n), none, none, none, none] ∧ gOk g ∧ 0 ≤ n ∧ n ≤ 7 ∧ Pot H' p ∧ Stay p H H') (fun σ1 H1 ⟨g, n, es, og, n0, n7, p1, st1⟩ => ?_) (fun Nx rest => ?_)
    rotate_left
    · clear q
      walk_at "go"
      rename_i l1 hl1 i v H1 e1 p1 st1 d H2 d0 d1 p2 st2
      obtain ⟨g, rfl, og⟩ := two_at e1
      exact rest _ _ ⟨g, d, rfl, og, d0, by omega, p2, Stay.trans (Stay.trans (UL.Same.stay (same_new hl1) p) st1) st2⟩
    subst es
    refine seq_cut (fun σ' H' => ∃ a b, σ' = [some (.ref p), some (.str g), some (.int n), some (.ref a), some (.ref b), none, none] ∧ RegAt ad H' (.ref a) g n ∧ RegAt ad H' (.ref b) g n ∧ Pot H' p ∧ Stay p H H') (fun σ2 H2 ⟨a, b, es, ra, rb, p2, st2⟩ => ?_) (fun Nx rest => ?_)
    rotate_left
    · clear q
      walk_at "go"
      rename_i x dx nx nd ne
      refine rmade1 nx nd ne og n0 n7 fun H2 s2 ra => ⟨rfl, ?_⟩
      walk_at "go"
      rename_i y dy ny ndy ney
      refine rmade1 ny ndy ney og n0 n7 fun H3 s3 rb => ⟨rfl, ?_⟩
      have s13 := L2.Same.trans s2 s3
      walk_at "go"
      exact rest _ _ ⟨x, y, rfl, ra.same s3, rb, p1.same s13, Stay.trans st1 (UL.Same.stay s13 p)⟩
    subst es
    refine seq_cut (fun σ' H' => σ' = [some (.ref p), some (.str g), some (.int n), some (.ref a), some (.ref b), none, none] ∧ L2.Same H2 H') (fun σ3 H3 ⟨es, s3⟩ => ?_) (fun Nx rest => ?_)
    rotate_left
    · obtain ⟨a', dx, px, ea, x1⟩ := id ra
      cases ea
      obtain ⟨b', dy, py, eb, y1⟩ := id rb
      cases eb
      clear q
      walk_at "go"
      rename_i l1 hl1 l2 hl2
      dsimp only at hl2 ⊢
      have s1 := same_new (o := .lst [V.str g, V.int n, V.int 64]) hl1
      have s2 := same_new (o := .lst [V.str g, V.int n, V.int 64]) hl2
      have sA := L2.Same.trans s1 s2
      have ra2 := ra.same sA
      have rb2 := rb.same sA
      have x2 := sA _ _ x1
      have y2 := sA _ _ y1
      refine ne_reg og (s2 _ _ upd_same) upd_same ?_
      generalize upd (upd H2 l1 (.lst [V.str g, V.int n, V.int 64])) l2 (.lst [V.str g, V.int n, V.int 64]) = H3 at sA ra2 rb2 x2 y2 ⊢
      clear s1 s2 hl1 hl2
      have e1 : (decide (g = g) && decide (n = n)) = true := by simp
      walk_at "go"
      refine ⟨_, _, g, n, _, rfl, ra2, .inl ⟨g, n, rb2, rfl⟩, ?_⟩
      rw [e1]
      walk_at "go"
      exact rest _ _ ⟨rfl, sA⟩
    subst es
    refine seq_cut (fun σ' H' => σ' = [some (.ref p), some (.str g), some (.int n), some (.ref a), some (.ref b), none, none] ∧ L2.Same H2 H') (fun σ4 H4 ⟨es, s4⟩ => ?_) (fun Nx rest => ?_)
    rotate_left
    · clear q
      walk_at "go"
      rename_i x dx nx nd ne
      exact rest _ _ ⟨rfl, L2.Same.trans s3 (L2.Same.trans (same_new nd) (same_new (by rw [upd_ne ne.symm]; exact nx)))⟩
    subst es
    clear s3
    refine seq_cut (fun σ' H' => σ' = [some (.ref p), some (.str g), some (.int n), some (.ref a), some (.ref b), none, none] ∧ H' = H4) (fun σ5 H5 ⟨es, eH⟩ => ?_) (fun Nx rest => ?_)
    rotate_left
    · have ra4 := ra.same s4
      obtain ⟨a', dx, px, ea, x1⟩ := id ra4
      cases ea
      clear q
      have a1 : (Str.ofString "Register('").length = 10 := by decide +kernel
      have a2 : (Str.ofString "', ").length = 3 := by decide +kernel
      have a3 : (Str.ofString ")").length = 1 := by decide +kernel
      have lg : g.length ≤ 5 := by rcases og with rfl | rfl <;> decide +kernel
      have g2 := big_log (i := n) n0 (by omega)
      have l2 := big_len (i := n) n0 (by omega)
      have rT := reg_txt (n := n) og
      walk_at "go"
      exact rest _ _ ⟨rfl, rfl⟩
    subst es eH
    refine seq_cut (fun σ' H' => σ' = [some (.ref p), some (.str g), some (.int n), some (.ref a), some (.ref b), none, none] ∧ H' = H5) (fun σ6 H6 ⟨es, eH⟩ => ?_) (fun Nx rest => ?_)
    rotate_left
    · have ra4 := ra.same s4
      obtain ⟨a', dx, px, ea, x1⟩ := id ra4
      cases ea
      clear q
      walk_at "go"
      exact rest _ _ ⟨rfl, rfl⟩
    subst es eH
    refine seq_cut (fun σ' H' => (∃ u w : Option V, σ' = [some (.ref p), some (.str g), some (.int n), some (.ref a), some (.ref b), u, w]) ∧ L2.Same H2 H') (fun σ7 H7 ⟨⟨u, w, es⟩, s7⟩ => ?_) (fun Nx rest => ?_)
    rotate_left
    · clear q
      walk_at "go"
      rename_i l1 hl1
      have s5 := L2.Same.trans s4 (same_new (o := .lst [V.str (Str.ofString "whole"), V.str (Str.ofString "float")]) hl1)
      have hl : upd H6 l1 (.lst [V.str (Str.ofString "whole"), V.str (Str.ofString "float")]) l1 = some (.lst [V.str (Str.ofString "whole"), V.str (Str.ofString "float")]) := upd_same
      generalize upd H6 l1 (.lst [V.str (Str.ofString "whole"), V.str (Str.ofString "float")]) = H7 at s5 hl ⊢
      refine ⟨⟨_, SqL.of hl⟩, ?_⟩
      refine for_it (walk_list (xs := [V.str (Str.ofString "whole"), V.str (Str.ofString "float")])) (fun i σ H' => Hold ((∃ u w : Option V, σ = [some (.ref p), some (.str g), some (.int n), some (.ref a), some (.ref b), u, w]) ∧ L2.Same H7 H')) (Hold.mk ⟨⟨_, _, rfl⟩, L2.Same.refl _⟩) (fun i σ H' _ hh => ?_) (fun i x σ H8 H' hi hh hy => ?_) (fun σ H8 hh => ?_)
      · exact SqL.of (hh.out.2 _ _ hl)
      · obtain ⟨⟨u, w, es⟩, s8⟩ := hh.out
        clear hh
        subst es
        obtain ⟨rfl, hy⟩ := hy
        obtain ⟨g', rfl, og'⟩ := two_at hy
        walk_at "go"
        refine for_it walk_range (fun k σ H' => Hold ((∃ w : Option V, σ = [some (.ref p), some (.str g), some (.int n), some (.ref a), some (.ref b), some (.str g'), w]) ∧ L2.Same H7 H')) (Hold.mk ⟨⟨_, rfl⟩, s8⟩) (fun _ _ _ _ _ => trivial) (fun k x σ H9 H10 hk hh hy => ?_) (fun σ H9 hh => ?_)
        · obtain ⟨⟨w, es⟩, s9⟩ := hh.out
          clear hh
          subst es
          obtain ⟨rfl, rfl⟩ := hy
          walk_at "go"
          rename_i y dy ny ndy ney
          refine rmade1 ny ndy ney og' (by omega) (by omega) fun H11 s11 rc => ⟨rfl, ?_⟩
          have sB := L2.Same.trans (L2.Same.trans s5 s9) s11
          have s7 := L2.Same.trans s9 s11
          have ra11 := ra.same sB
          obtain ⟨a', dx, px, ea, x1⟩ := id ra11
          cases ea
          obtain ⟨c', dc, pc, ec, c1⟩ := id rc
          cases ec
          refine ⟨a, dx, _, _, rfl, x1, T.i_Register.ty c1, nf, ?_⟩
          refine ⟨_, _, g, n, _, rfl, ra11, .inl ⟨g', _, rc, rfl⟩, ?_⟩
          clear s9 s11 sB ra11 x1 rc c1 ny ndy s8 hl hy
          walk_at "go"
          by_cases c : g = g'
          · subst c
            rw [show decide (V.str g = V.str g) = true by simp]
            refine iteT ?_
            have e2 : decide (V.int (0 + (k : Int)) = V.int n) = (decide (g = g) && decide (n = 0 + (k : Int))) := by
              rw [decide_eq_true rfl, Bool.true_and]
              exact decide_eq_decide.mpr ⟨fun h => by cases h; rfl, fun h => by rw [h]⟩
            generalize (decide (g = g) && decide (n = 0 + (k : Int))) = r at e2 ⊢
            walk_at "go"
            refine UL.iteFo' ?_ ?_
            · rw [e2]
              simp
            exact Hold.mk ⟨⟨_, rfl⟩, s7⟩
          · rw [show decide (V.str g' = V.str g) = false from decide_eq_false fun h => c (by cases h; rfl)]
            rw [decide_eq_false c, Bool.false_and]
            refine iteF ?_
            walk_at "go"
            exact Hold.mk ⟨⟨_, rfl⟩, s7⟩
        · obtain ⟨⟨w, es⟩, s9⟩ := hh.out
          exact Hold.mk ⟨⟨_, w, es⟩, s9⟩
      · obtain ⟨⟨u, w, es⟩, s8⟩ := hh.out
        exact rest _ _ ⟨⟨u, w, es⟩, L2.Same.trans s5 s8⟩
    subst es
    walk_at "go"
    exact q _ (p2.same s7) (Stay.trans st2 (UL.Same.stay s7 p))
end
end K11
set_option Elab.async false
set_option linter.all false
set_option maxRecDepth 100000
set_option maxHeartbeats 4000000


namespace K11
open PySem L2 UL ClX
local macro_rules | `(tactic| walk_at "txt") => `(tactic| first
  | ((with_reducible show PySem.W.kitOne _ (.ref _) (.ref _) = _); first | exact Txt.ks_Register_Place (by assumption) | exact Txt.ks_Slots_Place (by assumption) | exact Txt.ks_Next_Place (by assumption) | exact Txt.ks_Register_Slots (by assumption) | exact Txt.ks_Register_Next (by assumption) | exact Txt.ks_Slots_Register (by assumption) | exact Txt.ks_Slots_Next (by assumption) | exact Txt.ks_Next_Register (by assumption) | exact Txt.ks_Next_Slots (by assumption))
  | ((with_reducible show PySem.W.notFirst _ _ (.ref _) = _); first | exact Txt.nf_Register_Slots (by assumption) | exact Txt.nf_Register_Next (by assumption) | exact Txt.nf_Slots_Register (by assumption) | exact Txt.nf_Slots_Next (by assumption) | exact Txt.nf_Next_Register (by assumption) | exact Txt.nf_Next_Slots (by assumption))
  | ((with_reducible show L2.SqT _ _ _ _); first | exact Txt.t_GROUPS (by assumption) _ | exact Txt.t_ALIGNMENTS (by assumption) _)
  | ((with_reducible show L2.Cls _ _); first | exact UL.CIsi.cl (Txt.i_Place (by assumption)) | exact UL.CIsi.cl (Txt.i_Register (by assumption)) | exact UL.CIsi.cl (Txt.i_Slots (by assumption)) | exact UL.CIsi.cl (Txt.i_Next (by assumption)))
  | ((with_reducible show UL.CIsi _ _); first | exact Txt.i_Place (by assumption) | exact Txt.i_Register (by assumption) | exact Txt.i_Slots (by assumption) | exact Txt.i_Next (by assumption))
  | ((with_reducible show L2.NoAttr _ _ _); first | exact Txt.n_Register_group (by assumption) | exact Txt.n_Register_number (by assumption) | exact Txt.n_Register_code (by assumption) | exact Txt.n_Slots_offset (by assumption) | exact Txt.n_Slots_many (by assumption) | exact Txt.n_Next_align (by assumption) | exact Txt.n_Next_many (by assumption))
  | ((with_reducible show L2.TyX _ _ _ _); first | exact UL.CIsi.ty (Txt.i_Place (by assumption)) (by walk_at "look") | exact UL.CIsi.ty (Txt.i_Register (by assumption)) (by walk_at "look") | exact UL.CIsi.ty (Txt.i_Slots (by assumption)) (by walk_at "look") | exact UL.CIsi.ty (Txt.i_Next (by assumption)) (by walk_at "look"))
  | ((with_reducible show PySem.W.kitOne _ (.type _) (.ref _) = _); first | exact ((Txt.k_Place (by assumption)) _ (by simp)).1 | exact ((Txt.k_Register (by assumption)) _ (by simp)).1 | exact ((Txt.k_Slots (by assumption)) _ (by simp)).1 | exact ((Txt.k_Next (by assumption)) _ (by simp)).1)
  | ((with_reducible show _ = PySem.Value.ref _ ∨ _); first | exact .inl rfl | exact .inr ⟨_, rfl, Txt.no_Place (by assumption)⟩)
  | fail)
local macro_rules | `(tactic| walk_at "side") => `(tactic| ((with_reducible show _ ≤ PySem.sizeLine); refine UL.line_ge ?_; simp only [PySem.Str.length_append]; omega))
theorem in_ints (x : Int) (xs : List Int) : inV (.int x) (xs.map V.int) = decide (x ∈ xs) := by
  unfold inV
  rw [Bool.eq_iff_iff, List.any_eq_true, decide_eq_true_iff]
  constructor
  · rintro ⟨y, hy, e⟩
    obtain ⟨z, hz, rfl⟩ := List.mem_map.mp hy
    simp [eqV] at e
    first | (rw [e]; exact hz) | (rw [← e]; exact hz)
  · intro h
    exact ⟨_, List.mem_map.mpr ⟨x, h, rfl⟩, by simp [eqV]⟩
theorem mem_rgI {a b x : Int} : x ∈ rgI a b ↔ a ≤ x ∧ x < b := by
  unfold rgI
  constructor
  · intro h
    obtain ⟨i, hi, rfl⟩ := List.mem_map.mp h
    have := List.mem_range.mp hi
    omega
  · intro h
    exact List.mem_map.mpr ⟨(x - a).toNat, List.mem_range.mpr (by omega), by omega⟩
theorem bet_mem {o m n : Int} : betD o (o + m - 1) (.int n) = decide (n ∈ rgI o (o + m)) := by
  show (decide (o ≤ n) && decide (n ≤ o + m - 1)) = _
  rw [Bool.eq_iff_iff, Bool.and_eq_true, decide_eq_true_iff, decide_eq_true_iff, decide_eq_true_iff, mem_rgI]
  omega
theorem at_int1 {ns : List Int} {i : Nat} {y : V} (h : (ns.map V.int)[i]? = some y) : ∃ n, ns[i]? = some n ∧ y = .int n := by
  rw [List.getElem?_map] at h
  obtain ⟨n, h1, h2⟩ := Option.map_eq_some_iff.mp h
  exact ⟨n, h1, h2.symm⟩
theorem map_no {n : Nat} : (List.range n).map (fun _ => V.bl false) = (List.replicate n false).map V.bl := by
  rw [List.map_const', List.map_replicate, List.length_range]
theorem len_rgI {o m : Int} (h : 1 ≤ m) : ((rgI o (o + m)).map V.int).length = m.toNat := by
  unfold rgI
  rw [List.length_map, List.length_map, List.length_range]
  omega
theorem last_rgI {o m : Int} (h : 1 ≤ m) : atI ((rgI o (o + m)).map V.int) (-1) = some (.int (o + m - 1)) := by
  have e : rgI o (o + m) = rgI o (o + m - 1) ++ [o + m - 1] := by
    unfold rgI
    have z : (o + m - o).toNat = (o + m - 1 - o).toNat + 1 := by omega
    rw [z, List.range_succ, List.map_append, List.map_singleton]
    congr 2
    omega
  rw [e, List.map_append]
  exact atI_last _ _
theorem repr_two2 {K : PySem.W.Frag} {H : Hp} {l : Addr} {x y : Bool} {Q : VK} (h : H l = some (.lst [.bl x, .bl y])) (q : Q (.str (PyData.list [.bool x, .bool y]).shown) H) : rReprD K [.ref l] H Q :=
  ⟨.ref l, _, rfl, .lst (SqL.of h) (.cons (.bl _) (.cons (.bl _) .nil)), by cases x <;> cases y <;> decide +kernel, by cases x <;> cases y <;> decide +kernel, by cases x <;> cases y <;> decide +kernel, line_ge (by cases x <;> cases y <;> decide +kernel), q⟩
theorem four_at {m d : Int} {i : Nat} {v : V} (m1 : 1 ≤ m) (m2 : m ≤ 16) (d0 : 0 ≤ d) (d1 : d < 16) (e : [V.int m, V.int 1, V.int 16, V.int (1 + d)][i]? = some v) : ∃ k, v = .int k ∧ 1 ≤ k ∧ k ≤ 16 := by
  match i, e with
  | 0, e => exact ⟨_, (Option.some.inj e).symm, m1, m2⟩
  | 1, e => exact ⟨_, (Option.some.inj e).symm, by omega, by omega⟩
  | 2, e => exact ⟨_, (Option.some.inj e).symm, by omega, by omega⟩
  | 3, e => exact ⟨_, (Option.some.inj e).symm, by omega, by omega⟩
theorem rgI_inj {o m o' m' : Int} (h : 1 ≤ m) (h' : 1 ≤ m') : decide (rgI o (o + m) = rgI o' (o' + m')) = (decide (o = o') && decide (m = m')) := by
  rw [Bool.eq_iff_iff, Bool.and_eq_true, decide_eq_true_iff, decide_eq_true_iff, decide_eq_true_iff]
  constructor
  · intro e
    have a1 : o ∈ rgI o' (o' + m') := e ▸ mem_rgI.mpr (by omega)
    have a2 : o' ∈ rgI o (o + m) := e.symm ▸ mem_rgI.mpr (by omega)
    have a3 : o + m - 1 ∈ rgI o' (o' + m') := e ▸ mem_rgI.mpr (by omega)
    have a4 : o' + m' - 1 ∈ rgI o (o + m) := e.symm ▸ mem_rgI.mpr (by omega)
    rw [mem_rgI] at a1 a2 a3 a4
    omega
  · rintro ⟨rfl, rfl⟩
    rfl
theorem at_rgI {a b : Int} {i : Nat} {y : V} (h : ((rgI a b).map V.int)[i]? = some y) : y = .int (a + (i : Int)) := by
  unfold rgI at h
  rw [List.map_map, List.getElem?_map] at h
  obtain ⟨j, h1, h2⟩ := Option.map_eq_some_iff.mp h
  obtain ⟨h3, h4⟩ := List.getElem?_eq_some_iff.mp h1
  rw [List.getElem_range] at h4
  subst h4
  exact h2.symm
theorem filt_pos {o m oo om : Int} (m1 : 1 ≤ m) (om1 : 1 ≤ om) : decide ((0 : Int) < (((((List.range m.toNat).filter fun i : Nat => decide (o + (i : Int) ∈ rgI oo (oo + om))).map fun i : Nat => V.int (o + (i : Int))).length : Nat) : Int)) = (decide (o < oo + om) && decide (oo < o + m)) := by
  rw [Bool.eq_iff_iff, Bool.and_eq_true, decide_eq_true_iff, decide_eq_true_iff, decide_eq_true_iff, List.length_map]
  constructor
  · intro h
    have h : 0 < ((List.range m.toNat).filter fun i : Nat => decide (o + (i : Int) ∈ rgI oo (oo + om))).length := by omega
    obtain ⟨i, hi⟩ := List.exists_mem_of_length_pos h
    obtain ⟨h1, h2⟩ := List.mem_filter.mp hi
    have h1 := List.mem_range.mp h1
    have h2 := mem_rgI.mp (of_decide_eq_true h2)
    omega
  · rintro ⟨h1, h2⟩
    have : (if o < oo then (oo - o).toNat else 0) ∈ ((List.range m.toNat).filter fun i : Nat => decide (o + (i : Int) ∈ rgI oo (oo + om))) := by
      refine List.mem_filter.mpr ⟨List.mem_range.mpr (by split <;> omega), decide_eq_true (mem_rgI.mpr (by split <;> omega))⟩
    have := List.length_pos_of_mem this
    omega
theorem empty_app (x : Str) : Str.empty ++ x = x := by
  show Str.mk (#[] ++ x.cps) = x
  rw [Array.empty_append]
theorem s_txt (o m : Int) : sTxt o m = Str.ofString "Slots(" ++ Str.ofString (toString o) ++ Str.ofString ", " ++ Str.ofString (toString m) ++ Str.ofString ")" := by
  unfold sTxt
  rw [empty_app]
/-- what _law_slots_right keeps -/
structure SR (ad : Ad) (p a b : Addr) (o m : Int) (H0 H : Hp) : Prop where
  tl : SlAt ad H (.ref a) o m
  ow : H b = some (.lst ((rgI o (o + m)).map V.int))
  nb : b ≠ p
  pot : Pot H p
  st : Stay p H0 H
theorem SR.go {ad : Ad} {p a b : Addr} {o m : Int} {H0 H H' : Hp} (R : SR ad p a b o m H0 H) (s : Stay p H H') (pp : Pot H' p) : SR ad p a b o m H0 H' :=
  ⟨R.tl.keep (UL.Stay.keep s R.pot), s _ _ R.nb R.ow, R.nb, pp, Stay.trans R.st s⟩
theorem SR.same {ad : Ad} {p a b : Addr} {o m : Int} {H0 H H' : Hp} (R : SR ad p a b o m H0 H) (s : L2.Same H H') : SR ad p a b o m H0 H' := R.go (UL.Same.stay s p) (R.pot.same s)
section
variable {P : Program} {w : World} {K : PySem.W.Frag} {mg : Str → Option Value} {base : Heap} {ad : Ad}
def spSlotsR : Sp := fun vs H Q _ => ∃ (p : Addr) (o m : Int), vs = [.ref p, .int o, .int m] ∧ Pot H p ∧ 0 ≤ o ∧ o ≤ 100000000000000000200 ∧ 1 ≤ m ∧ m ≤ 16 ∧ ∀ H', Pot H' p → Stay p H H' → Q (.bl true) H'
set_option maxHeartbeats 40000000
abbrev st_l_slots_right : Stmt := top 29
theorem sc_l_slots_right : FnScope ["_law_pot_here", "_law_start", "_law_big", "_law_told", "_law_own", "_law_turn", "_law_other_offset", "_law_other_many", "_law_mate", "_law_others", "_law_due", "_law_byte", "_law_near", "_law_thing"] ["_law_pot_here", "_law_start", "_law_big"] (defScope st_l_slots_right) := ⟨rfl, rfl, rfl, by decide +kernel, rfl, by decide +kernel, by decide +kernel⟩
theorem ok_l_slots_right {f : Addr} {fd : FuncData} (F : Fun K "_law_slots_right" "_law_slots_right" st_l_slots_right f fd) (T : Txt K mg ad) (m_Slots_2 : Mak P w K mg base 3 "Slots" ad.c_Slots [] (spSlI ad)) (c_l_bytes : Cal P w K mg base 1 "_law_bytes" spBytes) (c_Slots_offset : CalP P w K mg base 1 ad.c_Slots "offset" (spSGet ad fun o _ => .int o)) (c_Slots_many : CalP P w K mg base 1 ad.c_Slots "many" (spSGet ad fun _ m => .int m)) (c_Slots_end : CalP P w K mg base 1 ad.c_Slots "end" (spSGet ad fun o m => .int (o + m))) (c_Slots_bits : CalP P w K mg base 1 ad.c_Slots "bits" (spSBits ad)) (c_Slots_repr : CalS P w K mg base 1 ad.c_Slots "__repr__" (spSRepr ad)) (c_l_draw : Cal P w K mg base 1 "_law_draw" spDraw) (c_l_pick : Cal P w K mg base 2 "_law_pick" (spPick1 K)) (m_Slots_0_many_offset : MakK P w K mg base 3 "Slots" ad.c_Slots ["many", "offset"] gQ (spSlI ad)) (c_Slots_meets : CalM P w K mg base 3 ad.c_Slots "meets" (spMeets ad)) (k_Slots_meets_other : CalMK P w K mg base 3 ad.c_Slots "meets" ["other"] gKC (spMeets ad)) (c_Slots_eq : CalS P w K mg base 1 ad.c_Slots "__eq__" (spSEq K ad)) (c_Slots_contains : CalS P w K mg base 2 ad.c_Slots "__contains__" (spSIn K ad)) :
    FnG P w K mg base 5 f fd ["_law_pot_here", "_law_start", "_law_big"] spSlotsR := by
  refine FnG.mk' F sc_l_slots_right (fun vs H Q E h => ?_) (fun cdv A outer s H vs Q E hgd hr h => ?_)
  · obtain (⟨p, o, m, rfl, hp, o0, o1, m1, m2, q⟩) := h
    rfl
  · obtain (⟨p, o, m, rfl, hp, o0, o1, m1, m2, q⟩) := h
    refine ⟨_, pss_cons (ps_set (i := 3) sc_l_slots_right.nd rfl (.inr rfl) (pe_n m_Slots_2 hr (by decide) (by rfl) (pa_cons (pv 1) (pa_cons (pv 2) pa_nil))))
      (pss_cons (ps_set (i := 4) sc_l_slots_right.nd rfl (.inr rfl) (pe_c c_l_bytes hr (by decide) (by rfl) (pa_cons (pv 1) (pa_cons (pv 2) pa_nil))))
      (pss_cons (ps_if (pt_cmpR (op_neD hr.units) (pe_lst (pa_cons (pe_p (pv 3) c_Slots_offset hr (by decide) (by rfl)) (pa_cons (pe_p (pv 3) c_Slots_many hr (by decide) (by rfl)) (pa_cons (pe_p (pv 3) c_Slots_end hr (by decide) (by rfl)) (pa_cons (pe_p (pv 3) c_Slots_bits hr (by decide) (by rfl)) pa_nil))))) (pe_lst (pa_cons (pv 1) (pa_cons (pv 2) (pa_cons (pe_op op_add (pe_ix ix_list (pv 4) (pe_un un_neg pe_int) (fun _ _ => rfl)) pe_int) (pa_cons (pe_op op_mul pe_int (pe_callB call_len_seq (by rfl) T.bi.len (by decide +kernel) (pa_cons (pv 4) pa_nil))) pa_nil))))) (nomark _)) (pss_one (ps_ret pe_bl)) pss_nil)
      (pss_cons (ps_if (PW.pt (pw_or (pt_cmpR op_ne (pe_callB (call_reprS c_Slots_repr hr (by decide)) (by rfl) T.bi.repr (by decide +kernel) (pa_cons (pv 3) pa_nil)) (pe_op op_add_str (pe_op op_add_str (pe_op op_add_str (pe_op op_add_str pe_str (pe_callTy call_str_int (by rfl) T.bi.str (by decide +kernel) (pa_cons (pv 1) pa_nil))) pe_str) (pe_callTy call_str_int (by rfl) T.bi.str (by decide +kernel) (pa_cons (pv 2) pa_nil))) pe_str) (nomark _)) (pw_or1 (pt_not (pt_val (pe_callB call_isi (by rfl) T.bi.isinstance (by decide +kernel) (pa_cons (pv 3) (pa_cons (pe_glob (v := .ref ad.c_Place) (by rfl) T.g_Place rfl) pa_nil)))))))) (pss_one (ps_ret pe_bl)) pss_nil)
      (pss_cons (ps_for PassesOwn.never rfl (pi_range1 (by rfl) T.bi.range (pa_cons pe_int pa_nil)) (pg_name (i := 5) sc_l_slots_right.nd rfl (Or.inl rfl))
        (pss_cons (ps_set (i := 6) sc_l_slots_right.nd rfl (.inl rfl) (pe_callB (call_max2 rfl) (by rfl) T.bi.max (by decide +kernel) (pa_cons pe_int (pa_cons (pe_op op_sub (pe_op op_add (pv 1) (pe_c c_l_draw hr (by decide) (by rfl) (pa_cons (pv 0) (pa_cons pe_int pa_nil)))) pe_int) pa_nil))))
          (pss_cons (ps_set (i := 7) sc_l_slots_right.nd rfl (.inl rfl) (pe_c c_l_pick hr (by decide) (by rfl) (pa_cons (pv 0) (pa_cons (pe_lst (pa_cons (pv 2) (pa_cons pe_int (pa_cons pe_int (pa_cons (pe_op op_add pe_int (pe_c c_l_draw hr (by decide) (by rfl) (pa_cons (pv 0) (pa_cons pe_int pa_nil)))) pa_nil))))) pa_nil))))
          (pss_cons (ps_asg (pe_tup (pa_cons (pe_nK m_Slots_0_many_offset hr (by decide) (by rfl) (pk_cons (pv 7) (pk_cons (pv 6) pk_nil))) (pa_cons (pe_c c_l_bytes hr (by decide) (by rfl) (pa_cons (pv 6) (pa_cons (pv 7) pa_nil))) pa_nil))) (pg_tup rfl (pgs_cons (pg_name (i := 8) sc_l_slots_right.nd rfl (Or.inl rfl)) (pgs_cons (pg_name (i := 9) sc_l_slots_right.nd rfl (Or.inr rfl)) pgs_nil))))
          (pss_cons (ps_set (i := 10) sc_l_slots_right.nd rfl (.inl rfl) (pe_cmpR op_gt (pe_callB call_len_seq (by rfl) T.bi.len (by decide +kernel) (pa_cons (pe_lc (own := [("_law_byte", 11)]) (g := gName 11) (tt := _) rfl sc_l_slots_right.nd (pi_list (pv 4)) (blkOk_by (N := ["_law_pot_here", "_law_start", "_law_big", "_law_told", "_law_own", "_law_turn", "_law_other_offset", "_law_other_many", "_law_mate", "_law_others", "_law_due", "_law_byte", "_law_near", "_law_thing"]) (sc := defScope st_l_slots_right) (by decide +kernel)) (fun _ _ _ _ _ => pg_name (i := 11) sc_l_slots_right.nd rfl (Or.inl rfl)) (fun _ _ _ _ _ => UL.pts_conv (pts_one (pt_cmpR op_in_seq (pv 11) (pv 9) (by rfl))) (by walk_at "unk")) (fun _ _ _ _ _ => UL.pe_conv (pv 11) (by walk_at "unk"))) pa_nil)) pe_int (nomark _)))
          (pss_cons (ps_if (pt_cmpR op_ne (pe_callB (r := rReprD K) (call_reprD hgd hr.units) (by rfl) T.bi.repr (by decide +kernel) (pa_cons (pe_lst (pa_cons (pe_m (pv 3) c_Slots_meets hr (by decide) (pa_cons (pv 8) pa_nil)) (pa_cons (pe_mK (pv 8) k_Slots_meets_other hr (by decide) (pk_cons (pv 3) pk_nil)) pa_nil))) pa_nil)) (pe_callB (r := rReprD K) (call_reprD hgd hr.units) (by rfl) T.bi.repr (by decide +kernel) (pa_cons (pe_lst (pa_cons (pv 10) (pa_cons (pv 10) pa_nil))) pa_nil)) (nomark _)) (pss_one (ps_ret pe_bl)) pss_nil)
          (pss_one (ps_if (pt_cmpR op_ne (pe_cmpR (op_eqS c_Slots_eq hr (by decide)) (pv 3) (pv 8) (nomark _)) (pe_cmpR (op_eqD hr.units) (pv 9) (pv 4) (nomark _)) (nomark _)) (pss_one (ps_ret pe_bl)) pss_nil))))))))
      (pss_cons (ps_set (i := 12) sc_l_slots_right.nd rfl (.inl rfl) (pe_lst (pa_cons (pe_op op_sub (pv 1) pe_int) (pa_cons (pv 1) (pa_cons (pe_ix ix_list (pv 4) (pe_un un_neg pe_int) (fun _ _ => rfl)) (pa_cons (pe_op op_add (pe_ix ix_list (pv 4) (pe_un un_neg pe_int) (fun _ _ => rfl)) pe_int) (pa_cons (pe_op op_add (pv 1) (pe_c c_l_draw hr (by decide) (by rfl) (pa_cons (pv 0) (pa_cons pe_int pa_nil)))) pa_nil)))))))
      (pss_cons (ps_if (pt_cmpR (op_neD hr.units) (pe_lc (own := [("_law_byte", 11)]) (g := gName 11) (tt := tYes) rfl sc_l_slots_right.nd (pi_list (pv 12)) (blkOk_by (N := ["_law_pot_here", "_law_start", "_law_big", "_law_told", "_law_own", "_law_turn", "_law_other_offset", "_law_other_many", "_law_mate", "_law_others", "_law_due", "_law_byte", "_law_near", "_law_thing"]) (sc := defScope st_l_slots_right) (by decide +kernel)) (fun _ _ _ _ _ => pg_name (i := 11) sc_l_slots_right.nd rfl (Or.inl rfl)) (fun _ _ _ _ _ => pts_nil) (fun _ _ _ _ _ => UL.pe_conv (pe_cmpR (op_inS c_Slots_contains hr (by decide)) (pv 11) (pv 3) (by rfl)) (by walk_at "unk"))) (pe_lc (own := [("_law_byte", 11)]) (g := gName 11) (tt := tYes) rfl sc_l_slots_right.nd (pi_list (pv 12)) (blkOk_by (N := ["_law_pot_here", "_law_start", "_law_big", "_law_told", "_law_own", "_law_turn", "_law_other_offset", "_law_other_many", "_law_mate", "_law_others", "_law_due", "_law_byte", "_law_near", "_law_thing"]) (sc := defScope st_l_slots_right) (by decide +kernel)) (fun _ _ _ _ _ => pg_name (i := 11) sc_l_slots_right.nd rfl (Or.inl rfl)) (fun _ _ _ _ _ => pts_nil) (fun _ _ _ _ _ => UL.pe_conv (pe_cmpR op_in_seq (pv 11) (pv 4) (by rfl)) (by walk_at "unk"))) (nomark _)) (pss_one (ps_ret pe_bl)) pss_nil)
      (pss_one (ps_ret (pe_cmpR (op_eqD hr.units) (pe_lc (own := [("_law_thing", 13)]) (g := gName 13) (tt := tYes) rfl sc_l_slots_right.nd (pi_list (pe_lst (pa_cons pe_bl (pa_cons pe_non (pa_cons (pe_callTy call_str_int (by rfl) T.bi.str (by decide +kernel) (pa_cons (pv 1) pa_nil)) (pa_cons (pe_lst (pa_cons (pv 1) pa_nil)) (pa_cons (pv 3) (pa_cons (pe_op op_sub pe_int pe_int) pa_nil)))))))) (blkOk_by (N := ["_law_pot_here", "_law_start", "_law_big", "_law_told", "_law_own", "_law_turn", "_law_other_offset", "_law_other_many", "_law_mate", "_law_others", "_law_due", "_law_byte", "_law_near", "_law_thing"]) (sc := defScope st_l_slots_right) (by decide +kernel)) (fun _ _ _ _ _ => pg_name (i := 13) sc_l_slots_right.nd rfl (Or.inl rfl)) (fun _ _ _ _ _ => pts_nil) (fun _ _ _ _ _ => UL.pe_conv (pe_cmpR (op_inS c_Slots_contains hr (by decide)) (pv 13) (pv 3) (by rfl)) (by walk_at "unk"))) (pe_op op_rep (pe_lst (pa_cons pe_bl pa_nil)) pe_int) (nomark _)))))))))), ?_⟩
    have nf : PySem.W.notFirst K ad.c_Slots (.ref ad.c_Slots) = true := by simp [PySem.W.notFirst]
    refine seq_cut (fun σ' H' => ∃ a, σ' = [some (.ref p), some (.int o), some (.int m), some (.ref a), none, none, none, none, none, none, none, none, none, none] ∧ SlAt ad H' (.ref a) o m ∧ L2.Same H H') (fun σ1 H1 ⟨a, es, ra, s1⟩ => ?_) (fun Nx rest => ?_)
    rotate_left
    · clear q
      walk_at "go"
      rename_i x dx nx nd ne
      exact smade1 nx nd ne o0 m1 m2 fun H2 s2 ra => ⟨rfl, rest _ _ ⟨x, rfl, ra, s2⟩⟩
    subst es
    refine seq_cut (fun σ' H' => ∃ b, σ' = [some (.ref p), some (.int o), some (.int m), some (.ref a), some (.ref b), none, none, none, none, none, none, none, none, none] ∧ SR ad p a b o m H H') (fun σ2 H2 ⟨b, es, R⟩ => ?_) (fun Nx rest => ?_)
    rotate_left
    · clear q
      walk_at "go"
      rename_i l hl
      have p1 := hp.same s1
      have s2 := same_new (o := .lst ((rgI o (o + m)).map V.int)) hl
      exact rest _ _ ⟨l, rfl, ra.same s2, upd_same, ne_pot hl p1, p1.same s2, UL.Same.stay (L2.Same.trans s1 s2) p⟩
    subst es
    clear ra s1
    have ixl := last_rgI (o := o) m1
    have lrg := len_rgI (o := o) m1
    refine seq_cut (fun σ' H' => σ' = [some (.ref p), some (.int o), some (.int m), some (.ref a), some (.ref b), none, none, none, none, none, none, none, none, none] ∧ SR ad p a b o m H H') (fun σ3 H3 ⟨es, R⟩ => ?_) (fun Nx rest => ?_)
    rotate_left
    · have ht := R.tl
      have ho := R.ow
      obtain ⟨a', dx, ea, x1⟩ := id ht
      cases ea
      clear q
      walk_at "go"
      rename_i l1 hl1 l2 hl2
      dsimp only at hl2 ⊢
      rw [lrg]
      have s1 := same_new (o := .lst [V.int o, V.int m, V.int (o + m), V.int (8 * m)]) hl1
      have s2 := same_new (o := .lst [V.int o, V.int m, V.int (o + m - 1 + 1), V.int (8 * ((m.toNat : Nat) : Int))]) hl2
      refine ne_ints (ns := [o, m, o + m, 8 * m]) (ms := [o, m, o + m - 1 + 1, 8 * ((m.toNat : Nat) : Int)]) (s2 _ _ upd_same) upd_same ?_
      rw [decide_eq_true (show [o, m, o + m, 8 * m] = [o, m, o + m - 1 + 1, 8 * ((m.toNat : Nat) : Int)] by rw [show o + m - 1 + 1 = o + m by omega, show ((m.toNat : Nat) : Int) = m by omega])]
      walk_at "go"
      exact rest _ _ ⟨rfl, R.same (L2.Same.trans s1 s2)⟩
    subst es
    refine seq_cut (fun σ' H' => σ' = [some (.ref p), some (.int o), some (.int m), some (.ref a), some (.ref b), none, none, none, none, none, none, none, none, none] ∧ H' = H3) (fun σ4 H4 ⟨es, eH⟩ => ?_) (fun Nx rest => ?_)
    rotate_left
    · have ht := R.tl
      obtain ⟨a', dx, ea, x1⟩ := id ht
      cases ea
      have a1 : (Str.ofString "Slots(").length = 6 := by decide +kernel
      have a2 : (Str.ofString ", ").length = 2 := by decide +kernel
      have a3 : (Str.ofString ")").length = 1 := by decide +kernel
      have g1 := big_log (i := o) o0 (by omega)
      have g2 := big_log (i := m) (by omega) (by omega)
      have l1 := big_len (i := o) o0 (by omega)
      have l2 := big_len (i := m) (by omega) (by omega)
      have rT := s_txt o m
      have o9 : o ≤ 1000000000000000000000 := by omega
      clear q
      walk_at "go"
      exact rest _ _ ⟨rfl, rfl⟩
    subst es eH
    refine seq_cut (fun σ' H' => (∃ t5 t6 t7 t8 t9 t10 : Option V, σ' = [some (.ref p), some (.int o), some (.int m), some (.ref a), some (.ref b), t5, t6, t7, t8, t9, t10, none, none, none]) ∧ SR ad p a b o m H H') (fun σ5 H5 ⟨⟨t5, t6, t7, t8, t9, t10, es⟩, R⟩ => ?_) (fun Nx rest => ?_)
    rotate_left
    · clear q
      walk_at "go"
      refine for_it walk_range (fun k σ H' => Hold ((∃ t5 t6 t7 t8 t9 t10 : Option V, σ = [some (.ref p), some (.int o), some (.int m), some (.ref a), some (.ref b), t5, t6, t7, t8, t9, t10, none, none, none]) ∧ SR ad p a b o m H H')) (Hold.mk ⟨⟨_, _, _, _, _, _, rfl⟩, R⟩) (fun _ _ _ _ _ => trivial) (fun k x σ H9 H10 hk hh hy => ?_) (fun σ H9 hh => ?_)
      · obtain ⟨⟨t5, t6, t7, t8, t9, t10, es⟩, R⟩ := hh.out
        clear hh
        subst es
        obtain ⟨rfl, rfl⟩ := hy
        refine gname_go ?_
        generalize some ((fun i : Nat => V.int (0 + (i : Int))) k) = t5
        refine seq_cut (fun σ' H' => ∃ oo, σ' = [some (.ref p), some (.int o), some (.int m), some (.ref a), some (.ref b), t5, some (.int oo), t7, t8, t9, t10, none, none, none] ∧ 0 ≤ oo ∧ oo ≤ 100000000000000000300 ∧ SR ad p a b o m H H') (fun σ6 H6 ⟨oo, es, oo0, oo1, R⟩ => ?_) (fun Nx rest => ?_)
        rotate_left
        · have p1 := R.pot
          walk_at "go"
          rename_i d H5 d0 d1 p5 st5
          exact rest _ _ ⟨_, rfl, by split <;> omega, by split <;> omega, R.go st5 p5⟩
        subst es
        refine seq_cut (fun σ' H' => ∃ om, σ' = [some (.ref p), some (.int o), some (.int m), some (.ref a), some (.ref b), t5, some (.int oo), some (.int om), t8, t9, t10, none, none, none] ∧ 1 ≤ om ∧ om ≤ 16 ∧ SR ad p a b o m H H') (fun σ7 H7 ⟨om, es, om1, om2, R⟩ => ?_) (fun Nx rest => ?_)
        rotate_left
        · have p1 := R.pot
          walk_at "go"
          rename_i d H5 d0 d1 p5 st5 l hl i v H9 e9 p9 st9
          obtain ⟨k, rfl, k1, k2⟩ := four_at m1 m2 d0 d1 e9
          exact rest _ _ ⟨k, rfl, k1, k2, ((R.go st5 p5).same (same_new hl)).go st9 p9⟩
        subst es
        refine seq_cut (fun σ' H' => ∃ c e, σ' = [some (.ref p), some (.int o), some (.int m), some (.ref a), some (.ref b), t5, some (.int oo), some (.int om), some (.ref c), some (.ref e), t10, none, none, none] ∧ SlAt ad H' (.ref c) oo om ∧ H' e = some (.lst ((rgI oo (oo + om)).map V.int)) ∧ SR ad p a b o m H H') (fun σ8 H8 ⟨c, e, es, rc, he, R⟩ => ?_) (fun Nx rest => ?_)
        rotate_left
        · walk_at "go"
          rename_i x dx nx nd ne
          refine smade1 nx nd ne oo0 om1 om2 fun H9 s9 rc => ⟨rfl, ?_⟩
          walk_at "go"
          rename_i l hl tp htp
          have s10 := same_new (o := .lst ((rgI oo (oo + om)).map V.int)) hl
          have s11 := same_new (o := .tup [V.ref x, V.ref l]) htp
          exact rest _ _ ⟨x, l, rfl, (rc.same s10).same s11, s11 _ _ upd_same, ((R.same s9).same s10).same s11⟩
        subst es
        refine seq_cut (fun σ' H' => σ' = [some (.ref p), some (.int o), some (.int m), some (.ref a), some (.ref b), t5, some (.int oo), some (.int om), some (.ref c), some (.ref e), some (.bl (decide (o < oo + om) && decide (oo < o + m))), none, none, none] ∧ L2.Same H8 H') (fun σ9 H9 ⟨es, s9⟩ => ?_) (fun Nx rest => ?_)
        rotate_left
        · have ho := R.ow
          walk_at "go"
          refine ⟨⟨_, SqL.of ho⟩, fun D hD => lc_filt (walk_list (xs := (rgI o (o + m)).map V.int)) hD (fun i => decide (o + (i : Int) ∈ rgI oo (oo + om))) (fun i => .int (o + (i : Int))) (by rw [lrg]; omega) (fun H2 s2 => SqL.of (s2 _ _ ho)) (fun i y H2 H' hi s2 hy R' Z hR hZ => ?_) (fun H18 s18 hD18 => ?_)⟩
          · obtain ⟨rfl, hy⟩ := hy
            obtain rfl := at_rgI hy
            have he2 := s2 _ _ he
            have e3 := in_ints (o + (i : Int)) (rgI oo (oo + om))
            clear s2 he ho rest hD R
            by_cases c : o + (i : Int) ∈ rgI oo (oo + om)
            · rw [decide_eq_true c] at e3
              walk_at "go"
              exact hR (decide_eq_true c) _ (L2.Same.refl _)
            · rw [decide_eq_false c] at e3
              walk_at "go"
              exact hZ (decide_eq_false c) _ (L2.Same.refl _)
          rw [lrg] at hD18
          have e5 := filt_pos (o := o) (m := m) (oo := oo) (om := om) m1 om1
          clear ho he hD R rc
          walk_at "go"
          dsimp only
          rw [e5]
          exact rest _ _ ⟨rfl, s18⟩
        subst es
        refine seq_cut (fun σ' H' => σ' = [some (.ref p), some (.int o), some (.int m), some (.ref a), some (.ref b), t5, some (.int oo), some (.int om), some (.ref c), some (.ref e), some (.bl (decide (o < oo + om) && decide (oo < o + m))), none, none, none] ∧ L2.Same H8 H') (fun σ10 H10 ⟨es, s10⟩ => ?_) (fun Nx rest => ?_)
        rotate_left
        · have ht := R.tl.same s9
          have hc := rc.same s9
          obtain ⟨a', dx, ea, x1⟩ := id ht
          cases ea
          obtain ⟨c', dy, ec, y1⟩ := id hc
          cases ec
          walk_at "go"
          rename_i l1 hl1
          have hcm : (decide (oo < o + m) && decide (o < oo + om)) = (decide (o < oo + om) && decide (oo < o + m)) := Bool.and_comm _ _
          rw [hcm]
          generalize (decide (o < oo + om) && decide (oo < o + m)) = r at rest ⊢
          have s11 := same_new (o := .lst [V.bl r, V.bl r]) hl1
          dsimp only [tNil]
          refine repr_two2 upd_same ?_
          clear ht hc x1 y1 R rc
          walk_at "go"
          rename_i l2 hl2
          dsimp only [tNil]
          refine repr_two2 upd_same ?_
          walk_at "go"
          exact rest _ _ ⟨rfl, L2.Same.trans (L2.Same.trans s9 s11) (same_new hl2)⟩
        subst es
        have ht := R.tl.same s10
        have hc := rc.same s10
        have ho := s10 _ _ R.ow
        have he := s10 _ _ he
        obtain ⟨a', dx, ea, x1⟩ := id ht
        cases ea
        obtain ⟨c', dy, ec, y1⟩ := id hc
        cases ec
        walk_at "go"
        have R10 := R.same s10
        refine ⟨_, _, o, m, _, rfl, ht, .inl ⟨oo, om, hc, rfl⟩, ?_⟩
        refine ⟨_, rfl, ?_⟩
        refine ⟨_, rfl, ?_⟩
        refine eq_ints he ho ?_
        rw [rgI_inj om1 m1, show (decide (oo = o) && decide (om = m)) = (decide (o = oo) && decide (m = om)) by simp only [eq_comm]]
        generalize (decide (o = oo) && decide (m = om)) = r
        clear ht hc x1 y1 R rc he ho s10 s9
        walk_at "go"
        exact Hold.mk ⟨⟨_, _, _, _, _, _, rfl⟩, R10⟩
      · obtain ⟨es, R⟩ := hh.out
        exact rest _ _ ⟨es, R⟩
    subst es
    refine seq_cut (fun σ' H' => ∃ l d, σ' = [some (.ref p), some (.int o), some (.int m), some (.ref a), some (.ref b), t5, t6, t7, t8, t9, t10, none, some (.ref l), none] ∧ H' l = some (.lst ([o - 1, o, o + m - 1, o + m - 1 + 1, o + d].map V.int)) ∧ SR ad p a b o m H H') (fun σ6 H6 ⟨l, d, es, hl, R⟩ => ?_) (fun Nx rest => ?_)
    rotate_left
    · have ho := R.ow
      have p1 := R.pot
      clear q
      walk_at "go"
      rename_i d H6 d0 d1 p6 st6 l hl
      exact rest _ _ ⟨l, d, rfl, upd_same, (R.go st6 p6).same (same_new hl)⟩
    subst es
    have ln : [o - 1, o, o + m - 1, o + m - 1 + 1, o + d].length = 5 := rfl
    generalize [o - 1, o, o + m - 1, o + m - 1 + 1, o + d] = ns at hl ln
    refine seq_cut (fun σ' H' => σ' = [some (.ref p), some (.int o), some (.int m), some (.ref a), some (.ref b), t5, t6, t7, t8, t9, t10, none, some (.ref l), none] ∧ SR ad p a b o m H H') (fun σ7 H7 ⟨es, R⟩ => ?_) (fun Nx rest => ?_)
    rotate_left
    · clear q
      walk_at "go"
      refine ⟨⟨_, SqL.of hl⟩, fun D hD => lc_same (walk_list (xs := ns.map V.int)) hD (fun i => .bl (decide (ns.getD i 0 ∈ rgI o (o + m)))) (by rw [List.length_map]; omega) (fun H2 s2 => SqL.of (s2 _ _ hl)) (fun i y H2 H' hi s2 hy R' hR => ?_) (fun H7 s7 hd7 => ?_)⟩
      · obtain ⟨rfl, hy⟩ := hy
        obtain ⟨n, hn, rfl⟩ := at_int1 hy
        have eg : ns.getD i 0 = n := by rw [List.getD_eq_getElem?_getD, hn]; rfl
        rw [eg, ← bet_mem] at hR
        have ht2 := R.tl.same s2
        obtain ⟨a', dx, ea, x1⟩ := id ht2
        cases ea
        clear s2 hl hD rest R hy hn
        walk_at "go"
        refine ⟨_, _, o, m, .int n, rfl, ht2, .inl (.int _), ?_⟩
        exact ⟨_, rfl, hR _ (L2.Same.refl _)⟩
      have R7 := R.same s7
      have hl7 := s7 _ _ hl
      have ho7 := R7.ow
      clear s7 hl hD R
      walk_at "go"
      refine ⟨⟨_, SqL.of hl7⟩, fun D2 hD2 => lc_same (walk_list (xs := ns.map V.int)) hD2 (fun i => .bl (decide (ns.getD i 0 ∈ rgI o (o + m)))) (by rw [List.length_map]; omega) (fun H2 s2 => SqL.of (s2 _ _ hl7)) (fun i y H2 H' hi s2 hy R' hR => ?_) (fun H8 s8 hd8 => ?_)⟩
      · obtain ⟨rfl, hy⟩ := hy
        obtain ⟨n, hn, rfl⟩ := at_int1 hy
        have eg : ns.getD i 0 = n := by rw [List.getD_eq_getElem?_getD, hn]; rfl
        rw [eg, ← in_ints] at hR
        have ho2 := s2 _ _ ho7
        clear s2 hl7 hD2 rest R7 hy hn hd7 ho7
        walk_at "go"
        exact hR _ (L2.Same.refl _)
      have eb : ∀ k : Nat, (List.range k).map (fun i => V.bl (decide (ns.getD i 0 ∈ rgI o (o + m)))) = ((List.range k).map fun i => decide (ns.getD i 0 ∈ rgI o (o + m))).map V.bl := fun k => by
        rw [List.map_map]
        rfl
      rw [eb] at hd7 hd8
      have R8 := R7.same s8
      refine ne_bls (s8 _ _ hd7) hd8 ?_
      rw [decide_eq_true rfl]
      walk_at "go"
      exact rest _ _ ⟨rfl, R8⟩
    subst es
    have ht := R.tl
    obtain ⟨a', dx, ea, x1⟩ := id ht
    cases ea
    have g1 := big_log (i := o) o0 (by omega)
    walk_at "go"
    rename_i l1 hl1 l2 hl2
    dsimp only
    have s8 := L2.Same.trans (same_new (o := .lst [V.int o]) hl1) (same_new (o := .lst [V.bl true, V.non, V.str (Str.ofString (toString o)), V.ref l1, V.ref a, V.int (0 - 1)]) hl2)
    have R8 := R.same s8
    have h1 := same_new (o := .lst [V.bl true, V.non, V.str (Str.ofString (toString o)), V.ref l1, V.ref a, V.int (0 - 1)]) hl2 _ _ (upd_same : upd H7 l1 (.lst [V.int o]) l1 = some (.lst [V.int o]))
    have h2 : upd (upd H7 l1 (.lst [V.int o])) l2 (.lst [V.bl true, V.non, V.str (Str.ofString (toString o)), V.ref l1, V.ref a, V.int (0 - 1)]) l2 = some (.lst [V.bl true, V.non, V.str (Str.ofString (toString o)), V.ref l1, V.ref a, V.int (0 - 1)]) := upd_same
    generalize upd (upd H7 l1 (.lst [V.int o])) l2 (.lst [V.bl true, V.non, V.str (Str.ofString (toString o)), V.ref l1, V.ref a, V.int (0 - 1)]) = H8 at R8 h1 h2 ⊢
    have tys : ∀ y ∈ [V.bl true, V.non, V.str (Str.ofString (toString o)), V.ref l1, V.ref a, V.int (0 - 1)], ∀ H' : Hp, L2.Same H8 H' → ∃ d, Any K H' y d ∧ betD o (o + m - 1) d = false := fun y hy H' s => by
      simp only [List.mem_cons, List.not_mem_nil, or_false] at hy
      rcases hy with rfl | rfl | rfl | rfl | rfl | rfl
      · exact ⟨_, .inl (.bl _), rfl⟩
      · exact ⟨_, .inl .non, rfl⟩
      · exact ⟨_, .inl (.str _), rfl⟩
      · exact ⟨.list [], .inl (.lst ⟨_, s _ _ h1⟩), rfl⟩
      · obtain ⟨a', dx', ea, x2⟩ := R8.tl.same s
        cases ea
        exact ⟨.none, .inr ⟨⟨ad.c_Slots, T.i_Slots.ty x2, T.ki_Slots⟩, rfl⟩, rfl⟩
      · refine ⟨_, .inl (.int _), ?_⟩
        show (decide (o ≤ 0 - 1) && _) = false
        rw [decide_eq_false (by omega), Bool.false_and]
    have l6 : [V.bl true, V.non, V.str (Str.ofString (toString o)), V.ref l1, V.ref a, V.int (0 - 1)].length = 6 := rfl
    generalize [V.bl true, V.non, V.str (Str.ofString (toString o)), V.ref l1, V.ref a, V.int (0 - 1)] = odd at tys l6 h2 ⊢
    clear s8 hl1 hl2 R ht x1 h1
    refine ⟨⟨_, SqL.of h2⟩, fun D hD => lc_same (walk_list (xs := odd)) hD (fun _ => .bl false) (by omega) (fun H2 s2 => SqL.of (s2 _ _ h2)) (fun i y H2 H' hi s2 hy R' hR => ?_) (fun H9 s9 hd9 => ?_)⟩
    · obtain ⟨rfl, hy⟩ := hy
      obtain ⟨d, hA, hd⟩ := tys y (List.mem_of_getElem? hy) _ s2
      have ht2 := R8.tl.same s2
      obtain ⟨a', dx', ea, x2⟩ := id ht2
      cases ea
      clear tys s2 h2 hD R8 q
      walk_at "go"
      rw [hd]
      exact hR _ (L2.Same.refl _)
    have R9 := R8.same s9
    rw [map_no, l6] at hd9
    clear tys h2 hD R8 s9
    walk_at "go"
    rename_i l3 hl3 l4 hl4
    have s10 := L2.Same.trans (same_new (o := .lst [V.bl false]) hl3) (same_new (o := .lst (List.replicate (Int.toNat 6) [V.bl false]).flatten) hl4)
    refine eq_bls (ns := List.replicate 6 false) (ms := List.replicate 6 false) (s10 _ _ hd9) upd_same ?_
    rw [decide_eq_true rfl]
    exact q _ (R9.pot.same s10) (Stay.trans R9.st (UL.Same.stay s10 p))
end
end K11
set_option Elab.async false
set_option linter.all false
set_option maxRecDepth 100000
set_option maxHeartbeats 4000000


namespace K11
open PySem L2 UL ClX
local macro_rules | `(tactic| walk_at "txt") => `(tactic| first
  | ((with_reducible show PySem.W.kitOne _ (.ref _) (.ref _) = _); first | exact Txt.ks_Register_Place (by assumption) | exact Txt.ks_Slots_Place (by assumption) | exact Txt.ks_Next_Place (by assumption) | exact Txt.ks_Register_Slots (by assumption) | exact Txt.ks_Register_Next (by assumption) | exact Txt.ks_Slots_Register (by assumption) | exact Txt.ks_Slots_Next (by assumption) | exact Txt.ks_Next_Register (by assumption) | exact Txt.ks_Next_Slots (by assumption))
  | ((with_reducible show PySem.W.notFirst _ _ (.ref _) = _); first | exact Txt.nf_Register_Slots (by assumption) | exact Txt.nf_Register_Next (by assumption) | exact Txt.nf_Slots_Register (by assumption) | exact Txt.nf_Slots_Next (by assumption) | exact Txt.nf_Next_Register (by assumption) | exact Txt.nf_Next_Slots (by assumption))
  | ((with_reducible show L2.SqT _ _ _ _); first | exact Txt.t_GROUPS (by assumption) _ | exact Txt.t_ALIGNMENTS (by assumption) _)
  | ((with_reducible show L2.Cls _ _); first | exact UL.CIsi.cl (Txt.i_Place (by assumption)) | exact UL.CIsi.cl (Txt.i_Register (by assumption)) | exact UL.CIsi.cl (Txt.i_Slots (by assumption)) | exact UL.CIsi.cl (Txt.i_Next (by assumption)))
  | ((with_reducible show UL.CIsi _ _); first | exact Txt.i_Place (by assumption) | exact Txt.i_Register (by assumption) | exact Txt.i_Slots (by assumption) | exact Txt.i_Next (by assumption))
  | ((with_reducible show L2.NoAttr _ _ _); first | exact Txt.n_Register_group (by assumption) | exact Txt.n_Register_number (by assumption) | exact Txt.n_Register_code (by assumption) | exact Txt.n_Slots_offset (by assumption) | exact Txt.n_Slots_many (by assumption) | exact Txt.n_Next_align (by assumption) | exact Txt.n_Next_many (by assumption))
  | ((with_reducible show L2.TyX _ _ _ _); first | exact UL.CIsi.ty (Txt.i_Place (by assumption)) (by walk_at "look") | exact UL.CIsi.ty (Txt.i_Register (by assumption)) (by walk_at "look") | exact UL.CIsi.ty (Txt.i_Slots (by assumption)) (by walk_at "look") | exact UL.CIsi.ty (Txt.i_Next (by assumption)) (by walk_at "look"))
  | ((with_reducible show PySem.W.kitOne _ (.type _) (.ref _) = _); first | exact ((Txt.k_Place (by assumption)) _ (by simp)).1 | exact ((Txt.k_Register (by assumption)) _ (by simp)).1 | exact ((Txt.k_Slots (by assumption)) _ (by simp)).1 | exact ((Txt.k_Next (by assumption)) _ (by simp)).1)
  | ((with_reducible show _ = PySem.Value.ref _ ∨ _); first | exact .inl rfl | exact .inr ⟨_, rfl, Txt.no_Place (by assumption)⟩)
  | fail)
theorem pick4 {d : Int} {i : Nat} {v : V} (d0 : 0 ≤ d) (d1 : d < 1000000000) (e : [V.int 0, V.int 1, V.int 16, V.int d][i]? = some v) : ∃ k, v = .int k ∧ 0 ≤ k ∧ k ≤ 1000000000 := by
  match i, e with
  | 0, e => exact ⟨_, (Option.some.inj e).symm, by omega, by omega⟩
  | 1, e => exact ⟨_, (Option.some.inj e).symm, by omega, by omega⟩
  | 2, e => exact ⟨_, (Option.some.inj e).symm, by omega, by omega⟩
  | 3, e => exact ⟨_, (Option.some.inj e).symm, by omega, by omega⟩
theorem ty_int (k : Int) : ∀ u, RelV (.int k) u → typeOf u = pure (.type "int") := fun u ⟨t, e⟩ => by rw [e]; rfl
section
variable {P : Program} {w : World} {K : PySem.W.Frag} {mg : Str → Option Value} {base : Heap} {ad : Ad}
set_option maxHeartbeats 40000000
abbrev st_l_moved_right : Stmt := top 30
theorem sc_l_moved_right : FnScope ["_law_pot_here", "_law_start", "_law_big", "_law_told", "_law_far", "_law_there", "_law_back", "_law_due", "_law_moved", "_law_less"] ["_law_pot_here", "_law_start", "_law_big"] (defScope st_l_moved_right) := ⟨rfl, rfl, rfl, by decide +kernel, rfl, by decide +kernel, by decide +kernel⟩
theorem ok_l_moved_right {f : Addr} {fd : FuncData} (F : Fun K "_law_moved_right" "_law_moved_right" st_l_moved_right f fd) (T : Txt K mg ad) (m_Slots_2 : Mak P w K mg base 3 "Slots" ad.c_Slots [] (spSlI ad)) (c_l_pick : Cal P w K mg base 2 "_law_pick" (spPick1 K)) (c_l_draw : Cal P w K mg base 1 "_law_draw" spDraw) (c_Slots_add : CalS P w K mg base 5 ad.c_Slots "__add__" (spSAdd ad)) (c_Slots_sub : CalS P w K mg base 5 ad.c_Slots "__sub__" (spSSub ad)) (c_Slots_offset : CalP P w K mg base 1 ad.c_Slots "offset" (spSGet ad fun o _ => .int o)) (c_Slots_many : CalP P w K mg base 1 ad.c_Slots "many" (spSGet ad fun _ m => .int m)) (c_Slots_end : CalP P w K mg base 1 ad.c_Slots "end" (spSGet ad fun o m => .int (o + m))) (c_Slots_eq : CalS P w K mg base 1 ad.c_Slots "__eq__" (spSEq K ad)) :
    FnOk P w K mg base CX0 6 f fd ["_law_pot_here", "_law_start", "_law_big"] spSlotsR := by
  refine F.ok sc_l_moved_right (fun vs H Q E h => ?_) (fun cdv A outer s H vs Q E hr h => ?_)
  · obtain (⟨p, o, m, rfl, hp, o0, o1, m1, m2, q⟩) := h
    rfl
  · obtain (⟨p, o, m, rfl, hp, o0, o1, m1, m2, q⟩) := h
    refine ⟨_, pss_cons (ps_par (i := 3) (j := 4) rfl sc_l_moved_right.nd rfl rfl (by decide) rfl rfl (pa_cons (pe_n m_Slots_2 hr (by decide) (by rfl) (pa_cons (pv 1) (pa_cons (pv 2) pa_nil))) (pa_cons (pe_c c_l_pick hr (by decide) (by rfl) (pa_cons (pv 0) (pa_cons (pe_lst (pa_cons pe_int (pa_cons pe_int (pa_cons pe_int (pa_cons (pe_c c_l_draw hr (by decide) (by rfl) (pa_cons (pv 0) (pa_cons (pe_op op_pow pe_int pe_int) pa_nil))) pa_nil))))) pa_nil))) pa_nil)) (by rfl))
      (pss_cons (ps_set (i := 5) sc_l_moved_right.nd rfl (.inl rfl) (pe_op (op_addST c_Slots_add T.oi_add_Slots hr (by decide)) (pv 3) (pv 4)))
      (pss_cons (ps_set (i := 6) sc_l_moved_right.nd rfl (.inl rfl) (pe_op (op_subST c_Slots_sub T.oi_sub_Slots hr (by decide)) (pv 5) (pv 4)))
      (pss_cons (ps_set (i := 7) sc_l_moved_right.nd rfl (.inl rfl) (pe_lst (pa_cons (pe_op op_add (pv 1) (pv 4)) (pa_cons (pv 2) (pa_cons (pe_op op_add (pe_op op_add (pv 1) (pv 4)) (pv 2)) pa_nil)))))
      (pss_cons (ps_if (PW.pt (pw_or (pt_cmpR (op_neD hr.units) (pe_lst (pa_cons (pe_p (pv 5) c_Slots_offset hr (by decide) (by rfl)) (pa_cons (pe_p (pv 5) c_Slots_many hr (by decide) (by rfl)) (pa_cons (pe_p (pv 5) c_Slots_end hr (by decide) (by rfl)) pa_nil)))) (pv 7) (nomark _)) (pw_or1 (pt_not (pt_cmpR (op_eqS c_Slots_eq hr (by decide)) (pv 6) (pv 3) (nomark _)))))) (pss_one (ps_ret pe_bl)) pss_nil)
      (pss_cons (ps_if (PW.pt (pw_or (pt_cmpR op_ne (pe_cmpR (op_eqS c_Slots_eq hr (by decide)) (pv 5) (pv 3) (nomark _)) (pe_cmpR op_eq (pv 4) pe_int (nomark _)) (nomark _)) (pw_or1 (pt_cmpR op_ne (pe_p (pe_op (op_subST c_Slots_sub T.oi_sub_Slots hr (by decide)) (pv 3) (pv 1)) c_Slots_offset hr (by decide) (by rfl)) pe_int (nomark _))))) (pss_one (ps_ret pe_bl)) pss_nil)
      (pss_cons (ps_set (i := 8) sc_l_moved_right.nd rfl (.inl rfl) (pv 3))
      (pss_cons (ps_aug (i := 8) sc_l_moved_right.nd rfl (.inl rfl) (pv 4) (ip_of (iop_addST c_Slots_add T.oi_add_Slots T.ni_add_Slots hr (by decide))))
      (pss_cons (ps_set (i := 9) sc_l_moved_right.nd rfl (.inl rfl) (pv 5))
      (pss_cons (ps_aug (i := 9) sc_l_moved_right.nd rfl (.inl rfl) (pv 4) (ip_of (iop_subST c_Slots_sub T.oi_sub_Slots T.ni_sub_Slots hr (by decide))))
      (pss_cons (ps_if (pt_cmpR (op_neD hr.units) (pe_lst (pa_cons (pe_p (pv 3) c_Slots_offset hr (by decide) (by rfl)) (pa_cons (pe_p (pv 5) c_Slots_offset hr (by decide) (by rfl)) pa_nil))) (pe_lst (pa_cons (pv 1) (pa_cons (pe_op op_add (pv 1) (pv 4)) pa_nil))) (nomark _)) (pss_one (ps_ret pe_bl)) pss_nil)
      (pss_one (ps_ret (pe_and (pe_cmpR (op_eqS c_Slots_eq hr (by decide)) (pv 8) (pv 5) (nomark _)) (pe_one (pe_cmpR (op_eqS c_Slots_eq hr (by decide)) (pv 9) (pv 3) (nomark _)))))))))))))))), ?_⟩
    have nf : PySem.W.notFirst K ad.c_Slots (.ref ad.c_Slots) = true := by simp [PySem.W.notFirst]
    have e9 : (10 : Int) ^ (9 : Int).toNat = 1000000000 := by decide +kernel
    refine seq_cut (fun σ' H' => ∃ a k, σ' = [some (.ref p), some (.int o), some (.int m), some (.ref a), some (.int k), none, none, none, none, none] ∧ 0 ≤ k ∧ k ≤ 1000000000 ∧ SlAt ad H' (.ref a) o m ∧ Pot H' p ∧ Stay p H H') (fun σ1 H1 ⟨a, k, es, k0, k1, ra, p1, st1⟩ => ?_) (fun Nx rest => ?_)
    rotate_left
    · clear q
      walk_at "go"
      rename_i x dx nx nd ne
      refine smade1 nx nd ne o0 m1 m2 fun H2 s2 ra => ⟨rfl, ?_⟩
      have p2 := hp.same s2
      clear nx nd
      walk_at "go"
      refine ⟨⟨by decide, by decide, by decide⟩, ?_⟩
      walk_at "go"
      rename_i d H3 d0 d1 p3 st3 l hl i v H4 e4 p4 st4
      rw [e9] at d1
      obtain ⟨k, rfl, k0, k1⟩ := pick4 d0 d1 e4
      have stA := Stay.trans (Stay.trans st3 (UL.Same.stay (same_new hl) p)) st4
      exact rest _ _ ⟨x, k, rfl, k0, k1, ra.keep (UL.Stay.keep stA p2), p4, Stay.trans (UL.Same.stay s2 p) stA⟩
    subst es
    refine seq_cut (fun σ' H' => ∃ c, σ' = [some (.ref p), some (.int o), some (.int m), some (.ref a), some (.int k), some (.ref c), none, none, none, none] ∧ SlAt ad H' (.ref c) (o + k) m ∧ L2.Same H1 H') (fun σ2 H2 ⟨c, es, rc, s2⟩ => ?_) (fun Nx rest => ?_)
    rotate_left
    · obtain ⟨a', dx, ea, x1⟩ := id ra
      cases ea
      have ty := ty_int k
      clear q
      walk_at "go"
      rename_i v' H2 s2 rc
      obtain ⟨c, dc, rfl, _⟩ := id rc
      exact rest _ _ ⟨c, rfl, rc, s2⟩
    subst es
    refine seq_cut (fun σ' H' => ∃ b, σ' = [some (.ref p), some (.int o), some (.int m), some (.ref a), some (.int k), some (.ref c), some (.ref b), none, none, none] ∧ SlAt ad H' (.ref b) o m ∧ L2.Same H2 H') (fun σ3 H3 ⟨b, es, rb, s3⟩ => ?_) (fun Nx rest => ?_)
    rotate_left
    · obtain ⟨c', dx, ec, x1⟩ := id rc
      cases ec
      have ty := ty_int k
      clear q
      walk_at "go"
      rename_i v' H3 s3 rb
      rw [Int.add_sub_cancel] at rb
      obtain ⟨b, db, rfl, _⟩ := id rb
      exact rest _ _ ⟨b, rfl, rb, s3⟩
    subst es
    refine seq_cut (fun σ' H' => ∃ l, σ' = [some (.ref p), some (.int o), some (.int m), some (.ref a), some (.int k), some (.ref c), some (.ref b), some (.ref l), none, none] ∧ H' l = some (.lst ([o + k, m, o + k + m].map V.int)) ∧ L2.Same H3 H') (fun σ4 H4 ⟨l, es, hl, s4⟩ => ?_) (fun Nx rest => ?_)
    rotate_left
    · clear q
      walk_at "go"
      rename_i l hl
      exact rest _ _ ⟨l, rfl, upd_same, same_new hl⟩
    subst es
    have s24 := L2.Same.trans s3 s4
    have s14 := L2.Same.trans s2 s24
    refine seq_cut (fun σ' H' => σ' = [some (.ref p), some (.int o), some (.int m), some (.ref a), some (.int k), some (.ref c), some (.ref b), some (.ref l), none, none] ∧ L2.Same H4 H') (fun σ5 H5 ⟨es, s5⟩ => ?_) (fun Nx rest => ?_)
    rotate_left
    · have rc4 := rc.same s24
      have rb4 := rb.same s4
      have ra4 := ra.same s14
      obtain ⟨c', dx, ec, x1⟩ := id rc4
      cases ec
      obtain ⟨b', dy, eb, y1⟩ := id rb4
      cases eb
      obtain ⟨a', dz, ea, z1⟩ := id ra4
      cases ea
      clear q
      walk_at "go"
      rename_i l1 hl1
      dsimp only
      have s5 := same_new (o := .lst [V.int (o + k), V.int m, V.int (o + k + m)]) hl1
      refine ne_ints (ns := [o + k, m, o + k + m]) (ms := [o + k, m, o + k + m]) upd_same (s5 _ _ hl) ?_
      rw [decide_eq_true rfl]
      have rb5 := rb4.same s5
      have ra5 := ra4.same s5
      have y5 := s5 _ _ y1
      have z5 := s5 _ _ z1
      have e1 : (decide (o = o) && decide (m = m)) = true := by simp
      clear x1 y1 z1 rc4 rb4 ra4 hl1
      walk_at "go"
      refine ⟨_, _, o, m, _, rfl, rb5, .inl ⟨o, m, ra5, rfl⟩, ?_⟩
      rw [e1]
      walk_at "go"
      exact rest _ _ ⟨rfl, s5⟩
    subst es
    have s25 := L2.Same.trans s24 s5
    have s15 := L2.Same.trans s14 s5
    have rc5 := rc.same s25
    have ra5 := ra.same s15
    clear s2 s3 s4 s24 s14 hl
    refine seq_cut (fun σ' H' => σ' = [some (.ref p), some (.int o), some (.int m), some (.ref a), some (.int k), some (.ref c), some (.ref b), some (.ref l), none, none] ∧ L2.Same H5 H') (fun σ6 H6 ⟨es, s6⟩ => ?_) (fun Nx rest => ?_)
    rotate_left
    · obtain ⟨c', dx, ec, x1⟩ := id rc5
      cases ec
      obtain ⟨a', dz, ea, z1⟩ := id ra5
      cases ea
      have ty := ty_int o
      clear q
      walk_at "go"
      refine ⟨_, _, o + k, m, _, rfl, rc5, .inl ⟨o, m, ra5, rfl⟩, ?_⟩
      have e2 : decide (V.int k = V.int 0) = (decide (o + k = o) && decide (m = m)) := by
        rw [decide_eq_true rfl, Bool.and_true]
        exact decide_eq_decide.mpr ⟨fun h => by cases h; omega, fun h => by rw [show k = 0 by omega]⟩
      generalize (decide (o + k = o) && decide (m = m)) = r at e2 ⊢
      walk_at "go"
      refine UL.iteFo' ?_ ?_
      · rw [e2]
        simp
      walk_at "go"
      rename_i v' H6 s6 rv
      rw [Int.sub_self] at rv
      obtain ⟨u, du, rfl, u1⟩ := id rv
      refine ⟨u, du, _, rfl, u1, _, 0, m, rfl, rv, ?_⟩
      walk_at "go"
      exact rest _ _ ⟨rfl, s6⟩
    subst es
    refine seq_cut (fun σ' H' => σ' = [some (.ref p), some (.int o), some (.int m), some (.ref a), some (.int k), some (.ref c), some (.ref b), some (.ref l), some (.ref a), none] ∧ H' = H6) (fun σ7 H7 ⟨es, eH⟩ => ?_) (fun Nx rest => ?_)
    rotate_left
    · clear q
      walk_at "go"
      exact rest _ _ ⟨rfl, rfl⟩
    subst es eH
    have ra7 := ra5.same s6
    have rc7 := rc5.same s6
    refine seq_cut (fun σ' H' => ∃ u, σ' = [some (.ref p), some (.int o), some (.int m), some (.ref a), some (.int k), some (.ref c), some (.ref b), some (.ref l), some (.ref u), none] ∧ SlAt ad H' (.ref u) (o + k) m ∧ L2.Same H7 H') (fun σ8 H8 ⟨u, es, ru, s8⟩ => ?_) (fun Nx rest => ?_)
    rotate_left
    · obtain ⟨a', dz, ea, z1⟩ := id ra7
      cases ea
      have ty := ty_int k
      clear q
      walk_at "go"
      rename_i v' H2 s2 rc
      obtain ⟨c, dc, rfl, _⟩ := id rc
      exact rest _ _ ⟨c, rfl, rc, s2⟩
    subst es
    refine seq_cut (fun σ' H' => σ' = [some (.ref p), some (.int o), some (.int m), some (.ref a), some (.int k), some (.ref c), some (.ref b), some (.ref l), some (.ref u), some (.ref c)] ∧ H' = H8) (fun σ9 H9 ⟨es, eH⟩ => ?_) (fun Nx rest => ?_)
    rotate_left
    · clear q
      walk_at "go"
      exact rest _ _ ⟨rfl, rfl⟩
    subst es eH
    have ra9 := ra7.same s8
    have rc9 := rc7.same s8
    refine seq_cut (fun σ' H' => ∃ w, σ' = [some (.ref p), some (.int o), some (.int m), some (.ref a), some (.int k), some (.ref c), some (.ref b), some (.ref l), some (.ref u), some (.ref w)] ∧ SlAt ad H' (.ref w) o m ∧ L2.Same H9 H') (fun σ10 H10 ⟨w, es, rw_, s10⟩ => ?_) (fun Nx rest => ?_)
    rotate_left
    · obtain ⟨c', dz, ec, z1⟩ := id rc9
      cases ec
      have ty := ty_int k
      clear q
      walk_at "go"
      rename_i v' H2 s2 rc
      rw [Int.add_sub_cancel] at rc
      obtain ⟨c, dc, rfl, _⟩ := id rc
      exact rest _ _ ⟨c, rfl, rc, s2⟩
    subst es
    have ra10 := ra9.same s10
    have rc10 := rc9.same s10
    have ru10 := ru.same s10
    refine seq_cut (fun σ' H' => σ' = [some (.ref p), some (.int o), some (.int m), some (.ref a), some (.int k), some (.ref c), some (.ref b), some (.ref l), some (.ref u), some (.ref w)] ∧ L2.Same H10 H') (fun σ11 H11 ⟨es, s11⟩ => ?_) (fun Nx rest => ?_)
    rotate_left
    · obtain ⟨c', dx, ec, x1⟩ := id rc10
      cases ec
      obtain ⟨a', dz, ea, z1⟩ := id ra10
      cases ea
      clear q
      walk_at "go"
      rename_i l1 hl1 l2 hl2
      dsimp only at hl2 ⊢
      have s1 := same_new (o := .lst [V.int o, V.int (o + k)]) hl1
      have s2 := same_new (o := .lst [V.int o, V.int (o + k)]) hl2
      refine ne_ints (ns := [o, o + k]) (ms := [o, o + k]) (s2 _ _ upd_same) upd_same ?_
      rw [decide_eq_true rfl]
      walk_at "go"
      exact rest _ _ ⟨rfl, L2.Same.trans s1 s2⟩
    subst es
    have sE := L2.Same.trans (L2.Same.trans (L2.Same.trans (L2.Same.trans s15 s6) s8) s10) s11
    have stE := Stay.trans st1 (UL.Same.stay sE p)
    have pE := p1.same sE
    have ra := ra10.same s11
    have rc := rc10.same s11
    have ru := ru10.same s11
    have rw_ := rw_.same s11
    obtain ⟨c', dx, ec, x1⟩ := id rc
    cases ec
    obtain ⟨a', dz, ea, z1⟩ := id ra
    cases ea
    obtain ⟨u', du, eu, y1⟩ := id ru
    cases eu
    obtain ⟨w', dw, ew, w1⟩ := id rw_
    cases ew
    walk_at "go"
    have e1 : (decide (o + k = o + k) && decide (m = m)) = true := by simp
    have e2 : (decide (o = o) && decide (m = m)) = true := by simp
    refine ⟨_, _, o + k, m, _, rfl, ru, .inl ⟨o + k, m, rc, rfl⟩, ?_⟩
    rw [e1]
    walk_at "go"
    refine ⟨_, _, o, m, _, rfl, rw_, .inl ⟨o, m, ra, rfl⟩, ?_⟩
    rw [e2]
    exact q _ pE stE
end
end K11
set_option Elab.async false
set_option linter.all false
set_option maxRecDepth 100000
set_option maxHeartbeats 4000000


namespace K11
open PySem L2 UL ClX
local macro_rules | `(tactic| walk_at "txt") => `(tactic| first
  | ((with_reducible show PySem.W.kitOne _ (.ref _) (.ref _) = _); first | exact Txt.ks_Register_Place (by assumption) | exact Txt.ks_Slots_Place (by assumption) | exact Txt.ks_Next_Place (by assumption) | exact Txt.ks_Register_Slots (by assumption) | exact Txt.ks_Register_Next (by assumption) | exact Txt.ks_Slots_Register (by assumption) | exact Txt.ks_Slots_Next (by assumption) | exact Txt.ks_Next_Register (by assumption) | exact Txt.ks_Next_Slots (by assumption))
  | ((with_reducible show PySem.W.notFirst _ _ (.ref _) = _); first | exact Txt.nf_Register_Slots (by assumption) | exact Txt.nf_Register_Next (by assumption) | exact Txt.nf_Slots_Register (by assumption) | exact Txt.nf_Slots_Next (by assumption) | exact Txt.nf_Next_Register (by assumption) | exact Txt.nf_Next_Slots (by assumption))
  | ((with_reducible show L2.SqT _ _ _ _); first | exact Txt.t_GROUPS (by assumption) _ | exact Txt.t_ALIGNMENTS (by assumption) _)
  | ((with_reducible show L2.Cls _ _); first | exact UL.CIsi.cl (Txt.i_Place (by assumption)) | exact UL.CIsi.cl (Txt.i_Register (by assumption)) | exact UL.CIsi.cl (Txt.i_Slots (by assumption)) | exact UL.CIsi.cl (Txt.i_Next (by assumption)))
  | ((with_reducible show UL.CIsi _ _); first | exact Txt.i_Place (by assumption) | exact Txt.i_Register (by assumption) | exact Txt.i_Slots (by assumption) | exact Txt.i_Next (by assumption))
  | ((with_reducible show L2.NoAttr _ _ _); first | exact Txt.n_Register_group (by assumption) | exact Txt.n_Register_number (by assumption) | exact Txt.n_Register_code (by assumption) | exact Txt.n_Slots_offset (by assumption) | exact Txt.n_Slots_many (by assumption) | exact Txt.n_Next_align (by assumption) | exact Txt.n_Next_many (by assumption))
  | ((with_reducible show L2.TyX _ _ _ _); first | exact UL.CIsi.ty (Txt.i_Place (by assumption)) (by walk_at "look") | exact UL.CIsi.ty (Txt.i_Register (by assumption)) (by walk_at "look") | exact UL.CIsi.ty (Txt.i_Slots (by assumption)) (by walk_at "look") | exact UL.CIsi.ty (Txt.i_Next (by assumption)) (by walk_at "look"))
  | ((with_reducible show PySem.W.kitOne _ (.type _) (.ref _) = _); first | exact ((Txt.k_Place (by assumption)) _ (by simp)).1 | exact ((Txt.k_Register (by assumption)) _ (by simp)).1 | exact ((Txt.k_Slots (by assumption)) _ (by simp)).1 | exact ((Txt.k_Next (by assumption)) _ (by simp)).1)
  | ((with_reducible show _ = PySem.Value.ref _ ∨ _); first | exact .inl rfl | exact .inr ⟨_, rfl, Txt.no_Place (by assumption)⟩)
  | fail)
local macro_rules | `(tactic| walk_at "side") => `(tactic| ((with_reducible show _ ≤ PySem.sizeLine); refine UL.line_ge ?_; simp only [PySem.Str.length_append]; omega))
theorem five_at {i : Nat} {v : V} (e : [V.int 1, V.int 2, V.int 4, V.int 8, V.int 16][i]? = some v) : ∃ l, v = .int l ∧ aOk l := by
  match i, e with
  | 0, e => exact ⟨_, (Option.some.inj e).symm, .inl rfl⟩
  | 1, e => exact ⟨_, (Option.some.inj e).symm, .inr (.inl rfl)⟩
  | 2, e => exact ⟨_, (Option.some.inj e).symm, .inr (.inr (.inl rfl))⟩
  | 3, e => exact ⟨_, (Option.some.inj e).symm, .inr (.inr (.inr (.inl rfl)))⟩
  | 4, e => exact ⟨_, (Option.some.inj e).symm, .inr (.inr (.inr (.inr rfl)))⟩
theorem seven_at {d g : Int} {i : Nat} {v : V} (d0 : 0 ≤ d) (d1 : d < 64) (g0 : 0 ≤ g) (g1 : g ≤ 100000000000000000064) (e : [V.int 0, V.int 1, V.int 15, V.int 16, V.int 17, V.int d, V.int g][i]? = some v) : ∃ k, v = .int k ∧ 0 ≤ k ∧ k ≤ 100000000000000000064 := by
  match i, e with
  | 0, e => exact ⟨_, (Option.some.inj e).symm, by omega, by omega⟩
  | 1, e => exact ⟨_, (Option.some.inj e).symm, by omega, by omega⟩
  | 2, e => exact ⟨_, (Option.some.inj e).symm, by omega, by omega⟩
  | 3, e => exact ⟨_, (Option.some.inj e).symm, by omega, by omega⟩
  | 4, e => exact ⟨_, (Option.some.inj e).symm, by omega, by omega⟩
  | 5, e => exact ⟨_, (Option.some.inj e).symm, by omega, by omega⟩
  | 6, e => exact ⟨_, (Option.some.inj e).symm, by omega, by omega⟩
theorem two_m {m d : Int} {i : Nat} {v : V} (m1 : 1 ≤ m) (m2 : m ≤ 16) (d0 : 0 ≤ d) (d1 : d < 16) (e : [V.int m, V.int (1 + d)][i]? = some v) : ∃ k, v = .int k ∧ 1 ≤ k ∧ k ≤ 16 := by
  match i, e with
  | 0, e => exact ⟨_, (Option.some.inj e).symm, m1, m2⟩
  | 1, e => exact ⟨_, (Option.some.inj e).symm, by omega, by omega⟩
structure NmOk (b l t : Int) : Prop where
  lo : b ≤ t
  hi : t < b + l
  z : t % l = 0
  p : ∀ x, t - l < x → x < t → 0 < x % l
structure NMl (l : Int) : Prop where
  lo : 1 ≤ l
  hi : l ≤ 16
theorem nm_ok {b l : Int} (al : aOk l) : NmOk b l ((b + l - 1) / l * l) := by
  rcases al with rfl | rfl | rfl | rfl | rfl <;> exact ⟨by omega, by omega, by omega, fun x h1 h2 => by omega⟩
theorem n_txt (o m : Int) : nTxt o m = Str.ofString "Next(" ++ Str.ofString (toString o) ++ Str.ofString ", " ++ Str.ofString (toString m) ++ Str.ofString ")" := by
  unfold nTxt
  rw [empty_app]
section
variable {P : Program} {w : World} {K : PySem.W.Frag} {mg : Str → Option Value} {base : Heap} {ad : Ad}
def spNextsR : Sp := fun vs H Q _ => ∃ p : Addr, vs = [.ref p] ∧ Pot H p ∧ ∀ H', Pot H' p → Stay p H H' → Q (.bl true) H'
set_option maxHeartbeats 40000000
abbrev st_l_nexts_right : Stmt := top 31
theorem sc_l_nexts_right : FnScope ["_law_pot_here", "_law_align_now", "_law_big", "_law_told", "_law_turn", "_law_begin", "_law_due", "_law_made", "_law_near", "_law_size"] ["_law_pot_here"] (defScope st_l_nexts_right) := ⟨rfl, rfl, rfl, by decide +kernel, rfl, by decide +kernel, by decide +kernel⟩
theorem ok_l_nexts_right {f : Addr} {fd : FuncData} (F : Fun K "_law_nexts_right" "_law_nexts_right" st_l_nexts_right f fd) (T : Txt K mg ad) (c_l_pick : Cal P w K mg base 2 "_law_pick" (spPick1 K)) (c_l_draw : Cal P w K mg base 1 "_law_draw" spDraw) (m_Next_2 : Mak P w K mg base 3 "Next" ad.c_Next [] (spNxI ad)) (c_Next_align : CalP P w K mg base 1 ad.c_Next "align" (spNGet ad fun o _ => .int o)) (c_Next_many : CalP P w K mg base 1 ad.c_Next "many" (spNGet ad fun _ m => .int m)) (c_Next_bits : CalP P w K mg base 1 ad.c_Next "bits" (spNBits ad)) (c_Next_repr : CalS P w K mg base 1 ad.c_Next "__repr__" (spNRepr ad)) (m_Next_0_many_align : MakK P w K mg base 3 "Next" ad.c_Next ["many", "align"] gQ (spNxI ad)) (c_Next_eq : CalS P w K mg base 1 ad.c_Next "__eq__" (spNEq K ad)) (c_Next_from_offset : CalM P w K mg base 5 ad.c_Next "from_offset" (spFrom ad)) (k_Next_from_offset_offset : CalMK P w K mg base 5 ad.c_Next "from_offset" ["offset"] gKC (spFrom ad)) (c_Slots_offset : CalP P w K mg base 1 ad.c_Slots "offset" (spSGet ad fun o _ => .int o)) (c_Slots_many : CalP P w K mg base 1 ad.c_Slots "many" (spSGet ad fun _ m => .int m)) :
    FnOk P w K mg base CX0 6 f fd ["_law_pot_here"] spNextsR := by
  refine F.ok sc_l_nexts_right (fun vs H Q E h => ?_) (fun cdv A outer s H vs Q E hr h => ?_)
  · obtain (⟨p, rfl, hp, q⟩) := h
    rfl
  · obtain (⟨p, rfl, hp, q⟩) := h
    refine ⟨_, pss_cons (ps_par (i := 1) (j := 2) rfl sc_l_nexts_right.nd rfl rfl (by decide) rfl rfl (pa_cons (pe_c c_l_pick hr (by decide) (by rfl) (pa_cons (pv 0) (pa_cons (pe_lst (pa_cons pe_int (pa_cons pe_int (pa_cons pe_int (pa_cons pe_int (pa_cons pe_int pa_nil)))))) pa_nil))) (pa_cons (pe_op op_add pe_int (pe_c c_l_draw hr (by decide) (by rfl) (pa_cons (pv 0) (pa_cons pe_int pa_nil)))) pa_nil)) (by rfl))
      (pss_cons (ps_set (i := 3) sc_l_nexts_right.nd rfl (.inl rfl) (pe_n m_Next_2 hr (by decide) (by rfl) (pa_cons (pv 1) (pa_cons (pv 2) pa_nil))))
      (pss_cons (ps_if (PW.pt (pw_or (pt_cmpR (op_neD hr.units) (pe_lst (pa_cons (pe_p (pv 3) c_Next_align hr (by decide) (by rfl)) (pa_cons (pe_p (pv 3) c_Next_many hr (by decide) (by rfl)) (pa_cons (pe_p (pv 3) c_Next_bits hr (by decide) (by rfl)) pa_nil)))) (pe_lst (pa_cons (pv 1) (pa_cons (pv 2) (pa_cons (pe_op op_mul pe_int (pv 2)) pa_nil)))) (nomark _)) (pw_or1 (pt_not (pt_val (pe_callB call_isi (by rfl) T.bi.isinstance (by decide +kernel) (pa_cons (pv 3) (pa_cons (pe_glob (v := .ref ad.c_Place) (by rfl) T.g_Place rfl) pa_nil)))))))) (pss_one (ps_ret pe_bl)) pss_nil)
      (pss_cons (ps_if (pt_cmpR op_ne (pe_callB (call_reprS c_Next_repr hr (by decide)) (by rfl) T.bi.repr (by decide +kernel) (pa_cons (pv 3) pa_nil)) (pe_op op_add_str (pe_op op_add_str (pe_op op_add_str (pe_op op_add_str pe_str (pe_callTy call_str_int (by rfl) T.bi.str (by decide +kernel) (pa_cons (pv 1) pa_nil))) pe_str) (pe_callTy call_str_int (by rfl) T.bi.str (by decide +kernel) (pa_cons (pv 2) pa_nil))) pe_str) (nomark _)) (pss_one (ps_ret pe_bl)) pss_nil)
      (pss_cons (ps_if (pt_not (pt_cmpR (op_eqS c_Next_eq hr (by decide)) (pv 3) (pe_nK m_Next_0_many_align hr (by decide) (by rfl) (pk_cons (pv 2) (pk_cons (pv 1) pk_nil))) (nomark _))) (pss_one (ps_ret pe_bl)) pss_nil)
      (pss_cons (ps_for PassesOwn.never rfl (pi_range1 (by rfl) T.bi.range (pa_cons pe_int pa_nil)) (pg_name (i := 4) sc_l_nexts_right.nd rfl (Or.inl rfl))
        (pss_cons (ps_set (i := 5) sc_l_nexts_right.nd rfl (.inl rfl) (pe_c c_l_pick hr (by decide) (by rfl) (pa_cons (pv 0) (pa_cons (pe_lst (pa_cons pe_int (pa_cons pe_int (pa_cons pe_int (pa_cons pe_int (pa_cons pe_int (pa_cons (pe_c c_l_draw hr (by decide) (by rfl) (pa_cons (pv 0) (pa_cons pe_int pa_nil))) (pa_cons (pe_op op_add (pe_op op_pow pe_int pe_int) (pe_c c_l_draw hr (by decide) (by rfl) (pa_cons (pv 0) (pa_cons pe_int pa_nil)))) pa_nil)))))))) pa_nil))))
          (pss_cons (ps_set (i := 6) sc_l_nexts_right.nd rfl (.inl rfl) (pv 5))
          (pss_cons (ps_while PassesOwn.never (pt_cmpR op_gt (pe_op op_mod (pv 6) (pv 1)) pe_int (nomark _))
            (pss_one (ps_set (i := 6) sc_l_nexts_right.nd rfl (.inl rfl) (pe_op op_add (pv 6) pe_int))))
          (pss_cons (ps_set (i := 7) sc_l_nexts_right.nd rfl (.inl rfl) (pe_ifExp (pt_cmpR op_eq (pe_op op_mod (pv 4) pe_int) pe_int (nomark _)) (pe_m (pv 3) c_Next_from_offset hr (by decide) (pa_cons (pv 5) pa_nil)) (pe_mK (pv 3) k_Next_from_offset_offset hr (by decide) (pk_cons (pv 5) pk_nil))))
          (pss_one (ps_if (PW.pt (pw_or (pt_not (pt_val (pe_callB call_isi (by rfl) T.bi.isinstance (by decide +kernel) (pa_cons (pv 7) (pa_cons (pe_glob (v := .ref ad.c_Slots) (by rfl) T.g_Slots rfl) pa_nil))))) (pw_or1 (pt_cmpR (op_neD hr.units) (pe_lst (pa_cons (pe_p (pv 7) c_Slots_offset hr (by decide) (by rfl)) (pa_cons (pe_p (pv 7) c_Slots_many hr (by decide) (by rfl)) pa_nil))) (pe_lst (pa_cons (pv 6) (pa_cons (pv 2) pa_nil))) (nomark _))))) (pss_one (ps_ret pe_bl)) pss_nil)))))))
      (pss_cons (ps_for PassesOwn.never rfl (pi_list (pe_lst (pa_cons pe_int (pa_cons pe_int (pa_cons pe_int (pa_cons pe_int (pa_cons pe_int pa_nil))))))) (pg_name (i := 8) sc_l_nexts_right.nd rfl (Or.inl rfl))
        (pss_one (ps_for PassesOwn.never rfl (pi_list (pe_lst (pa_cons (pv 2) (pa_cons (pe_op op_add pe_int (pe_c c_l_draw hr (by decide) (by rfl) (pa_cons (pv 0) (pa_cons pe_int pa_nil)))) pa_nil)))) (pg_name (i := 9) sc_l_nexts_right.nd rfl (Or.inl rfl))
            (pss_one (ps_if (pt_cmpR op_ne (pe_cmpR (op_eqS c_Next_eq hr (by decide)) (pv 3) (pe_n m_Next_2 hr (by decide) (by rfl) (pa_cons (pv 8) (pa_cons (pv 9) pa_nil))) (nomark _)) (pe_and (pe_cmpR op_eq (pv 8) (pv 1) (nomark _)) (pe_one (pe_cmpR op_eq (pv 9) (pv 2) (nomark _)))) (nomark _)) (pss_one (ps_ret pe_bl)) pss_nil)))))
      (pss_one (ps_ret pe_bl)))))))), ?_⟩
    have nf : PySem.W.notFirst K ad.c_Next (.ref ad.c_Next) = true := by simp [PySem.W.notFirst]
    refine seq_cut (fun σ' H' => ∃ l m, σ' = [some (.ref p), some (.int l), some (.int m), none, none, none, none, none, none, none] ∧ aOk l ∧ 1 ≤ m ∧ m ≤ 16 ∧ Pot H' p ∧ Stay p H H') (fun σ1 H1 ⟨l, m, es, al, m1, m2, p1, st1⟩ => ?_) (fun Nx rest => ?_)
    rotate_left
    · clear q
      walk_at "go"
      rename_i l1 hl1 i v H1 e1 p1 st1 d H2 d0 d1 p2 st2
      obtain ⟨l, rfl, al⟩ := five_at e1
      exact rest _ _ ⟨l, _, rfl, al, by omega, by omega, p2, Stay.trans (Stay.trans (UL.Same.stay (same_new hl1) p) st1) st2⟩
    subst es
    have l16 : 1 ≤ l ∧ l ≤ 16 := by rcases al with rfl | rfl | rfl | rfl | rfl <;> omega
    refine seq_cut (fun σ' H' => ∃ a, σ' = [some (.ref p), some (.int l), some (.int m), some (.ref a), none, none, none, none, none, none] ∧ NxAt ad H' (.ref a) l m ∧ Pot H' p ∧ Stay p H H') (fun σ2 H2 ⟨a, es, ra, p2, st2⟩ => ?_) (fun Nx rest => ?_)
    rotate_left
    · clear q
      walk_at "go"
      rename_i x dx nx nd ne
      exact nmade1 nx nd ne al m1 m2 fun H2 s2 ra => ⟨rfl, rest _ _ ⟨x, rfl, ra, p1.same s2, Stay.trans st1 (UL.Same.stay s2 p)⟩⟩
    subst es
    refine seq_cut (fun σ' H' => σ' = [some (.ref p), some (.int l), some (.int m), some (.ref a), none, none, none, none, none, none] ∧ L2.Same H2 H') (fun σ3 H3 ⟨es, s3⟩ => ?_) (fun Nx rest => ?_)
    rotate_left
    · obtain ⟨a', dx, ea, x1⟩ := id ra
      cases ea
      clear q
      walk_at "go"
      rename_i l1 hl1 l2 hl2
      dsimp only at hl2 ⊢
      have s1 := same_new (o := .lst [V.int l, V.int m, V.int (8 * m)]) hl1
      have s2 := same_new (o := .lst [V.int l, V.int m, V.int (8 * m)]) hl2
      refine ne_ints (ns := [l, m, 8 * m]) (ms := [l, m, 8 * m]) (s2 _ _ upd_same) upd_same ?_
      rw [decide_eq_true rfl]
      have x2 := s2 _ _ (s1 _ _ x1)
      walk_at "go"
      exact rest _ _ ⟨rfl, L2.Same.trans s1 s2⟩
    subst es
    have ra3 := ra.same s3
    refine seq_cut (fun σ' H' => σ' = [some (.ref p), some (.int l), some (.int m), some (.ref a), none, none, none, none, none, none] ∧ H' = H3) (fun σ4 H4 ⟨es, eH⟩ => ?_) (fun Nx rest => ?_)
    rotate_left
    · obtain ⟨a', dx, ea, x1⟩ := id ra3
      cases ea
      have a1 : (Str.ofString "Next(").length = 5 := by decide +kernel
      have a2 : (Str.ofString ", ").length = 2 := by decide +kernel
      have a3 : (Str.ofString ")").length = 1 := by decide +kernel
      have g1 := big_log (i := l) (by omega) (by omega)
      have g2 := big_log (i := m) (by omega) (by omega)
      have l1 := big_len (i := l) (by omega) (by omega)
      have l2 := big_len (i := m) (by omega) (by omega)
      have rT := n_txt l m
      clear q
      walk_at "go"
      exact rest _ _ ⟨rfl, rfl⟩
    subst es eH
    refine seq_cut (fun σ' H' => σ' = [some (.ref p), some (.int l), some (.int m), some (.ref a), none, none, none, none, none, none] ∧ L2.Same H2 H') (fun σ5 H5 ⟨es, s5⟩ => ?_) (fun Nx rest => ?_)
    rotate_left
    · obtain ⟨a', dx, ea, x1⟩ := id ra3
      cases ea
      clear q
      walk_at "go"
      rename_i x dx' nx nd ne
      refine nmade1 nx nd ne al m1 m2 fun H5 s5 rb => ⟨rfl, ?_⟩
      have ra5 := ra3.same s5
      obtain ⟨b', db, eb, y1⟩ := id rb
      cases eb
      have z1 := s5 _ _ x1
      refine ⟨a, dx, _, _, rfl, z1, T.i_Next.ty y1, nf, ?_⟩
      refine ⟨_, _, l, m, _, rfl, ra5, .inl ⟨l, m, rb, rfl⟩, ?_⟩
      rw [show (decide (l = l) && decide (m = m)) = true by simp]
      walk_at "go"
      exact rest _ _ ⟨rfl, L2.Same.trans s3 s5⟩
    subst es
    have ra5 := ra.same s5
    have p5 := p2.same s5
    have st5 := Stay.trans st2 (UL.Same.stay s5 p)
    clear ra3 s3 s5 ra
    refine seq_cut (fun σ' H' => (∃ t4 t5 t6 t7 : Option V, σ' = [some (.ref p), some (.int l), some (.int m), some (.ref a), t4, t5, t6, t7, none, none]) ∧ NxAt ad H' (.ref a) l m ∧ Pot H' p ∧ Stay p H H') (fun σ6 H6 ⟨⟨t4, t5, t6, t7, es⟩, ra6, p6, st6⟩ => ?_) (fun Nx rest => ?_)
    rotate_left
    · clear q
      walk_at "go"
      refine for_it walk_range (fun i σ H' => Hold ((∃ t4 t5 t6 t7 : Option V, σ = [some (.ref p), some (.int l), some (.int m), some (.ref a), t4, t5, t6, t7, none, none]) ∧ NxAt ad H' (.ref a) l m ∧ Pot H' p ∧ Stay p H H')) (Hold.mk ⟨⟨_, _, _, _, rfl⟩, ra5, p5, st5⟩) (fun _ _ _ _ _ => trivial) (fun i x σ H9 H10 hk hh hy => ?_) (fun σ H9 hh => ?_)
      · obtain ⟨⟨t4, t5, t6, t7, es⟩, ra, p7, st7⟩ := hh.out
        clear hh
        subst es
        obtain ⟨rfl, rfl⟩ := hy
        refine gname_go ?_
        dsimp only
        rw [show (0 : Int) + (i : Int) = (i : Int) by omega]
        refine seq_cut (fun σ' H' => ∃ b, σ' = [some (.ref p), some (.int l), some (.int m), some (.ref a), some (.int (i : Int)), some (.int b), t6, t7, none, none] ∧ 0 ≤ b ∧ b ≤ 100000000000000000064 ∧ NxAt ad H' (.ref a) l m ∧ Pot H' p ∧ Stay p H H') (fun σ7 H7 ⟨b, es, b0, b1, ra, p7, st7⟩ => ?_) (fun Nx rest => ?_)
        rotate_left
        · have e20 : (10 : Int) ^ (20 : Int).toNat = 100000000000000000000 := by decide +kernel
          walk_at "go"
          rename_i d H5 d0 d1 p5 st5
          refine ⟨⟨by decide, by decide, by decide⟩, ?_⟩
          walk_at "go"
          rename_i e H6 e0 e1 p6 st6 q1 hq1 j v H7 ej p8 st8
          dsimp only at ej
          rw [e20] at ej
          obtain ⟨k, rfl, k0, k1⟩ := seven_at d0 d1 (by omega) (by omega) ej
          have stA := Stay.trans (Stay.trans (Stay.trans st5 st6) (UL.Same.stay (same_new hq1) p)) st8
          exact rest _ _ ⟨k, rfl, k0, k1, ra.keep (UL.Stay.keep stA p7), p8, Stay.trans st7 stA⟩
        subst es
        refine seq_cut (fun σ' H' => σ' = [some (.ref p), some (.int l), some (.int m), some (.ref a), some (.int (i : Int)), some (.int b), some (.int b), t7, none, none] ∧ H' = H7) (fun σ8 H8 ⟨es, eH⟩ => ?_) (fun Nx rest => ?_)
        rotate_left
        · walk_at "go"
          exact rest _ _ ⟨rfl, rfl⟩
        subst es eH
        have NM := nm_ok (b := b) al
        refine seq_cut (fun σ' H' => σ' = [some (.ref p), some (.int l), some (.int m), some (.ref a), some (.int (i : Int)), some (.int b), some (.int ((b + l - 1) / l * l)), t7, none, none] ∧ H' = H8) (fun σ9 H9 ⟨es, eH⟩ => ?_) (fun Nx rest => ?_)
        rotate_left
        · generalize (b + l - 1) / l * l = t at NM rest
          have el : NMl l := ⟨l16.1, l16.2⟩
          refine while_up (t - b).toNat (fun j σ H' => σ = [some (.ref p), some (.int l), some (.int m), some (.ref a), some (.int (i : Int)), some (.int b), some (.int (b + (j : Int))), t7, none, none] ∧ H' = H8) ⟨by simp, rfl⟩ (fun j σ H' hj ⟨es, eH⟩ R hT hF => ?_)
          have NM1 := NM.lo
          have NM2 := NM.hi
          subst es eH
          by_cases c : j < (t - b).toNat
          · have g2 : decide ((0 : Int) < (b + (j : Int)) % l) = true := decide_eq_true (NM.p _ (by omega) (by omega))
            walk_at "go"
            rw [g2]
            refine hT _ ⟨c, ?_⟩
            walk_at "go"
            exact ⟨by rw [show b + ((j + 1 : Nat) : Int) = b + (j : Int) + 1 by omega]; rfl, rfl⟩
          · have e1 : b + (j : Int) = t := by omega
            have g2 : decide ((0 : Int) < (b + (j : Int)) % l) = false := by rw [e1, NM.z]; rfl
            walk_at "go"
            rw [g2]
            refine hF _ ?_
            rw [e1]
            exact rest _ _ ⟨rfl, rfl⟩
        subst es eH
        refine seq_cut (fun σ' H' => ∃ c, σ' = [some (.ref p), some (.int l), some (.int m), some (.ref a), some (.int (i : Int)), some (.int b), some (.int ((b + l - 1) / l * l)), some (.ref c), none, none] ∧ SlAt ad H' (.ref c) ((b + l - 1) / l * l) m ∧ L2.Same H9 H') (fun σ10 H10 ⟨c, es, rc, s10⟩ => ?_) (fun Nx rest => ?_)
        rotate_left
        · obtain ⟨a', dx, ea, x1⟩ := id ra
          cases ea
          walk_at "go"
          by_cases c : (i : Int) % 2 = 0
          · rw [show decide (V.int ((i : Int) % 2) = V.int 0) = true by rw [c]; simp]
            refine iteT ?_
            walk_at "go"
            rename_i v' H' s' rc
            obtain ⟨c', dc, rfl, _⟩ := id rc
            exact rest _ _ ⟨c', rfl, rc, s'⟩
          · rw [show decide (V.int ((i : Int) % 2) = V.int 0) = false from decide_eq_false fun h => c (V.int.inj h)]
            refine iteF ?_
            walk_at "go"
            rename_i v' H' s' rc
            obtain ⟨c', dc, rfl, _⟩ := id rc
            exact rest _ _ ⟨c', rfl, rc, s'⟩
        subst es
        generalize (b + l - 1) / l * l = t at rc NM
        obtain ⟨c', dx, ec, x1⟩ := id rc
        cases ec
        walk_at "go"
        rename_i l1 hl1 l2 hl2
        dsimp only at hl2 ⊢
        have s1 := same_new (o := .lst [V.int t, V.int m]) hl1
        have s2 := same_new (o := .lst [V.int t, V.int m]) hl2
        refine ne_ints (ns := [t, m]) (ms := [t, m]) (s2 _ _ upd_same) upd_same ?_
        rw [decide_eq_true rfl]
        have sA := L2.Same.trans s10 (L2.Same.trans s1 s2)
        have raA := ra.same sA
        have pA := p7.same sA
        have stA := Stay.trans st7 (UL.Same.stay sA p)
        walk_at "go"
        exact Hold.mk ⟨⟨_, _, _, _, rfl⟩, raA, pA, stA⟩
      · obtain ⟨es, R⟩ := hh.out
        exact rest _ _ ⟨es, R⟩
    subst es
    refine seq_cut (fun σ' H' => (∃ t8 t9 : Option V, σ' = [some (.ref p), some (.int l), some (.int m), some (.ref a), t4, t5, t6, t7, t8, t9]) ∧ Pot H' p ∧ Stay p H H') (fun σ7 H7 ⟨⟨t8, t9, es⟩, p7, st7⟩ => ?_) (fun Nx rest => ?_)
    rotate_left
    · clear q
      walk_at "go"
      rename_i l1 hl1
      have s1 := same_new (o := .lst [V.int 1, V.int 2, V.int 4, V.int 8, V.int 16]) hl1
      have nl : l1 ≠ p := ne_pot hl1 p6
      have hl : upd H6 l1 (.lst [V.int 1, V.int 2, V.int 4, V.int 8, V.int 16]) l1 = some (.lst [V.int 1, V.int 2, V.int 4, V.int 8, V.int 16]) := upd_same
      have ra7 := ra6.same s1
      have p7 := p6.same s1
      have st7 := Stay.trans st6 (UL.Same.stay s1 p)
      generalize upd H6 l1 (.lst [V.int 1, V.int 2, V.int 4, V.int 8, V.int 16]) = H7 at hl ra7 p7 st7 ⊢
      clear s1 hl1
      refine ⟨⟨_, SqL.of hl⟩, ?_⟩
      refine for_it (walk_list (xs := [V.int 1, V.int 2, V.int 4, V.int 8, V.int 16])) (fun i σ H' => Hold ((∃ t8 t9 : Option V, σ = [some (.ref p), some (.int l), some (.int m), some (.ref a), t4, t5, t6, t7, t8, t9]) ∧ Pot H' p ∧ Stay p H7 H')) (Hold.mk ⟨⟨_, _, rfl⟩, p7, Stay.refl _ _⟩) (fun i σ H' _ hh => ?_) (fun i x σ H8 H' hi hh hy => ?_) (fun σ H8 hh => ?_)
      · exact SqL.of (hh.out.2.2 _ _ nl hl)
      · obtain ⟨⟨t8, t9, es⟩, p8, st8⟩ := hh.out
        clear hh
        subst es
        obtain ⟨rfl, hy⟩ := hy
        obtain ⟨l2, rfl, al2⟩ := five_at hy
        walk_at "go"
        rename_i d H9 d0 d1 p9 st9 l3 hl3
        have s3 := same_new (o := .lst [V.int m, V.int (1 + d)]) hl3
        have h3 : upd H9 l3 (.lst [V.int m, V.int (1 + d)]) l3 = some (.lst [V.int m, V.int (1 + d)]) := upd_same
        have p10 := p9.same s3
        have stA := Stay.trans (Stay.trans st8 st9) (UL.Same.stay s3 p)
        generalize upd H9 l3 (.lst [V.int m, V.int (1 + d)]) = H10 at h3 p10 stA ⊢
        refine ⟨⟨_, SqL.of h3⟩, ?_⟩
        refine for_it (walk_list (xs := [V.int m, V.int (1 + d)])) (fun i σ H' => Hold ((∃ t9 : Option V, σ = [some (.ref p), some (.int l), some (.int m), some (.ref a), t4, t5, t6, t7, some (.int l2), t9]) ∧ L2.Same H10 H')) (Hold.mk ⟨⟨_, rfl⟩, L2.Same.refl _⟩) (fun i σ H' _ hh => ?_) (fun j x σ H11 H12 hj hh hy => ?_) (fun σ H11 hh => ?_)
        · exact SqL.of (hh.out.2 _ _ h3)
        · obtain ⟨⟨t9, es⟩, s11⟩ := hh.out
          clear hh
          subst es
          obtain ⟨rfl, hy⟩ := hy
          obtain ⟨m2', rfl, n1, n2⟩ := two_m m1 m2 d0 d1 hy
          walk_at "go"
          rename_i y dy ny ndy ney
          refine nmade1 ny ndy ney al2 n1 n2 fun H13 s13 rc => ⟨rfl, ?_⟩
          have sB := L2.Same.trans s11 s13
          have raB := (ra7.keep (UL.Stay.keep stA p7)).same sB
          obtain ⟨a', dx, ea, x1⟩ := id raB
          cases ea
          obtain ⟨c', dc, ec, c1⟩ := id rc
          cases ec
          refine ⟨a, dx, _, _, rfl, x1, T.i_Next.ty c1, nf, ?_⟩
          refine ⟨_, _, l, m, _, rfl, raB, .inl ⟨l2, m2', rc, rfl⟩, ?_⟩
          clear s11 s13 raB x1 rc c1 ny ndy hl hy h3 st9 st8 stA s3 rest
          walk_at "go"
          by_cases c : l = l2
          · subst c
            rw [show decide (V.int l = V.int l) = true by simp]
            refine iteT ?_
            have e2 : decide (V.int m2' = V.int m) = (decide (l = l) && decide (m = m2')) := by
              rw [decide_eq_true rfl, Bool.true_and]
              exact decide_eq_decide.mpr ⟨fun h => (V.int.inj h).symm, fun h => by rw [h]⟩
            generalize (decide (l = l) && decide (m = m2')) = r at e2 ⊢
            walk_at "go"
            refine UL.iteFo' ?_ ?_
            · rw [e2]
              simp
            exact Hold.mk ⟨⟨_, rfl⟩, sB⟩
          · rw [show decide (V.int l2 = V.int l) = false from decide_eq_false fun h => c (V.int.inj h).symm]
            rw [decide_eq_false c, Bool.false_and]
            refine iteF ?_
            walk_at "go"
            exact Hold.mk ⟨⟨_, rfl⟩, sB⟩
        · obtain ⟨⟨t9, es⟩, s11⟩ := hh.out
          exact Hold.mk ⟨⟨_, t9, es⟩, p10.same s11, Stay.trans stA (UL.Same.stay s11 p)⟩
      · obtain ⟨es, p8, st8⟩ := hh.out
        exact rest _ _ ⟨es, p8, Stay.trans st7 st8⟩
    subst es
    walk_at "go"
    exact q _ p7 st7
end
end K11
set_option Elab.async false
set_option linter.all false
set_option maxRecDepth 100000
set_option maxHeartbeats 4000000


namespace K11
open PySem L2 UL ClX
local macro_rules | `(tactic| walk_at "txt") => `(tactic| first
  | ((with_reducible show PySem.W.kitOne _ (.ref _) (.ref _) = _); first | exact Txt.ks_Register_Place (by assumption) | exact Txt.ks_Slots_Place (by assumption) | exact Txt.ks_Next_Place (by assumption) | exact Txt.ks_Register_Slots (by assumption) | exact Txt.ks_Register_Next (by assumption) | exact Txt.ks_Slots_Register (by assumption) | exact Txt.ks_Slots_Next (by assumption) | exact Txt.ks_Next_Register (by assumption) | exact Txt.ks_Next_Slots (by assumption))
  | ((with_reducible show PySem.W.notFirst _ _ (.ref _) = _); first | exact Txt.nf_Register_Slots (by assumption) | exact Txt.nf_Register_Next (by assumption) | exact Txt.nf_Slots_Register (by assumption) | exact Txt.nf_Slots_Next (by assumption) | exact Txt.nf_Next_Register (by assumption) | exact Txt.nf_Next_Slots (by assumption))
  | ((with_reducible show L2.SqT _ _ _ _); first | exact Txt.t_GROUPS (by assumption) _ | exact Txt.t_ALIGNMENTS (by assumption) _)
  | ((with_reducible show L2.Cls _ _); first | exact UL.CIsi.cl (Txt.i_Place (by assumption)) | exact UL.CIsi.cl (Txt.i_Register (by assumption)) | exact UL.CIsi.cl (Txt.i_Slots (by assumption)) | exact UL.CIsi.cl (Txt.i_Next (by assumption)))
  | ((with_reducible show UL.CIsi _ _); first | exact Txt.i_Place (by assumption) | exact Txt.i_Register (by assumption) | exact Txt.i_Slots (by assumption) | exact Txt.i_Next (by assumption))
  | ((with_reducible show L2.NoAttr _ _ _); first | exact Txt.n_Register_group (by assumption) | exact Txt.n_Register_number (by assumption) | exact Txt.n_Register_code (by assumption) | exact Txt.n_Slots_offset (by assumption) | exact Txt.n_Slots_many (by assumption) | exact Txt.n_Next_align (by assumption) | exact Txt.n_Next_many (by assumption))
  | ((with_reducible show L2.TyX _ _ _ _); first | exact UL.CIsi.ty (Txt.i_Place (by assumption)) (by walk_at "look") | exact UL.CIsi.ty (Txt.i_Register (by assumption)) (by walk_at "look") | exact UL.CIsi.ty (Txt.i_Slots (by assumption)) (by walk_at "look") | exact UL.CIsi.ty (Txt.i_Next (by assumption)) (by walk_at "look"))
  | ((with_reducible show PySem.W.kitOne _ (.type _) (.ref _) = _); first | exact ((Txt.k_Place (by assumption)) _ (by simp)).1 | exact ((Txt.k_Register (by assumption)) _ (by simp)).1 | exact ((Txt.k_Slots (by assumption)) _ (by simp)).1 | exact ((Txt.k_Next (by assumption)) _ (by simp)).1)
  | ((with_reducible show _ = PySem.Value.ref _ ∨ _); first | exact .inl rfl | exact .inr ⟨_, rfl, Txt.no_Place (by assumption)⟩)
  | fail)
local macro_rules | `(tactic| walk_at "side") => `(tactic| ((with_reducible show _ ≤ PySem.sizeLine); refine UL.line_ge ?_; simp only [PySem.Str.length_append]; omega))
/-- a thing of the law -/
inductive Th where
  | reg (g : Str) (n : Int)
  | sl (o m : Int)
  | nx (l m : Int)
  | bi (N : String)
def eqTh : Th → Th → Bool
  | .reg g n, .reg g' n' => decide (g = g') && decide (n = n')
  | .sl o m, .sl o' m' => decide (o = o') && decide (m = m')
  | .nx o m, .nx o' m' => decide (o = o') && decide (m = m')
  | _, _ => false
def own : Th → Bool
  | .bi _ => false
  | _ => true
inductive BiAt (H : Hp) : V → String → Prop
  | non : BiAt H .non "NoneType"
  | int (i : Int) : BiAt H (.int i) "int"
  | str (x : Str) : BiAt H (.str x) "str"
  | lst {p : Addr} {xs : List V} (h : H p = some (.lst xs)) : BiAt H (.ref p) "list"
  | tup {p : Addr} {xs : List V} (h : H p = some (.tup xs)) : BiAt H (.ref p) "tuple"
theorem BiAt.ty {K : PySem.W.Frag} {H : Hp} {v : V} {N : String} (h : BiAt H v N) : TyX K H v (.type N) := by
  cases h with
  | non => exact .base .non
  | int i => exact .base (.int i)
  | str i => exact .base (.str i)
  | lst h => exact .base (.lst h)
  | tup h => exact .base (.tup h)
theorem BiAt.lft {K : PySem.W.Frag} {H : Hp} {v : V} {N : String} (h : BiAt H v N) : LftT K H v N := by
  cases h with
  | non => exact .non
  | int i => exact .int i
  | str i => exact .str i
  | lst h => exact .lst (SqL.of h)
  | tup h => exact .tup (SqT.of h)
theorem BiAt.mem {H : Hp} {v : V} {N : String} (h : BiAt H v N) : N ∈ (["NoneType", "tuple", "str", "int", "list"] : List String) := by
  cases h <;> simp
theorem BiAt.same {H H' : Hp} {v : V} {N : String} (h : BiAt H v N) (s : L2.Same H H') : BiAt H' v N := by
  cases h with
  | non => exact .non
  | int i => exact .int i
  | str i => exact .str i
  | lst h => exact .lst (s _ _ h)
  | tup h => exact .tup (s _ _ h)
def ThAt (K : PySem.W.Frag) (ad : Ad) (H : Hp) (v : V) : Th → Prop
  | .reg g n => RegAt ad H v g n
  | .sl o m => SlAt ad H v o m
  | .nx l m => NxAt ad H v l m
  | .bi N => BiAt H v N
def opU (K : PySem.W.Frag) (ad : Ad) : R2 := fun x y H Q => rEqI K ad.c_Next (spNEq K ad) E0 x y H Q ∨ (rEqR K ad.c_Next (spNEq K ad) E0 x y H Q ∨ (rEqI K ad.c_Slots (spSEq K ad) E0 x y H Q ∨ (rEqR K ad.c_Slots (spSEq K ad) E0 x y H Q ∨ (rEqI K ad.c_Register (spREq K ad) E0 x y H Q ∨ rEqR K ad.c_Register (spREq K ad) E0 x y H Q))))
theorem seven_of {N : String} (h : N ∈ (["NoneType", "tuple", "str", "int", "list"] : List String)) : N ∈ (["NoneType", "tuple", "str", "int", "list", "bool", "dict"] : List String) := by
  simp only [List.mem_cons, List.not_mem_nil, or_false] at h ⊢
  rcases h with rfl | rfl | rfl | rfl | rfl <;> simp
theorem nf_self {K : PySem.W.Frag} {C : Addr} : PySem.W.notFirst K C (.ref C) = true := by simp [PySem.W.notFirst]
theorem eq_own {K : PySem.W.Frag} {mg : Str → Option Value} {ad : Ad} (T : Txt K mg ad) {H : Hp} {x y : V} {t u : Th} {Q : VK} (hx : ThAt K ad H x t) (ow : own t = true) (hy : ThAt K ad H y u) (q : Q (.bl (eqTh t u)) H) : opU K ad x y H Q := by
  cases t with
  | bi N => cases ow
  | reg g n =>
    have hx' : RegAt ad H x g n := hx
    obtain ⟨a, dx, p, rfl, h1⟩ := id hx'
    refine .inr (.inr (.inr (.inr (.inl ?_))))
    cases u with
    | reg g' n' =>
      have hy' : RegAt ad H y g' n' := hy
      obtain ⟨b, db, pb, rfl, h2⟩ := id hy'
      exact ⟨a, dx, _, _, rfl, h1, T.i_Register.ty h2, nf_self, _, _, g, n, _, rfl, hx', .inl ⟨g', n', hy', rfl⟩, q⟩
    | sl o m =>
      obtain ⟨b, db, rfl, h2⟩ := (show SlAt ad H y o m from hy)
      exact ⟨a, dx, _, _, rfl, h1, T.i_Slots.ty h2, T.nf_Slots_Register, _, _, g, n, _, rfl, hx', .inr ⟨_, T.i_Slots.ty h2, T.ks_Slots_Register, rfl⟩, q⟩
    | nx o m =>
      obtain ⟨b, db, rfl, h2⟩ := (show NxAt ad H y o m from hy)
      exact ⟨a, dx, _, _, rfl, h1, T.i_Next.ty h2, T.nf_Next_Register, _, _, g, n, _, rfl, hx', .inr ⟨_, T.i_Next.ty h2, T.ks_Next_Register, rfl⟩, q⟩
    | bi N =>
      have hb : BiAt H y N := hy
      have hN := hb.mem
      have ty := BiAt.ty (K := K) hb
      have k := T.k_Register N (seven_of hN)
      exact ⟨a, dx, _, _, rfl, h1, ty, k.2, _, _, g, n, _, rfl, hx', .inr ⟨_, ty, k.1, rfl⟩, q⟩
  | sl o' m' =>
    have hx' : SlAt ad H x o' m' := hx
    obtain ⟨a, dx, rfl, h1⟩ := id hx'
    refine .inr (.inr (.inl ?_))
    cases u with
    | reg g n =>
      obtain ⟨b, db, pb, rfl, h2⟩ := (show RegAt ad H y g n from hy)
      exact ⟨a, dx, _, _, rfl, h1, T.i_Register.ty h2, T.nf_Register_Slots, _, _, o', m', _, rfl, hx', .inr ⟨_, T.i_Register.ty h2, T.ks_Register_Slots, rfl⟩, q⟩
    | sl o m =>
      have hy' : SlAt ad H y o m := hy
      obtain ⟨b, db, rfl, h2⟩ := id hy'
      exact ⟨a, dx, _, _, rfl, h1, T.i_Slots.ty h2, nf_self, _, _, o', m', _, rfl, hx', .inl ⟨o, m, hy', rfl⟩, q⟩
    | nx o m =>
      obtain ⟨b, db, rfl, h2⟩ := (show NxAt ad H y o m from hy)
      exact ⟨a, dx, _, _, rfl, h1, T.i_Next.ty h2, T.nf_Next_Slots, _, _, o', m', _, rfl, hx', .inr ⟨_, T.i_Next.ty h2, T.ks_Next_Slots, rfl⟩, q⟩
    | bi N =>
      have hb : BiAt H y N := hy
      have hN := hb.mem
      have ty := BiAt.ty (K := K) hb
      have k := T.k_Slots N (seven_of hN)
      exact ⟨a, dx, _, _, rfl, h1, ty, k.2, _, _, o', m', _, rfl, hx', .inr ⟨_, ty, k.1, rfl⟩, q⟩
  | nx o' m' =>
    have hx' : NxAt ad H x o' m' := hx
    obtain ⟨a, dx, rfl, h1⟩ := id hx'
    refine .inl ?_
    cases u with
    | reg g n =>
      obtain ⟨b, db, pb, rfl, h2⟩ := (show RegAt ad H y g n from hy)
      exact ⟨a, dx, _, _, rfl, h1, T.i_Register.ty h2, T.nf_Register_Next, _, _, o', m', _, rfl, hx', .inr ⟨_, T.i_Register.ty h2, T.ks_Register_Next, rfl⟩, q⟩
    | sl o m =>
      obtain ⟨b, db, rfl, h2⟩ := (show SlAt ad H y o m from hy)
      exact ⟨a, dx, _, _, rfl, h1, T.i_Slots.ty h2, T.nf_Slots_Next, _, _, o', m', _, rfl, hx', .inr ⟨_, T.i_Slots.ty h2, T.ks_Slots_Next, rfl⟩, q⟩
    | nx o m =>
      have hy' : NxAt ad H y o m := hy
      obtain ⟨b, db, rfl, h2⟩ := id hy'
      exact ⟨a, dx, _, _, rfl, h1, T.i_Next.ty h2, nf_self, _, _, o', m', _, rfl, hx', .inl ⟨o, m, hy', rfl⟩, q⟩
    | bi N =>
      have hb : BiAt H y N := hy
      have hN := hb.mem
      have ty := BiAt.ty (K := K) hb
      have k := T.k_Next N (seven_of hN)
      exact ⟨a, dx, _, _, rfl, h1, ty, k.2, _, _, o', m', _, rfl, hx', .inr ⟨_, ty, k.1, rfl⟩, q⟩
theorem eq_left {K : PySem.W.Frag} {mg : Str → Option Value} {ad : Ad} (T : Txt K mg ad) {H : Hp} {x y : V} {t : Th} {N : String} {Q : VK} (hx : ThAt K ad H x (.bi N)) (ow : own t = true) (hy : ThAt K ad H y t) (q : Q (.bl false) H) : opU K ad x y H Q := by
  have hb : BiAt H x N := hx
  have hN := hb.mem
  have ty := BiAt.ty (K := K) hb
  have lf := BiAt.lft (K := K) hb
  cases t with
  | bi N => cases ow
  | reg g n =>
    have hy' : RegAt ad H y g n := hy
    obtain ⟨a, dx, p, rfl, h1⟩ := id hy'
    exact .inr (.inr (.inr (.inr (.inr ⟨a, dx, _, N, rfl, h1, lf, T.sr_Register N hN, _, _, g, n, _, rfl, hy', .inr ⟨_, ty, (T.k_Register N (seven_of hN)).1, rfl⟩, q⟩))))
  | sl o m =>
    have hy' : SlAt ad H y o m := hy
    obtain ⟨a, dx, rfl, h1⟩ := id hy'
    exact .inr (.inr (.inr (.inl ⟨a, dx, _, N, rfl, h1, lf, T.sr_Slots N hN, _, _, o, m, _, rfl, hy', .inr ⟨_, ty, (T.k_Slots N (seven_of hN)).1, rfl⟩, q⟩)))
  | nx o m =>
    have hy' : NxAt ad H y o m := hy
    obtain ⟨a, dx, rfl, h1⟩ := id hy'
    exact .inr (.inl ⟨a, dx, _, N, rfl, h1, lf, T.sr_Next N hN, _, _, o, m, _, rfl, hy', .inr ⟨_, ty, (T.k_Next N (seven_of hN)).1, rfl⟩, q⟩)
def ths (m : Int) : List Th := [.reg "whole" 1, .reg "float" 1, .sl 8 m, .nx 8 m, .bi "tuple", .bi "tuple", .bi "int", .bi "int", .bi "NoneType", .bi "str", .bi "list", .bi "str"]
theorem eq_tab {m : Int} {k i : Nat} {t u : Th} (hk : k < 4) (h1 : (ths m)[k]? = some t) (h2 : (ths m)[i]? = some u) : own t = true ∧ eqTh t u = decide (i = k) := by
  have hi : i < 12 := (List.getElem?_eq_some_iff.mp h2).1
  have wf : ("whole" : Str) ≠ "float" := by decide +kernel
  have fw : ("float" : Str) ≠ "whole" := by decide +kernel
  have ck : k = 0 ∨ k = 1 ∨ k = 2 ∨ k = 3 := by omega
  have ci : i = 0 ∨ i = 1 ∨ i = 2 ∨ i = 3 ∨ i = 4 ∨ i = 5 ∨ i = 6 ∨ i = 7 ∨ i = 8 ∨ i = 9 ∨ i = 10 ∨ i = 11 := by omega
  rcases ck with rfl | rfl | rfl | rfl <;> rcases ci with rfl | rfl | rfl | rfl | rfl | rfl | rfl | rfl | rfl | rfl | rfl | rfl <;> (cases h1; cases h2; refine ⟨rfl, ?_⟩; simp [eqTh, wf, fw])
theorem bi_tab {m : Int} {i : Nat} {u : Th} (h : 4 ≤ i) (h2 : (ths m)[i]? = some u) : ∃ N, u = .bi N := by
  have hi : i < 12 := (List.getElem?_eq_some_iff.mp h2).1
  have ci : i = 4 ∨ i = 5 ∨ i = 6 ∨ i = 7 ∨ i = 8 ∨ i = 9 ∨ i = 10 ∨ i = 11 := by omega
  rcases ci with rfl | rfl | rfl | rfl | rfl | rfl | rfl | rfl <;> (cases h2; exact ⟨_, rfl⟩)
theorem ThAt.same {K : PySem.W.Frag} {ad : Ad} {H H' : Hp} {v : V} {t : Th} (h : ThAt K ad H v t) (s : L2.Same H H') : ThAt K ad H' v t := by
  cases t with
  | reg g n => exact RegAt.same h s
  | sl o m => exact SlAt.same h s
  | nx o m => exact NxAt.same h s
  | bi N => exact BiAt.same h s
end K11
set_option Elab.async false
set_option linter.all false
set_option maxRecDepth 100000
set_option maxHeartbeats 4000000


namespace K11
open PySem L2 UL ClX
local macro_rules | `(tactic| walk_at "txt") => `(tactic| first
  | ((with_reducible show PySem.W.kitOne _ (.ref _) (.ref _) = _); first | exact Txt.ks_Register_Place (by assumption) | exact Txt.ks_Slots_Place (by assumption) | exact Txt.ks_Next_Place (by assumption) | exact Txt.ks_Register_Slots (by assumption) | exact Txt.ks_Register_Next (by assumption) | exact Txt.ks_Slots_Register (by assumption) | exact Txt.ks_Slots_Next (by assumption) | exact Txt.ks_Next_Register (by assumption) | exact Txt.ks_Next_Slots (by assumption))
  | ((with_reducible show PySem.W.notFirst _ _ (.ref _) = _); first | exact Txt.nf_Register_Slots (by assumption) | exact Txt.nf_Register_Next (by assumption) | exact Txt.nf_Slots_Register (by assumption) | exact Txt.nf_Slots_Next (by assumption) | exact Txt.nf_Next_Register (by assumption) | exact Txt.nf_Next_Slots (by assumption))
  | ((with_reducible show L2.SqT _ _ _ _); first | exact Txt.t_GROUPS (by assumption) _ | exact Txt.t_ALIGNMENTS (by assumption) _)
  | ((with_reducible show L2.Cls _ _); first | exact UL.CIsi.cl (Txt.i_Place (by assumption)) | exact UL.CIsi.cl (Txt.i_Register (by assumption)) | exact UL.CIsi.cl (Txt.i_Slots (by assumption)) | exact UL.CIsi.cl (Txt.i_Next (by assumption)))
  | ((with_reducible show UL.CIsi _ _); first | exact Txt.i_Place (by assumption) | exact Txt.i_Register (by assumption) | exact Txt.i_Slots (by assumption) | exact Txt.i_Next (by assumption))
  | ((with_reducible show L2.NoAttr _ _ _); first | exact Txt.n_Register_group (by assumption) | exact Txt.n_Register_number (by assumption) | exact Txt.n_Register_code (by assumption) | exact Txt.n_Slots_offset (by assumption) | exact Txt.n_Slots_many (by assumption) | exact Txt.n_Next_align (by assumption) | exact Txt.n_Next_many (by assumption))
  | ((with_reducible show L2.TyX _ _ _ _); first | exact UL.CIsi.ty (Txt.i_Place (by assumption)) (by walk_at "look") | exact UL.CIsi.ty (Txt.i_Register (by assumption)) (by walk_at "look") | exact UL.CIsi.ty (Txt.i_Slots (by assumption)) (by walk_at "look") | exact UL.CIsi.ty (Txt.i_Next (by assumption)) (by walk_at "look"))
  | ((with_reducible show PySem.W.kitOne _ (.type _) (.ref _) = _); first | exact ((Txt.k_Place (by assumption)) _ (by simp)).1 | exact ((Txt.k_Register (by assumption)) _ (by simp)).1 | exact ((Txt.k_Slots (by assumption)) _ (by simp)).1 | exact ((Txt.k_Next (by assumption)) _ (by simp)).1)
  | ((with_reducible show _ = PySem.Value.ref _ ∨ _); first | exact .inl rfl | exact .inr ⟨_, rfl, Txt.no_Place (by assumption)⟩)
  | fail)
local macro_rules | `(tactic| walk_at "side") => `(tactic| ((with_reducible show _ ≤ PySem.sizeLine); refine UL.line_ge ?_; simp only [PySem.Str.length_append]; omega))
theorem Each.app {α : Type} {R : V → α → Prop} {vs us : List V} {ds es : List α} (e1 : Each R vs ds) (e2 : Each R us es) : Each R (vs ++ us) (ds ++ es) := ⟨by rw [List.length_append, List.length_append, e1.1, e2.1], fun i v d h1 h2 => by
  have l := e1.1
  by_cases c : i < vs.length
  · rw [List.getElem?_append_left c] at h1
    rw [List.getElem?_append_left (by omega)] at h2
    exact e1.2 i v d h1 h2
  · rw [List.getElem?_append_right (by omega)] at h1
    rw [List.getElem?_append_right (by omega), ← l] at h2
    exact e2.2 _ v d h1 h2⟩
theorem gW : gOk "whole" := .inl rfl
theorem gF : gOk "float" := .inr rfl
section
variable {P : Program} {w : World} {K : PySem.W.Frag} {mg : Str → Option Value} {base : Heap} {ad : Ad}
set_option maxHeartbeats 40000000
abbrev st_l_unlike_right : Stmt := top 32
theorem sc_l_unlike_right : FnScope ["_law_pot_here", "_law_big", "_law_things", "_law_k", "_law_one", "_law_thing", "_law_j"] ["_law_pot_here"] (defScope st_l_unlike_right) := ⟨rfl, rfl, rfl, by decide +kernel, rfl, by decide +kernel, by decide +kernel⟩
theorem ok_l_unlike_right {f : Addr} {fd : FuncData} (F : Fun K "_law_unlike_right" "_law_unlike_right" st_l_unlike_right f fd) (T : Txt K mg ad) (c_l_draw : Cal P w K mg base 1 "_law_draw" spDraw) (m_Register_2 : Mak P w K mg base 3 "Register" ad.c_Register [] (spRegI ad)) (m_Slots_2 : Mak P w K mg base 3 "Slots" ad.c_Slots [] (spSlI ad)) (m_Next_2 : Mak P w K mg base 3 "Next" ad.c_Next [] (spNxI ad)) (c_Register_eq : CalS P w K mg base 1 ad.c_Register "__eq__" (spREq K ad)) (c_Slots_eq : CalS P w K mg base 1 ad.c_Slots "__eq__" (spSEq K ad)) (c_Next_eq : CalS P w K mg base 1 ad.c_Next "__eq__" (spNEq K ad)) :
    FnOk P w K mg base CX0 5 f fd ["_law_pot_here"] spNextsR := by
  refine F.ok sc_l_unlike_right (fun vs H Q E h => ?_) (fun cdv A outer s H vs Q E hr h => ?_)
  · obtain (⟨p, rfl, hp, q⟩) := h
    rfl
  · obtain (⟨p, rfl, hp, q⟩) := h
    refine ⟨_, pss_cons (ps_set (i := 1) sc_l_unlike_right.nd rfl (.inl rfl) (pe_op op_add pe_int (pe_c c_l_draw hr (by decide) (by rfl) (pa_cons (pv 0) (pa_cons pe_int pa_nil)))))
      (pss_cons (ps_set (i := 2) sc_l_unlike_right.nd rfl (.inl rfl) (pe_lst (pa_cons (pe_n m_Register_2 hr (by decide) (by rfl) (pa_cons pe_str (pa_cons pe_int pa_nil))) (pa_cons (pe_n m_Register_2 hr (by decide) (by rfl) (pa_cons pe_str (pa_cons pe_int pa_nil))) (pa_cons (pe_n m_Slots_2 hr (by decide) (by rfl) (pa_cons pe_int (pa_cons (pv 1) pa_nil))) (pa_cons (pe_n m_Next_2 hr (by decide) (by rfl) (pa_cons pe_int (pa_cons (pv 1) pa_nil))) (pa_cons (pe_tup (pa_cons pe_str (pa_cons pe_int pa_nil))) (pa_cons (pe_tup (pa_cons pe_int (pa_cons (pv 1) pa_nil))) pa_nil))))))))
      (pss_cons (ps_set (i := 2) sc_l_unlike_right.nd rfl (.inl rfl) (pe_op op_cat (pv 2) (pe_lst (pa_cons pe_int (pa_cons (pv 1) (pa_cons pe_non (pa_cons pe_str (pa_cons (pe_lst (pa_cons pe_int (pa_cons (pv 1) pa_nil))) (pa_cons (pe_op op_add_str (pe_op op_add_str pe_str (pe_callTy call_str_int (by rfl) T.bi.str (by decide +kernel) (pa_cons (pv 1) pa_nil))) pe_str) pa_nil)))))))))
      (pss_cons (ps_for PassesOwn.never rfl (pi_enumT (by rfl) T.bi.enumerate (pa_cons (pe_slice sl_list (pv 2) po_none (po_some pe_int)) pa_nil)) (pg_tup rfl (pgs_cons (pg_name (i := 3) sc_l_unlike_right.nd rfl (Or.inr rfl)) (pgs_cons (pg_name (i := 4) sc_l_unlike_right.nd rfl (Or.inr rfl)) pgs_nil)))
        (pss_cons (ps_if (pt_cmpR (op_neD hr.units) (pe_lc (own := [("_law_thing", 5)]) (g := gName 5) (tt := tYes) rfl sc_l_unlike_right.nd (pi_list (pv 2)) (blkOk_by (N := ["_law_pot_here", "_law_big", "_law_things", "_law_k", "_law_one", "_law_thing", "_law_j"]) (sc := defScope st_l_unlike_right) (by decide +kernel)) (fun _ _ _ _ _ => pg_name (i := 5) sc_l_unlike_right.nd rfl (Or.inl rfl)) (fun _ _ _ _ _ => pts_nil) (fun _ _ _ _ _ => UL.pe_conv (pe_cmpR (op_or (op_eqS c_Next_eq hr (by decide)) (op_or (op_eqRS c_Next_eq hr (by decide)) (op_or (op_eqS c_Slots_eq hr (by decide)) (op_or (op_eqRS c_Slots_eq hr (by decide)) (op_or (op_eqS c_Register_eq hr (by decide)) (op_eqRS c_Register_eq hr (by decide))))))) (pv 4) (pv 5) (nomark _)) (by walk_at "unk"))) (pe_lc (own := [("_law_j", 6)]) (g := gName 6) (tt := tYes) rfl sc_l_unlike_right.nd (pi_range1 (by rfl) T.bi.range (pa_cons (pe_callB call_len_seq (by rfl) T.bi.len (by decide +kernel) (pa_cons (pv 2) pa_nil)) pa_nil)) (blkOk_by (N := ["_law_pot_here", "_law_big", "_law_things", "_law_k", "_law_one", "_law_thing", "_law_j"]) (sc := defScope st_l_unlike_right) (by decide +kernel)) (fun _ _ _ _ _ => pg_name (i := 6) sc_l_unlike_right.nd rfl (Or.inl rfl)) (fun _ _ _ _ _ => pts_nil) (fun _ _ _ _ _ => UL.pe_conv (pe_cmpR op_eq (pv 6) (pv 3) (nomark _)) (by walk_at "unk"))) (nomark _)) (pss_one (ps_ret pe_bl)) pss_nil)
          (pss_one (ps_if (pt_cmpR (op_neD hr.units) (pe_lc (own := [("_law_thing", 5)]) (g := gName 5) (tt := tYes) rfl sc_l_unlike_right.nd (pi_list (pe_slice sl_list (pv 2) (po_some pe_int) po_none)) (blkOk_by (N := ["_law_pot_here", "_law_big", "_law_things", "_law_k", "_law_one", "_law_thing", "_law_j"]) (sc := defScope st_l_unlike_right) (by decide +kernel)) (fun _ _ _ _ _ => pg_name (i := 5) sc_l_unlike_right.nd rfl (Or.inl rfl)) (fun _ _ _ _ _ => pts_nil) (fun _ _ _ _ _ => UL.pe_conv (pe_cmpR (op_or (op_eqS c_Next_eq hr (by decide)) (op_or (op_eqRS c_Next_eq hr (by decide)) (op_or (op_eqS c_Slots_eq hr (by decide)) (op_or (op_eqRS c_Slots_eq hr (by decide)) (op_or (op_eqS c_Register_eq hr (by decide)) (op_eqRS c_Register_eq hr (by decide))))))) (pv 5) (pv 4) (nomark _)) (by walk_at "unk"))) (pe_op op_rep (pe_lst (pa_cons pe_bl pa_nil)) (pe_op op_sub (pe_callB call_len_seq (by rfl) T.bi.len (by decide +kernel) (pa_cons (pv 2) pa_nil)) pe_int)) (nomark _)) (pss_one (ps_ret pe_bl)) pss_nil))))
      (pss_one (ps_ret pe_bl))))), ?_⟩
    refine seq_cut (fun σ' H' => ∃ m, σ' = [some (.ref p), some (.int m), none, none, none, none, none] ∧ 1 ≤ m ∧ m ≤ 16 ∧ Pot H' p ∧ Stay p H H') (fun σ1 H1 ⟨m, es, m1, m2, p1, st1⟩ => ?_) (fun Nx rest => ?_)
    rotate_left
    · clear q
      walk_at "go"
      rename_i d H1 d0 d1 p1 st1
      exact rest _ _ ⟨_, rfl, by omega, by omega, p1, st1⟩
    subst es
    refine seq_cut (fun σ' H' => ∃ l T, σ' = [some (.ref p), some (.int m), some (.ref l), none, none, none, none] ∧ H' l = some (.lst T) ∧ Each (ThAt K ad H') T ((ths m).take 6) ∧ L2.Same H1 H') (fun σ2 H2 ⟨l0, T0, es, hl0, hE0, s02⟩ => ?_) (fun Nx rest => ?_)
    rotate_left
    · clear q
      walk_at "go"
      rename_i x dx nx nd ne
      refine rmade1 nx nd ne gW (by decide) (by decide) fun H2 s2 ra => ⟨rfl, ?_⟩
      clear nx nd
      walk_at "go"
      rename_i y dy ny nd ne
      refine rmade1 ny nd ne gF (by decide) (by decide) fun H3 s3 rb => ⟨rfl, ?_⟩
      clear ny nd
      walk_at "go"
      rename_i z dz nz nd ne
      refine smade1 nz nd ne (by decide) m1 m2 fun H4 s4 rc => ⟨rfl, ?_⟩
      clear nz nd
      walk_at "go"
      rename_i w dw nw nd ne
      refine nmade1 nw nd ne (.inr (.inr (.inr (.inl rfl)))) m1 m2 fun H5 s5 rd => ⟨rfl, ?_⟩
      clear nw nd
      walk_at "go"
      rename_i t1 ht1 t2 ht2 l hl
      have q1 := same_new (o := .tup [V.str (Str.ofString "whole"), V.int 1]) ht1
      have q2 := same_new (o := .tup [V.int 8, V.int m]) ht2
      have q3 := same_new (o := .lst [V.ref x, V.ref y, V.ref z, V.ref w, V.ref t1, V.ref t2]) hl
      have qb := L2.Same.trans (L2.Same.trans q1 q2) q3
      have b1 := q3 _ _ (q2 _ _ (upd_same : upd H5 t1 (.tup [V.str (Str.ofString "whole"), V.int 1]) t1 = some (.tup [V.str (Str.ofString "whole"), V.int 1])))
      have b2 := q3 _ _ (upd_same : upd (upd H5 t1 (.tup [V.str (Str.ofString "whole"), V.int 1])) t2 (.tup [V.int 8, V.int m]) t2 = some (.tup [V.int 8, V.int m]))
      refine rest _ _ ⟨l, _, rfl, upd_same, ?_, L2.Same.trans (L2.Same.trans (L2.Same.trans (L2.Same.trans s2 s3) s4) s5) qb⟩
      show Each _ _ [Th.reg "whole" 1, .reg "float" 1, .sl 8 m, .nx 8 m, .bi "tuple", .bi "tuple"]
      exact Each.cons ((((ra.same s3).same s4).same s5).same qb) (Each.cons (((rb.same s4).same s5).same qb) (Each.cons ((rc.same s5).same qb) (Each.cons (rd.same qb) (Each.cons (BiAt.tup b1) (Each.cons (BiAt.tup b2) Each.nil)))))
    subst es
    refine seq_cut (fun σ' H' => ∃ l T, σ' = [some (.ref p), some (.int m), some (.ref l), none, none, none, none] ∧ H' l = some (.lst T) ∧ Each (ThAt K ad H') T (ths m) ∧ L2.Same H1 H') (fun σ3 H3 ⟨l, Ts, es, hl, hE, s03⟩ => ?_) (fun Nx rest => ?_)
    rotate_left
    · have l6 : T0.length = 6 := hE0.1
      have a1 : (Str.ofString "Slots(8, ").length = 9 := by decide +kernel
      have a3 : (Str.ofString ")").length = 1 := by decide +kernel
      have g2 := big_log (i := m) (by omega) (by omega)
      have l2 := big_len (i := m) (by omega) (by omega)
      clear q
      walk_at "go"
      rename_i l1 hl1 l3 hl3 l4 hl4
      have q1 := same_new (o := .lst [V.int 8, V.int m]) hl1
      have q2 := same_new (o := .lst [V.int 8, V.int m, V.non, V.str (Str.ofString "whole"), V.ref l1, V.str (Str.ofString "Slots(8, " ++ Str.ofString (toString m) ++ Str.ofString ")")]) hl3
      have q3 := same_new (o := .lst (T0 ++ [V.int 8, V.int m, V.non, V.str (Str.ofString "whole"), V.ref l1, V.str (Str.ofString "Slots(8, " ++ Str.ofString (toString m) ++ Str.ofString ")")])) hl4
      have qb := L2.Same.trans (L2.Same.trans q1 q2) q3
      have b1 := q3 _ _ (q2 _ _ (upd_same : upd H2 l1 (.lst [V.int 8, V.int m]) l1 = some (.lst [V.int 8, V.int m])))
      refine gname_go ?_
      refine rest _ _ ⟨l4, _, rfl, upd_same, ?_, L2.Same.trans s02 qb⟩
      have e : ths m = (ths m).take 6 ++ [.bi "int", .bi "int", .bi "NoneType", .bi "str", .bi "list", .bi "str"] := rfl
      rw [e]
      exact Each.app (hE0.imp fun v t h => h.same qb) (Each.cons (.int 8) (Each.cons (.int m) (Each.cons .non (Each.cons (.str _) (Each.cons (.lst b1) (Each.cons (.str _) Each.nil))))))
    subst es
    have l12 : Ts.length = 12 := hE.1
    refine seq_cut (fun σ' H' => (∃ t3 t4 t5 t6 : Option V, σ' = [some (.ref p), some (.int m), some (.ref l), t3, t4, t5, t6]) ∧ L2.Same H3 H') (fun σ4 H4 ⟨⟨t3, t4, t5, t6, es⟩, s4⟩ => ?_) (fun Nx rest => ?_)
    rotate_left
    · clear q
      walk_at "go"
      rename_i l4 hl4
      have e4 : cutV Ts none (some 4) = Ts.take 4 := by
        have := cut_to Ts 4
        simpa using this
      have q4 := same_new (o := .lst (cutV Ts none (some 4))) hl4
      have h4 : upd H3 l4 (.lst (cutV Ts none (some 4))) l4 = some (.lst (Ts.take 4)) := by rw [e4]; exact upd_same
      generalize upd H3 l4 (.lst (cutV Ts none (some 4))) = H4 at q4 h4 ⊢
      clear hl4
      refine for_it (walk_enum (xs := Ts.take 4)) (fun i σ H' => Hold ((∃ t3 t4 t5 t6 : Option V, σ = [some (.ref p), some (.int m), some (.ref l), t3, t4, t5, t6]) ∧ L2.Same H4 H')) (Hold.mk ⟨⟨_, _, _, _, rfl⟩, L2.Same.refl _⟩) (fun i σ H' _ hh => SqL.of (hh.out.2 _ _ h4)) (fun i x σ H5 H6 hi hh hy => ?_) (fun σ H5 hh => ?_)
      · obtain ⟨⟨t3, t4, t5, t6, es⟩, s5⟩ := hh.out
        clear hh
        subst es
        obtain ⟨T1, u, w1, rfl, hT1, rfl, hu, hw⟩ := hy
        cases hu
        have i4 : i < 4 := by
          rw [List.length_take] at hi
          omega
        have hw : Ts[i]? = some w1 := by
          have hw : (Ts.take 4)[i]? = some w1 := hw
          rw [List.getElem?_take, if_pos i4] at hw
          exact hw
        obtain ⟨t, ht, hA⟩ := hE.at hw
        have s6 := L2.Same.trans (L2.Same.trans q4 s5) (same_new (o := .tup [V.int (i : Nat), w1]) hT1)
        have s46 := L2.Same.trans s5 (same_new (o := .tup [V.int (i : Nat), w1]) hT1)
        walk_at "go"
        have hl5 := s6 _ _ hl
        generalize upd H5 T1 (.tup [V.int (i : Nat), w1]) = H7 at s6 s46 hl5 ⊢
        have hA7 := hA.same s6
        clear s5 hT1 h4
        refine ⟨⟨_, SqL.of hl5⟩, fun D hD => lc_same (walk_list (xs := Ts)) hD (fun j => .bl (decide (j = i))) (by omega) (fun H2 s2 => SqL.of (s2 _ _ hl5)) (fun j y H2 H8 hj s2 hy R' hR => ?_) (fun H8 s8 hd8 => ?_)⟩
        · obtain ⟨rfl, hy⟩ := hy
          obtain ⟨u, hu, hB⟩ := hE.at hy
          obtain ⟨ow, et⟩ := eq_tab i4 ht hu
          rw [← et] at hR
          have hA8 := hA7.same s2
          have hB8 := (hB.same s6).same s2
          refine gname_go ?_
          refine ⟨rfl, ?_⟩
          refine ⟨_, rfl, ?_⟩
          refine ⟨_, rfl, ?_⟩
          exact eq_own T hA8 ow hB8 (hR _ (L2.Same.refl _))
        have hl8 := s8 _ _ hl5
        clear hD hl5
        walk_at "go"
        rename_i D2 hD2
        refine lc_same walk_range hD2 (fun j => .bl (decide (j = i))) (by omega) (fun _ _ => trivial) (fun j y H2 H9 hj s2 hy R' hR => ?_) (fun H9 s9 hd9 => ?_)
        · obtain ⟨rfl, rfl⟩ := hy
          have e : decide (V.int (0 + (j : Int)) = V.int (i : Int)) = decide (j = i) := decide_eq_decide.mpr ⟨fun h => by have := V.int.inj h; omega, fun h => by rw [h, Int.zero_add]⟩
          rw [← e] at hR
          clear s2 hd8 hl8 hE hl
          refine gname_go ?_
          refine ⟨rfl, ?_⟩
          walk_at "go"
          exact hR _ (L2.Same.refl _)
        have eb : ∀ n : Nat, (List.range n).map (fun j => V.bl (decide (j = i))) = ((List.range n).map fun j => decide (j = i)).map V.bl := fun n => by
          rw [List.map_map]
          rfl
        rw [eb] at hd8 hd9
        rw [Int.toNat_natCast] at hd9
        refine ne_bls (s9 _ _ hd8) hd9 ?_
        rw [decide_eq_true rfl]
        have s89 := L2.Same.trans s8 s9
        have hl9 := s9 _ _ hl8
        clear hd8 hd9 s8 s9 hl8 hD2
        walk_at "go"
        rename_i l5 hl5
        have e5 : cutV Ts (some 4) none = Ts.drop 4 := by
          have := cut_from Ts 4
          simpa using this
        rw [e5]
        have q5 := same_new (o := .lst (Ts.drop 4)) hl5
        have h5 : upd H9 l5 (.lst (Ts.drop 4)) l5 = some (.lst (Ts.drop 4)) := upd_same
        have hl10 := q5 _ _ hl9
        have s10 := L2.Same.trans s89 q5
        generalize upd H9 l5 (.lst (Ts.drop 4)) = H10 at h5 hl10 s10 ⊢
        clear q5 hl5 hl9 s89
        refine ⟨⟨_, SqL.of h5⟩, fun D3 hD3 => lc_same (walk_list (xs := Ts.drop 4)) hD3 (fun _ => .bl false) (by rw [List.length_drop]; omega) (fun H2 s2 => SqL.of (s2 _ _ h5)) (fun j y H2 H11 hj s2 hy R' hR => ?_) (fun H11 s11 hd11 => ?_)⟩
        · obtain ⟨rfl, hy⟩ := hy
          rw [List.getElem?_drop] at hy
          obtain ⟨u, hu, hB⟩ := hE.at hy
          obtain ⟨N, rfl⟩ := bi_tab (by omega) hu
          obtain ⟨ow, _⟩ := eq_tab i4 ht ht
          have hA8 := (hA7.same s10).same s2
          have hB8 := ((hB.same s6).same s10).same s2
          refine gname_go ?_
          refine ⟨rfl, ?_⟩
          refine ⟨_, rfl, ?_⟩
          refine ⟨_, rfl, ?_⟩
          exact eq_left T hB8 ow hA8 (hR _ (L2.Same.refl _))
        rw [map_no, List.length_drop, l12] at hd11
        have hl11 := s11 _ _ hl10
        have s7F := L2.Same.trans s10 s11
        clear h5 hD3 hl10 s10 s11
        have e12 : (Ts.length : Int) - 4 = 8 := by omega
        walk_at "go"
        rename_i l6 hl6 l7 hl7
        rw [e12]
        have q6 := same_new (o := .lst [V.bl false]) hl6
        have q7 := same_new (o := .lst (List.replicate (Int.toNat 8) [V.bl false]).flatten) hl7
        refine ne_bls (ns := List.replicate 8 false) (ms := List.replicate 8 false) ((L2.Same.trans q6 q7) _ _ hd11) upd_same ?_
        rw [decide_eq_true rfl]
        have sF := L2.Same.trans s46 (L2.Same.trans s7F (L2.Same.trans q6 q7))
        walk_at "go"
        exact Hold.mk ⟨⟨_, _, _, _, rfl⟩, sF⟩
      · obtain ⟨es, s5⟩ := hh.out
        exact rest _ _ ⟨es, L2.Same.trans q4 s5⟩
    subst es
    have sA := L2.Same.trans s03 s4
    walk_at "go"
    exact q _ (p1.same sA) (Stay.trans st1 (UL.Same.stay sA p))
end
end K11
set_option Elab.async false
set_option linter.all false
set_option maxRecDepth 100000
set_option maxHeartbeats 4000000


namespace K11
open PySem L2 UL ClX
local macro_rules | `(tactic| walk_at "txt") => `(tactic| first
  | ((with_reducible show PySem.W.kitOne _ (.ref _) (.ref _) = _); first | exact Txt.ks_Register_Place (by assumption) | exact Txt.ks_Slots_Place (by assumption) | exact Txt.ks_Next_Place (by assumption) | exact Txt.ks_Register_Slots (by assumption) | exact Txt.ks_Register_Next (by assumption) | exact Txt.ks_Slots_Register (by assumption) | exact Txt.ks_Slots_Next (by assumption) | exact Txt.ks_Next_Register (by assumption) | exact Txt.ks_Next_Slots (by assumption))
  | ((with_reducible show PySem.W.notFirst _ _ (.ref _) = _); first | exact Txt.nf_Register_Slots (by assumption) | exact Txt.nf_Register_Next (by assumption) | exact Txt.nf_Slots_Register (by assumption) | exact Txt.nf_Slots_Next (by assumption) | exact Txt.nf_Next_Register (by assumption) | exact Txt.nf_Next_Slots (by assumption))
  | ((with_reducible show L2.SqT _ _ _ _); first | exact Txt.t_GROUPS (by assumption) _ | exact Txt.t_ALIGNMENTS (by assumption) _)
  | ((with_reducible show L2.Cls _ _); first | exact UL.CIsi.cl (Txt.i_Place (by assumption)) | exact UL.CIsi.cl (Txt.i_Register (by assumption)) | exact UL.CIsi.cl (Txt.i_Slots (by assumption)) | exact UL.CIsi.cl (Txt.i_Next (by assumption)))
  | ((with_reducible show UL.CIsi _ _); first | exact Txt.i_Place (by assumption) | exact Txt.i_Register (by assumption) | exact Txt.i_Slots (by assumption) | exact Txt.i_Next (by assumption))
  | ((with_reducible show L2.NoAttr _ _ _); first | exact Txt.n_Register_group (by assumption) | exact Txt.n_Register_number (by assumption) | exact Txt.n_Register_code (by assumption) | exact Txt.n_Slots_offset (by assumption) | exact Txt.n_Slots_many (by assumption) | exact Txt.n_Next_align (by assumption) | exact Txt.n_Next_many (by assumption))
  | ((with_reducible show L2.TyX _ _ _ _); first | exact UL.CIsi.ty (Txt.i_Place (by assumption)) (by walk_at "look") | exact UL.CIsi.ty (Txt.i_Register (by assumption)) (by walk_at "look") | exact UL.CIsi.ty (Txt.i_Slots (by assumption)) (by walk_at "look") | exact UL.CIsi.ty (Txt.i_Next (by assumption)) (by walk_at "look"))
  | ((with_reducible show PySem.W.kitOne _ (.type _) (.ref _) = _); first | exact ((Txt.k_Place (by assumption)) _ (by simp)).1 | exact ((Txt.k_Register (by assumption)) _ (by simp)).1 | exact ((Txt.k_Slots (by assumption)) _ (by simp)).1 | exact ((Txt.k_Next (by assumption)) _ (by simp)).1)
  | ((with_reducible show _ = PySem.Value.ref _ ∨ _); first | exact .inl rfl | exact .inr ⟨_, rfl, Txt.no_Place (by assumption)⟩)
  | fail)
theorem start_at {a b c : Int} {i : Nat} {v : V} (a0 : 0 ≤ a) (a1 : a < 20) (b0 : 0 ≤ b) (b1 : b < 64) (c0 : 0 ≤ c) (c1 : c ≤ 100000000000000000200) (e : [V.int 0, V.int a, V.int b, V.int c][i]? = some v) : ∃ k, v = .int k ∧ 0 ≤ k ∧ k ≤ 100000000000000000200 := by
  match i, e with
  | 0, e => exact ⟨_, (Option.some.inj e).symm, by omega, by omega⟩
  | 1, e => exact ⟨_, (Option.some.inj e).symm, by omega, by omega⟩
  | 2, e => exact ⟨_, (Option.some.inj e).symm, by omega, by omega⟩
  | 3, e => exact ⟨_, (Option.some.inj e).symm, by omega, by omega⟩
theorem big_at {d : Int} {i : Nat} {v : V} (d0 : 0 ≤ d) (d1 : d < 16) (e : [V.int 1, V.int 16, V.int (1 + d)][i]? = some v) : ∃ k, v = .int k ∧ 1 ≤ k ∧ k ≤ 16 := by
  match i, e with
  | 0, e => exact ⟨_, (Option.some.inj e).symm, by omega, by omega⟩
  | 1, e => exact ⟨_, (Option.some.inj e).symm, by omega, by omega⟩
  | 2, e => exact ⟨_, (Option.some.inj e).symm, by omega, by omega⟩
section
variable {P : Program} {w : World} {K : PySem.W.Frag} {mg : Str → Option Value} {base : Heap} {ad : Ad}
set_option maxHeartbeats 40000000
abbrev st_l_right : Stmt := top 33
theorem sc_l_right : FnScope ["_law_pot_here", "_law_turn", "_law_start", "_law_big"] ["_law_pot_here"] (defScope st_l_right) := ⟨rfl, rfl, rfl, by decide +kernel, rfl, by decide +kernel, by decide +kernel⟩
theorem ok_l_right {f : Addr} {fd : FuncData} (F : Fun K "_law_right" "_law_right" st_l_right f fd) (T : Txt K mg ad) (c_l_registers_right : Cal P w K mg base 5 "_law_registers_right" spRegsR) (c_l_nexts_right : Cal P w K mg base 6 "_law_nexts_right" spNextsR) (c_l_unlike_right : Cal P w K mg base 5 "_law_unlike_right" spNextsR) (c_l_pick : Cal P w K mg base 2 "_law_pick" (spPick1 K)) (c_l_draw : Cal P w K mg base 1 "_law_draw" spDraw) (c_l_slots_right : CalG P w K mg base 5 "_law_slots_right" spSlotsR) (c_l_moved_right : Cal P w K mg base 6 "_law_moved_right" spSlotsR) :
    FnG P w K mg base 7 f fd ["_law_pot_here"] spNextsR := by
  refine FnG.mk' F sc_l_right (fun vs H Q E h => ?_) (fun cdv A outer s H vs Q E hgd hr h => ?_)
  · obtain (⟨p, rfl, hp, q⟩) := h
    rfl
  · obtain (⟨p, rfl, hp, q⟩) := h
    refine ⟨_, pss_cons (ps_if (PW.pt (pw_or (pt_not (pt_val (pe_c c_l_registers_right hr (by decide) (by rfl) (pa_cons (pv 0) pa_nil)))) (pw_or (pt_not (pt_val (pe_c c_l_nexts_right hr (by decide) (by rfl) (pa_cons (pv 0) pa_nil)))) (pw_or1 (pt_not (pt_val (pe_c c_l_unlike_right hr (by decide) (by rfl) (pa_cons (pv 0) pa_nil)))))))) (pss_one (ps_ret pe_bl)) pss_nil)
      (pss_cons (ps_for PassesOwn.never rfl (pi_range1 (by rfl) T.bi.range (pa_cons pe_int pa_nil)) (pg_name (i := 1) sc_l_right.nd rfl (Or.inl rfl))
        (pss_cons (ps_set (i := 2) sc_l_right.nd rfl (.inl rfl) (pe_c c_l_pick hr (by decide) (by rfl) (pa_cons (pv 0) (pa_cons (pe_lst (pa_cons pe_int (pa_cons (pe_c c_l_draw hr (by decide) (by rfl) (pa_cons (pv 0) (pa_cons pe_int pa_nil))) (pa_cons (pe_c c_l_draw hr (by decide) (by rfl) (pa_cons (pv 0) (pa_cons pe_int pa_nil))) (pa_cons (pe_op op_add (pe_op op_pow pe_int pe_int) (pe_c c_l_draw hr (by decide) (by rfl) (pa_cons (pv 0) (pa_cons pe_int pa_nil)))) pa_nil))))) pa_nil))))
          (pss_cons (ps_set (i := 3) sc_l_right.nd rfl (.inl rfl) (pe_c c_l_pick hr (by decide) (by rfl) (pa_cons (pv 0) (pa_cons (pe_lst (pa_cons pe_int (pa_cons pe_int (pa_cons (pe_op op_add pe_int (pe_c c_l_draw hr (by decide) (by rfl) (pa_cons (pv 0) (pa_cons pe_int pa_nil)))) pa_nil)))) pa_nil))))
          (pss_one (ps_if (PW.pt (pw_or (pt_not (pt_val (pe_cG hgd c_l_slots_right hr (by decide) (by rfl) (pa_cons (pv 0) (pa_cons (pv 2) (pa_cons (pv 3) pa_nil)))))) (pw_or1 (pt_not (pt_val (pe_c c_l_moved_right hr (by decide) (by rfl) (pa_cons (pv 0) (pa_cons (pv 2) (pa_cons (pv 3) pa_nil))))))))) (pss_one (ps_ret pe_bl)) pss_nil)))))
      (pss_one (ps_ret pe_bl))), ?_⟩
    have e20 : (10 : Int) ^ (20 : Int).toNat = 100000000000000000000 := by decide +kernel
    refine seq_cut (fun σ' H' => σ' = [some (.ref p), none, none, none] ∧ Pot H' p ∧ Stay p H H') (fun σ1 H1 ⟨es, p1, st1⟩ => ?_) (fun Nx rest => ?_)
    rotate_left
    · clear q
      walk_at "go"
      rename_i H1 p1 st1 H2 p2 st2 H3 p3 st3
      exact rest _ _ ⟨rfl, p3, Stay.trans (Stay.trans st1 st2) st3⟩
    subst es
    refine seq_cut (fun σ' H' => (∃ t1 t2 t3 : Option V, σ' = [some (.ref p), t1, t2, t3]) ∧ Pot H' p ∧ Stay p H H') (fun σ2 H2 ⟨⟨t1, t2, t3, es⟩, p2, st2⟩ => ?_) (fun Nx rest => ?_)
    rotate_left
    · clear q
      walk_at "go"
      refine for_it walk_range (fun i σ H' => Hold ((∃ t1 t2 t3 : Option V, σ = [some (.ref p), t1, t2, t3]) ∧ Pot H' p ∧ Stay p H H')) (Hold.mk ⟨⟨_, _, _, rfl⟩, p1, st1⟩) (fun _ _ _ _ _ => trivial) (fun i x σ H5 H6 hi hh hy => ?_) (fun σ H5 hh => ?_)
      · obtain ⟨⟨t1, t2, t3, es⟩, p5, st5⟩ := hh.out
        clear hh
        subst es
        obtain ⟨rfl, rfl⟩ := hy
        refine gname_go ?_
        generalize some ((fun i : Nat => V.int (0 + (i : Int))) i) = t1
        refine seq_cut (fun σ' H' => ∃ o, σ' = [some (.ref p), t1, some (.int o), t3] ∧ 0 ≤ o ∧ o ≤ 100000000000000000200 ∧ Pot H' p ∧ Stay p H H') (fun σ3 H3 ⟨o, es, o0, o1, p3, st3⟩ => ?_) (fun Nx rest => ?_)
        rotate_left
        · walk_at "go"
          rename_i a Ha a0 a1 pa sa b Hb b0 b1 pb sb
          refine ⟨⟨by decide, by decide, by decide⟩, ?_⟩
          walk_at "go"
          rename_i c Hc c0 c1 pc sc l hl j v Hd ej pd sd
          dsimp only at ej
          rw [e20] at ej
          obtain ⟨o, rfl, o0, o1⟩ := start_at a0 a1 b0 b1 (by omega) (by omega) ej
          exact rest _ _ ⟨o, rfl, o0, o1, pd, Stay.trans st5 (Stay.trans (Stay.trans (Stay.trans (Stay.trans sa sb) sc) (UL.Same.stay (same_new hl) p)) sd)⟩
        subst es
        refine seq_cut (fun σ' H' => ∃ m, σ' = [some (.ref p), t1, some (.int o), some (.int m)] ∧ 1 ≤ m ∧ m ≤ 16 ∧ Pot H' p ∧ Stay p H H') (fun σ4 H4 ⟨m, es, m1, m2, p4, st4⟩ => ?_) (fun Nx rest => ?_)
        rotate_left
        · walk_at "go"
          rename_i d H4 d0 d1 p4 st4 l hl j v H5 ej p5 st5'
          dsimp only at ej
          obtain ⟨m, rfl, m1, m2⟩ := big_at d0 d1 ej
          refine gname_go ?_
          exact rest _ _ ⟨m, rfl, m1, m2, p5, Stay.trans st3 (Stay.trans (Stay.trans st4 (UL.Same.stay (same_new hl) p)) st5')⟩
        subst es
        walk_at "go"
        rename_i H5 p5 s5 H6 p6 s6
        exact Hold.mk ⟨⟨_, _, _, rfl⟩, p6, Stay.trans (Stay.trans st4 s5) s6⟩
      · obtain ⟨es, p5, st5⟩ := hh.out
        exact rest _ _ ⟨es, p5, st5⟩
    subst es
    walk_at "go"
    exact q _ p2 st2
end
end K11
set_option Elab.async false
set_option linter.all false
set_option maxRecDepth 100000
set_option maxHeartbeats 4000000


namespace K11
open PySem L2 UL ClX
local macro_rules | `(tactic| walk_at "txt") => `(tactic| first
  | ((with_reducible show PySem.W.kitOne _ (.ref _) (.ref _) = _); first | exact Txt.ks_Register_Place (by assumption) | exact Txt.ks_Slots_Place (by assumption) | exact Txt.ks_Next_Place (by assumption) | exact Txt.ks_Register_Slots (by assumption) | exact Txt.ks_Register_Next (by assumption) | exact Txt.ks_Slots_Register (by assumption) | exact Txt.ks_Slots_Next (by assumption) | exact Txt.ks_Next_Register (by assumption) | exact Txt.ks_Next_Slots (by assumption))
  | ((with_reducible show PySem.W.notFirst _ _ (.ref _) = _); first | exact Txt.nf_Register_Slots (by assumption) | exact Txt.nf_Register_Next (by assumption) | exact Txt.nf_Slots_Register (by assumption) | exact Txt.nf_Slots_Next (by assumption) | exact Txt.nf_Next_Register (by assumption) | exact Txt.nf_Next_Slots (by assumption))
  | ((with_reducible show L2.SqT _ _ _ _); first | exact Txt.t_GROUPS (by assumption) _ | exact Txt.t_ALIGNMENTS (by assumption) _)
  | ((with_reducible show L2.Cls _ _); first | exact UL.CIsi.cl (Txt.i_Place (by assumption)) | exact UL.CIsi.cl (Txt.i_Register (by assumption)) | exact UL.CIsi.cl (Txt.i_Slots (by assumption)) | exact UL.CIsi.cl (Txt.i_Next (by assumption)))
  | ((with_reducible show UL.CIsi _ _); first | exact Txt.i_Place (by assumption) | exact Txt.i_Register (by assumption) | exact Txt.i_Slots (by assumption) | exact Txt.i_Next (by assumption))
  | ((with_reducible show L2.NoAttr _ _ _); first | exact Txt.n_Register_group (by assumption) | exact Txt.n_Register_number (by assumption) | exact Txt.n_Register_code (by assumption) | exact Txt.n_Slots_offset (by assumption) | exact Txt.n_Slots_many (by assumption) | exact Txt.n_Next_align (by assumption) | exact Txt.n_Next_many (by assumption))
  | ((with_reducible show L2.TyX _ _ _ _); first | exact UL.CIsi.ty (Txt.i_Place (by assumption)) (by walk_at "look") | exact UL.CIsi.ty (Txt.i_Register (by assumption)) (by walk_at "look") | exact UL.CIsi.ty (Txt.i_Slots (by assumption)) (by walk_at "look") | exact UL.CIsi.ty (Txt.i_Next (by assumption)) (by walk_at "look"))
  | ((with_reducible show PySem.W.kitOne _ (.type _) (.ref _) = _); first | exact ((Txt.k_Place (by assumption)) _ (by simp)).1 | exact ((Txt.k_Register (by assumption)) _ (by simp)).1 | exact ((Txt.k_Slots (by assumption)) _ (by simp)).1 | exact ((Txt.k_Next (by assumption)) _ (by simp)).1)
  | ((with_reducible show _ = PySem.Value.ref _ ∨ _); first | exact .inl rfl | exact .inr ⟨_, rfl, Txt.no_Place (by assumption)⟩)
  | fail)
theorem four4 {z : Int} : (if (if 4 < z then 4 else z) > 1 then (if 4 < z then 4 else z) else 1) ≤ 4 ∧ 1 ≤ (if (if 4 < z then 4 else z) > 1 then (if 4 < z then 4 else z) else 1) := by
  by_cases c : 4 < z
  · rw [if_pos c, if_pos (by decide)]
    decide
  · rw [if_neg c]
    by_cases d : z > 1
    · rw [if_pos d]
      omega
    · rw [if_neg d]
      decide
theorem sq_pastS {K : PySem.W.Frag} {a p : Addr} {H H1 H2 : Hp} {xs : List V} (h : SqL K H a xs) (hp : H p = none) (s : L2.Same H H1) (st : Stay p H1 H2) : SqL K H2 a xs := by
  rcases h with (h | ⟨o, h⟩) | h
  · exact .inl (.inl (st _ _ (ne_of_none h hp) (s _ _ h)))
  · exact .inl (.inr ⟨o, st _ _ (ne_of_none h hp) (s _ _ h)⟩)
  · exact .inr h
section
variable {P : Program} {w : World} {K : PySem.W.Frag} {mg : Str → Option Value} {base : Heap} {ad : Ad}
def spLaw (K : PySem.W.Frag) : Sp := fun vs H Q _ => ∃ (a : Addr) (ns : List Int), vs = [.ref a] ∧ SqL K H a (ns.map V.int) ∧ ns.length ≤ 63 ∧ ∀ H' : Hp, Q (.bl true) H'
abbrev st_law : Stmt := top 34
theorem sc_law : FnScope ["_law_script", "_law_k"] ["_law_script"] (defScope st_law) := ⟨rfl, rfl, rfl, by decide +kernel, rfl, by decide +kernel, by decide +kernel⟩
theorem ok_law {f : Addr} {fd : FuncData} (F : Fun K "law" "law" st_law f fd) (T : Txt K mg ad) (c_l_right : CalG P w K mg base 7 "_law_right" spNextsR) (c_l_pot : Cal P w K mg base 1 "_law_pot" (spPot K)) :
    FnG P w K mg base 8 f fd ["_law_script"] (spLaw K) := by
  refine FnG.mk' F sc_law (fun vs H Q E h => ?_) (fun cdv A outer s H vs Q E hgd hr h => ?_)
  · obtain (⟨a, ns, rfl, hS, hn, q⟩) := h
    rfl
  · obtain (⟨a, ns, rfl, hS, hn, q⟩) := h
    refine ⟨_, pss_one (ps_ret (pe_callB (cr_all rfl) (by rfl) T.bi.all (by decide +kernel) (pa_cons (pe_lc (own := [("_law_k", 1)]) (g := gName 1) (tt := tYes) rfl sc_law.nd (pi_range1 (by rfl) T.bi.range (pa_cons (pe_callB (call_max2 rfl) (by rfl) T.bi.max (by decide +kernel) (pa_cons pe_int (pa_cons (pe_callB (call_min2 rfl) (by rfl) T.bi.min (by decide +kernel) (pa_cons (pe_callB call_len_seq (by rfl) T.bi.len (by decide +kernel) (pa_cons (pv 0) pa_nil)) (pa_cons pe_int pa_nil))) pa_nil))) pa_nil)) (blkOk_by (N := ["_law_script", "_law_k"]) (sc := defScope st_law) (by decide +kernel)) (fun _ _ _ _ _ => pg_name (i := 1) sc_law.nd rfl (Or.inl rfl)) (fun _ _ _ _ _ => pts_nil) (fun _ _ _ _ _ => UL.pe_conv (pe_cG hgd c_l_right hr (by decide) (by rfl) (pa_cons (pe_c c_l_pot hr (by decide) (by rfl) (pa_cons (pv 0) (pa_cons (pv 1) pa_nil))) pa_nil)) (by walk_at "unk"))) pa_nil))), ?_⟩
    walk_at "go"
    rename_i D hD
    obtain ⟨m3, m1⟩ := four4 (z := ((ns.map V.int).length : Int))
    generalize (if (if 4 < ((ns.map V.int).length : Int) then 4 else ((ns.map V.int).length : Int)) > 1 then (if 4 < ((ns.map V.int).length : Int) then 4 else ((ns.map V.int).length : Int)) else 1) = m at m3 m1 ⊢
    refine lc_it (walk_range (lo := 0) (n := m.toNat)) (fun i H' => H' D = some (.lst ((List.replicate i true).map V.bl)) ∧ SqL K H' a (ns.map V.int)) ⟨upd_same, sq_same hS (same_new hD)⟩ (fun _ _ _ _ => trivial) (fun i x H1 H' hi ⟨d1, s1⟩ hy => ?_) (fun H' ⟨d1, s1⟩ => ?_)
    · obtain ⟨rfl, rfl⟩ := hy
      refine ⟨rfl, _, rfl, _, rfl, a, ns, _, rfl, s1, by omega, by omega, fun p H1 np hp sm => ?_⟩
      refine ⟨p, rfl, hp, fun H2 p2 st => ?_⟩
      have d2 := st _ _ (ne_of_none d1 np) (sm _ _ d1)
      refine ⟨_, d2, line_gt (by rw [List.length_map, List.length_replicate]; omega), ?_, ?_⟩
      · rw [List.replicate_succ', List.map_append]
        exact upd_same
      · exact sq_off hS hD _ _ (sq_pastS s1 np sm st)
    · refine ⟨D, _, rfl, SqL.of d1, ?_⟩
      rw [all_true]
      exact q H'
end
end K11
set_option Elab.async false
set_option linter.all false
set_option maxRecDepth 100000
set_option maxHeartbeats 4000000
namespace K11
open PySem PySem.Spec PyProof.Rows L2 UL ClX
theorem fnR_mono {P : Program} {w : World} {K : PySem.W.Frag} {mg : Str → Option Value} {base : Heap} {CX : CXT} {j k : Nat} {f : Addr} {sp : Sp} (F : FnR P w K mg base CX j f sp) (h : j ≤ k) : FnR P w K mg base CX k f sp := fun A outer s H us vs Q E hr => F A outer s H us vs Q E (hr.mono h)
theorem ks_of {K : PySem.W.Frag} {C D : Addr} {b : Bool} (h2 : PySem.W.isClsIn K D = true) (h3 : PySem.W.typeIn K (.ref D) = some (.type "type")) (h4 : PySem.W.subIn K (.ref C) (.ref D) = some b) : PySem.W.kitCls K (.ref C) (.ref D) = some b := by
  unfold PySem.W.kitCls
  dsimp only
  rw [if_pos (by rw [h3]; simp [show (PySem.W.clsIn K D).isSome = true from h2])]
  exact h4
theorem kb_of {K : PySem.W.Frag} {C : Addr} {T : String} {b : Bool} (h : PySem.W.kitMeta T = true) (h4 : PySem.W.subIn K (.ref C) (.type T) = some b) : PySem.W.kitCls K (.ref C) (.type T) = some b := by
  unfold PySem.W.kitCls
  dsimp only
  rw [if_pos h]
  exact h4
theorem fok_mono {P : Program} {w : World} {K : PySem.W.Frag} {mg : Str → Option Value} {base : Heap} {CX : CXT} {j k : Nat} {f : Addr} {fd : FuncData} {ps : List Str} {sp : Sp} (F : FnOk P w K mg base CX j f fd ps sp) (h : j ≤ k) : FnOk P w K mg base CX k f fd ps sp := { F with run := fun A outer s H args us vs Q E hr => F.run A outer s H args us vs Q E (hr.mono h) }
theorem dr_sub : PySem.dunderR "sub" = ("__rsub__" : Str) := by decide +kernel
theorem nf_of {K : PySem.W.Frag} {C D : Addr} (h : PySem.W.subIn K (.ref C) (.ref D) = some false) : PySem.W.notFirst K D (.ref C) = true := by
  unfold PySem.W.notFirst
  rw [h]
  simp
theorem ki_of {K : PySem.W.Frag} {C : Addr} {T : String} (h : PySem.W.subIn K (.ref C) (.type T) = some false) (m : PySem.W.kitMeta T = true := by decide +kernel) : PySem.W.kitOne K (.ref C) (.type T) = some false := by
  unfold PySem.W.kitOne
  rw [if_neg (by intro z; cases (show false = true from z))]
  exact kb_of m h
theorem ko_of {K : PySem.W.Frag} {C D : Addr} {b : Bool} (h2 : PySem.W.isClsIn K D = true) (h3 : PySem.W.typeIn K (.ref D) = some (.type "type")) (h4 : PySem.W.subIn K (.ref C) (.ref D) = some b) (e : (Value.ref C == Value.ref D) = false) : PySem.W.kitOne K (.ref C) (.ref D) = some b := by
  unfold PySem.W.kitOne
  rw [if_neg (by rw [e]; exact Bool.false_ne_true)]
  exact ks_of h2 h3 h4
theorem dr_mul : PySem.dunderR "mul" = ("__rmul__" : Str) := by decide +kernel
theorem xm_of {K : PySem.W.Frag} {C D : Addr} {b : Bool} (h1 : PySem.W.subIn K (.ref D) (.type "BaseException") = some true) (h2 : PySem.W.isClsIn K D = true) (h3 : PySem.W.typeIn K (.ref D) = some (.type "type")) (h4 : PySem.W.subIn K (.ref C) (.ref D) = some b) : PySem.W.exmOne K (.ref C) (.ref D) = some b := by
  unfold PySem.W.exmOne PySem.W.kitCls
  rw [if_pos (by rw [h1]; rfl)]
  dsimp only
  rw [if_pos (by rw [h3]; simp [show (PySem.W.clsIn K D).isSome = true from h2])]
  exact h4
theorem core {l : PySem.W.OpenLaw} {w : World} {K : PySem.W.Frag} {h : Heap} {mg : Str → Option Value} {ad : Ad} {f_law : Addr} {f_is_integer f_is_count f_is_between f_is_one_of f_is_word_of f_Register_init f_Slots_init f_Next_init p_Place_bits f_Place_bits p_Register_group f_Register_group p_Register_number f_Register_number p_Register_bits f_Register_bits p_Slots_offset f_Slots_offset p_Slots_many f_Slots_many p_Slots_end f_Slots_end p_Slots_bits f_Slots_bits p_Next_align f_Next_align p_Next_many f_Next_many p_Next_bits f_Next_bits f_Register_eq f_Slots_eq f_Next_eq f_Slots_contains f_Slots_meets f_Slots_add f_Slots_sub f_next_multiple f_Next_from_offset f_Slots_repr f_Next_repr f_Register_repr f_l_draw f_l_pick f_l_pot f_l_bytes f_l_registers_right f_l_slots_right f_l_moved_right f_l_nexts_right f_l_unlike_right f_l_right : Addr} {od_is_integer an_is_integer od_is_count an_is_count od_is_between an_is_between od_is_one_of an_is_one_of od_is_word_of an_is_word_of od_Register_init an_Register_init od_Slots_init an_Slots_init od_Next_init an_Next_init od_Place_bits an_Place_bits od_Register_group an_Register_group od_Register_number an_Register_number od_Register_bits an_Register_bits od_Slots_offset an_Slots_offset od_Slots_many an_Slots_many od_Slots_end an_Slots_end od_Slots_bits an_Slots_bits od_Next_align an_Next_align od_Next_many an_Next_many od_Next_bits an_Next_bits od_Register_eq an_Register_eq od_Slots_eq an_Slots_eq od_Next_eq an_Next_eq od_Slots_contains an_Slots_contains od_Slots_meets an_Slots_meets od_Slots_add an_Slots_add od_Slots_sub an_Slots_sub od_next_multiple an_next_multiple od_Next_from_offset an_Next_from_offset od_Slots_repr an_Slots_repr od_Next_repr an_Next_repr od_Register_repr an_Register_repr od_l_draw an_l_draw od_l_pick an_l_pick od_l_pot an_l_pot od_l_bytes an_l_bytes od_l_registers_right an_l_registers_right od_l_slots_right an_l_slots_right od_l_moved_right an_l_moved_right od_l_nexts_right an_l_nexts_right od_l_unlike_right an_l_unlike_right od_l_right an_l_right od_law an_law : Option Addr} {slGROUPS slALIGNMENTS sl_is_integer sl_is_count sl_is_between sl_is_one_of sl_is_word_of sl_Register_init sl_Slots_init sl_Next_init sl_Place_bits sl_Register_group sl_Register_number sl_Register_bits sl_Slots_offset sl_Slots_many sl_Slots_end sl_Slots_bits sl_Next_align sl_Next_many sl_Next_bits sl_Register_eq sl_Slots_eq sl_Next_eq sl_Slots_contains sl_Slots_meets sl_Slots_add sl_Slots_sub sl_next_multiple sl_Next_from_offset sl_Slots_repr sl_Next_repr sl_Register_repr sl_l_draw sl_l_pick sl_l_pot sl_l_bytes sl_l_registers_right sl_l_slots_right sl_l_moved_right sl_l_nexts_right sl_l_unlike_right sl_l_right sl_law : Array (Option Value)} {u_LAST_NUMBER u_GROUP_STRIDE u_REGISTER_BITS u_MOST_BYTES oc_is_integer dc_is_integer pm_is_integer cd_is_integer ct_is_integer kV_is_integer oc_is_count dc_is_count pm_is_count cd_is_count ct_is_count kV_is_count oc_is_between dc_is_between pm_is_between cd_is_between ct_is_between kV_is_between oc_is_one_of dc_is_one_of pm_is_one_of cd_is_one_of ct_is_one_of kV_is_one_of oc_is_word_of dc_is_word_of pm_is_word_of cd_is_word_of ct_is_word_of kV_is_word_of oc_Register_init dc_Register_init pm_Register_init cd_Register_init ct_Register_init kV_Register_init oc_Slots_init dc_Slots_init pm_Slots_init cd_Slots_init ct_Slots_init kV_Slots_init oc_Next_init dc_Next_init pm_Next_init cd_Next_init ct_Next_init kV_Next_init oc_Place_bits dc_Place_bits pm_Place_bits cd_Place_bits ct_Place_bits kV_Place_bits oc_Register_group dc_Register_group pm_Register_group cd_Register_group ct_Register_group kV_Register_group oc_Register_number dc_Register_number pm_Register_number cd_Register_number ct_Register_number kV_Register_number oc_Register_bits dc_Register_bits pm_Register_bits cd_Register_bits ct_Register_bits kV_Register_bits oc_Slots_offset dc_Slots_offset pm_Slots_offset cd_Slots_offset ct_Slots_offset kV_Slots_offset oc_Slots_many dc_Slots_many pm_Slots_many cd_Slots_many ct_Slots_many kV_Slots_many oc_Slots_end dc_Slots_end pm_Slots_end cd_Slots_end ct_Slots_end kV_Slots_end oc_Slots_bits dc_Slots_bits pm_Slots_bits cd_Slots_bits ct_Slots_bits kV_Slots_bits oc_Next_align dc_Next_align pm_Next_align cd_Next_align ct_Next_align kV_Next_align oc_Next_many dc_Next_many pm_Next_many cd_Next_many ct_Next_many kV_Next_many oc_Next_bits dc_Next_bits pm_Next_bits cd_Next_bits ct_Next_bits kV_Next_bits oc_Register_eq dc_Register_eq pm_Register_eq cd_Register_eq ct_Register_eq kV_Register_eq oc_Slots_eq dc_Slots_eq pm_Slots_eq cd_Slots_eq ct_Slots_eq kV_Slots_eq oc_Next_eq dc_Next_eq pm_Next_eq cd_Next_eq ct_Next_eq kV_Next_eq oc_Slots_contains dc_Slots_contains pm_Slots_contains cd_Slots_contains ct_Slots_contains kV_Slots_contains oc_Slots_meets dc_Slots_meets pm_Slots_meets cd_Slots_meets ct_Slots_meets kV_Slots_meets oc_Slots_add dc_Slots_add pm_Slots_add cd_Slots_add ct_Slots_add kV_Slots_add oc_Slots_sub dc_Slots_sub pm_Slots_sub cd_Slots_sub ct_Slots_sub kV_Slots_sub oc_next_multiple dc_next_multiple pm_next_multiple cd_next_multiple ct_next_multiple kV_next_multiple oc_Next_from_offset dc_Next_from_offset pm_Next_from_offset cd_Next_from_offset ct_Next_from_offset kV_Next_from_offset oc_Slots_repr dc_Slots_repr pm_Slots_repr cd_Slots_repr ct_Slots_repr kV_Slots_repr oc_Next_repr dc_Next_repr pm_Next_repr cd_Next_repr ct_Next_repr kV_Next_repr oc_Register_repr dc_Register_repr pm_Register_repr cd_Register_repr ct_Register_repr kV_Register_repr oc_l_draw dc_l_draw pm_l_draw cd_l_draw ct_l_draw kV_l_draw oc_l_pick dc_l_pick pm_l_pick cd_l_pick ct_l_pick kV_l_pick oc_l_pot dc_l_pot pm_l_pot cd_l_pot ct_l_pot kV_l_pot oc_l_bytes dc_l_bytes pm_l_bytes cd_l_bytes ct_l_bytes kV_l_bytes oc_l_registers_right dc_l_registers_right pm_l_registers_right cd_l_registers_right ct_l_registers_right kV_l_registers_right oc_l_slots_right dc_l_slots_right pm_l_slots_right cd_l_slots_right ct_l_slots_right kV_l_slots_right oc_l_moved_right dc_l_moved_right pm_l_moved_right cd_l_moved_right ct_l_moved_right kV_l_moved_right oc_l_nexts_right dc_l_nexts_right pm_l_nexts_right cd_l_nexts_right ct_l_nexts_right kV_l_nexts_right oc_l_unlike_right dc_l_unlike_right pm_l_unlike_right cd_l_unlike_right ct_l_unlike_right kV_l_unlike_right oc_l_right dc_l_right pm_l_right cd_l_right ct_l_right kV_l_right oc_law dc_law pm_law cd_law ct_law kV_law : Value} {re_Place_bits re_Register_group re_Register_number re_Register_bits re_Slots_offset re_Slots_many re_Slots_end re_Slots_bits re_Next_align re_Next_many re_Next_bits : List Value} {itGROUPS itALIGNMENTS : Array Value} {ntGROUPS ntALIGNMENTS : Nat} {cldPlace cldSlots : ClassData} {fo_str ro_str ho_add hr_add ho_sub hr_sub : Option Value} (X : K.In h) (G : h.Ns mainGlobals mg)
    (cn : PySem.W.specialIn K (.builtin "object.__class__") "__get__" = some (some (.builtin "getset_descriptor.__get__")))
    (ctk : PySem.W.takesIn K (.builtin "object.__class__") = some true)
    (g_Place : PySem.W.nsIn K mainGlobals "Place" = some (some (.ref ad.c_Place)))
    (pgPlace : PySem.W.plainGet K ad.c_Place Str.empty = true)
    (hdPlace : PySem.W.hasDictIn K ad.c_Place = true)
    (poPlace : PySem.W.plainOver K ad.c_Place = true)
    (saPlace : PySem.W.findIn K (.ref ad.c_Place) "__setattr__" = some (some (.builtin "object.__setattr__")))
    (caPlace : PySem.W.findIn K (.ref ad.c_Place) "__class__" = some (some (.builtin "object.__class__")))
    (cmPlace : PySem.W.mroIn K ad.c_Place (.type "object") = some true)
    (icPlace : PySem.W.isClsIn K ad.c_Place = true)
    (tyPlace : PySem.W.typeIn K (.ref ad.c_Place) = some (.type "type"))
    (mkPlace : PySem.W.makesIn K ad.c_Place = true)
    (kcPlace : PySem.W.keepIn K (.ref ad.c_Place) = true)
    (suPlace_NoneType : PySem.W.subIn K (.type "NoneType") (.ref ad.c_Place) = some false)
    (suPlace_tuple : PySem.W.subIn K (.type "tuple") (.ref ad.c_Place) = some false)
    (suPlace_str : PySem.W.subIn K (.type "str") (.ref ad.c_Place) = some false)
    (suPlace_int : PySem.W.subIn K (.type "int") (.ref ad.c_Place) = some false)
    (suPlace_list : PySem.W.subIn K (.type "list") (.ref ad.c_Place) = some false)
    (suPlace_bool : PySem.W.subIn K (.type "bool") (.ref ad.c_Place) = some false)
    (suPlace_dict : PySem.W.subIn K (.type "dict") (.ref ad.c_Place) = some false)
    (clPlace : PySem.W.clsIn K ad.c_Place = some cldPlace)
    (mrPlace : cldPlace.mro = [.ref ad.c_Place, .type "object"])
    (cadPlace : PySem.W.findIn K (.ref ad.c_Place) "__add__" = some none)
    (crdPlace : PySem.W.findIn K (.ref ad.c_Place) "__radd__" = some none)
    (oad : PySem.W.findIn K (.type "object") "__add__" = some none)
    (ord_ : PySem.W.findIn K (.type "object") "__radd__" = some none)
    (g_Register : PySem.W.nsIn K mainGlobals "Register" = some (some (.ref ad.c_Register)))
    (pgRegister : PySem.W.plainGet K ad.c_Register Str.empty = true)
    (hdRegister : PySem.W.hasDictIn K ad.c_Register = true)
    (poRegister : PySem.W.plainOver K ad.c_Register = true)
    (saRegister : PySem.W.findIn K (.ref ad.c_Register) "__setattr__" = some (some (.builtin "object.__setattr__")))
    (caRegister : PySem.W.findIn K (.ref ad.c_Register) "__class__" = some (some (.builtin "object.__class__")))
    (cmRegister : PySem.W.mroIn K ad.c_Register (.type "object") = some true)
    (icRegister : PySem.W.isClsIn K ad.c_Register = true)
    (tyRegister : PySem.W.typeIn K (.ref ad.c_Register) = some (.type "type"))
    (mkRegister : PySem.W.makesIn K ad.c_Register = true)
    (kcRegister : PySem.W.keepIn K (.ref ad.c_Register) = true)
    (suRegister_NoneType : PySem.W.subIn K (.type "NoneType") (.ref ad.c_Register) = some false)
    (suRegister_tuple : PySem.W.subIn K (.type "tuple") (.ref ad.c_Register) = some false)
    (suRegister_str : PySem.W.subIn K (.type "str") (.ref ad.c_Register) = some false)
    (suRegister_int : PySem.W.subIn K (.type "int") (.ref ad.c_Register) = some false)
    (suRegister_list : PySem.W.subIn K (.type "list") (.ref ad.c_Register) = some false)
    (suRegister_bool : PySem.W.subIn K (.type "bool") (.ref ad.c_Register) = some false)
    (suRegister_dict : PySem.W.subIn K (.type "dict") (.ref ad.c_Register) = some false)
    (neRegister : PySem.W.findIn K (.ref ad.c_Register) "__ne__" = some (some (.builtin "object.__ne__")))
    (nRegister_group : PySem.W.findIn K (.ref ad.c_Register) "_group" = some none)
    (nRegister_number : PySem.W.findIn K (.ref ad.c_Register) "_number" = some none)
    (nRegister_code : PySem.W.findIn K (.ref ad.c_Register) "_code" = some none)
    (g_Slots : PySem.W.nsIn K mainGlobals "Slots" = some (some (.ref ad.c_Slots)))
    (pgSlots : PySem.W.plainGet K ad.c_Slots Str.empty = true)
    (hdSlots : PySem.W.hasDictIn K ad.c_Slots = true)
    (poSlots : PySem.W.plainOver K ad.c_Slots = true)
    (saSlots : PySem.W.findIn K (.ref ad.c_Slots) "__setattr__" = some (some (.builtin "object.__setattr__")))
    (caSlots : PySem.W.findIn K (.ref ad.c_Slots) "__class__" = some (some (.builtin "object.__class__")))
    (cmSlots : PySem.W.mroIn K ad.c_Slots (.type "object") = some true)
    (icSlots : PySem.W.isClsIn K ad.c_Slots = true)
    (tySlots : PySem.W.typeIn K (.ref ad.c_Slots) = some (.type "type"))
    (mkSlots : PySem.W.makesIn K ad.c_Slots = true)
    (kcSlots : PySem.W.keepIn K (.ref ad.c_Slots) = true)
    (suSlots_NoneType : PySem.W.subIn K (.type "NoneType") (.ref ad.c_Slots) = some false)
    (suSlots_tuple : PySem.W.subIn K (.type "tuple") (.ref ad.c_Slots) = some false)
    (suSlots_str : PySem.W.subIn K (.type "str") (.ref ad.c_Slots) = some false)
    (suSlots_int : PySem.W.subIn K (.type "int") (.ref ad.c_Slots) = some false)
    (suSlots_list : PySem.W.subIn K (.type "list") (.ref ad.c_Slots) = some false)
    (suSlots_bool : PySem.W.subIn K (.type "bool") (.ref ad.c_Slots) = some false)
    (suSlots_dict : PySem.W.subIn K (.type "dict") (.ref ad.c_Slots) = some false)
    (sxSlots_str : PySem.W.subIn K (.ref ad.c_Slots) (.type "str") = some false)
    (sxSlots_int : PySem.W.subIn K (.ref ad.c_Slots) (.type "int") = some false)
    (sxSlots_bool : PySem.W.subIn K (.ref ad.c_Slots) (.type "bool") = some false)
    (neSlots : PySem.W.findIn K (.ref ad.c_Slots) "__ne__" = some (some (.builtin "object.__ne__")))
    (nSlots_offset : PySem.W.findIn K (.ref ad.c_Slots) "_offset" = some none)
    (nSlots_many : PySem.W.findIn K (.ref ad.c_Slots) "_many" = some none)
    (sfSlots : PySem.W.selfFirst K ad.c_Slots = true)
    (sta : PySem.W.findIn K (.type "str") "__add__" = some fo_str)
    (str_ : PySem.W.findIn K (.type "str") "__radd__" = some ro_str)
    (nrSlots : PySem.W.findIn K (.ref ad.c_Slots) "__radd__" = some none)
    (g_Next : PySem.W.nsIn K mainGlobals "Next" = some (some (.ref ad.c_Next)))
    (pgNext : PySem.W.plainGet K ad.c_Next Str.empty = true)
    (hdNext : PySem.W.hasDictIn K ad.c_Next = true)
    (poNext : PySem.W.plainOver K ad.c_Next = true)
    (saNext : PySem.W.findIn K (.ref ad.c_Next) "__setattr__" = some (some (.builtin "object.__setattr__")))
    (caNext : PySem.W.findIn K (.ref ad.c_Next) "__class__" = some (some (.builtin "object.__class__")))
    (cmNext : PySem.W.mroIn K ad.c_Next (.type "object") = some true)
    (icNext : PySem.W.isClsIn K ad.c_Next = true)
    (tyNext : PySem.W.typeIn K (.ref ad.c_Next) = some (.type "type"))
    (mkNext : PySem.W.makesIn K ad.c_Next = true)
    (kcNext : PySem.W.keepIn K (.ref ad.c_Next) = true)
    (suNext_NoneType : PySem.W.subIn K (.type "NoneType") (.ref ad.c_Next) = some false)
    (suNext_tuple : PySem.W.subIn K (.type "tuple") (.ref ad.c_Next) = some false)
    (suNext_str : PySem.W.subIn K (.type "str") (.ref ad.c_Next) = some false)
    (suNext_int : PySem.W.subIn K (.type "int") (.ref ad.c_Next) = some false)
    (suNext_list : PySem.W.subIn K (.type "list") (.ref ad.c_Next) = some false)
    (suNext_bool : PySem.W.subIn K (.type "bool") (.ref ad.c_Next) = some false)
    (suNext_dict : PySem.W.subIn K (.type "dict") (.ref ad.c_Next) = some false)
    (neNext : PySem.W.findIn K (.ref ad.c_Next) "__ne__" = some (some (.builtin "object.__ne__")))
    (nNext_align : PySem.W.findIn K (.ref ad.c_Next) "_align" = some none)
    (nNext_many : PySem.W.findIn K (.ref ad.c_Next) "_many" = some none)
    (ga_GROUPS : PySem.W.nsIn K mainGlobals "GROUPS" = some (some (.ref ad.a_GROUPS)))
    (o_GROUPS : K.lookup ad.a_GROUPS = some ⟨.type "tuple", none, .seq itGROUPS ntGROUPS, slGROUPS⟩)
    (v_GROUPS : Vals [.str "whole", .str "float"] itGROUPS.toList)
    (ga_LAST_NUMBER : PySem.W.nsIn K mainGlobals "LAST_NUMBER" = some (some u_LAST_NUMBER))
    (v_LAST_NUMBER : RelV (.int 7) u_LAST_NUMBER)
    (ga_GROUP_STRIDE : PySem.W.nsIn K mainGlobals "GROUP_STRIDE" = some (some u_GROUP_STRIDE))
    (v_GROUP_STRIDE : RelV (.int 8) u_GROUP_STRIDE)
    (ga_REGISTER_BITS : PySem.W.nsIn K mainGlobals "REGISTER_BITS" = some (some u_REGISTER_BITS))
    (v_REGISTER_BITS : RelV (.int 64) u_REGISTER_BITS)
    (ga_ALIGNMENTS : PySem.W.nsIn K mainGlobals "ALIGNMENTS" = some (some (.ref ad.a_ALIGNMENTS)))
    (o_ALIGNMENTS : K.lookup ad.a_ALIGNMENTS = some ⟨.type "tuple", none, .seq itALIGNMENTS ntALIGNMENTS, slALIGNMENTS⟩)
    (v_ALIGNMENTS : Vals [.int 1, .int 2, .int 4, .int 8, .int 16] itALIGNMENTS.toList)
    (ga_MOST_BYTES : PySem.W.nsIn K mainGlobals "MOST_BYTES" = some (some u_MOST_BYTES))
    (v_MOST_BYTES : RelV (.int 16) u_MOST_BYTES)
    (b_ValueError : PySem.W.nsIn K mainGlobals "ValueError" = some none)
    (b_abs : PySem.W.nsIn K mainGlobals "abs" = some none)
    (b_all : PySem.W.nsIn K mainGlobals "all" = some none)
    (b_bool : PySem.W.nsIn K mainGlobals "bool" = some none)
    (b_divmod : PySem.W.nsIn K mainGlobals "divmod" = some none)
    (b_enumerate : PySem.W.nsIn K mainGlobals "enumerate" = some none)
    (b_int : PySem.W.nsIn K mainGlobals "int" = some none)
    (b_isinstance : PySem.W.nsIn K mainGlobals "isinstance" = some none)
    (b_len : PySem.W.nsIn K mainGlobals "len" = some none)
    (b_list : PySem.W.nsIn K mainGlobals "list" = some none)
    (b_max : PySem.W.nsIn K mainGlobals "max" = some none)
    (b_min : PySem.W.nsIn K mainGlobals "min" = some none)
    (b_property : PySem.W.nsIn K mainGlobals "property" = some none)
    (b_range : PySem.W.nsIn K mainGlobals "range" = some none)
    (b_repr : PySem.W.nsIn K mainGlobals "repr" = some none)
    (b_str : PySem.W.nsIn K mainGlobals "str" = some none)
    (in0Place : PySem.W.findIn K (.ref ad.c_Place) "__init__" = some (some (.builtin "object.__init__")))
    (clSlots : PySem.W.clsIn K ad.c_Slots = some cldSlots)
    (mrSlots : cldSlots.mro = [.ref ad.c_Slots, .ref ad.c_Place, .type "object"])
    (raddSlots : PySem.W.findIn K (.ref ad.c_Slots) "__radd__" = some none)
    (ia_add : PySem.W.findIn K (.type "int") "__add__" = some ho_add)
    (ib_add : PySem.W.findIn K (.type "int") "__radd__" = some hr_add)
    (iiaddSlots : PySem.W.findIn K (.ref ad.c_Slots) "__iadd__" = some none)
    (iiaddPlace : PySem.W.findIn K (.ref ad.c_Place) "__iadd__" = some none)
    (io_add : PySem.W.findIn K (.type "object") "__iadd__" = some none)
    (rsubSlots : PySem.W.findIn K (.ref ad.c_Slots) "__rsub__" = some none)
    (ia_sub : PySem.W.findIn K (.type "int") "__sub__" = some ho_sub)
    (ib_sub : PySem.W.findIn K (.type "int") "__rsub__" = some hr_sub)
    (iisubSlots : PySem.W.findIn K (.ref ad.c_Slots) "__isub__" = some none)
    (iisubPlace : PySem.W.findIn K (.ref ad.c_Place) "__isub__" = some none)
    (io_sub : PySem.W.findIn K (.type "object") "__isub__" = some none)
    (sb_Register_Place : PySem.W.subIn K (.ref ad.c_Register) (.ref ad.c_Place) = some true)
    (nq_Register_Place : (Value.ref ad.c_Register == Value.ref ad.c_Place) = false)
    (sb_Slots_Place : PySem.W.subIn K (.ref ad.c_Slots) (.ref ad.c_Place) = some true)
    (nq_Slots_Place : (Value.ref ad.c_Slots == Value.ref ad.c_Place) = false)
    (sb_Next_Place : PySem.W.subIn K (.ref ad.c_Next) (.ref ad.c_Place) = some true)
    (nq_Next_Place : (Value.ref ad.c_Next == Value.ref ad.c_Place) = false)
    (sb_Register_Slots : PySem.W.subIn K (.ref ad.c_Register) (.ref ad.c_Slots) = some false)
    (nq_Register_Slots : (Value.ref ad.c_Register == Value.ref ad.c_Slots) = false)
    (sb_Register_Next : PySem.W.subIn K (.ref ad.c_Register) (.ref ad.c_Next) = some false)
    (nq_Register_Next : (Value.ref ad.c_Register == Value.ref ad.c_Next) = false)
    (sb_Slots_Register : PySem.W.subIn K (.ref ad.c_Slots) (.ref ad.c_Register) = some false)
    (nq_Slots_Register : (Value.ref ad.c_Slots == Value.ref ad.c_Register) = false)
    (sb_Slots_Next : PySem.W.subIn K (.ref ad.c_Slots) (.ref ad.c_Next) = some false)
    (nq_Slots_Next : (Value.ref ad.c_Slots == Value.ref ad.c_Next) = false)
    (sb_Next_Register : PySem.W.subIn K (.ref ad.c_Next) (.ref ad.c_Register) = some false)
    (nq_Next_Register : (Value.ref ad.c_Next == Value.ref ad.c_Register) = false)
    (sb_Next_Slots : PySem.W.subIn K (.ref ad.c_Next) (.ref ad.c_Slots) = some false)
    (nq_Next_Slots : (Value.ref ad.c_Next == Value.ref ad.c_Slots) = false)
    (sxRegister_NoneType : PySem.W.subIn K (.ref ad.c_Register) (.type "NoneType") = some false)
    (sxRegister_tuple : PySem.W.subIn K (.ref ad.c_Register) (.type "tuple") = some false)
    (sxRegister_str : PySem.W.subIn K (.ref ad.c_Register) (.type "str") = some false)
    (sxRegister_int : PySem.W.subIn K (.ref ad.c_Register) (.type "int") = some false)
    (sxRegister_list : PySem.W.subIn K (.ref ad.c_Register) (.type "list") = some false)
    (sxSlots_NoneType : PySem.W.subIn K (.ref ad.c_Slots) (.type "NoneType") = some false)
    (sxSlots_tuple : PySem.W.subIn K (.ref ad.c_Slots) (.type "tuple") = some false)
    (sxSlots_list : PySem.W.subIn K (.ref ad.c_Slots) (.type "list") = some false)
    (sxNext_NoneType : PySem.W.subIn K (.ref ad.c_Next) (.type "NoneType") = some false)
    (sxNext_tuple : PySem.W.subIn K (.ref ad.c_Next) (.type "tuple") = some false)
    (sxNext_str : PySem.W.subIn K (.ref ad.c_Next) (.type "str") = some false)
    (sxNext_int : PySem.W.subIn K (.ref ad.c_Next) (.type "int") = some false)
    (sxNext_list : PySem.W.subIn K (.ref ad.c_Next) (.type "list") = some false)
    (a_is_integer : PySem.W.nsIn K mainGlobals "is_integer" = some (some (.ref f_is_integer)))
    (l_is_integer : K.lookup f_is_integer = some ⟨oc_is_integer, od_is_integer, .func (PySem.W.fnOf "is_integer" "is_integer" (defArgs st_is_integer) (defBody st_is_integer) (defScope st_is_integer) .none kV_is_integer dc_is_integer pm_is_integer an_is_integer cd_is_integer ct_is_integer), sl_is_integer⟩)
    (c_is_integer : PySem.W.codeIn K cd_is_integer "is_integer" = true)
    (k_is_integer : PySem.W.keepIn K (.ref f_is_integer) = true)
    (a_is_count : PySem.W.nsIn K mainGlobals "is_count" = some (some (.ref f_is_count)))
    (l_is_count : K.lookup f_is_count = some ⟨oc_is_count, od_is_count, .func (PySem.W.fnOf "is_count" "is_count" (defArgs st_is_count) (defBody st_is_count) (defScope st_is_count) .none kV_is_count dc_is_count pm_is_count an_is_count cd_is_count ct_is_count), sl_is_count⟩)
    (c_is_count : PySem.W.codeIn K cd_is_count "is_count" = true)
    (k_is_count : PySem.W.keepIn K (.ref f_is_count) = true)
    (a_is_between : PySem.W.nsIn K mainGlobals "is_between" = some (some (.ref f_is_between)))
    (l_is_between : K.lookup f_is_between = some ⟨oc_is_between, od_is_between, .func (PySem.W.fnOf "is_between" "is_between" (defArgs st_is_between) (defBody st_is_between) (defScope st_is_between) .none kV_is_between dc_is_between pm_is_between an_is_between cd_is_between ct_is_between), sl_is_between⟩)
    (c_is_between : PySem.W.codeIn K cd_is_between "is_between" = true)
    (k_is_between : PySem.W.keepIn K (.ref f_is_between) = true)
    (a_is_one_of : PySem.W.nsIn K mainGlobals "is_one_of" = some (some (.ref f_is_one_of)))
    (l_is_one_of : K.lookup f_is_one_of = some ⟨oc_is_one_of, od_is_one_of, .func (PySem.W.fnOf "is_one_of" "is_one_of" (defArgs st_is_one_of) (defBody st_is_one_of) (defScope st_is_one_of) .none kV_is_one_of dc_is_one_of pm_is_one_of an_is_one_of cd_is_one_of ct_is_one_of), sl_is_one_of⟩)
    (c_is_one_of : PySem.W.codeIn K cd_is_one_of "is_one_of" = true)
    (k_is_one_of : PySem.W.keepIn K (.ref f_is_one_of) = true)
    (a_is_word_of : PySem.W.nsIn K mainGlobals "is_word_of" = some (some (.ref f_is_word_of)))
    (l_is_word_of : K.lookup f_is_word_of = some ⟨oc_is_word_of, od_is_word_of, .func (PySem.W.fnOf "is_word_of" "is_word_of" (defArgs st_is_word_of) (defBody st_is_word_of) (defScope st_is_word_of) .none kV_is_word_of dc_is_word_of pm_is_word_of an_is_word_of cd_is_word_of ct_is_word_of), sl_is_word_of⟩)
    (c_is_word_of : PySem.W.codeIn K cd_is_word_of "is_word_of" = true)
    (k_is_word_of : PySem.W.keepIn K (.ref f_is_word_of) = true)
    (a_Register_init : PySem.W.findIn K (.ref ad.c_Register) "__init__" = some (some (.ref f_Register_init)))
    (i_Register_init : PySem.W.isFn K (.ref f_Register_init) = true)
    (l_Register_init : K.lookup f_Register_init = some ⟨oc_Register_init, od_Register_init, .func (PySem.W.fnOf "__init__" "Register.__init__" (defArgs st_Register_init) (defBody st_Register_init) (defScope st_Register_init) .none kV_Register_init dc_Register_init pm_Register_init an_Register_init cd_Register_init ct_Register_init), sl_Register_init⟩)
    (c_Register_init : PySem.W.codeIn K cd_Register_init "Register.__init__" = true)
    (k_Register_init : PySem.W.keepIn K (.ref f_Register_init) = true)
    (a_Slots_init : PySem.W.findIn K (.ref ad.c_Slots) "__init__" = some (some (.ref f_Slots_init)))
    (i_Slots_init : PySem.W.isFn K (.ref f_Slots_init) = true)
    (l_Slots_init : K.lookup f_Slots_init = some ⟨oc_Slots_init, od_Slots_init, .func (PySem.W.fnOf "__init__" "Slots.__init__" (defArgs st_Slots_init) (defBody st_Slots_init) (defScope st_Slots_init) .none kV_Slots_init dc_Slots_init pm_Slots_init an_Slots_init cd_Slots_init ct_Slots_init), sl_Slots_init⟩)
    (c_Slots_init : PySem.W.codeIn K cd_Slots_init "Slots.__init__" = true)
    (k_Slots_init : PySem.W.keepIn K (.ref f_Slots_init) = true)
    (a_Next_init : PySem.W.findIn K (.ref ad.c_Next) "__init__" = some (some (.ref f_Next_init)))
    (i_Next_init : PySem.W.isFn K (.ref f_Next_init) = true)
    (l_Next_init : K.lookup f_Next_init = some ⟨oc_Next_init, od_Next_init, .func (PySem.W.fnOf "__init__" "Next.__init__" (defArgs st_Next_init) (defBody st_Next_init) (defScope st_Next_init) .none kV_Next_init dc_Next_init pm_Next_init an_Next_init cd_Next_init ct_Next_init), sl_Next_init⟩)
    (c_Next_init : PySem.W.codeIn K cd_Next_init "Next.__init__" = true)
    (k_Next_init : PySem.W.keepIn K (.ref f_Next_init) = true)
    (a_Place_bits : PySem.W.findIn K (.ref ad.c_Place) "bits" = some (some (.ref p_Place_bits)))
    (g_Place_bits : PySem.W.specialIn K (.ref p_Place_bits) "__get__" = some (some (.builtin "property.__get__")))
    (t_Place_bits : PySem.W.takesIn K (.ref p_Place_bits) = some true)
    (r_Place_bits : PySem.W.recIn K p_Place_bits "property" = some (.ref f_Place_bits :: re_Place_bits))
    (l_Place_bits : K.lookup f_Place_bits = some ⟨oc_Place_bits, od_Place_bits, .func (PySem.W.fnOf "bits" "Place.bits" (defArgs st_Place_bits) (defBody st_Place_bits) (defScope st_Place_bits) .none kV_Place_bits dc_Place_bits pm_Place_bits an_Place_bits cd_Place_bits ct_Place_bits), sl_Place_bits⟩)
    (c_Place_bits : PySem.W.codeIn K cd_Place_bits "Place.bits" = true)
    (k_Place_bits : PySem.W.keepIn K (.ref f_Place_bits) = true)
    (a_Register_group : PySem.W.findIn K (.ref ad.c_Register) "group" = some (some (.ref p_Register_group)))
    (g_Register_group : PySem.W.specialIn K (.ref p_Register_group) "__get__" = some (some (.builtin "property.__get__")))
    (t_Register_group : PySem.W.takesIn K (.ref p_Register_group) = some true)
    (r_Register_group : PySem.W.recIn K p_Register_group "property" = some (.ref f_Register_group :: re_Register_group))
    (l_Register_group : K.lookup f_Register_group = some ⟨oc_Register_group, od_Register_group, .func (PySem.W.fnOf "group" "Register.group" (defArgs st_Register_group) (defBody st_Register_group) (defScope st_Register_group) .none kV_Register_group dc_Register_group pm_Register_group an_Register_group cd_Register_group ct_Register_group), sl_Register_group⟩)
    (c_Register_group : PySem.W.codeIn K cd_Register_group "Register.group" = true)
    (k_Register_group : PySem.W.keepIn K (.ref f_Register_group) = true)
    (a_Register_number : PySem.W.findIn K (.ref ad.c_Register) "number" = some (some (.ref p_Register_number)))
    (g_Register_number : PySem.W.specialIn K (.ref p_Register_number) "__get__" = some (some (.builtin "property.__get__")))
    (t_Register_number : PySem.W.takesIn K (.ref p_Register_number) = some true)
    (r_Register_number : PySem.W.recIn K p_Register_number "property" = some (.ref f_Register_number :: re_Register_number))
    (l_Register_number : K.lookup f_Register_number = some ⟨oc_Register_number, od_Register_number, .func (PySem.W.fnOf "number" "Register.number" (defArgs st_Register_number) (defBody st_Register_number) (defScope st_Register_number) .none kV_Register_number dc_Register_number pm_Register_number an_Register_number cd_Register_number ct_Register_number), sl_Register_number⟩)
    (c_Register_number : PySem.W.codeIn K cd_Register_number "Register.number" = true)
    (k_Register_number : PySem.W.keepIn K (.ref f_Register_number) = true)
    (a_Register_bits : PySem.W.findIn K (.ref ad.c_Register) "bits" = some (some (.ref p_Register_bits)))
    (g_Register_bits : PySem.W.specialIn K (.ref p_Register_bits) "__get__" = some (some (.builtin "property.__get__")))
    (t_Register_bits : PySem.W.takesIn K (.ref p_Register_bits) = some true)
    (r_Register_bits : PySem.W.recIn K p_Register_bits "property" = some (.ref f_Register_bits :: re_Register_bits))
    (l_Register_bits : K.lookup f_Register_bits = some ⟨oc_Register_bits, od_Register_bits, .func (PySem.W.fnOf "bits" "Register.bits" (defArgs st_Register_bits) (defBody st_Register_bits) (defScope st_Register_bits) .none kV_Register_bits dc_Register_bits pm_Register_bits an_Register_bits cd_Register_bits ct_Register_bits), sl_Register_bits⟩)
    (c_Register_bits : PySem.W.codeIn K cd_Register_bits "Register.bits" = true)
    (k_Register_bits : PySem.W.keepIn K (.ref f_Register_bits) = true)
    (a_Slots_offset : PySem.W.findIn K (.ref ad.c_Slots) "offset" = some (some (.ref p_Slots_offset)))
    (g_Slots_offset : PySem.W.specialIn K (.ref p_Slots_offset) "__get__" = some (some (.builtin "property.__get__")))
    (t_Slots_offset : PySem.W.takesIn K (.ref p_Slots_offset) = some true)
    (r_Slots_offset : PySem.W.recIn K p_Slots_offset "property" = some (.ref f_Slots_offset :: re_Slots_offset))
    (l_Slots_offset : K.lookup f_Slots_offset = some ⟨oc_Slots_offset, od_Slots_offset, .func (PySem.W.fnOf "offset" "Slots.offset" (defArgs st_Slots_offset) (defBody st_Slots_offset) (defScope st_Slots_offset) .none kV_Slots_offset dc_Slots_offset pm_Slots_offset an_Slots_offset cd_Slots_offset ct_Slots_offset), sl_Slots_offset⟩)
    (c_Slots_offset : PySem.W.codeIn K cd_Slots_offset "Slots.offset" = true)
    (k_Slots_offset : PySem.W.keepIn K (.ref f_Slots_offset) = true)
    (a_Slots_many : PySem.W.findIn K (.ref ad.c_Slots) "many" = some (some (.ref p_Slots_many)))
    (g_Slots_many : PySem.W.specialIn K (.ref p_Slots_many) "__get__" = some (some (.builtin "property.__get__")))
    (t_Slots_many : PySem.W.takesIn K (.ref p_Slots_many) = some true)
    (r_Slots_many : PySem.W.recIn K p_Slots_many "property" = some (.ref f_Slots_many :: re_Slots_many))
    (l_Slots_many : K.lookup f_Slots_many = some ⟨oc_Slots_many, od_Slots_many, .func (PySem.W.fnOf "many" "Slots.many" (defArgs st_Slots_many) (defBody st_Slots_many) (defScope st_Slots_many) .none kV_Slots_many dc_Slots_many pm_Slots_many an_Slots_many cd_Slots_many ct_Slots_many), sl_Slots_many⟩)
    (c_Slots_many : PySem.W.codeIn K cd_Slots_many "Slots.many" = true)
    (k_Slots_many : PySem.W.keepIn K (.ref f_Slots_many) = true)
    (a_Slots_end : PySem.W.findIn K (.ref ad.c_Slots) "end" = some (some (.ref p_Slots_end)))
    (g_Slots_end : PySem.W.specialIn K (.ref p_Slots_end) "__get__" = some (some (.builtin "property.__get__")))
    (t_Slots_end : PySem.W.takesIn K (.ref p_Slots_end) = some true)
    (r_Slots_end : PySem.W.recIn K p_Slots_end "property" = some (.ref f_Slots_end :: re_Slots_end))
    (l_Slots_end : K.lookup f_Slots_end = some ⟨oc_Slots_end, od_Slots_end, .func (PySem.W.fnOf "end" "Slots.end" (defArgs st_Slots_end) (defBody st_Slots_end) (defScope st_Slots_end) .none kV_Slots_end dc_Slots_end pm_Slots_end an_Slots_end cd_Slots_end ct_Slots_end), sl_Slots_end⟩)
    (c_Slots_end : PySem.W.codeIn K cd_Slots_end "Slots.end" = true)
    (k_Slots_end : PySem.W.keepIn K (.ref f_Slots_end) = true)
    (a_Slots_bits : PySem.W.findIn K (.ref ad.c_Slots) "bits" = some (some (.ref p_Slots_bits)))
    (g_Slots_bits : PySem.W.specialIn K (.ref p_Slots_bits) "__get__" = some (some (.builtin "property.__get__")))
    (t_Slots_bits : PySem.W.takesIn K (.ref p_Slots_bits) = some true)
    (r_Slots_bits : PySem.W.recIn K p_Slots_bits "property" = some (.ref f_Slots_bits :: re_Slots_bits))
    (l_Slots_bits : K.lookup f_Slots_bits = some ⟨oc_Slots_bits, od_Slots_bits, .func (PySem.W.fnOf "bits" "Slots.bits" (defArgs st_Slots_bits) (defBody st_Slots_bits) (defScope st_Slots_bits) .none kV_Slots_bits dc_Slots_bits pm_Slots_bits an_Slots_bits cd_Slots_bits ct_Slots_bits), sl_Slots_bits⟩)
    (c_Slots_bits : PySem.W.codeIn K cd_Slots_bits "Slots.bits" = true)
    (k_Slots_bits : PySem.W.keepIn K (.ref f_Slots_bits) = true)
    (a_Next_align : PySem.W.findIn K (.ref ad.c_Next) "align" = some (some (.ref p_Next_align)))
    (g_Next_align : PySem.W.specialIn K (.ref p_Next_align) "__get__" = some (some (.builtin "property.__get__")))
    (t_Next_align : PySem.W.takesIn K (.ref p_Next_align) = some true)
    (r_Next_align : PySem.W.recIn K p_Next_align "property" = some (.ref f_Next_align :: re_Next_align))
    (l_Next_align : K.lookup f_Next_align = some ⟨oc_Next_align, od_Next_align, .func (PySem.W.fnOf "align" "Next.align" (defArgs st_Next_align) (defBody st_Next_align) (defScope st_Next_align) .none kV_Next_align dc_Next_align pm_Next_align an_Next_align cd_Next_align ct_Next_align), sl_Next_align⟩)
    (c_Next_align : PySem.W.codeIn K cd_Next_align "Next.align" = true)
    (k_Next_align : PySem.W.keepIn K (.ref f_Next_align) = true)
    (a_Next_many : PySem.W.findIn K (.ref ad.c_Next) "many" = some (some (.ref p_Next_many)))
    (g_Next_many : PySem.W.specialIn K (.ref p_Next_many) "__get__" = some (some (.builtin "property.__get__")))
    (t_Next_many : PySem.W.takesIn K (.ref p_Next_many) = some true)
    (r_Next_many : PySem.W.recIn K p_Next_many "property" = some (.ref f_Next_many :: re_Next_many))
    (l_Next_many : K.lookup f_Next_many = some ⟨oc_Next_many, od_Next_many, .func (PySem.W.fnOf "many" "Next.many" (defArgs st_Next_many) (defBody st_Next_many) (defScope st_Next_many) .none kV_Next_many dc_Next_many pm_Next_many an_Next_many cd_Next_many ct_Next_many), sl_Next_many⟩)
    (c_Next_many : PySem.W.codeIn K cd_Next_many "Next.many" = true)
    (k_Next_many : PySem.W.keepIn K (.ref f_Next_many) = true)
    (a_Next_bits : PySem.W.findIn K (.ref ad.c_Next) "bits" = some (some (.ref p_Next_bits)))
    (g_Next_bits : PySem.W.specialIn K (.ref p_Next_bits) "__get__" = some (some (.builtin "property.__get__")))
    (t_Next_bits : PySem.W.takesIn K (.ref p_Next_bits) = some true)
    (r_Next_bits : PySem.W.recIn K p_Next_bits "property" = some (.ref f_Next_bits :: re_Next_bits))
    (l_Next_bits : K.lookup f_Next_bits = some ⟨oc_Next_bits, od_Next_bits, .func (PySem.W.fnOf "bits" "Next.bits" (defArgs st_Next_bits) (defBody st_Next_bits) (defScope st_Next_bits) .none kV_Next_bits dc_Next_bits pm_Next_bits an_Next_bits cd_Next_bits ct_Next_bits), sl_Next_bits⟩)
    (c_Next_bits : PySem.W.codeIn K cd_Next_bits "Next.bits" = true)
    (k_Next_bits : PySem.W.keepIn K (.ref f_Next_bits) = true)
    (a_Register_eq : PySem.W.findIn K (.ref ad.c_Register) "__eq__" = some (some (.ref f_Register_eq)))
    (i_Register_eq : PySem.W.isFn K (.ref f_Register_eq) = true)
    (l_Register_eq : K.lookup f_Register_eq = some ⟨oc_Register_eq, od_Register_eq, .func (PySem.W.fnOf "__eq__" "Register.__eq__" (defArgs st_Register_eq) (defBody st_Register_eq) (defScope st_Register_eq) .none kV_Register_eq dc_Register_eq pm_Register_eq an_Register_eq cd_Register_eq ct_Register_eq), sl_Register_eq⟩)
    (c_Register_eq : PySem.W.codeIn K cd_Register_eq "Register.__eq__" = true)
    (k_Register_eq : PySem.W.keepIn K (.ref f_Register_eq) = true)
    (a_Slots_eq : PySem.W.findIn K (.ref ad.c_Slots) "__eq__" = some (some (.ref f_Slots_eq)))
    (i_Slots_eq : PySem.W.isFn K (.ref f_Slots_eq) = true)
    (l_Slots_eq : K.lookup f_Slots_eq = some ⟨oc_Slots_eq, od_Slots_eq, .func (PySem.W.fnOf "__eq__" "Slots.__eq__" (defArgs st_Slots_eq) (defBody st_Slots_eq) (defScope st_Slots_eq) .none kV_Slots_eq dc_Slots_eq pm_Slots_eq an_Slots_eq cd_Slots_eq ct_Slots_eq), sl_Slots_eq⟩)
    (c_Slots_eq : PySem.W.codeIn K cd_Slots_eq "Slots.__eq__" = true)
    (k_Slots_eq : PySem.W.keepIn K (.ref f_Slots_eq) = true)
    (a_Next_eq : PySem.W.findIn K (.ref ad.c_Next) "__eq__" = some (some (.ref f_Next_eq)))
    (i_Next_eq : PySem.W.isFn K (.ref f_Next_eq) = true)
    (l_Next_eq : K.lookup f_Next_eq = some ⟨oc_Next_eq, od_Next_eq, .func (PySem.W.fnOf "__eq__" "Next.__eq__" (defArgs st_Next_eq) (defBody st_Next_eq) (defScope st_Next_eq) .none kV_Next_eq dc_Next_eq pm_Next_eq an_Next_eq cd_Next_eq ct_Next_eq), sl_Next_eq⟩)
    (c_Next_eq : PySem.W.codeIn K cd_Next_eq "Next.__eq__" = true)
    (k_Next_eq : PySem.W.keepIn K (.ref f_Next_eq) = true)
    (a_Slots_contains : PySem.W.findIn K (.ref ad.c_Slots) "__contains__" = some (some (.ref f_Slots_contains)))
    (i_Slots_contains : PySem.W.isFn K (.ref f_Slots_contains) = true)
    (l_Slots_contains : K.lookup f_Slots_contains = some ⟨oc_Slots_contains, od_Slots_contains, .func (PySem.W.fnOf "__contains__" "Slots.__contains__" (defArgs st_Slots_contains) (defBody st_Slots_contains) (defScope st_Slots_contains) .none kV_Slots_contains dc_Slots_contains pm_Slots_contains an_Slots_contains cd_Slots_contains ct_Slots_contains), sl_Slots_contains⟩)
    (c_Slots_contains : PySem.W.codeIn K cd_Slots_contains "Slots.__contains__" = true)
    (k_Slots_contains : PySem.W.keepIn K (.ref f_Slots_contains) = true)
    (a_Slots_meets : PySem.W.findIn K (.ref ad.c_Slots) "meets" = some (some (.ref f_Slots_meets)))
    (i_Slots_meets : PySem.W.isFn K (.ref f_Slots_meets) = true)
    (l_Slots_meets : K.lookup f_Slots_meets = some ⟨oc_Slots_meets, od_Slots_meets, .func (PySem.W.fnOf "meets" "Slots.meets" (defArgs st_Slots_meets) (defBody st_Slots_meets) (defScope st_Slots_meets) .none kV_Slots_meets dc_Slots_meets pm_Slots_meets an_Slots_meets cd_Slots_meets ct_Slots_meets), sl_Slots_meets⟩)
    (c_Slots_meets : PySem.W.codeIn K cd_Slots_meets "Slots.meets" = true)
    (k_Slots_meets : PySem.W.keepIn K (.ref f_Slots_meets) = true)
    (a_Slots_add : PySem.W.findIn K (.ref ad.c_Slots) "__add__" = some (some (.ref f_Slots_add)))
    (i_Slots_add : PySem.W.isFn K (.ref f_Slots_add) = true)
    (l_Slots_add : K.lookup f_Slots_add = some ⟨oc_Slots_add, od_Slots_add, .func (PySem.W.fnOf "__add__" "Slots.__add__" (defArgs st_Slots_add) (defBody st_Slots_add) (defScope st_Slots_add) .none kV_Slots_add dc_Slots_add pm_Slots_add an_Slots_add cd_Slots_add ct_Slots_add), sl_Slots_add⟩)
    (c_Slots_add : PySem.W.codeIn K cd_Slots_add "Slots.__add__" = true)
    (k_Slots_add : PySem.W.keepIn K (.ref f_Slots_add) = true)
    (a_Slots_sub : PySem.W.findIn K (.ref ad.c_Slots) "__sub__" = some (some (.ref f_Slots_sub)))
    (i_Slots_sub : PySem.W.isFn K (.ref f_Slots_sub) = true)
    (l_Slots_sub : K.lookup f_Slots_sub = some ⟨oc_Slots_sub, od_Slots_sub, .func (PySem.W.fnOf "__sub__" "Slots.__sub__" (defArgs st_Slots_sub) (defBody st_Slots_sub) (defScope st_Slots_sub) .none kV_Slots_sub dc_Slots_sub pm_Slots_sub an_Slots_sub cd_Slots_sub ct_Slots_sub), sl_Slots_sub⟩)
    (c_Slots_sub : PySem.W.codeIn K cd_Slots_sub "Slots.__sub__" = true)
    (k_Slots_sub : PySem.W.keepIn K (.ref f_Slots_sub) = true)
    (a_next_multiple : PySem.W.nsIn K mainGlobals "next_multiple" = some (some (.ref f_next_multiple)))
    (l_next_multiple : K.lookup f_next_multiple = some ⟨oc_next_multiple, od_next_multiple, .func (PySem.W.fnOf "next_multiple" "next_multiple" (defArgs st_next_multiple) (defBody st_next_multiple) (defScope st_next_multiple) .none kV_next_multiple dc_next_multiple pm_next_multiple an_next_multiple cd_next_multiple ct_next_multiple), sl_next_multiple⟩)
    (c_next_multiple : PySem.W.codeIn K cd_next_multiple "next_multiple" = true)
    (k_next_multiple : PySem.W.keepIn K (.ref f_next_multiple) = true)
    (a_Next_from_offset : PySem.W.findIn K (.ref ad.c_Next) "from_offset" = some (some (.ref f_Next_from_offset)))
    (i_Next_from_offset : PySem.W.isFn K (.ref f_Next_from_offset) = true)
    (l_Next_from_offset : K.lookup f_Next_from_offset = some ⟨oc_Next_from_offset, od_Next_from_offset, .func (PySem.W.fnOf "from_offset" "Next.from_offset" (defArgs st_Next_from_offset) (defBody st_Next_from_offset) (defScope st_Next_from_offset) .none kV_Next_from_offset dc_Next_from_offset pm_Next_from_offset an_Next_from_offset cd_Next_from_offset ct_Next_from_offset), sl_Next_from_offset⟩)
    (c_Next_from_offset : PySem.W.codeIn K cd_Next_from_offset "Next.from_offset" = true)
    (k_Next_from_offset : PySem.W.keepIn K (.ref f_Next_from_offset) = true)
    (a_Slots_repr : PySem.W.findIn K (.ref ad.c_Slots) "__repr__" = some (some (.ref f_Slots_repr)))
    (i_Slots_repr : PySem.W.isFn K (.ref f_Slots_repr) = true)
    (l_Slots_repr : K.lookup f_Slots_repr = some ⟨oc_Slots_repr, od_Slots_repr, .func (PySem.W.fnOf "__repr__" "Slots.__repr__" (defArgs st_Slots_repr) (defBody st_Slots_repr) (defScope st_Slots_repr) .none kV_Slots_repr dc_Slots_repr pm_Slots_repr an_Slots_repr cd_Slots_repr ct_Slots_repr), sl_Slots_repr⟩)
    (c_Slots_repr : PySem.W.codeIn K cd_Slots_repr "Slots.__repr__" = true)
    (k_Slots_repr : PySem.W.keepIn K (.ref f_Slots_repr) = true)
    (a_Next_repr : PySem.W.findIn K (.ref ad.c_Next) "__repr__" = some (some (.ref f_Next_repr)))
    (i_Next_repr : PySem.W.isFn K (.ref f_Next_repr) = true)
    (l_Next_repr : K.lookup f_Next_repr = some ⟨oc_Next_repr, od_Next_repr, .func (PySem.W.fnOf "__repr__" "Next.__repr__" (defArgs st_Next_repr) (defBody st_Next_repr) (defScope st_Next_repr) .none kV_Next_repr dc_Next_repr pm_Next_repr an_Next_repr cd_Next_repr ct_Next_repr), sl_Next_repr⟩)
    (c_Next_repr : PySem.W.codeIn K cd_Next_repr "Next.__repr__" = true)
    (k_Next_repr : PySem.W.keepIn K (.ref f_Next_repr) = true)
    (a_Register_repr : PySem.W.findIn K (.ref ad.c_Register) "__repr__" = some (some (.ref f_Register_repr)))
    (i_Register_repr : PySem.W.isFn K (.ref f_Register_repr) = true)
    (l_Register_repr : K.lookup f_Register_repr = some ⟨oc_Register_repr, od_Register_repr, .func (PySem.W.fnOf "__repr__" "Register.__repr__" (defArgs st_Register_repr) (defBody st_Register_repr) (defScope st_Register_repr) .none kV_Register_repr dc_Register_repr pm_Register_repr an_Register_repr cd_Register_repr ct_Register_repr), sl_Register_repr⟩)
    (c_Register_repr : PySem.W.codeIn K cd_Register_repr "Register.__repr__" = true)
    (k_Register_repr : PySem.W.keepIn K (.ref f_Register_repr) = true)
    (a_l_draw : PySem.W.nsIn K mainGlobals "_law_draw" = some (some (.ref f_l_draw)))
    (l_l_draw : K.lookup f_l_draw = some ⟨oc_l_draw, od_l_draw, .func (PySem.W.fnOf "_law_draw" "_law_draw" (defArgs st_l_draw) (defBody st_l_draw) (defScope st_l_draw) .none kV_l_draw dc_l_draw pm_l_draw an_l_draw cd_l_draw ct_l_draw), sl_l_draw⟩)
    (c_l_draw : PySem.W.codeIn K cd_l_draw "_law_draw" = true)
    (k_l_draw : PySem.W.keepIn K (.ref f_l_draw) = true)
    (a_l_pick : PySem.W.nsIn K mainGlobals "_law_pick" = some (some (.ref f_l_pick)))
    (l_l_pick : K.lookup f_l_pick = some ⟨oc_l_pick, od_l_pick, .func (PySem.W.fnOf "_law_pick" "_law_pick" (defArgs st_l_pick) (defBody st_l_pick) (defScope st_l_pick) .none kV_l_pick dc_l_pick pm_l_pick an_l_pick cd_l_pick ct_l_pick), sl_l_pick⟩)
    (c_l_pick : PySem.W.codeIn K cd_l_pick "_law_pick" = true)
    (k_l_pick : PySem.W.keepIn K (.ref f_l_pick) = true)
    (a_l_pot : PySem.W.nsIn K mainGlobals "_law_pot" = some (some (.ref f_l_pot)))
    (l_l_pot : K.lookup f_l_pot = some ⟨oc_l_pot, od_l_pot, .func (PySem.W.fnOf "_law_pot" "_law_pot" (defArgs st_l_pot) (defBody st_l_pot) (defScope st_l_pot) .none kV_l_pot dc_l_pot pm_l_pot an_l_pot cd_l_pot ct_l_pot), sl_l_pot⟩)
    (c_l_pot : PySem.W.codeIn K cd_l_pot "_law_pot" = true)
    (k_l_pot : PySem.W.keepIn K (.ref f_l_pot) = true)
    (a_l_bytes : PySem.W.nsIn K mainGlobals "_law_bytes" = some (some (.ref f_l_bytes)))
    (l_l_bytes : K.lookup f_l_bytes = some ⟨oc_l_bytes, od_l_bytes, .func (PySem.W.fnOf "_law_bytes" "_law_bytes" (defArgs st_l_bytes) (defBody st_l_bytes) (defScope st_l_bytes) .none kV_l_bytes dc_l_bytes pm_l_bytes an_l_bytes cd_l_bytes ct_l_bytes), sl_l_bytes⟩)
    (c_l_bytes : PySem.W.codeIn K cd_l_bytes "_law_bytes" = true)
    (k_l_bytes : PySem.W.keepIn K (.ref f_l_bytes) = true)
    (a_l_registers_right : PySem.W.nsIn K mainGlobals "_law_registers_right" = some (some (.ref f_l_registers_right)))
    (l_l_registers_right : K.lookup f_l_registers_right = some ⟨oc_l_registers_right, od_l_registers_right, .func (PySem.W.fnOf "_law_registers_right" "_law_registers_right" (defArgs st_l_registers_right) (defBody st_l_registers_right) (defScope st_l_registers_right) .none kV_l_registers_right dc_l_registers_right pm_l_registers_right an_l_registers_right cd_l_registers_right ct_l_registers_right), sl_l_registers_right⟩)
    (c_l_registers_right : PySem.W.codeIn K cd_l_registers_right "_law_registers_right" = true)
    (k_l_registers_right : PySem.W.keepIn K (.ref f_l_registers_right) = true)
    (a_l_slots_right : PySem.W.nsIn K mainGlobals "_law_slots_right" = some (some (.ref f_l_slots_right)))
    (l_l_slots_right : K.lookup f_l_slots_right = some ⟨oc_l_slots_right, od_l_slots_right, .func (PySem.W.fnOf "_law_slots_right" "_law_slots_right" (defArgs st_l_slots_right) (defBody st_l_slots_right) (defScope st_l_slots_right) .none kV_l_slots_right dc_l_slots_right pm_l_slots_right an_l_slots_right cd_l_slots_right ct_l_slots_right), sl_l_slots_right⟩)
    (c_l_slots_right : PySem.W.codeIn K cd_l_slots_right "_law_slots_right" = true)
    (k_l_slots_right : PySem.W.keepIn K (.ref f_l_slots_right) = true)
    (a_l_moved_right : PySem.W.nsIn K mainGlobals "_law_moved_right" = some (some (.ref f_l_moved_right)))
    (l_l_moved_right : K.lookup f_l_moved_right = some ⟨oc_l_moved_right, od_l_moved_right, .func (PySem.W.fnOf "_law_moved_right" "_law_moved_right" (defArgs st_l_moved_right) (defBody st_l_moved_right) (defScope st_l_moved_right) .none kV_l_moved_right dc_l_moved_right pm_l_moved_right an_l_moved_right cd_l_moved_right ct_l_moved_right), sl_l_moved_right⟩)
    (c_l_moved_right : PySem.W.codeIn K cd_l_moved_right "_law_moved_right" = true)
    (k_l_moved_right : PySem.W.keepIn K (.ref f_l_moved_right) = true)
    (a_l_nexts_right : PySem.W.nsIn K mainGlobals "_law_nexts_right" = some (some (.ref f_l_nexts_right)))
    (l_l_nexts_right : K.lookup f_l_nexts_right = some ⟨oc_l_nexts_right, od_l_nexts_right, .func (PySem.W.fnOf "_law_nexts_right" "_law_nexts_right" (defArgs st_l_nexts_right) (defBody st_l_nexts_right) (defScope st_l_nexts_right) .none kV_l_nexts_right dc_l_nexts_right pm_l_nexts_right an_l_nexts_right cd_l_nexts_right ct_l_nexts_right), sl_l_nexts_right⟩)
    (c_l_nexts_right : PySem.W.codeIn K cd_l_nexts_right "_law_nexts_right" = true)
    (k_l_nexts_right : PySem.W.keepIn K (.ref f_l_nexts_right) = true)
    (a_l_unlike_right : PySem.W.nsIn K mainGlobals "_law_unlike_right" = some (some (.ref f_l_unlike_right)))
    (l_l_unlike_right : K.lookup f_l_unlike_right = some ⟨oc_l_unlike_right, od_l_unlike_right, .func (PySem.W.fnOf "_law_unlike_right" "_law_unlike_right" (defArgs st_l_unlike_right) (defBody st_l_unlike_right) (defScope st_l_unlike_right) .none kV_l_unlike_right dc_l_unlike_right pm_l_unlike_right an_l_unlike_right cd_l_unlike_right ct_l_unlike_right), sl_l_unlike_right⟩)
    (c_l_unlike_right : PySem.W.codeIn K cd_l_unlike_right "_law_unlike_right" = true)
    (k_l_unlike_right : PySem.W.keepIn K (.ref f_l_unlike_right) = true)
    (a_l_right : PySem.W.nsIn K mainGlobals "_law_right" = some (some (.ref f_l_right)))
    (l_l_right : K.lookup f_l_right = some ⟨oc_l_right, od_l_right, .func (PySem.W.fnOf "_law_right" "_law_right" (defArgs st_l_right) (defBody st_l_right) (defScope st_l_right) .none kV_l_right dc_l_right pm_l_right an_l_right cd_l_right ct_l_right), sl_l_right⟩)
    (c_l_right : PySem.W.codeIn K cd_l_right "_law_right" = true)
    (k_l_right : PySem.W.keepIn K (.ref f_l_right) = true)
    (l_law : K.lookup f_law = some ⟨oc_law, od_law, .func (PySem.W.fnOf "law" "law" (defArgs st_law) (defBody st_law) (defScope st_law) .none kV_law dc_law pm_law an_law cd_law ct_law), sl_law⟩)
    (c_law : PySem.W.codeIn K cd_law "law" = true)
    (k_law : PySem.W.keepIn K (.ref f_law) = true) :
    ∃ fd : FuncData, (∀ (s : Shared) (v : Value), BindsTo s fd ⟨[v], []⟩ [("_law_script", v)]) ∧ ∀ base : Heap, K.In base → base.Ns mainGlobals mg → FnG l.prog w K mg base 8 f_law fd ["_law_script"] (spLaw K) := by
  refine ⟨PySem.W.fnOf "law" "law" (defArgs st_law) (defBody st_law) (defScope st_law) .none kV_law dc_law pm_law an_law cd_law ct_law, fun s v => .of_eq rfl, fun base _ _ => ?_⟩
  have cl_Place : Cls K ad.c_Place := ⟨pgPlace, hdPlace, poPlace, saPlace⟩
  have cl_Register : Cls K ad.c_Register := ⟨pgRegister, hdRegister, poRegister, saRegister⟩
  have cl_Slots : Cls K ad.c_Slots := ⟨pgSlots, hdSlots, poSlots, saSlots⟩
  have cl_Next : Cls K ad.c_Next := ⟨pgNext, hdNext, poNext, saNext⟩
  have B : Bi mg := ⟨PySem.W.mg_none_of X G b_ValueError, PySem.W.mg_none_of X G b_abs, PySem.W.mg_none_of X G b_all, PySem.W.mg_none_of X G b_bool, PySem.W.mg_none_of X G b_divmod, PySem.W.mg_none_of X G b_enumerate, PySem.W.mg_none_of X G b_int, PySem.W.mg_none_of X G b_isinstance, PySem.W.mg_none_of X G b_len, PySem.W.mg_none_of X G b_list, PySem.W.mg_none_of X G b_max, PySem.W.mg_none_of X G b_min, PySem.W.mg_none_of X G b_property, PySem.W.mg_none_of X G b_range, PySem.W.mg_none_of X G b_repr, PySem.W.mg_none_of X G b_str⟩
  have szGROUPS : itGROUPS.toList.length ≤ sizeLine := by have := v_GROUPS.length; rw [← this]; exact line_ge (by show 2 ≤ 16000000; decide)
  have szALIGNMENTS : itALIGNMENTS.toList.length ≤ sizeLine := by have := v_ALIGNMENTS.length; rw [← this]; exact line_ge (by show 5 ≤ 16000000; decide)
  have T : Txt K mg ad := ⟨B, PySem.W.mg_of X G ga_GROUPS, fun H => .inr ⟨_, _, _, o_GROUPS, rfl, rfl, by rw [← Array.length_toList]; exact szGROUPS, v_GROUPS⟩, ⟨_, PySem.W.mg_of X G ga_LAST_NUMBER, v_LAST_NUMBER⟩, ⟨_, PySem.W.mg_of X G ga_GROUP_STRIDE, v_GROUP_STRIDE⟩, ⟨_, PySem.W.mg_of X G ga_REGISTER_BITS, v_REGISTER_BITS⟩, PySem.W.mg_of X G ga_ALIGNMENTS, fun H => .inr ⟨_, _, _, o_ALIGNMENTS, rfl, rfl, by rw [← Array.length_toList]; exact szALIGNMENTS, v_ALIGNMENTS⟩, ⟨_, PySem.W.mg_of X G ga_MOST_BYTES, v_MOST_BYTES⟩, PySem.W.mg_of X G g_Place, ⟨cl_Place, caPlace, cn, ctk, cmPlace⟩, ⟨⟨_, clPlace, mrPlace⟩, by rw [du_add]; exact cadPlace, by rw [dr_add]; exact crdPlace, by rw [du_add]; exact oad, by rw [dr_add]; exact ord_⟩, (fun T hT => by
      simp only [List.mem_cons, List.not_mem_nil, or_false] at hT
      rcases hT with rfl | rfl | rfl | rfl | rfl | rfl | rfl
      · exact kt_of icPlace tyPlace suPlace_NoneType
      · exact kt_of icPlace tyPlace suPlace_tuple
      · exact kt_of icPlace tyPlace suPlace_str
      · exact kt_of icPlace tyPlace suPlace_int
      · exact kt_of icPlace tyPlace suPlace_list
      · exact kt_of icPlace tyPlace suPlace_bool
      · exact kt_of icPlace tyPlace suPlace_dict), PySem.W.mg_of X G g_Register, ⟨cl_Register, caRegister, cn, ctk, cmRegister⟩, neRegister, nRegister_group, nRegister_number, nRegister_code, (fun T hT => by
      simp only [List.mem_cons, List.not_mem_nil, or_false] at hT
      rcases hT with rfl | rfl | rfl | rfl | rfl | rfl | rfl
      · exact kt_of icRegister tyRegister suRegister_NoneType
      · exact kt_of icRegister tyRegister suRegister_tuple
      · exact kt_of icRegister tyRegister suRegister_str
      · exact kt_of icRegister tyRegister suRegister_int
      · exact kt_of icRegister tyRegister suRegister_list
      · exact kt_of icRegister tyRegister suRegister_bool
      · exact kt_of icRegister tyRegister suRegister_dict), PySem.W.mg_of X G g_Slots, ⟨cl_Slots, caSlots, cn, ctk, cmSlots⟩, sfSlots, ⟨sfSlots, ⟨_, by rw [dr_add]; exact nrSlots, .inl rfl⟩, ⟨_, by rw [du_add]; exact sta⟩, ⟨_, by rw [dr_add]; exact str_⟩, suSlots_str⟩, (fun T hT => by
      simp only [List.mem_cons, List.not_mem_nil, or_false] at hT
      rcases hT with rfl | rfl | rfl
      · exact ki_of sxSlots_str
      · exact ki_of sxSlots_int
      · exact ki_of sxSlots_bool), neSlots, nSlots_offset, nSlots_many, (fun T hT => by
      simp only [List.mem_cons, List.not_mem_nil, or_false] at hT
      rcases hT with rfl | rfl | rfl | rfl | rfl | rfl | rfl
      · exact kt_of icSlots tySlots suSlots_NoneType
      · exact kt_of icSlots tySlots suSlots_tuple
      · exact kt_of icSlots tySlots suSlots_str
      · exact kt_of icSlots tySlots suSlots_int
      · exact kt_of icSlots tySlots suSlots_list
      · exact kt_of icSlots tySlots suSlots_bool
      · exact kt_of icSlots tySlots suSlots_dict), PySem.W.mg_of X G g_Next, ⟨cl_Next, caNext, cn, ctk, cmNext⟩, neNext, nNext_align, nNext_many, (fun T hT => by
      simp only [List.mem_cons, List.not_mem_nil, or_false] at hT
      rcases hT with rfl | rfl | rfl | rfl | rfl | rfl | rfl
      · exact kt_of icNext tyNext suNext_NoneType
      · exact kt_of icNext tyNext suNext_tuple
      · exact kt_of icNext tyNext suNext_str
      · exact kt_of icNext tyNext suNext_int
      · exact kt_of icNext tyNext suNext_list
      · exact kt_of icNext tyNext suNext_bool
      · exact kt_of icNext tyNext suNext_dict), ⟨mkPlace, in0Place, kcPlace⟩, ⟨sfSlots, ⟨_, by rw [dr_add]; exact raddSlots, .inl rfl⟩, ⟨_, by rw [du_add]; exact ia_add⟩, ⟨_, by rw [dr_add]; exact ib_add⟩, suSlots_int⟩, ⟨⟨_, _, clSlots, mrSlots, by rw [di_add]; exact iiaddPlace⟩, by rw [di_add]; exact iiaddSlots, by rw [di_add]; exact io_add⟩, ⟨sfSlots, ⟨_, by rw [dr_sub]; exact rsubSlots, .inl rfl⟩, ⟨_, by rw [du_sub]; exact ia_sub⟩, ⟨_, by rw [dr_sub]; exact ib_sub⟩, suSlots_int⟩, ⟨⟨_, _, clSlots, mrSlots, by rw [di_sub]; exact iisubPlace⟩, by rw [di_sub]; exact iisubSlots, by rw [di_sub]; exact io_sub⟩, ko_of icPlace tyPlace sb_Register_Place nq_Register_Place, ko_of icPlace tyPlace sb_Slots_Place nq_Slots_Place, ko_of icPlace tyPlace sb_Next_Place nq_Next_Place, ko_of icSlots tySlots sb_Register_Slots nq_Register_Slots, nf_of sb_Register_Slots, ko_of icNext tyNext sb_Register_Next nq_Register_Next, nf_of sb_Register_Next, ko_of icRegister tyRegister sb_Slots_Register nq_Slots_Register, nf_of sb_Slots_Register, ko_of icNext tyNext sb_Slots_Next nq_Slots_Next, nf_of sb_Slots_Next, ko_of icRegister tyRegister sb_Next_Register nq_Next_Register, nf_of sb_Next_Register, ko_of icSlots tySlots sb_Next_Slots nq_Next_Slots, nf_of sb_Next_Slots, ⟨_, _, _, o_GROUPS⟩, (fun T hT => by
      simp only [List.mem_cons, List.not_mem_nil, or_false] at hT
      rcases hT with rfl | rfl | rfl | rfl | rfl
      · exact sxRegister_NoneType
      · exact sxRegister_tuple
      · exact sxRegister_str
      · exact sxRegister_int
      · exact sxRegister_list), (fun T hT => by
      simp only [List.mem_cons, List.not_mem_nil, or_false] at hT
      rcases hT with rfl | rfl | rfl | rfl | rfl
      · exact sxSlots_NoneType
      · exact sxSlots_tuple
      · exact sxSlots_str
      · exact sxSlots_int
      · exact sxSlots_list), (fun T hT => by
      simp only [List.mem_cons, List.not_mem_nil, or_false] at hT
      rcases hT with rfl | rfl | rfl | rfl | rfl
      · exact sxNext_NoneType
      · exact sxNext_tuple
      · exact sxNext_str
      · exact sxNext_int
      · exact sxNext_list)⟩
  have nil_ : Vals ([] : List V) [] := .nil
  have F_is_integer := fun_mk (st := st_is_integer) l_is_integer c_is_integer k_is_integer
  have B_is_integer := F_is_integer.binds (ps := ["value"]) fun _ _ _ _ _ _ us hl => match us, hl with | [_], _ => rfl
  have h_c_is_integer : Cal l.prog w K mg base 1 "is_integer" spIsInt := ⟨_, _, _, ok_is_integer F_is_integer T , k_is_integer, B_is_integer, PySem.W.mg_of X G a_is_integer⟩
  have F_is_count := fun_mk (st := st_is_count) l_is_count c_is_count k_is_count
  have B_is_count := F_is_count.binds (ps := ["value"]) fun _ _ _ _ _ _ us hl => match us, hl with | [_], _ => rfl
  have h_c_is_count : Cal l.prog w K mg base 1 "is_count" (spCount K) := ⟨_, _, _, ok_is_count F_is_count T , k_is_count, B_is_count, PySem.W.mg_of X G a_is_count⟩
  have F_is_between := fun_mk (st := st_is_between) l_is_between c_is_between k_is_between
  have B_is_between := F_is_between.binds (ps := ["value", "least", "most"]) fun _ _ _ _ _ _ us hl => match us, hl with | [_, _, _], _ => rfl
  have h_c_is_between : Cal l.prog w K mg base 1 "is_between" (spBetw K) := ⟨_, _, _, ok_is_between F_is_between T , k_is_between, B_is_between, PySem.W.mg_of X G a_is_between⟩
  have F_is_one_of := fun_mk (st := st_is_one_of) l_is_one_of c_is_one_of k_is_one_of
  have B_is_one_of := F_is_one_of.binds (ps := ["value", "numbers"]) fun _ _ _ _ _ _ us hl => match us, hl with | [_, _], _ => rfl
  have h_c_is_one_of : Cal l.prog w K mg base 2 "is_one_of" (spOneOf K) := ⟨_, _, _, ok_is_one_of F_is_one_of T h_c_is_integer, k_is_one_of, B_is_one_of, PySem.W.mg_of X G a_is_one_of⟩
  have F_is_word_of := fun_mk (st := st_is_word_of) l_is_word_of c_is_word_of k_is_word_of
  have B_is_word_of := F_is_word_of.binds (ps := ["value", "words"]) fun _ _ _ _ _ _ us hl => match us, hl with | [_, _], _ => rfl
  have h_c_is_word_of : Cal l.prog w K mg base 1 "is_word_of" (spWordOf K) := ⟨_, _, _, ok_is_word_of F_is_word_of T , k_is_word_of, B_is_word_of, PySem.W.mg_of X G a_is_word_of⟩
  have F_Register_init := fun_mk (st := st_Register_init) l_Register_init c_Register_init k_Register_init
  have B_Register_init := F_Register_init.binds (ps := ["self", "group", "number"]) fun _ _ _ _ _ _ us hl => match us, hl with | [_, _, _], _ => rfl
  have O_Register_init : FnOk l.prog w K mg base CX0 _ _ _ _ _ := ok_Register_init F_Register_init T h_c_is_word_of h_c_is_between
  have F_Slots_init := fun_mk (st := st_Slots_init) l_Slots_init c_Slots_init k_Slots_init
  have B_Slots_init := F_Slots_init.binds (ps := ["self", "offset", "many"]) fun _ _ _ _ _ _ us hl => match us, hl with | [_, _, _], _ => rfl
  have O_Slots_init : FnOk l.prog w K mg base CX0 _ _ _ _ _ := ok_Slots_init F_Slots_init T h_c_is_count h_c_is_between
  have F_Next_init := fun_mk (st := st_Next_init) l_Next_init c_Next_init k_Next_init
  have B_Next_init := F_Next_init.binds (ps := ["self", "align", "many"]) fun _ _ _ _ _ _ us hl => match us, hl with | [_, _, _], _ => rfl
  have O_Next_init : FnOk l.prog w K mg base CX0 _ _ _ _ _ := ok_Next_init F_Next_init T h_c_is_one_of h_c_is_between
  have mk_Register : Mk K ad.c_Register f_Register_init := ⟨mkRegister, a_Register_init, i_Register_init, kcRegister⟩
  have h_m_Register_2 : Mak l.prog w K mg base 3 "Register" ad.c_Register [] (spRegI ad) := ⟨_, _, _, _, fok_mono O_Register_init (by decide), mk_Register, PySem.W.mg_of X G g_Register, B_Register_init, nil_⟩
  have h_m_Register_0_number_group : MakK l.prog w K mg base 3 "Register" ad.c_Register ["number", "group"] gQ (spRegI ad) := ⟨_, _, _, fun us ws => us ++ ws.reverse, fok_mono O_Register_init (by decide), mk_Register, PySem.W.mg_of X G g_Register, ⟨fun s us ws _ h1 h2 => match us, ws, h1, h2 with | [_], [_, _], _, _ => .of_eq rfl, fun r1 r2 => vals_apprev r1 r2⟩⟩
  have mk_Slots : Mk K ad.c_Slots f_Slots_init := ⟨mkSlots, a_Slots_init, i_Slots_init, kcSlots⟩
  have h_m_Slots_2 : Mak l.prog w K mg base 3 "Slots" ad.c_Slots [] (spSlI ad) := ⟨_, _, _, _, fok_mono O_Slots_init (by decide), mk_Slots, PySem.W.mg_of X G g_Slots, B_Slots_init, nil_⟩
  have h_m_Slots_0_many_offset : MakK l.prog w K mg base 3 "Slots" ad.c_Slots ["many", "offset"] gQ (spSlI ad) := ⟨_, _, _, fun us ws => us ++ ws.reverse, fok_mono O_Slots_init (by decide), mk_Slots, PySem.W.mg_of X G g_Slots, ⟨fun s us ws _ h1 h2 => match us, ws, h1, h2 with | [_], [_, _], _, _ => .of_eq rfl, fun r1 r2 => vals_apprev r1 r2⟩⟩
  have mk_Next : Mk K ad.c_Next f_Next_init := ⟨mkNext, a_Next_init, i_Next_init, kcNext⟩
  have h_m_Next_2 : Mak l.prog w K mg base 3 "Next" ad.c_Next [] (spNxI ad) := ⟨_, _, _, _, fok_mono O_Next_init (by decide), mk_Next, PySem.W.mg_of X G g_Next, B_Next_init, nil_⟩
  have h_m_Next_0_many_align : MakK l.prog w K mg base 3 "Next" ad.c_Next ["many", "align"] gQ (spNxI ad) := ⟨_, _, _, fun us ws => us ++ ws.reverse, fok_mono O_Next_init (by decide), mk_Next, PySem.W.mg_of X G g_Next, ⟨fun s us ws _ h1 h2 => match us, ws, h1, h2 with | [_], [_, _], _, _ => .of_eq rfl, fun r1 r2 => vals_apprev r1 r2⟩⟩
  have F_Place_bits := fun_mk (st := st_Place_bits) l_Place_bits c_Place_bits k_Place_bits
  have B_Place_bits := F_Place_bits.binds (ps := ["self"]) fun _ _ _ _ _ _ us hl => match us, hl with | [_], _ => rfl
  have h_c_Place_bits : CalP l.prog w K mg base 1 ad.c_Place "bits" spPBits := ⟨_, _, _, _, ok_Place_bits F_Place_bits T , cl_Place, ⟨a_Place_bits, g_Place_bits, t_Place_bits, ⟨_, r_Place_bits⟩⟩, B_Place_bits⟩
  have F_Register_group := fun_mk (st := st_Register_group) l_Register_group c_Register_group k_Register_group
  have B_Register_group := F_Register_group.binds (ps := ["self"]) fun _ _ _ _ _ _ us hl => match us, hl with | [_], _ => rfl
  have h_c_Register_group : CalP l.prog w K mg base 1 ad.c_Register "group" (spRGet ad fun g _ => .str g) := ⟨_, _, _, _, ok_Register_group F_Register_group T , cl_Register, ⟨a_Register_group, g_Register_group, t_Register_group, ⟨_, r_Register_group⟩⟩, B_Register_group⟩
  have F_Register_number := fun_mk (st := st_Register_number) l_Register_number c_Register_number k_Register_number
  have B_Register_number := F_Register_number.binds (ps := ["self"]) fun _ _ _ _ _ _ us hl => match us, hl with | [_], _ => rfl
  have h_c_Register_number : CalP l.prog w K mg base 1 ad.c_Register "number" (spRGet ad fun _ n => .int n) := ⟨_, _, _, _, ok_Register_number F_Register_number T , cl_Register, ⟨a_Register_number, g_Register_number, t_Register_number, ⟨_, r_Register_number⟩⟩, B_Register_number⟩
  have F_Register_bits := fun_mk (st := st_Register_bits) l_Register_bits c_Register_bits k_Register_bits
  have B_Register_bits := F_Register_bits.binds (ps := ["self"]) fun _ _ _ _ _ _ us hl => match us, hl with | [_], _ => rfl
  have h_c_Register_bits : CalP l.prog w K mg base 1 ad.c_Register "bits" (spRGet ad fun _ _ => .int 64) := ⟨_, _, _, _, ok_Register_bits F_Register_bits T , cl_Register, ⟨a_Register_bits, g_Register_bits, t_Register_bits, ⟨_, r_Register_bits⟩⟩, B_Register_bits⟩
  have F_Slots_offset := fun_mk (st := st_Slots_offset) l_Slots_offset c_Slots_offset k_Slots_offset
  have B_Slots_offset := F_Slots_offset.binds (ps := ["self"]) fun _ _ _ _ _ _ us hl => match us, hl with | [_], _ => rfl
  have h_c_Slots_offset : CalP l.prog w K mg base 1 ad.c_Slots "offset" (spSGet ad fun o _ => .int o) := ⟨_, _, _, _, ok_Slots_offset F_Slots_offset T , cl_Slots, ⟨a_Slots_offset, g_Slots_offset, t_Slots_offset, ⟨_, r_Slots_offset⟩⟩, B_Slots_offset⟩
  have F_Slots_many := fun_mk (st := st_Slots_many) l_Slots_many c_Slots_many k_Slots_many
  have B_Slots_many := F_Slots_many.binds (ps := ["self"]) fun _ _ _ _ _ _ us hl => match us, hl with | [_], _ => rfl
  have h_c_Slots_many : CalP l.prog w K mg base 1 ad.c_Slots "many" (spSGet ad fun _ m => .int m) := ⟨_, _, _, _, ok_Slots_many F_Slots_many T , cl_Slots, ⟨a_Slots_many, g_Slots_many, t_Slots_many, ⟨_, r_Slots_many⟩⟩, B_Slots_many⟩
  have F_Slots_end := fun_mk (st := st_Slots_end) l_Slots_end c_Slots_end k_Slots_end
  have B_Slots_end := F_Slots_end.binds (ps := ["self"]) fun _ _ _ _ _ _ us hl => match us, hl with | [_], _ => rfl
  have h_c_Slots_end : CalP l.prog w K mg base 1 ad.c_Slots "end" (spSGet ad fun o m => .int (o + m)) := ⟨_, _, _, _, ok_Slots_end F_Slots_end T , cl_Slots, ⟨a_Slots_end, g_Slots_end, t_Slots_end, ⟨_, r_Slots_end⟩⟩, B_Slots_end⟩
  have F_Slots_bits := fun_mk (st := st_Slots_bits) l_Slots_bits c_Slots_bits k_Slots_bits
  have B_Slots_bits := F_Slots_bits.binds (ps := ["self"]) fun _ _ _ _ _ _ us hl => match us, hl with | [_], _ => rfl
  have h_c_Slots_bits : CalP l.prog w K mg base 1 ad.c_Slots "bits" (spSBits ad) := ⟨_, _, _, _, ok_Slots_bits F_Slots_bits T , cl_Slots, ⟨a_Slots_bits, g_Slots_bits, t_Slots_bits, ⟨_, r_Slots_bits⟩⟩, B_Slots_bits⟩
  have F_Next_align := fun_mk (st := st_Next_align) l_Next_align c_Next_align k_Next_align
  have B_Next_align := F_Next_align.binds (ps := ["self"]) fun _ _ _ _ _ _ us hl => match us, hl with | [_], _ => rfl
  have h_c_Next_align : CalP l.prog w K mg base 1 ad.c_Next "align" (spNGet ad fun o _ => .int o) := ⟨_, _, _, _, ok_Next_align F_Next_align T , cl_Next, ⟨a_Next_align, g_Next_align, t_Next_align, ⟨_, r_Next_align⟩⟩, B_Next_align⟩
  have F_Next_many := fun_mk (st := st_Next_many) l_Next_many c_Next_many k_Next_many
  have B_Next_many := F_Next_many.binds (ps := ["self"]) fun _ _ _ _ _ _ us hl => match us, hl with | [_], _ => rfl
  have h_c_Next_many : CalP l.prog w K mg base 1 ad.c_Next "many" (spNGet ad fun _ m => .int m) := ⟨_, _, _, _, ok_Next_many F_Next_many T , cl_Next, ⟨a_Next_many, g_Next_many, t_Next_many, ⟨_, r_Next_many⟩⟩, B_Next_many⟩
  have F_Next_bits := fun_mk (st := st_Next_bits) l_Next_bits c_Next_bits k_Next_bits
  have B_Next_bits := F_Next_bits.binds (ps := ["self"]) fun _ _ _ _ _ _ us hl => match us, hl with | [_], _ => rfl
  have h_c_Next_bits : CalP l.prog w K mg base 1 ad.c_Next "bits" (spNBits ad) := ⟨_, _, _, _, ok_Next_bits F_Next_bits T , cl_Next, ⟨a_Next_bits, g_Next_bits, t_Next_bits, ⟨_, r_Next_bits⟩⟩, B_Next_bits⟩
  have F_Register_eq := fun_mk (st := st_Register_eq) l_Register_eq c_Register_eq k_Register_eq
  have B_Register_eq := F_Register_eq.binds (ps := ["self", "other"]) fun _ _ _ _ _ _ us hl => match us, hl with | [_, _], _ => rfl
  have h_c_Register_eq : CalS l.prog w K mg base 1 ad.c_Register "__eq__" (spREq K ad) := ⟨_, ((ok_Register_eq F_Register_eq T ).raw B_Register_eq nil_).imp fun vs H Q E h => by rw [List.append_nil]; exact h, a_Register_eq, i_Register_eq⟩
  have F_Slots_eq := fun_mk (st := st_Slots_eq) l_Slots_eq c_Slots_eq k_Slots_eq
  have B_Slots_eq := F_Slots_eq.binds (ps := ["self", "other"]) fun _ _ _ _ _ _ us hl => match us, hl with | [_, _], _ => rfl
  have h_c_Slots_eq : CalS l.prog w K mg base 1 ad.c_Slots "__eq__" (spSEq K ad) := ⟨_, ((ok_Slots_eq F_Slots_eq T ).raw B_Slots_eq nil_).imp fun vs H Q E h => by rw [List.append_nil]; exact h, a_Slots_eq, i_Slots_eq⟩
  have F_Next_eq := fun_mk (st := st_Next_eq) l_Next_eq c_Next_eq k_Next_eq
  have B_Next_eq := F_Next_eq.binds (ps := ["self", "other"]) fun _ _ _ _ _ _ us hl => match us, hl with | [_, _], _ => rfl
  have h_c_Next_eq : CalS l.prog w K mg base 1 ad.c_Next "__eq__" (spNEq K ad) := ⟨_, ((ok_Next_eq F_Next_eq T ).raw B_Next_eq nil_).imp fun vs H Q E h => by rw [List.append_nil]; exact h, a_Next_eq, i_Next_eq⟩
  have F_Slots_contains := fun_mk (st := st_Slots_contains) l_Slots_contains c_Slots_contains k_Slots_contains
  have B_Slots_contains := F_Slots_contains.binds (ps := ["self", "x"]) fun _ _ _ _ _ _ us hl => match us, hl with | [_, _], _ => rfl
  have h_c_Slots_contains : CalS l.prog w K mg base 2 ad.c_Slots "__contains__" (spSIn K ad) := ⟨_, ((ok_Slots_contains F_Slots_contains T h_c_is_between).raw B_Slots_contains nil_).imp fun vs H Q E h => by rw [List.append_nil]; exact h, a_Slots_contains, i_Slots_contains⟩
  have F_Slots_meets := fun_mk (st := st_Slots_meets) l_Slots_meets c_Slots_meets k_Slots_meets
  have B_Slots_meets := F_Slots_meets.binds (ps := ["self", "other"]) fun _ _ _ _ _ _ us hl => match us, hl with | [_, _], _ => rfl
  have h_c_Slots_meets : CalM l.prog w K mg base 3 ad.c_Slots "meets" (spMeets ad) := ⟨_, _, _, ok_Slots_meets F_Slots_meets T h_c_Slots_end h_c_Slots_offset, cl_Slots, ⟨a_Slots_meets, i_Slots_meets, k_Slots_meets⟩, B_Slots_meets⟩
  have F_Slots_add := fun_mk (st := st_Slots_add) l_Slots_add c_Slots_add k_Slots_add
  have B_Slots_add := F_Slots_add.binds (ps := ["self", "other"]) fun _ _ _ _ _ _ us hl => match us, hl with | [_, _], _ => rfl
  have h_c_Slots_add : CalS l.prog w K mg base 5 ad.c_Slots "__add__" (spSAdd ad) := ⟨_, ((ok_Slots_add F_Slots_add T h_c_is_count h_m_Slots_2).raw B_Slots_add nil_).imp fun vs H Q E h => by rw [List.append_nil]; exact h, a_Slots_add, i_Slots_add⟩
  have F_Slots_sub := fun_mk (st := st_Slots_sub) l_Slots_sub c_Slots_sub k_Slots_sub
  have B_Slots_sub := F_Slots_sub.binds (ps := ["self", "other"]) fun _ _ _ _ _ _ us hl => match us, hl with | [_, _], _ => rfl
  have h_c_Slots_sub : CalS l.prog w K mg base 5 ad.c_Slots "__sub__" (spSSub ad) := ⟨_, ((ok_Slots_sub F_Slots_sub T h_c_is_between h_m_Slots_2).raw B_Slots_sub nil_).imp fun vs H Q E h => by rw [List.append_nil]; exact h, a_Slots_sub, i_Slots_sub⟩
  have F_next_multiple := fun_mk (st := st_next_multiple) l_next_multiple c_next_multiple k_next_multiple
  have B_next_multiple := F_next_multiple.binds (ps := ["number", "step"]) fun _ _ _ _ _ _ us hl => match us, hl with | [_, _], _ => rfl
  have h_c_next_multiple : Cal l.prog w K mg base 1 "next_multiple" spNxM := ⟨_, _, _, ok_next_multiple F_next_multiple T , k_next_multiple, B_next_multiple, PySem.W.mg_of X G a_next_multiple⟩
  have F_Next_from_offset := fun_mk (st := st_Next_from_offset) l_Next_from_offset c_Next_from_offset k_Next_from_offset
  have B_Next_from_offset := F_Next_from_offset.binds (ps := ["self", "offset"]) fun _ _ _ _ _ _ us hl => match us, hl with | [_, _], _ => rfl
  have h_c_Next_from_offset : CalM l.prog w K mg base 5 ad.c_Next "from_offset" (spFrom ad) := ⟨_, _, _, ok_Next_from_offset F_Next_from_offset T h_c_is_count h_m_Slots_2 h_c_next_multiple, cl_Next, ⟨a_Next_from_offset, i_Next_from_offset, k_Next_from_offset⟩, B_Next_from_offset⟩
  have F_Slots_repr := fun_mk (st := st_Slots_repr) l_Slots_repr c_Slots_repr k_Slots_repr
  have B_Slots_repr := F_Slots_repr.binds (ps := ["self"]) fun _ _ _ _ _ _ us hl => match us, hl with | [_], _ => rfl
  have h_c_Slots_repr : CalS l.prog w K mg base 1 ad.c_Slots "__repr__" (spSRepr ad) := ⟨_, ((ok_Slots_repr F_Slots_repr T ).raw B_Slots_repr nil_).imp fun vs H Q E h => by rw [List.append_nil]; exact h, a_Slots_repr, i_Slots_repr⟩
  have F_Next_repr := fun_mk (st := st_Next_repr) l_Next_repr c_Next_repr k_Next_repr
  have B_Next_repr := F_Next_repr.binds (ps := ["self"]) fun _ _ _ _ _ _ us hl => match us, hl with | [_], _ => rfl
  have h_c_Next_repr : CalS l.prog w K mg base 1 ad.c_Next "__repr__" (spNRepr ad) := ⟨_, ((ok_Next_repr F_Next_repr T ).raw B_Next_repr nil_).imp fun vs H Q E h => by rw [List.append_nil]; exact h, a_Next_repr, i_Next_repr⟩
  have F_Register_repr := fun_mk (st := st_Register_repr) l_Register_repr c_Register_repr k_Register_repr
  have B_Register_repr := F_Register_repr.binds (ps := ["self"]) fun _ _ _ _ _ _ us hl => match us, hl with | [_], _ => rfl
  have h_c_Register_repr : CalS l.prog w K mg base 1 ad.c_Register "__repr__" (spRRepr ad) := ⟨_, ((ok_Register_repr F_Register_repr T ).raw B_Register_repr nil_).imp fun vs H Q E h => by rw [List.append_nil]; exact h, a_Register_repr, i_Register_repr⟩
  have F_l_draw := fun_mk (st := st_l_draw) l_l_draw c_l_draw k_l_draw
  have B_l_draw := F_l_draw.binds (ps := ["_law_pot_here", "_law_size"]) fun _ _ _ _ _ _ us hl => match us, hl with | [_, _], _ => rfl
  have h_c_l_draw : Cal l.prog w K mg base 1 "_law_draw" spDraw := ⟨_, _, _, ok_l_draw F_l_draw T , k_l_draw, B_l_draw, PySem.W.mg_of X G a_l_draw⟩
  have F_l_pick := fun_mk (st := st_l_pick) l_l_pick c_l_pick k_l_pick
  have B_l_pick := F_l_pick.binds (ps := ["_law_pot_here", "_law_some"]) fun _ _ _ _ _ _ us hl => match us, hl with | [_, _], _ => rfl
  have h_c_l_pick : Cal l.prog w K mg base 2 "_law_pick" (spPick1 K) := ⟨_, _, _, ok_l_pick F_l_pick T h_c_l_draw, k_l_pick, B_l_pick, PySem.W.mg_of X G a_l_pick⟩
  have F_l_pot := fun_mk (st := st_l_pot) l_l_pot c_l_pot k_l_pot
  have B_l_pot := F_l_pot.binds (ps := ["_law_script", "_law_k"]) fun _ _ _ _ _ _ us hl => match us, hl with | [_, _], _ => rfl
  have h_c_l_pot : Cal l.prog w K mg base 1 "_law_pot" (spPot K) := ⟨_, _, _, ok_l_pot F_l_pot T , k_l_pot, B_l_pot, PySem.W.mg_of X G a_l_pot⟩
  have F_l_bytes := fun_mk (st := st_l_bytes) l_l_bytes c_l_bytes k_l_bytes
  have B_l_bytes := F_l_bytes.binds (ps := ["_law_start", "_law_big"]) fun _ _ _ _ _ _ us hl => match us, hl with | [_, _], _ => rfl
  have h_c_l_bytes : Cal l.prog w K mg base 1 "_law_bytes" spBytes := ⟨_, _, _, ok_l_bytes F_l_bytes T , k_l_bytes, B_l_bytes, PySem.W.mg_of X G a_l_bytes⟩
  have F_l_registers_right := fun_mk (st := st_l_registers_right) l_l_registers_right c_l_registers_right k_l_registers_right
  have B_l_registers_right := F_l_registers_right.binds (ps := ["_law_pot_here"]) fun _ _ _ _ _ _ us hl => match us, hl with | [_], _ => rfl
  have h_c_l_registers_right : Cal l.prog w K mg base 5 "_law_registers_right" spRegsR := ⟨_, _, _, ok_l_registers_right F_l_registers_right T h_c_l_pick h_c_l_draw h_m_Register_2 h_m_Register_0_number_group h_c_Register_group h_c_Register_number h_c_Register_bits h_c_Register_eq h_c_Place_bits h_c_Register_repr, k_l_registers_right, B_l_registers_right, PySem.W.mg_of X G a_l_registers_right⟩
  have h_k_Slots_meets_other : CalMK l.prog w K mg base 3 ad.c_Slots "meets" ["other"] gKC (spMeets ad) := ⟨_, _, _, _, ok_Slots_meets F_Slots_meets T h_c_Slots_end h_c_Slots_offset, cl_Slots, ⟨a_Slots_meets, i_Slots_meets, k_Slots_meets⟩, ⟨fun s us ws _ h1 h2 => match us, ws, h1, h2 with | [_], [_], _, _ => .of_eq rfl, fun r1 r2 => r1.append r2⟩⟩
  have F_l_slots_right := fun_mk (st := st_l_slots_right) l_l_slots_right c_l_slots_right k_l_slots_right
  have B_l_slots_right := F_l_slots_right.binds (ps := ["_law_pot_here", "_law_start", "_law_big"]) fun _ _ _ _ _ _ us hl => match us, hl with | [_, _, _], _ => rfl
  have h_c_l_slots_right : CalG l.prog w K mg base 5 "_law_slots_right" spSlotsR := ⟨_, _, _, ok_l_slots_right F_l_slots_right T h_m_Slots_2 h_c_l_bytes h_c_Slots_offset h_c_Slots_many h_c_Slots_end h_c_Slots_bits h_c_Slots_repr h_c_l_draw h_c_l_pick h_m_Slots_0_many_offset h_c_Slots_meets h_k_Slots_meets_other h_c_Slots_eq h_c_Slots_contains, k_l_slots_right, B_l_slots_right, PySem.W.mg_of X G a_l_slots_right⟩
  have F_l_moved_right := fun_mk (st := st_l_moved_right) l_l_moved_right c_l_moved_right k_l_moved_right
  have B_l_moved_right := F_l_moved_right.binds (ps := ["_law_pot_here", "_law_start", "_law_big"]) fun _ _ _ _ _ _ us hl => match us, hl with | [_, _, _], _ => rfl
  have h_c_l_moved_right : Cal l.prog w K mg base 6 "_law_moved_right" spSlotsR := ⟨_, _, _, ok_l_moved_right F_l_moved_right T h_m_Slots_2 h_c_l_pick h_c_l_draw h_c_Slots_add h_c_Slots_sub h_c_Slots_offset h_c_Slots_many h_c_Slots_end h_c_Slots_eq, k_l_moved_right, B_l_moved_right, PySem.W.mg_of X G a_l_moved_right⟩
  have h_k_Next_from_offset_offset : CalMK l.prog w K mg base 5 ad.c_Next "from_offset" ["offset"] gKC (spFrom ad) := ⟨_, _, _, _, ok_Next_from_offset F_Next_from_offset T h_c_is_count h_m_Slots_2 h_c_next_multiple, cl_Next, ⟨a_Next_from_offset, i_Next_from_offset, k_Next_from_offset⟩, ⟨fun s us ws _ h1 h2 => match us, ws, h1, h2 with | [_], [_], _, _ => .of_eq rfl, fun r1 r2 => r1.append r2⟩⟩
  have F_l_nexts_right := fun_mk (st := st_l_nexts_right) l_l_nexts_right c_l_nexts_right k_l_nexts_right
  have B_l_nexts_right := F_l_nexts_right.binds (ps := ["_law_pot_here"]) fun _ _ _ _ _ _ us hl => match us, hl with | [_], _ => rfl
  have h_c_l_nexts_right : Cal l.prog w K mg base 6 "_law_nexts_right" spNextsR := ⟨_, _, _, ok_l_nexts_right F_l_nexts_right T h_c_l_pick h_c_l_draw h_m_Next_2 h_c_Next_align h_c_Next_many h_c_Next_bits h_c_Next_repr h_m_Next_0_many_align h_c_Next_eq h_c_Next_from_offset h_k_Next_from_offset_offset h_c_Slots_offset h_c_Slots_many, k_l_nexts_right, B_l_nexts_right, PySem.W.mg_of X G a_l_nexts_right⟩
  have F_l_unlike_right := fun_mk (st := st_l_unlike_right) l_l_unlike_right c_l_unlike_right k_l_unlike_right
  have B_l_unlike_right := F_l_unlike_right.binds (ps := ["_law_pot_here"]) fun _ _ _ _ _ _ us hl => match us, hl with | [_], _ => rfl
  have h_c_l_unlike_right : Cal l.prog w K mg base 5 "_law_unlike_right" spNextsR := ⟨_, _, _, ok_l_unlike_right F_l_unlike_right T h_c_l_draw h_m_Register_2 h_m_Slots_2 h_m_Next_2 h_c_Register_eq h_c_Slots_eq h_c_Next_eq, k_l_unlike_right, B_l_unlike_right, PySem.W.mg_of X G a_l_unlike_right⟩
  have F_l_right := fun_mk (st := st_l_right) l_l_right c_l_right k_l_right
  have B_l_right := F_l_right.binds (ps := ["_law_pot_here"]) fun _ _ _ _ _ _ us hl => match us, hl with | [_], _ => rfl
  have h_c_l_right : CalG l.prog w K mg base 7 "_law_right" spNextsR := ⟨_, _, _, ok_l_right F_l_right T h_c_l_registers_right h_c_l_nexts_right h_c_l_unlike_right h_c_l_pick h_c_l_draw h_c_l_slots_right h_c_l_moved_right, k_l_right, B_l_right, PySem.W.mg_of X G a_l_right⟩
  have F_law := fun_mk (st := st_law) l_law c_law k_law
  have B_law := F_law.binds (ps := ["_law_script"]) fun _ _ _ _ _ _ us hl => match us, hl with | [_], _ => rfl
  exact ok_law F_law T h_c_l_right h_c_l_pot
theorem all_mk {l : PySem.W.OpenLaw} {w : World} {K : PySem.W.Frag} {h : Heap} {mg : Str → Option Value} {zz_c_CallError zz_c_InvalidNumber zz_c_InvalidPlace c_Place c_Register c_Slots c_Next a_GROUPS a_ALIGNMENTS : Addr} {f_law fa : Addr} {f_is_integer f_is_count f_is_between f_is_one_of f_is_word_of f_Register_init f_Slots_init f_Next_init p_Place_bits f_Place_bits p_Register_group f_Register_group p_Register_number f_Register_number p_Register_bits f_Register_bits p_Slots_offset f_Slots_offset p_Slots_many f_Slots_many p_Slots_end f_Slots_end p_Slots_bits f_Slots_bits p_Next_align f_Next_align p_Next_many f_Next_many p_Next_bits f_Next_bits f_Register_eq f_Slots_eq f_Next_eq f_Slots_contains f_Slots_meets f_Slots_add f_Slots_sub f_next_multiple f_Next_from_offset f_Slots_repr f_Next_repr f_Register_repr f_l_draw f_l_pick f_l_pot f_l_bytes f_l_registers_right f_l_slots_right f_l_moved_right f_l_nexts_right f_l_unlike_right f_l_right : Addr} {od_is_integer an_is_integer od_is_count an_is_count od_is_between an_is_between od_is_one_of an_is_one_of od_is_word_of an_is_word_of od_Register_init an_Register_init od_Slots_init an_Slots_init od_Next_init an_Next_init od_Place_bits an_Place_bits od_Register_group an_Register_group od_Register_number an_Register_number od_Register_bits an_Register_bits od_Slots_offset an_Slots_offset od_Slots_many an_Slots_many od_Slots_end an_Slots_end od_Slots_bits an_Slots_bits od_Next_align an_Next_align od_Next_many an_Next_many od_Next_bits an_Next_bits od_Register_eq an_Register_eq od_Slots_eq an_Slots_eq od_Next_eq an_Next_eq od_Slots_contains an_Slots_contains od_Slots_meets an_Slots_meets od_Slots_add an_Slots_add od_Slots_sub an_Slots_sub od_next_multiple an_next_multiple od_Next_from_offset an_Next_from_offset od_Slots_repr an_Slots_repr od_Next_repr an_Next_repr od_Register_repr an_Register_repr od_l_draw an_l_draw od_l_pick an_l_pick od_l_pot an_l_pot od_l_bytes an_l_bytes od_l_registers_right an_l_registers_right od_l_slots_right an_l_slots_right od_l_moved_right an_l_moved_right od_l_nexts_right an_l_nexts_right od_l_unlike_right an_l_unlike_right od_l_right an_l_right od_law an_law : Option Addr} {slGROUPS slALIGNMENTS sl_is_integer sl_is_count sl_is_between sl_is_one_of sl_is_word_of sl_Register_init sl_Slots_init sl_Next_init sl_Place_bits sl_Register_group sl_Register_number sl_Register_bits sl_Slots_offset sl_Slots_many sl_Slots_end sl_Slots_bits sl_Next_align sl_Next_many sl_Next_bits sl_Register_eq sl_Slots_eq sl_Next_eq sl_Slots_contains sl_Slots_meets sl_Slots_add sl_Slots_sub sl_next_multiple sl_Next_from_offset sl_Slots_repr sl_Next_repr sl_Register_repr sl_l_draw sl_l_pick sl_l_pot sl_l_bytes sl_l_registers_right sl_l_slots_right sl_l_moved_right sl_l_nexts_right sl_l_unlike_right sl_l_right sl_law : Array (Option Value)} {u_LAST_NUMBER u_GROUP_STRIDE u_REGISTER_BITS u_MOST_BYTES oc_is_integer dc_is_integer pm_is_integer cd_is_integer ct_is_integer kV_is_integer oc_is_count dc_is_count pm_is_count cd_is_count ct_is_count kV_is_count oc_is_between dc_is_between pm_is_between cd_is_between ct_is_between kV_is_between oc_is_one_of dc_is_one_of pm_is_one_of cd_is_one_of ct_is_one_of kV_is_one_of oc_is_word_of dc_is_word_of pm_is_word_of cd_is_word_of ct_is_word_of kV_is_word_of oc_Register_init dc_Register_init pm_Register_init cd_Register_init ct_Register_init kV_Register_init oc_Slots_init dc_Slots_init pm_Slots_init cd_Slots_init ct_Slots_init kV_Slots_init oc_Next_init dc_Next_init pm_Next_init cd_Next_init ct_Next_init kV_Next_init oc_Place_bits dc_Place_bits pm_Place_bits cd_Place_bits ct_Place_bits kV_Place_bits oc_Register_group dc_Register_group pm_Register_group cd_Register_group ct_Register_group kV_Register_group oc_Register_number dc_Register_number pm_Register_number cd_Register_number ct_Register_number kV_Register_number oc_Register_bits dc_Register_bits pm_Register_bits cd_Register_bits ct_Register_bits kV_Register_bits oc_Slots_offset dc_Slots_offset pm_Slots_offset cd_Slots_offset ct_Slots_offset kV_Slots_offset oc_Slots_many dc_Slots_many pm_Slots_many cd_Slots_many ct_Slots_many kV_Slots_many oc_Slots_end dc_Slots_end pm_Slots_end cd_Slots_end ct_Slots_end kV_Slots_end oc_Slots_bits dc_Slots_bits pm_Slots_bits cd_Slots_bits ct_Slots_bits kV_Slots_bits oc_Next_align dc_Next_align pm_Next_align cd_Next_align ct_Next_align kV_Next_align oc_Next_many dc_Next_many pm_Next_many cd_Next_many ct_Next_many kV_Next_many oc_Next_bits dc_Next_bits pm_Next_bits cd_Next_bits ct_Next_bits kV_Next_bits oc_Register_eq dc_Register_eq pm_Register_eq cd_Register_eq ct_Register_eq kV_Register_eq oc_Slots_eq dc_Slots_eq pm_Slots_eq cd_Slots_eq ct_Slots_eq kV_Slots_eq oc_Next_eq dc_Next_eq pm_Next_eq cd_Next_eq ct_Next_eq kV_Next_eq oc_Slots_contains dc_Slots_contains pm_Slots_contains cd_Slots_contains ct_Slots_contains kV_Slots_contains oc_Slots_meets dc_Slots_meets pm_Slots_meets cd_Slots_meets ct_Slots_meets kV_Slots_meets oc_Slots_add dc_Slots_add pm_Slots_add cd_Slots_add ct_Slots_add kV_Slots_add oc_Slots_sub dc_Slots_sub pm_Slots_sub cd_Slots_sub ct_Slots_sub kV_Slots_sub oc_next_multiple dc_next_multiple pm_next_multiple cd_next_multiple ct_next_multiple kV_next_multiple oc_Next_from_offset dc_Next_from_offset pm_Next_from_offset cd_Next_from_offset ct_Next_from_offset kV_Next_from_offset oc_Slots_repr dc_Slots_repr pm_Slots_repr cd_Slots_repr ct_Slots_repr kV_Slots_repr oc_Next_repr dc_Next_repr pm_Next_repr cd_Next_repr ct_Next_repr kV_Next_repr oc_Register_repr dc_Register_repr pm_Register_repr cd_Register_repr ct_Register_repr kV_Register_repr oc_l_draw dc_l_draw pm_l_draw cd_l_draw ct_l_draw kV_l_draw oc_l_pick dc_l_pick pm_l_pick cd_l_pick ct_l_pick kV_l_pick oc_l_pot dc_l_pot pm_l_pot cd_l_pot ct_l_pot kV_l_pot oc_l_bytes dc_l_bytes pm_l_bytes cd_l_bytes ct_l_bytes kV_l_bytes oc_l_registers_right dc_l_registers_right pm_l_registers_right cd_l_registers_right ct_l_registers_right kV_l_registers_right oc_l_slots_right dc_l_slots_right pm_l_slots_right cd_l_slots_right ct_l_slots_right kV_l_slots_right oc_l_moved_right dc_l_moved_right pm_l_moved_right cd_l_moved_right ct_l_moved_right kV_l_moved_right oc_l_nexts_right dc_l_nexts_right pm_l_nexts_right cd_l_nexts_right ct_l_nexts_right kV_l_nexts_right oc_l_unlike_right dc_l_unlike_right pm_l_unlike_right cd_l_unlike_right ct_l_unlike_right kV_l_unlike_right oc_l_right dc_l_right pm_l_right cd_l_right ct_l_right kV_l_right oc_law dc_law pm_law cd_law ct_law kV_law : Value} {re_Place_bits re_Register_group re_Register_number re_Register_bits re_Slots_offset re_Slots_many re_Slots_end re_Slots_bits re_Next_align re_Next_many re_Next_bits : List Value} {itGROUPS itALIGNMENTS : Array Value} {ntGROUPS ntALIGNMENTS : Nat} {cldPlace cldSlots : ClassData} {fo_str ro_str ho_add hr_add ho_sub hr_sub : Option Value} (X : K.In h) (G : h.Ns mainGlobals mg) (hfa : mg "law" = some (.ref fa))
    (cn : PySem.W.specialIn K (.builtin "object.__class__") "__get__" = some (some (.builtin "getset_descriptor.__get__")))
    (ctk : PySem.W.takesIn K (.builtin "object.__class__") = some true)
    (g_Place : PySem.W.nsIn K mainGlobals "Place" = some (some (.ref c_Place)))
    (pgPlace : PySem.W.plainGet K c_Place Str.empty = true)
    (hdPlace : PySem.W.hasDictIn K c_Place = true)
    (poPlace : PySem.W.plainOver K c_Place = true)
    (saPlace : PySem.W.findIn K (.ref c_Place) "__setattr__" = some (some (.builtin "object.__setattr__")))
    (caPlace : PySem.W.findIn K (.ref c_Place) "__class__" = some (some (.builtin "object.__class__")))
    (cmPlace : PySem.W.mroIn K c_Place (.type "object") = some true)
    (icPlace : PySem.W.isClsIn K c_Place = true)
    (tyPlace : PySem.W.typeIn K (.ref c_Place) = some (.type "type"))
    (mkPlace : PySem.W.makesIn K c_Place = true)
    (kcPlace : PySem.W.keepIn K (.ref c_Place) = true)
    (suPlace_NoneType : PySem.W.subIn K (.type "NoneType") (.ref c_Place) = some false)
    (suPlace_tuple : PySem.W.subIn K (.type "tuple") (.ref c_Place) = some false)
    (suPlace_str : PySem.W.subIn K (.type "str") (.ref c_Place) = some false)
    (suPlace_int : PySem.W.subIn K (.type "int") (.ref c_Place) = some false)
    (suPlace_list : PySem.W.subIn K (.type "list") (.ref c_Place) = some false)
    (suPlace_bool : PySem.W.subIn K (.type "bool") (.ref c_Place) = some false)
    (suPlace_dict : PySem.W.subIn K (.type "dict") (.ref c_Place) = some false)
    (clPlace : PySem.W.clsIn K c_Place = some cldPlace)
    (mrPlace : cldPlace.mro = [.ref c_Place, .type "object"])
    (cadPlace : PySem.W.findIn K (.ref c_Place) "__add__" = some none)
    (crdPlace : PySem.W.findIn K (.ref c_Place) "__radd__" = some none)
    (oad : PySem.W.findIn K (.type "object") "__add__" = some none)
    (ord_ : PySem.W.findIn K (.type "object") "__radd__" = some none)
    (g_Register : PySem.W.nsIn K mainGlobals "Register" = some (some (.ref c_Register)))
    (pgRegister : PySem.W.plainGet K c_Register Str.empty = true)
    (hdRegister : PySem.W.hasDictIn K c_Register = true)
    (poRegister : PySem.W.plainOver K c_Register = true)
    (saRegister : PySem.W.findIn K (.ref c_Register) "__setattr__" = some (some (.builtin "object.__setattr__")))
    (caRegister : PySem.W.findIn K (.ref c_Register) "__class__" = some (some (.builtin "object.__class__")))
    (cmRegister : PySem.W.mroIn K c_Register (.type "object") = some true)
    (icRegister : PySem.W.isClsIn K c_Register = true)
    (tyRegister : PySem.W.typeIn K (.ref c_Register) = some (.type "type"))
    (mkRegister : PySem.W.makesIn K c_Register = true)
    (kcRegister : PySem.W.keepIn K (.ref c_Register) = true)
    (suRegister_NoneType : PySem.W.subIn K (.type "NoneType") (.ref c_Register) = some false)
    (suRegister_tuple : PySem.W.subIn K (.type "tuple") (.ref c_Register) = some false)
    (suRegister_str : PySem.W.subIn K (.type "str") (.ref c_Register) = some false)
    (suRegister_int : PySem.W.subIn K (.type "int") (.ref c_Register) = some false)
    (suRegister_list : PySem.W.subIn K (.type "list") (.ref c_Register) = some false)
    (suRegister_bool : PySem.W.subIn K (.type "bool") (.ref c_Register) = some false)
    (suRegister_dict : PySem.W.subIn K (.type "dict") (.ref c_Register) = some false)
    (neRegister : PySem.W.findIn K (.ref c_Register) "__ne__" = some (some (.builtin "object.__ne__")))
    (nRegister_group : PySem.W.findIn K (.ref c_Register) "_group" = some none)
    (nRegister_number : PySem.W.findIn K (.ref c_Register) "_number" = some none)
    (nRegister_code : PySem.W.findIn K (.ref c_Register) "_code" = some none)
    (g_Slots : PySem.W.nsIn K mainGlobals "Slots" = some (some (.ref c_Slots)))
    (pgSlots : PySem.W.plainGet K c_Slots Str.empty = true)
    (hdSlots : PySem.W.hasDictIn K c_Slots = true)
    (poSlots : PySem.W.plainOver K c_Slots = true)
    (saSlots : PySem.W.findIn K (.ref c_Slots) "__setattr__" = some (some (.builtin "object.__setattr__")))
    (caSlots : PySem.W.findIn K (.ref c_Slots) "__class__" = some (some (.builtin "object.__class__")))
    (cmSlots : PySem.W.mroIn K c_Slots (.type "object") = some true)
    (icSlots : PySem.W.isClsIn K c_Slots = true)
    (tySlots : PySem.W.typeIn K (.ref c_Slots) = some (.type "type"))
    (mkSlots : PySem.W.makesIn K c_Slots = true)
    (kcSlots : PySem.W.keepIn K (.ref c_Slots) = true)
    (suSlots_NoneType : PySem.W.subIn K (.type "NoneType") (.ref c_Slots) = some false)
    (suSlots_tuple : PySem.W.subIn K (.type "tuple") (.ref c_Slots) = some false)
    (suSlots_str : PySem.W.subIn K (.type "str") (.ref c_Slots) = some false)
    (suSlots_int : PySem.W.subIn K (.type "int") (.ref c_Slots) = some false)
    (suSlots_list : PySem.W.subIn K (.type "list") (.ref c_Slots) = some false)
    (suSlots_bool : PySem.W.subIn K (.type "bool") (.ref c_Slots) = some false)
    (suSlots_dict : PySem.W.subIn K (.type "dict") (.ref c_Slots) = some false)
    (sxSlots_str : PySem.W.subIn K (.ref c_Slots) (.type "str") = some false)
    (sxSlots_int : PySem.W.subIn K (.ref c_Slots) (.type "int") = some false)
    (sxSlots_bool : PySem.W.subIn K (.ref c_Slots) (.type "bool") = some false)
    (neSlots : PySem.W.findIn K (.ref c_Slots) "__ne__" = some (some (.builtin "object.__ne__")))
    (nSlots_offset : PySem.W.findIn K (.ref c_Slots) "_offset" = some none)
    (nSlots_many : PySem.W.findIn K (.ref c_Slots) "_many" = some none)
    (sfSlots : PySem.W.selfFirst K c_Slots = true)
    (sta : PySem.W.findIn K (.type "str") "__add__" = some fo_str)
    (str_ : PySem.W.findIn K (.type "str") "__radd__" = some ro_str)
    (nrSlots : PySem.W.findIn K (.ref c_Slots) "__radd__" = some none)
    (g_Next : PySem.W.nsIn K mainGlobals "Next" = some (some (.ref c_Next)))
    (pgNext : PySem.W.plainGet K c_Next Str.empty = true)
    (hdNext : PySem.W.hasDictIn K c_Next = true)
    (poNext : PySem.W.plainOver K c_Next = true)
    (saNext : PySem.W.findIn K (.ref c_Next) "__setattr__" = some (some (.builtin "object.__setattr__")))
    (caNext : PySem.W.findIn K (.ref c_Next) "__class__" = some (some (.builtin "object.__class__")))
    (cmNext : PySem.W.mroIn K c_Next (.type "object") = some true)
    (icNext : PySem.W.isClsIn K c_Next = true)
    (tyNext : PySem.W.typeIn K (.ref c_Next) = some (.type "type"))
    (mkNext : PySem.W.makesIn K c_Next = true)
    (kcNext : PySem.W.keepIn K (.ref c_Next) = true)
    (suNext_NoneType : PySem.W.subIn K (.type "NoneType") (.ref c_Next) = some false)
    (suNext_tuple : PySem.W.subIn K (.type "tuple") (.ref c_Next) = some false)
    (suNext_str : PySem.W.subIn K (.type "str") (.ref c_Next) = some false)
    (suNext_int : PySem.W.subIn K (.type "int") (.ref c_Next) = some false)
    (suNext_list : PySem.W.subIn K (.type "list") (.ref c_Next) = some false)
    (suNext_bool : PySem.W.subIn K (.type "bool") (.ref c_Next) = some false)
    (suNext_dict : PySem.W.subIn K (.type "dict") (.ref c_Next) = some false)
    (neNext : PySem.W.findIn K (.ref c_Next) "__ne__" = some (some (.builtin "object.__ne__")))
    (nNext_align : PySem.W.findIn K (.ref c_Next) "_align" = some none)
    (nNext_many : PySem.W.findIn K (.ref c_Next) "_many" = some none)
    (ga_GROUPS : PySem.W.nsIn K mainGlobals "GROUPS" = some (some (.ref a_GROUPS)))
    (o_GROUPS : K.lookup a_GROUPS = some ⟨.type "tuple", none, .seq itGROUPS ntGROUPS, slGROUPS⟩)
    (v_GROUPS : Vals [.str "whole", .str "float"] itGROUPS.toList)
    (ga_LAST_NUMBER : PySem.W.nsIn K mainGlobals "LAST_NUMBER" = some (some u_LAST_NUMBER))
    (v_LAST_NUMBER : RelV (.int 7) u_LAST_NUMBER)
    (ga_GROUP_STRIDE : PySem.W.nsIn K mainGlobals "GROUP_STRIDE" = some (some u_GROUP_STRIDE))
    (v_GROUP_STRIDE : RelV (.int 8) u_GROUP_STRIDE)
    (ga_REGISTER_BITS : PySem.W.nsIn K mainGlobals "REGISTER_BITS" = some (some u_REGISTER_BITS))
    (v_REGISTER_BITS : RelV (.int 64) u_REGISTER_BITS)
    (ga_ALIGNMENTS : PySem.W.nsIn K mainGlobals "ALIGNMENTS" = some (some (.ref a_ALIGNMENTS)))
    (o_ALIGNMENTS : K.lookup a_ALIGNMENTS = some ⟨.type "tuple", none, .seq itALIGNMENTS ntALIGNMENTS, slALIGNMENTS⟩)
    (v_ALIGNMENTS : Vals [.int 1, .int 2, .int 4, .int 8, .int 16] itALIGNMENTS.toList)
    (ga_MOST_BYTES : PySem.W.nsIn K mainGlobals "MOST_BYTES" = some (some u_MOST_BYTES))
    (v_MOST_BYTES : RelV (.int 16) u_MOST_BYTES)
    (b_ValueError : PySem.W.nsIn K mainGlobals "ValueError" = some none)
    (b_abs : PySem.W.nsIn K mainGlobals "abs" = some none)
    (b_all : PySem.W.nsIn K mainGlobals "all" = some none)
    (b_bool : PySem.W.nsIn K mainGlobals "bool" = some none)
    (b_divmod : PySem.W.nsIn K mainGlobals "divmod" = some none)
    (b_enumerate : PySem.W.nsIn K mainGlobals "enumerate" = some none)
    (b_int : PySem.W.nsIn K mainGlobals "int" = some none)
    (b_isinstance : PySem.W.nsIn K mainGlobals "isinstance" = some none)
    (b_len : PySem.W.nsIn K mainGlobals "len" = some none)
    (b_list : PySem.W.nsIn K mainGlobals "list" = some none)
    (b_max : PySem.W.nsIn K mainGlobals "max" = some none)
    (b_min : PySem.W.nsIn K mainGlobals "min" = some none)
    (b_property : PySem.W.nsIn K mainGlobals "property" = some none)
    (b_range : PySem.W.nsIn K mainGlobals "range" = some none)
    (b_repr : PySem.W.nsIn K mainGlobals "repr" = some none)
    (b_str : PySem.W.nsIn K mainGlobals "str" = some none)
    (in0Place : PySem.W.findIn K (.ref c_Place) "__init__" = some (some (.builtin "object.__init__")))
    (clSlots : PySem.W.clsIn K c_Slots = some cldSlots)
    (mrSlots : cldSlots.mro = [.ref c_Slots, .ref c_Place, .type "object"])
    (raddSlots : PySem.W.findIn K (.ref c_Slots) "__radd__" = some none)
    (ia_add : PySem.W.findIn K (.type "int") "__add__" = some ho_add)
    (ib_add : PySem.W.findIn K (.type "int") "__radd__" = some hr_add)
    (iiaddSlots : PySem.W.findIn K (.ref c_Slots) "__iadd__" = some none)
    (iiaddPlace : PySem.W.findIn K (.ref c_Place) "__iadd__" = some none)
    (io_add : PySem.W.findIn K (.type "object") "__iadd__" = some none)
    (rsubSlots : PySem.W.findIn K (.ref c_Slots) "__rsub__" = some none)
    (ia_sub : PySem.W.findIn K (.type "int") "__sub__" = some ho_sub)
    (ib_sub : PySem.W.findIn K (.type "int") "__rsub__" = some hr_sub)
    (iisubSlots : PySem.W.findIn K (.ref c_Slots) "__isub__" = some none)
    (iisubPlace : PySem.W.findIn K (.ref c_Place) "__isub__" = some none)
    (io_sub : PySem.W.findIn K (.type "object") "__isub__" = some none)
    (sb_Register_Place : PySem.W.subIn K (.ref c_Register) (.ref c_Place) = some true)
    (nq_Register_Place : (Value.ref c_Register == Value.ref c_Place) = false)
    (sb_Slots_Place : PySem.W.subIn K (.ref c_Slots) (.ref c_Place) = some true)
    (nq_Slots_Place : (Value.ref c_Slots == Value.ref c_Place) = false)
    (sb_Next_Place : PySem.W.subIn K (.ref c_Next) (.ref c_Place) = some true)
    (nq_Next_Place : (Value.ref c_Next == Value.ref c_Place) = false)
    (sb_Register_Slots : PySem.W.subIn K (.ref c_Register) (.ref c_Slots) = some false)
    (nq_Register_Slots : (Value.ref c_Register == Value.ref c_Slots) = false)
    (sb_Register_Next : PySem.W.subIn K (.ref c_Register) (.ref c_Next) = some false)
    (nq_Register_Next : (Value.ref c_Register == Value.ref c_Next) = false)
    (sb_Slots_Register : PySem.W.subIn K (.ref c_Slots) (.ref c_Register) = some false)
    (nq_Slots_Register : (Value.ref c_Slots == Value.ref c_Register) = false)
    (sb_Slots_Next : PySem.W.subIn K (.ref c_Slots) (.ref c_Next) = some false)
    (nq_Slots_Next : (Value.ref c_Slots == Value.ref c_Next) = false)
    (sb_Next_Register : PySem.W.subIn K (.ref c_Next) (.ref c_Register) = some false)
    (nq_Next_Register : (Value.ref c_Next == Value.ref c_Register) = false)
    (sb_Next_Slots : PySem.W.subIn K (.ref c_Next) (.ref c_Slots) = some false)
    (nq_Next_Slots : (Value.ref c_Next == Value.ref c_Slots) = false)
    (sxRegister_NoneType : PySem.W.subIn K (.ref c_Register) (.type "NoneType") = some false)
    (sxRegister_tuple : PySem.W.subIn K (.ref c_Register) (.type "tuple") = some false)
    (sxRegister_str : PySem.W.subIn K (.ref c_Register) (.type "str") = some false)
    (sxRegister_int : PySem.W.subIn K (.ref c_Register) (.type "int") = some false)
    (sxRegister_list : PySem.W.subIn K (.ref c_Register) (.type "list") = some false)
    (sxSlots_NoneType : PySem.W.subIn K (.ref c_Slots) (.type "NoneType") = some false)
    (sxSlots_tuple : PySem.W.subIn K (.ref c_Slots) (.type "tuple") = some false)
    (sxSlots_list : PySem.W.subIn K (.ref c_Slots) (.type "list") = some false)
    (sxNext_NoneType : PySem.W.subIn K (.ref c_Next) (.type "NoneType") = some false)
    (sxNext_tuple : PySem.W.subIn K (.ref c_Next) (.type "tuple") = some false)
    (sxNext_str : PySem.W.subIn K (.ref c_Next) (.type "str") = some false)
    (sxNext_int : PySem.W.subIn K (.ref c_Next) (.type "int") = some false)
    (sxNext_list : PySem.W.subIn K (.ref c_Next) (.type "list") = some false)
    (a_is_integer : PySem.W.nsIn K mainGlobals "is_integer" = some (some (.ref f_is_integer)))
    (l_is_integer : K.lookup f_is_integer = some ⟨oc_is_integer, od_is_integer, .func (PySem.W.fnOf "is_integer" "is_integer" (defArgs st_is_integer) (defBody st_is_integer) (defScope st_is_integer) .none kV_is_integer dc_is_integer pm_is_integer an_is_integer cd_is_integer ct_is_integer), sl_is_integer⟩)
    (c_is_integer : PySem.W.codeIn K cd_is_integer "is_integer" = true)
    (k_is_integer : PySem.W.keepIn K (.ref f_is_integer) = true)
    (a_is_count : PySem.W.nsIn K mainGlobals "is_count" = some (some (.ref f_is_count)))
    (l_is_count : K.lookup f_is_count = some ⟨oc_is_count, od_is_count, .func (PySem.W.fnOf "is_count" "is_count" (defArgs st_is_count) (defBody st_is_count) (defScope st_is_count) .none kV_is_count dc_is_count pm_is_count an_is_count cd_is_count ct_is_count), sl_is_count⟩)
    (c_is_count : PySem.W.codeIn K cd_is_count "is_count" = true)
    (k_is_count : PySem.W.keepIn K (.ref f_is_count) = true)
    (a_is_between : PySem.W.nsIn K mainGlobals "is_between" = some (some (.ref f_is_between)))
    (l_is_between : K.lookup f_is_between = some ⟨oc_is_between, od_is_between, .func (PySem.W.fnOf "is_between" "is_between" (defArgs st_is_between) (defBody st_is_between) (defScope st_is_between) .none kV_is_between dc_is_between pm_is_between an_is_between cd_is_between ct_is_between), sl_is_between⟩)
    (c_is_between : PySem.W.codeIn K cd_is_between "is_between" = true)
    (k_is_between : PySem.W.keepIn K (.ref f_is_between) = true)
    (a_is_one_of : PySem.W.nsIn K mainGlobals "is_one_of" = some (some (.ref f_is_one_of)))
    (l_is_one_of : K.lookup f_is_one_of = some ⟨oc_is_one_of, od_is_one_of, .func (PySem.W.fnOf "is_one_of" "is_one_of" (defArgs st_is_one_of) (defBody st_is_one_of) (defScope st_is_one_of) .none kV_is_one_of dc_is_one_of pm_is_one_of an_is_one_of cd_is_one_of ct_is_one_of), sl_is_one_of⟩)
    (c_is_one_of : PySem.W.codeIn K cd_is_one_of "is_one_of" = true)
    (k_is_one_of : PySem.W.keepIn K (.ref f_is_one_of) = true)
    (a_is_word_of : PySem.W.nsIn K mainGlobals "is_word_of" = some (some (.ref f_is_word_of)))
    (l_is_word_of : K.lookup f_is_word_of = some ⟨oc_is_word_of, od_is_word_of, .func (PySem.W.fnOf "is_word_of" "is_word_of" (defArgs st_is_word_of) (defBody st_is_word_of) (defScope st_is_word_of) .none kV_is_word_of dc_is_word_of pm_is_word_of an_is_word_of cd_is_word_of ct_is_word_of), sl_is_word_of⟩)
    (c_is_word_of : PySem.W.codeIn K cd_is_word_of "is_word_of" = true)
    (k_is_word_of : PySem.W.keepIn K (.ref f_is_word_of) = true)
    (a_Register_init : PySem.W.findIn K (.ref c_Register) "__init__" = some (some (.ref f_Register_init)))
    (i_Register_init : PySem.W.isFn K (.ref f_Register_init) = true)
    (l_Register_init : K.lookup f_Register_init = some ⟨oc_Register_init, od_Register_init, .func (PySem.W.fnOf "__init__" "Register.__init__" (defArgs st_Register_init) (defBody st_Register_init) (defScope st_Register_init) .none kV_Register_init dc_Register_init pm_Register_init an_Register_init cd_Register_init ct_Register_init), sl_Register_init⟩)
    (c_Register_init : PySem.W.codeIn K cd_Register_init "Register.__init__" = true)
    (k_Register_init : PySem.W.keepIn K (.ref f_Register_init) = true)
    (a_Slots_init : PySem.W.findIn K (.ref c_Slots) "__init__" = some (some (.ref f_Slots_init)))
    (i_Slots_init : PySem.W.isFn K (.ref f_Slots_init) = true)
    (l_Slots_init : K.lookup f_Slots_init = some ⟨oc_Slots_init, od_Slots_init, .func (PySem.W.fnOf "__init__" "Slots.__init__" (defArgs st_Slots_init) (defBody st_Slots_init) (defScope st_Slots_init) .none kV_Slots_init dc_Slots_init pm_Slots_init an_Slots_init cd_Slots_init ct_Slots_init), sl_Slots_init⟩)
    (c_Slots_init : PySem.W.codeIn K cd_Slots_init "Slots.__init__" = true)
    (k_Slots_init : PySem.W.keepIn K (.ref f_Slots_init) = true)
    (a_Next_init : PySem.W.findIn K (.ref c_Next) "__init__" = some (some (.ref f_Next_init)))
    (i_Next_init : PySem.W.isFn K (.ref f_Next_init) = true)
    (l_Next_init : K.lookup f_Next_init = some ⟨oc_Next_init, od_Next_init, .func (PySem.W.fnOf "__init__" "Next.__init__" (defArgs st_Next_init) (defBody st_Next_init) (defScope st_Next_init) .none kV_Next_init dc_Next_init pm_Next_init an_Next_init cd_Next_init ct_Next_init), sl_Next_init⟩)
    (c_Next_init : PySem.W.codeIn K cd_Next_init "Next.__init__" = true)
    (k_Next_init : PySem.W.keepIn K (.ref f_Next_init) = true)
    (a_Place_bits : PySem.W.findIn K (.ref c_Place) "bits" = some (some (.ref p_Place_bits)))
    (g_Place_bits : PySem.W.specialIn K (.ref p_Place_bits) "__get__" = some (some (.builtin "property.__get__")))
    (t_Place_bits : PySem.W.takesIn K (.ref p_Place_bits) = some true)
    (r_Place_bits : PySem.W.recIn K p_Place_bits "property" = some (.ref f_Place_bits :: re_Place_bits))
    (l_Place_bits : K.lookup f_Place_bits = some ⟨oc_Place_bits, od_Place_bits, .func (PySem.W.fnOf "bits" "Place.bits" (defArgs st_Place_bits) (defBody st_Place_bits) (defScope st_Place_bits) .none kV_Place_bits dc_Place_bits pm_Place_bits an_Place_bits cd_Place_bits ct_Place_bits), sl_Place_bits⟩)
    (c_Place_bits : PySem.W.codeIn K cd_Place_bits "Place.bits" = true)
    (k_Place_bits : PySem.W.keepIn K (.ref f_Place_bits) = true)
    (a_Register_group : PySem.W.findIn K (.ref c_Register) "group" = some (some (.ref p_Register_group)))
    (g_Register_group : PySem.W.specialIn K (.ref p_Register_group) "__get__" = some (some (.builtin "property.__get__")))
    (t_Register_group : PySem.W.takesIn K (.ref p_Register_group) = some true)
    (r_Register_group : PySem.W.recIn K p_Register_group "property" = some (.ref f_Register_group :: re_Register_group))
    (l_Register_group : K.lookup f_Register_group = some ⟨oc_Register_group, od_Register_group, .func (PySem.W.fnOf "group" "Register.group" (defArgs st_Register_group) (defBody st_Register_group) (defScope st_Register_group) .none kV_Register_group dc_Register_group pm_Register_group an_Register_group cd_Register_group ct_Register_group), sl_Register_group⟩)
    (c_Register_group : PySem.W.codeIn K cd_Register_group "Register.group" = true)
    (k_Register_group : PySem.W.keepIn K (.ref f_Register_group) = true)
    (a_Register_number : PySem.W.findIn K (.ref c_Register) "number" = some (some (.ref p_Register_number)))
    (g_Register_number : PySem.W.specialIn K (.ref p_Register_number) "__get__" = some (some (.builtin "property.__get__")))
    (t_Register_number : PySem.W.takesIn K (.ref p_Register_number) = some true)
    (r_Register_number : PySem.W.recIn K p_Register_number "property" = some (.ref f_Register_number :: re_Register_number))
    (l_Register_number : K.lookup f_Register_number = some ⟨oc_Register_number, od_Register_number, .func (PySem.W.fnOf "number" "Register.number" (defArgs st_Register_number) (defBody st_Register_number) (defScope st_Register_number) .none kV_Register_number dc_Register_number pm_Register_number an_Register_number cd_Register_number ct_Register_number), sl_Register_number⟩)
    (c_Register_number : PySem.W.codeIn K cd_Register_number "Register.number" = true)
    (k_Register_number : PySem.W.keepIn K (.ref f_Register_number) = true)
    (a_Register_bits : PySem.W.findIn K (.ref c_Register) "bits" = some (some (.ref p_Register_bits)))
    (g_Register_bits : PySem.W.specialIn K (.ref p_Register_bits) "__get__" = some (some (.builtin "property.__get__")))
    (t_Register_bits : PySem.W.takesIn K (.ref p_Register_bits) = some true)
    (r_Register_bits : PySem.W.recIn K p_Register_bits "property" = some (.ref f_Register_bits :: re_Register_bits))
    (l_Register_bits : K.lookup f_Register_bits = some ⟨oc_Register_bits, od_Register_bits, .func (PySem.W.fnOf "bits" "Register.bits" (defArgs st_Register_bits) (defBody st_Register_bits) (defScope st_Register_bits) .none kV_Register_bits dc_Register_bits pm_Register_bits an_Register_bits cd_Register_bits ct_Register_bits), sl_Register_bits⟩)
    (c_Register_bits : PySem.W.codeIn K cd_Register_bits "Register.bits" = true)
    (k_Register_bits : PySem.W.keepIn K (.ref f_Register_bits) = true)
    (a_Slots_offset : PySem.W.findIn K (.ref c_Slots) "offset" = some (some (.ref p_Slots_offset)))
    (g_Slots_offset : PySem.W.specialIn K (.ref p_Slots_offset) "__get__" = some (some (.builtin "property.__get__")))
    (t_Slots_offset : PySem.W.takesIn K (.ref p_Slots_offset) = some true)
    (r_Slots_offset : PySem.W.recIn K p_Slots_offset "property" = some (.ref f_Slots_offset :: re_Slots_offset))
    (l_Slots_offset : K.lookup f_Slots_offset = some ⟨oc_Slots_offset, od_Slots_offset, .func (PySem.W.fnOf "offset" "Slots.offset" (defArgs st_Slots_offset) (defBody st_Slots_offset) (defScope st_Slots_offset) .none kV_Slots_offset dc_Slots_offset pm_Slots_offset an_Slots_offset cd_Slots_offset ct_Slots_offset), sl_Slots_offset⟩)
    (c_Slots_offset : PySem.W.codeIn K cd_Slots_offset "Slots.offset" = true)
    (k_Slots_offset : PySem.W.keepIn K (.ref f_Slots_offset) = true)
    (a_Slots_many : PySem.W.findIn K (.ref c_Slots) "many" = some (some (.ref p_Slots_many)))
    (g_Slots_many : PySem.W.specialIn K (.ref p_Slots_many) "__get__" = some (some (.builtin "property.__get__")))
    (t_Slots_many : PySem.W.takesIn K (.ref p_Slots_many) = some true)
    (r_Slots_many : PySem.W.recIn K p_Slots_many "property" = some (.ref f_Slots_many :: re_Slots_many))
    (l_Slots_many : K.lookup f_Slots_many = some ⟨oc_Slots_many, od_Slots_many, .func (PySem.W.fnOf "many" "Slots.many" (defArgs st_Slots_many) (defBody st_Slots_many) (defScope st_Slots_many) .none kV_Slots_many dc_Slots_many pm_Slots_many an_Slots_many cd_Slots_many ct_Slots_many), sl_Slots_many⟩)
    (c_Slots_many : PySem.W.codeIn K cd_Slots_many "Slots.many" = true)
    (k_Slots_many : PySem.W.keepIn K (.ref f_Slots_many) = true)
    (a_Slots_end : PySem.W.findIn K (.ref c_Slots) "end" = some (some (.ref p_Slots_end)))
    (g_Slots_end : PySem.W.specialIn K (.ref p_Slots_end) "__get__" = some (some (.builtin "property.__get__")))
    (t_Slots_end : PySem.W.takesIn K (.ref p_Slots_end) = some true)
    (r_Slots_end : PySem.W.recIn K p_Slots_end "property" = some (.ref f_Slots_end :: re_Slots_end))
    (l_Slots_end : K.lookup f_Slots_end = some ⟨oc_Slots_end, od_Slots_end, .func (PySem.W.fnOf "end" "Slots.end" (defArgs st_Slots_end) (defBody st_Slots_end) (defScope st_Slots_end) .none kV_Slots_end dc_Slots_end pm_Slots_end an_Slots_end cd_Slots_end ct_Slots_end), sl_Slots_end⟩)
    (c_Slots_end : PySem.W.codeIn K cd_Slots_end "Slots.end" = true)
    (k_Slots_end : PySem.W.keepIn K (.ref f_Slots_end) = true)
    (a_Slots_bits : PySem.W.findIn K (.ref c_Slots) "bits" = some (some (.ref p_Slots_bits)))
    (g_Slots_bits : PySem.W.specialIn K (.ref p_Slots_bits) "__get__" = some (some (.builtin "property.__get__")))
    (t_Slots_bits : PySem.W.takesIn K (.ref p_Slots_bits) = some true)
    (r_Slots_bits : PySem.W.recIn K p_Slots_bits "property" = some (.ref f_Slots_bits :: re_Slots_bits))
    (l_Slots_bits : K.lookup f_Slots_bits = some ⟨oc_Slots_bits, od_Slots_bits, .func (PySem.W.fnOf "bits" "Slots.bits" (defArgs st_Slots_bits) (defBody st_Slots_bits) (defScope st_Slots_bits) .none kV_Slots_bits dc_Slots_bits pm_Slots_bits an_Slots_bits cd_Slots_bits ct_Slots_bits), sl_Slots_bits⟩)
    (c_Slots_bits : PySem.W.codeIn K cd_Slots_bits "Slots.bits" = true)
    (k_Slots_bits : PySem.W.keepIn K (.ref f_Slots_bits) = true)
    (a_Next_align : PySem.W.findIn K (.ref c_Next) "align" = some (some (.ref p_Next_align)))
    (g_Next_align : PySem.W.specialIn K (.ref p_Next_align) "__get__" = some (some (.builtin "property.__get__")))
    (t_Next_align : PySem.W.takesIn K (.ref p_Next_align) = some true)
    (r_Next_align : PySem.W.recIn K p_Next_align "property" = some (.ref f_Next_align :: re_Next_align))
    (l_Next_align : K.lookup f_Next_align = some ⟨oc_Next_align, od_Next_align, .func (PySem.W.fnOf "align" "Next.align" (defArgs st_Next_align) (defBody st_Next_align) (defScope st_Next_align) .none kV_Next_align dc_Next_align pm_Next_align an_Next_align cd_Next_align ct_Next_align), sl_Next_align⟩)
    (c_Next_align : PySem.W.codeIn K cd_Next_align "Next.align" = true)
    (k_Next_align : PySem.W.keepIn K (.ref f_Next_align) = true)
    (a_Next_many : PySem.W.findIn K (.ref c_Next) "many" = some (some (.ref p_Next_many)))
    (g_Next_many : PySem.W.specialIn K (.ref p_Next_many) "__get__" = some (some (.builtin "property.__get__")))
    (t_Next_many : PySem.W.takesIn K (.ref p_Next_many) = some true)
    (r_Next_many : PySem.W.recIn K p_Next_many "property" = some (.ref f_Next_many :: re_Next_many))
    (l_Next_many : K.lookup f_Next_many = some ⟨oc_Next_many, od_Next_many, .func (PySem.W.fnOf "many" "Next.many" (defArgs st_Next_many) (defBody st_Next_many) (defScope st_Next_many) .none kV_Next_many dc_Next_many pm_Next_many an_Next_many cd_Next_many ct_Next_many), sl_Next_many⟩)
    (c_Next_many : PySem.W.codeIn K cd_Next_many "Next.many" = true)
    (k_Next_many : PySem.W.keepIn K (.ref f_Next_many) = true)
    (a_Next_bits : PySem.W.findIn K (.ref c_Next) "bits" = some (some (.ref p_Next_bits)))
    (g_Next_bits : PySem.W.specialIn K (.ref p_Next_bits) "__get__" = some (some (.builtin "property.__get__")))
    (t_Next_bits : PySem.W.takesIn K (.ref p_Next_bits) = some true)
    (r_Next_bits : PySem.W.recIn K p_Next_bits "property" = some (.ref f_Next_bits :: re_Next_bits))
    (l_Next_bits : K.lookup f_Next_bits = some ⟨oc_Next_bits, od_Next_bits, .func (PySem.W.fnOf "bits" "Next.bits" (defArgs st_Next_bits) (defBody st_Next_bits) (defScope st_Next_bits) .none kV_Next_bits dc_Next_bits pm_Next_bits an_Next_bits cd_Next_bits ct_Next_bits), sl_Next_bits⟩)
    (c_Next_bits : PySem.W.codeIn K cd_Next_bits "Next.bits" = true)
    (k_Next_bits : PySem.W.keepIn K (.ref f_Next_bits) = true)
    (a_Register_eq : PySem.W.findIn K (.ref c_Register) "__eq__" = some (some (.ref f_Register_eq)))
    (i_Register_eq : PySem.W.isFn K (.ref f_Register_eq) = true)
    (l_Register_eq : K.lookup f_Register_eq = some ⟨oc_Register_eq, od_Register_eq, .func (PySem.W.fnOf "__eq__" "Register.__eq__" (defArgs st_Register_eq) (defBody st_Register_eq) (defScope st_Register_eq) .none kV_Register_eq dc_Register_eq pm_Register_eq an_Register_eq cd_Register_eq ct_Register_eq), sl_Register_eq⟩)
    (c_Register_eq : PySem.W.codeIn K cd_Register_eq "Register.__eq__" = true)
    (k_Register_eq : PySem.W.keepIn K (.ref f_Register_eq) = true)
    (a_Slots_eq : PySem.W.findIn K (.ref c_Slots) "__eq__" = some (some (.ref f_Slots_eq)))
    (i_Slots_eq : PySem.W.isFn K (.ref f_Slots_eq) = true)
    (l_Slots_eq : K.lookup f_Slots_eq = some ⟨oc_Slots_eq, od_Slots_eq, .func (PySem.W.fnOf "__eq__" "Slots.__eq__" (defArgs st_Slots_eq) (defBody st_Slots_eq) (defScope st_Slots_eq) .none kV_Slots_eq dc_Slots_eq pm_Slots_eq an_Slots_eq cd_Slots_eq ct_Slots_eq), sl_Slots_eq⟩)
    (c_Slots_eq : PySem.W.codeIn K cd_Slots_eq "Slots.__eq__" = true)
    (k_Slots_eq : PySem.W.keepIn K (.ref f_Slots_eq) = true)
    (a_Next_eq : PySem.W.findIn K (.ref c_Next) "__eq__" = some (some (.ref f_Next_eq)))
    (i_Next_eq : PySem.W.isFn K (.ref f_Next_eq) = true)
    (l_Next_eq : K.lookup f_Next_eq = some ⟨oc_Next_eq, od_Next_eq, .func (PySem.W.fnOf "__eq__" "Next.__eq__" (defArgs st_Next_eq) (defBody st_Next_eq) (defScope st_Next_eq) .none kV_Next_eq dc_Next_eq pm_Next_eq an_Next_eq cd_Next_eq ct_Next_eq), sl_Next_eq⟩)
    (c_Next_eq : PySem.W.codeIn K cd_Next_eq "Next.__eq__" = true)
    (k_Next_eq : PySem.W.keepIn K (.ref f_Next_eq) = true)
    (a_Slots_contains : PySem.W.findIn K (.ref c_Slots) "__contains__" = some (some (.ref f_Slots_contains)))
    (i_Slots_contains : PySem.W.isFn K (.ref f_Slots_contains) = true)
    (l_Slots_contains : K.lookup f_Slots_contains = some ⟨oc_Slots_contains, od_Slots_contains, .func (PySem.W.fnOf "__contains__" "Slots.__contains__" (defArgs st_Slots_contains) (defBody st_Slots_contains) (defScope st_Slots_contains) .none kV_Slots_contains dc_Slots_contains pm_Slots_contains an_Slots_contains cd_Slots_contains ct_Slots_contains), sl_Slots_contains⟩)
    (c_Slots_contains : PySem.W.codeIn K cd_Slots_contains "Slots.__contains__" = true)
    (k_Slots_contains : PySem.W.keepIn K (.ref f_Slots_contains) = true)
    (a_Slots_meets : PySem.W.findIn K (.ref c_Slots) "meets" = some (some (.ref f_Slots_meets)))
    (i_Slots_meets : PySem.W.isFn K (.ref f_Slots_meets) = true)
    (l_Slots_meets : K.lookup f_Slots_meets = some ⟨oc_Slots_meets, od_Slots_meets, .func (PySem.W.fnOf "meets" "Slots.meets" (defArgs st_Slots_meets) (defBody st_Slots_meets) (defScope st_Slots_meets) .none kV_Slots_meets dc_Slots_meets pm_Slots_meets an_Slots_meets cd_Slots_meets ct_Slots_meets), sl_Slots_meets⟩)
    (c_Slots_meets : PySem.W.codeIn K cd_Slots_meets "Slots.meets" = true)
    (k_Slots_meets : PySem.W.keepIn K (.ref f_Slots_meets) = true)
    (a_Slots_add : PySem.W.findIn K (.ref c_Slots) "__add__" = some (some (.ref f_Slots_add)))
    (i_Slots_add : PySem.W.isFn K (.ref f_Slots_add) = true)
    (l_Slots_add : K.lookup f_Slots_add = some ⟨oc_Slots_add, od_Slots_add, .func (PySem.W.fnOf "__add__" "Slots.__add__" (defArgs st_Slots_add) (defBody st_Slots_add) (defScope st_Slots_add) .none kV_Slots_add dc_Slots_add pm_Slots_add an_Slots_add cd_Slots_add ct_Slots_add), sl_Slots_add⟩)
    (c_Slots_add : PySem.W.codeIn K cd_Slots_add "Slots.__add__" = true)
    (k_Slots_add : PySem.W.keepIn K (.ref f_Slots_add) = true)
    (a_Slots_sub : PySem.W.findIn K (.ref c_Slots) "__sub__" = some (some (.ref f_Slots_sub)))
    (i_Slots_sub : PySem.W.isFn K (.ref f_Slots_sub) = true)
    (l_Slots_sub : K.lookup f_Slots_sub = some ⟨oc_Slots_sub, od_Slots_sub, .func (PySem.W.fnOf "__sub__" "Slots.__sub__" (defArgs st_Slots_sub) (defBody st_Slots_sub) (defScope st_Slots_sub) .none kV_Slots_sub dc_Slots_sub pm_Slots_sub an_Slots_sub cd_Slots_sub ct_Slots_sub), sl_Slots_sub⟩)
    (c_Slots_sub : PySem.W.codeIn K cd_Slots_sub "Slots.__sub__" = true)
    (k_Slots_sub : PySem.W.keepIn K (.ref f_Slots_sub) = true)
    (a_next_multiple : PySem.W.nsIn K mainGlobals "next_multiple" = some (some (.ref f_next_multiple)))
    (l_next_multiple : K.lookup f_next_multiple = some ⟨oc_next_multiple, od_next_multiple, .func (PySem.W.fnOf "next_multiple" "next_multiple" (defArgs st_next_multiple) (defBody st_next_multiple) (defScope st_next_multiple) .none kV_next_multiple dc_next_multiple pm_next_multiple an_next_multiple cd_next_multiple ct_next_multiple), sl_next_multiple⟩)
    (c_next_multiple : PySem.W.codeIn K cd_next_multiple "next_multiple" = true)
    (k_next_multiple : PySem.W.keepIn K (.ref f_next_multiple) = true)
    (a_Next_from_offset : PySem.W.findIn K (.ref c_Next) "from_offset" = some (some (.ref f_Next_from_offset)))
    (i_Next_from_offset : PySem.W.isFn K (.ref f_Next_from_offset) = true)
    (l_Next_from_offset : K.lookup f_Next_from_offset = some ⟨oc_Next_from_offset, od_Next_from_offset, .func (PySem.W.fnOf "from_offset" "Next.from_offset" (defArgs st_Next_from_offset) (defBody st_Next_from_offset) (defScope st_Next_from_offset) .none kV_Next_from_offset dc_Next_from_offset pm_Next_from_offset an_Next_from_offset cd_Next_from_offset ct_Next_from_offset), sl_Next_from_offset⟩)
    (c_Next_from_offset : PySem.W.codeIn K cd_Next_from_offset "Next.from_offset" = true)
    (k_Next_from_offset : PySem.W.keepIn K (.ref f_Next_from_offset) = true)
    (a_Slots_repr : PySem.W.findIn K (.ref c_Slots) "__repr__" = some (some (.ref f_Slots_repr)))
    (i_Slots_repr : PySem.W.isFn K (.ref f_Slots_repr) = true)
    (l_Slots_repr : K.lookup f_Slots_repr = some ⟨oc_Slots_repr, od_Slots_repr, .func (PySem.W.fnOf "__repr__" "Slots.__repr__" (defArgs st_Slots_repr) (defBody st_Slots_repr) (defScope st_Slots_repr) .none kV_Slots_repr dc_Slots_repr pm_Slots_repr an_Slots_repr cd_Slots_repr ct_Slots_repr), sl_Slots_repr⟩)
    (c_Slots_repr : PySem.W.codeIn K cd_Slots_repr "Slots.__repr__" = true)
    (k_Slots_repr : PySem.W.keepIn K (.ref f_Slots_repr) = true)
    (a_Next_repr : PySem.W.findIn K (.ref c_Next) "__repr__" = some (some (.ref f_Next_repr)))
    (i_Next_repr : PySem.W.isFn K (.ref f_Next_repr) = true)
    (l_Next_repr : K.lookup f_Next_repr = some ⟨oc_Next_repr, od_Next_repr, .func (PySem.W.fnOf "__repr__" "Next.__repr__" (defArgs st_Next_repr) (defBody st_Next_repr) (defScope st_Next_repr) .none kV_Next_repr dc_Next_repr pm_Next_repr an_Next_repr cd_Next_repr ct_Next_repr), sl_Next_repr⟩)
    (c_Next_repr : PySem.W.codeIn K cd_Next_repr "Next.__repr__" = true)
    (k_Next_repr : PySem.W.keepIn K (.ref f_Next_repr) = true)
    (a_Register_repr : PySem.W.findIn K (.ref c_Register) "__repr__" = some (some (.ref f_Register_repr)))
    (i_Register_repr : PySem.W.isFn K (.ref f_Register_repr) = true)
    (l_Register_repr : K.lookup f_Register_repr = some ⟨oc_Register_repr, od_Register_repr, .func (PySem.W.fnOf "__repr__" "Register.__repr__" (defArgs st_Register_repr) (defBody st_Register_repr) (defScope st_Register_repr) .none kV_Register_repr dc_Register_repr pm_Register_repr an_Register_repr cd_Register_repr ct_Register_repr), sl_Register_repr⟩)
    (c_Register_repr : PySem.W.codeIn K cd_Register_repr "Register.__repr__" = true)
    (k_Register_repr : PySem.W.keepIn K (.ref f_Register_repr) = true)
    (a_l_draw : PySem.W.nsIn K mainGlobals "_law_draw" = some (some (.ref f_l_draw)))
    (l_l_draw : K.lookup f_l_draw = some ⟨oc_l_draw, od_l_draw, .func (PySem.W.fnOf "_law_draw" "_law_draw" (defArgs st_l_draw) (defBody st_l_draw) (defScope st_l_draw) .none kV_l_draw dc_l_draw pm_l_draw an_l_draw cd_l_draw ct_l_draw), sl_l_draw⟩)
    (c_l_draw : PySem.W.codeIn K cd_l_draw "_law_draw" = true)
    (k_l_draw : PySem.W.keepIn K (.ref f_l_draw) = true)
    (a_l_pick : PySem.W.nsIn K mainGlobals "_law_pick" = some (some (.ref f_l_pick)))
    (l_l_pick : K.lookup f_l_pick = some ⟨oc_l_pick, od_l_pick, .func (PySem.W.fnOf "_law_pick" "_law_pick" (defArgs st_l_pick) (defBody st_l_pick) (defScope st_l_pick) .none kV_l_pick dc_l_pick pm_l_pick an_l_pick cd_l_pick ct_l_pick), sl_l_pick⟩)
    (c_l_pick : PySem.W.codeIn K cd_l_pick "_law_pick" = true)
    (k_l_pick : PySem.W.keepIn K (.ref f_l_pick) = true)
    (a_l_pot : PySem.W.nsIn K mainGlobals "_law_pot" = some (some (.ref f_l_pot)))
    (l_l_pot : K.lookup f_l_pot = some ⟨oc_l_pot, od_l_pot, .func (PySem.W.fnOf "_law_pot" "_law_pot" (defArgs st_l_pot) (defBody st_l_pot) (defScope st_l_pot) .none kV_l_pot dc_l_pot pm_l_pot an_l_pot cd_l_pot ct_l_pot), sl_l_pot⟩)
    (c_l_pot : PySem.W.codeIn K cd_l_pot "_law_pot" = true)
    (k_l_pot : PySem.W.keepIn K (.ref f_l_pot) = true)
    (a_l_bytes : PySem.W.nsIn K mainGlobals "_law_bytes" = some (some (.ref f_l_bytes)))
    (l_l_bytes : K.lookup f_l_bytes = some ⟨oc_l_bytes, od_l_bytes, .func (PySem.W.fnOf "_law_bytes" "_law_bytes" (defArgs st_l_bytes) (defBody st_l_bytes) (defScope st_l_bytes) .none kV_l_bytes dc_l_bytes pm_l_bytes an_l_bytes cd_l_bytes ct_l_bytes), sl_l_bytes⟩)
    (c_l_bytes : PySem.W.codeIn K cd_l_bytes "_law_bytes" = true)
    (k_l_bytes : PySem.W.keepIn K (.ref f_l_bytes) = true)
    (a_l_registers_right : PySem.W.nsIn K mainGlobals "_law_registers_right" = some (some (.ref f_l_registers_right)))
    (l_l_registers_right : K.lookup f_l_registers_right = some ⟨oc_l_registers_right, od_l_registers_right, .func (PySem.W.fnOf "_law_registers_right" "_law_registers_right" (defArgs st_l_registers_right) (defBody st_l_registers_right) (defScope st_l_registers_right) .none kV_l_registers_right dc_l_registers_right pm_l_registers_right an_l_registers_right cd_l_registers_right ct_l_registers_right), sl_l_registers_right⟩)
    (c_l_registers_right : PySem.W.codeIn K cd_l_registers_right "_law_registers_right" = true)
    (k_l_registers_right : PySem.W.keepIn K (.ref f_l_registers_right) = true)
    (a_l_slots_right : PySem.W.nsIn K mainGlobals "_law_slots_right" = some (some (.ref f_l_slots_right)))
    (l_l_slots_right : K.lookup f_l_slots_right = some ⟨oc_l_slots_right, od_l_slots_right, .func (PySem.W.fnOf "_law_slots_right" "_law_slots_right" (defArgs st_l_slots_right) (defBody st_l_slots_right) (defScope st_l_slots_right) .none kV_l_slots_right dc_l_slots_right pm_l_slots_right an_l_slots_right cd_l_slots_right ct_l_slots_right), sl_l_slots_right⟩)
    (c_l_slots_right : PySem.W.codeIn K cd_l_slots_right "_law_slots_right" = true)
    (k_l_slots_right : PySem.W.keepIn K (.ref f_l_slots_right) = true)
    (a_l_moved_right : PySem.W.nsIn K mainGlobals "_law_moved_right" = some (some (.ref f_l_moved_right)))
    (l_l_moved_right : K.lookup f_l_moved_right = some ⟨oc_l_moved_right, od_l_moved_right, .func (PySem.W.fnOf "_law_moved_right" "_law_moved_right" (defArgs st_l_moved_right) (defBody st_l_moved_right) (defScope st_l_moved_right) .none kV_l_moved_right dc_l_moved_right pm_l_moved_right an_l_moved_right cd_l_moved_right ct_l_moved_right), sl_l_moved_right⟩)
    (c_l_moved_right : PySem.W.codeIn K cd_l_moved_right "_law_moved_right" = true)
    (k_l_moved_right : PySem.W.keepIn K (.ref f_l_moved_right) = true)
    (a_l_nexts_right : PySem.W.nsIn K mainGlobals "_law_nexts_right" = some (some (.ref f_l_nexts_right)))
    (l_l_nexts_right : K.lookup f_l_nexts_right = some ⟨oc_l_nexts_right, od_l_nexts_right, .func (PySem.W.fnOf "_law_nexts_right" "_law_nexts_right" (defArgs st_l_nexts_right) (defBody st_l_nexts_right) (defScope st_l_nexts_right) .none kV_l_nexts_right dc_l_nexts_right pm_l_nexts_right an_l_nexts_right cd_l_nexts_right ct_l_nexts_right), sl_l_nexts_right⟩)
    (c_l_nexts_right : PySem.W.codeIn K cd_l_nexts_right "_law_nexts_right" = true)
    (k_l_nexts_right : PySem.W.keepIn K (.ref f_l_nexts_right) = true)
    (a_l_unlike_right : PySem.W.nsIn K mainGlobals "_law_unlike_right" = some (some (.ref f_l_unlike_right)))
    (l_l_unlike_right : K.lookup f_l_unlike_right = some ⟨oc_l_unlike_right, od_l_unlike_right, .func (PySem.W.fnOf "_law_unlike_right" "_law_unlike_right" (defArgs st_l_unlike_right) (defBody st_l_unlike_right) (defScope st_l_unlike_right) .none kV_l_unlike_right dc_l_unlike_right pm_l_unlike_right an_l_unlike_right cd_l_unlike_right ct_l_unlike_right), sl_l_unlike_right⟩)
    (c_l_unlike_right : PySem.W.codeIn K cd_l_unlike_right "_law_unlike_right" = true)
    (k_l_unlike_right : PySem.W.keepIn K (.ref f_l_unlike_right) = true)
    (a_l_right : PySem.W.nsIn K mainGlobals "_law_right" = some (some (.ref f_l_right)))
    (l_l_right : K.lookup f_l_right = some ⟨oc_l_right, od_l_right, .func (PySem.W.fnOf "_law_right" "_law_right" (defArgs st_l_right) (defBody st_l_right) (defScope st_l_right) .none kV_l_right dc_l_right pm_l_right an_l_right cd_l_right ct_l_right), sl_l_right⟩)
    (c_l_right : PySem.W.codeIn K cd_l_right "_law_right" = true)
    (k_l_right : PySem.W.keepIn K (.ref f_l_right) = true)
    (a_law : PySem.W.nsIn K mainGlobals "law" = some (some (.ref f_law)))
    (l_law : K.lookup f_law = some ⟨oc_law, od_law, .func (PySem.W.fnOf "law" "law" (defArgs st_law) (defBody st_law) (defScope st_law) .none kV_law dc_law pm_law an_law cd_law ct_law), sl_law⟩)
    (c_law : PySem.W.codeIn K cd_law "law" = true)
    (k_law : PySem.W.keepIn K (.ref f_law) = true) :
    UL.LawAtG l w K 8 63 "_law_script" mg fa h := by
  have e := hfa.symm.trans (PySem.W.mg_of X G a_law)
  cases e
  obtain ⟨fd, hb, hF⟩ := core (ad := ⟨zz_c_CallError, zz_c_InvalidNumber, zz_c_InvalidPlace, c_Place, c_Register, c_Slots, c_Next, a_GROUPS, a_ALIGNMENTS⟩) X G cn ctk g_Place pgPlace hdPlace poPlace saPlace caPlace cmPlace icPlace tyPlace mkPlace kcPlace suPlace_NoneType suPlace_tuple suPlace_str suPlace_int suPlace_list suPlace_bool suPlace_dict clPlace mrPlace cadPlace crdPlace oad ord_ g_Register pgRegister hdRegister poRegister saRegister caRegister cmRegister icRegister tyRegister mkRegister kcRegister suRegister_NoneType suRegister_tuple suRegister_str suRegister_int suRegister_list suRegister_bool suRegister_dict neRegister nRegister_group nRegister_number nRegister_code g_Slots pgSlots hdSlots poSlots saSlots caSlots cmSlots icSlots tySlots mkSlots kcSlots suSlots_NoneType suSlots_tuple suSlots_str suSlots_int suSlots_list suSlots_bool suSlots_dict sxSlots_str sxSlots_int sxSlots_bool neSlots nSlots_offset nSlots_many sfSlots sta str_ nrSlots g_Next pgNext hdNext poNext saNext caNext cmNext icNext tyNext mkNext kcNext suNext_NoneType suNext_tuple suNext_str suNext_int suNext_list suNext_bool suNext_dict neNext nNext_align nNext_many ga_GROUPS o_GROUPS v_GROUPS ga_LAST_NUMBER v_LAST_NUMBER ga_GROUP_STRIDE v_GROUP_STRIDE ga_REGISTER_BITS v_REGISTER_BITS ga_ALIGNMENTS o_ALIGNMENTS v_ALIGNMENTS ga_MOST_BYTES v_MOST_BYTES b_ValueError b_abs b_all b_bool b_divmod b_enumerate b_int b_isinstance b_len b_list b_max b_min b_property b_range b_repr b_str in0Place clSlots mrSlots raddSlots ia_add ib_add iiaddSlots iiaddPlace io_add rsubSlots ia_sub ib_sub iisubSlots iisubPlace io_sub sb_Register_Place nq_Register_Place sb_Slots_Place nq_Slots_Place sb_Next_Place nq_Next_Place sb_Register_Slots nq_Register_Slots sb_Register_Next nq_Register_Next sb_Slots_Register nq_Slots_Register sb_Slots_Next nq_Slots_Next sb_Next_Register nq_Next_Register sb_Next_Slots nq_Next_Slots sxRegister_NoneType sxRegister_tuple sxRegister_str sxRegister_int sxRegister_list sxSlots_NoneType sxSlots_tuple sxSlots_list sxNext_NoneType sxNext_tuple sxNext_str sxNext_int sxNext_list a_is_integer l_is_integer c_is_integer k_is_integer a_is_count l_is_count c_is_count k_is_count a_is_between l_is_between c_is_between k_is_between a_is_one_of l_is_one_of c_is_one_of k_is_one_of a_is_word_of l_is_word_of c_is_word_of k_is_word_of a_Register_init i_Register_init l_Register_init c_Register_init k_Register_init a_Slots_init i_Slots_init l_Slots_init c_Slots_init k_Slots_init a_Next_init i_Next_init l_Next_init c_Next_init k_Next_init a_Place_bits g_Place_bits t_Place_bits r_Place_bits l_Place_bits c_Place_bits k_Place_bits a_Register_group g_Register_group t_Register_group r_Register_group l_Register_group c_Register_group k_Register_group a_Register_number g_Register_number t_Register_number r_Register_number l_Register_number c_Register_number k_Register_number a_Register_bits g_Register_bits t_Register_bits r_Register_bits l_Register_bits c_Register_bits k_Register_bits a_Slots_offset g_Slots_offset t_Slots_offset r_Slots_offset l_Slots_offset c_Slots_offset k_Slots_offset a_Slots_many g_Slots_many t_Slots_many r_Slots_many l_Slots_many c_Slots_many k_Slots_many a_Slots_end g_Slots_end t_Slots_end r_Slots_end l_Slots_end c_Slots_end k_Slots_end a_Slots_bits g_Slots_bits t_Slots_bits r_Slots_bits l_Slots_bits c_Slots_bits k_Slots_bits a_Next_align g_Next_align t_Next_align r_Next_align l_Next_align c_Next_align k_Next_align a_Next_many g_Next_many t_Next_many r_Next_many l_Next_many c_Next_many k_Next_many a_Next_bits g_Next_bits t_Next_bits r_Next_bits l_Next_bits c_Next_bits k_Next_bits a_Register_eq i_Register_eq l_Register_eq c_Register_eq k_Register_eq a_Slots_eq i_Slots_eq l_Slots_eq c_Slots_eq k_Slots_eq a_Next_eq i_Next_eq l_Next_eq c_Next_eq k_Next_eq a_Slots_contains i_Slots_contains l_Slots_contains c_Slots_contains k_Slots_contains a_Slots_meets i_Slots_meets l_Slots_meets c_Slots_meets k_Slots_meets a_Slots_add i_Slots_add l_Slots_add c_Slots_add k_Slots_add a_Slots_sub i_Slots_sub l_Slots_sub c_Slots_sub k_Slots_sub a_next_multiple l_next_multiple c_next_multiple k_next_multiple a_Next_from_offset i_Next_from_offset l_Next_from_offset c_Next_from_offset k_Next_from_offset a_Slots_repr i_Slots_repr l_Slots_repr c_Slots_repr k_Slots_repr a_Next_repr i_Next_repr l_Next_repr c_Next_repr k_Next_repr a_Register_repr i_Register_repr l_Register_repr c_Register_repr k_Register_repr a_l_draw l_l_draw c_l_draw k_l_draw a_l_pick l_l_pick c_l_pick k_l_pick a_l_pot l_l_pot c_l_pot k_l_pot a_l_bytes l_l_bytes c_l_bytes k_l_bytes a_l_registers_right l_l_registers_right c_l_registers_right k_l_registers_right a_l_slots_right l_l_slots_right c_l_slots_right k_l_slots_right a_l_moved_right l_l_moved_right c_l_moved_right k_l_moved_right a_l_nexts_right l_l_nexts_right c_l_nexts_right k_l_nexts_right a_l_unlike_right l_l_unlike_right c_l_unlike_right k_l_unlike_right a_l_right l_l_right c_l_right k_l_right l_law c_law k_law
  exact ⟨fd, [], _, fun p hp => (by cases hp), fun p hp => (by cases hp), fun p hp => (by cases hp), hb, fun H a ns hl _ hS => ⟨a, ns, rfl, hS, hl, fun _ => rfl⟩, fun base Kb Gb _ => hF base Kb Gb⟩
end K11
set_option Elab.async false
set_option linter.all false
open PySem PySem.W PyProof.Rows L2
set_option maxRecDepth 100000 in
set_option maxHeartbeats 0 in
theorem PySem.Challenge.cw_unlikecalls_k11_whole_places_by_bytes_holds : PySem.Challenge.rw_unlikecalls_k11_whole_places_by_bytes.Holds := by
  w_on; o_law; k_head; (case hw => w_witness2)
  k_fill
  refine UL.walkGS (l := PySem.Challenge.rw_unlikecalls_k11_whole_places_by_bytes) (n := 63) (k := 8) (x := "_law_script") rfl (by decide) rfl ⟨rfl, by decide, by decide⟩ (fun w h Y => PySem.W.kIn_of Y) ?F
  case F =>
    intro w mg fa h Y KX G hmg
    refine' K11.all_mk (zz_c_CallError := 0) (zz_c_InvalidNumber := 0) (zz_c_InvalidPlace := 0) KX G hmg ?cn ?ctk ?g_Place ?pgPlace ?hdPlace ?poPlace ?saPlace ?caPlace ?cmPlace ?icPlace ?tyPlace ?mkPlace ?kcPlace ?suPlace_NoneType ?suPlace_tuple ?suPlace_str ?suPlace_int ?suPlace_list ?suPlace_bool ?suPlace_dict ?clPlace ?mrPlace ?cadPlace ?crdPlace ?oad ?ord_ ?g_Register ?pgRegister ?hdRegister ?poRegister ?saRegister ?caRegister ?cmRegister ?icRegister ?tyRegister ?mkRegister ?kcRegister ?suRegister_NoneType ?suRegister_tuple ?suRegister_str ?suRegister_int ?suRegister_list ?suRegister_bool ?suRegister_dict ?neRegister ?nRegister_group ?nRegister_number ?nRegister_code ?g_Slots ?pgSlots ?hdSlots ?poSlots ?saSlots ?caSlots ?cmSlots ?icSlots ?tySlots ?mkSlots ?kcSlots ?suSlots_NoneType ?suSlots_tuple ?suSlots_str ?suSlots_int ?suSlots_list ?suSlots_bool ?suSlots_dict ?sxSlots_str ?sxSlots_int ?sxSlots_bool ?neSlots ?nSlots_offset ?nSlots_many ?sfSlots ?sta ?str_ ?nrSlots ?g_Next ?pgNext ?hdNext ?poNext ?saNext ?caNext ?cmNext ?icNext ?tyNext ?mkNext ?kcNext ?suNext_NoneType ?suNext_tuple ?suNext_str ?suNext_int ?suNext_list ?suNext_bool ?suNext_dict ?neNext ?nNext_align ?nNext_many ?ga_GROUPS ?o_GROUPS ?v_GROUPS ?ga_LAST_NUMBER ?v_LAST_NUMBER ?ga_GROUP_STRIDE ?v_GROUP_STRIDE ?ga_REGISTER_BITS ?v_REGISTER_BITS ?ga_ALIGNMENTS ?o_ALIGNMENTS ?v_ALIGNMENTS ?ga_MOST_BYTES ?v_MOST_BYTES ?b_ValueError ?b_abs ?b_all ?b_bool ?b_divmod ?b_enumerate ?b_int ?b_isinstance ?b_len ?b_list ?b_max ?b_min ?b_property ?b_range ?b_repr ?b_str ?in0Place ?clSlots ?mrSlots ?raddSlots ?ia_add ?ib_add ?iiaddSlots ?iiaddPlace ?io_add ?rsubSlots ?ia_sub ?ib_sub ?iisubSlots ?iisubPlace ?io_sub ?sb_Register_Place ?nq_Register_Place ?sb_Slots_Place ?nq_Slots_Place ?sb_Next_Place ?nq_Next_Place ?sb_Register_Slots ?nq_Register_Slots ?sb_Register_Next ?nq_Register_Next ?sb_Slots_Register ?nq_Slots_Register ?sb_Slots_Next ?nq_Slots_Next ?sb_Next_Register ?nq_Next_Register ?sb_Next_Slots ?nq_Next_Slots ?sxRegister_NoneType ?sxRegister_tuple ?sxRegister_str ?sxRegister_int ?sxRegister_list ?sxSlots_NoneType ?sxSlots_tuple ?sxSlots_list ?sxNext_NoneType ?sxNext_tuple ?sxNext_str ?sxNext_int ?sxNext_list ?a_is_integer ?l_is_integer ?c_is_integer ?k_is_integer ?a_is_count ?l_is_count ?c_is_count ?k_is_count ?a_is_between ?l_is_between ?c_is_between ?k_is_between ?a_is_one_of ?l_is_one_of ?c_is_one_of ?k_is_one_of ?a_is_word_of ?l_is_word_of ?c_is_word_of ?k_is_word_of ?a_Register_init ?i_Register_init ?l_Register_init ?c_Register_init ?k_Register_init ?a_Slots_init ?i_Slots_init ?l_Slots_init ?c_Slots_init ?k_Slots_init ?a_Next_init ?i_Next_init ?l_Next_init ?c_Next_init ?k_Next_init ?a_Place_bits ?g_Place_bits ?t_Place_bits ?r_Place_bits ?l_Place_bits ?c_Place_bits ?k_Place_bits ?a_Register_group ?g_Register_group ?t_Register_group ?r_Register_group ?l_Register_group ?c_Register_group ?k_Register_group ?a_Register_number ?g_Register_number ?t_Register_number ?r_Register_number ?l_Register_number ?c_Register_number ?k_Register_number ?a_Register_bits ?g_Register_bits ?t_Register_bits ?r_Register_bits ?l_Register_bits ?c_Register_bits ?k_Register_bits ?a_Slots_offset ?g_Slots_offset ?t_Slots_offset ?r_Slots_offset ?l_Slots_offset ?c_Slots_offset ?k_Slots_offset ?a_Slots_many ?g_Slots_many ?t_Slots_many ?r_Slots_many ?l_Slots_many ?c_Slots_many ?k_Slots_many ?a_Slots_end ?g_Slots_end ?t_Slots_end ?r_Slots_end ?l_Slots_end ?c_Slots_end ?k_Slots_end ?a_Slots_bits ?g_Slots_bits ?t_Slots_bits ?r_Slots_bits ?l_Slots_bits ?c_Slots_bits ?k_Slots_bits ?a_Next_align ?g_Next_align ?t_Next_align ?r_Next_align ?l_Next_align ?c_Next_align ?k_Next_align ?a_Next_many ?g_Next_many ?t_Next_many ?r_Next_many ?l_Next_many ?c_Next_many ?k_Next_many ?a_Next_bits ?g_Next_bits ?t_Next_bits ?r_Next_bits ?l_Next_bits ?c_Next_bits ?k_Next_bits ?a_Register_eq ?i_Register_eq ?l_Register_eq ?c_Register_eq ?k_Register_eq ?a_Slots_eq ?i_Slots_eq ?l_Slots_eq ?c_Slots_eq ?k_Slots_eq ?a_Next_eq ?i_Next_eq ?l_Next_eq ?c_Next_eq ?k_Next_eq ?a_Slots_contains ?i_Slots_contains ?l_Slots_contains ?c_Slots_contains ?k_Slots_contains ?a_Slots_meets ?i_Slots_meets ?l_Slots_meets ?c_Slots_meets ?k_Slots_meets ?a_Slots_add ?i_Slots_add ?l_Slots_add ?c_Slots_add ?k_Slots_add ?a_Slots_sub ?i_Slots_sub ?l_Slots_sub ?c_Slots_sub ?k_Slots_sub ?a_next_multiple ?l_next_multiple ?c_next_multiple ?k_next_multiple ?a_Next_from_offset ?i_Next_from_offset ?l_Next_from_offset ?c_Next_from_offset ?k_Next_from_offset ?a_Slots_repr ?i_Slots_repr ?l_Slots_repr ?c_Slots_repr ?k_Slots_repr ?a_Next_repr ?i_Next_repr ?l_Next_repr ?c_Next_repr ?k_Next_repr ?a_Register_repr ?i_Register_repr ?l_Register_repr ?c_Register_repr ?k_Register_repr ?a_l_draw ?l_l_draw ?c_l_draw ?k_l_draw ?a_l_pick ?l_l_pick ?c_l_pick ?k_l_pick ?a_l_pot ?l_l_pot ?c_l_pot ?k_l_pot ?a_l_bytes ?l_l_bytes ?c_l_bytes ?k_l_bytes ?a_l_registers_right ?l_l_registers_right ?c_l_registers_right ?k_l_registers_right ?a_l_slots_right ?l_l_slots_right ?c_l_slots_right ?k_l_slots_right ?a_l_moved_right ?l_l_moved_right ?c_l_moved_right ?k_l_moved_right ?a_l_nexts_right ?l_l_nexts_right ?c_l_nexts_right ?k_l_nexts_right ?a_l_unlike_right ?l_l_unlike_right ?c_l_unlike_right ?k_l_unlike_right ?a_l_right ?l_l_right ?c_l_right ?k_l_right ?a_law ?l_law ?c_law ?k_law
    (case cn => k_is)
    (case ctk => k_is)
    (case g_Place => k_is)
    (case pgPlace => k_is)
    (case hdPlace => k_is)
    (case poPlace => k_is)
    (case saPlace => k_is)
    (case caPlace => k_is)
    (case cmPlace => k_is)
    (case icPlace => k_is)
    (case tyPlace => k_is)
    (case mkPlace => k_is)
    (case kcPlace => k_is)
    (case suPlace_NoneType => k_is)
    (case suPlace_tuple => k_is)
    (case suPlace_str => k_is)
    (case suPlace_int => k_is)
    (case suPlace_list => k_is)
    (case suPlace_bool => k_is)
    (case suPlace_dict => k_is)
    (case clPlace => k_is)
    (case mrPlace => rfl)
    (case cadPlace => k_is)
    (case crdPlace => k_is)
    (case oad => k_is)
    (case ord_ => k_is)
    (case g_Register => k_is)
    (case pgRegister => k_is)
    (case hdRegister => k_is)
    (case poRegister => k_is)
    (case saRegister => k_is)
    (case caRegister => k_is)
    (case cmRegister => k_is)
    (case icRegister => k_is)
    (case tyRegister => k_is)
    (case mkRegister => k_is)
    (case kcRegister => k_is)
    (case suRegister_NoneType => k_is)
    (case suRegister_tuple => k_is)
    (case suRegister_str => k_is)
    (case suRegister_int => k_is)
    (case suRegister_list => k_is)
    (case suRegister_bool => k_is)
    (case suRegister_dict => k_is)
    (case neRegister => k_is)
    (case nRegister_group => k_is)
    (case nRegister_number => k_is)
    (case nRegister_code => k_is)
    (case g_Slots => k_is)
    (case pgSlots => k_is)
    (case hdSlots => k_is)
    (case poSlots => k_is)
    (case saSlots => k_is)
    (case caSlots => k_is)
    (case cmSlots => k_is)
    (case icSlots => k_is)
    (case tySlots => k_is)
    (case mkSlots => k_is)
    (case kcSlots => k_is)
    (case suSlots_NoneType => k_is)
    (case suSlots_tuple => k_is)
    (case suSlots_str => k_is)
    (case suSlots_int => k_is)
    (case suSlots_list => k_is)
    (case suSlots_bool => k_is)
    (case suSlots_dict => k_is)
    (case sxSlots_str => k_is)
    (case sxSlots_int => k_is)
    (case sxSlots_bool => k_is)
    (case neSlots => k_is)
    (case nSlots_offset => k_is)
    (case nSlots_many => k_is)
    (case sfSlots => k_is)
    (case sta => k_is)
    (case str_ => k_is)
    (case nrSlots => k_is)
    (case g_Next => k_is)
    (case pgNext => k_is)
    (case hdNext => k_is)
    (case poNext => k_is)
    (case saNext => k_is)
    (case caNext => k_is)
    (case cmNext => k_is)
    (case icNext => k_is)
    (case tyNext => k_is)
    (case mkNext => k_is)
    (case kcNext => k_is)
    (case suNext_NoneType => k_is)
    (case suNext_tuple => k_is)
    (case suNext_str => k_is)
    (case suNext_int => k_is)
    (case suNext_list => k_is)
    (case suNext_bool => k_is)
    (case suNext_dict => k_is)
    (case neNext => k_is)
    (case nNext_align => k_is)
    (case nNext_many => k_is)
    (case ga_GROUPS => k_is)
    (case o_GROUPS => k_is)
    (case v_GROUPS => exact .cons ⟨_, rfl⟩ (.cons ⟨_, rfl⟩ .nil))
    (case ga_LAST_NUMBER => k_is)
    (case v_LAST_NUMBER => exact ⟨_, rfl⟩)
    (case ga_GROUP_STRIDE => k_is)
    (case v_GROUP_STRIDE => exact ⟨_, rfl⟩)
    (case ga_REGISTER_BITS => k_is)
    (case v_REGISTER_BITS => exact ⟨_, rfl⟩)
    (case ga_ALIGNMENTS => k_is)
    (case o_ALIGNMENTS => k_is)
    (case v_ALIGNMENTS => exact .cons ⟨_, rfl⟩ (.cons ⟨_, rfl⟩ (.cons ⟨_, rfl⟩ (.cons ⟨_, rfl⟩ (.cons ⟨_, rfl⟩ .nil)))))
    (case ga_MOST_BYTES => k_is)
    (case v_MOST_BYTES => exact ⟨_, rfl⟩)
    (case b_ValueError => k_is)
    (case b_abs => k_is)
    (case b_all => k_is)
    (case b_bool => k_is)
    (case b_divmod => k_is)
    (case b_enumerate => k_is)
    (case b_int => k_is)
    (case b_isinstance => k_is)
    (case b_len => k_is)
    (case b_list => k_is)
    (case b_max => k_is)
    (case b_min => k_is)
    (case b_property => k_is)
    (case b_range => k_is)
    (case b_repr => k_is)
    (case b_str => k_is)
    (case in0Place => k_is)
    (case clSlots => k_is)
    (case mrSlots => rfl)
    (case raddSlots => k_is)
    (case ia_add => k_is)
    (case ib_add => k_is)
    (case iiaddSlots => k_is)
    (case iiaddPlace => k_is)
    (case io_add => k_is)
    (case rsubSlots => k_is)
    (case ia_sub => k_is)
    (case ib_sub => k_is)
    (case iisubSlots => k_is)
    (case iisubPlace => k_is)
    (case io_sub => k_is)
    (case sb_Register_Place => k_is)
    (case nq_Register_Place => decide +kernel)
    (case sb_Slots_Place => k_is)
    (case nq_Slots_Place => decide +kernel)
    (case sb_Next_Place => k_is)
    (case nq_Next_Place => decide +kernel)
    (case sb_Register_Slots => k_is)
    (case nq_Register_Slots => decide +kernel)
    (case sb_Register_Next => k_is)
    (case nq_Register_Next => decide +kernel)
    (case sb_Slots_Register => k_is)
    (case nq_Slots_Register => decide +kernel)
    (case sb_Slots_Next => k_is)
    (case nq_Slots_Next => decide +kernel)
    (case sb_Next_Register => k_is)
    (case nq_Next_Register => decide +kernel)
    (case sb_Next_Slots => k_is)
    (case nq_Next_Slots => decide +kernel)
    (case sxRegister_NoneType => k_is)
    (case sxRegister_tuple => k_is)
    (case sxRegister_str => k_is)
    (case sxRegister_int => k_is)
    (case sxRegister_list => k_is)
    (case sxSlots_NoneType => k_is)
    (case sxSlots_tuple => k_is)
    (case sxSlots_list => k_is)
    (case sxNext_NoneType => k_is)
    (case sxNext_tuple => k_is)
    (case sxNext_str => k_is)
    (case sxNext_int => k_is)
    (case sxNext_list => k_is)
    (case a_is_integer => k_is)
    (case l_is_integer => k_is)
    (case c_is_integer => k_is)
    (case k_is_integer => k_is)
    (case a_is_count => k_is)
    (case l_is_count => k_is)
    (case c_is_count => k_is)
    (case k_is_count => k_is)
    (case a_is_between => k_is)
    (case l_is_between => k_is)
    (case c_is_between => k_is)
    (case k_is_between => k_is)
    (case a_is_one_of => k_is)
    (case l_is_one_of => k_is)
    (case c_is_one_of => k_is)
    (case k_is_one_of => k_is)
    (case a_is_word_of => k_is)
    (case l_is_word_of => k_is)
    (case c_is_word_of => k_is)
    (case k_is_word_of => k_is)
    (case a_Register_init => k_is)
    (case i_Register_init => k_is)
    (case l_Register_init => k_is)
    (case c_Register_init => k_is)
    (case k_Register_init => k_is)
    (case a_Slots_init => k_is)
    (case i_Slots_init => k_is)
    (case l_Slots_init => k_is)
    (case c_Slots_init => k_is)
    (case k_Slots_init => k_is)
    (case a_Next_init => k_is)
    (case i_Next_init => k_is)
    (case l_Next_init => k_is)
    (case c_Next_init => k_is)
    (case k_Next_init => k_is)
    (case a_Place_bits => k_is)
    (case g_Place_bits => k_is)
    (case t_Place_bits => k_is)
    (case r_Place_bits => k_is)
    (case l_Place_bits => k_is)
    (case c_Place_bits => k_is)
    (case k_Place_bits => k_is)
    (case a_Register_group => k_is)
    (case g_Register_group => k_is)
    (case t_Register_group => k_is)
    (case r_Register_group => k_is)
    (case l_Register_group => k_is)
    (case c_Register_group => k_is)
    (case k_Register_group => k_is)
    (case a_Register_number => k_is)
    (case g_Register_number => k_is)
    (case t_Register_number => k_is)
    (case r_Register_number => k_is)
    (case l_Register_number => k_is)
    (case c_Register_number => k_is)
    (case k_Register_number => k_is)
    (case a_Register_bits => k_is)
    (case g_Register_bits => k_is)
    (case t_Register_bits => k_is)
    (case r_Register_bits => k_is)
    (case l_Register_bits => k_is)
    (case c_Register_bits => k_is)
    (case k_Register_bits => k_is)
    (case a_Slots_offset => k_is)
    (case g_Slots_offset => k_is)
    (case t_Slots_offset => k_is)
    (case r_Slots_offset => k_is)
    (case l_Slots_offset => k_is)
    (case c_Slots_offset => k_is)
    (case k_Slots_offset => k_is)
    (case a_Slots_many => k_is)
    (case g_Slots_many => k_is)
    (case t_Slots_many => k_is)
    (case r_Slots_many => k_is)
    (case l_Slots_many => k_is)
    (case c_Slots_many => k_is)
    (case k_Slots_many => k_is)
    (case a_Slots_end => k_is)
    (case g_Slots_end => k_is)
    (case t_Slots_end => k_is)
    (case r_Slots_end => k_is)
    (case l_Slots_end => k_is)
    (case c_Slots_end => k_is)
    (case k_Slots_end => k_is)
    (case a_Slots_bits => k_is)
    (case g_Slots_bits => k_is)
    (case t_Slots_bits => k_is)
    (case r_Slots_bits => k_is)
    (case l_Slots_bits => k_is)
    (case c_Slots_bits => k_is)
    (case k_Slots_bits => k_is)
    (case a_Next_align => k_is)
    (case g_Next_align => k_is)
    (case t_Next_align => k_is)
    (case r_Next_align => k_is)
    (case l_Next_align => k_is)
    (case c_Next_align => k_is)
    (case k_Next_align => k_is)
    (case a_Next_many => k_is)
    (case g_Next_many => k_is)
    (case t_Next_many => k_is)
    (case r_Next_many => k_is)
    (case l_Next_many => k_is)
    (case c_Next_many => k_is)
    (case k_Next_many => k_is)
    (case a_Next_bits => k_is)
    (case g_Next_bits => k_is)
    (case t_Next_bits => k_is)
    (case r_Next_bits => k_is)
    (case l_Next_bits => k_is)
    (case c_Next_bits => k_is)
    (case k_Next_bits => k_is)
    (case a_Register_eq => k_is)
    (case i_Register_eq => k_is)
    (case l_Register_eq => k_is)
    (case c_Register_eq => k_is)
    (case k_Register_eq => k_is)
    (case a_Slots_eq => k_is)
    (case i_Slots_eq => k_is)
    (case l_Slots_eq => k_is)
    (case c_Slots_eq => k_is)
    (case k_Slots_eq => k_is)
    (case a_Next_eq => k_is)
    (case i_Next_eq => k_is)
    (case l_Next_eq => k_is)
    (case c_Next_eq => k_is)
    (case k_Next_eq => k_is)
    (case a_Slots_contains => k_is)
    (case i_Slots_contains => k_is)
    (case l_Slots_contains => k_is)
    (case c_Slots_contains => k_is)
    (case k_Slots_contains => k_is)
    (case a_Slots_meets => k_is)
    (case i_Slots_meets => k_is)
    (case l_Slots_meets => k_is)
    (case c_Slots_meets => k_is)
    (case k_Slots_meets => k_is)
    (case a_Slots_add => k_is)
    (case i_Slots_add => k_is)
    (case l_Slots_add => k_is)
    (case c_Slots_add => k_is)
    (case k_Slots_add => k_is)
    (case a_Slots_sub => k_is)
    (case i_Slots_sub => k_is)
    (case l_Slots_sub => k_is)
    (case c_Slots_sub => k_is)
    (case k_Slots_sub => k_is)
    (case a_next_multiple => k_is)
    (case l_next_multiple => k_is)
    (case c_next_multiple => k_is)
    (case k_next_multiple => k_is)
    (case a_Next_from_offset => k_is)
    (case i_Next_from_offset => k_is)
    (case l_Next_from_offset => k_is)
    (case c_Next_from_offset => k_is)
    (case k_Next_from_offset => k_is)
    (case a_Slots_repr => k_is)
    (case i_Slots_repr => k_is)
    (case l_Slots_repr => k_is)
    (case c_Slots_repr => k_is)
    (case k_Slots_repr => k_is)
    (case a_Next_repr => k_is)
    (case i_Next_repr => k_is)
    (case l_Next_repr => k_is)
    (case c_Next_repr => k_is)
    (case k_Next_repr => k_is)
    (case a_Register_repr => k_is)
    (case i_Register_repr => k_is)
    (case l_Register_repr => k_is)
    (case c_Register_repr => k_is)
    (case k_Register_repr => k_is)
    (case a_l_draw => k_is)
    (case l_l_draw => k_is)
    (case c_l_draw => k_is)
    (case k_l_draw => k_is)
    (case a_l_pick => k_is)
    (case l_l_pick => k_is)
    (case c_l_pick => k_is)
    (case k_l_pick => k_is)
    (case a_l_pot => k_is)
    (case l_l_pot => k_is)
    (case c_l_pot => k_is)
    (case k_l_pot => k_is)
    (case a_l_bytes => k_is)
    (case l_l_bytes => k_is)
    (case c_l_bytes => k_is)
    (case k_l_bytes => k_is)
    (case a_l_registers_right => k_is)
    (case l_l_registers_right => k_is)
    (case c_l_registers_right => k_is)
    (case k_l_registers_right => k_is)
    (case a_l_slots_right => k_is)
    (case l_l_slots_right => k_is)
    (case c_l_slots_right => k_is)
    (case k_l_slots_right => k_is)
    (case a_l_moved_right => k_is)
    (case l_l_moved_right => k_is)
    (case c_l_moved_right => k_is)
    (case k_l_moved_right => k_is)
    (case a_l_nexts_right => k_is)
    (case l_l_nexts_right => k_is)
    (case c_l_nexts_right => k_is)
    (case k_l_nexts_right => k_is)
    (case a_l_unlike_right => k_is)
    (case l_l_unlike_right => k_is)
    (case c_l_unlike_right => k_is)
    (case k_l_unlike_right => k_is)
    (case a_l_right => k_is)
    (case l_l_right => k_is)
    (case c_l_right => k_is)
    (case k_l_right => k_is)
    (case a_law => k_is)
    (case l_law => k_is)
    (case c_law => k_is)
    (case k_law => k_is)
#print axioms PySem.Challenge.cw_unlikecalls_k11_whole_places_by_bytes_holds
