import PyProof.Rows.All
import Wide.All
import OpenK.AllK
import Wide.FinOn
import KE.KStateDown
import Lean
import HandS.ForMost
import HandS.WordsExc
import HandS.Defaults
import HandS.Head0
import HandS.Head1
import HandS.Head2
import HandS.HeadEnd
import HandS.HeadHook1
import HandS.HeadHook2
import HandS.ExcInit
import HandS.ExcValue
import HandS.IsInst
import KE.KExcInit
import KE.KExcIs
import PyProof.ReprLen
import PyProof.P3Eq
import HandS.TupAny
import KE.KRevSl
import HandS.Base
import HandS.Call
import HandS.List
import HandS.Style
import KE.GoesMore
import HandS.Walk
import HandS.TupSets
import HandS.Conv
import PyProof.Rows.TupDisplay
import PySem.Challenge.RW_savedback_k32_tries_walked
set_option Elab.async false
set_option linter.all false
set_option maxRecDepth 100000
set_option maxHeartbeats 4000000
namespace Sb
open PySem PySem.Spec PyProof.Rows L2

/-! ### defs that run while no repr runs -/
structure FnG (P : Program) (w : World) (K : PySem.W.Frag) (mg : Str → Option Value) (base : Heap) (CX : CXT) (k : Nat) (f : Addr) (fd : FuncData) (ps : List Str) (sp : Sp) : Prop where
  ln : ∀ vs H Q E, sp vs H Q E → vs.length = ps.length
  go : ∀ (A : Around) (outer : List Env) (s : Shared) (H : Hp) (args : Args) (us : List Value) (vs : List V) (Q : VK) (E : XK), A.guards = some [] → Room k A → Env0 P w K mg base A outer s H →
    BindsTo s fd args (ps.zip us) → Vals vs us → sp vs H Q E → codeAny (model P w) A (.call (.ref f) args) (CR CX outer P w H s Q E) s
theorem FnG.of {P : Program} {w : World} {K : PySem.W.Frag} {mg : Str → Option Value} {base : Heap} {CX : CXT} {k : Nat} {f : Addr} {fd : FuncData} {ps : List Str} {sp : Sp} (F : FnOk P w K mg base CX k f fd ps sp) : FnG P w K mg base CX k f fd ps sp :=
  ⟨F.len, fun A outer s H args us vs Q E _ => F.run A outer s H args us vs Q E⟩
section
variable {P : Program} {w : World} {K : PySem.W.Frag} {mg : Str → Option Value} {base : Heap}
/-- a def by its body, run while no repr runs -/
theorem okG {x qual : Str} {st : Stmt} {f : Addr} {fd : FuncData} {N ps : List Str} {k : Nat} {sp : Sp} (F : Fun K x qual st f fd) (S : FnScope N ps (defScope st)) (len : ∀ vs H Q E, sp vs H Q E → vs.length = ps.length)
    (hbody : ∀ (cdv : Value) (A : Around) (outer : List Env) (s : Shared) (H : Hp) (vs : List V) (Q : VK) (E : XK), (A.deeper (envOfC qual (defScope st) s.heap.objs.size f cdv)).guards = some [] →
      Room k (A.deeper (envOfC qual (defScope st) s.heap.objs.size f cdv)) → sp vs H Q E →
      ∃ t, PSs (cxOf CX0 P w K mg base N qual (defScope st) f cdv A outer s H E).nox (defBody st) t ∧ t { nx := fun _ H' => Q .non H', rt := Q } (start N vs) H) : FnG P w K mg base CX0 (k + 1) f fd ps sp := by
  obtain ⟨oc, od, kV, doc, pm, an, cdv, ct, osl, rfl, lk, hcd⟩ := F.ex
  refine ⟨len, fun A outer s H args us vs Q E hgd hr e0 hb r hsp => ?_⟩
  have hl := len _ _ _ _ hsp
  have KX : K.In s.heap := e0.mod.kin.keeps fun b o e => (e0.bs b o e).1
  have hkind : ∀ y ∈ ps.zip us, (defScope st).names.lookup y.1 = some .local ∨ ((defScope st).names.lookup y.1 = some .cell ∧ ((cellsFrom (s.heap.objs.size + 1) (defScope st).names []).lookup y.1).isSome = true) := by
    rintro ⟨n, v⟩ hy
    rcases S.par n (List.of_mem_zip hy).1 with q | q
    · exact .inl q
    · exact .inr ⟨q, PySem.W.cellsFrom_some _ _ _ (.inl q)⟩
  refine codeAny_call_function hr.depth (KX _ _ lk) rfl S.co S.gen rfl (PySem.W.codeRec_of KX hcd) (hb _ _ _ _ (wpAny_newFunctionEnv_cells S.kind hkind fun env he s1 x => ?_))
  subst he
  have lim : s.heap.NoLimit := e0.mod.nolimit.keeps fun b o e => (e0.bs b o e).1
  refine ⟨lim.keeps x.toInCall.keep, codeAny_func ?_⟩
  obtain ⟨t, ht0, hq⟩ := hbody cdv A outer s H vs Q E hgd (hr.deeper _) hsp
  have ht := ht0.nox
  have I := inv_start (CX := CX0) (K := K) (mg := mg) (base := base) (E := E) (f := f) (cd := cdv) (qual := qual) (outer := outer) S hr.hd e0 hl r x
  refine wpAny_mono (ht.run [] s1 (start N vs) H _ I hq) (fun fl s' hs => ?_) fun e s' hs => hs
  have fin : ∀ {σ' : L2.St} {H' : Hp} {v : V} {u : Value}, Inv (cxOf CX0 P w K mg base N qual (defScope st) f cdv A outer s H E) [] σ' H' s' → RelV v u → Q v H' → CE outer P w H s Q u s' := by
    intro σ' H' v u J rv q
    exact ⟨v, H', J.os, J.bare, J.base, J.hok, rv, q⟩
  rcases fl with _ | _ | _ | u
  all_goals first
    | (obtain ⟨v, σ', H', J, rv, q⟩ := hs; exact fin J rv q)
    | (obtain ⟨σ', H', J, q⟩ := hs; exact fin (v := V.non) (u := Value.none) J rfl q)
    | (obtain ⟨_, _, _, q⟩ := hs; exact False.elim q)
end
section
variable {X : Cx} {CX : CXT} {k : Nat} {f : Addr} {fd : FuncData} {ps : List Str} {sp : Sp} {dvs : List V} {ds : List Value} {E : XK} {x : Str} {p pos : Pos} {e : Expr} {es : List Expr} {t : TA}
/-- f(e, ..) of such a def -/
theorem pe_callG (hgd : X.A.guards = some []) (F : FnG X.prog X.w X.K X.mg X.base CX k f fd ps sp) (hr : Room k X.A) (hg : Gl X x) (hm : X.mg x = some (.ref f)) (hk : PySem.W.keepIn X.K (.ref f) = true) (hb : Binds X.K fd ps ds) (hd : Vals dvs ds) (hx : Passes CX X E)
    (ha : PA X (e :: es) t) (hdb : (x == ("__debug__" : Str)) = false := by decide) (he : starEach (e :: es) X.env = (false, eval e X.env) :: starEach es X.env := by rfl) (hpl : (backTo pos (starEach es X.env)).any (·.1) = false := by rfl) :
    PE X (.Call (.Name x p) (e :: es) [] pos) (tCall sp dvs E t) := by
  refine ⟨fun pins s σ H Q I h => wpAny_Call_Name_kw (ld_glob I hg hm ?_ hdb)⟩
  refine PySem.W.callWith_K (h₀ := X.base) I.ok.mod.kin hk (thn (ha.run pos pins s σ H _ I h) fun us s1 ⟨vs, H1, I1, r, q⟩ => ⟨I1.kIn, ?_⟩) he hpl
  have r2 : Vals (vs ++ dvs) (us ++ ds) := r.append hd
  have hl : (us ++ ds).length = ps.length := r2.length.symm.trans (F.ln _ _ _ _ q)
  refine wpAny_call (codeAny_mono (F.go X.A X.stack s1 H1 ⟨us, []⟩ (us ++ ds) (vs ++ dvs) Q E hgd hr I1.env0 (hb s1 us I1.kIn hl) r2 q) fun r s' hq => ?_)
  rcases r with e | (_ | _ | _ | u)
  all_goals first
    | exact hx pins σ H1 s1 e s' I1 hq
    | exact I1.after hq
    | exact False.elim hq
end
/-- the law's own call -/
theorem lawG {P : Program} {w : World} {K : PySem.W.Frag} {mg mb : Str → Option Value} {CX : CXT} {k : Nat} {fa a : Addr} {fd : FuncData} {x : Str} {sp : Sp} {s₁ : Shared} {vs : List Value} {ns : List Int}
    (KX : K.In s₁.heap) (hns : s₁.heap.Ns mainGlobals mg) (hb : s₁.heap.Ns builtinsNs mb) (hbb : ∀ x : Str, x ≠ "__name__" → mb x = bootBuiltins x) (hlim : s₁.heap.NoLimit) (hg : s₁.gens = #[])
    (ha : s₁.heap.get? a = some { cls := .type "list", data := .seq vs.toArray }) (hi : IntsAre vs ns) (hl : ns.length ≤ sizeLine) (hr : Room k callerA)
    (F : ∀ base : Heap, K.In base → base.Ns mainGlobals mg → FnG P w K mg base CX k fa fd [x] sp) (hbind : ∀ (s : Shared) (u : Value), BindsTo s fd ⟨[u], []⟩ [(x, u)])
    (hsp : ∀ H : Hp, Only H → SqL K H a (ns.map V.int) → sp [.ref a] H (fun v _ => v = .bl true) fun _ _ _ => False)
    (hCX : ∀ H e s', CX [] H s₁ (fun _ _ _ => False) e s' → False) :
    codeAny (model P w) callerA (.call (.ref fa) ⟨[.ref a], []⟩) (fun r s' => r = .ok (.ret (.bool true)) ∧ OldK s₁.heap s'.heap ∧ s'.os = s₁.os ∧ AllBare s'.gens) s₁ := by
  let sp' : Sp := fun vs H Q E => vs = [.ref a] ∧ sp vs H Q E
  have rv := vals_ints hi
  have lenV := hi.length
  have core : ∀ H : Hp, Only H → SqL K H a (ns.map V.int) → HOk P w H s₁.heap → (∀ b, H b ≠ none → b = a) → (H a ≠ none → K.lookup a = none) →
      codeAny (model P w) callerA (.call (.ref fa) ⟨[.ref a], []⟩) (fun r s' => r = .ok (.ret (.bool true)) ∧ OldK s₁.heap s'.heap ∧ s'.os = s₁.os ∧ AllBare s'.gens) s₁ := by
    intro H hO hS hok hA hK
    have inBase : ∀ {b : Addr} {o : Obj}, s₁.heap.get? b = some o → H b = none → (hidT s₁.heap H).get? b = some o := fun e n => hidT_get e n
    have noDict : ∀ {b : Addr} {o : Obj} {es : Array DictEntry} {ep : Nat}, s₁.heap.get? b = some o → o.data = .dict es ep → H b = none := by
      intro b o es ep e d
      cases q : H b with
      | none => rfl
      | some u =>
        obtain rfl : b = a := hA b (by rw [q]; simp)
        rw [ha] at e
        cases e
        have d' : Data.seq vs.toArray _ = Data.dict es ep := d
        cases d'
    have nsK : ∀ {b : Addr} {m : Str → Option Value}, s₁.heap.Ns b m → (hidT s₁.heap H).Ns b m := by
      rintro b m ⟨o, es, ep, e, d, r⟩
      exact ⟨o, es, ep, inBase e (noDict e d), d, r⟩
    have hKb : K.In (hidT s₁.heap H) := by
      intro b o e
      refine inBase (KX b o e) ?_
      cases q : H b with
      | none => rfl
      | some u =>
        obtain rfl : b = a := hA b (by rw [q]; simp)
        rw [hK (by rw [q]; simp)] at e
        cases e
    have hM : Mod K mg (hidT s₁.heap H) := ⟨hKb, nsK hns, ⟨mb, nsK hb, hbb⟩, by obtain ⟨mc, h1, h2⟩ := hlim; exact ⟨mc, nsK h1, h2⟩⟩
    have e0 : Env0 P w K mg (hidT s₁.heap H) callerA [] s₁ H := ⟨rfl, hM, fun b o e => of_hidT e, Nat.le_of_eq (hidT_size _ _), trivial, fun b hb => (by cases hb), hok, AllBare.of_eq hg⟩
    refine codeAny_mono ((F _ hKb (nsK hns)).go callerA [] s₁ H ⟨[.ref a], []⟩ [.ref a] [.ref a] _ _ rfl hr e0 (hbind s₁ (.ref a)) (.cons rfl .nil) (hsp H hO hS)) fun r s' h => ?_
    rcases r with e | (_ | _ | _ | u)
    case error => exact (hCX H e s' h).elim
    all_goals first
      | exact False.elim h
      | skip
    obtain ⟨v, H', os, bare, un, hok', r', q⟩ := h
    obtain rfl : v = .bl true := q
    obtain rfl : u = Value.bool true := r'
    refine ⟨rfl, OldK.of_keep fun b o e => ?_, os, bare⟩
    cases q : H b with
    | none => exact un.keep b o e q (by intro z; cases z) (by simp)
    | some u =>
      rcases hO b with z | ⟨ob, xs, z⟩
      · rw [q] at z
        cases z
      · obtain ⟨e1, _⟩ := hok b _ z
        obtain ⟨e2, _⟩ := hok' b _ (un.frzs b ob _ z)
        rw [e] at e1
        cases e1
        exact e2
  cases hk : K.lookup a with
  | some o =>
    have e := KX a o hk
    rw [ha] at e
    cases e
    refine core (fun _ => none) (fun _ => .inl rfl) (.inr ⟨_, vs.toArray, _, hk, rfl, rfl, rfl, by rw [List.size_toArray, lenV]; exact hl, by simpa using rv⟩) (fun b u z => ?_) (fun b z => absurd rfl z) fun z => absurd rfl z
    have z' : (none : Option HO) = some u := z
    cases z'
  | none =>
    refine core (fun b => if b = a then some (.frz { cls := .type "list", data := .seq vs.toArray } (.lst (ns.map V.int))) else none) (fun b => ?_) (.inl (.inr ⟨{ cls := .type "list", data := .seq vs.toArray }, if_pos rfl⟩)) (fun b u z => ?_) (fun b z => ?_) fun _ => hk
    · by_cases hb : b = a
      · exact .inr ⟨_, _, if_pos hb⟩
      · exact .inl (if_neg hb)
    · by_cases hb : b = a
      · have z' := (if_pos hb).symm.trans z
        cases z'
        subst hb
        exact ⟨ha, by rw [List.length_map]; exact hl, vs, _, rv, ha⟩
      · have z' := (if_neg hb).symm.trans z
        cases z'
    · by_cases hb : b = a
      · exact hb
      · exact absurd (if_neg hb) z
theorem walkG {l : PySem.W.OpenLaw} {n k : Nat} {q : Program} {loose : List Str} {XP : (Str → Option Value) → Heap → Prop} {YP : World → Heap → Prop} {d : DefRec} {CX : CXT} {x : Str}
    (hn : l.most = some n) (hn2 : n ≤ sizeLine) (hdf : d.params.defaults = []) (hr : Room k callerA)
    (F : ∀ (w : World) (mg : Str → Option Value) (fa : Addr) (h : Heap), YP w h → h.Ns mainGlobals mg → mg d.name = some (.ref fa) →
      ∃ (K : PySem.W.Frag) (fd : FuncData) (sp : Sp), K.In h ∧ (∀ (s : Shared) (u : Value), BindsTo s fd ⟨[u], []⟩ [(x, u)]) ∧
        (∀ (H : Hp) (a : Addr) (ns : List Int), ns.length ≤ n → Only H → SqL K H a (ns.map V.int) → sp [.ref a] H (fun v _ => v = .bl true) fun _ _ _ => False) ∧
        ∀ base : Heap, K.In base → base.Ns mainGlobals mg → FnG l.prog w K mg base CX k fa fd [x] sp)
    (hCX : ∀ (H : Hp) (s : Shared) (e : Value) (s' : Shared), CX [] H s (fun _ _ _ => False) e s' → False) :
    PySem.W.WalkO q loose XP YP l.row.toRowW d [] (fun f vs => PySem.call f vs) := by
  refine Att.attach_call hn hdf fun w s₀ s₁ mg mb fa o pm cd doc a vs ns G Y ho hd hcd hmg hobj hints hlen hg => ?_
  obtain ⟨K, fd, sp, KX, hb, hsp, hF⟩ := F w mg fa _ Y G.T.g hmg
  exact lawG KX G.T.g G.T.b G.T.builtins G.T.nolimit hg hobj hints (Nat.le_trans hlen hn2) hr hF hb (fun H hO hS => hsp H a ns hlen hO hS) fun H e s' => hCX H s₁ e s'

/-! ### repr of data -/
def rRepr (K : PySem.W.Frag) : List V → Hp → VK → Prop := fun xs H Q => ∃ (a : Addr) (d : PyData), xs = [.ref a] ∧ Dp K H (.ref a) d ∧ d.showable = true ∧ d.hasDict = false ∧ d.depth ≤ 60 ∧ d.shown.length ≤ sizeLine ∧ Q (.str d.shown) H
theorem call_repr {X : Cx} (hgd : X.A.guards = some []) (hu : X.A.units + 64 < cLine) : CallR X (.builtin "repr") (rRepr X.K) := by
  intro pins s σ H xs us Q I r h
  obtain ⟨a, d, rfl, hd, hs, hnd, hdp, hz, q⟩ := h
  cases r with
  | cons ra rn =>
    cases rn
    cases ra
    obtain ⟨as, hr⟩ := Dp.reads I d (.ref a) (.ref a) hd rfl
    refine repr_of_reads' hr hs (PyData.noDict_hsm hnd) hgd (by omega) (fun _ _ e => e) (fun h' u tk k => ?_) hz
    exact ⟨.str d.shown, H, I.kept k, ⟨u, rfl⟩, q⟩
/-- the list of m + 1 times the dict {x: i} -/
def rReprD : List V → Hp → VK → Prop := fun xs H Q => ∃ (a dd : Addr) (m : Nat) (x : Str) (i : Int), xs = [.ref a] ∧ H a = some (.lst (List.replicate (m + 1) (.ref dd))) ∧ H dd = some (.dK [(.inr x, .int i)]) ∧ i.natAbs.log2 < 1920 ∧ (reprText x).length ≤ 1000 ∧
  (listText (List.replicate (m + 1) (dictText [reprText x ++ ": " ++ toString i]))).length ≤ sizeLine ∧ Q (.str (listText (List.replicate (m + 1) (dictText [reprText x ++ ": " ++ toString i])))) H
theorem one_kv {k : Key} {i : Int} : ∀ {vs : List (Key × Value)}, KV [(k, V.int i)] vs → ∃ t, vs = [(k, Value.int i t)]
  | _, .cons (b := b) h hn => by
    cases hn
    obtain ⟨b1, b2⟩ := b
    obtain ⟨e1, t, e2⟩ := h
    dsimp only at e1 e2
    exact ⟨t, by rw [← e1, e2]⟩
theorem one_pr {P : Program} {w : World} {k : Key} {v : Value} : ∀ {el : List DictEntry}, Pairs (mixKind P w) el [(k, v)] → ∃ en, el = [en] ∧ keyIs k en.key = true ∧ en.val = v
  | _, .cons h1 h2 hn => by
    cases hn
    exact ⟨_, rfl, h1, h2⟩
theorem call_reprD {X : Cx} (hgd : X.A.guards = some []) (hu : X.A.units + 64 < cLine) : CallR X (.builtin "repr") rReprD := by
  intro pins s σ H xs us Q I r h
  obtain ⟨a, dd, m, x, i, rfl, ha, hd, hi, hx, hz, q⟩ := h
  cases r with
  | cons ra rn =>
    cases rn
    cases ra
    obtain ⟨_, its, n, rv, ho⟩ := I.hok a _ ha
    obtain ⟨_, hsys, vs, kv, o, es, ep, hod, hex, hdat, _, hp, _⟩ := I.hok dd _ hd
    have hne : a ≠ dd := ne_of ha hd (by intro z; cases z)
    obtain ⟨ti, rfl⟩ := one_kv kv
    obtain ⟨en, hel, hk, hv⟩ := one_pr hp
    obtain ⟨tk, hk⟩ := Value.isStrOf_shape (x := x) (v := en.key) hk
    have hrx : (reprText x).length ≤ sizeLine := Nat.le_trans hx (by rw [sizeLine_eq]; omega)
    have rk : ReprK X.prog X.w [] s.heap 0 en.key (reprText x) := by
      rw [hk]
      exact ReprK.of_is (ReprIs.str x tk hrx) _ _ _
    have rval : ReprK X.prog X.w [] s.heap 0 en.val (toString i) := by
      rw [hv]
      exact ReprK.of_is (ReprIs.int ti hi) _ _ _
    have rd : ReprK X.prog X.w [dd] s.heap 1 (.ref dd) (dictText [reprText x ++ ": " ++ toString i]) := by
      refine ReprK.dict hod hex.1 hdat hsys (by simp) ?_
      rw [hel]
      exact .cons rk rval .nil
    -- the items
    have hit : ∀ {ys : List V} {us : List Value}, Vals ys us → (∀ y ∈ ys, y = V.ref dd) → ∀ u ∈ us, u = Value.ref dd := by
      intro ys us r
      induction r with
      | nil => intro _ u hu; cases hu
      | cons h1 h2 ih =>
        intro hy u hu
        rcases List.mem_cons.mp hu with rfl | hu
        · have e := hy _ List.mem_cons_self
          subst e
          exact h1
        · exact ih (fun y z => hy y (List.mem_cons_of_mem _ z)) u hu
    have hall := hit rv (fun y hy => (List.mem_replicate.mp hy).2)
    have hlen : its.length = m + 1 := by
      rw [← rv.length, List.length_replicate]
    cases its with
    | nil => simp at hlen
    | cons x0 l =>
      have hcall : wpAny (model X.prog X.w) X.A.in1 (call (.builtin "list.__repr__") [.ref a]) (fun r s₁ => ∃ x t, r = Value.str x t ∧ EP X pins σ Q r s₁) X.xe s := by
        refine call_list_reprK (as := [dd]) (d := 1) ho rfl rfl (by simpa using hne) (ts := List.replicate (m + 1) (dictText [reprText x ++ ": " ++ toString i])) (by simp only [List.size_toArray, List.length_replicate, hlen]) (fun j y hj => ?_) hgd (fun b _ => Clear.nil b)
          (by show X.A.units + 1 + (1 + 1) < cLine; omega) (fun _ _ e => e) (fun h' u tk k => ⟨_, _, rfl, .str _, H, I.kept k, ⟨u, rfl⟩, q⟩) hz
        have hj' : (x0 :: l)[j]? = some y := by simpa using hj
        have hjl : j < m + 1 := by
          rw [← hlen]
          exact (List.getElem?_eq_some_iff.mp hj').1
        refine ⟨_, by rw [List.getElem?_replicate, if_pos hjl], ?_⟩
        rw [hall y (List.mem_of_getElem? hj')]
        exact rd
      exact call_repr_slot (by omega) ⟨_, ho, rfl⟩ F.slot_list_repr.toG hcall
end Sb
set_option maxHeartbeats 4000000
namespace Sb
open PySem PySem.Spec PyProof.Rows L2
open PySem.W (excInitIn excOver hasDictIn findIn subIn keepIn typeIn takerIn mroIn specialIn takesIn)

/-! ### exceptions of own classes, held as values -/
/-- what the written part says of an exception class of the program -/
structure XCls (K : PySem.W.Frag) (C : Addr) : Prop where
  ga : findIn K (.ref C) "__getattribute__" = some (some (.builtin "BaseException.__getattribute__"))
  gt : findIn K (.ref C) "__getattr__" = some none
  sb : subIn K (.ref C) (.type "BaseException") = some true
  hd : hasDictIn K C = true
  cl : findIn K (.ref C) "__class__" = some (some (.builtin "object.__class__"))
  ob : mroIn K C (.type "object") = some true
  kp : keepIn K (.ref C) = true
structure XIni (K : PySem.W.Frag) (C fI : Addr) (bm : List Value) (nw : String) (f : Str) : Prop extends XCls K C where
  ii : excInitIn K C bm nw = true
  ov : excOver K C bm = true
  sa : findIn K (.ref C) "__setattr__" = some (some (.builtin "object.__setattr__"))
  ft : takerIn K C f = some none
  fn : findIn K (.ref C) f = some none
  it : findIn K (.ref C) "__init__" = some (some (.ref fI))
  ty : typeIn K (.ref fI) = some (.type "function")

section
variable {prog : Program} {w : World} {A : Around} {R : Result → Shared → Prop} {hp : Heap} {g : Array GenState} {d : Drawn} {t : Nat} {os : OsState}
theorem own_store {K : PySem.W.Frag} {B : String} {bm : List Value} {name : Str} {tk : Tok} {v : Value} {x C t1 : Addr}
    (SF : StoreFacts B bm "object.__setattr__" "object") (X : K.In hp)
    (hx : hp.get? x = some { cls := .ref C, data := .fields #[.ref t1, .none, .none, .none, .bool false, .none] })
    (ho : excOver K C bm = true) (ht : takerIn K C name = some none) (hh : hasDictIn K C = true)
    (hq : ∀ h' tk' dx, (∀ b o, b ≠ x → hp.get? b = some o → h'.get? b = some o) → hp.objs.size ≤ dx → dx ≠ x →
      h'.get? x = some { cls := .ref C, dict := some dx, data := .fields #[.ref t1, .none, .none, .none, .bool false, .none] } →
      h'.Ns1 dx (fun y => if y = name then some v else none) → R (.ok (.ret .none)) ⟨h', g, d, tk', os⟩) :
    codeAny (model prog w) A (.call (.builtin "object.__setattr__") ⟨[.ref x, .str name tk, v], []⟩) R ⟨hp, g, d, t, os⟩ := by
  refine PySem.W.osa_openX (od := none) SF X ⟨hx, rfl, rfl, trivial⟩ ho ht fun b => ?_
  obtain ⟨cd, hc, hd'⟩ := PySem.W.any_some hh
  have hxs : x ≠ hp.objs.size := Nat.ne_of_lt (Heap.lt_size hx)
  refine wpAny_bind (wpAny_pure (wpAny_bind (PySem.W.instanceDict_exc hx (PySem.W.looks_clsIn X hc) hd' ?_)))
  show wpAny _ _ (Builtin.ObjectAttr.storeInDict hp.objs.size (.str name tk) name v) _ _ _
  refine PySem.HandSPX.store_in_new ?_ ?_
  · exact ⟨_, #[], _, (Heap.get?_update_ne _ _ _ _ hxs.symm).trans (Heap.get?_push_at rfl rfl), rfl, fun e he => absurd he (by simp), fun _ => rfl⟩
  · intro h' tk' hn' hs
    have hx₁ : (hp.push { cls := .type "dict", data := .dict #[] }).get? x = some { cls := .ref C, data := .fields #[.ref t1, .none, .none, .none, .bool false, .none] } := Heap.get?_push_of_some _ hx
    refine hq h' tk' hp.objs.size (fun b o hb ho => ?_) (Nat.le_refl _) hxs.symm ?_ hn'
    · exact (hs.2 b (Nat.ne_of_lt (Heap.lt_size ho))).trans ((Heap.get?_update_ne _ _ _ _ hb).trans (Heap.get?_push_of_some _ ho))
    · exact (hs.2 x hxs).trans (Heap.get?_update_self _ hx₁ rfl)
end

section
variable {X : Cx} {pins : List (Addr × Obj)} {σ : L2.St} {H : Hp} {s : Shared} {a C fI dx : Addr} {f : Str} {y : V} {u : Value} {Q : Unit → Shared → Prop} {E : Value → Shared → Prop} {A : Around} {bm : List Value} {nw B : String}
/-- self.f = y in the __init__ of such a class -/
theorem put_new (T : XIni X.K C fI bm nw f) (SF : StoreFacts B bm "object.__setattr__" "object") (I : Inv X pins σ H s) (e : H a = some (exo a C none)) (ry : RelV y u)
    (h : ∀ dx s', H dx = none → dx ≠ a → Inv X pins σ (upd (upd H dx (exd dx [(f, y)])) a (exo a C (some dx))) s' → Q () s') : wpAny (model X.prog X.w) A (setAttr (.ref a) f u) Q E s := by
  obtain ⟨t1, ho⟩ := exo_at I.hok e
  obtain ⟨hp, g, d, t, os⟩ := s
  refine PySem.W.set_plain I.kIn (ox := { cls := .ref C, dict := none, data := .fields #[.ref t1, .none, .none, .none, .bool false, .none] }) (od := none) ⟨ho, rfl, rfl, trivial⟩ T.sa ?_
  refine own_store SF I.kIn ho T.ov T.ft T.hd (fun h' tk' dx k dn dne hx hn => ?_)
  have hnd : H dx = none := I.hok.fresh dn
  have nd : ∀ {b : Addr} {o : Obj}, hp.get? b = some o → b ≠ dx := fun {b o} q => Nat.ne_of_lt (Nat.lt_of_lt_of_le (Heap.lt_size q) dn)
  have na : ∀ {b : Addr}, H b = none → b ≠ a := fun {b} n z => by
    rw [z, e] at n
    cases n
  have U : Un X.fs [] H (upd (upd H dx (exd dx [(f, y)])) a (exo a C (some dx))) hp h' := by
    refine ⟨fun b o q n _ _ => k b o (na n) q, fun b o q n _ _ => ⟨o.slots, k b o (na n) q⟩, fun b o q n _ => ?_, fun b o q _ => ?_, fun b xs q => ?_, fun b o v q => ?_, fun b ps q => ?_⟩
    · rw [upd_ne (na n), upd_ne (nd q)]
      exact n
    · by_cases hb : b = a
      · exact ⟨_, by rw [hb]; exact hx⟩
      · exact ⟨o, k b o hb q⟩
    · rw [upd_ne (at_ne e q exo_tup), upd_ne (ne_of_none q hnd)]
      exact q
    · rw [upd_ne (at_ne e q exo_frz), upd_ne (ne_of_none q hnd)]
      exact q
    · exact ⟨#[], by rw [upd_ne (at_ne e q exo_tbl), upd_ne (ne_of_none q hnd), q]; simp⟩
  refine h dx _ hnd dne (I.un (t' := tk') U fun b o q => ?_)
  by_cases hb : b = a
  · subst hb
    rw [upd_same] at q
    cases q
    exact exo_ok hx
  · rw [upd_ne hb] at q
    by_cases hd : b = dx
    · subst hd
      rw [upd_same] at q
      cases q
      exact exd_ok hn (relO_put (fs := []) ry fun g => True.intro)
    · rw [upd_ne hd] at q
      refine (I.hok b o q).stay (fun c v hc z => k c v ?_ z) (fun c hc => ?_) (fun c xs hc => ?_)
      · rcases hc with hc | hc
        · rw [hc]
          exact hb
        · exact at_ne e hc exo_own
      · rw [upd_ne (at_ne e hc exo_own), upd_ne (ne_of_none hc hnd)]
        exact hc
      · rw [upd_ne (at_ne e hc exo_tup), upd_ne (ne_of_none hc hnd)]
        exact hc
end
/-- the reading of «self.f = e» there -/
def tPut (C : Addr) (f : Str) (to te : TE) : TS := fun D σ H => te σ H fun y H1 => to σ H1 fun x H2 => ∃ a : Addr, x = .ref a ∧ H2 a = some (exo a C none) ∧
  ∀ dx, H2 dx = none → dx ≠ a → D.nx σ (upd (upd H2 dx (exd dx [(f, y)])) a (exo a C (some dx)))
/-- the reading of «C(e, ..)» -/
def tNew (C : Addr) (sp : Sp) (ta : TA) : TE := fun σ H Q => ta σ H fun vs H1 => vs.length ≤ 1000 ∧ ∀ a, H1 a = none → sp (.ref a :: vs) (upd H1 a (exo a C none))
  (fun v H2 => v = .non ∧ Q (.ref a) H2) (fun _ _ _ => False)
/-- what __init__ promises -/
def spIni (C : Addr) (f : Str) : Sp := fun vs H Q _ => ∃ (a : Addr) (y : V), vs = [.ref a, y] ∧ H a = some (exo a C none) ∧
  ∀ dx, H dx = none → dx ≠ a → Q .non (upd (upd H dx (exd dx [(f, y)])) a (exo a C (some dx)))
section
variable {X : Cx} {o e : Expr} {es : List Expr} {to te : TE} {ta : TA} {f x : Str} {p p' pos : Pos} {C fI : Addr} {bm : List Value} {nw B ni : String}
theorem ps_put (T : XIni X.K C fI bm nw f) (SF : StoreFacts B bm "object.__setattr__" "object") (ho : PE X o to) (he : PE X e te) (hs : swapsWith e (some (.Attribute o f p')) pos.line X.env = pure false := by rfl) :
    PS X (.Assign [.Attribute o f p'] e pos) (tPut C f to te) := by
  refine ⟨fun pins s σ H D I h => ?_⟩
  refine plainObj_wpAny_Assign_Attribute (thn (he.run pins s σ H _ I h) fun v s1 ⟨y, H1, I1, r1, q1⟩ => thn (ho.run pins s1 σ H1 _ I1 q1) fun u s2 ⟨z, H2, I2, r2, a, ex, ea, q⟩ => ?_) hs
  subst ex
  obtain rfl : u = Value.ref a := r2
  exact put_new T SF I2 ea r1 fun dx s' n ne J => ⟨σ, _, J, q dx n ne⟩
theorem pe_new {CX : CXT} {k : Nat} {fd : FuncData} {ps : List Str} {sp : Sp} (T : XIni X.K C fI bm nw f) (FB : ExcBaseFacts B nw ni bm)
    (F1 : FnOk X.prog X.w X.K X.mg X.base CX k fI fd ps sp) (hr : Room (k + 1) X.A) (hb : Binds X.K fd ps []) (hx : Passes CX X (fun _ _ _ => False)) (hg : Gl X x) (hm : X.mg x = some (.ref C)) (ha : PA X (e :: es) ta)
    (hdb : (x == ("__debug__" : Str)) = false := by decide) (he : starEach (e :: es) X.env = (false, eval e X.env) :: starEach es X.env := by rfl) (hpl : (backTo pos (starEach es X.env)).any (·.1) = false := by rfl) :
    PE X (.Call (.Name x p) (e :: es) [] pos) (tNew C sp ta) := by
  refine ⟨fun pins s σ H Q I h => ?_⟩
  refine wpAny_Call_Name_kw (ld_glob I hg hm ?_ hdb)
  refine PySem.W.callWith_K (h₀ := X.base) I.ok.mod.kin T.kp (thn (ha.run pos pins s σ H _ I h) fun us s1 ⟨vs, H1, I1, r1, hz, q1⟩ => ⟨I1.kIn, ?_⟩) he hpl
  show wpAny _ _ (call (.ref C) us) _ _ _
  obtain ⟨nm, N', qn, bs, bm', hdct, sn, sub, ab, col, dd, k0, k1, k2, k3, k5, hC, hT⟩ := PySem.W.excInit_of I1.kIn T.ii
  obtain ⟨hp, g, dr, tk, os⟩ := s1
  have hsz : hp.objs.size ≤ hp.objs.size + 1 := Nat.le_succ _
  have hn : H1 (hp.objs.size + 1) = none := I1.hok.fresh hsz
  have hq := q1 (hp.objs.size + 1) hn
  have kk : ∀ b o, hp.get? b = some o → ((hp.push (PySem.W.kdv_tup us)).push (PySem.HandSPX.excO C hp.objs.size)).get? b = some o := fun b o e => Heap.get?_push_of_some _ (Heap.get?_push_of_some _ e)
  have hget : ((hp.push (PySem.W.kdv_tup us)).push (PySem.HandSPX.excO C hp.objs.size)).get? (hp.objs.size + 1) = some (PySem.HandSPX.excO C hp.objs.size) := by heap_get
  have I2 : Inv X pins σ (upd H1 (hp.objs.size + 1) (exo (hp.objs.size + 1) C none)) ⟨(hp.push (PySem.W.kdv_tup us)).push (PySem.HandSPX.excO C hp.objs.size), g, dr, tk, os⟩ :=
    I1.laid (t' := tk) (a := hp.objs.size + 1) (o := exo (hp.objs.size + 1) C none) (h' := (hp.push (PySem.W.kdv_tup us)).push (PySem.HandSPX.excO C hp.objs.size)) kk hsz (exo_ok hget)
  have r2 : Vals (V.ref (hp.objs.size + 1) :: vs) (Value.ref (hp.objs.size + 1) :: us) := .cons rfl r1
  have hl : (Value.ref (hp.objs.size + 1) :: us ++ []).length = ps.length := by
    rw [List.append_nil, ← r2.length]
    exact F1.len _ _ _ _ hq
  have hus : us.length ≤ sizeLine := by
    rw [← Paired.length r1, sizeLine_eq]
    omega
  have hbb := hb ⟨(hp.push (PySem.W.kdv_tup us)).push (PySem.HandSPX.excO C hp.objs.size), g, dr, tk, os⟩ (Value.ref (hp.objs.size + 1) :: us) I2.kIn hl
  rw [List.append_nil] at hbb
  refine wpAny_call (PySem.HandSPX.call_own FB hT hC (PySem.W.looks_findIn I1.kIn T.it) (fun self => PySem.W.bind_fn I1.kIn self T.ty) hus
    (codeAny_mono (F1.run _ X.stack _ _ ⟨Value.ref (hp.objs.size + 1) :: us, []⟩ (Value.ref (hp.objs.size + 1) :: us) _ _ (fun _ _ _ => False) (hr.make C us []) (I2.env0.make C us []) hbb r2 hq) fun r s' hq' => ?_))
  cases r with
  | error er => exact hx pins σ _ _ er s' I2 hq'
  | ok fl =>
    cases fl with
    | ret u =>
      obtain ⟨v, H2, os2, bare2, un2, hok2, rv, ev, q2⟩ := hq'
      subst ev
      exact ⟨rv, .ref (hp.objs.size + 1), H2, I2.call' (ch := []) os2 un2 hok2 bare2 (fun b z => absurd z (by simp)), rfl, q2⟩
    | next => exact False.elim hq'
    | brk => exact False.elim hq'
    | cont => exact False.elim hq'
/-- C(), a class without an __init__ of its own -/
theorem pe_new0 {bmB : List Value} {newId initId : String} (F : ExcBaseFacts B newId initId bmB) (q : PySem.W.excIn X.K C bmB newId = true) (gC : X.mg x = some (.ref C)) (kC : keepIn X.K (.ref C) = true) (hg : Gl X x)
    (hdb : (x == ("__debug__" : Str)) = false := by decide) :
    PE X (.Call (.Name x p) [] [] pos) (fun σ H Q => ∀ a, H a = none → Q (.ref a) (upd H a (ExO (.ref C) a))) := by
  refine ⟨fun pins s σ H Q I h => ?_⟩
  refine wpAny_Call_Name_kw (ld_glob I hg gC ?_ hdb)
  refine PySem.W.callWith_K0 (first := []) I.kIn kC ?_
  show wpAny _ _ (call (.ref C) []) _ _ _
  obtain ⟨bm', N, nm, qn, bs, hdct, sn, sub, ab, col, dd, k0, k1, k2, k3, k5, mN, hC, hN, hni, T⟩ := exc_obj I.kIn q
  refine wpAny_call_exc_subT F T hC hN hni (fun h' a hm => ?_) (Nat.zero_le _)
  have hn : H a = none := I.hok.gone hm.new
  obtain ⟨t, ht, _, _⟩ := hm.there
  exact ⟨.ref a, upd H a (ExO (.ref C) a), I.laidN hm.keeps hm.new hn (exO_ok ht ⟨rfl, rfl⟩ rfl rfl rfl (show 4 < 6 by decide)), rfl, h a hn⟩
/-- e.n -/
def tAtt (te : TE) (n : Str) : TE := fun σ H Q => te σ H fun x H1 => ∃ (a C fI d : Addr) (bm : List Value) (nw : String) (v : V), x = .ref a ∧ XIni X.K C fI bm nw n ∧
  H1 a = some (exo a C (some d)) ∧ H1 d = some (exd d [(n, v)]) ∧ Q v H1
theorem pe_att {n : Str} (he : PE X e te) (hb : attributeBase e n X.env (eval e X.env) = eval e X.env := by rfl) : PE X (.Attribute e n pos) (tAtt (X := X) te n) := by
  refine ⟨fun pins s σ H Q I h => ?_⟩
  refine attr_of hb (thn (he.run pins s σ H _ I h) fun u s1 hh => ?_)
  obtain ⟨z, H1, I1, rx, a, C, fI, d, bm, nw, v, ex, T, ea, ed, q⟩ := hh
  subst ex
  obtain rfl : u = Value.ref a := rx
  obtain ⟨t1, ho⟩ := exo_at I1.hok ea
  obtain ⟨mA, hns, hr⟩ := exd_at I1.hok ed
  obtain ⟨od, hod, hl⟩ := lookIn_ns hns
  obtain ⟨u, hu, ru⟩ := RelO.some_of (v := v) (o := mA n) (by have z := hr n; rw [show List.lookup n [(n, v)] = some v by rw [List.lookup_cons, beq_self_eq_true]] at z; exact z)
  have J : PySem.W.InstAt s1.heap a _ C (some od) := ⟨ho, rfl, rfl, hod⟩
  exact HandSPX.exc_get I1.kIn J T.ga T.gt T.sb (PySem.W.findObj_own T.hd T.fn rfl (by rw [hl, hu])) (handed_of ru) ⟨v, H1, I1.tok _, ru, q⟩
end
/-- an exception of the class at D stands at a -/
def IsX (H : Hp) (a D : Addr) : Prop := (∃ d fs, H a = some (exo a D (some d)) ∧ H d = some (exd d fs)) ∨ H a = some (ExO (.ref D) a)
def rIsX (K : PySem.W.Frag) : List V → Hp → VK → Prop := fun xs H Q => ∃ (a D : Addr) (c : V) (cv : Value) (b : Bool), xs = [.ref a, c] ∧ ClsV c cv ∧ IsX H a D ∧ XCls K D ∧ PySem.W.kitOne K (.ref D) cv = some b ∧ Q (.bl b) H
theorem call_isX {X : Cx} (hn : specialIn X.K (.builtin "object.__class__") "__get__" = some (some (.builtin "getset_descriptor.__get__"))) (ht : takesIn X.K (.builtin "object.__class__") = some true) :
    CallR X (.builtin "isinstance") (rIsX X.K) := by
  intro pins s σ H xs us Q I r h
  obtain ⟨a, D, c, cv, b, rfl, hcv, hE, T, e, q⟩ := h
  cases r with
  | cons rx rr =>
    cases rr with
    | cons rt rr =>
      cases rr
      cases rx
      have ec := ClsV.eq hcv rt
      subst ec
      have hcl : (PySem.W.clsIn X.K D).isSome = true := by
        obtain ⟨cd, h1, _⟩ := PySem.W.any_some T.hd
        rw [h1] <;> rfl
      rcases hE with ⟨d, fs, e1, e2⟩ | e1
      · obtain ⟨t1, ho⟩ := exo_at I.hok e1
        obtain ⟨mA, ⟨od, _, _, hod, _⟩, _⟩ := exd_at I.hok e2
        have J : PySem.W.InstAt s.heap a _ D (some od) := ⟨ho, rfl, rfl, hod⟩
        exact PySem.W.kia_one (PySem.W.kitx_exc hcl T.ga T.gt T.sb T.cl hn ht T.ob) I.kIn J e (fun z => nomatch z) fun tk => ⟨.bl b, H, I.kept (t' := tk) fun _ _ z => z, rfl, q⟩
      · obtain ⟨⟨oe, vs, ho, hz, hd, _, _⟩, _, _⟩ := I.hok a _ e1
        obtain ⟨oc, odi, oda, osl⟩ := oe
        obtain ⟨h1, h2⟩ := hz
        dsimp only at h1 h2 hd
        subst h1 h2 hd
        have J : PySem.W.InstAt s.heap a _ D none := ⟨ho, rfl, rfl, trivial⟩
        exact PySem.W.kia_one (PySem.W.kitx_exc hcl T.ga T.gt T.sb T.cl hn ht T.ob) I.kIn J e (fun z => nomatch z) fun tk => ⟨.bl b, H, I.kept (t' := tk) fun _ _ z => z, rfl, q⟩
end Sb
namespace Sb
open PySem PySem.Spec PyProof.Rows L2
/-- an exception of the class at C stands at a, its one field f holds v -/
def ErrAt (H : Hp) (a C : Addr) (f : Str) (v : V) : Prop := ∃ dx, H a = some (exo a C (some dx)) ∧ H dx = some (exd dx [(f, v)])
theorem ErrAt.up {H H' : Hp} {a C : Addr} {f : Str} {v : V} (h : ErrAt H a C f v) (s : Same H H') : ErrAt H' a C f v := by
  obtain ⟨dx, h1, h2⟩ := h
  exact ⟨dx, s _ _ h1, s _ _ h2⟩
theorem ErrAt.isX {H : Hp} {a C : Addr} {f : Str} {v : V} (h : ErrAt H a C f v) : IsX H a C := by
  obtain ⟨dx, h1, h2⟩ := h
  exact .inl ⟨dx, _, h1, h2⟩
theorem IsX.up {H H' : Hp} {a C : Addr} (h : IsX H a C) (s : Same H H') : IsX H' a C := by
  rcases h with ⟨d, fs, h1, h2⟩ | h
  · exact .inl ⟨d, fs, s _ _ h1, s _ _ h2⟩
  · exact .inr (s _ _ h)
theorem new_ok {H : Hp} {C : Addr} {f : Str} {v : V} {R : Addr → Hp → Prop} (h : ∀ H' a, Same H H' → H a = none → ErrAt H' a C f v → R a H') :
    ([v] : List V).length ≤ 1000 ∧ ∀ a, H a = none → spIni C f (.ref a :: [v]) (upd H a (exo a C none)) (fun x H2 => x = .non ∧ R a H2) (fun _ _ _ => False) := by
  refine ⟨by show 1 ≤ 1000; omega, fun a na => ⟨a, v, rfl, upd_same, fun dx nd ne => ⟨rfl, ?_⟩⟩⟩
  refine h _ a (fun b o e => ?_) na ⟨dx, upd_same, by rw [upd_ne ne, upd_same]⟩
  have n1 : b ≠ a := ne_of_none e na
  have nd' : H dx = none := by
    rw [upd_ne ne] at nd
    exact nd
  rw [upd_ne n1, upd_ne (ne_of_none e nd'), upd_ne n1]
  exact e
end Sb
namespace Sb
open PySem PySem.Spec PyProof.Rows L2
theorem ErrAt.but {H H' : Hp} {a C m : Addr} {f : Str} {v : V} {xs : List V} (h : ErrAt H a C f v) (s : ∀ b o, H b = some o → b ≠ m → H' b = some o) (hm : H m = some (.lst xs)) : ErrAt H' a C f v := by
  obtain ⟨dx, h1, h2⟩ := h
  have z1 : exo a C (some dx) ≠ .lst xs := fun z => by
    have z' : HO.ext _ = HO.lst xs := z
    cases z'
  have z2 : exd dx [(f, v)] ≠ .lst xs := fun z => by
    have z' : HO.ext _ = HO.lst xs := z
    cases z'
  exact ⟨dx, s _ _ h1 (ne_of h1 hm z1), s _ _ h2 (ne_of h2 hm z2)⟩
end Sb
namespace Sb
open PySem PySem.Spec PyProof.Rows L2
theorem pe_cls {X : Cx} {x : Str} {a : Addr} {pos : Pos} (hg : Gl X x) (hm : X.mg x = some (.ref a)) (hd : (x == ("__debug__" : Str)) = false := by decide) : PE X (.Name x pos) (tC (.ref a)) := pe_glob (v := .ref a) hg hm rfl hd
theorem grown {H0 H : Hp} {m x : Addr} {xs zs : List V} (s : Same H0 H) (n : H0 m = none) (nx : H x = none) : Same H0 (upd (upd H x (.lst zs)) m (.lst (xs ++ zs))) := fun b o e => by
  rw [upd_ne (ne_of_none e n), upd_ne (ne_of_none (s b o e) nx)]
  exact s b o e
end Sb
set_option maxHeartbeats 4000000
namespace Sb
open PySem PySem.Spec PyProof.Rows L2
/-! ### the facts of the top, read by a hook: one Bool of the written part, the defs -/
abbrev Seen : Type := Bool × List He.FnW
def seenK (ok : PySem.W.Frag → Bool) (fn : List He.DefD) (K : PySem.W.Frag) : Seen := (ok K && fn.all fun d => d.ok K, fn.map fun d => He.fnW K d.at_)
def seenG (n : Nat) (ok : PySem.W.Frag → Bool) (fn : List He.DefD) (g : Addr → Option Obj) : Seen := seenK ok fn (He.frG g (He.asD g n))
def hookS (n : Nat) (ok : PySem.W.Frag → Bool) (fn : List He.DefD) : PySem.W.Hook where
  α := Seen
  obs := fun s => seenG n ok fn s.heap.get?
  val := fun _ => (true, fn.map He.DefD.val)
  says := fun _ h => ∃ K : PySem.W.Frag, K.In h ∧ seenK ok fn K = (true, fn.map He.DefD.val)
  of := fun _ _ e => ⟨_, He.frG_in, e⟩
  keeps := by
    rintro _ _ _ ⟨K, hK, c⟩ k
    exact ⟨K, PySem.W.Frag.In.keeps hK k, c⟩
theorem seenG_eq {n : Nat} {ok : PySem.W.Frag → Bool} {fn : List He.DefD} {g : Addr → Option Obj} {s : Shared} (h : ∀ a, g a = s.heap.get? a) : seenG n ok fn g = (hookS n ok fn).obs s := by
  obtain rfl : g = s.heap.get? := funext h
  rfl
section
variable {ok : PySem.W.Frag → Bool} {fn : List He.DefD} {K : PySem.W.Frag}
theorem seen_ok (c : seenK ok fn K = (true, fn.map He.DefD.val)) : ok K = true := (Bool.and_eq_true_iff.mp (congrArg Prod.fst c)).1
theorem seen_fun (c : seenK ok fn K = (true, fn.map He.DefD.val)) (i : Nat) {at_ : Str × Option Str} {x q : Str} {st : Stmt} (h : fn[i]? = some ⟨at_, x, q, defArgs st, defBody st, defScope st, [], []⟩) : ∃ fd, Fun K x q st (He.fAd K at_) fd := by
  have c2 := (Bool.and_eq_true_iff.mp (congrArg Prod.fst c)).2
  have e2 : (fn.map fun d => He.fnW K d.at_)[i]? = (fn.map He.DefD.val)[i]? := congrArg (fun z : Seen => z.2[i]?) c
  rw [List.getElem?_map, List.getElem?_map, h] at e2
  obtain ⟨fd, F⟩ := He.DefD.funD (Option.some.inj e2) (List.all_eq_true.mp c2 _ (List.mem_of_getElem? h))
  obtain ⟨oc, od, dV, kV, doc, pm, an, cdv, ct, osl, rfl, lk, hcd, hd, _⟩ := F.ex
  rcases hd with ⟨_, rfl⟩ | ⟨ne, _⟩
  · exact ⟨_, ⟨oc, od, kV, doc, pm, an, cdv, ct, osl, rfl, lk, hcd⟩, F.kp⟩
  · exact absurd rfl ne
end
end Sb
set_option maxHeartbeats 4000000
namespace Sb
open PySem PySem.Spec PyProof.Rows L2
/-! ### the deck that a law draws from -/
def DeckAt (H : Hp) (d c : Addr) (n : Nat) : Prop := ∃ ns : List Int, H d = some (.lst [.ref c, .int n]) ∧ H c = some (.lst (ns.map V.int)) ∧ ns.length ≤ 63
/-- all that is tracked is as it was, but for the deck -/
def Off (d c : Addr) (H H' : Hp) : Prop := ∀ b o, H b = some o → b ≠ d → b ≠ c → H' b = some o
theorem Off.refl (d c : Addr) (H : Hp) : Off d c H H := fun _ _ h _ _ => h
theorem Off.trans {d c : Addr} {H H1 H2 : Hp} (a : Off d c H H1) (b : Off d c H1 H2) : Off d c H H2 := fun x o h h1 h2 => b x o (a x o h h1 h2) h1 h2
theorem off_same {d c : Addr} {H H' : Hp} (s : Same H H') : Off d c H H' := fun b o h _ _ => s b o h
theorem DeckAt.ne {H : Hp} {d c : Addr} {n : Nat} (h : DeckAt H d c n) : c ≠ d := by
  obtain ⟨ns, h1, h2, _⟩ := h
  intro e
  rw [e, h1] at h2
  have z := Option.some.inj h2
  injection z with z
  cases ns with
  | nil => cases z
  | cons _ _ => cases z
theorem DeckAt.same {H H' : Hp} {d c : Addr} {n : Nat} (h : DeckAt H d c n) (s : Same H H') : DeckAt H' d c n := by
  obtain ⟨ns, h1, h2, h3⟩ := h
  exact ⟨ns, s _ _ h1, s _ _ h2, h3⟩
/-- the promises: the deck's making, a draw, one of several -/
def spDeck (K : PySem.W.Frag) : Sp := fun vs H Q _ => ∃ (a : Addr) (ns : List Int), vs = [.ref a] ∧ SqL K H a (ns.map V.int) ∧ ns.length ≤ 63 ∧ ∀ H' d c, Same H H' → H d = none → H c = none → DeckAt H' d c 0 → Q (.ref d) H'
def spDraw : Sp := fun vs H Q _ => ∃ (d c : Addr) (n : Nat) (m : Int), vs = [.ref d, .int m] ∧ DeckAt H d c n ∧ n ≤ 1000000000 ∧ 0 < m ∧ m < 1073741824 ∧
  ∀ H' v, Off d c H H' → DeckAt H' d c (n + 1) → 0 ≤ v → v < m → Q (.int v) H'
def spOne (K : PySem.W.Frag) : Sp := fun vs H Q _ => ∃ (d c t : Addr) (n : Nat) (xs : List V), vs = [.ref d, .ref t] ∧ DeckAt H d c n ∧ n ≤ 1000000000 ∧ (SqL K H t xs ∨ SqT K H t xs) ∧ t ≠ d ∧ t ≠ c ∧ xs ≠ [] ∧ xs.length ≤ 1000 ∧
  ∀ (H' : Hp) (i : Nat) (x : V), Off d c H H' → DeckAt H' d c (n + 1) → xs[i]? = some x → Q x H'
theorem Off.seqL {K : PySem.W.Frag} {H H' : Hp} {a d c : Addr} {xs : List V} (e : Off d c H H') (h : SqL K H a xs) (h1 : a ≠ d) (h2 : a ≠ c) : SqL K H' a xs := by
  rcases h with (h | ⟨o, h⟩) | h
  · exact .inl (.inl (e _ _ h h1 h2))
  · exact .inl (.inr ⟨o, e _ _ h h1 h2⟩)
  · exact .inr h
theorem Off.seqT {K : PySem.W.Frag} {H H' : Hp} {a d c : Addr} {xs : List V} (e : Off d c H H') (h : SqT K H a xs) (h1 : a ≠ d) (h2 : a ≠ c) : SqT K H' a xs := by
  rcases h with (h | ⟨o, h⟩) | h
  · exact .inl (.inl (e _ _ h h1 h2))
  · exact .inl (.inr ⟨o, e _ _ h h1 h2⟩)
  · exact .inr h
theorem abs_len {ns : List Int} (h : ns.length ≤ 63) : ns.length < sizeLine := small1000 (by omega)
end Sb
namespace Sb
open PySem PySem.Spec PyProof.Rows L2
theorem tYes_then {σ : L2.St} {H : Hp} {f g : Hp → Prop} (h : f H) : tYes σ H fun b H3 => if b = true then f H3 else g H3 := by
  show (if true = true then f H else g H)
  rw [if_pos rfl]
  exact h
theorem same_new {H : Hp} {p : Addr} {o : HO} (h : H p = none) : Same H (upd H p o) := fun b x e => by
  rw [upd_ne (ne_of_none e h)]
  exact e
theorem mod_at {i : Int} {n : Nat} (h : (0 : Int) < n) : ∃ j : Nat, i % n = j ∧ j < n := by
  have h1 := Int.emod_nonneg i (Int.ne_of_gt h)
  have h2 := Int.emod_lt_of_pos i h
  exact ⟨(i % n).toNat, by omega, by omega⟩
theorem ixN_nat {n j : Nat} (h : j < n) : ixN n (j : Int) = some j := by
  unfold ixN
  rw [if_pos (by omega), if_pos (by omega)]
  simp
theorem deck_small {n : Nat} {x a b c : Int} (hn : n ≤ 1000000000) (ha : 0 < a) (ha2 : a ≤ 2147483648) (hb : 0 ≤ b ∧ b ≤ 10000) (hc : 0 ≤ c ∧ c ≤ 100) : (x % a + b * (n + 1) + c).natAbs < 2 ^ 64 := by
  have h1 := Int.emod_nonneg x (Int.ne_of_gt ha)
  have h2 := Int.emod_lt_of_pos x ha
  have h3 : 0 ≤ b * ((n : Int) + 1) := Int.mul_nonneg hb.1 (by omega)
  have h4 : b * ((n : Int) + 1) ≤ 10000 * ((n : Int) + 1) := Int.mul_le_mul_of_nonneg_right hb.2 (by omega)
  omega
theorem same_put {H H' : Hp} {D : Addr} {o : HO} (s : Same H H') (nl' : H D = none) : Same H (upd H' D o) := fun b x e => by
  rw [upd_ne (ne_of_none e nl')]
  exact s b x e
theorem cut_ints (ns : List Int) (h : ns.length ≤ 63) : cutV (ns.map V.int) none (some 63) = ns.map V.int := by
  unfold cutV
  rw [HT.sIx_none, show HT.sIx (ns.map V.int).length (ns.map V.int).length (some 63) = min 63 (ns.map V.int).length from HT.sIx_nat _ _ 63, List.length_map, List.drop_zero, show min 63 ns.length - 0 = ns.length by omega]
  exact List.take_of_length_le (by rw [List.length_map]; omega)
end Sb
set_option maxHeartbeats 4000000
namespace Sb
open PySem PySem.Spec PyProof.Rows L2
/-! ### data -/
theorem seqT_up {K : PySem.W.Frag} {H H' : Hp} {a : Addr} {xs : List V} (e : Same H H') (h : SqT K H a xs) : SqT K H' a xs := by
  rcases h with (h | ⟨o, h⟩) | h
  · exact .inl (.inl (e _ _ h))
  · exact .inl (.inr ⟨o, e _ _ h⟩)
  · exact .inr h
mutual
theorem dp_up {K : PySem.W.Frag} {H H' : Hp} (s : Same H H') : ∀ (d : PyData) (v : V), Dp K H v d → Dp K H' v d
  | .none, _, h => by cases h; exact .non
  | .bool b, _, h => by cases h; exact .bl b
  | .int i, _, h => by cases h; exact .int i
  | .str x, _, h => by cases h; exact .str x
  | .list ds, _, h => by
    cases h with
    | lst hs ha => exact .lst (Same.seq s hs) (dps_up s ds _ ha)
  | .tuple ds, _, h => by
    cases h with
    | tup hs ha => exact .tup (seqT_up s hs) (dps_up s ds _ ha)
  | .dict _, _, h => by cases h
theorem dps_up {K : PySem.W.Frag} {H H' : Hp} (s : Same H H') : ∀ (ds : List PyData) (vs : List V), DpAll K H vs ds → DpAll K H' vs ds
  | [], _, h => by cases h; exact .nil
  | d :: ds, _, h => by
    cases h with
    | cons h1 h2 => exact .cons (dp_up s d _ h1) (dps_up s ds _ h2)
end
theorem dps_rep {K : PySem.W.Frag} {H : Hp} {v : V} {d : PyData} (h : Dp K H v d) : ∀ n, DpAll K H (List.replicate n v) (List.replicate n d)
  | 0 => .nil
  | n + 1 => by
    rw [List.replicate_succ, List.replicate_succ]
    exact .cons h (dps_rep h n)
theorem dps_ints {K : PySem.W.Frag} {H : Hp} : ∀ ns : List Int, DpAll K H (ns.map V.int) (ns.map PyData.int)
  | [] => .nil
  | n :: ns => .cons (.int n) (dps_ints ns)
theorem dps_bls {K : PySem.W.Frag} {H : Hp} : ∀ bs : List Bool, DpAll K H (bs.map V.bl) (bs.map PyData.bool)
  | [] => .nil
  | b :: bs => .cons (.bl b) (dps_bls bs)
/-- data that repr can show, of a bounded text -/
def Fine (d : PyData) (n : Nat) : Prop := d.showable = true ∧ d.hasDict = false ∧ d.depth ≤ 50 ∧ d.shown.length ≤ n
theorem shown_rep (d : PyData) : ∀ n, PyData.shownAll (List.replicate n d) = List.replicate n d.shown
  | 0 => rfl
  | n + 1 => by rw [List.replicate_succ, List.replicate_succ, PyData.shownAll, shown_rep d n]
theorem showable_rep {d : PyData} (h : d.showable = true) : ∀ n, PyData.showableAll (List.replicate n d) = true
  | 0 => rfl
  | n + 1 => by rw [List.replicate_succ, PyData.showableAll, h, showable_rep h n]; rfl
theorem hasDict_rep {d : PyData} (h : d.hasDict = false) : ∀ n, PyData.hasDictAll (List.replicate n d) = false
  | 0 => rfl
  | n + 1 => by rw [List.replicate_succ, PyData.hasDictAll, h, hasDict_rep h n]; rfl
theorem depth_rep {d : PyData} {k : Nat} (h : d.depth ≤ k) : ∀ n, PyData.depthAll (List.replicate n d) ≤ k
  | 0 => by show 0 ≤ k; omega
  | n + 1 => by
    have := depth_rep h n
    rw [List.replicate_succ, PyData.depthAll]
    omega
theorem sum_rep (k : Nat) : ∀ n, (List.replicate n k).sum = n * k
  | 0 => by simp
  | n + 1 => by
    rw [List.replicate_succ, List.sum_cons, sum_rep k n, Nat.add_mul]
    omega
theorem fine_rep {d : PyData} {k : Nat} (h : Fine d k) (hd : d.depth ≤ 49) (n : Nat) : Fine (.list (List.replicate n d)) (n * k + 2 * n + 3) := by
  obtain ⟨h1, h2, h3, h4⟩ := h
  refine ⟨?_, ?_, ?_, ?_⟩
  · rw [PyData.showable]
    exact showable_rep h1 n
  · rw [PyData.hasDict]
    exact hasDict_rep h2 n
  · have := depth_rep hd n
    rw [PyData.depth]
    omega
  · rw [PyData.shown, shown_rep]
    refine Nat.le_trans (listText_len_le _) ?_
    rw [List.map_replicate, sum_rep, List.length_replicate]
    have : n * d.shown.length ≤ n * k := Nat.mul_le_mul_left n h4
    omega
theorem repr_fine {K : PySem.W.Frag} {H : Hp} {a : Addr} {d : PyData} {n : Nat} {Q : VK} (h : Dp K H (.ref a) d) (f : Fine d n) (hn : n ≤ sizeLine) (q : Q (.str d.shown) H) : rRepr K [.ref a] H Q :=
  ⟨a, d, rfl, h, f.1, f.2.1, Nat.le_trans f.2.2.1 (by omega), Nat.le_trans f.2.2.2 hn, q⟩
end Sb
set_option maxHeartbeats 4000000
namespace Sb
open PySem PySem.Spec PyProof.Rows L2
/-! ### games as data -/
inductive Exp where
  | num (i : Int) | key | fld (f : Nat) | bin (pl : Bool) (a b : Exp) | times (k : Int) (e : Exp)
inductive Tst where
  | cmp (lt : Bool) (a b : Exp) | not (t : Tst)
inductive Sta where
  | set (f : Nat) (e : Exp) | ite (t : Tst) (yes no : List Sta) | stop
def pm (b : Bool) : Str := if b then "plus" else "minus"
def ls (b : Bool) : Str := if b then "less" else "same"
def Exp.data : Exp → PyData
  | .num i => .int i
  | .key => .str "key"
  | .fld f => .tuple [.str "field", .int f]
  | .bin b x y => .tuple [.str (pm b), x.data, y.data]
  | .times k e => .tuple [.str "times", .int k, e.data]
def Tst.data : Tst → PyData
  | .cmp b x y => .tuple [.str (ls b), x.data, y.data]
  | .not t => .tuple [.str "not", t.data]
mutual
def Sta.data : Sta → PyData
  | .set f e => .tuple [.str "set", .int f, e.data]
  | .ite t y n => .tuple [.str "if", t.data, .tuple (blkData y), .tuple (blkData n)]
  | .stop => .tuple [.str "stop"]
def blkData : List Sta → List PyData
  | [] => []
  | s :: r => s.data :: blkData r
end
/-- within the bounds: nf fields, with "key" or not, at most so many in one another -/
def Exp.ok (nf : Nat) (wk : Bool) : Nat → Exp → Prop
  | 0, _ => False
  | _ + 1, .num i => -9 ≤ i ∧ i ≤ 9
  | _ + 1, .key => wk = true
  | _ + 1, .fld f => f < nf
  | d + 1, .bin _ a b => a.ok nf wk d ∧ b.ok nf wk d
  | d + 1, .times k e => -9 ≤ k ∧ k ≤ 9 ∧ e.ok nf wk d
def Tst.ok (nf : Nat) : Nat → Tst → Prop
  | _, .cmp _ a b => a.ok nf true 3 ∧ b.ok nf true 3
  | 0, .not _ => False
  | n + 1, .not t => t.ok nf n
mutual
def Sta.ok (nf : Nat) : Nat → Sta → Prop
  | _, .set f e => f < nf ∧ e.ok nf true 3
  | 0, .ite _ _ _ => False
  | m + 1, .ite t y n => t.ok nf 2 ∧ (y.length ≤ 3 ∧ blkOk nf m y) ∧ (n.length ≤ 3 ∧ blkOk nf m n)
  | _, .stop => True
def blkOk (nf : Nat) : Nat → List Sta → Prop
  | _, [] => True
  | m, s :: r => s.ok nf m ∧ blkOk nf m r
end
mutual
def Sta.cnt : Sta → Nat
  | .set _ _ => 1
  | .ite _ y n => 1 + blkCnt y + blkCnt n
  | .stop => 1
def blkCnt : List Sta → Nat
  | [] => 0
  | s :: r => s.cnt + blkCnt r
end
theorem blkOk_append {nf m : Nat} : ∀ {a b : List Sta}, blkOk nf m a → blkOk nf m b → blkOk nf m (a ++ b)
  | [], _, _, h => h
  | _ :: r, _, h, h2 => by
    rw [blkOk] at h
    rw [List.cons_append, blkOk]
    exact ⟨h.1, blkOk_append h.2 h2⟩
theorem blkData_append : ∀ a b : List Sta, blkData (a ++ b) = blkData a ++ blkData b
  | [], _ => by rw [blkData]; rfl
  | s :: r, b => by rw [List.cons_append, blkData, blkData, blkData_append r b]; rfl
theorem blkCnt_append : ∀ a b : List Sta, blkCnt (a ++ b) = blkCnt a + blkCnt b
  | [], _ => by rw [blkCnt]; simp
  | s :: r, b => by rw [List.cons_append, blkCnt, blkCnt, blkCnt_append r b]; omega
theorem blkData_length : ∀ a : List Sta, (blkData a).length = a.length
  | [] => by rw [blkData]; rfl
  | s :: r => by rw [blkData, List.length_cons, List.length_cons, blkData_length r]

/-! ### tuples stay -/
mutual
def tupOnly : PyData → Bool
  | .none | .bool _ | .int _ | .str _ => true
  | .tuple ds => tupOnlyAll ds
  | .list _ | .dict _ => false
def tupOnlyAll : List PyData → Bool
  | [] => true
  | d :: ds => tupOnly d && tupOnlyAll ds
end
/-- what is no list is as it was -/
def Kpt (H H' : Hp) : Prop := ∀ b o, H b = some o → (∀ xs, o ≠ .lst xs) → H' b = some o
theorem Kpt.refl (H : Hp) : Kpt H H := fun _ _ h _ => h
theorem Kpt.trans {H H1 H2 : Hp} (a : Kpt H H1) (b : Kpt H1 H2) : Kpt H H2 := fun x o h n => b x o (a x o h n) n
theorem Kpt.of {H H' : Hp} (s : Same H H') : Kpt H H' := fun b o h _ => s b o h
theorem Kpt.off {H H' : Hp} {d c : Addr} {n : Nat} (hD : DeckAt H d c n) (s : Off d c H H') : Kpt H H' := by
  obtain ⟨ns, h1, h2, _⟩ := hD
  exact fun b o h hn => s b o h (ne_of h h1 (hn _)) (ne_of h h2 (hn _))
theorem seqT_kpt {K : PySem.W.Frag} {H H' : Hp} {a : Addr} {xs : List V} (e : Kpt H H') (h : SqT K H a xs) : SqT K H' a xs := by
  rcases h with (h | ⟨o, h⟩) | h
  · exact .inl (.inl (e _ _ h fun _ z => by cases z))
  · exact .inl (.inr ⟨o, e _ _ h fun _ z => by cases z⟩)
  · exact .inr h
mutual
theorem dp_kpt {K : PySem.W.Frag} {H H' : Hp} (s : Kpt H H') : ∀ (d : PyData) (v : V), tupOnly d = true → Dp K H v d → Dp K H' v d
  | .none, _, _, h => by cases h; exact .non
  | .bool b, _, _, h => by cases h; exact .bl b
  | .int i, _, _, h => by cases h; exact .int i
  | .str x, _, _, h => by cases h; exact .str x
  | .list ds, _, t, _ => by rw [tupOnly] at t; cases t
  | .tuple ds, _, t, h => by
    rw [tupOnly] at t
    cases h with
    | tup hs ha => exact .tup (seqT_kpt s hs) (dps_kpt s ds _ t ha)
  | .dict _, _, _, h => by cases h
theorem dps_kpt {K : PySem.W.Frag} {H H' : Hp} (s : Kpt H H') : ∀ (ds : List PyData) (vs : List V), tupOnlyAll ds = true → DpAll K H vs ds → DpAll K H' vs ds
  | [], _, _, h => by cases h; exact .nil
  | d :: ds, _, t, h => by
    rw [tupOnlyAll, Bool.and_eq_true] at t
    cases h with
    | cons h1 h2 => exact .cons (dp_kpt s d _ t.1 h1) (dps_kpt s ds _ t.2 h2)
end
theorem Exp.tup : ∀ e : Exp, tupOnly e.data = true
  | .num _ => rfl
  | .key => rfl
  | .fld _ => rfl
  | .bin _ a b => by simp [Exp.data, tupOnly, tupOnlyAll, Exp.tup a, Exp.tup b]
  | .times _ e => by simp [Exp.data, tupOnly, tupOnlyAll, Exp.tup e]
theorem Tst.tup : ∀ t : Tst, tupOnly t.data = true
  | .cmp _ a b => by simp [Tst.data, tupOnly, tupOnlyAll, Exp.tup a, Exp.tup b]
  | .not t => by simp [Tst.data, tupOnly, tupOnlyAll, Tst.tup t]
mutual
theorem Sta.tup : ∀ s : Sta, tupOnly s.data = true
  | .set _ e => by simp [Sta.data, tupOnly, tupOnlyAll, Exp.tup e]
  | .ite t y n => by simp [Sta.data, tupOnly, tupOnlyAll, Tst.tup t, blk_tup y, blk_tup n]
  | .stop => by simp [Sta.data, tupOnly, tupOnlyAll]
theorem blk_tup : ∀ b : List Sta, tupOnlyAll (blkData b) = true
  | [] => by simp [blkData, tupOnlyAll]
  | s :: r => by simp [blkData, tupOnlyAll, Sta.tup s, blk_tup r]
end

/-! ### the promises of the drawing defs -/
/-- all that is tracked is as it was, but for the addresses xs -/
def But (xs : List Addr) (H H' : Hp) : Prop := ∀ b o, H b = some o → b ∉ xs → H' b = some o
theorem But.refl (xs : List Addr) (H : Hp) : But xs H H := fun _ _ h _ => h
theorem But.trans {xs : List Addr} {H H1 H2 : Hp} (a : But xs H H1) (b : But xs H1 H2) : But xs H H2 := fun x o h n => b x o (a x o h n) n
theorem But.same {xs : List Addr} {H H' : Hp} (s : Same H H') : But xs H H' := fun b o h _ => s b o h
theorem But.mono {xs ys : List Addr} {H H' : Hp} (a : But xs H H') (h : ∀ x ∈ xs, x ∈ ys) : But ys H H' := fun b o e n => a b o e fun z => n (h b z)
theorem Off.but {d c : Addr} {H H' : Hp} (s : Off d c H H') : But [d, c] H H' := fun b o h n => s b o h (fun z => n (by simp [z])) (fun z => n (by simp [z]))
theorem But.off {d c : Addr} {H H' : Hp} (s : But [d, c] H H') : Off d c H H' := fun b o h h1 h2 => s b o h (by simp [h1, h2])
/-- draws of an expression, a block -/
def spExpr (K : PySem.W.Frag) : Nat → Sp
  | 0 => fun _ _ _ _ => False
  | D + 1 => fun vs H Q _ => ∃ (d c : Addr) (n nf : Nat) (wk : Bool), vs = [.ref d, .int nf, .int ((D : Int) + 1), .bl wk] ∧ DeckAt H d c n ∧ n + 2 ^ (D + 2) ≤ 900000000 ∧ 0 < nf ∧ nf ≤ 6 ∧ D ≤ 2 ∧
    ∀ (H' : Hp) (n' : Nat) (v : V) (e : Exp), Off d c H H' → DeckAt H' d c n' → n ≤ n' → n' + 2 ≤ n + 2 ^ (D + 2) → e.ok nf wk (D + 1) → Dp K H' v e.data → Q v H'
def spTest (K : PySem.W.Frag) : Sp := fun vs H Q _ => ∃ (d c : Addr) (n nf : Nat), vs = [.ref d, .int nf] ∧ DeckAt H d c n ∧ n ≤ 800000000 ∧ 0 < nf ∧ nf ≤ 6 ∧
    ∀ (H' : Hp) (n' : Nat) (v : V) (t : Tst), Off d c H H' → DeckAt H' d c n' → n ≤ n' → n' ≤ n + 22 → t.ok nf 2 → Dp K H' v t.data → Q v H'
/-- how many draws a statement, a block may take where so many more may lie in one another -/
def stB : Nat → Nat
  | 0 => 16
  | m + 1 => 23 + 2 * (1 + 4 * stB m)
def drB (m : Nat) : Nat := 1 + 4 * stB m
theorem stB_le (m : Nat) : 16 ≤ stB m := by cases m with | zero => decide | succ m => rw [stB]; omega
/-- draws of a block; room r -/
def spBl (K : PySem.W.Frag) : Nat → Sp
  | 0 => fun _ _ _ _ => False
  | m + 1 => fun vs H Q _ => ∃ (d c r : Addr) (n nf room : Nat), vs = [.ref d, .int nf, .ref r, .int (3 - (m : Int))] ∧ m ≤ 3 ∧ DeckAt H d c n ∧ n + drB m ≤ 700000000 ∧ 0 < nf ∧ nf ≤ 6 ∧ H r = some (.lst [.int room]) ∧ r ≠ c ∧
    ∀ (H' : Hp) (n' : Nat) (v : V) (blk : List Sta) (room' : Nat), But [d, c, r] H H' → DeckAt H' d c n' → n ≤ n' → n' ≤ n + drB m → H' r = some (.lst [.int room']) → room' + blkCnt blk = room → blkOk nf m blk → blk.length ≤ 4 → (m < 3 → blk.length ≤ 3) →
      Dp K H' v (.tuple (blkData blk)) → Q v H'
theorem never {P : Program} {w : World} {K : PySem.W.Frag} {mg : Str → Option Value} {base : Heap} {k : Nat} {f : Addr} {fd : FuncData} {ps : List Str} {sp : Sp} (h : ∀ vs H Q E, ¬ sp vs H Q E) : FnOk P w K mg base CX0 k f fd ps sp :=
  ⟨fun vs H Q E z => (h _ _ _ _ z).elim, fun _ _ _ _ _ _ _ _ _ _ _ _ _ z => (h _ _ _ _ z).elim⟩
/-- a def of the top by its name -/
structure Dn (K : PySem.W.Frag) (mg : Str → Option Value) (x : Str) (st : Stmt) (ps : List Str) (f : Addr) (fd : FuncData) : Prop where
  F : Fun K x x st f fd
  b : Binds K fd ps []
  g : mg x = some (.ref f)
theorem and_vals {i j : Nat} {x y : Int} {b : Bool} {σ : L2.St} {H : Hp} {Q : Bool → Hp → Prop} (hi : σ[i]? = some (some (V.int x))) (hj : σ[j]? = some (some (V.bl b))) (q : Q (decide (x = y) && b) H) :
    tAnd (tTest (tOp rEq (tVar i) (tC (V.int y)))) (tB (tVar j)) σ H Q := by
  refine ⟨_, hi, rfl, _, rfl, ?_⟩
  have e : decide (V.int x = V.int y) = decide (x = y) := by
    rw [decide_eq_decide]
    exact ⟨fun z => V.int.inj z, fun z => by rw [z]⟩
  show (if decide (V.int x = V.int y) = true then _ else _)
  rw [e]
  by_cases h : x = y
  · rw [decide_eq_true h] at q ⊢
    exact ⟨_, hj, b, rfl, q⟩
  · rw [decide_eq_false h] at q ⊢
    exact q
theorem int_eq {x y : Int} (h : decide (V.int x = V.int y) = true) : x = y := V.int.inj (of_decide_eq_true h)
theorem int_ne {x y : Int} (h : ¬decide (V.int x = V.int y) = true) : x ≠ y := fun e => h (decide_eq_true (by rw [e]))
theorem dpT2 {K : PySem.W.Frag} {H : Hp} {p : Addr} {a b : V} {x y : PyData} (h : H p = some (.tup [a, b])) (h1 : Dp K H a x) (h2 : Dp K H b y) : Dp K H (.ref p) (.tuple [x, y]) := .tup (.inl (.inl h)) (.cons h1 (.cons h2 .nil))
theorem dpT3 {K : PySem.W.Frag} {H : Hp} {p : Addr} {a b c : V} {x y z : PyData} (h : H p = some (.tup [a, b, c])) (h1 : Dp K H a x) (h2 : Dp K H b y) (h3 : Dp K H c z) : Dp K H (.ref p) (.tuple [x, y, z]) := .tup (.inl (.inl h)) (.cons h1 (.cons h2 (.cons h3 .nil)))
theorem FnOk.any {P : Program} {w : World} {K : PySem.W.Frag} {mg : Str → Option Value} {base : Heap} {CX : CXT} {k : Nat} {f : Addr} {fd : FuncData} {ps : List Str} {ι : Type} {sp : ι → Sp} (F : ∀ i, FnOk P w K mg base CX k f fd ps (sp i)) :
    FnOk P w K mg base CX k f fd ps fun vs H Q E => ∃ i, sp i vs H Q E :=
  ⟨fun vs H Q E ⟨i, h⟩ => (F i).len vs H Q E h, fun A outer s H args us vs Q E hr e0 hb r ⟨i, h⟩ => (F i).run A outer s H args us vs Q E hr e0 hb r h⟩
theorem FnOk.anyLt {P : Program} {w : World} {K : PySem.W.Frag} {mg : Str → Option Value} {base : Heap} {CX : CXT} {k N : Nat} {f : Addr} {fd : FuncData} {ps : List Str} {sp : Nat → Sp} (F : ∀ i, i ≤ N → FnOk P w K mg base CX k f fd ps (sp i)) :
    FnOk P w K mg base CX k f fd ps fun vs H Q E => ∃ i, i ≤ N ∧ sp i vs H Q E :=
  ⟨fun vs H Q E ⟨i, hi, h⟩ => (F i hi).len vs H Q E h, fun A outer s H args us vs Q E hr e0 hb r ⟨i, hi, h⟩ => (F i hi).run A outer s H args us vs Q E hr e0 hb r h⟩
def spEx (K : PySem.W.Frag) : Sp := fun vs H Q E => ∃ D, D ≤ 3 ∧ spExpr K D vs H Q E
theorem Exp.ok_up {nf : Nat} {wk : Bool} : ∀ (d : Nat) (e : Exp), e.ok nf wk d → e.ok nf wk (d + 1)
  | 0, _, h => by rw [Exp.ok] at h; exact h.elim
  | _ + 1, .num _, h => h
  | _ + 1, .key, h => h
  | _ + 1, .fld _, h => h
  | d + 1, .bin _ a b, h => ⟨Exp.ok_up d a h.1, Exp.ok_up d b h.2⟩
  | d + 1, .times _ e, h => ⟨h.1, h.2.1, Exp.ok_up d e h.2.2⟩
theorem dpT4 {K : PySem.W.Frag} {H : Hp} {p : Addr} {a b c d : V} {x y z u : PyData} (h : H p = some (.tup [a, b, c, d])) (h1 : Dp K H a x) (h2 : Dp K H b y) (h3 : Dp K H c z) (h4 : Dp K H d u) : Dp K H (.ref p) (.tuple [x, y, z, u]) := .tup (.inl (.inl h)) (.cons h1 (.cons h2 (.cons h3 (.cons h4 .nil))))
theorem dpT1 {K : PySem.W.Frag} {H : Hp} {p : Addr} {a : V} {x : PyData} (h : H p = some (.tup [a])) (h1 : Dp K H a x) : Dp K H (.ref p) (.tuple [x]) := .tup (.inl (.inl h)) (.cons h1 .nil)
theorem Tst.ok_le {nf : Nat} : ∀ (t : Tst) (n m : Nat), t.ok nf n → n ≤ m → t.ok nf m
  | .cmp _ _ _, 0, 0, h, _ => h
  | .cmp _ _ _, 0, _ + 1, h, _ => h
  | .cmp _ _ _, _ + 1, 0, h, _ => h
  | .cmp _ _ _, _ + 1, _ + 1, h, _ => h
  | .not _, 0, _, h, _ => by rw [Tst.ok] at h; exact h.elim
  | .not _, n + 1, 0, _, l => by omega
  | .not t, n + 1, m + 1, h, l => Tst.ok_le t n m h (by omega)
theorem Kpt.but {H H' : Hp} {xs : List Addr} (s : But xs H H') (h : ∀ x ∈ xs, ∃ ys, H x = some (.lst ys)) : Kpt H H' := fun b o hb hn => s b o hb fun m => by
  obtain ⟨ys, e⟩ := h b m
  rw [hb] at e
  exact hn ys (Option.some.inj e)
theorem Kpt.put {H : Hp} {l : Addr} {ys : List V} {o : HO} (h : H l = some (.lst ys)) : Kpt H (upd H l o) := fun b u hb hn => by
  rw [upd_ne (ne_of hb h (hn ys))]
  exact hb
theorem DeckAt.but {H H' : Hp} {d c : Addr} {n : Nat} {xs : List Addr} (h : DeckAt H d c n) (s : But xs H H') (h1 : d ∉ xs) (h2 : c ∉ xs) : DeckAt H' d c n := by
  obtain ⟨ns, e1, e2, l⟩ := h
  exact ⟨ns, s _ _ e1 h1, s _ _ e2 h2, l⟩
theorem But.put {H : Hp} {l : Addr} {o : HO} (xs : List Addr) (h : l ∈ xs) : But xs H (upd H l o) := fun b u hb hn => by
  rw [upd_ne fun e => hn (by rw [e]; exact h)]
  exact hb
/-- what is new may change -/
theorem But.drop {H0 H1 H2 : Hp} {xs : List Addr} {l : Addr} (a : But xs H0 H1) (s : But (l :: xs) H1 H2) (h : H0 l = none) : But xs H0 H2 := fun b o hb hn => s b o (a b o hb hn) fun z => by
  rcases List.mem_cons.mp z with rfl | z
  · rw [h] at hb
    cases hb
  · exact hn z
theorem blkData_snoc (a : List Sta) (s : Sta) : blkData (a ++ [s]) = blkData a ++ [s.data] := by
  rw [blkData_append, blkData, blkData]
theorem blkCnt_snoc (a : List Sta) (s : Sta) : blkCnt (a ++ [s]) = blkCnt a + s.cnt := by
  rw [blkCnt_append, blkCnt, blkCnt]
  omega
theorem dps_snoc {K : PySem.W.Frag} {H : Hp} {v : V} {d : PyData} (h : Dp K H v d) : ∀ {vs : List V} {ds : List PyData}, DpAll K H vs ds → DpAll K H (vs ++ [v]) (ds ++ [d])
  | [], _, .nil => .cons h .nil
  | _ :: _, _, .cons h1 h2 => .cons h1 (dps_snoc h h2)
theorem dps_len {K : PySem.W.Frag} {H : Hp} : ∀ {vs : List V} {ds : List PyData}, DpAll K H vs ds → vs.length = ds.length
  | [], _, .nil => rfl
  | _ :: _, _, .cons _ h2 => by rw [List.length_cons, List.length_cons, dps_len h2]
theorem and_pure {t u : TE} {σ : L2.St} {H : Hp} {Q : Bool → Hp → Prop} {a b : Bool} (ht : ∀ R : VK, R (.bl a) H → t σ H R) (hu : ∀ R : VK, R (.bl b) H → u σ H R) (q : Q (a && b) H) : tAnd (tTest t) (tTest u) σ H Q := by
  refine ht _ ⟨a, rfl, ?_⟩
  show (if a = true then _ else _)
  cases a with
  | true => exact hu _ ⟨b, rfl, q⟩
  | false => exact q
/-- the state of a block's loop: deck d c, room r, rows l -/
structure BI (K : PySem.W.Frag) (d c r l : Addr) (H H' : Hp) (n' room' : Nat) (vs : List V) (blk : List Sta) : Prop where
  bt : But [d, c, r] H H'
  dk : DeckAt H' d c n'
  rm : H' r = some (.lst [.int room'])
  ls : H' l = some (.lst vs)
  dp : DpAll K H' vs (blkData blk)
theorem BI.kpt {K : PySem.W.Frag} {d c r l : Addr} {H H' H1 : Hp} {n' room' : Nat} {vs : List V} {blk : List Sta} (b : BI K d c r l H H' n' room' vs blk) (s : But [d, c, r] H' H1) : Kpt H' H1 := by
  obtain ⟨ns, e1, e2, _⟩ := b.dk
  refine Kpt.but s fun x hx => ?_
  simp only [List.mem_cons, List.not_mem_nil, or_false] at hx
  rcases hx with rfl | rfl | rfl
  · exact ⟨_, e1⟩
  · exact ⟨_, e2⟩
  · exact ⟨_, b.rm⟩
theorem BI.move {K : PySem.W.Frag} {d c r l : Addr} {H H' H1 : Hp} {n' n1 room' room1 : Nat} {vs : List V} {blk : List Sta} (b : BI K d c r l H H' n' room' vs blk) (s : But [d, c, r] H' H1) (hD : DeckAt H1 d c n1) (hR : H1 r = some (.lst [.int room1]))
    (hl : l ∉ [d, c, r]) : BI K d c r l H H1 n1 room1 vs blk :=
  ⟨b.bt.trans s, hD, hR, s _ _ b.ls hl, dps_kpt (b.kpt s) _ _ (blk_tup blk) b.dp⟩
theorem BI.off {K : PySem.W.Frag} {d c r l : Addr} {H H' H1 : Hp} {n' n1 room' : Nat} {vs : List V} {blk : List Sta} (b : BI K d c r l H H' n' room' vs blk) (s : Off d c H' H1) (hD : DeckAt H1 d c n1) (h1 : r ≠ d) (h2 : r ≠ c)
    (hl : l ∉ [d, c, r]) : BI K d c r l H H1 n1 room' vs blk :=
  b.move (s.but.mono fun x hx => by simp only [List.mem_cons, List.not_mem_nil, or_false] at hx ⊢; rcases hx with h | h <;> simp [h]) hD (s _ _ b.rm h1 h2) hl
theorem BI.same {K : PySem.W.Frag} {d c r l : Addr} {H H' H1 : Hp} {n' room' : Nat} {vs : List V} {blk : List Sta} (b : BI K d c r l H H' n' room' vs blk) (s : Same H' H1) (h1 : r ≠ d) (h2 : r ≠ c)
    (hl : l ∉ [d, c, r]) : BI K d c r l H H1 n' room' vs blk := b.off (off_same s) (b.dk.same s) h1 h2 hl
theorem BI.room {K : PySem.W.Frag} {d c r l : Addr} {H H' : Hp} {n' room' room1 : Nat} {vs : List V} {blk : List Sta} (b : BI K d c r l H H' n' room' vs blk) (h1 : r ≠ d) (h2 : r ≠ c) (hl : l ∉ [d, c, r]) :
    BI K d c r l H (upd H' r (.lst [.int room1])) n' room1 vs blk :=
  b.move (But.put _ (by simp)) (b.dk.but (xs := [r]) (But.put _ (by simp)) (by simpa using h1.symm) (by simpa using h2.symm)) upd_same hl
/-- a statement more -/
theorem BI.push {K : PySem.W.Frag} {d c r l : Addr} {H H' : Hp} {n' room' : Nat} {vs : List V} {blk : List Sta} {v : V} {st : Sta} (b : BI K d c r l H H' n' room' vs blk) (h0 : H l = none) (hl : l ∉ [d, c, r]) (hd : Dp K H' v st.data) :
    BI K d c r l H (upd H' l (.lst (vs ++ [v]))) n' room' (vs ++ [v]) (blk ++ [st]) := by
  simp only [List.mem_cons, List.not_mem_nil, or_false, not_or] at hl
  have k : Kpt H' (upd H' l (.lst (vs ++ [v]))) := Kpt.put b.ls
  refine ⟨b.bt.drop (l := l) (But.put _ (by simp)) h0, b.dk.but (xs := [l]) (But.put _ (by simp)) (by simpa using Ne.symm hl.1) (by simpa using Ne.symm hl.2.1), ?_, upd_same, ?_⟩
  · rw [upd_ne (Ne.symm hl.2.2)]
    exact b.rm
  · rw [blkData_snoc]
    exact dps_snoc (dp_kpt k _ _ (Sta.tup st) hd) (dps_kpt k _ _ (blk_tup blk) b.dp)
theorem blkOk_snoc {nf m : Nat} {a : List Sta} {st : Sta} (h : blkOk nf m a) (h2 : st.ok nf m) : blkOk nf m (a ++ [st]) := blkOk_append h (by rw [blkOk, blkOk]; exact ⟨h2, trivial⟩)
theorem Sta.ok_stop {nf : Nat} : ∀ m, (Sta.stop).ok nf m
  | 0 => by rw [Sta.ok]; trivial
  | _ + 1 => by rw [Sta.ok]; trivial
theorem Sta.ok_set {nf f : Nat} {e : Exp} (h : f < nf) (h2 : e.ok nf true 3) : ∀ m, (Sta.set f e).ok nf m
  | 0 => by rw [Sta.ok]; exact ⟨h, h2⟩
  | _ + 1 => by rw [Sta.ok]; exact ⟨h, h2⟩
theorem ifS_and {t u : TE} {σ : L2.St} {H : Hp} {x y : TS} {D : Ends} {a b : Bool} (ht : ∀ R : VK, R (.bl a) H → t σ H R) (hu : ∀ R : VK, R (.bl b) H → u σ H R) (q : if (a && b) = true then x D σ H else y D σ H) : tIfS (tAnd (tTest t) (tTest u)) x y D σ H :=
  and_pure ht hu q
/-! ### sizes, worlds, games -/
structure SzOk (xs : List Nat) : Prop where
  ne : xs ≠ []
  len : xs.length ≤ 4
  rng : ∀ x ∈ xs, 2 ≤ x ∧ x ≤ 6
  prod : xs.foldl (· * ·) 1 ≤ 24
def szOkB (xs : List Nat) : Bool := !xs.isEmpty && (decide (xs.length ≤ 4) && (xs.all (fun x => decide (2 ≤ x) && decide (x ≤ 6)) && decide (xs.foldl (· * ·) 1 ≤ 24)))
theorem szOk_of {xs : List Nat} (h : szOkB xs = true) : SzOk xs := by
  unfold szOkB at h
  rw [Bool.and_eq_true, Bool.and_eq_true, Bool.and_eq_true] at h
  refine ⟨fun e => ?_, of_decide_eq_true h.2.1, fun x hx => ?_, of_decide_eq_true h.2.2.2⟩
  · rw [e] at h
    simp at h
  · have := List.all_eq_true.mp h.2.2.1 x hx
    rw [Bool.and_eq_true] at this
    exact ⟨of_decide_eq_true this.1, of_decide_eq_true this.2⟩
/-- a world of these sizes -/
inductive WorldOf : List Nat → List Nat → Prop where
  | nil : WorldOf [] []
  | cons {s x : Nat} {ss xs : List Nat} : x < s → WorldOf ss xs → WorldOf (s :: ss) (x :: xs)
theorem WorldOf.len {ss xs : List Nat} (h : WorldOf ss xs) : xs.length = ss.length := by
  induction h with
  | nil => rfl
  | cons _ _ ih => rw [List.length_cons, List.length_cons, ih]
theorem WorldOf.snoc {ss xs : List Nat} {s x : Nat} (h : WorldOf ss xs) (hx : x < s) : WorldOf (ss ++ [s]) (xs ++ [x]) := by
  induction h with
  | nil => exact .cons hx .nil
  | cons a _ ih => exact .cons a ih
def natV (n : Nat) : V := .int n
def natD (n : Nat) : PyData := .int n
structure Game where
  sizes : List Nat
  keys : Nat
  first : List Nat
  blk : List Sta
def Game.data (g : Game) : PyData := .tuple [.tuple (g.sizes.map natD), .int g.keys, .tuple (g.first.map natD), .tuple (blkData g.blk)]
structure Game.Ok (g : Game) : Prop where
  sz : SzOk g.sizes
  k0 : 1 ≤ g.keys
  k3 : g.keys ≤ 3
  fst : WorldOf g.sizes g.first
  blk : blkOk g.sizes.length 3 g.blk
  len : g.blk.length ≤ 12
  cnt : blkCnt g.blk ≤ 16
theorem dps_nats {K : PySem.W.Frag} {H : Hp} : ∀ ns : List Nat, DpAll K H (ns.map natV) (ns.map natD)
  | [] => .nil
  | n :: ns => .cons (.int n) (dps_nats ns)
/-- constant tuples of numbers, one after another -/
def tNats0 : List Nat → TA
  | [] => tNil
  | n :: r => tCons (tC (.int n)) (tNats0 r)
def tTups0 : List (List Nat) → TA
  | [] => tNil
  | x :: r => tCons (tTup (tNats0 x)) (tTups0 r)
@[irreducible] def tNats (ns : List Nat) : TA := tNats0 ns
@[irreducible] def tTups (r : List (List Nat)) : TA := tTups0 r
theorem tNats0_ok {σ : L2.St} {H : Hp} : ∀ {ns : List Nat} {Q : List V → Hp → Prop}, Q (ns.map natV) H → tNats0 ns σ H Q
  | [], _, q => q
  | n :: r, Q, q => tNats0_ok (ns := r) (Q := fun xs H2 => Q (V.int n :: xs) H2) q
theorem tNats_ok {σ : L2.St} {H : Hp} {ns : List Nat} {Q : List V → Hp → Prop} (q : Q (ns.map natV) H) : tNats ns σ H Q := by
  unfold tNats
  exact tNats0_ok q
/-- addresses of these tuples -/
inductive TupsAt (H : Hp) : List Addr → List (List Nat) → Prop where
  | nil : TupsAt H [] []
  | cons {p : Addr} {x : List Nat} {ps : List Addr} {r : List (List Nat)} : H p = some (.tup (x.map natV)) → TupsAt H ps r → TupsAt H (p :: ps) (x :: r)
theorem TupsAt.up {H H' : Hp} (s : Same H H') {ps : List Addr} {r : List (List Nat)} (h : TupsAt H ps r) : TupsAt H' ps r := by
  induction h with
  | nil => exact .nil
  | cons e _ ih => exact .cons (s _ _ e) ih
theorem TupsAt.append {H : Hp} {ps qs : List Addr} {r t : List (List Nat)} (h : TupsAt H ps r) (h2 : TupsAt H qs t) : TupsAt H (ps ++ qs) (r ++ t) := by
  induction h with
  | nil => exact h2
  | cons e _ ih => exact .cons e ih
theorem TupsAt.at {H : Hp} {ps : List Addr} {r : List (List Nat)} (h : TupsAt H ps r) : ∀ {i : Nat} {v : V}, (ps.map V.ref)[i]? = some v → ∃ p x, v = .ref p ∧ x ∈ r ∧ H p = some (.tup (x.map natV)) := by
  induction h with
  | nil => intro i v hv; simp at hv
  | cons e _ ih =>
    intro i v hv
    cases i with
    | zero =>
      cases hv
      exact ⟨_, _, rfl, List.mem_cons_self .., e⟩
    | succ i =>
      obtain ⟨p, x, h1, h2, h3⟩ := ih (i := i) (v := v) (by simpa using hv)
      exact ⟨p, x, h1, List.mem_cons_of_mem _ h2, h3⟩
theorem TupsAt.len {H : Hp} {ps : List Addr} {r : List (List Nat)} (h : TupsAt H ps r) : ps.length = r.length := by
  induction h with
  | nil => rfl
  | cons _ _ ih => rw [List.length_cons, List.length_cons, ih]
theorem tTups0_ok {σ : L2.St} : ∀ {r : List (List Nat)} {H : Hp} {Q : List V → Hp → Prop}, (∀ x ∈ r, x.length ≤ 1000) → (∀ (H' : Hp) (ps : List Addr), Same H H' → TupsAt H' ps r → Q (ps.map V.ref) H') → tTups0 r σ H Q
  | [], H, Q, _, q => q H [] (fun _ _ e => e) .nil
  | x :: r, H, Q, hl, q => by
    refine tNats0_ok (ns := x) ⟨?_, fun p np => ?_⟩
    · rw [List.length_map]
      exact Nat.le_of_lt (small1000 (by have := hl x (List.mem_cons_self ..); omega))
    · refine tTups0_ok (r := r) (fun y hy => hl y (List.mem_cons_of_mem _ hy)) fun H' ps s h => ?_
      exact q H' (p :: ps) ((same_new np).trans s) (.cons (s _ _ upd_same) h)
theorem tTups_ok {σ : L2.St} {r : List (List Nat)} {H : Hp} {Q : List V → Hp → Prop} (h : ∀ x ∈ r, x.length ≤ 1000) (q : ∀ (H' : Hp) (ps : List Addr), Same H H' → TupsAt H' ps r → Q (ps.map V.ref) H') : tTups r σ H Q := by
  unfold tTups
  exact tTups0_ok h q
def spSizes : Sp := fun vs H Q _ => ∃ (d c : Addr) (n : Nat), vs = [.ref d] ∧ DeckAt H d c n ∧ n ≤ 1000000000 ∧
  ∀ (H' : Hp) (p : Addr) (xs : List Nat), Off d c H H' → DeckAt H' d c (n + 1) → SzOk xs → H' p = some (.tup (xs.map natV)) → Q (.ref p) H'
def spWorld (K : PySem.W.Frag) : Sp := fun vs H Q _ => ∃ (d c p : Addr) (n : Nat) (ss : List Nat), vs = [.ref d, .ref p] ∧ DeckAt H d c n ∧ n + 10 ≤ 1000000000 ∧ SqT K H p (ss.map natV) ∧ SzOk ss ∧
  ∀ (H' : Hp) (v : Addr) (ws : List Nat), Off d c H H' → DeckAt H' d c (n + ss.length) → WorldOf ss ws → H v = none → H' v = some (.tup (ws.map natV)) → Q (.ref v) H'
@[irreducible] def gmB : Nat := 10 + 3 * drB 3
def spGame (K : PySem.W.Frag) : Sp := fun vs H Q _ => ∃ (d c : Addr) (n : Nat), vs = [.ref d] ∧ DeckAt H d c n ∧ n + gmB ≤ 600000000 ∧
  ∀ (H' : Hp) (n' : Nat) (v : V) (g : Game), Off d c H H' → DeckAt H' d c n' → n ≤ n' → n' ≤ n + gmB → g.Ok → Dp K H' v g.data → Q v H'
section
variable {X : Cx}
theorem pa_nilN : PA X [] (tNats []) := by
  unfold tNats
  exact pa_nil
theorem pa_consN (n : Nat) {e : Expr} {es : List Expr} {ns : List Nat} (h : PE X e (tC (.int n))) (hs : PA X es (tNats ns)) (st : starEach (e :: es) X.env = (false, eval e X.env) :: starEach es X.env := by rfl) : PA X (e :: es) (tNats (n :: ns)) := by
  unfold tNats at hs ⊢
  exact pa_cons h hs st
theorem pa_nilT : PA X [] (tTups []) := by
  unfold tTups
  exact pa_nil
theorem pa_consT {es rest : List Expr} {x1 : Nat} {pos : Pos} {x : List Nat} {r : List (List Nat)} (h : PA X es (tNats x)) (hs : PA X rest (tTups r)) (st : starEach (.Tuple es x1 pos :: rest) X.env = (false, eval (.Tuple es x1 pos) X.env) :: starEach rest X.env := by rfl) :
    PA X (.Tuple es x1 pos :: rest) (tTups (x :: r)) := by
  unfold tNats at h
  unfold tTups at hs ⊢
  exact pa_cons (pe_tup h) hs st
end
theorem dps_append {K : PySem.W.Frag} {H : Hp} : ∀ {vs ws : List V} {ds es : List PyData}, DpAll K H vs ds → DpAll K H ws es → DpAll K H (vs ++ ws) (ds ++ es)
  | [], _, _, _, .nil, h => h
  | _ :: _, _, _, _, .cons h1 h2, h => .cons h1 (dps_append h2 h)
end Sb
set_option maxHeartbeats 4000000
namespace Sb
open PySem PySem.Spec PyProof.Rows L2
/-! ### what games mean -/
def Exp.val (vs : List Nat) (k : Nat) : Exp → Int
  | .num i => i
  | .key => k
  | .fld f => (vs.getD f 0 : Nat)
  | .bin b x y => if b then x.val vs k + y.val vs k else x.val vs k - y.val vs k
  | .times c e => c * e.val vs k
def Tst.val (vs : List Nat) (k : Nat) : Tst → Bool
  | .cmp b x y => if b then decide (x.val vs k < y.val vs k) else decide (x.val vs k = y.val vs k)
  | .not t => !t.val vs k
mutual
/-- a statement, a block executed: whether the step was ended, the values behind -/
def Sta.run (ss : List Nat) (k : Nat) : Sta → List Nat → Bool × List Nat
  | .set f e, vs => (false, vs.set f (e.val vs k % (ss.getD f 1 : Nat)).toNat)
  | .ite t y n, vs => if t.val vs k then blkRun ss k y vs else blkRun ss k n vs
  | .stop, vs => (true, vs)
def blkRun (ss : List Nat) (k : Nat) : List Sta → List Nat → Bool × List Nat
  | [], vs => (false, vs)
  | s :: r, vs => if (s.run ss k vs).1 then (true, (s.run ss k vs).2) else blkRun ss k r (s.run ss k vs).2
end
def Game.step (g : Game) (w : List Nat) (k : Nat) : List Nat := (blkRun g.sizes k g.blk w).2
def Game.walk (g : Game) : List Nat → List Nat → List (List Nat)
  | w, [] => [w]
  | w, k :: r => w :: g.walk (g.step w k) r
/-! ### worlds stay worlds -/
theorem WorldOf.get {ss ws : List Nat} (h : WorldOf ss ws) : ∀ f, f < ss.length → ∃ s x, ss[f]? = some s ∧ ws[f]? = some x ∧ x < s := by
  induction h with
  | nil => intro f hf; cases hf
  | cons hx _ ih =>
    intro f hf
    cases f with
    | zero => exact ⟨_, _, rfl, rfl, hx⟩
    | succ f => exact ih f (by simpa using hf)
theorem WorldOf.set {ss ws : List Nat} (h : WorldOf ss ws) : ∀ (f s x : Nat), ss[f]? = some s → x < s → WorldOf ss (ws.set f x) := by
  induction h with
  | nil => intro f s x hf; cases hf
  | cons hx hr ih =>
    intro f s x hf hs
    cases f with
    | zero =>
      cases hf
      exact .cons hs hr
    | succ f => exact .cons hx (ih f s x hf hs)
theorem getD_of {xs : List Nat} {f s d : Nat} (h : xs[f]? = some s) : xs.getD f d = s := by
  rw [List.getD_eq_getElem?_getD, h]
  rfl
theorem set_world {ss ws : List Nat} (h : WorldOf ss ws) {f : Nat} {v : Int} (hf : f < ss.length) (hp : ∀ x ∈ ss, 0 < x) : WorldOf ss (ws.set f (v % (ss.getD f 1 : Nat)).toNat) := by
  obtain ⟨s, x, h1, h2, h3⟩ := h.get f hf
  rw [getD_of h1]
  have hs := hp s (List.mem_of_getElem? h1)
  refine h.set f s _ h1 ?_
  have := Int.emod_lt_of_pos v (show (0 : Int) < s by omega)
  have := Int.emod_nonneg v (show (s : Int) ≠ 0 by omega)
  omega
mutual
theorem Sta.run_world {ss : List Nat} {k nf : Nat} (hn : nf = ss.length) (hp : ∀ x ∈ ss, 0 < x) : ∀ (m : Nat) (s : Sta) (ws : List Nat), s.ok nf m → WorldOf ss ws → WorldOf ss (s.run ss k ws).2
  | m, .set f e, ws, ok, h => by
    rw [Sta.run]
    refine set_world h ?_ hp
    cases m with
    | zero => rw [Sta.ok] at ok; omega
    | succ m => rw [Sta.ok] at ok; omega
  | 0, .ite t y n, ws, ok, h => by rw [Sta.ok] at ok; exact ok.elim
  | m + 1, .ite t y n, ws, ok, h => by
    rw [Sta.ok] at ok
    rw [Sta.run]
    by_cases c : t.val ws k = true
    · rw [if_pos c]
      exact blkRun_world hn hp m y ws ok.2.1.2 h
    · rw [if_neg c]
      exact blkRun_world hn hp m n ws ok.2.2.2 h
  | _, .stop, ws, _, h => by rw [Sta.run]; exact h
theorem blkRun_world {ss : List Nat} {k nf : Nat} (hn : nf = ss.length) (hp : ∀ x ∈ ss, 0 < x) : ∀ (m : Nat) (b : List Sta) (ws : List Nat), blkOk nf m b → WorldOf ss ws → WorldOf ss (blkRun ss k b ws).2
  | m, [], ws, _, h => by rw [blkRun]; exact h
  | m, s :: r, ws, ok, h => by
    rw [blkOk] at ok
    rw [blkRun]
    have h1 := Sta.run_world (k := k) hn hp m s ws ok.1 h
    by_cases c : (s.run ss k ws).1 = true
    · rw [if_pos c]
      exact h1
    · rw [if_neg c]
      exact blkRun_world hn hp m r _ ok.2 h1
end
theorem SzOk.pos {ss : List Nat} (h : SzOk ss) : ∀ x ∈ ss, 0 < x := fun x hx => by have := h.rng x hx; omega
theorem Game.step_world {g : Game} {m : Nat} (hb : blkOk g.sizes.length m g.blk) (hp : ∀ x ∈ g.sizes, 0 < x) {w : List Nat} (h : WorldOf g.sizes w) (k : Nat) : WorldOf g.sizes (g.step w k) := blkRun_world rfl hp m g.blk w hb h
theorem Game.walk_len (g : Game) : ∀ (ks w : List Nat), (g.walk w ks).length = ks.length + 1
  | [], _ => rfl
  | k :: r, w => by rw [Game.walk, List.length_cons, Game.walk_len g r, List.length_cons]
theorem Game.walk_world {g : Game} {m : Nat} (hb : blkOk g.sizes.length m g.blk) (hp : ∀ x ∈ g.sizes, 0 < x) : ∀ (ks w : List Nat), WorldOf g.sizes w → ∀ u ∈ g.walk w ks, WorldOf g.sizes u
  | [], w, h, u, hu => by
    rw [Game.walk, List.mem_singleton] at hu
    rw [hu]
    exact h
  | k :: r, w, h, u, hu => by
    rw [Game.walk] at hu
    rcases List.mem_cons.mp hu with rfl | hu
    · exact h
    · exact Game.walk_world hb hp r _ (Game.step_world hb hp h k) u hu
/-! ### parts of data -/
theorem tyx_tup {K : PySem.W.Frag} {H : Hp} {a : Addr} {xs : List V} (h : SqT K H a xs) : TyX K H (.ref a) (.type "tuple") := by
  rcases h with (h | ⟨o, h⟩) | ⟨o, its, n, h1, h2, _⟩
  · exact .base (.tup h)
  · exact .fTuple h
  · exact .kTuple h1 h2
theorem dp_tup {K : PySem.W.Frag} {H : Hp} {v : V} {ds : List PyData} (h : Dp K H v (.tuple ds)) : ∃ a vs, v = .ref a ∧ SqT K H a vs ∧ DpAll K H vs ds := by
  cases h with
  | tup hs ha => exact ⟨_, _, rfl, hs, ha⟩
theorem dps_uncons {K : PySem.W.Frag} {H : Hp} {vs : List V} {d : PyData} {ds : List PyData} (h : DpAll K H vs (d :: ds)) : ∃ v ws, vs = v :: ws ∧ Dp K H v d ∧ DpAll K H ws ds := by
  cases h with
  | cons h1 h2 => exact ⟨_, _, rfl, h1, h2⟩
theorem dps_none {K : PySem.W.Frag} {H : Hp} {vs : List V} (h : DpAll K H vs []) : vs = [] := by
  cases h
  rfl
theorem dp_t1 {K : PySem.W.Frag} {H : Hp} {v : V} {x : PyData} (h : Dp K H v (.tuple [x])) : ∃ a v1, v = .ref a ∧ SqT K H a [v1] ∧ Dp K H v1 x := by
  obtain ⟨a, vs, rfl, hs, ha⟩ := dp_tup h
  obtain ⟨v1, r1, rfl, h1, g1⟩ := dps_uncons ha
  obtain rfl := dps_none g1
  exact ⟨a, v1, rfl, hs, h1⟩
theorem dp_t2 {K : PySem.W.Frag} {H : Hp} {v : V} {x y : PyData} (h : Dp K H v (.tuple [x, y])) : ∃ a v1 v2, v = .ref a ∧ SqT K H a [v1, v2] ∧ Dp K H v1 x ∧ Dp K H v2 y := by
  obtain ⟨a, vs, rfl, hs, ha⟩ := dp_tup h
  obtain ⟨v1, r1, rfl, h1, g1⟩ := dps_uncons ha
  obtain ⟨v2, r2, rfl, h2, g2⟩ := dps_uncons g1
  obtain rfl := dps_none g2
  exact ⟨a, v1, v2, rfl, hs, h1, h2⟩
theorem dp_t3 {K : PySem.W.Frag} {H : Hp} {v : V} {x y z : PyData} (h : Dp K H v (.tuple [x, y, z])) : ∃ a v1 v2 v3, v = .ref a ∧ SqT K H a [v1, v2, v3] ∧ Dp K H v1 x ∧ Dp K H v2 y ∧ Dp K H v3 z := by
  obtain ⟨a, vs, rfl, hs, ha⟩ := dp_tup h
  obtain ⟨v1, r1, rfl, h1, g1⟩ := dps_uncons ha
  obtain ⟨v2, r2, rfl, h2, g2⟩ := dps_uncons g1
  obtain ⟨v3, r3, rfl, h3, g3⟩ := dps_uncons g2
  obtain rfl := dps_none g3
  exact ⟨a, v1, v2, v3, rfl, hs, h1, h2, h3⟩
theorem dp_t4 {K : PySem.W.Frag} {H : Hp} {v : V} {x y z u : PyData} (h : Dp K H v (.tuple [x, y, z, u])) : ∃ a v1 v2 v3 v4, v = .ref a ∧ SqT K H a [v1, v2, v3, v4] ∧ Dp K H v1 x ∧ Dp K H v2 y ∧ Dp K H v3 z ∧ Dp K H v4 u := by
  obtain ⟨a, vs, rfl, hs, ha⟩ := dp_tup h
  obtain ⟨v1, r1, rfl, h1, g1⟩ := dps_uncons ha
  obtain ⟨v2, r2, rfl, h2, g2⟩ := dps_uncons g1
  obtain ⟨v3, r3, rfl, h3, g3⟩ := dps_uncons g2
  obtain ⟨v4, r4, rfl, h4, g4⟩ := dps_uncons g3
  obtain rfl := dps_none g4
  exact ⟨a, v1, v2, v3, v4, rfl, hs, h1, h2, h3, h4⟩
theorem dp_str {K : PySem.W.Frag} {H : Hp} {v : V} {x : Str} (h : Dp K H v (.str x)) : v = .str x := by cases h; rfl
theorem dp_int {K : PySem.W.Frag} {H : Hp} {v : V} {x : Int} (h : Dp K H v (.int x)) : v = .int x := by cases h; rfl
theorem dpall_nats {K : PySem.W.Frag} {H : Hp} : ∀ {vs : List V} {ns : List Nat}, DpAll K H vs (ns.map natD) → vs = ns.map natV
  | _, [], h => by cases h; rfl
  | _, n :: ns, h => by
    cases h with
    | cons h1 h2 =>
      cases h1
      rw [dpall_nats h2]
      rfl
theorem dp_nats {K : PySem.W.Frag} {H : Hp} {v : V} {ns : List Nat} (h : Dp K H v (.tuple (ns.map natD))) : ∃ a, v = .ref a ∧ SqT K H a (ns.map natV) := by
  obtain ⟨a, vs, rfl, hs, ha⟩ := dp_tup h
  rw [dpall_nats ha] at hs
  exact ⟨a, rfl, hs⟩
theorem atI_natV {ns : List Nat} {f : Nat} (h : f < ns.length) : atI (ns.map natV) (f : Int) = some (natV (ns.getD f 0)) := by
  refine atI_nat ?_
  rw [List.getElem?_map, List.getElem?_eq_getElem h, List.getD_eq_getElem?_getD, List.getElem?_eq_getElem h]
  rfl
/-! ### the promises of what executes games -/
/-- values, a list or a tuple -/
def Vls (K : PySem.W.Frag) (H : Hp) (a : Addr) (ns : List Nat) : Prop := SqL K H a (ns.map natV) ∨ SqT K H a (ns.map natV)
def spVal (K : PySem.W.Frag) : Nat → Sp
  | 0 => fun _ _ _ _ => False
  | D + 1 => fun vs H Q _ => ∃ (v : V) (a : Addr) (ns : List Nat) (k : Nat) (wk : Bool) (e : Exp), vs = [v, .ref a, .int k] ∧ Dp K H v e.data ∧ Vls K H a ns ∧ e.ok ns.length wk (D + 1) ∧ Q (.int (e.val ns k)) H
def spTru (K : PySem.W.Frag) : Nat → Sp
  | 0 => fun _ _ _ _ => False
  | n + 1 => fun vs H Q _ => ∃ (v : V) (a : Addr) (ns : List Nat) (k : Nat) (t : Tst), vs = [v, .ref a, .int k] ∧ Dp K H v t.data ∧ Vls K H a ns ∧ t.ok ns.length n ∧ Q (.bl (t.val ns k)) H
def spGo (K : PySem.W.Frag) : Nat → Sp
  | 0 => fun _ _ _ _ => False
  | m + 1 => fun vs H Q _ => ∃ (v : V) (z a : Addr) (ss ns : List Nat) (k : Nat) (b : List Sta), vs = [v, .ref z, .ref a, .int k] ∧ Dp K H v (.tuple (blkData b)) ∧ SqT K H z (ss.map natV) ∧ (∀ x ∈ ss, 0 < x) ∧ H a = some (.lst (ns.map natV)) ∧ WorldOf ss ns ∧ blkOk ss.length m b ∧
    ∀ H', But [a] H H' → H' a = some (.lst ((blkRun ss k b ns).2.map natV)) → Q (.bl (blkRun ss k b ns).1) H'
def spStep (K : PySem.W.Frag) : Sp := fun vs H Q _ => ∃ (v : V) (w : Addr) (g : Game) (ns : List Nat) (k : Nat), vs = [v, .ref w, .int k] ∧ Dp K H v g.data ∧ SzOk g.sizes ∧ blkOk g.sizes.length 3 g.blk ∧ SqT K H w (ns.map natV) ∧ WorldOf g.sizes ns ∧
  ∀ (H' : Hp) (p : Addr), Same H H' → H p = none → H' p = some (.tup ((g.step ns k).map natV)) → Q (.ref p) H'
theorem Vls.but {K : PySem.W.Frag} {H : Hp} {a : Addr} {ns : List Nat} (h : H a = some (.lst (ns.map natV))) : Vls K H a ns := .inl (.inl (.inl h))
theorem dps_get {K : PySem.W.Frag} {H : Hp} : ∀ {vs : List V} {b : List Sta} {i : Nat} {x : V}, DpAll K H vs (blkData b) → vs[i]? = some x → ∃ st, b.drop i = st :: b.drop (i + 1) ∧ Dp K H x st.data
  | vs, [], i, x, h, hx => by
    rw [blkData] at h
    rw [dps_none h] at hx
    simp at hx
  | vs, s :: r, 0, x, h, hx => by
    rw [blkData] at h
    obtain ⟨v, ws, rfl, h1, _⟩ := dps_uncons h
    cases hx
    exact ⟨s, rfl, h1⟩
  | vs, s :: r, i + 1, x, h, hx => by
    rw [blkData] at h
    obtain ⟨v, ws, rfl, _, h2⟩ := dps_uncons h
    exact dps_get (b := r) (i := i) h2 (by simpa using hx)
theorem blkOk_get {nf m : Nat} : ∀ {b : List Sta} {i : Nat} {st : Sta} {r : List Sta}, blkOk nf m b → b.drop i = st :: r → st.ok nf m
  | [], i, st, r, _, e => by simp at e
  | s :: b, 0, st, r, h, e => by
    rw [blkOk] at h
    cases e
    exact h.1
  | s :: b, i + 1, st, r, h, e => by
    rw [blkOk] at h
    exact blkOk_get (b := b) (i := i) h.2 e
theorem run_stop {ss : List Nat} {k : Nat} {r : List Sta} {ns : List Nat} : blkRun ss k (.stop :: r) ns = (true, ns) := by
  rw [blkRun, Sta.run, if_pos rfl]
theorem run_set {ss : List Nat} {k f : Nat} {e : Exp} {r : List Sta} {ns : List Nat} : blkRun ss k (.set f e :: r) ns = blkRun ss k r (ns.set f (e.val ns k % (ss.getD f 1 : Nat)).toNat) := by
  rw [blkRun, Sta.run, if_neg (by simp)]
theorem run_ite {ss : List Nat} {k : Nat} {t : Tst} {y n r : List Sta} {ns : List Nat} : blkRun ss k (.ite t y n :: r) ns =
    (if (blkRun ss k (if t.val ns k then y else n) ns).1 then (true, (blkRun ss k (if t.val ns k then y else n) ns).2) else blkRun ss k r (blkRun ss k (if t.val ns k then y else n) ns).2) := by
  rw [blkRun, Sta.run]
  by_cases c : t.val ns k = true
  · rw [if_pos c, if_pos c]
  · rw [if_neg c, if_neg c]
theorem map_set_natV {ns : List Nat} {f : Nat} {v : Int} (h : 0 ≤ v) : (ns.map natV).set f (.int v) = (ns.set f v.toNat).map natV := by
  rw [List.map_set]
  have : natV v.toNat = V.int v := by
    unfold natV
    rw [Int.toNat_of_nonneg h]
  rw [this]
theorem getD_eq {xs : List Nat} {f : Nat} (h : f < xs.length) : xs.getD f 0 = xs.getD f 1 := by
  rw [List.getD_eq_getElem?_getD, List.getD_eq_getElem?_getD, List.getElem?_eq_getElem h]
  rfl
theorem getD_mem {xs : List Nat} {f d : Nat} (h : f < xs.length) : xs.getD f d ∈ xs := by
  rw [List.getD_eq_getElem?_getD, List.getElem?_eq_getElem h]
  exact List.getElem_mem h
theorem Kpt.one {H H' : Hp} {a : Addr} {ys : List V} (s : But [a] H H') (h : H a = some (.lst ys)) : Kpt H H' := Kpt.but s fun x hx => by
  rw [List.mem_singleton] at hx
  rw [hx]
  exact ⟨_, h⟩
end Sb
set_option maxHeartbeats 1000000
namespace Sb
open PySem PySem.Spec PyProof.Rows L2
/-! ### data whose text is bounded -/
structure Tame (d : PyData) (a w : Nat) : Prop where
  s : d.showable = true
  h : d.hasDict = false
  l : d.leavesShort 8 = true
  p : d.depth ≤ a
  w : d.weight ≤ w
structure TameAll (ds : List PyData) (a w : Nat) : Prop where
  s : PyData.showableAll ds = true
  h : PyData.hasDictAll ds = false
  l : PyData.leavesShortAll 8 ds = true
  p : PyData.depthAll ds ≤ a
  w : PyData.weightAll ds ≤ w
theorem Tame.mono {d : PyData} {a b w v : Nat} (t : Tame d a w) (h1 : a ≤ b) (h2 : w ≤ v) : Tame d b v := ⟨t.s, t.h, t.l, Nat.le_trans t.p h1, Nat.le_trans t.w h2⟩
theorem TameAll.mono {d : List PyData} {a b w v : Nat} (t : TameAll d a w) (h1 : a ≤ b) (h2 : w ≤ v) : TameAll d b v := ⟨t.s, t.h, t.l, Nat.le_trans t.p h1, Nat.le_trans t.w h2⟩
theorem TameAll.nil {a : Nat} : TameAll [] a 0 := ⟨rfl, rfl, rfl, by rw [PyData.depthAll]; exact Nat.zero_le _, by rw [PyData.weightAll]; exact Nat.le_refl _⟩
theorem TameAll.cons {d : PyData} {ds : List PyData} {a w v : Nat} (t : Tame d a w) (ts : TameAll ds a v) : TameAll (d :: ds) a (w + 1 + v) := by
  refine ⟨?_, ?_, ?_, ?_, ?_⟩
  · rw [PyData.showableAll, t.s, ts.s]
    rfl
  · rw [PyData.hasDictAll, t.h, ts.h]
    rfl
  · rw [PyData.leavesShortAll, t.l, ts.l]
    rfl
  · have := t.p
    have := ts.p
    rw [PyData.depthAll]
    omega
  · have := t.w
    have := ts.w
    rw [PyData.weightAll]
    omega
theorem TameAll.tup {ds : List PyData} {a w : Nat} (t : TameAll ds a w) : Tame (.tuple ds) (a + 1) w := by
  refine ⟨?_, ?_, ?_, ?_, ?_⟩
  · rw [PyData.showable]; exact t.s
  · rw [PyData.hasDict]; exact t.h
  · rw [PyData.leavesShort]; exact t.l
  · have := t.p
    rw [PyData.depth]; omega
  · rw [PyData.weight]; exact t.w
theorem TameAll.lst {ds : List PyData} {a w : Nat} (t : TameAll ds a w) : Tame (.list ds) (a + 1) w := by
  refine ⟨?_, ?_, ?_, ?_, ?_⟩
  · rw [PyData.showable]; exact t.s
  · rw [PyData.hasDict]; exact t.h
  · rw [PyData.leavesShort]; exact t.l
  · have := t.p
    rw [PyData.depth]; omega
  · rw [PyData.weight]; exact t.w
theorem Tame.fine {d : PyData} {a w : Nat} (t : Tame d a w) (ha : a ≤ 50) : Fine d (10 * w + 8) := by
  refine ⟨t.s, t.h, Nat.le_trans t.p ha, ?_⟩
  have := PyData.shown_le 8 (by decide) d t.l
  have := t.w
  omega
theorem tame_int {i : Int} (h1 : -9 ≤ i) (h2 : i ≤ 9) : Tame (.int i) 0 4 := by
  have h : i = -9 ∨ i = -8 ∨ i = -7 ∨ i = -6 ∨ i = -5 ∨ i = -4 ∨ i = -3 ∨ i = -2 ∨ i = -1 ∨ i = 0 ∨ i = 1 ∨ i = 2 ∨ i = 3 ∨ i = 4 ∨ i = 5 ∨ i = 6 ∨ i = 7 ∨ i = 8 ∨ i = 9 := by omega
  rcases h with rfl | rfl | rfl | rfl | rfl | rfl | rfl | rfl | rfl | rfl | rfl | rfl | rfl | rfl | rfl | rfl | rfl | rfl | rfl <;> exact ⟨by decide +kernel, by decide +kernel, by decide +kernel, by decide +kernel, by decide +kernel⟩
theorem tame_nat {n : Nat} (h : n ≤ 9) : Tame (natD n) 0 4 := tame_int (by omega) (by omega)
def strB (x : Str) : Bool := (PyData.leavesShort 8 (.str x)) && decide (x.cps.size ≤ 5)
theorem tame_str {x : Str} (h : strB x = true) : Tame (.str x) 0 5 := by
  unfold strB at h
  rw [Bool.and_eq_true] at h
  refine ⟨rfl, rfl, h.1, by rw [PyData.depth]; exact Nat.le_refl _, ?_⟩
  rw [PyData.weight]
  exact of_decide_eq_true h.2
theorem tame_nats : ∀ {ns : List Nat}, (∀ x ∈ ns, x ≤ 9) → TameAll (ns.map natD) 0 (5 * ns.length)
  | [], _ => .nil
  | n :: r, h => by
    rw [List.map_cons]
    refine (TameAll.cons (tame_nat (h n (List.mem_cons_self ..))) (tame_nats (ns := r) fun x hx => h x (List.mem_cons_of_mem _ hx))).mono (Nat.le_refl _) ?_
    rw [List.length_cons]
    omega
def EW : Nat → Nat
  | 0 => 2
  | d + 1 => 2 * EW d + 8
theorem Exp.tame {nf : Nat} {wk : Bool} (hn : nf ≤ 4) : ∀ (d : Nat) (e : Exp), e.ok nf wk d → Tame e.data d (EW d)
  | 0, e, h => by rw [Exp.ok] at h; exact h.elim
  | d + 1, .num i, h => by
    rw [Exp.data, EW]
    exact (tame_int h.1 h.2).mono (by omega) (by omega)
  | d + 1, .key, _ => by
    rw [Exp.data, EW]
    exact (tame_str (by decide +kernel)).mono (by omega) (by omega)
  | d + 1, .fld f, h => by
    have h : f < nf := h
    rw [Exp.data, EW]
    have a := ((tame_str (x := "field") (by decide +kernel)).mono (Nat.le_refl 0) (Nat.le_refl 5)).1
    refine (TameAll.tup (a := 0) (TameAll.cons (tame_str (by decide +kernel)) (TameAll.cons (tame_int (i := (f : Int)) (by omega) (by omega)) .nil))).mono (by omega) ?_
    cases d with
    | zero => decide
    | succ d => rw [EW]; omega
  | d + 1, .bin b x y, h => by
    rw [Exp.data, EW]
    have hs : strB (pm b) = true := by cases b <;> decide +kernel
    refine (TameAll.tup (a := d) (TameAll.cons ((tame_str hs).mono (Nat.zero_le _) (Nat.le_refl _)) (TameAll.cons (Exp.tame hn d x h.1) (TameAll.cons (Exp.tame hn d y h.2) .nil)))).mono (by omega) ?_
    omega
  | 0 + 1, .times k x, h => by
    have := h.2.2
    rw [Exp.ok] at this
    exact this.elim
  | d + 1 + 1, .times k x, h => by
    rw [Exp.data]
    refine (TameAll.tup (a := d + 1) (TameAll.cons ((tame_str (by decide +kernel)).mono (Nat.zero_le _) (Nat.le_refl _)) (TameAll.cons ((tame_int h.1 h.2.1).mono (Nat.zero_le _) (Nat.le_refl _)) (TameAll.cons (Exp.tame hn (d + 1) x h.2.2) .nil)))).mono (by omega) ?_
    rw [show EW (d + 1 + 1) = 2 * EW (d + 1) + 8 from rfl, show EW (d + 1) = 2 * EW d + 8 from rfl]
    omega
theorem Tst.tame {nf : Nat} (hn : nf ≤ 4) : ∀ (n : Nat) (t : Tst), t.ok nf n → Tame t.data (4 + n) (152 + 7 * n)
  | n, .cmp b x y, h => by
    have h : x.ok nf true 3 ∧ y.ok nf true 3 := by
      cases n with
      | zero => exact h
      | succ n => exact h
    rw [Tst.data]
    have hs : strB (ls b) = true := by cases b <;> decide +kernel
    have e3 : EW 3 = 72 := by decide
    refine (TameAll.tup (a := 3) (TameAll.cons ((tame_str hs).mono (Nat.zero_le _) (Nat.le_refl _)) (TameAll.cons (Exp.tame hn 3 x h.1) (TameAll.cons (Exp.tame hn 3 y h.2) .nil)))).mono (by omega) ?_
    rw [e3]
    omega
  | 0, .not t, h => by rw [Tst.ok] at h; exact h.elim
  | n + 1, .not t, h => by
    rw [Tst.data]
    refine (TameAll.tup (a := 4 + n) (TameAll.cons ((tame_str (by decide +kernel)).mono (Nat.zero_le _) (Nat.le_refl _)) (TameAll.cons (Tst.tame hn n t h) .nil))).mono (by omega) ?_
    omega
theorem Sta.cnt_pos : ∀ s : Sta, 1 ≤ s.cnt
  | .set _ _ => by rw [Sta.cnt]; exact Nat.le_refl _
  | .ite _ _ _ => by rw [Sta.cnt]; omega
  | .stop => by rw [Sta.cnt]; exact Nat.le_refl _
mutual
theorem Sta.tame {nf : Nat} (hn : nf ≤ 4) : ∀ (m : Nat) (s : Sta), s.ok nf m → Tame s.data (7 + 2 * m) (200 * s.cnt - 1)
  | m, .set f e, h => by
    have h : f < nf ∧ e.ok nf true 3 := by
      cases m with
      | zero => rw [Sta.ok] at h; exact h
      | succ m => rw [Sta.ok] at h; exact h
    rw [Sta.data, Sta.cnt]
    have e3 : EW 3 = 72 := by decide
    refine (TameAll.tup (a := 3) (TameAll.cons ((tame_str (by decide +kernel)).mono (Nat.zero_le _) (Nat.le_refl _)) (TameAll.cons ((tame_int (i := (f : Int)) (by omega) (by omega)).mono (Nat.zero_le _) (Nat.le_refl _)) (TameAll.cons (Exp.tame hn 3 e h.2) .nil)))).mono (by omega) ?_
    rw [e3]
    omega
  | 0, .ite t y n, h => by rw [Sta.ok] at h; exact h.elim
  | m + 1, .ite t y n, h => by
    rw [Sta.ok] at h
    rw [Sta.data, Sta.cnt]
    have ty := TameAll.tup (blk_tame hn m y h.2.1.2)
    have tn := TameAll.tup (blk_tame hn m n h.2.2.2)
    have tt := Tst.tame hn 2 t h.1
    refine (TameAll.tup (a := 8 + 2 * m) (TameAll.cons ((tame_str (by decide +kernel)).mono (Nat.zero_le _) (Nat.le_refl _)) (TameAll.cons (tt.mono (by omega) (Nat.le_refl _)) (TameAll.cons (ty.mono (by omega) (Nat.le_refl _)) (TameAll.cons (tn.mono (by omega) (Nat.le_refl _)) .nil))))).mono (by omega) ?_
    omega
  | m, .stop, _ => by
    rw [Sta.data, Sta.cnt]
    refine (TameAll.tup (a := 0) (TameAll.cons (tame_str (by decide +kernel)) .nil)).mono (by omega) ?_
    omega
theorem blk_tame {nf : Nat} (hn : nf ≤ 4) : ∀ (m : Nat) (b : List Sta), blkOk nf m b → TameAll (blkData b) (7 + 2 * m) (200 * blkCnt b)
  | _, [], _ => by
    rw [blkData, blkCnt]
    exact TameAll.nil
  | m, s :: r, h => by
    rw [blkOk] at h
    rw [blkData, blkCnt]
    refine (TameAll.cons (Sta.tame hn m s h.1) (blk_tame hn m r h.2)).mono (Nat.le_refl _) ?_
    have := Sta.cnt_pos s
    omega
end
theorem WorldOf.le {ss ws : List Nat} (h : WorldOf ss ws) (hs : ∀ x ∈ ss, x ≤ 6) : ∀ x ∈ ws, x ≤ 9 := by
  induction h with
  | nil => intro x hx; cases hx
  | cons hx _ ih =>
    intro y hy
    rcases List.mem_cons.mp hy with rfl | hy
    · have := hs _ (List.mem_cons_self ..)
      omega
    · exact ih (fun z hz => hs z (List.mem_cons_of_mem _ hz)) y hy
def worldD (ws : List Nat) : PyData := .tuple (ws.map natD)
theorem world_tame {ss ws : List Nat} (hz : SzOk ss) (h : WorldOf ss ws) : Tame (worldD ws) 1 20 := by
  have hl := h.len
  have := hz.len
  exact (TameAll.tup (tame_nats (h.le fun x hx => (hz.rng x hx).2))).mono (Nat.le_refl _) (by omega)
theorem worlds_tame {ss : List Nat} (hz : SzOk ss) : ∀ {us : List (List Nat)}, (∀ u ∈ us, WorldOf ss u) → TameAll (us.map worldD) 1 (21 * us.length)
  | [], _ => .nil
  | u :: r, h => by
    rw [List.map_cons, List.length_cons]
    exact (TameAll.cons (world_tame hz (h u (List.mem_cons_self ..))) (worlds_tame hz (us := r) fun x hx => h x (List.mem_cons_of_mem _ hx))).mono (Nat.le_refl _) (by omega)
theorem Game.tame {g : Game} (h : g.Ok) : Tame g.data 15 4000 := by
  have hs : TameAll (g.sizes.map natD) 0 (5 * g.sizes.length) := tame_nats fun x hx => by have := h.sz.rng x hx; omega
  have hf := world_tame h.sz h.fst
  have hb := blk_tame h.sz.len 3 g.blk h.blk
  have hl := h.sz.len
  have hc := h.cnt
  have hk := h.k3
  unfold Game.data
  refine (TameAll.tup (a := 14) (TameAll.cons (hs.tup.mono (by omega) (Nat.le_refl _)) (TameAll.cons ((tame_int (i := (g.keys : Int)) (by omega) (by omega)).mono (Nat.zero_le _) (Nat.le_refl _)) (TameAll.cons (hf.mono (by omega) (Nat.le_refl _)) (TameAll.cons (hb.tup.mono (by omega) (Nat.le_refl _)) .nil))))).mono (by omega) ?_
  omega
theorem Game.fine {g : Game} (h : g.Ok) : Fine g.data 40008 := (Game.tame h).fine (by decide)
end Sb
set_option maxHeartbeats 1000000
namespace Sb
open PySem PySem.Spec PyProof.Rows L2
/-! ### displays of constant data -/
mutual
def tData0 : PyData → TE
  | .int i => tC (.int i)
  | .str x => tC (.str x)
  | .bool b => tC (.bl b)
  | .none => tC .non
  | .tuple ds => tTup (tDatas0 ds)
  | .list _ => fun _ _ _ => False
  | .dict _ => fun _ _ _ => False
def tDatas0 : List PyData → TA
  | [] => tNil
  | d :: r => tCons (tData0 d) (tDatas0 r)
end
mutual
def disp : PyData → Bool
  | .int _ | .str _ | .bool _ | .none => true
  | .tuple ds => decide (ds.length ≤ 1000) && disps ds
  | .list _ | .dict _ => false
def disps : List PyData → Bool
  | [] => true
  | d :: r => disp d && disps r
end
mutual
theorem tData0_ok {K : PySem.W.Frag} {σ : L2.St} : ∀ (d : PyData) {H : Hp} {Q : VK}, disp d = true → (∀ (v : V) (H' : Hp), Same H H' → Dp K H' v d → Q v H') → tData0 d σ H Q
  | .int i, H, Q, _, q => q _ H (fun _ _ e => e) (.int i)
  | .str x, H, Q, _, q => q _ H (fun _ _ e => e) (.str x)
  | .bool b, H, Q, _, q => q _ H (fun _ _ e => e) (.bl b)
  | .none, H, Q, _, q => q _ H (fun _ _ e => e) .non
  | .tuple ds, H, Q, h, q => by
    rw [disp, Bool.and_eq_true] at h
    refine tDatas0_ok (K := K) ds h.2 fun vs H1 s1 h1 => ⟨?_, fun p np => ?_⟩
    · rw [dps_len h1]
      exact Nat.le_of_lt (small1000 (of_decide_eq_true h.1))
    · exact q _ _ (s1.trans (same_new np)) (.tup (.inl (.inl upd_same)) (dps_up (same_new np) _ _ h1))
  | .list _, _, _, h, _ => by rw [disp] at h; cases h
  | .dict _, _, _, h, _ => by rw [disp] at h; cases h
theorem tDatas0_ok {K : PySem.W.Frag} {σ : L2.St} : ∀ (ds : List PyData) {H : Hp} {Q : List V → Hp → Prop}, disps ds = true → (∀ (vs : List V) (H' : Hp), Same H H' → DpAll K H' vs ds → Q vs H') → tDatas0 ds σ H Q
  | [], H, Q, _, q => q [] H (fun _ _ e => e) .nil
  | d :: r, H, Q, h, q => by
    rw [disps, Bool.and_eq_true] at h
    refine tData0_ok (K := K) d h.1 fun v H1 s1 h1 => ?_
    refine tDatas0_ok (K := K) r h.2 fun vs H2 s2 h2 => ?_
    exact q (v :: vs) H2 (s1.trans s2) (.cons (dp_up s2 _ _ h1) h2)
end
@[irreducible] def tData (d : PyData) : TE := tData0 d
@[irreducible] def tDatas (ds : List PyData) : TA := tDatas0 ds
theorem tData_ok {K : PySem.W.Frag} {σ : L2.St} (d : PyData) {H : Hp} {Q : VK} (h : disp d = true) (q : ∀ (v : V) (H' : Hp), Same H H' → Dp K H' v d → Q v H') : tData d σ H Q := by
  unfold tData
  exact tData0_ok d h q
section
variable {X : Cx} {e : Expr}
theorem pe_dI {i : Int} (h : PE X e (tC (.int i))) : PE X e (tData (.int i)) := by
  unfold tData
  exact h
theorem pe_dS {x : Str} (h : PE X e (tC (.str x))) : PE X e (tData (.str x)) := by
  unfold tData
  exact h
theorem pe_dT {es : List Expr} {x1 : Nat} {pos : Pos} {ds : List PyData} (h : PA X es (tDatas ds)) : PE X (.Tuple es x1 pos) (tData (.tuple ds)) := by
  unfold tDatas at h
  unfold tData
  exact pe_tup h
theorem pa_dN : PA X [] (tDatas []) := by
  unfold tDatas
  exact pa_nil
theorem pa_dC {es : List Expr} {d : PyData} {ds : List PyData} (h : PE X e (tData d)) (hs : PA X es (tDatas ds)) (st : starEach (e :: es) X.env = (false, eval e X.env) :: starEach es X.env := by rfl) : PA X (e :: es) (tDatas (d :: ds)) := by
  unfold tData at h
  unfold tDatas at hs ⊢
  exact pa_cons h hs st
/-- a if t else b, kept together -/
@[irreducible] def tIfO (tt : TT) (ta tb : TE) : TE := tIf tt ta tb
theorem pe_ifO {c a b : Expr} {pos : Pos} {tt : TT} {ta tb : TE} (h1 : PT X c tt) (h2 : PE X a ta) (h3 : PE X b tb) : PE X (.IfExp c a b pos) (tIfO tt ta tb) := by
  unfold tIfO
  exact pe_ifExp h1 h2 h3
end
/-! ### what a program's step and walk promise -/
def spPStep (K : PySem.W.Frag) : Sp := fun vs H Q _ => ∃ (v : V) (w : Addr) (g : Game) (ns : List Nat) (k : Nat), vs = [v, .ref w, .int k] ∧ Dp K H v g.data ∧ g.Ok ∧ SqT K H w (ns.map natV) ∧ WorldOf g.sizes ns ∧ k < g.keys ∧
  ∀ (H' : Hp) (p : Addr), Same H H' → SqT K H' p ((g.step ns k).map natV) → Q (.ref p) H'
def spPWalk (K : PySem.W.Frag) : Sp := fun vs H Q _ => ∃ (v : V) (w t : Addr) (g : Game) (ns ks : List Nat), vs = [v, .ref w, .ref t] ∧ Dp K H v g.data ∧ g.Ok ∧ SqT K H w (ns.map natV) ∧ WorldOf g.sizes ns ∧ SqT K H t (ks.map natV) ∧ (∀ k ∈ ks, k < g.keys) ∧ ks.length ≤ 400 ∧
  ∀ (H' : Hp) (p : Addr), Same H H' → Dp K H' (.ref p) (.tuple ((g.walk ns ks).map worldD)) → Q (.ref p) H'
/-- a world as data -/
theorem dp_world {K : PySem.W.Frag} {H : Hp} {p : Addr} {ns : List Nat} (h : SqT K H p (ns.map natV)) : Dp K H (.ref p) (worldD ns) := .tup h (dps_nats ns)
theorem world_dp {K : PySem.W.Frag} {H : Hp} {v : V} {ns : List Nat} (h : Dp K H v (worldD ns)) : ∃ a, v = .ref a ∧ SqT K H a (ns.map natV) := dp_nats h
theorem worldD_tup (ns : List Nat) : tupOnly (worldD ns) = true := by
  unfold worldD
  rw [tupOnly]
  induction ns with
  | nil => rfl
  | cons n r ih =>
    rw [List.map_cons, tupOnlyAll, ih]
    rfl
theorem nats_tup : ∀ ns : List Nat, tupOnlyAll (ns.map natD) = true
  | [] => rfl
  | n :: r => by rw [List.map_cons, tupOnlyAll, nats_tup r]; rfl
theorem Game.tup (g : Game) : tupOnly g.data = true := by
  unfold Game.data
  rw [tupOnly, tupOnlyAll, tupOnlyAll, tupOnlyAll, tupOnlyAll, tupOnlyAll, tupOnly, tupOnly, tupOnly, tupOnly, nats_tup, nats_tup, blk_tup]
  rfl
/-- the game that k25 knows by heart -/
def turnedG : Game := ⟨[2, 3], 1, [0, 0], [.set 0 (.fld 1), .set 1 (.fld 0), .stop, .set 1 (.num 2)]⟩
theorem turned_data : turnedG.data = .tuple [.tuple [.int 2, .int 3], .int 1, .tuple [.int 0, .int 0], .tuple [.tuple [.str "set", .int 0, .tuple [.str "field", .int 1]], .tuple [.str "set", .int 1, .tuple [.str "field", .int 0]], .tuple [.str "stop"], .tuple [.str "set", .int 1, .int 2]]] := by
  unfold Game.data turnedG
  simp [blkData, Sta.data, Exp.data, natD]
theorem turned_ok : turnedG.Ok := by
  refine ⟨szOk_of (by decide), by decide, by decide, .cons (by decide) (.cons (by decide) .nil), ?_, by decide, ?_⟩
  · show blkOk 2 3 [.set 0 (.fld 1), .set 1 (.fld 0), .stop, .set 1 (.num 2)]
    rw [blkOk, blkOk, blkOk, blkOk, blkOk]
    exact ⟨Sta.ok_set (by decide) (by show 1 < 2; decide) 3, Sta.ok_set (by decide) (by show 0 < 2; decide) 3, Sta.ok_stop 3, Sta.ok_set (f := 1) (e := .num 2) (by decide) (by show (-9 : Int) ≤ 2 ∧ (2 : Int) ≤ 9; decide) 3, trivial⟩
  · show blkCnt [.set 0 (.fld 1), .set 1 (.fld 0), .stop, .set 1 (.num 2)] ≤ 16
    simp [blkCnt, Sta.cnt]
theorem turned_1 : turnedG.step [0, 2] 0 = [0, 0] := by
  simp [Game.step, turnedG, blkRun, Sta.run, Exp.val]
theorem turned_2 : turnedG.step [1, 1] 0 = [1, 1] := by
  simp [Game.step, turnedG, blkRun, Sta.run, Exp.val]
/-- the text of several worlds -/
theorem worlds_fine {ss : List Nat} (hz : SzOk ss) {us : List (List Nat)} (h : ∀ u ∈ us, WorldOf ss u) (hl : us.length ≤ 500) : Fine (.list (us.map worldD)) 200000 ∧ Fine (.tuple (us.map worldD)) 200000 := by
  have t := worlds_tame hz h
  have e : 10 * (21 * us.length) + 8 ≤ 200000 := by omega
  exact ⟨by have f := t.lst.fine (by decide); exact ⟨f.1, f.2.1, f.2.2.1, Nat.le_trans f.2.2.2 e⟩, by have f := t.tup.fine (by decide); exact ⟨f.1, f.2.1, f.2.2.1, Nat.le_trans f.2.2.2 e⟩⟩
theorem game_parts {K : PySem.W.Frag} {H : Hp} {p : Addr} {g : Game} (h : Dp K H (.ref p) g.data) : ∃ (ps pf : Addr) (vb : V), SqT K H p [.ref ps, .int g.keys, .ref pf, vb] ∧ SqT K H ps (g.sizes.map natV) := by
  obtain ⟨a, v1, v2, v3, v4, e, hp, h1, h2, h3, h4⟩ := dp_t4 h
  cases e
  obtain ⟨ps, rfl, hs⟩ := dp_nats h1
  obtain ⟨pf, rfl, _⟩ := dp_nats h3
  obtain rfl := dp_int h2
  exact ⟨ps, pf, v4, hp, hs⟩
theorem draw_if {i j : Nat} {x y m z : Int} {σ : L2.St} {H : Hp} {Q : VK} {d c : Addr} {n : Nat} (h1 : σ[i]? = some (some (V.int x))) (h2 : σ[j]? = some (some (V.ref d))) (hD : DeckAt H d c n) (hn : n ≤ 1000000000) (hm : 0 < m) (hm2 : m < 1073741824) (hz : 0 ≤ z) (hz2 : z < m)
    (q : ∀ (H' : Hp) (n' : Nat) (v : Int), Off d c H H' → DeckAt H' d c n' → n ≤ n' → n' ≤ n + 1 → 0 ≤ v → v < m → Q (.int v) H') :
    tIfO (tTest (tOp rEq (tVar i) (tC (V.int y)))) (tCall spDraw [] E0 (tCons (tVar j) (tCons (tC (V.int m)) tNil))) (tC (V.int z)) σ H Q := by
  unfold tIfO
  refine ⟨_, h1, rfl, _, rfl, ?_⟩
  refine ite2 (fun _ => ?_) (fun _ => ?_)
  · exact ⟨_, h2, d, c, n, m, rfl, hD, hn, hm, hm2, fun H' v o hD' v0 v1 => q H' (n + 1) v o hD' (by omega) (by omega) v0 v1⟩
  · exact q H n z (Off.refl _ _ _) hD (by omega) (by omega) hz hz2
theorem walk_snoc {g : Game} : ∀ {ks w : List Nat} {us : List (List Nat)} {u : List Nat} {k : Nat}, g.walk w ks = us ++ [u] → g.walk w (ks ++ [k]) = us ++ [u] ++ [g.step u k]
  | [], w, us, u, k, h => by
    rw [Game.walk] at h
    have e : us = [] ∧ u = w := by
      cases us with
      | nil => exact ⟨rfl, (List.cons.inj h).1.symm⟩
      | cons x r =>
        have := congrArg List.length h
        simp at this
    rw [e.1, e.2]
    rfl
  | a :: r, w, us, u, k, h => by
    rw [Game.walk] at h
    cases us with
    | nil =>
      have := congrArg List.length h
      rw [List.length_cons, Game.walk_len] at this
      simp at this
    | cons x us =>
      have h' := List.cons.inj h
      rw [List.cons_append, Game.walk, walk_snoc h'.2, h'.1]
      rfl
theorem walk_last {g : Game} : ∀ (ks w : List Nat), ∃ us u, g.walk w ks = us ++ [u]
  | [], w => ⟨[], w, rfl⟩
  | k :: r, w => by
    obtain ⟨us, u, h⟩ := walk_last (g := g) r (g.step w k)
    exact ⟨w :: us, u, by rw [Game.walk, h]; rfl⟩
theorem atI_last {vs : List V} {x : V} : atI (vs ++ [x]) (-1) = some x := by
  unfold atI ixN
  rw [if_neg (by omega), if_pos (by rw [List.length_append, List.length_singleton]; omega), List.length_append, List.length_singleton]
  show (vs ++ [x])[(-1 + ((vs.length + 1 : Nat) : Int)).toNat]? = some x
  rw [show (-1 + ((vs.length + 1 : Nat) : Int)).toNat = vs.length by omega, List.getElem?_append_right (Nat.le_refl _), Nat.sub_self]
  rfl
theorem gmB_le : gmB ≤ 500000 := by
  unfold gmB
  decide
end Sb
set_option maxHeartbeats 4000000
namespace Sb
open PySem PySem.Spec PyProof.Rows L2
section
variable {prog : Program} {w : World} {A : Around} {E : Value → Shared → Prop} {s : Shared}
theorem adjust_rev (n : Nat) : Builtin.Slice.sliceAdjust none none (-1) (n : Int) = ((n : Int) - 1, -1) := by
  unfold Builtin.Slice.sliceAdjust
  simp
theorem places_rev (n : Nat) : Builtin.Slice.slicePlaces ((n : Int) - 1) (-1) (-1) = n := by
  unfold Builtin.Slice.slicePlaces
  have h1 : ¬ ((-1 : Int) > 0) := by omega
  simp only [h1, if_false]
  have e : (- -1 : Int) = 1 := by decide
  rw [e, Int.ediv_one]
  split <;> omega
theorem sliceApplied_rev {sl : Addr} {vl vu vs : Value} {n : Nat} {Q : Int × Int × Nat → Shared → Prop} (hs : s.heap.IsSliceOf sl vl vu vs) (pl : IsPart vl none) (pu : IsPart vu none) (pk : IsPart vs (some (-1)))
    (h : Q ((n : Int) - 1, -1, n) s) : wpAny (model prog w) A (Builtin.Slice.sliceApplied (.ref sl) (pure (n : Int))) Q E s := by
  obtain ⟨os, hos, hcs, hds⟩ := id hs
  unfold Builtin.Slice.sliceApplied Builtin.Slice.sliceFields
  refine wpAny_bind (wpAny_bind (wpAny_field hos hds (x := vl) rfl (wpAny_bind (wpAny_field hos hds (x := vu) rfl (wpAny_bind (wpAny_field hos hds (x := vs) rfl (wpAny_pure ?_)))))))
  refine wpAny_bind (HT.slicePart_ pk ?_)
  show wpAny _ _ (if ((-1 : Int) == 0) = true then _ else _) _ _ s
  rw [if_neg (by decide)]
  refine wpAny_bind (HT.slicePart_ pl (wpAny_bind (HT.slicePart_ pu (wpAny_bind (wpAny_pure ?_)))))
  show wpAny _ _ (match Builtin.Slice.sliceAdjust none none (-1) (n : Int) with | (lo, hi) => pure (lo, (-1 : Int), Builtin.Slice.slicePlaces lo hi (-1))) _ _ s
  rw [adjust_rev n]
  show wpAny _ _ (pure ((n : Int) - 1, (-1 : Int), Builtin.Slice.slicePlaces ((n : Int) - 1) (-1) (-1))) _ _ s
  rw [places_rev]
  exact wpAny_pure h
theorem fmap_congr {α β : Type} {f g : α → Option β} : ∀ {l : List α}, (∀ x ∈ l, f x = g x) → l.filterMap f = l.filterMap g
  | [], _ => rfl
  | a :: r, h => by
    rw [List.filterMap_cons, List.filterMap_cons, h a List.mem_cons_self, fmap_congr (l := r) fun x hx => h x (List.mem_cons_of_mem _ hx)]
theorem pick_rev (xs : Array Value) : ((List.range xs.size).filterMap fun (m : Nat) => xs[((xs.size : Int) - 1 + (m : Int) * (-1)).toNat]?).toArray = xs.toList.reverse.toArray := by
  have e : ((List.range xs.size).filterMap fun (m : Nat) => xs[((xs.size : Int) - 1 + (m : Int) * (-1)).toNat]?) = (((List.range xs.size).map fun k => xs.size - 1 - k).filterMap (xs[·]?)) := by
    rw [List.filterMap_map]
    refine fmap_congr fun m hm => ?_
    have := List.mem_range.mp hm
    have e2 : ((xs.size : Int) - 1 + (m : Int) * (-1)).toNat = xs.size - 1 - m := by omega
    show _ = xs[xs.size - 1 - m]?
    rw [e2]
  rw [e, PySem.W.krv_range, List.filterMap_reverse, PySem.W.krv_all]
theorem getItem_tuple_rev {t sl : Addr} {items : Array Value} {vl vu vs : Value} {Q : Value → Shared → Prop} (ht : IsTup s.heap t items) (hs : s.heap.IsSliceOf sl vl vu vs) (pl : IsPart vl none) (pu : IsPart vu none) (pk : IsPart vs (some (-1)))
    (h : Q (.ref s.heap.objs.size) { s with heap := s.heap.push { cls := .type "tuple", data := .seq items.toList.reverse.toArray } })
    (hsz : items.size ≤ sizeLine) : wpAny (model prog w) A (getItem (.ref t) (.ref sl)) Q E s := by
  have htake : sizeOk (.seq items.toList.reverse.toArray) := by
    show items.toList.reverse.toArray.size ≤ sizeLine
    rw [List.size_toArray, List.length_reverse, Array.length_toList]
    exact hsz
  obtain ⟨os, hos, hcs, hds⟩ := id hs
  have hTs : s.TypeIs (.ref sl) "slice" := ⟨os, hos, hcs⟩
  unfold getItem
  try with_reducible refine wpAny_holding ?_
  first | refine wpAny_bind (wpAny_pure ?_) | skip
  refine wpAny_bind (wpAny_sequenceKey ht.typeIs (by decide) ?_)
  refine wpAny_bind (wpAny_callSpecial?_slot (name := Str.ofString "__getitem__") ht.typeIs PyProof.Rows.slot_tuple_getitem
    (wpAny_call_entry PyProof.Rows.slot_tuple_getitem ht.typeIs entry_tuple_getitem ?_ (args_tuple_getitem _ _)))
  show wpAny _ _ (Builtin.Tuple.tupleItemsOf (.ref t) >>= _) _ _ s
  refine wpAny_bind (tupleItemsOf_ ht ?_)
  refine wpAny_bind (wpAny_typeOf hTs ?_)
  rw [if_pos (by decide)]
  refine wpAny_bind (sliceApplied_rev hs pl pu pk ?_)
  have hno : ¬ ((((items.size : Int) - 1) == 0 && (-1 : Int) == 1 && items.size == items.size) = true) := by
    intro q
    rw [Bool.and_eq_true, Bool.and_eq_true] at q
    exact absurd q.1.2 (by decide)
  show wpAny _ _ (if (((items.size : Int) - 1) == 0 && (-1 : Int) == 1 && items.size == items.size) = true then _ else _) _ _ s
  rw [if_neg hno, pick_rev]
  first
    | exact wpAny_bind (m := Builtin.Tuple.tupleExact _) (wpAny_newObj_type (wpAny_pure ⟨_, rfl, wpAny_pure h⟩) htake)
    | exact wpAny_bind (m := Builtin.Tuple.tupleExact _) (wpAny_newObj_type (wpAny_bind (wpAny_pure (wpAny_pure ⟨_, rfl, wpAny_pure h⟩))) htake)
    | exact wpAny_bind (wpAny_bind (m := Builtin.Tuple.tupleExact _) (wpAny_newObj_type (wpAny_pure (wpAny_pure ⟨_, rfl, wpAny_pure h⟩)) htake))
    | exact wpAny_bind (wpAny_bind (m := Builtin.Tuple.tupleExact _) (wpAny_newObj_type (wpAny_pure ⟨_, rfl, wpAny_pure h⟩) htake))
end
section
variable {X : Cx}
/-- t[::-1] of a tuple -/
def tRevT (K : PySem.W.Frag) (te : TE) : TE := fun σ H Q => te σ H fun x H1 => ∃ a xs, x = .ref a ∧ SqT K H1 a xs ∧ ∀ p, H1 p = none → Q (.ref p) (upd H1 p (.tup xs.reverse))
theorem pe_revT {e : Expr} {te : TE} {k : Nat} {p1 p2 p3 pos : Pos} (he : PE X e te) : PE X (.Subscript e (.Slice none none (some (.UnaryOp .USub (.Constant (.int 1) k p1) p2)) p3) pos) (tRevT X.K te) := by
  refine ⟨fun pins s σ H Q I h => ?_⟩
  refine Subscript_ (thn (he.run pins s σ H _ I h) fun v s1 ⟨x, H1, I1, r1, q1⟩ => ?_)
  obtain ⟨a, xs, ex, hx, q⟩ := q1
  subst ex
  cases r1
  have hst : PO X (some (.UnaryOp .USub (.Constant (.int 1) k p1) p2)) (tPart (tUn (rU fun i => .int (-i)) (tC (.int 1)))) := po_some (pe_un un_neg pe_int)
  refine wpAny_Slice (thn (po_none.run pins s1 σ H1 (fun o H2 => o = none ∧ H2 = H1) I1 ⟨rfl, rfl⟩) fun vl s2 ⟨l, H2, I2, pl, el, e2⟩ => ?_)
  subst el e2
  refine thn (po_none.run pins s2 σ H2 (fun o H3 => o = none ∧ H3 = H2) I2 ⟨rfl, rfl⟩) fun vu s3 ⟨u, H3, I3, pu, eu, e3⟩ => ?_
  subst eu e3
  refine thn (hst.run pins s3 σ H3 (fun o H4 => o = some (-1) ∧ H4 = H3) I3 ⟨1, rfl, -1, rfl, rfl, rfl⟩) fun vs s4 ⟨o, H4, I4, ps, eo, e4⟩ => ?_
  subst eo e4
  have I5 : Inv X pins σ H4 { s4 with heap := s4.heap.push { cls := .type "slice", data := .fields #[vl, vu, vs] } } := I4.kept (t' := s4.toks) fun b ob q => Heap.get?_push_of_some _ q
  obtain ⟨its, r, ht, hz⟩ := I5.tuple hx
  have hlen := r.length
  show wpAny (model X.prog X.w) X.A (subscriptTail e (.Slice none none (some (.UnaryOp .USub (.Constant (.int 1) k p1) p2)) p3) (.ref a) (.ref s4.heap.objs.size)) (EP X pins σ Q) X.xe { s4 with heap := s4.heap.push { cls := .type "slice", data := .fields #[vl, vu, vs] } }
  refine tail_any (ops := [.ref a, .ref s4.heap.objs.size]) ht.typeIs (PyProof.Rows.slot_tuple_getitem.lookup) ?_ (by with_unfolding_all rfl)
  refine getItem_tuple_rev ht (Heap.IsSliceOf.new _ vl vu vs) pl pu ps ?_ (by rw [List.size_toArray]; omega)
  refine ⟨.ref _, _, I5.laid (t' := s4.toks) (o := .tup xs.reverse) (fun b ob q => Heap.get?_push_of_some _ q) (Nat.le_refl _) ?_, rfl, q _ (I5.hok.fresh (Nat.le_refl _))⟩
  exact ⟨by rw [List.length_reverse]; exact hz, _, r.reverse, IsTup.new _ _⟩
end
/-! ### xs.extend(t), t a tuple -/
theorem list_extend_tup (l : Addr) (items : Array Value) (n : Nat) (b : Addr) (items2 : Array Value) (n2 : Nat) (dc : Option Addr) (sl : Array (Option Value)) (hs0 : ¬(!items.isEmpty && Builtin.List.listTooLong (items.size + items2.size)) = true) (hs1 : items.size ≤ sizeLine) (hs2 : items.size + items2.size ≤ sizeLine + 1 := by seq_fits) :
    Meets (Builtin.«list.extend» ⟨[.ref l, .ref b], []⟩) (fun _ R s => s.heap.get? l = some { cls := .type "list", dict := none, data := .seq items n, slots := #[] } ∧ s.heap.get? b = some { cls := .type "tuple", dict := dc, data := .seq items2 n2, slots := sl } ∧ R (.ok (.ret Value.none)) { s with heap := s.heap.update l (Obj.mapSeq fun x => x ++ items2), toks := s.toks }) :=
  .of_wp fun prog w A R s h => by
    obtain ⟨hp, g, d, tk, os⟩ := s; obtain ⟨hl, hb, h⟩ := h; have f1 := AutoSeq1.idx_int; have f2 := AutoSeq1.sub_tuple_tuple; have f3 := AutoSeq1.sub_list_list; have f4 := AutoSeq1.sub_tuple_list; have f5 := AutoSeq1.sub_list_tuple;
    have hz' : (items ++ items2).size ≤ sizeLine + 1 := by rw [Array.size_append]; exact hs2
    wp_walk using (wpAny_updateSeq hl rfl (hz := hs1) (_hz' := hz')), AutoSeq1.wpAny_loadPart' hl, AutoSeq1.wpAny_loadPart' hb; exact ⟨_, rfl, h⟩
def rExtendT (K : PySem.W.Frag) : V → List V → Hp → VK → Prop := fun x vs H Q => ∃ l b xs zs, x = .ref l ∧ vs = [.ref b] ∧ H l = some (.lst xs) ∧ SqT K H b zs ∧ xs.length + zs.length ≤ sizeLine ∧ Q .non (upd H l (.lst (xs ++ zs)))
theorem mt_extendT {X : Cx} : MtM X "list.extend" (rExtendT X.K) := by
  intro pins s σ H x vs v us Q I rx rv h
  obtain ⟨l, b, xs, zs, rfl, rfl, hH, hB, hz, q⟩ := h
  cases rx
  obtain ⟨u, rfl, ru⟩ := rv.one
  cases ru
  obtain ⟨z, its, n, r, hl, e⟩ := I.lstM hH
  obtain ⟨its2, r2, ⟨⟨cls, dc, dat, sl⟩, e2, hc2, n2, hd2⟩, _⟩ := I.tuple hB
  dsimp only at hc2 hd2
  subst hc2 hd2
  have hl2 := r2.length
  have hsz : its.toArray.size + its2.toArray.size ≤ sizeLine := by rw [List.size_toArray, List.size_toArray]; omega
  have hlong : ¬ (!its.toArray.isEmpty && Builtin.List.listTooLong (its.toArray.size + its2.toArray.size)) = true := by
    rw [notLongL hsz, Bool.and_false]
    exact Bool.false_ne_true
  refine call_meets F.slot_list_extend ⟨_, e, rfl⟩ F.entry_list_extend (F.args_list_extend_2 _ _)
    (list_extend_tup l its.toArray n b its2.toArray n2 dc sl hlong (by rw [List.size_toArray]; omega) (by omega)) ⟨e, e2, ?_⟩
  refine ⟨.non, _, I.lset (its' := its ++ its2) hH e (by simp) (r.append r2) ?_, rfl, q⟩
  rw [List.length_append]
  omega
end Sb
set_option maxHeartbeats 1000000
namespace Sb
open PySem PySem.Spec PyProof.Rows L2
/-! ### a def with defaults -/
structure DnD (K : PySem.W.Frag) (mg : Str → Option Value) (x : Str) (st : Stmt) (dvs : List V) (ps : List Str) (f : Addr) (fd : FuncData) : Prop where
  F : FunD K x x (defArgs st) (defBody st) (defScope st) dvs [] f fd
  b : Binds K fd ps []
  bd : ∃ ds, Vals dvs ds ∧ Binds K fd ps ds
  g : mg x = some (.ref f)
section
variable {P : Program} {w : World} {K : PySem.W.Frag} {mg : Str → Option Value} {base : Heap}
theorem okD {x qual : Str} {st : Stmt} {dvs : List V} {f : Addr} {fd : FuncData} {N ps : List Str} {k : Nat} {sp : Sp} (F : FunD K x qual (defArgs st) (defBody st) (defScope st) dvs [] f fd) (S : FnScope N ps (defScope st)) (len : ∀ vs H Q E, sp vs H Q E → vs.length = ps.length)
    (hbody : ∀ (cdv : Value) (A : Around) (outer : List Env) (s : Shared) (H : Hp) (vs : List V) (Q : VK) (E : XK), Room k (A.deeper (envOfC qual (defScope st) s.heap.objs.size f cdv)) → sp vs H Q E →
      ∃ t, PSs (cxOf CX0 P w K mg base N qual (defScope st) f cdv A outer s H E).nox (defBody st) t ∧ t { nx := fun _ H' => Q .non H', rt := Q } (start N vs) H) : FnOk P w K mg base CX0 (k + 1) f fd ps sp :=
  F.ok S len fun cdv A outer s H vs Q E hr hsp => by
    obtain ⟨t, h, q⟩ := hbody cdv A outer s H vs Q E hr hsp
    exact ⟨t, h.nox, q⟩
end
/-! ### stacks of statements -/
theorem blkRun_append {ss : List Nat} {k : Nat} : ∀ (a b : List Sta) (vs : List Nat), blkRun ss k (a ++ b) vs = if (blkRun ss k a vs).1 then (true, (blkRun ss k a vs).2) else blkRun ss k b (blkRun ss k a vs).2
  | [], b, vs => by
    rw [List.nil_append, blkRun, if_neg (by simp)]
  | s :: r, b, vs => by
    rw [List.cons_append, blkRun, blkRun]
    by_cases c : (s.run ss k vs).1 = true
    · rw [if_pos c, if_pos c, if_pos rfl]
    · rw [if_neg c, if_neg c, blkRun_append r b]
theorem run_ite2 {ss : List Nat} {k : Nat} {t : Tst} {y n r : List Sta} {ns : List Nat} : blkRun ss k (.ite t y n :: r) ns = blkRun ss k ((if t.val ns k then y else n) ++ r) ns := by
  rw [run_ite, blkRun_append]
mutual
theorem Sta.ok_up {nf : Nat} : ∀ (m : Nat) (s : Sta), s.ok nf m → s.ok nf (m + 1)
  | 0, .set f e, h => by rw [Sta.ok] at h ⊢; exact h
  | _ + 1, .set f e, h => by rw [Sta.ok] at h ⊢; exact h
  | 0, .ite t y n, h => by rw [Sta.ok] at h; exact h.elim
  | m + 1, .ite t y n, h => by
    rw [Sta.ok] at h ⊢
    exact ⟨h.1, ⟨h.2.1.1, blkOk_up m y h.2.1.2⟩, ⟨h.2.2.1, blkOk_up m n h.2.2.2⟩⟩
  | 0, .stop, _ => by rw [Sta.ok]; trivial
  | _ + 1, .stop, _ => by rw [Sta.ok]; trivial
theorem blkOk_up {nf : Nat} : ∀ (m : Nat) (b : List Sta), blkOk nf m b → blkOk nf (m + 1) b
  | m, [], _ => by rw [blkOk]; trivial
  | m, s :: r, h => by
    rw [blkOk] at h ⊢
    exact ⟨Sta.ok_up m s h.1, blkOk_up m r h.2⟩
end
theorem len_cnt : ∀ b : List Sta, b.length ≤ blkCnt b
  | [] => Nat.zero_le _
  | s :: r => by
    have := len_cnt r
    have h : 1 ≤ s.cnt := by cases s <;> rw [Sta.cnt] <;> omega
    rw [blkCnt, List.length_cons]
    omega
/-! ### expressions compared with a text -/
theorem Exp.lay {nf : Nat} {wk : Bool} : ∀ (D : Nat) (e : Exp), e.ok nf wk D → PyData.canLay0 e.data = true ∧ e.data.depth ≤ D
  | 0, _, h => by rw [Exp.ok] at h; exact h.elim
  | D + 1, .num i, _ => ⟨rfl, by rw [Exp.data, PyData.depth]; omega⟩
  | D + 1, .key, _ => ⟨by rw [Exp.data]; decide +kernel, by rw [Exp.data, PyData.depth]; omega⟩
  | D + 1, .fld f, _ => ⟨by
      rw [Exp.data, PyData.canLay0, PyData.canLayAll0, PyData.canLayAll0, PyData.canLayAll0, PyData.canLay0]
      have : PyData.canLay0 (.str "field") = true := by decide +kernel
      rw [this]; rfl, by
      rw [Exp.data, PyData.depth, PyData.depthAll, PyData.depthAll, PyData.depthAll, PyData.depth, PyData.depth]; omega⟩
  | D + 1, .bin b x y, h => by
    have hx := Exp.lay D x h.1
    have hy := Exp.lay D y h.2
    have : PyData.canLay0 (.str (pm b)) = true := by cases b <;> decide +kernel
    refine ⟨?_, ?_⟩
    · rw [Exp.data, PyData.canLay0, PyData.canLayAll0, PyData.canLayAll0, PyData.canLayAll0, PyData.canLayAll0, this, hx.1, hy.1]; rfl
    · rw [Exp.data, PyData.depth, PyData.depthAll, PyData.depthAll, PyData.depthAll, PyData.depthAll, PyData.depth]; omega
  | D + 1, .times k x, h => by
    have hx := Exp.lay D x h.2.2
    have : PyData.canLay0 (.str "times") = true := by decide +kernel
    refine ⟨?_, ?_⟩
    · rw [Exp.data, PyData.canLay0, PyData.canLayAll0, PyData.canLayAll0, PyData.canLayAll0, PyData.canLayAll0, this, hx.1, PyData.canLay0]; rfl
    · rw [Exp.data, PyData.depth, PyData.depthAll, PyData.depthAll, PyData.depthAll, PyData.depthAll, PyData.depth, PyData.depth]; omega
theorem Exp.shaped {nf : Nat} {wk : Bool} {D : Nat} {e : Exp} (h : e.ok nf wk D) (hD : D ≤ 3) : SeqAt.shaped e.data = true := by
  obtain ⟨a, b⟩ := Exp.lay D e h
  unfold SeqAt.shaped
  rw [a, decide_eq_true (by omega)]
  rfl
theorem key_shaped : SeqAt.shaped (.str "key") = true := by decide +kernel
theorem Exp.val_nokey {nf : Nat} (vs : List Nat) (k k' : Nat) : ∀ (D : Nat) (e : Exp), e.ok nf false D → e.val vs k = e.val vs k'
  | 0, _, h => by rw [Exp.ok] at h; exact h.elim
  | D + 1, .num i, _ => rfl
  | D + 1, .key, h => by
    have h : false = true := h
    cases h
  | D + 1, .fld f, _ => rfl
  | D + 1, .bin b x y, h => by
    rw [Exp.val, Exp.val, Exp.val_nokey vs k k' D x h.1, Exp.val_nokey vs k k' D y h.2]
  | D + 1, .times c x, h => by
    rw [Exp.val, Exp.val, Exp.val_nokey vs k k' D x h.2.2]
theorem dpall_last {K : PySem.W.Frag} {H : Hp} {x : V} {d : PyData} : ∀ {vs : List V} {ds : List PyData}, DpAll K H (vs ++ [x]) (ds ++ [d]) → Dp K H x d
  | [], [], h => by
    obtain ⟨v, ws, e, h1, _⟩ := dps_uncons h
    cases e
    exact h1
  | [], e :: es, h => by
    have := dps_len h
    simp at this
  | v :: vs, [], h => by
    have := dps_len h
    simp at this
  | v :: vs, e :: es, h => by
    obtain ⟨v', ws, e', _, h2⟩ := dps_uncons (ds := es ++ [d]) h
    cases e'
    exact dpall_last h2
theorem worldDs_tup : ∀ us : List (List Nat), tupOnlyAll (us.map worldD) = true
  | [] => rfl
  | u :: r => by rw [List.map_cons, tupOnlyAll, worldD_tup, worldDs_tup r]; rfl
/-! ### what the program's own evaluator promises -/
def spPVal (K : PySem.W.Frag) : Nat → Sp
  | 0 => fun _ _ _ _ => False
  | D + 1 => fun vs H Q _ => ∃ (v : V) (a : Addr) (ns : List Nat) (k : Nat) (wk : Bool) (kv : V) (e : Exp), vs = [v, .ref a, kv] ∧ (wk = true → kv = .int k) ∧ Dp K H v e.data ∧ Vls K H a ns ∧ e.ok ns.length wk (D + 1) ∧ D ≤ 2 ∧ Q (.int (e.val ns k)) H
end Sb
set_option maxHeartbeats 4000000
namespace Sb
open PySem PySem.Spec PyProof.Rows L2
/-! ### enumerate(t), t a tuple -/
theorem meets_enumT (l : Addr) (items : Array Value) (n : Nat) (dct : Option Addr) (sl : Array (Option Value)) :
    Meets (Builtin.«enumerate.__new__» ⟨[.type "enumerate", .ref l], []⟩) (fun _ R s => s.heap.get? l = some { cls := .type "tuple", dict := dct, data := .seq items n, slots := sl } ∧
      R (.ok (.ret (.ref (s.heap.push { cls := .type "tuple_iterator", data := .fields #[.ref l, .int 0 0] }).objs.size)))
        { s with heap := (s.heap.push { cls := .type "tuple_iterator", data := .fields #[.ref l, .int 0 0] }).push { cls := .type "enumerate", data := .fields #[.none, .bool false, .ref s.heap.objs.size, rawInt 0, .none, .none] } }) :=
  .of_wp fun prog w A R s h => by
    obtain ⟨hp, g, d, tk, os⟩ := s; obtain ⟨hl, h⟩ := h
    have hsub := sub_enumerate
    have hL : Heap.IsTuple (Shared.heap ⟨hp, g, d, tk, os⟩) l items := ⟨_, hl, rfl, n, rfl⟩
    wp_walk using AutoSeq1.wpAny_loadPart' hl
    refine wpAny_stack_any fun st => wpAny_pure ?_
    split
    · rename_i c _ _ _ _ _
      cases (c == Value.type "enumerate")
      · wp_walk using AutoSeq1.wpAny_loadPart' hl, wpAny_pyIter_tuple hL
        exact ⟨_, rfl, h⟩
      · wp_walk using AutoSeq1.wpAny_loadPart' hl, wpAny_pyIter_tuple hL
        exact ⟨_, rfl, h⟩
    · wp_walk using AutoSeq1.wpAny_loadPart' hl, wpAny_pyIter_tuple hL
      exact ⟨_, rfl, h⟩
theorem call_enumT {prog : Program} {w : World} {A : Around} {E : Value → Shared → Prop} {s : Shared} {l : Addr} {items : Array Value} {Q : Value → Shared → Prop} (hL : IsTup s.heap l items)
    (h : ∀ h', IsEnum h' (s.heap.objs.size + 1) s.heap.objs.size 0 .none → h'.IsTupleIter s.heap.objs.size l 0 →
      (∀ b o, s.heap.get? b = some o → h'.get? b = some o) → Q (.ref (s.heap.objs.size + 1)) { s with heap := h' }) :
    wpAny (model prog w) A (call (.type "enumerate") [.ref l]) Q E s := by
  obtain ⟨⟨c, dct, dt, sl⟩, hl, hc, n, hd⟩ := hL
  dsimp only at hc hd
  subst hc hd
  refine callType_new F.called_enumerate (by decide) (F.typeCall_enumerate_1 _) (F.newCall_enumerate_1 _) (fun obj => F.args_object_init_2 obj _) F.entry_enumerate_new
    (meets_enumT l items n dct sl) ⟨hl, ?_⟩
  have hz : (s.heap.push { cls := .type "tuple_iterator", data := .fields #[.ref l, .int 0 0] }).objs.size = s.heap.objs.size + 1 := Heap.size_push ..
  show _ ∧ _
  rw [hz]
  have he : IsEnum ((s.heap.push { cls := .type "tuple_iterator", data := .fields #[.ref l, .int 0 0] }).push
      { cls := .type "enumerate", data := .fields #[.none, .bool false, .ref s.heap.objs.size, rawInt 0, .none, .none] }) (s.heap.objs.size + 1) s.heap.objs.size 0 .none := by
    have := Heap.get?_push_size (s.heap.push { cls := .type "tuple_iterator", data := .fields #[.ref l, .int 0 0] })
      (o := { cls := .type "enumerate", data := .fields #[.none, .bool false, .ref s.heap.objs.size, rawInt 0, .none, .none] }) rfl
    rw [hz] at this
    exact this
  exact ⟨⟨_, he, rfl⟩, h _ he ⟨_, Heap.get?_push_of_some _ (Heap.get?_push_size _ rfl), rfl, rfl⟩ fun b o x => Heap.get?_push_of_some _ (Heap.get?_push_of_some _ x)⟩
theorem pyNext_enumT_end {prog : Program} {w : World} {A : Around} {E : Value → Shared → Prop} {s : Shared} {e it a : Addr} {i : Nat} {items : Array Value} {old : Value} {Q : Option Value → Shared → Prop} (hh : A.handled = none)
    (he : IsEnum s.heap e it ((i : Nat) : Int) old) (hit : s.heap.IsTupleIter it a i) (hl : IsTup s.heap a items) (hx : items[i]? = none) (hQ : ∀ h', Heap.ExtBut it s.heap h' → Q none { s with heap := h' }) : wpAny (model prog w) A (pyNext (.ref e)) Q E s := by
  have hT : s.TypeIs (.ref e) "enumerate" := ⟨_, he, rfl⟩
  unfold pyNext
  refine wpAny_bind (wpAny_attempt (wpAny_callSpecial?_slot (name := Str.ofString "__next__") hT F.slot_enumerate_next
    (wpAny_call_entry F.slot_enumerate_next hT F.entry_enumerate_next ?_ (F.args_enumerate_next_1 _))))
  show wpAny _ _ (field (.ref e) 2 >>= _) _ _ _
  refine wpAny_bind (wpAny_field he rfl (x := .ref it) rfl ?_)
  refine wpAny_bind (wpAny_nextOf_tuple_end hh hit hl hx fun h' x he' hx' => ?_)
  obtain ⟨o, ho, hc⟩ := hx'
  exact wpAny_bind (wpAny_isInstance (T := "StopIteration") (b := true) ⟨o, ho, hc⟩ isSubtype_stop (wpAny_pure (hQ _ he')))
/-- the tuple at a, each item in a new pair -/
def IteT (K : PySem.W.Frag) (a : Addr) : It :=
  ⟨fun i H => ∃ (xs : List V) (x : V), SqT K H a xs ∧ xs[i]? = some x, fun i H v H' => ∃ T x, v = .ref T ∧ H T = none ∧ H' = upd H T (.tup [.int (i : Nat), x]) ∧ ∀ xs, SqT K H a xs → xs[i]? = some x, fun i H => ∃ xs : List V, SqT K H a xs ∧ xs.length ≤ i⟩
theorem turn_enumT {P : Program} {w : World} {K : PySem.W.Frag} {elts : List Expr} {kk : Nat} {tpos : Pos} (a e it : Addr) (hae : a ≠ e) (hai : a ≠ it) :
    Turn P w K (.Tuple elts kk tpos) (IteT K a) [e, it] e (fun i h => (∃ old, IsEnum h e it ((i : Nat) : Int) old) ∧ h.IsTupleIter it a i ∧ e ≠ it) where
  mem := List.mem_cons_self ..
  obj := fun i h st b hb => by
    obtain ⟨⟨old, he⟩, ⟨o, ho, hc, hd⟩, _⟩ := st
    rcases (show b = e ∨ b = it by simpa using hb) with rfl | rfl
    · exact ⟨_, he, fun v q => nomatch q⟩
    · exact ⟨o, ho, fun v q => by rw [hd] at q; cases q⟩
  keep := fun i h h' ⟨⟨old, he⟩, hi, hne⟩ k => ⟨⟨old, k e (by simp) _ he⟩, hi.at fun o q => k it (by simp) o q, hne⟩
  item := by
    intro X hP hw hK hc i pins s σ H E I hf st hg
    subst hP hw hK
    obtain ⟨⟨old, he⟩, hit, hne⟩ := st
    obtain ⟨xs, x, hq, hx⟩ := hg
    obtain ⟨its, rv, p, hz⟩ := I.tuple hq
    obtain ⟨u, hu, ru⟩ := rv.get hx
    have hel : e < s.heap.objs.size := Heap.lt_size he
    have hil : it < s.heap.objs.size := by obtain ⟨_, q, _⟩ := hit; exact Heap.lt_size q
    have hlt : i < its.toArray.size := by
      rw [List.size_toArray]
      exact (List.getElem?_eq_some_iff.mp hu).1
    refine wpAny_pyNext_enum_itemD (Draws.tuple (prog := X.prog) (w := X.w) (A := X.A.in1) (I.ok.hd hc) it a hai its.toArray) he ⟨hit, p⟩ hlt hne (by simp [hne, hae.symm]) fun y h' tk hy ho hst' hT hsz hk => ?_
    obtain ⟨hit', _⟩ := hst'
    have ey : y = u := by
      have hy' : its[i]? = some y := by simpa using hy
      rw [hu] at hy'
      exact (Option.some.inj hy').symm
    subst ey
    refine ⟨_, rfl, wpAny_letOwnedTupleGo_enum (s := { s with heap := h', toks := tk + 1 }) ho fun h'' he' sb => ?_⟩
    have hT2 : h''.get? s.heap.objs.size = some { cls := .type "tuple", data := .seq #[.int i tk, y] } := (sb.2 _ (Nat.ne_of_gt hel)).trans hT
    have new : ObjOk X.prog X.w (upd H s.heap.objs.size (.tup [.int (i : Nat), x])) h'' s.heap.objs.size (.tup [.int (i : Nat), x]) :=
      ⟨by show 2 ≤ sizeLine; decide, [.int i tk, y], .cons ⟨_, rfl⟩ (.cons ru .nil), ⟨_, hT2, rfl, _, rfl⟩⟩
    have I1 : Inv X pins σ (upd H s.heap.objs.size (.tup [.int (i : Nat), x])) { s with heap := h'', toks := tk + 1 } :=
      I.turnedNew (ch := [e, it]) (fun b ob hb q => (sb.2 b (fun z => hb (by simp [z]))).trans (hk b ob (fun z => hb (by simp [z])) (fun z => hb (by simp [z])) q)) hf (Nat.le_refl _) new
    refine ⟨.ref s.heap.objs.size, _, I1, rfl, ⟨_, x, rfl, I.hok.fresh (Nat.le_refl _), rfl, fun ys hy => by rw [I.tuple_inj hy hq]; exact hx⟩, ⟨⟨y, ?_⟩, hit'.at fun o q => (sb.2 it (Ne.symm hne)).trans q, hne⟩, fun b hb => ?_⟩
    · rw [show ((i + 1 : Nat) : Int) = (i : Int) + 1 by omega]
      exact he'
    · have hb' : b < s.heap.objs.size := by
        rcases (show b = e ∨ b = it by simpa using hb) with rfl | rfl
        · exact hel
        · exact hil
      rw [upd_ne (Nat.ne_of_lt hb')]
      exact (hf b hb).1
  done := by
    intro X hP hw hK hc i pins s σ H E I hf st hg
    subst hP hw hK
    obtain ⟨⟨old, he⟩, hit, hne⟩ := st
    obtain ⟨xs, hq, hx⟩ := hg
    obtain ⟨its, rv, p, hz⟩ := I.tuple hq
    obtain ⟨f0, f1, f2, f3, f4, f5⟩ := hf it (by simp)
    have hl := rv.length
    exact pyNext_enumT_end (I.ok.hd hc) he hit p (by simp; omega) fun h' eb => ⟨rfl, I.turned (t' := s.toks) (fun b o hb q => eb b o hb q) f0 f1 f3 f4 f5⟩
  self := fun A i s Q E st h => let ⟨⟨_, he⟩, _⟩ := st; wpAny_pyIter_enum he h
def iEnumT (K : PySem.W.Frag) (ta : TA) : TI := fun σ H R => ta σ H fun vs H1 => ∃ a xs, vs = [.ref a] ∧ SqT K H1 a xs ∧ R (IteT K a) H1
theorem pi_enumT {X : Cx} {e : Expr} {ta : TA} {p pos tpos : Pos} {elts : List Expr} {kk : Nat} (hg : Gl X "enumerate") (hm : X.mg "enumerate" = none) (ha : PA X [e] ta) (hs : starEach [e] X.env = [(false, eval e X.env)] := by rfl) :
    PI X (.Tuple elts kk tpos) (.Call (.Name "enumerate" p) [e] [] pos) (iEnumT X.K ta) := by
  refine ⟨fun pins s σ H R I h => ?_⟩
  refine Call_ (ld_blt I hg hm boot_enumerate (PyProof.Rows.callWith_type1 (thn (ha.run pos pins s σ H _ I h) fun us s1 ⟨vs, H1, I1, r1, q1⟩ => ?_) hs rfl))
  obtain ⟨a, xs, rfl, hq, q⟩ := q1
  cases r1 with
  | cons r rr =>
    cases rr
    cases r
    obtain ⟨its, rv, p', hz⟩ := I1.tuple hq
    have hal : a < s1.heap.objs.size := by
      obtain ⟨_, q, _⟩ := id p'
      exact Heap.lt_size q
    refine call_enumT p' fun h' he hit hk => wpAny_pyIter_enum he ?_
    have I2 : Inv X pins σ H1 { s1 with heap := h' } := I1.kept (t' := s1.toks) hk
    refine ⟨s1.heap.objs.size + 1, [s1.heap.objs.size + 1, s1.heap.objs.size], _, _, H1, rfl, I2, turn_enumT a (s1.heap.objs.size + 1) s1.heap.objs.size (Nat.ne_of_lt (Nat.lt_succ_of_lt hal)) (Nat.ne_of_lt hal), ⟨⟨.none, he⟩, hit, Nat.succ_ne_self _⟩, fun b hb => ?_, q⟩
    have hle : s1.heap.objs.size ≤ b := by
      rcases (show b = s1.heap.objs.size + 1 ∨ b = s1.heap.objs.size by simpa using hb) with rfl | rfl
      · exact Nat.le_add_right _ _
      · exact Nat.le_refl _
    exact I1.fpOk hle (I1.hok.fresh hle)
theorem walk_enumT {K : PySem.W.Frag} {a : Addr} {xs : List V} : Walk (IteT K a) xs.length (fun H => SqT K H a xs) (YPair (fun i => some (.int (i : Nat))) (fun i => xs[i]?)) := by
  refine ⟨fun i _ hi q => ⟨xs, xs[i], q, by simp [hi]⟩, fun _ q => ⟨xs, q, Nat.le_refl _⟩, fun i H v H' _ q y => ?_⟩
  obtain ⟨T, x, h1, h2, h3, h4⟩ := y
  exact ⟨T, .int (i : Nat), x, h1, h2, h3, rfl, h4 xs q⟩
end Sb
set_option maxHeartbeats 1000000
namespace Sb
open PySem PySem.Spec PyProof.Rows L2
/-! ### plans as data -/
inductive Way where
  | kept | stays | made (e : Exp)
def Way.data : Way → PyData
  | .kept => .str "kept"
  | .stays => .str "stays"
  | .made e => .tuple [.str "made", e.data]
def Way.ok (nf : Nat) : Way → Prop
  | .made e => e.ok nf false 3
  | _ => True
structure PlanOk (ss : List Nat) (pl : List Way) : Prop where
  len : pl.length = ss.length
  way : ∀ w ∈ pl, w.ok ss.length
def planD (pl : List Way) : PyData := .tuple (pl.map Way.data)
theorem Way.tup : ∀ w : Way, tupOnly w.data = true
  | .kept => rfl
  | .stays => rfl
  | .made e => by simp [Way.data, tupOnly, tupOnlyAll, Exp.tup e]
theorem ways_tup : ∀ pl : List Way, tupOnlyAll (pl.map Way.data) = true
  | [] => rfl
  | w :: r => by rw [List.map_cons, tupOnlyAll, Way.tup w, ways_tup r]; rfl
theorem plan_tup (pl : List Way) : tupOnly (planD pl) = true := by
  unfold planD
  rw [tupOnly]
  exact ways_tup pl
theorem Way.shaped {nf : Nat} {w : Way} (h : w.ok nf) : SeqAt.shaped w.data = true := by
  cases w with
  | kept => decide +kernel
  | stays => decide +kernel
  | made e =>
    obtain ⟨a, b⟩ := Exp.lay 3 e h
    unfold SeqAt.shaped
    have hm : PyData.canLay0 (.str "made") = true := by decide +kernel
    have h1 : PyData.canLay0 (Way.made e).data = true := by
      rw [Way.data, PyData.canLay0, PyData.canLayAll0, PyData.canLayAll0, PyData.canLayAll0, hm, a]
      rfl
    have h2 : (Way.made e).data.depth ≤ 64 := by
      rw [Way.data, PyData.depth, PyData.depthAll, PyData.depthAll, PyData.depthAll, PyData.depth]
      omega
    rw [h1, decide_eq_true h2]
    rfl
theorem str_kept : SeqAt.shaped (.str "kept") = true := by decide +kernel
theorem str_stays : SeqAt.shaped (.str "stays") = true := by decide +kernel
/-- the value of a field behind a world's being taken back -/
def backAt (ss old now : List Nat) (i : Nat) : Way → Nat
  | .kept => old.getD i 0
  | .stays => now.getD i 0
  | .made e => (e.val old 0 % (ss.getD i 1 : Nat)).toNat
def backTo_ (ss : List Nat) (pl : List Way) (old now : List Nat) (n : Nat) : List Nat := (List.range n).map fun i => backAt ss old now i (pl.getD i .kept)
def backOf (ss : List Nat) (pl : List Way) (old now : List Nat) : List Nat := backTo_ ss pl old now pl.length
theorem backTo_succ (ss : List Nat) (pl : List Way) (old now : List Nat) (n : Nat) : backTo_ ss pl old now (n + 1) = backTo_ ss pl old now n ++ [backAt ss old now n (pl.getD n .kept)] := by
  unfold backTo_
  rw [List.range_succ, List.map_append]
  rfl
theorem backTo_len (ss : List Nat) (pl : List Way) (old now : List Nat) (n : Nat) : (backTo_ ss pl old now n).length = n := by
  unfold backTo_
  rw [List.length_map, List.length_range]
theorem WorldOf.of {ss ws : List Nat} (hl : ws.length = ss.length) (h : ∀ (i s x : Nat), ss[i]? = some s → ws[i]? = some x → x < s) : WorldOf ss ws := by
  induction ss generalizing ws with
  | nil =>
    cases ws with
    | nil => exact .nil
    | cons x r => simp at hl
  | cons s ss ih =>
    cases ws with
    | nil => simp at hl
    | cons x r => exact .cons (h 0 s x rfl rfl) (ih (by simpa using hl) fun i s x e1 e2 => h (i + 1) s x (by simpa using e1) (by simpa using e2))
theorem backAt_lt {ss old now : List Nat} {i s : Nat} (w : Way) (ho : WorldOf ss old) (hn : WorldOf ss now) (hp : ∀ x ∈ ss, 0 < x) (hs : ss[i]? = some s) : backAt ss old now i w < s := by
  have hi := (List.getElem?_eq_some_iff.mp hs).1
  cases w with
  | kept =>
    obtain ⟨s', x, e1, e2, hx⟩ := ho.get i hi
    rw [hs] at e1
    cases e1
    show old.getD i 0 < s
    rw [getD_of e2]
    exact hx
  | stays =>
    obtain ⟨s', x, e1, e2, hx⟩ := hn.get i hi
    rw [hs] at e1
    cases e1
    show now.getD i 0 < s
    rw [getD_of e2]
    exact hx
  | made e =>
    show (e.val old 0 % (ss.getD i 1 : Nat)).toNat < s
    rw [getD_of hs]
    have h0 := hp s (List.mem_of_getElem? hs)
    have := Int.emod_lt_of_pos (e.val old 0) (show (0 : Int) < s by omega)
    omega
theorem backOf_world {ss old now : List Nat} {pl : List Way} (hl : pl.length = ss.length) (ho : WorldOf ss old) (hn : WorldOf ss now) (hp : ∀ x ∈ ss, 0 < x) : WorldOf ss (backOf ss pl old now) := by
  refine WorldOf.of (by rw [backOf, backTo_len, hl]) fun i s x e1 e2 => ?_
  unfold backOf backTo_ at e2
  rw [List.getElem?_map] at e2
  cases e : (List.range pl.length)[i]? with
  | none => rw [e] at e2; cases e2
  | some j =>
    rw [e] at e2
    have e2 : some (backAt ss old now j (pl.getD j .kept)) = some x := e2
    cases e2
    have : j = i := by
      obtain ⟨h1, h2⟩ := List.getElem?_eq_some_iff.mp e
      simpa using h2.symm
    subst this
    exact backAt_lt _ ho hn hp e1
theorem dpall_way {K : PySem.W.Frag} {H : Hp} : ∀ {vs : List V} {pl : List Way} {i : Nat} {x : V}, DpAll K H vs (pl.map Way.data) → vs[i]? = some x → ∃ w, pl[i]? = some w ∧ Dp K H x w.data
  | vs, [], i, x, h, hx => by
    rw [dps_none h] at hx
    simp at hx
  | vs, u :: r, 0, x, h, hx => by
    obtain ⟨v, ws, rfl, h1, _⟩ := dps_uncons (ds := r.map Way.data) h
    cases hx
    exact ⟨u, rfl, h1⟩
  | vs, u :: r, i + 1, x, h, hx => by
    obtain ⟨v, ws, rfl, _, h2⟩ := dps_uncons (ds := r.map Way.data) h
    exact dpall_way (pl := r) (i := i) h2 (by simpa using hx)
theorem getD_way {pl : List Way} {i : Nat} {w d : Way} (h : pl[i]? = some w) : pl.getD i d = w := by
  rw [List.getD_eq_getElem?_getD, h]
  rfl
theorem dpall_snoc {K : PySem.W.Frag} {H : Hp} {d : PyData} : ∀ {ds : List PyData} {vs : List V}, DpAll K H vs (ds ++ [d]) → ∃ vs' x, vs = vs' ++ [x] ∧ Dp K H x d
  | [], vs, h => by
    obtain ⟨v, ws, rfl, h1, h2⟩ := dps_uncons h
    obtain rfl := dps_none h2
    exact ⟨[], v, rfl, h1⟩
  | e :: ds, vs, h => by
    obtain ⟨v, ws, rfl, _, h2⟩ := dps_uncons (ds := ds ++ [d]) h
    obtain ⟨vs', x, rfl, hx⟩ := dpall_snoc h2
    exact ⟨v :: vs', x, rfl, hx⟩
/-! ### promises -/
def spPVB (K : PySem.W.Frag) : Sp := fun vs H Q _ => ∃ (v vw : V) (g : Game) (wy : Way) (i : Nat) (o n : Addr) (old now : List Nat), vs = [v, vw, .int i, .ref o, .ref n] ∧ Dp K H v g.data ∧ SzOk g.sizes ∧ Dp K H vw wy.data ∧ wy.ok g.sizes.length ∧ i < g.sizes.length ∧
  SqT K H o (old.map natV) ∧ WorldOf g.sizes old ∧ SqT K H n (now.map natV) ∧ WorldOf g.sizes now ∧ Q (natV (backAt g.sizes old now i wy)) H
def spPBack (K : PySem.W.Frag) : Sp := fun vs H Q _ => ∃ (v vp : V) (g : Game) (pl : List Way) (o n : Addr) (old now : List Nat), vs = [v, vp, .ref o, .ref n] ∧ Dp K H v g.data ∧ SzOk g.sizes ∧ Dp K H vp (planD pl) ∧ PlanOk g.sizes pl ∧
  SqT K H o (old.map natV) ∧ WorldOf g.sizes old ∧ SqT K H n (now.map natV) ∧ WorldOf g.sizes now ∧ ∀ (H' : Hp) (p : Addr), Same H H' → SqT K H' p ((backOf g.sizes pl old now).map natV) → Q (.ref p) H'
def Game.far (g : Game) : List Nat → List Nat → List Nat
  | w, [] => w
  | w, k :: r => g.far (g.step w k) r
theorem Game.far_world {g : Game} {m : Nat} (hb : blkOk g.sizes.length m g.blk) (hp : ∀ x ∈ g.sizes, 0 < x) : ∀ (ks w : List Nat), WorldOf g.sizes w → WorldOf g.sizes (g.far w ks)
  | [], w, h => h
  | k :: r, w, h => Game.far_world hb hp r _ (Game.step_world hb hp h k)
theorem Game.far_snoc (g : Game) : ∀ (ks w : List Nat) (k : Nat), g.far w (ks ++ [k]) = g.step (g.far w ks) k
  | [], _, _ => rfl
  | a :: r, w, k => by
    rw [List.cons_append, Game.far, Game.far, Game.far_snoc g r]
theorem Game.walk_far (g : Game) : ∀ (ks w : List Nat), ∃ us, g.walk w ks = us ++ [g.far w ks]
  | [], w => ⟨[], rfl⟩
  | k :: r, w => by
    obtain ⟨us, h⟩ := Game.walk_far g r (g.step w k)
    exact ⟨w :: us, by rw [Game.walk, h]; rfl⟩
def spPBehind (K : PySem.W.Frag) : Sp := fun vs H Q _ => ∃ (v : V) (w t : Addr) (g : Game) (ns ks : List Nat), vs = [v, .ref w, .ref t] ∧ Dp K H v g.data ∧ g.Ok ∧ SqT K H w (ns.map natV) ∧ WorldOf g.sizes ns ∧ SqT K H t (ks.map natV) ∧ (∀ k ∈ ks, k < g.keys) ∧ ks.length ≤ 400 ∧
  ∀ (H' : Hp) (p : Addr), Same H H' → SqT K H' p ((g.far ns ks).map natV) → Q (.ref p) H'
/-- the five worlds of a try -/
def Game.tried (g : Game) (pl : List Way) (ahead guessed keys : List Nat) : List (List Nat) :=
  let old := g.far g.first ahead
  let now := g.far old guessed
  let back := backOf g.sizes pl old now
  [old, now, back, g.far old keys, g.far back keys]
def spPTried (K : PySem.W.Frag) : Sp := fun vs H Q _ => ∃ (v vp : V) (t1 t2 t3 : Addr) (g : Game) (pl : List Way) (k1 k2 k3 : List Nat), vs = [v, vp, .ref t1, .ref t2, .ref t3] ∧ Dp K H v g.data ∧ g.Ok ∧ Dp K H vp (planD pl) ∧ PlanOk g.sizes pl ∧
  SqT K H t1 (k1.map natV) ∧ (∀ k ∈ k1, k < g.keys) ∧ k1.length ≤ 400 ∧ SqT K H t2 (k2.map natV) ∧ (∀ k ∈ k2, k < g.keys) ∧ k2.length ≤ 400 ∧ SqT K H t3 (k3.map natV) ∧ (∀ k ∈ k3, k < g.keys) ∧ k3.length ≤ 400 ∧
  ∀ (H' : Hp) (p : Addr), Same H H' → Dp K H' (.ref p) (.tuple ((g.tried pl k1 k2 k3).map worldD)) → Q (.ref p) H'
end Sb
set_option maxHeartbeats 1000000
namespace Sb
open PySem PySem.Spec PyProof.Rows L2
/-! ### all worlds of some sizes -/
def extW (w : List Nat) (n : Nat) : List (List Nat) := (List.range n).map fun v => w ++ [v]
def extsW (s : Nat) (ws : List (List Nat)) : List (List Nat) := ws.flatMap fun w => extW w s
def allW (ss : List Nat) : List (List Nat) := ss.foldl (fun f s => extsW s f) [[]]
theorem extW_succ (w : List Nat) (n : Nat) : extW w (n + 1) = extW w n ++ [w ++ [n]] := by
  unfold extW
  rw [List.range_succ, List.map_append]
  rfl
theorem extW_len (w : List Nat) (n : Nat) : (extW w n).length = n := by
  unfold extW
  rw [List.length_map, List.length_range]
theorem extsW_snoc (s : Nat) (ws : List (List Nat)) (w : List Nat) : extsW s (ws ++ [w]) = extsW s ws ++ extW w s := by
  unfold extsW
  rw [List.flatMap_append]
  simp
theorem extsW_len (s : Nat) : ∀ ws : List (List Nat), (extsW s ws).length = ws.length * s
  | [] => by simp [extsW]
  | w :: r => by
    have := extsW_len s r
    unfold extsW at this ⊢
    rw [List.flatMap_cons, List.length_append, this, extW_len, List.length_cons, Nat.add_mul]
    omega
theorem allW_snoc (ss : List Nat) (s : Nat) : allW (ss ++ [s]) = extsW s (allW ss) := by
  unfold allW
  rw [List.foldl_append]
  rfl
theorem allW_len : ∀ (i : Nat) (ss : List Nat), (∀ x ∈ ss, x ≤ 6) → (allW (ss.take i)).length ≤ 6 ^ i
  | 0, ss, _ => by rw [List.take_zero]; decide
  | i + 1, ss, h => by
    have ih := allW_len i ss h
    rw [List.take_succ]
    cases e : ss[i]? with
    | none =>
      show (allW (ss.take i ++ [])).length ≤ _
      rw [List.append_nil, Nat.pow_succ]
      omega
    | some s =>
      show (allW (ss.take i ++ [s])).length ≤ _
      have hs := h s (List.mem_of_getElem? e)
      rw [allW_snoc, extsW_len, Nat.pow_succ]
      exact Nat.mul_le_mul ih hs
theorem extW_world {ss w : List Nat} {s n : Nat} (h : WorldOf ss w) (hn : n ≤ s) : ∀ u ∈ extW w n, WorldOf (ss ++ [s]) u := by
  intro u hu
  unfold extW at hu
  obtain ⟨v, hv, rfl⟩ := List.mem_map.mp hu
  exact h.snoc (Nat.lt_of_lt_of_le (List.mem_range.mp hv) hn)
theorem allW_world (ss : List Nat) : ∀ i, ∀ u ∈ allW (ss.take i), WorldOf (ss.take i) u
  | 0, u, hu => by
    rw [List.take_zero] at hu ⊢
    have : u = [] := by simpa [allW] using hu
    rw [this]
    exact .nil
  | i + 1, u, hu => by
    rw [List.take_succ] at hu ⊢
    cases e : ss[i]? with
    | none =>
      rw [e] at hu
      have hu : u ∈ allW (ss.take i ++ []) := hu
      show WorldOf (ss.take i ++ []) u
      rw [List.append_nil] at hu ⊢
      exact allW_world ss i u hu
    | some s =>
      rw [e] at hu
      have hu : u ∈ allW (ss.take i ++ [s]) := hu
      show WorldOf (ss.take i ++ [s]) u
      rw [allW_snoc] at hu
      unfold extsW at hu
      obtain ⟨w, hw, hu⟩ := List.mem_flatMap.mp hu
      exact extW_world (allW_world ss i w hw) (Nat.le_refl s) u hu
def spWorlds (K : PySem.W.Frag) : Sp := fun vs H Q _ => ∃ (p : Addr) (ss : List Nat), vs = [.ref p] ∧ SqT K H p (ss.map natV) ∧ SzOk ss ∧
  ∀ (H' : Hp) (l : Addr) (as : List Addr), Same H H' → H l = none → H' l = some (.lst (as.map V.ref)) → TupsAt H' as (allW ss) → Q (.ref l) H'
theorem dpall_get {K : PySem.W.Frag} {H : Hp} : ∀ {vs : List V} {us : List (List Nat)} {i : Nat} {x : V}, DpAll K H vs (us.map worldD) → vs[i]? = some x → ∃ u, us[i]? = some u ∧ Dp K H x (worldD u)
  | vs, [], i, x, h, hx => by
    rw [dps_none h] at hx
    simp at hx
  | vs, u :: r, 0, x, h, hx => by
    obtain ⟨v, ws, rfl, h1, _⟩ := dps_uncons (ds := r.map worldD) h
    cases hx
    exact ⟨u, rfl, h1⟩
  | vs, u :: r, i + 1, x, h, hx => by
    obtain ⟨v, ws, rfl, _, h2⟩ := dps_uncons (ds := r.map worldD) h
    exact dpall_get (us := r) (i := i) h2 (by simpa using hx)
theorem worldD_snoc {K : PySem.W.Frag} {H : Hp} {p : Addr} {w : List Nat} {v : Nat} (h : H p = some (.tup (w.map natV ++ [V.int v]))) : Dp K H (.ref p) (worldD (w ++ [v])) := by
  refine dp_world (.inl (.inl ?_))
  rw [h, List.map_append]
  rfl
theorem wtup : ∀ us : List (List Nat), tupOnlyAll (us.map worldD) = true
  | [] => rfl
  | u :: r => by rw [List.map_cons, tupOnlyAll, worldD_tup, wtup r]; rfl
theorem TupsAt.kpt {H H' : Hp} (s : Kpt H H') {ps : List Addr} {r : List (List Nat)} (h : TupsAt H ps r) : TupsAt H' ps r := by
  induction h with
  | nil => exact .nil
  | cons e _ ih => exact .cons (s _ _ e fun xs z => by cases z) ih
theorem TupsAt.get {H : Hp} {ps : List Addr} {r : List (List Nat)} (h : TupsAt H ps r) : ∀ {i : Nat} {v : V}, (ps.map V.ref)[i]? = some v → ∃ p x, v = .ref p ∧ r[i]? = some x ∧ H p = some (.tup (x.map natV)) := by
  induction h with
  | nil => intro i v hv; simp at hv
  | cons e _ ih =>
    intro i v hv
    cases i with
    | zero =>
      cases hv
      exact ⟨_, _, rfl, rfl, e⟩
    | succ i =>
      obtain ⟨p, x, h1, h2, h3⟩ := ih (i := i) (v := v) (by simpa using hv)
      exact ⟨p, x, h1, by simpa using h2, h3⟩
theorem TupsAt.dps {K : PySem.W.Frag} {H : Hp} {ps : List Addr} {r : List (List Nat)} (h : TupsAt H ps r) : DpAll K H (ps.map V.ref) (r.map worldD) := by
  induction h with
  | nil => exact .nil
  | cons e _ ih => exact .cons (dp_world (.inl (.inl e))) ih
end Sb
set_option maxHeartbeats 4000000
namespace Sb
open PySem PySem.Spec PyProof.Rows L2
/-! ### {k: v}, k a tuple -/
def tDispT (tk tv : TE) : TE := fun σ H Q => ∀ p, H p = none → tk σ (upd H p (.dT [])) fun x H1 => tv σ H1 fun y H2 => H2 p = some (.dT []) ∧ ∃ (b : Addr) (k : List Key), x = .ref b ∧ H2 b = some (.tup (k.map kV)) ∧ Q (.ref p) (upd H2 p (.dT [(k, y)]))
theorem pe_dispT {X : Cx} {ek ev : Expr} {pos : Pos} {tk tv : TE} (hu : X.A.units + 1 < cLine) (hk : PE X ek tk) (hv : PE X ev tv) : PE X (.Dict [some ek] [ev] pos) (tDispT tk tv) := by
  refine ⟨fun pins s σ H Q I q => ?_⟩
  have hn := I.hok.fresh (Nat.le_refl s.heap.objs.size)
  have I1 := I.laid (a := s.heap.objs.size) (o := .dT []) (h' := s.heap.push { cls := .type "dict", data := .dict #[] }) (t' := s.toks) (fun _ _ q => Heap.get?_push_of_some _ q) (Nat.le_refl _) (dt_empty s.heap I.big)
  refine wpAny_Dict_any (by rfl) (by rfl) (fun z => by cases z) (by show 1 ≤ 15; omega) ?_
  refine pairTrees_cons_walk (thn (hk.run pins _ σ _ _ I1 (q _ hn)) fun u s1 ⟨x, H1, J1, rx, q1⟩ => thn (hv.run pins s1 σ H1 _ J1 q1) fun w2 s2 ⟨y, H2, J2, ry, q2⟩ => pairTrees_nil_walk ?_)
  obtain ⟨hp, b, k, rfl, hb, q2⟩ := q2
  cases rx
  obtain ⟨z, hd, xs, rel, dd⟩ := dt_of J2.hok hp
  cases rel
  unfold storeAll
  rw [List.forIn_cons]
  refine wpAny_bind (wpAny_bind (wpAny_dictSet_heap (hsz := by simp) (knd := tupleKind (mixKind X.prog X.w)) (show X.A.units < cLine from Nat.lt_of_succ_lt hu) (key_of J2.hok hb) dd fun h' dd' hs => wpAny_pure ?_))
  dsimp only
  rw [List.forIn_nil]
  refine wpAny_pure ⟨.ref s.heap.objs.size, _, ?_, rfl, q2⟩
  obtain ⟨ob, es, ep, hq, h2, h3, h4, _, h5⟩ := dd'
  refine d_write J2 (by rw [hp]; exact True.intro) hs ⟨ob, hq⟩ ⟨by simp [sizeLine_eq], hd, _, ?_, ob, es, ep, hq, h2, h3, h4, h5⟩
  have hb2 : (upd H2 s.heap.objs.size (.dT [(k, y)])) b = some (.tup (k.map kV)) := by
    rw [upd_ne (ne_of hb hp (fun z => nomatch z))]
    exact hb
  have hkt : KT (upd H2 s.heap.objs.size (.dT [(k, y)])) [(k, y)] [(k, b, w2)] := .cons ⟨rfl, hb2, ry⟩ .nil
  exact hkt
/-! ### sorted(d), keys tuples of numbers -/
def KeyI (ns : List Int) : List Key := ns.map Sum.inl
theorem keyI_kV (ns : List Int) : (KeyI ns).map kV = ns.map V.int := by
  unfold KeyI
  rw [List.map_map]
  rfl
theorem isKeys_mem {H : Hp} {kvs : List (List Key × V)} {bs : List Addr} (h : IsKeys H kvs bs) {b : Addr} (hb : b ∈ bs) : ∃ p ∈ kvs, H b = some (.tup (p.1.map kV)) := by
  induction h with
  | nil => cases hb
  | cons e _ ih =>
    rcases List.mem_cons.mp hb with rfl | hb
    · exact ⟨_, List.mem_cons_self .., e⟩
    · obtain ⟨p, hp, h⟩ := ih hb
      exact ⟨p, List.mem_cons_of_mem _ hp, h⟩
def rSortDT (d : Nat) (B : Int) : List V → Hp → VK → Prop := fun xs H Q => ∃ (a : Addr) (kvs : List (List Key × V)), xs = [.ref a] ∧ Rd H a (.dT kvs) ∧ kvs.length < 64 ∧ (∀ p ∈ kvs, ∃ ns, p.1 = KeyI ns ∧ ns.length = d ∧ TS.Bd B ns) ∧
  ∀ (bs : List Addr) (ys : List V) (p : Addr), IsKeys H kvs bs → ys.Perm (bs.map V.ref) → ys.Pairwise (fun x y => ∀ n m, (∃ t, x = .ref t ∧ H t = some (.tup (n.map V.int))) → (∃ t, y = .ref t ∧ H t = some (.tup (m.map V.int))) → TS.code B n ≤ TS.code B m) → H p = none → Q (.ref p) (upd H p (.lst ys))
theorem cr_sortDT {X : Cx} {d : Nat} {B : Int} (hc : X.calm = true) (hd1 : 1 ≤ d) : CallR X (.builtin "sorted") (rSortDT d B) := by
  intro pins s σ H xs us Q I r h
  obtain ⟨a, kvs, rfl, hrd, h64, hkk, q⟩ := h
  obtain ⟨u, rfl, rx⟩ := r.one
  cases rx
  obtain ⟨z, hs, ks, pr, o, es, ep, ho, hx, hdt, he, hn⟩ := (show ObjOk X.prog X.w H s.heap a (.dT kvs) from hrd.ok I.hok)
  have l1 : es.size = ks.length := size_of_entries he
  have l2 : kvs.length = ks.length := Paired.length pr
  refine Calls.call_function_entry PyProof.Rows.kind_sorted PyProof.Rows.plain_sorted PyProof.Rows.entry_sorted (PyProof.Rows.args_sorted1 _) ?_
  unfold Builtin.«sorted»
  refine wpAny_bind (m := checkCount "sorted" 1 1 _) (wpAny_pure ?_)
  refine wpAny_bind (PySem.W.kdu_collect (A := X.A.in1) (kdl_raw hs hx hdt) (I.ok.hd hc) ho (by omega) fun h' tk acc hk it => ?_)
  have ea : acc.toList = (ks.map fun x => x.2.1).map Value.ref := by
    have hl : acc.toList.length = ks.length := by rw [Array.length_toList, it.1]; exact l1
    apply List.ext_getElem?
    intro j
    rw [List.map_map, List.getElem?_map]
    cases hj : acc.toList[j]? with
    | none =>
      have h1 := List.getElem?_eq_none_iff.mp hj
      rw [List.getElem?_eq_none (by omega)]
      rfl
    | some v =>
      obtain ⟨en, hen, hv⟩ := it.2 j v (by rw [← Array.getElem?_toList]; exact hj)
      have qe := entry_at he j
      rw [hen] at qe
      cases hb : ks[j]? with
      | none =>
        rw [hb] at qe
        exact nomatch (show some en = none from qe)
      | some b =>
        rw [hb] at qe
        have qe : some en = some (entryOfKey (tupleKind (mixKind X.prog X.w)) b) := qe
        cases qe
        rw [hv]
        rfl
  have ik : IsKeys H kvs (ks.map fun x => x.2.1) := isKeys_of pr
  have I1 : Inv X pins σ H { s with heap := h', toks := tk } := I.kept hk
  have hal : acc.toList.length = kvs.length := by rw [ea, List.length_map, List.length_map, l2]
  have tok : TS.TupsOk h' d B acc.toList := by
    intro v hv
    rw [ea] at hv
    obtain ⟨b, hb, rfl⟩ := List.mem_map.mp hv
    obtain ⟨p, hp, hpb⟩ := isKeys_mem ik hb
    obtain ⟨ns, e, hl, hB⟩ := hkk p hp
    rw [e, keyI_kV] at hpb
    exact ⟨ns, tupI_raw I1 (.inl (.inl hpb)), hl, hB⟩
  refine wpAny_bind (wpAny_newList ?_ (by rw [hal, sizeLine_eq]; omega))
  have hoL : (h'.push (seqObj "list" acc.toList.toArray 0)).get? h'.objs.size = some (seqObj "list" acc.toList.toArray 0) := Heap.get?_push_size _ rfl
  have keep : ∀ b o, h'.get? b = some o → o.cls = .type "tuple" → (h'.push (seqObj "list" acc.toList.toArray 0)).get? b = some o := fun b o e _ => Heap.get?_push_of_some _ e
  show wpAny _ _ _ _ _ { s with heap := h'.push (seqObj "list" acc.toList.toArray 0), toks := tk }
  refine wpAny_bind (wpAny_holding (wpAny_call_entry PyProof.Rows.slot_list_sort ⟨_, hoL, rfl⟩ PyProof.Rows.entry_list_sort
    (TS.sort_tups (s := { s with heap := h'.push (seqObj "list" acc.toList.toArray 0), toks := tk }) hoL (by rw [hal]; exact h64) hd1 (tok.keeps keep) (fun v => TS.code B (TS.intsOf h' v)) (fun v hv ns t => ?_) fun out hp hs => ⟨_, rfl, ?_⟩)
    (PyProof.Rows.args_list_sort _)))
  · obtain ⟨ns0, t0, _⟩ := tok v hv
    have e : ns = ns0 := t.ints.symm.trans (t0.keeps keep).ints
    rw [e]
    show TS.code B (TS.intsOf h' v) = TS.code B ns0
    rw [t0.ints]
  obtain ⟨e', he'⟩ := PyProof.Rows.sortedHeap_at (vs := acc.toList) (out := out) hoL
  have h3 : ∀ u ∈ out.toList, ∃ b, u = Value.ref b := fun u hu => by
    have := hp.mem_iff.mp hu
    rw [ea] at this
    obtain ⟨b, _, rfl⟩ := List.mem_map.mp this
    exact ⟨b, rfl⟩
  have hpm : (out.toList.map bkV).Perm ((ks.map fun x => x.2.1).map V.ref) := by
    have := hp.map bkV
    rw [ea, List.map_map] at this
    exact this
  have hlen : (out.toList.map bkV).length ≤ sizeLine := by
    rw [hpm.length_eq, List.length_map, List.length_map, sizeLine_eq]
    omega
  refine wpAny_pure ⟨_, rfl, .ref h'.objs.size, upd H h'.objs.size (.lst (out.toList.map bkV)), I1.laid (t' := tk) (fun b u e => ?_) (Nat.le_refl _)
    (show ObjOk X.prog X.w _ _ _ (.lst (out.toList.map bkV)) from ⟨hlen, out.toList, e', bkV_vals h3, he'⟩), rfl, q _ _ _ ik hpm ?_ (I1.hok.fresh (Nat.le_refl _))⟩
  · have hb : b < h'.objs.size := Heap.lt_size e
    rw [PyProof.Rows.sortedHeap_old (Nat.ne_of_lt hb) (by rw [size_push']; exact Nat.lt_succ_of_lt hb)]
    exact Heap.get?_push_of_some _ e
  · rw [List.pairwise_map]
    refine List.Pairwise.imp (fun {u v} huv n m hn hm => ?_) hs
    obtain ⟨t, et, ht⟩ := hn
    obtain ⟨t', et', ht'⟩ := hm
    have eu := bkV_ref et
    have ev := bkV_ref et'
    have i1 : TS.intsOf h' u = n := by
      rw [eu]
      exact (tupI_raw I1 (.inl (.inl ht))).ints
    have i2 : TS.intsOf h' v = m := by
      rw [ev]
      exact (tupI_raw I1 (.inl (.inl ht'))).ints
    rw [← i1, ← i2]
    exact huv
end Sb
set_option maxHeartbeats 1000000
namespace Sb
open PySem PySem.Spec PyProof.Rows L2
/-! ### tuples stay -/
def Tps (H H' : Hp) : Prop := ∀ b xs, (H b = some (.tup xs) → H' b = some (.tup xs)) ∧ ∀ o, H b = some (.frz o (.tup xs)) → H' b = some (.frz o (.tup xs))
theorem Tps.refl (H : Hp) : Tps H H := fun _ _ => ⟨id, fun _ => id⟩
theorem Tps.trans {H H1 H2 : Hp} (a : Tps H H1) (b : Tps H1 H2) : Tps H H2 := fun c xs => ⟨fun h => (b c xs).1 ((a c xs).1 h), fun o h => (b c xs).2 o ((a c xs).2 o h)⟩
theorem Tps.of {H H' : Hp} (s : Same H H') : Tps H H' := fun b _ => ⟨fun h => s b _ h, fun _ h => s b _ h⟩
theorem Tps.kpt {H H' : Hp} (s : Kpt H H') : Tps H H' := fun b _ => ⟨fun h => s b _ h fun _ z => (by cases z), fun _ h => s b _ h fun _ z => (by cases z)⟩
theorem Tps.dict {H : Hp} {d : Addr} {kvs : List (List Key × V)} {o : HO} (h : H d = some (.dT kvs)) : Tps H (upd H d o) := fun b xs =>
  ⟨fun e => by rw [upd_ne (ne_of e h fun z => by cases z)]; exact e, fun ob e => by rw [upd_ne (ne_of e h fun z => by cases z)]; exact e⟩
theorem Tps.list {H : Hp} {d : Addr} {ys : List V} {o : HO} (h : H d = some (.lst ys)) : Tps H (upd H d o) := .kpt (Kpt.put h)
theorem seqT_tps {K : PySem.W.Frag} {H H' : Hp} {a : Addr} {xs : List V} (e : Tps H H') (h : SqT K H a xs) : SqT K H' a xs := by
  rcases h with (h | ⟨o, h⟩) | h
  · exact .inl (.inl ((e _ _).1 h))
  · exact .inl (.inr ⟨o, (e _ _).2 _ h⟩)
  · exact .inr h
mutual
theorem dp_tps {K : PySem.W.Frag} {H H' : Hp} (s : Tps H H') : ∀ (d : PyData) (v : V), tupOnly d = true → Dp K H v d → Dp K H' v d
  | .none, _, _, h => by cases h; exact .non
  | .bool b, _, _, h => by cases h; exact .bl b
  | .int i, _, _, h => by cases h; exact .int i
  | .str x, _, _, h => by cases h; exact .str x
  | .list ds, _, t, _ => by rw [tupOnly] at t; cases t
  | .tuple ds, _, t, h => by
    rw [tupOnly] at t
    cases h with
    | tup hs ha => exact .tup (seqT_tps s hs) (dps_tps s ds _ t ha)
  | .dict _, _, _, h => by cases h
theorem dps_tps {K : PySem.W.Frag} {H H' : Hp} (s : Tps H H') : ∀ (ds : List PyData) (vs : List V), tupOnlyAll ds = true → DpAll K H vs ds → DpAll K H' vs ds
  | [], _, _, h => by cases h; exact .nil
  | d :: ds, _, t, h => by
    rw [tupOnlyAll, Bool.and_eq_true] at t
    cases h with
    | cons h1 h2 => exact .cons (dp_tps s d _ t.1 h1) (dps_tps s ds _ t.2 h2)
end
theorem TupsAt.tps {H H' : Hp} (s : Tps H H') {ps : List Addr} {r : List (List Nat)} (h : TupsAt H ps r) : TupsAt H' ps r := by
  induction h with
  | nil => exact .nil
  | cons e _ ih => exact .cons ((s _ _).1 e) ih
/-! ### worlds as keys -/
def wkey (w : List Nat) : List Key := w.map fun (n : Nat) => (Sum.inl (n : Int) : Key)
theorem wkey_kV (w : List Nat) : (wkey w).map kV = w.map natV := by
  unfold wkey
  rw [List.map_map]
  rfl
theorem wkey_inj : ∀ {u w : List Nat}, wkey u = wkey w → u = w
  | [], [], _ => rfl
  | [], _ :: _, h => by cases h
  | _ :: _, [], h => by cases h
  | a :: u, b :: w, h => by
    have h' := List.cons.inj h
    have e1 : (a : Int) = b := Sum.inl.inj h'.1
    rw [wkey_inj (u := u) (w := w) h'.2, show a = b by omega]
abbrev Ways := List (List Nat × List Nat)
def wget (ws : Ways) (w : List Nat) : Option (List Nat) := (ws.find? fun p => decide (p.1 = w)).map (·.2)
def WV (K : PySem.W.Frag) (H : Hp) : List (List Key × V) → Ways → Prop := Paired fun p q => p.1 = wkey q.1 ∧ ∃ t, p.2 = .ref t ∧ SqT K H t (q.2.map natV)
theorem WV.tps {K : PySem.W.Frag} {H H' : Hp} (s : Tps H H') {kvs : List (List Key × V)} {ws : Ways} (h : WV K H kvs ws) : WV K H' kvs ws := Paired.mapP h fun _ _ ⟨e, t, e2, z⟩ => ⟨e, t, e2, seqT_tps s z⟩
theorem WV.get {K : PySem.W.Frag} {H : Hp} {kvs : List (List Key × V)} {ws : Ways} (h : WV K H kvs ws) (w : List Nat) : (∃ row t, wget ws w = some row ∧ valV kvs (wkey w) = some (.ref t) ∧ SqT K H t (row.map natV)) ∨ (wget ws w = none ∧ valV kvs (wkey w) = none) := by
  induction h with
  | nil => exact .inr ⟨rfl, rfl⟩
  | @cons p q ps qs hq t ih =>
    obtain ⟨e, tt, e2, z⟩ := hq
    by_cases c : q.1 = w
    · refine .inl ⟨q.2, tt, ?_, ?_, z⟩
      · unfold wget
        rw [List.find?_cons_of_pos (by simpa using c)]
        rfl
      · unfold valV
        rw [List.find?_cons_of_pos (by simpa [e] using congrArg wkey c)]
        show some p.2 = _
        rw [e2]
    · have c2 : ¬ p.1 = wkey w := fun z => c (wkey_inj (e.symm.trans z))
      have e3 : wget (q :: qs) w = wget qs w := by
        unfold wget
        rw [List.find?_cons_of_neg (by simpa using c)]
      have e4 : valV (p :: ps) (wkey w) = valV ps (wkey w) := by
        unfold valV
        rw [List.find?_cons_of_neg (by simpa using c2)]
      rw [e3, e4]
      exact ih
theorem putK_new {kvs : List (List Key × V)} {k : List Key} {v : V} (h : valV kvs k = none) : putK kvs k v = kvs ++ [(k, v)] := by
  unfold putK
  rw [if_neg]
  intro z
  rw [valV_any, h] at z
  cases z
theorem WV.put {K : PySem.W.Frag} {H : Hp} {kvs : List (List Key × V)} {ws : Ways} (h : WV K H kvs ws) {w row : List Nat} {t : Addr} (hn : wget ws w = none) (ht : SqT K H t (row.map natV)) : WV K H (putK kvs (wkey w) (.ref t)) (ws ++ [(w, row)]) := by
  have e : valV kvs (wkey w) = none := by
    rcases h.get w with ⟨_, _, z, _⟩ | ⟨_, z⟩
    · rw [hn] at z; cases z
    · exact z
  rw [putK_new e]
  exact Paired.snoc h ⟨rfl, t, rfl, ht⟩
theorem WV.len {K : PySem.W.Frag} {H : Hp} {kvs : List (List Key × V)} {ws : Ways} (h : WV K H kvs ws) : kvs.length = ws.length := Paired.length h
/-! ### the worlds that are reached, layer by layer -/
def nxt (g : Game) (st : Ways × List (List Nat)) (u : List Nat) (k : Nat) : Ways × List (List Nat) :=
  match wget st.1 (g.step u k) with
  | some _ => st
  | none => (st.1 ++ [(g.step u k, (wget st.1 u).getD [] ++ [k])], st.2 ++ [g.step u k])
def lay1 (g : Game) (u : List Nat) (n : Nat) (st : Ways × List (List Nat)) : Ways × List (List Nat) := (List.range n).foldl (fun st k => nxt g st u k) st
def lay (g : Game) (us : List (List Nat)) (st : Ways × List (List Nat)) : Ways × List (List Nat) := us.foldl (fun st u => lay1 g u g.keys st) st
theorem lay1_succ (g : Game) (u : List Nat) (n : Nat) (st : Ways × List (List Nat)) : lay1 g u (n + 1) st = nxt g (lay1 g u n st) u n := by
  unfold lay1
  rw [List.range_succ, List.foldl_append]
  rfl
theorem lay_snoc (g : Game) (us : List (List Nat)) (u : List Nat) (st : Ways × List (List Nat)) : lay g (us ++ [u]) st = lay1 g u g.keys (lay g us st) := by
  unfold lay
  rw [List.foldl_append]
  rfl
def bfs (g : Game) : Nat → Ways → List (List Nat) → Ways
  | 0, ws, _ => ws
  | _ + 1, ws, [] => ws
  | f + 1, ws, u :: us => bfs g f (lay g (u :: us) (ws, [])).1 (lay g (u :: us) (ws, [])).2
def Game.ways (g : Game) : Ways := bfs g 30 [(g.first, [])] [g.first]
theorem bfs_nil (g : Game) (f : Nat) (ws : Ways) : bfs g f ws [] = ws := by cases f <;> rfl
/-- what holds of all of it -/
structure WOk (ss : List Nat) (ws : Ways) : Prop where
  nd : (ws.map Prod.fst).Nodup
  wd : ∀ p ∈ ws, WorldOf ss p.1
  ln : ∀ p ∈ ws, p.2.length < ws.length
def prodL : List Nat → Nat
  | [] => 1
  | s :: r => s * prodL r
theorem foldl_prod : ∀ (ss : List Nat) (a : Nat), ss.foldl (· * ·) a = a * prodL ss
  | [], a => by rw [prodL]; simp
  | s :: r, a => by
    rw [List.foldl_cons, foldl_prod r, prodL, Nat.mul_assoc]
def wcode : List Nat → List Nat → Nat
  | s :: ss, x :: w => x + s * wcode ss w
  | _, _ => 0
theorem wcode_lt {ss w : List Nat} (h : WorldOf ss w) : wcode ss w < prodL ss := by
  induction h with
  | nil => simp [wcode, prodL]
  | @cons s x ss w hx _ ih =>
    rw [wcode, prodL]
    calc x + s * wcode ss w < s + s * wcode ss w := by omega
      _ = s * (wcode ss w + 1) := by rw [Nat.mul_add, Nat.mul_one, Nat.add_comm]
      _ ≤ s * prodL ss := Nat.mul_le_mul_left _ ih
theorem wcode_inj {ss u : List Nat} (h : WorldOf ss u) : ∀ {w : List Nat}, WorldOf ss w → wcode ss u = wcode ss w → u = w := by
  induction h with
  | nil => intro w hw _; cases hw; rfl
  | @cons s x ss u hx _ ih =>
    intro w hw e
    cases hw with
    | @cons _ y _ w hy hr =>
      rw [wcode, wcode] at e
      have e1 : x = y := by
        have := congrArg (· % s) e
        simp only [Nat.add_mul_mod_self_left] at this
        rwa [Nat.mod_eq_of_lt hx, Nat.mod_eq_of_lt hy] at this
      subst e1
      have h0 : 0 < s := by omega
      have e2 : s * wcode ss u = s * wcode ss w := by omega
      rw [ih hr (Nat.eq_of_mul_eq_mul_left h0 e2)]
theorem WOk.le {ss : List Nat} {ws : Ways} (h : WOk ss ws) (hz : SzOk ss) : ws.length ≤ 24 := by
  have h1 : ((ws.map Prod.fst).map (wcode ss)).Nodup := by
    rw [List.nodup_iff_pairwise_ne, List.pairwise_map]
    refine List.Pairwise.imp_of_mem (fun {a b} ha hb hne e => hne ?_) (List.nodup_iff_pairwise_ne.mp h.nd)
    obtain ⟨p, hp, rfl⟩ := List.mem_map.mp ha
    obtain ⟨q, hq, rfl⟩ := List.mem_map.mp hb
    exact wcode_inj (h.wd p hp) (h.wd q hq) e
  have h2 := nat_nodup_len _ (List.range 24) h1 fun x hx => by
    obtain ⟨w, hw, rfl⟩ := List.mem_map.mp hx
    obtain ⟨p, hp, rfl⟩ := List.mem_map.mp hw
    have := wcode_lt (h.wd p hp)
    have hp24 := hz.prod
    rw [foldl_prod, Nat.one_mul] at hp24
    rw [List.mem_range]
    omega
  rw [List.length_map, List.length_map, List.length_range] at h2
  exact h2
theorem wget_none {ws : Ways} {w : List Nat} (h : wget ws w = none) : ∀ p ∈ ws, p.1 ≠ w := by
  intro p hp e
  unfold wget at h
  rw [Option.map_eq_none_iff, List.find?_eq_none] at h
  exact h p hp (by simpa using e)
theorem wget_mem {ws : Ways} {w row : List Nat} (h : wget ws w = some row) : (w, row) ∈ ws := by
  unfold wget at h
  obtain ⟨p, hp, e⟩ := Option.map_eq_some_iff.mp h
  have h1 := List.mem_of_find?_eq_some hp
  have h2 := List.find?_some hp
  have h3 : p.1 = w := by simpa using h2
  rw [← e, ← h3]
  exact h1
theorem wget_append {ws vs : Ways} {w row : List Nat} (h : wget ws w = some row) : wget (ws ++ vs) w = some row := by
  unfold wget at h ⊢
  rw [List.find?_append]
  obtain ⟨p, hp, e⟩ := Option.map_eq_some_iff.mp h
  rw [hp]
  exact congrArg some e
/-- st: ways that are kept, newest worlds that are there -/
structure StOk (g : Game) (st : Ways × List (List Nat)) : Prop where
  ok : WOk g.sizes st.1
  new : ∀ u ∈ st.2, (wget st.1 u).isSome = true
theorem nxt_some {g : Game} {st : Ways × List (List Nat)} {u row : List Nat} {k : Nat} (h : wget st.1 (g.step u k) = some row) : nxt g st u k = st := by
  unfold nxt
  rw [h]
theorem nxt_none {g : Game} {st : Ways × List (List Nat)} {u : List Nat} {k : Nat} (h : wget st.1 (g.step u k) = none) : nxt g st u k = (st.1 ++ [(g.step u k, (wget st.1 u).getD [] ++ [k])], st.2 ++ [g.step u k]) := by
  unfold nxt
  rw [h]
theorem nxt_keep {g : Game} {st : Ways × List (List Nat)} {u v row : List Nat} {k : Nat} (h : wget st.1 v = some row) : wget (nxt g st u k).1 v = some row := by
  cases e : wget st.1 (g.step u k) with
  | some r => rw [nxt_some e]; exact h
  | none => rw [nxt_none e]; exact wget_append h
theorem wget_snoc {ws : Ways} {w row : List Nat} (h : wget ws w = none) : wget (ws ++ [(w, row)]) w = some row := by
  unfold wget at h ⊢
  rw [List.find?_append]
  rw [Option.map_eq_none_iff] at h
  rw [h]
  simp
theorem nxt_ok {g : Game} {m : Nat} (hb : blkOk g.sizes.length m g.blk) (hp : ∀ x ∈ g.sizes, 0 < x) {st : Ways × List (List Nat)} (h : StOk g st) {u row : List Nat} {k : Nat} (hu : wget st.1 u = some row) : StOk g (nxt g st u k) := by
  cases e : wget st.1 (g.step u k) with
  | some r => rw [nxt_some e]; exact h
  | none =>
    have hm := wget_mem hu
    have hW := h.ok.wd _ hm
    have hl := h.ok.ln _ hm
    rw [nxt_none e]
    refine ⟨⟨?_, fun p hp' => ?_, fun p hp' => ?_⟩, fun v hv => ?_⟩
    · rw [List.map_append, List.nodup_append]
      refine ⟨h.ok.nd, by simp, fun a ha b hb' => ?_⟩
      obtain ⟨p, hp', rfl⟩ := List.mem_map.mp ha
      have : b = g.step u k := by simpa using hb'
      rw [this]
      exact wget_none e p hp'
    · rcases List.mem_append.mp hp' with hp' | hp'
      · exact h.ok.wd p hp'
      · have : p = (g.step u k, (wget st.1 u).getD [] ++ [k]) := by simpa using hp'
        rw [this]
        exact Game.step_world hb hp hW k
    · rw [List.length_append, List.length_singleton]
      rcases List.mem_append.mp hp' with hp' | hp'
      · have := h.ok.ln p hp'
        omega
      · have : p = (g.step u k, (wget st.1 u).getD [] ++ [k]) := by simpa using hp'
        rw [this, hu]
        show (row ++ [k]).length < _
        rw [List.length_append, List.length_singleton]
        have hl : row.length < st.1.length := hl
        omega
    · rcases List.mem_append.mp hv with hv | hv
      · obtain ⟨r, hr⟩ := Option.isSome_iff_exists.mp (h.new v hv)
        show (wget (st.1 ++ [(g.step u k, (wget st.1 u).getD [] ++ [k])]) v).isSome = true
        rw [wget_append hr]
        rfl
      · have : v = g.step u k := by simpa using hv
        rw [this]
        show (wget (st.1 ++ [(g.step u k, (wget st.1 u).getD [] ++ [k])]) (g.step u k)).isSome = true
        rw [wget_snoc e]
        rfl
theorem nxt_len (g : Game) (st : Ways × List (List Nat)) (u : List Nat) (k : Nat) : (nxt g st u k).1.length + st.2.length = st.1.length + (nxt g st u k).2.length := by
  cases e : wget st.1 (g.step u k) with
  | some r => rw [nxt_some e]
  | none =>
    rw [nxt_none e]
    show (st.1 ++ _).length + _ = _ + (st.2 ++ _).length
    rw [List.length_append, List.length_append, List.length_singleton, List.length_singleton]
    omega
section
variable {g : Game} {m : Nat}
theorem lay1_ok (hb : blkOk g.sizes.length m g.blk) (hp : ∀ x ∈ g.sizes, 0 < x) {u row : List Nat} {st : Ways × List (List Nat)} (h : StOk g st) (hu : wget st.1 u = some row) : ∀ n, StOk g (lay1 g u n st) ∧ (∀ v r, wget st.1 v = some r → wget (lay1 g u n st).1 v = some r) ∧ (lay1 g u n st).1.length + st.2.length = st.1.length + (lay1 g u n st).2.length
  | 0 => ⟨h, fun _ _ e => e, by show st.1.length + st.2.length = st.1.length + st.2.length; rfl⟩
  | n + 1 => by
    obtain ⟨h1, h2, h3⟩ := lay1_ok hb hp h hu n
    rw [lay1_succ]
    refine ⟨nxt_ok hb hp h1 (h2 _ _ hu), fun v r e => nxt_keep (h2 v r e), ?_⟩
    have := nxt_len g (lay1 g u n st) u n
    omega
theorem lay_ok (hb : blkOk g.sizes.length m g.blk) (hp : ∀ x ∈ g.sizes, 0 < x) {us : List (List Nat)} {ws : Ways} (h : WOk g.sizes ws) (hus : ∀ u ∈ us, (wget ws u).isSome = true) : ∀ i, StOk g (lay g (us.take i) (ws, [])) ∧ (∀ v r, wget ws v = some r → wget (lay g (us.take i) (ws, [])).1 v = some r) ∧ (lay g (us.take i) (ws, [])).1.length = ws.length + (lay g (us.take i) (ws, [])).2.length
  | 0 => ⟨⟨h, fun _ z => by cases z⟩, fun _ _ e => e, by show ws.length = _; simp [lay]⟩
  | i + 1 => by
    obtain ⟨h1, h2, h3⟩ := lay_ok hb hp h hus i
    rw [List.take_succ]
    cases e : us[i]? with
    | none =>
      rw [show us.take i ++ (none : Option (List Nat)).toList = us.take i from List.append_nil _]
      exact ⟨h1, h2, h3⟩
    | some u =>
      obtain ⟨row, hr⟩ := Option.isSome_iff_exists.mp (hus u (List.mem_of_getElem? e))
      obtain ⟨a1, a2, a3⟩ := lay1_ok hb hp h1 (h2 u row hr) g.keys
      rw [show us.take i ++ (some u).toList = us.take i ++ [u] from rfl, lay_snoc]
      exact ⟨a1, fun v r e => a2 v r (h2 v r e), by omega⟩
theorem first_ok (hf : WorldOf g.sizes g.first) : WOk g.sizes [(g.first, [])] := ⟨by simp, fun p hp => by
    have : p = (g.first, []) := by simpa using hp
    rw [this]; exact hf, fun p hp => by
    have : p = (g.first, []) := by simpa using hp
    rw [this]; simp⟩
end
/-! ### promises -/
/-- a game whose first world is a tracked tuple -/
def GameT (K : PySem.W.Frag) (H : Hp) (v : V) (g : Game) : Prop := ∃ (p : Addr) (v1 v2 v4 : V) (pf : Addr), v = .ref p ∧ SqT K H p [v1, v2, .ref pf, v4] ∧ Dp K H v1 (.tuple (g.sizes.map natD)) ∧ Dp K H v2 (.int g.keys) ∧ H pf = some (.tup (g.first.map natV)) ∧ Dp K H v4 (.tuple (blkData g.blk))
theorem GameT.dp {K : PySem.W.Frag} {H : Hp} {v : V} {g : Game} (h : GameT K H v g) : Dp K H v g.data := by
  obtain ⟨p, v1, v2, v4, pf, rfl, hp, h1, h2, h3, h4⟩ := h
  exact .tup hp (.cons h1 (.cons h2 (.cons (.tup (.inl (.inl h3)) (dps_nats g.first)) (.cons h4 .nil))))
theorem GameT.up {K : PySem.W.Frag} {H H' : Hp} {v : V} {g : Game} (h : GameT K H v g) (s : Same H H') : GameT K H' v g := by
  obtain ⟨p, v1, v2, v4, pf, rfl, hp, h1, h2, h3, h4⟩ := h
  exact ⟨p, v1, v2, v4, pf, rfl, seqT_up s hp, dp_up s _ _ h1, dp_up s _ _ h2, s _ _ h3, dp_up s _ _ h4⟩
theorem GameT.tps {K : PySem.W.Frag} {H H' : Hp} {v : V} {g : Game} (h : GameT K H v g) (s : Tps H H') : GameT K H' v g := by
  obtain ⟨p, v1, v2, v4, pf, rfl, hp, h1, h2, h3, h4⟩ := h
  exact ⟨p, v1, v2, v4, pf, rfl, seqT_tps s hp, dp_tps s _ _ (by rw [tupOnly]; exact nats_tup _) h1, dp_tps s _ _ rfl h2, (s _ _).1 h3, dp_tps s _ _ (by rw [tupOnly]; exact blk_tup _) h4⟩
def spGameT (K : PySem.W.Frag) : Sp := fun vs H Q _ => ∃ (d c : Addr) (n : Nat), vs = [.ref d] ∧ DeckAt H d c n ∧ n + gmB ≤ 600000000 ∧
  ∀ (H' : Hp) (n' : Nat) (v : V) (g : Game), Off d c H H' → DeckAt H' d c n' → n ≤ n' → n' ≤ n + gmB → g.Ok → GameT K H' v g → Q v H'
def spPStepT (K : PySem.W.Frag) : Sp := fun vs H Q _ => ∃ (v : V) (w : Addr) (g : Game) (ns : List Nat) (k : Nat), vs = [v, .ref w, .int k] ∧ Dp K H v g.data ∧ g.Ok ∧ SqT K H w (ns.map natV) ∧ WorldOf g.sizes ns ∧ k < g.keys ∧
  ∀ (H' : Hp) (p : Addr), Same H H' → H' p = some (.tup ((g.step ns k).map natV)) → Q (.ref p) H'
def spPWays (K : PySem.W.Frag) : Sp := fun vs H Q _ => ∃ (v : V) (g : Game), vs = [v] ∧ GameT K H v g ∧ g.Ok ∧
  ∀ (H' : Hp) (d : Addr) (kvs : List (List Key × V)), Same H H' → H d = none → H' d = some (.dT kvs) → WV K H' kvs g.ways → Q (.ref d) H'
end Sb
set_option maxHeartbeats 1000000
namespace Sb
open PySem PySem.Spec PyProof.Rows L2
/-! ### worlds in ascending order -/
def intW (w : List Nat) : List Int := w.map fun (n : Nat) => (n : Int)
theorem intW_V (w : List Nat) : (intW w).map V.int = w.map natV := by
  unfold intW
  rw [List.map_map]
  rfl
def wnum (w : List Nat) : Int := TS.code 7 (intW w)
def sortW (l : List (List Nat)) : List (List Nat) := l.mergeSort fun a b => decide (wnum a ≤ wnum b)
theorem sortW_perm (l : List (List Nat)) : (sortW l).Perm l := List.mergeSort_perm l _
theorem sortW_sorted (l : List (List Nat)) : (sortW l).Pairwise fun a b => wnum a ≤ wnum b := by
  have := List.pairwise_mergeSort (le := fun a b : List Nat => decide (wnum a ≤ wnum b)) (fun a b c h1 h2 => by
    have h1 := of_decide_eq_true h1
    have h2 := of_decide_eq_true h2
    exact decide_eq_true (Int.le_trans h1 h2)) (fun a b => by
    rcases Int.le_total (wnum a) (wnum b) with h | h
    · rw [decide_eq_true h]; rfl
    · rw [decide_eq_true h, Bool.or_true]) l
  exact this.imp fun h => of_decide_eq_true h
theorem code_inj7 : ∀ {a b : List Int}, a.length = b.length → TS.Bd 7 a → TS.Bd 7 b → TS.code 7 a = TS.code 7 b → a = b
  | [], [], _, _, _, _ => rfl
  | [], _ :: _, h, _, _, _ => by simp at h
  | _ :: _, [], h, _, _, _ => by simp at h
  | x :: a, y :: b, h, ha, hb, e => by
    have hl : a.length = b.length := by simpa using h
    rcases Int.lt_trichotomy x y with c | c | c
    · have := TS.code_lt hl ha.tail hb.tail c
      omega
    · subst c
      have e2 : TS.code 7 a = TS.code 7 b := by
        rw [TS.code, TS.code, hl] at e
        omega
      rw [code_inj7 hl ha.tail hb.tail e2]
    · have := TS.code_lt hl.symm hb.tail ha.tail c
      omega
theorem bd_world {ss w : List Nat} (h : WorldOf ss w) (h6 : ∀ x ∈ ss, x ≤ 6) : TS.Bd 7 (intW w) := by
  intro m hm
  obtain ⟨n, hn, rfl⟩ := List.mem_map.mp hm
  obtain ⟨i, hi, e⟩ := List.getElem_of_mem hn
  have hl := h.len
  obtain ⟨s, x, e1, e2, hx⟩ := h.get i (by omega)
  have := h6 s (List.mem_of_getElem? e1)
  rw [List.getElem?_eq_getElem hi, e] at e2
  cases e2
  omega
theorem intW_inj {a b : List Nat} (h : intW a = intW b) : a = b := by
  refine wkey_inj ?_
  have e : ∀ w, wkey w = KeyI (intW w) := fun w => by
    unfold wkey KeyI intW
    rw [List.map_map]
    rfl
  rw [e, e, h]
theorem wnum_inj {ss a b : List Nat} (ha : WorldOf ss a) (hb : WorldOf ss b) (h6 : ∀ x ∈ ss, x ≤ 6) (e : wnum a = wnum b) : a = b := by
  refine intW_inj (code_inj7 ?_ (bd_world ha h6) (bd_world hb h6) e)
  unfold intW
  rw [List.length_map, List.length_map, ha.len, hb.len]
theorem sortW_eq {ss : List Nat} (h6 : ∀ x ∈ ss, x ≤ 6) {l us : List (List Nat)} (hl : ∀ w ∈ l, WorldOf ss w) (hp : us.Perm l) (hs : us.Pairwise fun a b => wnum a ≤ wnum b) : us = sortW l := by
  refine List.Perm.eq_of_pairwise (le := fun a b => wnum a ≤ wnum b) (fun a b ha hb h1 h2 => ?_) hs (sortW_sorted l) (hp.trans (sortW_perm l).symm)
  exact wnum_inj (hl a (hp.mem_iff.mp ha)) (hl b ((sortW_perm l).mem_iff.mp hb)) h6 (by omega)
/-- what a world's address tells -/
def decW (H : Hp) (a : Addr) : List Nat := match H a with
  | some (.tup xs) => xs.map fun x => match x with
    | .int i => i.toNat
    | _ => 0
  | _ => []
theorem decW_of {H : Hp} {a : Addr} {w : List Nat} (h : H a = some (.tup (w.map natV))) : decW H a = w := by
  unfold decW
  rw [h]
  show (w.map natV).map _ = w
  rw [List.map_map]
  have : ∀ w : List Nat, w.map ((fun x => match x with
    | V.int i => i.toNat
    | _ => 0) ∘ natV) = w := fun w => by
    induction w with
    | nil => rfl
    | cons n r ih =>
      rw [List.map_cons, ih]
      rfl
  exact this w
theorem tupsAt_dec {H : Hp} {as : List Addr} {ws : List (List Nat)} (h : TupsAt H as ws) : as.map (decW H) = ws := by
  induction h with
  | nil => rfl
  | cons e _ ih => rw [List.map_cons, ih, decW_of e]
theorem tupsAt_mem {H : Hp} {as : List Addr} {ws : List (List Nat)} (h : TupsAt H as ws) : ∀ a ∈ as, H a = some (.tup ((decW H a).map natV)) := by
  induction h with
  | nil => intro a ha; cases ha
  | cons e _ ih =>
    intro a ha
    rcases List.mem_cons.mp ha with rfl | ha
    · rw [decW_of e]; exact e
    · exact ih a ha
theorem tupsAt_of {H : Hp} : ∀ {as : List Addr}, (∀ a ∈ as, H a = some (.tup ((decW H a).map natV))) → TupsAt H as (as.map (decW H))
  | [], _ => .nil
  | a :: r, h => .cons (h a List.mem_cons_self) (tupsAt_of fun b hb => h b (List.mem_cons_of_mem _ hb))
def adr : V → Addr
  | .ref a => a
  | _ => 0
theorem sorted_worlds {ss : List Nat} (h6 : ∀ x ∈ ss, x ≤ 6) {H : Hp} {as : List Addr} {ws : List (List Nat)} (hA : TupsAt H as ws) (hw : ∀ w ∈ ws, WorldOf ss w) {ys : List V} (hp : ys.Perm (as.map V.ref))
    (hs : ys.Pairwise fun x y => ∀ n m, (∃ t, x = .ref t ∧ H t = some (.tup (n.map V.int))) → (∃ t, y = .ref t ∧ H t = some (.tup (m.map V.int))) → TS.code 7 n ≤ TS.code 7 m) : ∃ bs, ys = bs.map V.ref ∧ TupsAt H bs (sortW ws) := by
  have hy : ∀ y ∈ ys, ∃ a ∈ as, y = .ref a := fun y h => by
    obtain ⟨a, ha, e⟩ := List.mem_map.mp (hp.mem_iff.mp h)
    exact ⟨a, ha, e.symm⟩
  have e1 : (ys.map adr).map V.ref = ys := by
    rw [List.map_map]
    have : ∀ zs : List V, (∀ y ∈ zs, ∃ a ∈ as, y = .ref a) → zs.map (V.ref ∘ adr) = zs := fun zs => by
      induction zs with
      | nil => intro _; rfl
      | cons z r ih =>
        intro h
        obtain ⟨a, _, rfl⟩ := h _ List.mem_cons_self
        rw [List.map_cons, ih fun y hy => h y (List.mem_cons_of_mem _ hy)]
        rfl
    exact this ys hy
  have p1 : (ys.map adr).Perm as := by
    have := hp.map adr
    rw [List.map_map] at this
    have e : as.map (adr ∘ V.ref) = as := by
      have : ∀ l : List Addr, l.map (adr ∘ V.ref) = l := fun l => by
        induction l with
        | nil => rfl
        | cons a r ih => rw [List.map_cons, ih]; rfl
      exact this as
    rw [e] at this
    exact this
  have hT : TupsAt H (ys.map adr) ((ys.map adr).map (decW H)) := tupsAt_of fun a ha => tupsAt_mem hA a (p1.mem_iff.mp ha)
  refine ⟨ys.map adr, e1.symm, ?_⟩
  have e2 : (ys.map adr).map (decW H) = sortW ws := by
    refine sortW_eq h6 hw ?_ ?_
    · have := p1.map (decW H)
      rw [tupsAt_dec hA] at this
      exact this
    · rw [List.map_map, List.pairwise_map]
      refine List.Pairwise.imp_of_mem (fun {x y} hx hy' h => ?_) hs
      obtain ⟨a, ha, rfl⟩ := hy x hx
      obtain ⟨b, hb, rfl⟩ := hy y hy'
      have ea := tupsAt_mem hA a ha
      have eb := tupsAt_mem hA b hb
      exact h (intW (decW H a)) (intW (decW H b)) ⟨a, rfl, by rw [intW_V]; exact ea⟩ ⟨b, rfl, by rw [intW_V]; exact eb⟩
  rw [e2] at hT
  exact hT
theorem wv_keys {K : PySem.W.Frag} {H : Hp} {kvs : List (List Key × V)} {ws : Ways} (h : WV K H kvs ws) {bs : List Addr} (k : IsKeys H kvs bs) : TupsAt H bs (ws.map Prod.fst) := by
  induction h generalizing bs with
  | nil => cases k; exact .nil
  | cons e _ ih =>
    cases k with
    | cons e2 k2 =>
      refine .cons ?_ (ih k2)
      rw [e2, e.1, wkey_kV]
theorem wv_bd {K : PySem.W.Frag} {H : Hp} {ss : List Nat} {kvs : List (List Key × V)} {ws : Ways} (h : WV K H kvs ws) (hw : ∀ p ∈ ws, WorldOf ss p.1) (h6 : ∀ x ∈ ss, x ≤ 6) : ∀ p ∈ kvs, ∃ ns, p.1 = KeyI ns ∧ ns.length = ss.length ∧ TS.Bd 7 ns := by
  induction h with
  | nil => intro p hp; cases hp
  | @cons a b _ _ e _ ih =>
    intro p hp
    rcases List.mem_cons.mp hp with rfl | hp
    · have hb := hw b List.mem_cons_self
      refine ⟨intW b.1, ?_, by unfold intW; rw [List.length_map, hb.len], bd_world hb h6⟩
      rw [e.1]
      unfold wkey KeyI intW
      rw [List.map_map]
      rfl
    · exact ih (fun q hq => hw q (List.mem_cons_of_mem _ hq)) p hp
theorem bfs_ok {g : Game} (hg : g.Ok) : ∀ (f : Nat) (ws : Ways) (us : List (List Nat)), WOk g.sizes ws → (∀ u ∈ us, (wget ws u).isSome = true) → WOk g.sizes (bfs g f ws us)
  | 0, ws, us, h, _ => h
  | f + 1, ws, [], h, _ => h
  | f + 1, ws, u :: us, h, hu => by
    obtain ⟨h1, _, _⟩ := lay_ok (us := u :: us) hg.blk hg.sz.pos h hu (u :: us).length
    rw [List.take_length] at h1
    exact bfs_ok hg f _ _ h1.ok h1.new
theorem Game.ways_ok {g : Game} (hg : g.Ok) : WOk g.sizes g.ways := bfs_ok hg 30 _ _ (first_ok hg.fst) fun u hu => by
  have : u = g.first := by simpa using hu
  rw [this]
  simp [wget]
/-- reached, way_to -/
def Game.reached (g : Game) : List (List Nat) := sortW (g.ways.map Prod.fst)
def rowD (o : Option (List Nat)) : PyData := match o with
  | some r => worldD r
  | none => .none
def spPReached (K : PySem.W.Frag) : Sp := fun vs H Q _ => ∃ (v : V) (g : Game), vs = [v] ∧ GameT K H v g ∧ g.Ok ∧ ∀ (H' : Hp) (p : Addr), Same H H' → Dp K H' (.ref p) (.tuple (g.reached.map worldD)) → Q (.ref p) H'
def spPWayTo (K : PySem.W.Frag) : Sp := fun vs H Q _ => ∃ (v : V) (g : Game) (b : Addr) (w : List Nat), vs = [v, .ref b] ∧ GameT K H v g ∧ g.Ok ∧ H b = some (.tup (w.map natV)) ∧ ∀ (H' : Hp) (x : V), Same H H' → Dp K H' x (rowD (wget g.ways w)) → Q x H'
end Sb
set_option maxHeartbeats 1000000
namespace Sb
open PySem PySem.Spec PyProof.Rows L2
/-! ### t + (x,) -/
def rCat1 (K : PySem.W.Frag) : R2 := fun x y H Q => ∃ (a b : Addr) (xs : List V) (z : V), x = .ref a ∧ y = .ref b ∧ SqT K H a xs ∧ H b = some (.tup [z]) ∧ xs.length + 1 ≤ sizeLine ∧ ∀ (H' : Hp) (r : Addr), Same H H' → H' r = some (.tup (xs ++ [z])) → Q (.ref r) H'
theorem op_cat1 {X : Cx} : OpR X (binaryOp .Add) (rCat1 X.K) := fun pins s σ H x y v u Q I rx ry h => op_catA pins s σ H x y v u Q I rx ry (by
  obtain ⟨a, b, xs, z, rfl, rfl, hS, hb, hl, q⟩ := h
  exact ⟨a, b, xs, [z], rfl, rfl, hS, .inl (.inl hb), hl, fun e => (by subst e; exact q H b (fun _ _ e => e) hb), fun _ e => (by cases e), fun _ _ p np => q _ p (same_new np) upd_same⟩)
/-! ### all worlds, all moves -/
theorem mem_allW0 {ss w : List Nat} (h : WorldOf ss w) : ∀ (F : List (List Nat)) (p : List Nat), p ∈ F → p ++ w ∈ ss.foldl (fun f s => extsW s f) F := by
  induction h with
  | nil => intro F p hp; rw [List.append_nil]; exact hp
  | @cons s x ss w hx _ ih =>
    intro F p hp
    rw [List.foldl_cons]
    have := ih (extsW s F) (p ++ [x]) (by
      unfold extsW
      refine List.mem_flatMap.mpr ⟨p, hp, ?_⟩
      unfold extW
      exact List.mem_map.mpr ⟨x, List.mem_range.mpr hx, rfl⟩)
    rw [List.append_assoc] at this
    exact this
theorem mem_allW {ss w : List Nat} (h : WorldOf ss w) : w ∈ allW ss := mem_allW0 h [[]] [] List.mem_cons_self
theorem allW_all {ss w : List Nat} (h : w ∈ allW ss) : WorldOf ss w := by
  have := allW_world ss ss.length w (by rw [List.take_length]; exact h)
  rw [List.take_length] at this
  exact this
theorem allW_le {ss : List Nat} (h : SzOk ss) : (allW ss).length ≤ 1296 := by
  have := allW_len ss.length ss fun x hx => (h.rng x hx).2
  rw [List.take_length] at this
  exact Nat.le_trans this (Nat.le_trans (Nat.pow_le_pow_right (by decide) h.len) (by decide))
def stepsOf (g : Game) (w : List Nat) : List (List Nat) := (List.range g.keys).map (g.step w)
theorem stepsOf_get {g : Game} {w : List Nat} {k : Nat} (h : k < g.keys) : (stepsOf g w)[k]? = some (g.step w k) := by
  unfold stepsOf
  rw [List.getElem?_map, List.getElem?_range h]
  rfl
/-- the moves of the worlds us -/
def MVs (H : Hp) (g : Game) (kvs : List (List Key × V)) (us : List (List Nat)) : Prop := ∀ u ∈ us, ∃ (l : Addr) (as : List Addr), valV kvs (wkey u) = some (.ref l) ∧ H l = some (.lst (as.map V.ref)) ∧ TupsAt H as (stepsOf g u)
theorem MVs.up {H H' : Hp} {g : Game} {kvs : List (List Key × V)} {us : List (List Nat)} (h : MVs H g kvs us) (s : Same H H') : MVs H' g kvs us := fun u hu => by
  obtain ⟨l, as, h1, h2, h3⟩ := h u hu
  exact ⟨l, as, h1, s _ _ h2, h3.up s⟩
def spMoves (K : PySem.W.Frag) : Sp := fun vs H Q _ => ∃ (v : V) (g : Game), vs = [v] ∧ Dp K H v g.data ∧ g.Ok ∧
  ∀ (H' : Hp) (d : Addr) (kvs : List (List Key × V)), Same H H' → H d = none → H' d = some (.dT kvs) → MVs H' g kvs (allW g.sizes) → Q (.ref d) H'
def spLWays (K : PySem.W.Frag) : Sp := fun vs H Q _ => ∃ (v : V) (g : Game) (md : Addr) (kvm : List (List Key × V)), vs = [v, .ref md] ∧ GameT K H v g ∧ g.Ok ∧ H md = some (.dT kvm) ∧ MVs H g kvm (allW g.sizes) ∧
  ∀ (H' : Hp) (d : Addr) (kvs : List (List Key × V)), Same H H' → H d = none → H' d = some (.dT kvs) → WV K H' kvs g.ways → Q (.ref d) H'
theorem worldD_lay (w : List Nat) : PyData.canLay0 (worldD w) = true ∧ (worldD w).depth ≤ 1 := by
  have h : ∀ w : List Nat, PyData.canLayAll0 (w.map natD) = true ∧ PyData.depthAll (w.map natD) = 0 := fun w => by
    induction w with
    | nil => exact ⟨rfl, rfl⟩
    | cons n r ih =>
      refine ⟨?_, ?_⟩
      · rw [List.map_cons, PyData.canLayAll0, ih.1]
        rfl
      · rw [List.map_cons, PyData.depthAll, ih.2]
        rfl
  obtain ⟨a, b⟩ := h w
  unfold worldD
  refine ⟨?_, ?_⟩
  · rw [PyData.canLay0]; exact a
  · rw [PyData.depth, b]
    omega
theorem worlds_shaped (us : List (List Nat)) : SeqAt.shaped (.list (us.map worldD)) = true := by
  have h : PyData.canLayAll0 (us.map worldD) = true ∧ PyData.depthAll (us.map worldD) ≤ 1 := by
    induction us with
    | nil => exact ⟨rfl, by rw [List.map_nil, PyData.depthAll]; omega⟩
    | cons w r ih =>
      obtain ⟨a, b⟩ := worldD_lay w
      refine ⟨?_, ?_⟩
      · rw [List.map_cons, PyData.canLayAll0, a, ih.1]
        rfl
      · have := ih.2
        rw [List.map_cons, PyData.depthAll]
        omega
  unfold SeqAt.shaped
  have h1 : PyData.canLay0 (.list (us.map worldD)) = true := by rw [PyData.canLay0]; exact h.1
  have h2 : (PyData.list (us.map worldD)).depth ≤ 64 := by
    rw [PyData.depth]
    omega
  rw [h1, decide_eq_true h2]
  rfl
end Sb
set_option maxHeartbeats 1000000
namespace Sb
open PySem PySem.Spec PyProof.Rows L2
/-! ### repr of any data -/
def rReprV (K : PySem.W.Frag) : List V → Hp → VK → Prop := fun xs H Q => rRepr K xs H Q ∨ (xs = [.non] ∧ Q (.str "None") H)
theorem call_reprV {X : Cx} (hgd : X.A.guards = some []) (hu : X.A.units + 64 < cLine) : CallR X (.builtin "repr") (rReprV X.K) := by
  intro pins s σ H xs us Q I r h
  rcases h with h | ⟨rfl, q⟩
  · exact call_repr hgd hu pins s σ H xs us Q I r h
  · cases r with
    | cons ra rn =>
      cases rn
      cases ra
      exact PySem.P.repr_of_none ⟨.str "None", H, I.tok _, ⟨_, rfl⟩, q⟩
/-! ### blocks compared -/
theorem Exp.can : ∀ e : Exp, PyData.canLay0 e.data = true
  | .num _ => rfl
  | .key => by rw [Exp.data]; decide +kernel
  | .fld _ => by
    have h : PyData.canLay0 (.str "field") = true := by decide +kernel
    rw [Exp.data, PyData.canLay0, PyData.canLayAll0, PyData.canLayAll0, PyData.canLayAll0, PyData.canLay0, h]; rfl
  | .bin b x y => by
    have h : PyData.canLay0 (.str (pm b)) = true := by cases b <;> decide +kernel
    rw [Exp.data, PyData.canLay0, PyData.canLayAll0, PyData.canLayAll0, PyData.canLayAll0, PyData.canLayAll0, h, Exp.can x, Exp.can y]; rfl
  | .times k x => by
    have h : PyData.canLay0 (.str "times") = true := by decide +kernel
    rw [Exp.data, PyData.canLay0, PyData.canLayAll0, PyData.canLayAll0, PyData.canLayAll0, PyData.canLayAll0, h, Exp.can x, PyData.canLay0]; rfl
theorem Tst.can : ∀ t : Tst, PyData.canLay0 t.data = true
  | .cmp b x y => by
    have h : PyData.canLay0 (.str (ls b)) = true := by cases b <;> decide +kernel
    rw [Tst.data, PyData.canLay0, PyData.canLayAll0, PyData.canLayAll0, PyData.canLayAll0, PyData.canLayAll0, h, Exp.can x, Exp.can y]; rfl
  | .not t => by
    have h : PyData.canLay0 (.str "not") = true := by decide +kernel
    rw [Tst.data, PyData.canLay0, PyData.canLayAll0, PyData.canLayAll0, PyData.canLayAll0, h, Tst.can t]; rfl
mutual
theorem Sta.can : ∀ s : Sta, PyData.canLay0 s.data = true
  | .set f e => by
    have h : PyData.canLay0 (.str "set") = true := by decide +kernel
    rw [Sta.data, PyData.canLay0, PyData.canLayAll0, PyData.canLayAll0, PyData.canLayAll0, PyData.canLayAll0, h, PyData.canLay0, Exp.can e]; rfl
  | .ite t y n => by
    have h : PyData.canLay0 (.str "if") = true := by decide +kernel
    rw [Sta.data, PyData.canLay0, PyData.canLayAll0, PyData.canLayAll0, PyData.canLayAll0, PyData.canLayAll0, PyData.canLayAll0, h, Tst.can t, PyData.canLay0, PyData.canLay0, blk_can y, blk_can n]; rfl
  | .stop => by
    have h : PyData.canLay0 (.str "stop") = true := by decide +kernel
    rw [Sta.data, PyData.canLay0, PyData.canLayAll0, PyData.canLayAll0, h]; rfl
theorem blk_can : ∀ b : List Sta, PyData.canLayAll0 (blkData b) = true
  | [] => by rw [blkData]; rfl
  | s :: r => by rw [blkData, PyData.canLayAll0, Sta.can s, blk_can r]; rfl
end
theorem blk_shaped {nf m : Nat} (hn : nf ≤ 4) (hm : m ≤ 3) {b : List Sta} (h : blkOk nf m b) : SeqAt.shaped (.tuple (blkData b)) = true := by
  have t := blk_tame hn m b h
  have h1 : PyData.canLay0 (.tuple (blkData b)) = true := by rw [PyData.canLay0]; exact blk_can b
  have h2 : (PyData.tuple (blkData b)).depth ≤ 64 := by
    have := t.p
    rw [PyData.depth]
    omega
  unfold SeqAt.shaped
  rw [h1, decide_eq_true h2]
  rfl
theorem nil_shaped : SeqAt.shaped (.tuple []) = true := by decide +kernel
theorem eqv_nil (ds : List PyData) : PyData.eqv (.tuple ds) (.tuple []) = ds.isEmpty := by
  cases ds with
  | nil => rfl
  | cons _ _ => rfl
/-! ### counters that run round -/
def ownS (f : Nat) : Sta := .set f (.bin true (.fld f) (.num 1))
def overT (f : Nat) : Tst := .cmp false (.fld f) (.num 0)
def rblk : Nat → List Sta
  | 0 => []
  | f + 1 => if f = 0 then [ownS 0] else [ownS f, .ite (overT f) (rblk f) []]
theorem rblk_ok {nf : Nat} : ∀ f, f ≤ nf → blkOk nf (f - 1) (rblk f) ∧ (rblk f).length ≤ 2 ∧ blkCnt (rblk f) ≤ 2 * f
  | 0, _ => ⟨by rw [rblk, blkOk]; trivial, by rw [rblk]; decide, by rw [rblk, blkCnt]; omega⟩
  | f + 1, h => by
    have own : ∀ m, (ownS f).ok nf m := fun m => Sta.ok_set (e := .bin true (.fld f) (.num 1)) (by omega) ⟨show f < nf by omega, show (-9 : Int) ≤ 1 ∧ (1 : Int) ≤ 9 by decide⟩ m
    rw [rblk]
    by_cases c : f = 0
    · subst c
      rw [if_pos rfl]
      refine ⟨?_, by decide, ?_⟩
      · rw [blkOk, blkOk]
        exact ⟨own _, trivial⟩
      · rw [blkCnt, blkCnt, ownS, Sta.cnt]
        omega
    · rw [if_neg c]
      obtain ⟨h1, h2, h3⟩ := rblk_ok (nf := nf) f (by omega)
      refine ⟨?_, by show 2 ≤ 2; omega, ?_⟩
      · rw [blkOk, blkOk, blkOk]
        refine ⟨own _, ?_, trivial⟩
        obtain ⟨f, rfl⟩ : ∃ f', f = f' + 1 := ⟨f - 1, by omega⟩
        show (Sta.ite (overT (f + 1)) (rblk (f + 1)) []).ok nf (f + 1)
        rw [Sta.ok]
        refine ⟨?_, ⟨Nat.le_trans h2 (by omega), h1⟩, by show 0 ≤ 3; omega, by rw [blkOk]; trivial⟩
        exact ⟨show f + 1 < nf by omega, show (-9 : Int) ≤ 0 ∧ (0 : Int) ≤ 9 by decide⟩
      · rw [blkCnt, blkCnt, blkCnt, ownS, Sta.cnt, Sta.cnt, blkCnt]
        omega
theorem blkOk_le {nf : Nat} {b : List Sta} : ∀ (k m : Nat), blkOk nf m b → blkOk nf (m + k) b
  | 0, _, h => h
  | k + 1, m, h => blkOk_up _ _ (blkOk_le k m h)
/-! ### rows of keys stay small -/
def RLt (n : Nat) (ws : Ways) : Prop := ∀ p ∈ ws, ∀ k ∈ p.2, k < n
theorem nxt_rlt {g : Game} {st : Ways × List (List Nat)} (h : RLt g.keys st.1) {u : List Nat} {k : Nat} (hk : k < g.keys) : RLt g.keys (nxt g st u k).1 := by
  cases e : wget st.1 (g.step u k) with
  | some r => rw [nxt_some e]; exact h
  | none =>
    rw [nxt_none e]
    intro p hp j hj
    rcases List.mem_append.mp hp with hp | hp
    · exact h p hp j hj
    · have : p = (g.step u k, (wget st.1 u).getD [] ++ [k]) := by simpa using hp
      rw [this] at hj
      rcases List.mem_append.mp hj with hj | hj
      · cases e2 : wget st.1 u with
        | none =>
          rw [e2] at hj
          cases hj
        | some r =>
          rw [e2] at hj
          exact h _ (wget_mem e2) j hj
      · have : j = k := by simpa using hj
        omega
theorem lay1_rlt {g : Game} {u : List Nat} {st : Ways × List (List Nat)} (h : RLt g.keys st.1) : ∀ n, n ≤ g.keys → RLt g.keys (lay1 g u n st).1
  | 0, _ => h
  | n + 1, hn => by
    rw [lay1_succ]
    exact nxt_rlt (lay1_rlt h n (by omega)) (by omega)
theorem lay_rlt {g : Game} : ∀ (us : List (List Nat)) (st : Ways × List (List Nat)), RLt g.keys st.1 → RLt g.keys (lay g us st).1
  | [], st, h => h
  | u :: us, st, h => lay_rlt us (lay1 g u g.keys st) (lay1_rlt h _ (Nat.le_refl _))
theorem bfs_rlt {g : Game} : ∀ (f : Nat) (ws : Ways) (us : List (List Nat)), RLt g.keys ws → RLt g.keys (bfs g f ws us)
  | 0, _, _, h => h
  | _ + 1, _, [], h => h
  | f + 1, ws, u :: us, h => bfs_rlt f _ _ (lay_rlt (u :: us) (ws, []) h)
theorem Game.ways_rlt (g : Game) : RLt g.keys g.ways := bfs_rlt 30 _ _ fun p hp k hk => by
  have : p = (g.first, []) := by simpa using hp
  rw [this] at hk
  cases hk
theorem row_fine {g : Game} (hg : g.Ok) (w : List Nat) : Fine (rowD (wget g.ways w)) 2000 := by
  cases e : wget g.ways w with
  | none =>
    exact ⟨by decide +kernel, by decide +kernel, by decide +kernel, by decide +kernel⟩
  | some row =>
    have hm := wget_mem e
    have ho := Game.ways_ok hg
    have h1 := ho.ln _ hm
    have h2 := ho.le hg.sz
    have h3 := g.ways_rlt _ hm
    have hk := hg.k3
    have h1 : row.length < g.ways.length := h1
    have h2 : g.ways.length ≤ 24 := h2
    have t : Tame (worldD row) 1 120 := ((tame_nats fun x hx => by have := h3 x hx; omega).tup).mono (Nat.le_refl _) (by omega)
    have f := t.fine (by decide)
    exact ⟨f.1, f.2.1, f.2.2.1, Nat.le_trans f.2.2.2 (by decide)⟩
theorem reached_tame {g : Game} (hg : g.Ok) : Tame (.tuple (g.reached.map worldD)) 2 504 := by
  have ho := Game.ways_ok hg
  have h24 := ho.le hg.sz
  have hp := sortW_perm (g.ways.map Prod.fst)
  have hl : g.reached.length ≤ 24 := by
    have := hp.length_eq
    rw [List.length_map] at this
    show (sortW _).length ≤ 24
    omega
  refine (worlds_tame hg.sz (us := g.reached) fun u hu => ?_).tup.mono (Nat.le_refl _) (by omega)
  obtain ⟨p, hp', rfl⟩ := List.mem_map.mp (hp.mem_iff.mp hu)
  exact ho.wd p hp'
end Sb
namespace Sb
open PySem PySem.Spec PyProof.Rows L2
/-! ### what k26's law needs -/
theorem if_game {K : PySem.W.Frag} {j : Nat} {d : Addr} {tt : TT} {σ : L2.St} {H : Hp} {Q : VK} (h1 : σ[j]? = some (some (V.ref d))) (ht : ∀ Q' : Bool → Hp → Prop, (∀ b, Q' b H) → tt σ H Q') (q : spGameT K [.ref d] H Q E0) :
    tIfO tt (tCall (spGameT K) [] E0 (tCons (tVar j) tNil)) (tCall (spGameT K) [] E0 (tCons (tVar j) tNil)) σ H Q := by
  unfold tIfO
  refine ht _ fun b => ?_
  cases b with
  | true => exact iteT ⟨_, h1, q⟩
  | false => exact iteF ⟨_, h1, q⟩
def rSortW (K : PySem.W.Frag) : List V → Hp → VK → Prop := fun vs H Q => ∃ (ss : List Nat) (a : Addr) (as : List Addr) (ws : List (List Nat)), vs = [.ref a] ∧ SzOk ss ∧ SqL K H a (as.map V.ref) ∧ TupsAt H as ws ∧ (∀ w ∈ ws, WorldOf ss w) ∧ ws.length < 64 ∧
  ∀ (H' : Hp) (p : Addr) (bs : List Addr), Same H H' → H' p = some (.lst (bs.map V.ref)) → TupsAt H' bs (sortW ws) → Q (.ref p) H'
theorem cr_sortW {X : Cx} : CallR X (.builtin "sorted") (rSortW X.K) := by
  intro pins s σ H vs us Q I r h
  obtain ⟨ss, a, as, ws, rfl, hz, hS, hA, hw, hl, q⟩ := h
  have h6 : ∀ x ∈ ss, x ≤ 6 := fun x hx => (hz.rng x hx).2
  have hal := hA.len
  refine cr_sortT (d := ss.length) (B := 7) (List.length_pos_iff.mpr hz.ne) pins s σ H _ us Q I r ⟨a, as.map V.ref, rfl, hS, by rw [List.length_map]; omega, fun x hx => ?_, fun ys p hp hs np => ?_⟩
  · obtain ⟨b, hb, rfl⟩ := List.mem_map.mp hx
    have e := tupsAt_mem hA b hb
    have hm : decW H b ∈ ws := by
      have := tupsAt_dec hA
      rw [← this]
      exact List.mem_map.mpr ⟨b, hb, rfl⟩
    refine ⟨intW (decW H b), ⟨b, rfl, .inl (.inl (by rw [intW_V]; exact e))⟩, ?_, bd_world (hw _ hm) h6⟩
    unfold intW
    rw [List.length_map, (hw _ hm).len]
  · obtain ⟨bs, rfl, hT⟩ := sorted_worlds h6 hA hw hp (hs.imp fun {x y} h n m ⟨t, e1, e2⟩ ⟨t', e3, e4⟩ => h n m ⟨t, e1, .inl (.inl e2)⟩ ⟨t', e3, .inl (.inl e4)⟩)
    exact q _ p bs (same_new np) upd_same (hT.up (same_new np))
/-- two worlds' tuples of what is reached -/
theorem reached2_fine {g g' : Game} (hg : g.Ok) (hg' : g'.Ok) : Fine (.list [.tuple (g.reached.map worldD), .tuple (g'.reached.map worldD)]) 20000 := by
  have t := (TameAll.cons (reached_tame hg) (TameAll.cons (reached_tame hg') .nil)).lst
  have f := t.fine (by decide)
  exact ⟨f.1, f.2.1, f.2.2.1, Nat.le_trans f.2.2.2 (by decide)⟩
def stillG : Game := ⟨[2, 2], 3, [1, 0], []⟩
theorem still_ok : stillG.Ok := ⟨szOk_of (by decide), by decide, by decide, .cons (by decide) (.cons (by decide) .nil), by show blkOk 2 3 []; rw [blkOk]; trivial, by decide, by show blkCnt [] ≤ 16; rw [blkCnt]; omega⟩
theorem still_step (w : List Nat) (k : Nat) : stillG.step w k = w := by
  unfold Game.step
  show (blkRun _ _ [] w).2 = w
  rw [blkRun]
theorem still_lay (n : Nat) : lay1 stillG [1, 0] n ([([1, 0], [])], []) = ([([1, 0], [])], []) := by
  induction n with
  | zero => rfl
  | succ n ih =>
    rw [lay1_succ, ih]
    refine nxt_some (row := []) ?_
    rw [still_step]
    decide
theorem still_ways : stillG.ways = [([1, 0], [])] := by
  unfold Game.ways
  show bfs stillG 30 [([1, 0], [])] [[1, 0]] = _
  rw [bfs]
  have e : lay stillG [[1, 0]] ([([1, 0], [])], []) = ([([1, 0], [])], []) := still_lay 3
  rw [e]
  exact bfs_nil _ _ _
theorem still_reached : stillG.reached = [[1, 0]] := by
  unfold Game.reached
  rw [still_ways]
  show sortW [[1, 0]] = _
  unfold sortW
  exact List.mergeSort_singleton _
end Sb
set_option maxHeartbeats 1000000
namespace Sb
open PySem PySem.Spec PyProof.Rows L2
/-! ### plans that a law draws -/
theorem Exp.ok_le {nf : Nat} {wk : Bool} {e : Exp} : ∀ {D D' : Nat}, D ≤ D' → e.ok nf wk D → e.ok nf wk D' := by
  intro D D' h
  induction h with
  | refl => exact fun x => x
  | step _ ih => exact fun x => Exp.ok_up _ e (ih x)
/-- a value is an expression without the key, so deep at most -/
def Xe (K : PySem.W.Frag) (H : Hp) (nf D : Nat) (x : V) : Prop := ∃ e : Exp, e.ok nf false D ∧ Dp K H x e.data
theorem Xe.kpt {K : PySem.W.Frag} {H H' : Hp} {nf D : Nat} {x : V} (h : Xe K H nf D x) (k : Kpt H H') : Xe K H' nf D x := by
  obtain ⟨e, h1, h2⟩ := h
  exact ⟨e, h1, dp_kpt k _ _ (Exp.tup e) h2⟩
theorem Xe.up {K : PySem.W.Frag} {H H' : Hp} {nf D : Nat} {x : V} (h : Xe K H nf D x) (s : Same H H') : Xe K H' nf D x := h.kpt (Kpt.of s)
theorem Xe.le {K : PySem.W.Frag} {H : Hp} {nf D D' : Nat} {x : V} (h : Xe K H nf D x) (l : D ≤ D') : Xe K H nf D' x := by
  obtain ⟨e, h1, h2⟩ := h
  exact ⟨e, Exp.ok_le l h1, h2⟩
theorem Xe.num {K : PySem.W.Frag} {H : Hp} {nf : Nat} {v : Int} (h0 : 0 ≤ v) (h1 : v < 19) : Xe K H nf 1 (.int (v - 9)) := ⟨.num (v - 9), ⟨by omega, by omega⟩, .int _⟩
theorem Xe.fld {K : PySem.W.Frag} {H : Hp} {nf f : Nat} {p : Addr} (h : f < nf) (hp : H p = some (.tup [.str "field", .int f])) : Xe K H nf 1 (.ref p) := ⟨.fld f, h, dpT2 hp (.str _) (.int _)⟩
theorem Xe.plus {K : PySem.W.Frag} {H : Hp} {nf D : Nat} {p : Addr} {x y : V} (hx : Xe K H nf D x) (hy : Xe K H nf D y) (hp : H p = some (.tup [.str "plus", x, y])) : Xe K H nf (D + 1) (.ref p) := by
  obtain ⟨e, h1, h2⟩ := hx
  obtain ⟨f, h3, h4⟩ := hy
  exact ⟨.bin true e f, ⟨h1, h3⟩, dpT3 hp (.str _) h2 h4⟩
theorem Xe.minus {K : PySem.W.Frag} {H : Hp} {nf D : Nat} {p : Addr} {x y : V} (hx : Xe K H nf D x) (hy : Xe K H nf D y) (hp : H p = some (.tup [.str "minus", x, y])) : Xe K H nf (D + 1) (.ref p) := by
  obtain ⟨e, h1, h2⟩ := hx
  obtain ⟨f, h3, h4⟩ := hy
  exact ⟨.bin false e f, ⟨h1, h3⟩, dpT3 hp (.str _) h2 h4⟩
theorem Xe.times {K : PySem.W.Frag} {H : Hp} {nf D : Nat} {p : Addr} {v : Int} {y : V} (h0 : 0 ≤ v) (h1 : v < 19) (hy : Xe K H nf D y) (hp : H p = some (.tup [.str "times", .int (v - 9), y])) : Xe K H nf (D + 1) (.ref p) := by
  obtain ⟨f, h3, h4⟩ := hy
  exact ⟨.times (v - 9) f, ⟨by omega, by omega, h3⟩, dpT3 hp (.str _) (.int _) h4⟩
def Xes (K : PySem.W.Frag) (H : Hp) (nf D : Nat) (xs : List V) : Prop := ∀ x ∈ xs, Xe K H nf D x
theorem Xes.kpt {K : PySem.W.Frag} {H H' : Hp} {nf D : Nat} {xs : List V} (h : Xes K H nf D xs) (k : Kpt H H') : Xes K H' nf D xs := fun x hx => (h x hx).kpt k
theorem Xes.nil {K : PySem.W.Frag} {H : Hp} {nf D : Nat} : Xes K H nf D [] := fun x hx => by cases hx
theorem Xes.cons {K : PySem.W.Frag} {H : Hp} {nf D : Nat} {x : V} {xs : List V} (h : Xe K H nf D x) (hs : Xes K H nf D xs) : Xes K H nf D (x :: xs) := fun y hy => by
  rcases List.mem_cons.mp hy with e | hy
  · exact e ▸ h
  · exact hs y hy
theorem Xes.app {K : PySem.W.Frag} {H : Hp} {nf D : Nat} {xs ys : List V} (h : Xes K H nf D xs) (hs : Xes K H nf D ys) : Xes K H nf D (xs ++ ys) := fun y hy => by
  rcases List.mem_append.mp hy with hy | hy
  · exact h y hy
  · exact hs y hy
/-- the ways so far: those ahead are ways, the others words -/
def Wd (x : V) : Prop := x = .str "kept" ∨ x = .str "stays" ∨ x = .str "made"
def Wys (K : PySem.W.Frag) (H : Hp) (nf i : Nat) (xs : List V) : Prop := xs.length = nf ∧ ∀ j x, xs[j]? = some x → (j < i → ∃ w : Way, w.ok nf ∧ Dp K H x w.data) ∧ (i ≤ j → Wd x)
theorem Way.ofWd {K : PySem.W.Frag} {H : Hp} {nf : Nat} {x : V} (h : Wd x) (hm : x ≠ .str "made") : ∃ w : Way, w.ok nf ∧ Dp K H x w.data := by
  rcases h with rfl | rfl | rfl
  · exact ⟨.kept, trivial, .str _⟩
  · exact ⟨.stays, trivial, .str _⟩
  · exact absurd rfl hm
theorem Wys.kpt {K : PySem.W.Frag} {H H' : Hp} {nf i : Nat} {xs : List V} (h : Wys K H nf i xs) (k : Kpt H H') : Wys K H' nf i xs := ⟨h.1, fun j x hx => ⟨fun hj => by
  obtain ⟨w, h1, h2⟩ := (h.2 j x hx).1 hj
  exact ⟨w, h1, dp_kpt k _ _ (Way.tup w) h2⟩, (h.2 j x hx).2⟩⟩
theorem Wys.keep {K : PySem.W.Frag} {H : Hp} {nf i : Nat} {xs : List V} (h : Wys K H nf i xs) (hm : ∀ x, xs[i]? = some x → x ≠ .str "made") : Wys K H nf (i + 1) xs := ⟨h.1, fun j x hx => ⟨fun hj => by
  by_cases e : j < i
  · exact (h.2 j x hx).1 e
  · have e : j = i := by omega
    subst e
    exact Way.ofWd ((h.2 j x hx).2 (Nat.le_refl _)) (hm x hx), fun hj => (h.2 j x hx).2 (by omega)⟩⟩
theorem Wys.put {K : PySem.W.Frag} {H : Hp} {nf i : Nat} {xs : List V} {v : V} {w : Way} (h : Wys K H nf i xs) (hi : i < nf) (h1 : w.ok nf) (h2 : Dp K H v w.data) : Wys K H nf (i + 1) (xs.set i v) := by
  refine ⟨by rw [List.length_set, h.1], fun j x hx => ?_⟩
  by_cases e : i = j
  · subst e
    rw [List.getElem?_set_self (by rw [h.1]; exact hi)] at hx
    cases hx
    exact ⟨fun _ => ⟨w, h1, h2⟩, fun z => by omega⟩
  · rw [List.getElem?_set_ne e] at hx
    exact ⟨fun hj => (h.2 j x hx).1 (by omega), fun hj => (h.2 j x hx).2 (by omega)⟩
theorem Wys.all {K : PySem.W.Frag} {H : Hp} {nf : Nat} : ∀ {xs : List V}, (∀ x ∈ xs, ∃ w : Way, w.ok nf ∧ Dp K H x w.data) → ∃ pl : List Way, pl.length = xs.length ∧ (∀ w ∈ pl, w.ok nf) ∧ DpAll K H xs (pl.map Way.data)
  | [], _ => ⟨[], rfl, fun w hw => (by cases hw), .nil⟩
  | x :: xs, h => by
    obtain ⟨w, h1, h2⟩ := h x (by simp)
    obtain ⟨pl, e1, e2, e3⟩ := Wys.all (xs := xs) fun y hy => h y (by simp [hy])
    exact ⟨w :: pl, by simp [e1], fun u hu => by
      rcases List.mem_cons.mp hu with e | hu
      · exact e ▸ h1
      · exact e2 u hu, .cons h2 e3⟩
theorem Wys.done {K : PySem.W.Frag} {H : Hp} {nf : Nat} {xs : List V} (h : Wys K H nf nf xs) : ∃ pl : List Way, pl.length = nf ∧ (∀ w ∈ pl, w.ok nf) ∧ DpAll K H xs (pl.map Way.data) := by
  obtain ⟨pl, e1, e2, e3⟩ := Wys.all (K := K) (H := H) (nf := nf) (xs := xs) fun x hx => by
    obtain ⟨j, hj⟩ := List.getElem?_of_mem hx
    have := (List.getElem?_eq_some_iff.mp hj).1
    rw [h.1] at this
    exact (h.2 j x hj).1 this
  exact ⟨pl, by rw [e1, h.1], e2, e3⟩
/-- while a plan is drawn -/
structure LB (K : PySem.W.Frag) (d c D D2 : Addr) (nf i : Nat) (xs : List V) (ks : List Nat) (H0 H : Hp) (n : Nat) : Prop where
  o : Off d c H0 H
  dk : DeckAt H d c n
  hD : H D = some (.lst xs)
  hK : H D2 = some (.lst (ks.map natV))
  wy : Wys K H nf i xs
  n1 : D ≠ d
  n2 : D ≠ c
  n3 : D2 ≠ d
  n4 : D2 ≠ c
theorem LB.same {K : PySem.W.Frag} {d c D D2 : Addr} {nf i n : Nat} {xs : List V} {ks : List Nat} {H0 H H' : Hp} (h : LB K d c D D2 nf i xs ks H0 H n) (s : Same H H') : LB K d c D D2 nf i xs ks H0 H' n :=
  ⟨h.o.trans (off_same s), h.dk.same s, s _ _ h.hD, s _ _ h.hK, h.wy.kpt (Kpt.of s), h.n1, h.n2, h.n3, h.n4⟩
theorem LB.off {K : PySem.W.Frag} {d c D D2 : Addr} {nf i n m : Nat} {xs : List V} {ks : List Nat} {H0 H H' : Hp} (h : LB K d c D D2 nf i xs ks H0 H n) (s : Off d c H H') (hD : DeckAt H' d c m) : LB K d c D D2 nf i xs ks H0 H' m :=
  ⟨h.o.trans s, hD, s _ _ h.hD h.n1 h.n2, s _ _ h.hK h.n3 h.n4, h.wy.kpt (Kpt.off h.dk s), h.n1, h.n2, h.n3, h.n4⟩
theorem LB.new {K : PySem.W.Frag} {d c D D2 : Addr} {nf i n : Nat} {xs : List V} {ks : List Nat} {H0 H : Hp} (h : LB K d c D D2 nf i xs ks H0 H n) {a : Addr} (ha : H a = none) : a ≠ d ∧ a ≠ c := by
  obtain ⟨_, e1, e2, _⟩ := id h.dk
  exact ⟨(ne_of_none e1 ha).symm, (ne_of_none e2 ha).symm⟩
def spLPlan (K : PySem.W.Frag) : Sp := fun vs H Q _ => ∃ (d c p : Addr) (n : Nat) (ss : List Nat), vs = [.ref d, .ref p] ∧ DeckAt H d c n ∧ n + 100 ≤ 1000000000 ∧ SqT K H p (ss.map natV) ∧ SzOk ss ∧
  ∀ (H' : Hp) (n' : Nat) (v : Addr) (pl : List Way), Off d c H H' → DeckAt H' d c n' → n ≤ n' → n' ≤ n + 100 → PlanOk ss pl → Dp K H' (.ref v) (planD pl) → Q (.ref v) H'
def spLKeys (K : PySem.W.Frag) : Sp := fun vs H Q _ => ∃ (d c : Addr) (v : V) (n m : Nat) (g : Game), vs = [.ref d, v, .int m] ∧ DeckAt H d c n ∧ n + 400 ≤ 1000000000 ∧ m ≤ 400 ∧ Dp K H v g.data ∧ g.Ok ∧
  ∀ (H' : Hp) (p : Addr) (ks : List Nat), Off d c H H' → DeckAt H' d c (n + m) → ks.length = m → (∀ k ∈ ks, k < g.keys) → SqT K H' p (ks.map natV) → Q (.ref p) H'
end Sb
set_option maxHeartbeats 1000000
namespace Sb
open PySem PySem.Spec PyProof.Rows L2
/-! ### what the law of tries needs -/
theorem ifO_of {tt : TT} {ta tb : TE} {σ : L2.St} {H : Hp} {Q : VK} (ht : ∀ Q' : Bool → Hp → Prop, (∀ b, Q' b H) → tt σ H Q') (qa : ta σ H Q) (qb : tb σ H Q) : tIfO tt ta tb σ H Q := by
  unfold tIfO
  refine ht _ fun b => ?_
  cases b with
  | true => exact iteT qa
  | false => exact iteF qb
theorem draw2_if {tt : TT} {j : Nat} {σ : L2.St} {H : Hp} {Q : VK} {d c : Addr} {n : Nat} (ht : ∀ Q' : Bool → Hp → Prop, (∀ b, Q' b H) → tt σ H Q') (h2 : σ[j]? = some (some (V.ref d))) (hD : DeckAt H d c n) (hn : n ≤ 1000000000)
    (q : ∀ (H' : Hp) (v : Nat), Off d c H H' → DeckAt H' d c (n + 1) → v ≤ 400 → Q (.int v) H') :
    tIfO tt (tCall spDraw [] E0 (tCons (tVar j) (tCons (tC (V.int 401)) tNil))) (tCall spDraw [] E0 (tCons (tVar j) (tCons (tC (V.int 9)) tNil))) σ H Q := by
  refine ifO_of ht ?_ ?_
  · refine ⟨_, h2, d, c, n, 401, rfl, hD, hn, by decide, by decide, fun H' v o hD' v0 v1 => ?_⟩
    obtain ⟨v, rfl⟩ := Int.eq_ofNat_of_zero_le v0
    exact q H' v o hD' (by omega)
  · refine ⟨_, h2, d, c, n, 9, rfl, hD, hn, by decide, by decide, fun H' v o hD' v0 v1 => ?_⟩
    obtain ⟨v, rfl⟩ := Int.eq_ofNat_of_zero_le v0
    exact q H' v o hD' (by omega)
theorem many_if {K : PySem.W.Frag} {tt : TT} {j : Nat} {σ : L2.St} {H : Hp} {Q : VK} {d c : Addr} {n : Nat} (ht : ∀ Q' : Bool → Hp → Prop, (∀ b, Q' b H) → tt σ H Q') (h2 : σ[j]? = some (some (V.ref d))) (hD : DeckAt H d c n) (hn : n + 2 ≤ 1000000000)
    (q : ∀ (H' : Hp) (n' : Nat) (v : Nat), Off d c H H' → DeckAt H' d c n' → n ≤ n' → n' ≤ n + 2 → v ≤ 400 → Q (.int v) H') :
    tIfO tt (tCall (spOne K) [] E0 (tCons (tVar j) (tCons (tLst (tCons (tC (V.int 0)) (tCons (tC (V.int 1)) (tCons (tC (V.int 2)) (tCons (tCall spDraw [] E0 (tCons (tVar j) (tCons (tC (V.int 61)) tNil))) tNil))))) tNil))) (tCall spDraw [] E0 (tCons (tVar j) (tCons (tC (V.int 401)) tNil))) σ H Q := by
  refine ifO_of ht ?_ ?_
  · refine ⟨_, h2, _, h2, d, c, n, 61, rfl, hD, by omega, by decide, by decide, fun H' v o hD' v0 v1 => ?_⟩
    obtain ⟨v, rfl⟩ := Int.eq_ofNat_of_zero_le v0
    refine ⟨by show 4 ≤ sizeLine; decide, fun l nl => ?_⟩
    have s := same_new (o := .lst [.int 0, .int 1, .int 2, .int (v : Nat)]) nl
    obtain ⟨_, f1, f2, _⟩ := id hD'
    refine ⟨d, c, l, n + 1, _, rfl, hD'.same s, by omega, .inl (.inl (.inl upd_same)), (ne_of_none f1 nl).symm, (ne_of_none f2 nl).symm, by simp, by show 4 ≤ 1000; decide, fun H2 i x o2 hD2 hx => ?_⟩
    have o3 := o.trans ((off_same s).trans o2)
    match i, hx with
    | 0, h => cases h; exact q H2 _ 0 o3 hD2 (by omega) (by omega) (by decide)
    | 1, h => cases h; exact q H2 _ 1 o3 hD2 (by omega) (by omega) (by decide)
    | 2, h => cases h; exact q H2 _ 2 o3 hD2 (by omega) (by omega) (by decide)
    | 3, h => cases h; exact q H2 _ v o3 hD2 (by omega) (by omega) (by omega)
  · refine ⟨_, h2, d, c, n, 401, rfl, hD, by omega, by decide, by decide, fun H' v o hD' v0 v1 => ?_⟩
    obtain ⟨v, rfl⟩ := Int.eq_ofNat_of_zero_le v0
    exact q H' _ v o hD' (by omega) (by omega) (by omega)
theorem Way.tame {nf : Nat} (hn : nf ≤ 4) {w : Way} (h : w.ok nf) : Tame w.data 4 90 := by
  cases w with
  | kept => exact (tame_str (by decide +kernel)).mono (by omega) (by omega)
  | stays => exact (tame_str (by decide +kernel)).mono (by omega) (by omega)
  | made e =>
    have e3 : EW 3 = 72 := by decide
    have t := Exp.tame hn 3 e h
    rw [e3] at t
    exact (TameAll.tup (a := 3) (TameAll.cons ((tame_str (x := "made") (by decide +kernel)).mono (Nat.zero_le _) (Nat.le_refl _)) (TameAll.cons t .nil))).mono (by omega) (by omega)
theorem ways_tame {nf : Nat} (hn : nf ≤ 4) : ∀ {pl : List Way}, (∀ w ∈ pl, w.ok nf) → TameAll (pl.map Way.data) 4 (91 * pl.length)
  | [], _ => TameAll.nil
  | w :: r, h => by
    rw [List.map_cons, List.length_cons]
    exact (TameAll.cons (Way.tame hn (h w (List.mem_cons_self ..))) (ways_tame hn (pl := r) fun x hx => h x (List.mem_cons_of_mem _ hx))).mono (Nat.le_refl _) (by omega)
theorem game_plan_fine {g : Game} {pl : List Way} (hg : g.Ok) (hp : PlanOk g.sizes pl) : Fine (.list [g.data, planD pl]) 60000 := by
  have h4 := hg.sz.len
  have hl := hp.len
  have t := (ways_tame h4 hp.way).tup
  have t := (TameAll.cons (Game.tame hg) (TameAll.cons (t.mono (show 4 + 1 ≤ 15 by decide) (show 91 * pl.length ≤ 400 by omega)) .nil)).lst
  have f := t.fine (by decide)
  exact ⟨f.1, f.2.1, f.2.2.1, Nat.le_trans f.2.2.2 (by decide)⟩
theorem two_fine {ss : List Nat} (hz : SzOk ss) {w : List Nat} (h : WorldOf ss w) : Fine (.list [worldD w, worldD w]) 60000 := by
  have t := (TameAll.cons (world_tame hz h) (TameAll.cons (world_tame hz h) .nil)).lst
  have f := t.fine (by decide)
  exact ⟨f.1, f.2.1, f.2.2.1, Nat.le_trans f.2.2.2 (by decide)⟩
theorem tries_fine {ss : List Nat} (hz : SzOk ss) {us : List (List Nat)} (h : ∀ u ∈ us, WorldOf ss u) (hl : us.length = 5) : Fine (.list [.tuple (us.map worldD), .tuple (us.map worldD)]) 60000 := by
  have t1 := (worlds_tame hz h).tup
  rw [hl] at t1
  have t := (TameAll.cons t1 (TameAll.cons t1 .nil)).lst
  have f := t.fine (by decide)
  exact ⟨f.1, f.2.1, f.2.2.1, Nat.le_trans f.2.2.2 (by decide)⟩
/-- what the law's loops keep: the deck, the game, the plan -/
structure Ct (K : PySem.W.Frag) (d c pg pp : Addr) (g : Game) (pl : List Way) (H : Hp) (n : Nat) : Prop where
  dk : DeckAt H d c n
  dg : Dp K H (.ref pg) g.data
  dp : Dp K H (.ref pp) (planD pl)
theorem Ct.same {K : PySem.W.Frag} {d c pg pp : Addr} {g : Game} {pl : List Way} {H H' : Hp} {n : Nat} (h : Ct K d c pg pp g pl H n) (s : Same H H') : Ct K d c pg pp g pl H' n := ⟨h.dk.same s, dp_up s _ _ h.dg, dp_up s _ _ h.dp⟩
theorem Ct.off {K : PySem.W.Frag} {d c pg pp : Addr} {g : Game} {pl : List Way} {H H' : Hp} {n m : Nat} (h : Ct K d c pg pp g pl H n) (s : Off d c H H') (hD : DeckAt H' d c m) : Ct K d c pg pp g pl H' m := ⟨hD, dp_kpt (Kpt.off h.dk s) _ _ (Game.tup _) h.dg, dp_kpt (Kpt.off h.dk s) _ _ (plan_tup _) h.dp⟩
theorem all_dp {K : PySem.W.Frag} {H : Hp} {d : PyData} : ∀ {ps : List V}, (∀ x ∈ ps, Dp K H x d) → DpAll K H ps (List.replicate ps.length d)
  | [], _ => .nil
  | p :: ps, h => .cons (h p (List.mem_cons_self ..)) (all_dp fun x hx => h x (List.mem_cons_of_mem _ hx))
theorem all_snoc {K : PySem.W.Frag} {H : Hp} {d : PyData} {D : Addr} {ps : List V} {x : V} (ht : tupOnly d = true) (hD : H D = some (.lst ps)) (h : ∀ y ∈ ps, Dp K H y d) (hx : Dp K H x d) : ∀ y ∈ ps ++ [x], Dp K (upd H D (.lst (ps ++ [x]))) y d := fun y hy => by
  have kp : Kpt H (upd H D (.lst (ps ++ [x]))) := Kpt.put hD
  rcases List.mem_append.mp hy with hy | hy
  · exact dp_kpt kp _ _ ht (h y hy)
  · rw [List.mem_singleton] at hy
    exact hy ▸ dp_kpt kp _ _ ht hx
theorem game_first {K : PySem.W.Frag} {H : Hp} {p : Addr} {g : Game} (h : Dp K H (.ref p) g.data) : ∃ (ps pf : Addr) (vb : V), SqT K H p [.ref ps, .int g.keys, .ref pf, vb] ∧ SqT K H ps (g.sizes.map natV) ∧ SqT K H pf (g.first.map natV) := by
  obtain ⟨a, v1, v2, v3, v4, e, hp, h1, h2, h3, h4⟩ := dp_t4 h
  cases e
  obtain ⟨ps, rfl, hs⟩ := dp_nats h1
  obtain ⟨pf, rfl, hf⟩ := dp_nats h3
  obtain rfl := dp_int h2
  exact ⟨ps, pf, v4, hp, hs, hf⟩
def miniG : Game := ⟨[3], 1, [0], []⟩
theorem mini_ok : miniG.Ok := ⟨szOk_of (by decide), by decide, by decide, .cons (by decide) .nil, by show blkOk 1 3 []; rw [blkOk]; trivial, by decide, by show blkCnt [] ≤ 16; rw [blkCnt]; omega⟩
def miniP : List Way := [.made (.num (-1))]
theorem miniP_ok : PlanOk miniG.sizes miniP := ⟨rfl, fun w hw => by
  have : w = .made (.num (-1)) := by simpa [miniP] using hw
  subst this
  exact ⟨by decide, by decide⟩⟩
theorem mini_data : miniG.data = .tuple [.tuple [.int 3], .int 1, .tuple [.int 0], .tuple []] := by
  show PyData.tuple [.tuple [.int 3], .int 1, .tuple [.int 0], .tuple (blkData [])] = _
  rw [blkData]
theorem mini_back : backOf miniG.sizes miniP [0] [1] = [2] := rfl
end Sb
set_option maxHeartbeats 4000000
namespace Sb
open PySem PySem.Spec PyProof.Rows L2
/-! ### the facts of a top of defs alone -/
def gloB (K : PySem.W.Frag) (x : Str) : Bool := He.eqO (PySem.W.nsIn K mainGlobals x) (some (some (.ref (He.ga K x))))
def freeB (K : PySem.W.Frag) (x : Str) : Bool := He.eqO (PySem.W.nsIn K mainGlobals x) (some none)
def okN (frees glos : List Str) (K : PySem.W.Frag) : Bool := (frees.all fun x => freeB K x) && (glos.all fun x => gloB K x)
def dfn (x : Str) (st : Stmt) (dfl : List He.Dv) : He.DefD := ⟨(x, none), x, x, defArgs st, defBody st, defScope st, dfl, []⟩
section
variable {frees glos : List Str} {fn : List He.DefD} {K : PySem.W.Frag} {h : Heap} {mg : Str → Option Value}
theorem okN_free (X : K.In h) (G : h.Ns mainGlobals mg) (c : okN frees glos K = true) {x : Str} (hx : x ∈ frees) : mg x = none := by
  have h1 := (He.ba c).1
  exact PySem.W.mg_none_of X G (He.eqO_ok (List.all_eq_true.mp h1 x hx))
theorem okN_glo (X : K.In h) (G : h.Ns mainGlobals mg) (c : okN frees glos K = true) {x : Str} (hx : x ∈ glos) : mg x = some (.ref (He.ga K x)) := by
  have h1 := (He.ba c).2
  exact PySem.W.mg_of X G (He.eqO_ok (List.all_eq_true.mp h1 x hx))
theorem seen_funD {ok : PySem.W.Frag → Bool} (c : seenK ok fn K = (true, fn.map He.DefD.val)) (i : Nat) {d : He.DefD} (h : fn[i]? = some d) : ∃ fd, FunD K d.name d.qual d.params d.body d.scope (d.dvs K) (d.kws K) (He.fAd K d.at_) fd := by
  have c2 := (Bool.and_eq_true_iff.mp (congrArg Prod.fst c)).2
  have e2 : (fn.map fun d => He.fnW K d.at_)[i]? = (fn.map He.DefD.val)[i]? := congrArg (fun z : Seen => z.2[i]?) c
  rw [List.getElem?_map, List.getElem?_map, h] at e2
  exact He.DefD.funD (Option.some.inj e2) (List.all_eq_true.mp c2 _ (List.mem_of_getElem? h))
/-- a def without defaults -/
theorem dn_of (X : K.In h) (G : h.Ns mainGlobals mg) (c : seenK (okN frees glos) fn K = (true, fn.map He.DefD.val)) (i : Nat) {x : Str} {st : Stmt} (hi : fn[i]? = some (dfn x st [])) (hx : x ∈ glos) {ps : List Str}
    (hb : ∀ (kV doc pm : Value) (an : Option Addr) (cdv ct : Value) (us : List Value), us.length = ps.length → bindArgs (PySem.W.fnOf x x (defArgs st) (defBody st) (defScope st) .none kV doc pm an cdv ct) ⟨us, []⟩ = pure (ps.zip us)) : ∃ fd, Dn K mg x st ps (He.ga K x) fd := by
  obtain ⟨fd, F⟩ := seen_fun c i hi
  exact ⟨fd, F, F.binds hb, okN_glo X G (seen_ok c) hx⟩
/-- a def with defaults, all of its parameters given or all defaults left out -/
theorem dnD_of (X : K.In h) (G : h.Ns mainGlobals mg) (c : seenK (okN frees glos) fn K = (true, fn.map He.DefD.val)) (i : Nat) {x : Str} {st : Stmt} {dfl : List He.Dv} (hi : fn[i]? = some (dfn x st dfl)) (hx : x ∈ glos) {ps : List Str} (hne : dfl ≠ []) (hle : dfl.length ≤ ps.length)
    (hb : ∀ (T : Addr) (kV doc pm : Value) (an : Option Addr) (cdv ct : Value) (us its : List Value), us.length = ps.length → its.length = dfl.length →
      ∃ k, bindArgs (PySem.W.fnOf x x (defArgs st) (defBody st) (defScope st) (.ref T) kV doc pm an cdv ct) ⟨us, []⟩ = seqItems? (.ref T) >>= k ∧ k (some its.toArray) = pure (ps.zip us))
    (hb2 : ∀ (T : Addr) (kV doc pm : Value) (an : Option Addr) (cdv ct : Value) (us its : List Value), us.length = ps.length - dfl.length → its.length = dfl.length →
      ∃ k, bindArgs (PySem.W.fnOf x x (defArgs st) (defBody st) (defScope st) (.ref T) kV doc pm an cdv ct) ⟨us, []⟩ = seqItems? (.ref T) >>= k ∧ k (some its.toArray) = pure (ps.zip (us ++ its))) : ∃ fd, DnD K mg x st (dfl.map (He.Dv.v K)) ps (He.ga K x) fd := by
  obtain ⟨fd, F⟩ := seen_funD c i hi
  have F' : FunD K x x (defArgs st) (defBody st) (defScope st) (dfl.map (He.Dv.v K)) [] (He.ga K x) fd := F
  have hl : (dfl.map (He.Dv.v K)).length = dfl.length := List.length_map _
  have hne' : dfl.map (He.Dv.v K) ≠ [] := fun e => hne (List.map_eq_nil_iff.mp e)
  obtain ⟨ds, hv, B⟩ := F'.binds1 (ps := ps) ps.length dfl.length hne' (by rw [hl]; omega) (fun T kV doc pm an cdv ct us its h1 h2 => by
    rw [hl] at h2
    obtain ⟨k, e1, e2⟩ := hb T kV doc pm an cdv ct us its h1 h2
    refine ⟨k, e1, ?_⟩
    rw [e2, List.drop_of_length_le (by omega), List.append_nil])
  rw [List.drop_of_length_le (by omega)] at hv
  cases hv
  obtain ⟨ds2, hv2, B2⟩ := F'.binds1 (ps := ps) (ps.length - dfl.length) 0 hne' (by rw [hl]; omega) (fun T kV doc pm an cdv ct us its h1 h2 => by
    rw [hl] at h2
    exact hb2 T kV doc pm an cdv ct us its h1 h2)
  exact ⟨fd, F', B, ⟨ds2, hv2, B2⟩, okN_glo X G (seen_ok c) hx⟩
end
end Sb
set_option maxHeartbeats 4000000
namespace K32
open PySem PySem.Spec PyProof.Rows L2 Sb
def topS (i : Nat) : Stmt := PySem.Challenge.pw_savedback_k32_tries_walked.main.body.getD i (.Pass ⟨0, 0, 0, 0⟩)
/-! ### the deck -/
abbrev sDeck : Stmt := topS 11
abbrev sDraw : Stmt := topS 12
abbrev sOne : Stmt := topS 13
theorem scDeck : FnScope ["_law_script", "_law_cell"] ["_law_script"] (defScope sDeck) := ⟨rfl, rfl, rfl, by decide +kernel, rfl, by decide +kernel, by decide +kernel⟩
theorem scDraw : FnScope ["_law_deck_here", "_law_many", "_law_cell", "_law_at", "_law_mixed"] ["_law_deck_here", "_law_many"] (defScope sDraw) := ⟨rfl, rfl, rfl, by decide +kernel, rfl, by decide +kernel, by decide +kernel⟩
theorem scOne : FnScope ["_law_deck_here", "_law_items"] ["_law_deck_here", "_law_items"] (defScope sOne) := ⟨rfl, rfl, rfl, by decide +kernel, rfl, by decide +kernel, by decide +kernel⟩
section
variable {P : Program} {w : World} {K : PySem.W.Frag} {mg : Str → Option Value} {base : Heap}
theorem ok_deck {f : Addr} {fd : FuncData} (F : Fun K "_law_deck" "_law_deck" sDeck f fd) (mAbs : mg "abs" = none) : FnOk P w K mg base CX0 1 f fd ["_law_script"] (spDeck K) := by
  refine F.ok scDeck (fun vs H Q E h => ?_) (fun cdv A outer s H vs Q E hr h => ?_)
  · obtain ⟨a, ns, rfl, _⟩ := h
    rfl
  · obtain ⟨a, ns, rfl, hS, hlen, q⟩ := h
    refine ⟨_, pss_one (ps_ret (pe_lst (pa_cons (pe_lc (own := [("_law_cell", 1)]) (g := gName 1) (tt := tYes) (by rfl) scDeck.nd (pi_list (pe_slice sl_list (pv 0) po_none (po_some pe_int)))
      (blkOk_by (own := [("_law_cell", 1)]) (N := ["_law_script", "_law_cell"]) (sc := defScope sDeck) (by decide +kernel)) (fun _ _ _ _ _ => pg_name (i := 1) scDeck.nd rfl (Or.inl rfl)) (fun _ _ _ _ _ => pts_nil)
      (fun _ _ _ _ _ => pe_callB call_abs (by rfl) mAbs (by decide +kernel) (pa_cons (pv 1) pa_nil))) (pa_cons pe_int pa_nil)))), ?_⟩
    refine ⟨_, rfl, 63, rfl, a, _, rfl, hS, fun l nl => ?_⟩
    have s1 : Same H (upd H l (.lst (cutV (ns.map V.int) none (some 63)))) := same_new nl
    refine ⟨l, rfl, ⟨_, .inl (.inl upd_same)⟩, fun D nD => ?_⟩
    have s2 := s1.trans (same_new (o := .lst []) nD)
    have eD : D ≠ l := fun e => by
      rw [e, upd_same] at nD
      cases nD
    rw [cut_ints ns hlen] at *
    refine lc_list (xs := ns.map V.int) (fun i H' => Same H H' ∧ H' l = some (.lst (ns.map V.int)) ∧ ∃ ms : List Int, ms.length = i ∧ H' D = some (.lst (ms.map V.int)))
      ⟨s2, by rw [upd_ne eD.symm, upd_same], [], rfl, upd_same⟩ (fun i H' _ h => .inl (.inl h.2.1)) (fun i x H' hx hP => ?_) (fun H' hP => ?_)
    · obtain ⟨sm, hl, ms, rfl, hD⟩ := hP
      obtain ⟨z, rfl⟩ : ∃ z, x = V.int z := by
        obtain ⟨z, _, e⟩ := List.mem_map.mp (List.mem_of_getElem? hx)
        exact ⟨z, e.symm⟩
      have hi : ms.length < ns.length := by
        have e := (List.getElem?_eq_some_iff.mp hx).1
        rw [List.length_map] at e
        exact e
      refine ⟨rfl, tYes_then ?_⟩
      refine ⟨_, rfl, _, rfl, ms.map V.int, hD, by rw [List.length_map]; exact abs_len (by omega), ?_, ?_, ms ++ [if z < 0 then -z else z], ?_, ?_⟩
      · exact same_put sm ((same_new (o := .lst _) nl).free nD)
      · rw [upd_ne eD.symm]
        exact hl
      · rw [List.length_append, List.length_singleton]
      · rw [upd_same, List.map_append]
        rfl
    · obtain ⟨sm, hl, ms, e, hD⟩ := hP
      rw [List.length_map] at e
      refine ⟨by show 2 ≤ sizeLine; decide, fun d nd => ?_⟩
      refine q _ d D (sm.trans (same_new nd)) (sm.free nd) (s1.free nD) ⟨ms, upd_same, ?_, by omega⟩
      rw [upd_ne (ne_of_none hD nd)]
      exact hD
theorem ok_draw {f : Addr} {fd : FuncData} (F : Fun K "_law_draw" "_law_draw" sDraw f fd) (mLen : mg "len" = none) (mInt : mg "int" = none) : FnOk P w K mg base CX0 1 f fd ["_law_deck_here", "_law_many"] spDraw := by
  refine F.ok scDraw (fun vs H Q E h => ?_) (fun cdv A outer s H vs Q E hr h => ?_)
  · obtain ⟨d, c, n, m, rfl, _⟩ := h
    rfl
  · obtain ⟨d, c, n, m, rfl, hD, hn, hm0, hm1, q⟩ := h
    have nd := scDraw.nd
    refine ⟨_, pss_cons (ps_asg (pe_op op_add (pe_ix ix_list (pv 0) pe_int (fun _ _ => rfl)) pe_int) (pg_sub (pv 0) pe_int set_list))
      (pss_cons (ps_asg (pe_tup (pa_cons pe_int (pa_cons (pe_un un_neg pe_int) pa_nil))) (pg_tup (by rfl) (pgs_cons (pg_name (i := 2) nd rfl (Or.inl rfl)) (pgs_cons (pg_name (i := 3) nd rfl (Or.inl rfl)) pgs_nil))))
      (pss_cons (ps_if (pt_cmpR op_gt (pe_callB call_len_seq (by rfl) mLen PySem.boot_len (pa_cons (pe_ix ix_list (pv 0) pe_int (fun _ _ => rfl)) pa_nil)) pe_int (nomark _))
        (pss_cons (ps_set (i := 3) nd rfl (Or.inl rfl) (pe_op op_mod (pe_callTy call_int1 (by rfl) mInt (by decide +kernel) (pa_cons (pe_ix ix_list (pv 0) pe_int (fun _ _ => rfl)) pa_nil)) (pe_callB call_len_seq (by rfl) mLen PySem.boot_len (pa_cons (pe_ix ix_list (pv 0) pe_int (fun _ _ => rfl)) pa_nil))))
        (pss_one (ps_set (i := 2) nd rfl (Or.inl rfl) (pe_ix ix_list (pe_ix ix_list (pv 0) pe_int (fun _ _ => rfl)) (pv 3) (fun _ _ => rfl))))) pss_nil)
      (pss_cons (ps_if (pt_cmpR op_ge (pv 2) (pe_op op_pow pe_int pe_int) (nomark _))
        (pss_cons (ps_asg (pe_op op_fdiv (pe_callTy call_int1 (by rfl) mInt (by decide +kernel) (pa_cons (pv 2) pa_nil)) (pv 1)) (pg_sub (pe_ix ix_list (pv 0) pe_int (fun _ _ => rfl)) (pv 3) set_list))
        (pss_one (ps_ret (pe_op op_mod (pe_callTy call_int1 (by rfl) mInt (by decide +kernel) (pa_cons (pv 2) pa_nil)) (pv 1))))) pss_nil)
      (pss_cons (ps_set (i := 4) nd rfl (Or.inl rfl) (pe_op op_add (pe_op op_add (pe_op op_mod (pe_callTy call_int1 (by rfl) mInt (by decide +kernel) (pa_cons (pv 2) pa_nil)) pe_int) (pe_op op_mul pe_int (pe_ix ix_list (pv 0) pe_int (fun _ _ => rfl)))) pe_int))
      (pss_one (ps_ret (pe_op op_mod (pe_callTy call_int1 (by rfl) mInt (by decide +kernel) (pa_cons (pe_op op_mod (pe_callTy call_int1 (by rfl) mInt (by decide +kernel) (pa_cons (pe_op op_pow (pv 4) pe_int) pa_nil)) pe_int) pa_nil)) (pv 1)))))))), ?_⟩
    have hcd := hD.ne
    obtain ⟨ns, h1, h2, hlen⟩ := hD
    -- deck[1] = deck[1] + 1
    refine ⟨_, rfl, d, _, 1, .int n, rfl, rfl, .inl (.inl h1), rfl, n, 1, rfl, rfl, ?_⟩
    refine ⟨_, rfl, d, _, 1, 1, rfl, rfl, h1, rfl, ?_⟩
    generalize hH1 : upd H d (.lst (List.set [.ref c, .int n] 1 (.int (n + 1)))) = H1
    have e1 : H1 d = some (.lst [.ref c, .int (n + 1)]) := by rw [← hH1, upd_same]; rfl
    have e2 : H1 c = some (.lst (ns.map V.int)) := by rw [← hH1, upd_ne hcd]; exact h2
    have e3 : ∀ b, b ≠ d → H1 b = H b := fun b hb => by rw [← hH1, upd_ne hb]
    clear hH1
    -- cell, at = 0, -1
    refine ⟨_, rfl, by show 2 ≤ sizeLine; decide, fun T nT => ?_⟩
    refine ⟨T, _, rfl, .inl (.inl upd_same), rfl, _, _, rfl, _, _, rfl, rfl, ?_⟩
    generalize hH2 : upd H1 T (.tup [.int 0, .int (-1)]) = H2
    have dT : d ≠ T := ne_of_none e1 nT
    have cT : c ≠ T := ne_of_none e2 nT
    have f1 : H2 d = some (.lst [.ref c, .int (n + 1)]) := by rw [← hH2, upd_ne dT]; exact e1
    have f2 : H2 c = some (.lst (ns.map V.int)) := by rw [← hH2, upd_ne cT]; exact e2
    have f3 : Off d c H H2 := by
      intro b o hb h1 h2
      have e := e3 b h1
      rw [hb] at e
      rw [← hH2, upd_ne (ne_of_none e nT)]
      exact e
    clear hH2
    -- if len(deck[0]) > 0
    refine ⟨_, rfl, d, _, 0, .ref c, rfl, rfl, .inl (.inl f1), rfl, c, _, rfl, .inl (.inl (.inl f2)), _, _, rfl, rfl, _, rfl, ?_⟩
    refine ite2 (fun h0 => ?_) (fun h0 => ?_)
    · have hpos : 0 < ns.length := by
        have e := of_decide_eq_true h0
        rw [List.length_map] at e
        omega
      have hp' : (0 : Int) < ((ns.map V.int).length : Nat) := of_decide_eq_true h0
      -- at = int(deck[1]) % len(deck[0]); cell = deck[0][at]
      refine ⟨_, rfl, d, _, 1, .int (n + 1), rfl, rfl, .inl (.inl f1), rfl, .inl ⟨_, rfl, ?_⟩⟩
      refine ⟨_, rfl, d, _, 0, .ref c, rfl, rfl, .inl (.inl f1), rfl, c, _, rfl, .inl (.inl (.inl f2)), _, _, rfl, rfl, hp', ?_⟩
      obtain ⟨j, hj, hjl⟩ := mod_at (i := ((n : Int) + 1)) hp'
      obtain ⟨cell, hc⟩ : ∃ cell, ns[j]? = some cell := ⟨ns[j]'(by rw [List.length_map] at hjl; exact hjl), List.getElem?_eq_getElem _⟩
      have hcm : (ns.map V.int)[j]? = some (.int cell) := by rw [List.getElem?_map, hc]; rfl
      have hat : atI (ns.map V.int) (((n : Int) + 1) % ((ns.map V.int).length : Nat)) = some (.int cell) := by rw [hj]; exact atI_nat hcm
      have hix : ixN (ns.map V.int).length (((n : Int) + 1) % ((ns.map V.int).length : Nat)) = some j := by rw [hj]; exact ixN_nat hjl
      refine ⟨_, rfl, d, _, 0, .ref c, rfl, rfl, .inl (.inl f1), rfl, _, rfl, c, _, _, .int cell, rfl, rfl, .inl (.inl f2), hat, ?_⟩
      -- if cell >= 10 ** 18
      refine ⟨_, rfl, _, _, rfl, rfl, ⟨by decide, by decide, by decide⟩, _, _, rfl, rfl, _, rfl, ?_⟩
      refine ite2 (fun h1 => ?_) (fun h1 => ?_)
      · refine ⟨_, rfl, .inl ⟨_, rfl, ?_⟩⟩
        refine ⟨_, rfl, _, _, rfl, rfl, ⟨hm0, hm1⟩, _, rfl, d, _, 0, .ref c, rfl, rfl, .inl (.inl f1), rfl, _, rfl, c, _, _, j, rfl, rfl, f2, hix, ?_⟩
        refine ⟨_, rfl, .inl ⟨_, rfl, ?_⟩⟩
        refine ⟨_, rfl, _, _, rfl, rfl, hm0, ?_⟩
        refine q _ _ (f3.trans fun b o hb h1 h2 => by rw [upd_ne h2]; exact hb) ⟨ns.set j (cell / m), ?_, ?_, by rw [List.length_set]; exact hlen⟩ (Int.emod_nonneg _ (Int.ne_of_gt hm0)) (Int.emod_lt_of_pos _ hm0)
        · rw [upd_ne hcd.symm]
          exact f1
        · rw [upd_same, List.map_set]
      refine ⟨_, rfl, .inl ⟨_, rfl, ?_⟩⟩
      refine ⟨_, _, rfl, rfl, (by show (0 : Int) < 2147483563; decide), _, rfl, d, _, 1, .int (n + 1), rfl, rfl, .inl (.inl f1), rfl, _, _, rfl, rfl, .inl ⟨by decide, by decide⟩, _, _, rfl, rfl, _, _, rfl, rfl, ?_⟩
      refine ⟨_, rfl, _, _, rfl, rfl, ⟨by decide, by decide, deck_small hn (by decide) (by decide) (by decide) (by decide)⟩, .inl ⟨_, rfl, ?_⟩⟩
      refine ⟨_, _, rfl, rfl, (by show (0 : Int) < 2147483629; decide), .inl ⟨_, rfl, ?_⟩⟩
      refine ⟨_, rfl, _, _, rfl, rfl, hm0, ?_⟩
      exact q _ _ f3 ⟨ns, f1, f2, hlen⟩ (Int.emod_nonneg _ (Int.ne_of_gt hm0)) (Int.emod_lt_of_pos _ hm0)
    · refine ⟨_, rfl, _, _, rfl, rfl, ⟨by decide, by decide, by decide⟩, _, _, rfl, rfl, _, rfl, ?_⟩
      refine iteF ?_
      refine ⟨_, rfl, .inl ⟨_, rfl, ?_⟩⟩
      refine ⟨_, _, rfl, rfl, (by show (0 : Int) < 2147483563; decide), _, rfl, d, _, 1, .int (n + 1), rfl, rfl, .inl (.inl f1), rfl, _, _, rfl, rfl, .inl ⟨by decide, by decide⟩, _, _, rfl, rfl, _, _, rfl, rfl, ?_⟩
      refine ⟨_, rfl, _, _, rfl, rfl, ⟨by decide, by decide, deck_small hn (by decide) (by decide) (by decide) (by decide)⟩, .inl ⟨_, rfl, ?_⟩⟩
      refine ⟨_, _, rfl, rfl, (by show (0 : Int) < 2147483629; decide), .inl ⟨_, rfl, ?_⟩⟩
      refine ⟨_, rfl, _, _, rfl, rfl, hm0, ?_⟩
      exact q _ _ f3 ⟨ns, f1, f2, hlen⟩ (Int.emod_nonneg _ (Int.ne_of_gt hm0)) (Int.emod_lt_of_pos _ hm0)
theorem ok_one {f fD : Addr} {fd fdD : FuncData} (F : Fun K "_law_one" "_law_one" sOne f fd) (FD : Fun K "_law_draw" "_law_draw" sDraw fD fdD) (bD : Binds K fdD ["_law_deck_here", "_law_many"] []) (gD : mg "_law_draw" = some (.ref fD)) (mLen : mg "len" = none) (mInt : mg "int" = none) :
    FnOk P w K mg base CX0 2 f fd ["_law_deck_here", "_law_items"] (spOne K) := by
  have GD : FnOk P w K mg base CX0 1 fD fdD ["_law_deck_here", "_law_many"] spDraw := ok_draw FD mLen mInt
  refine F.ok scOne (fun vs H Q E h => ?_) (fun cdv A outer s H vs Q E hr h => ?_)
  · obtain ⟨d, c, t, n, xs, rfl, _⟩ := h
    rfl
  · obtain ⟨d, c, t, n, xs, rfl, hD, hn, hS, h1, h2, hne, hlen, q⟩ := h
    have hlp : (0 : Int) < (xs.length : Nat) := by
      have := List.length_pos_iff.mpr hne
      omega
    refine ⟨_, pss_one (ps_ret (pe_ix ix_seq (pv 1) (pe_call GD hr (by rfl) gD FD.kp bD .nil pass0 (pa_cons (pv 0) (pa_cons (pe_callB call_len_seq (by rfl) mLen PySem.boot_len (pa_cons (pv 1) pa_nil)) pa_nil))) (fun _ _ => rfl))), ?_⟩
    refine ⟨_, rfl, _, rfl, _, rfl, t, xs, rfl, hS, d, c, n, _, rfl, hD, hn, hlp, by omega, fun H' v f3 hD' v0 v1 => ?_⟩
    obtain ⟨j, rfl⟩ := Int.eq_ofNat_of_zero_le v0
    have hj : j < xs.length := by omega
    have hx : xs[j]? = some (xs[j]'hj) := List.getElem?_eq_getElem hj
    have e := q H' j _ f3 hD' hx
    rcases hS with hS | hS
    · exact .inl ⟨t, xs, _, _, rfl, rfl, f3.seqL hS h1 h2, atI_nat hx, e⟩
    · exact .inr (.inl ⟨t, xs, _, _, rfl, rfl, f3.seqT hS h1 h2, atI_nat hx, e⟩)
end
end K32
set_option maxHeartbeats 4000000
namespace K32
open PySem PySem.Spec PyProof.Rows L2 Sb
abbrev sExpr : Stmt := topS 14
abbrev pDraw : List Str := ["_law_deck_here", "_law_many"]
abbrev pExpr : List Str := ["_law_deck_here", "_law_fields", "_law_deep", "_law_with_key"]
theorem scExpr : FnScope ["_law_deck_here", "_law_fields", "_law_deep", "_law_with_key", "_law_way", "_law_first"] pExpr (defScope sExpr) := ⟨rfl, rfl, rfl, by decide +kernel, rfl, by decide +kernel, by decide +kernel⟩
section
variable {P : Program} {w : World} {K : PySem.W.Frag} {mg : Str → Option Value} {base : Heap}
theorem ok_expr {f fD : Addr} {fd fdD : FuncData} (DE : Dn K mg "_law_expression" sExpr pExpr f fd) (DD : Dn K mg "_law_draw" sDraw pDraw fD fdD) (m_len : mg "len" = none) (m_int : mg "int" = none) :
    ∀ D, FnOk P w K mg base CX0 (D + 1) f fd pExpr (spExpr K D)
  | 0 => never fun _ _ _ _ z => z
  | D + 1 => by
    have G__law_expression : FnOk P w K mg base CX0 (D + 1) f fd pExpr (spExpr K D) := ok_expr DE DD m_len m_int D
    have G__law_draw : FnOk P w K mg base CX0 1 fD fdD pDraw spDraw := ok_draw DD.F m_len m_int
    obtain ⟨F__law_expression, b__law_expression, g__law_expression⟩ := DE
    obtain ⟨F__law_draw, b__law_draw, g__law_draw⟩ := DD
    refine F__law_expression.ok scExpr (fun vs H Q E h => ?_) (fun cdv A outer s H vs Q E hr h => ?_)
    · obtain ⟨d, c, n, nf, wk, rfl, _⟩ := h
      rfl
    · obtain ⟨d, c, n, nf, wk, rfl, hD, hn, hf0, hf6, hD2, q⟩ := h
      have nd := scExpr.nd
      have r__law_draw := hr.mono (show 1 ≤ D + 1 by omega)
      have r__law_expression := hr
      have hfm : (0 : Int) < nf ∧ (nf : Int) < 1073741824 := by omega
      refine ⟨_, (pss_cons (ps_set (i := 4) nd rfl (Or.inl rfl) (pe_ifExp (pt_cmpR op_gt (pv 2) pe_int (nomark _)) (pe_call G__law_draw r__law_draw (by rfl) g__law_draw F__law_draw.kp b__law_draw .nil pass0 (pa_cons (pv 0) (pa_cons pe_int pa_nil))) (pe_call G__law_draw r__law_draw (by rfl) g__law_draw F__law_draw.kp b__law_draw .nil pass0 (pa_cons (pv 0) (pa_cons pe_int pa_nil)))))
      (pss_cons (ps_if (pt_cmpR op_eq (pv 4) pe_int (nomark _))
      (pss_one (ps_ret (pe_op op_sub (pe_call G__law_draw r__law_draw (by rfl) g__law_draw F__law_draw.kp b__law_draw .nil pass0 (pa_cons (pv 0) (pa_cons pe_int pa_nil))) pe_int)))
      pss_nil)
      (pss_cons (ps_if (PW.pt (pw_and (pt_cmpR op_eq (pv 4) pe_int (nomark _)) (pw_and1 (pt_val (pv 3)))))
      (pss_one (ps_ret pe_str))
      pss_nil)
      (pss_cons (ps_if (pt_cmpR op_lt (pv 4) pe_int (nomark _))
      (pss_one (ps_ret (pe_tup (pa_cons pe_str (pa_cons (pe_call G__law_draw r__law_draw (by rfl) g__law_draw F__law_draw.kp b__law_draw .nil pass0 (pa_cons (pv 0) (pa_cons (pv 1) pa_nil))) pa_nil)))))
      pss_nil)
      (pss_cons (ps_if (pt_cmpR op_eq (pv 4) pe_int (nomark _))
      (pss_one (ps_ret (pe_tup (pa_cons pe_str (pa_cons (pe_op op_sub (pe_call G__law_draw r__law_draw (by rfl) g__law_draw F__law_draw.kp b__law_draw .nil pass0 (pa_cons (pv 0) (pa_cons pe_int pa_nil))) pe_int) (pa_cons (pe_call G__law_expression r__law_expression (by rfl) g__law_expression F__law_expression.kp b__law_expression .nil pass0 (pa_cons (pv 0) (pa_cons (pv 1) (pa_cons (pe_op op_sub (pv 2) pe_int) (pa_cons (pv 3) pa_nil))))) pa_nil))))))
      pss_nil)
      (pss_cons (ps_set (i := 5) nd rfl (Or.inl rfl) (pe_call G__law_expression r__law_expression (by rfl) g__law_expression F__law_expression.kp b__law_expression .nil pass0 (pa_cons (pv 0) (pa_cons (pv 1) (pa_cons (pe_op op_sub (pv 2) pe_int) (pa_cons (pv 3) pa_nil))))))
      (pss_one (ps_ret (pe_tup (pa_cons (pe_ix ix_list (pe_lst (pa_cons pe_str (pa_cons pe_str pa_nil))) (pe_op op_mod (pe_callTy call_int1 (by rfl) m_int (by decide +kernel) (pa_cons (pv 4) pa_nil)) pe_int) (fun _ _ => rfl)) (pa_cons (pv 5) (pa_cons (pe_call G__law_expression r__law_expression (by rfl) g__law_expression F__law_expression.kp b__law_expression .nil pass0 (pa_cons (pv 0) (pa_cons (pv 1) (pa_cons (pe_op op_sub (pv 2) pe_int) (pa_cons (pv 3) pa_nil))))) pa_nil)))))))))))), ?_⟩
      refine ⟨_, rfl, _, _, rfl, rfl, _, rfl, ?_⟩
      have p4 : 4 ≤ 2 ^ (D + 2) := by
        have e1 : 2 ^ (D + 2) = 4 * 2 ^ D := by rw [Nat.pow_succ, Nat.pow_succ]; omega
        have := Nat.one_le_two_pow (n := D)
        omega
      have p8 : 2 ^ (D + 2) = 2 * 2 ^ (D + 1) := by rw [Nat.pow_succ]; omega
      -- the way
      match D, hD2, q, G__law_expression, p4, p8 with
      | 0, hD2, q, G__law_expression, p4, p8 =>
        refine iteF ?_
        refine ⟨_, rfl, d, c, n, 4, rfl, hD, by omega, by decide, by decide, fun H1 way o1 hD1 w0 w1 => ?_⟩
        refine ⟨_, rfl, rfl, _, rfl, ?_⟩
        refine ite2 (fun h0 => ?_) (fun h0 => ?_)
        · refine ⟨_, rfl, d, c, n + 1, 19, rfl, hD1, by omega, by decide, by decide, fun H2 v o2 hD2' v0 v1 => ?_⟩
          refine ⟨_, _, rfl, rfl, ?_⟩
          exact q H2 (n + 2) _ (.num (v - 9)) (o1.trans o2) hD2' (by omega) (by omega) ⟨by omega, by omega⟩ (.int _)
        refine and_vals (b := wk) rfl rfl ?_
        refine ite2 (fun h1 => ?_) (fun h1 => ?_)
        · have hk : wk = true := by
            rw [Bool.and_eq_true] at h1
            exact h1.2
          exact q H1 (n + 1) _ .key o1 hD1 (by omega) (by omega) hk (.str _)
        refine ⟨_, rfl, _, _, rfl, rfl, _, rfl, ?_⟩
        refine ite2 (fun h2 => ?_) (fun h2 => ?_)
        · refine ⟨_, rfl, _, rfl, d, c, n + 1, nf, rfl, hD1, by omega, hfm.1, hfm.2, fun H2 v o2 hD2' v0 v1 => ?_⟩
          obtain ⟨x, rfl⟩ := Int.eq_ofNat_of_zero_le v0
          refine ⟨by show 2 ≤ sizeLine; decide, fun p np => ?_⟩
          exact q _ (n + 2) _ (.fld x) (o1.trans (o2.trans (off_same (same_new np)))) (hD2'.same (same_new np)) (by omega) (by omega) (by show x < nf; omega) (dpT2 upd_same (.str _) (.int _))
        exact (h2 (decide_eq_true w1)).elim
      | D + 1, hD2, q, G__law_expression, p4, p8 =>
        have p9 : 2 ^ (D + 2) = 4 * 2 ^ D := by rw [Nat.pow_succ, Nat.pow_succ]; omega
        have pa : 2 ^ (D + 1 + 2) = 8 * 2 ^ D := by rw [Nat.pow_succ, Nat.pow_succ, Nat.pow_succ]; omega
        rw [pa] at hn q
        clear p4 p8
        have p1 := Nat.one_le_two_pow (n := D)
        refine ite2 (fun _ => ?_) (fun h => (h (decide_eq_true (by omega))).elim)
        refine ⟨_, rfl, d, c, n, 8, rfl, hD, by omega, by decide, by decide, fun H1 way o1 hD1 w0 w1 => ?_⟩
        refine ⟨_, rfl, rfl, _, rfl, ?_⟩
        refine ite2 (fun h0 => ?_) (fun h0 => ?_)
        · refine ⟨_, rfl, d, c, n + 1, 19, rfl, hD1, by omega, by decide, by decide, fun H2 v o2 hD2' v0 v1 => ?_⟩
          refine ⟨_, _, rfl, rfl, ?_⟩
          exact q H2 (n + 2) _ (.num (v - 9)) (o1.trans o2) hD2' (by omega) (by omega) ⟨by omega, by omega⟩ (.int _)
        refine and_vals (b := wk) rfl rfl ?_
        refine ite2 (fun h1 => ?_) (fun h1 => ?_)
        · have hk : wk = true := by
            rw [Bool.and_eq_true] at h1
            exact h1.2
          exact q H1 (n + 1) _ .key o1 hD1 (by omega) (by omega) hk (.str _)
        refine ⟨_, rfl, _, _, rfl, rfl, _, rfl, ?_⟩
        refine ite2 (fun h2 => ?_) (fun h2 => ?_)
        · refine ⟨_, rfl, _, rfl, d, c, n + 1, nf, rfl, hD1, by omega, hfm.1, hfm.2, fun H2 v o2 hD2' v0 v1 => ?_⟩
          obtain ⟨x, rfl⟩ := Int.eq_ofNat_of_zero_le v0
          refine ⟨by show 2 ≤ sizeLine; decide, fun p np => ?_⟩
          exact q _ (n + 2) _ (.fld x) (o1.trans (o2.trans (off_same (same_new np)))) (hD2'.same (same_new np)) (by omega) (by omega) (by show x < nf; omega) (dpT2 upd_same (.str _) (.int _))
        refine ⟨_, rfl, rfl, _, rfl, ?_⟩
        refine ite2 (fun h3 => ?_) (fun h3 => ?_)
        · refine ⟨_, rfl, d, c, n + 1, 19, rfl, hD1, by omega, by decide, by decide, fun H2 v o2 hD2' v0 v1 => ?_⟩
          refine ⟨_, _, rfl, rfl, ?_⟩
          refine ⟨_, rfl, _, rfl, _, rfl, _, _, rfl, rfl, _, rfl, ?_⟩
          refine ⟨d, c, n + 2, nf, wk, congrArg (fun z => [V.ref d, V.int nf, V.int z, V.bl wk]) (show ((D + 1 : Nat) : Int) + 1 - 1 = (D : Int) + 1 by omega), hD2', by rw [p9]; omega, hf0, hf6, by omega, fun H3 n3 v3 e3 o3 hD3 m3 b3 k3 dp3 => ?_⟩
          rw [p9] at b3
          refine ⟨by show 3 ≤ sizeLine; decide, fun p np => ?_⟩
          exact q _ n3 _ (.times (v - 9) e3) (o1.trans (o2.trans (o3.trans (off_same (same_new np))))) (hD3.same (same_new np)) (by omega) (by omega) ⟨by omega, by omega, k3⟩ (dpT3 upd_same (.str _) (.int _) (dp_up (same_new np) _ _ dp3))
        -- first = ..
        refine ⟨_, rfl, _, rfl, _, rfl, _, _, rfl, rfl, _, rfl, ?_⟩
        refine ⟨d, c, n + 1, nf, wk, congrArg (fun z => [V.ref d, V.int nf, V.int z, V.bl wk]) (show ((D + 1 : Nat) : Int) + 1 - 1 = (D : Int) + 1 by omega), hD1, by rw [p9]; omega, hf0, hf6, by omega, fun H2 n2 v2 e2 o2 hD2' m2 b2 k2 dp2 => ?_⟩
        -- the word
        refine ⟨by show 2 ≤ sizeLine; decide, fun t nt => ?_⟩
        have ht : (upd H2 t (.lst [.str "plus", .str "minus"])) t = some (.lst [.str "plus", .str "minus"]) := upd_same
        have hD2t := hD2'.same (same_new (o := .lst [.str "plus", .str "minus"]) nt)
        have dp2t := dp_up (same_new (o := .lst [.str "plus", .str "minus"]) nt) _ _ dp2
        have o2t := o2.trans (off_same (same_new (o := .lst [.str "plus", .str "minus"]) nt))
        generalize upd H2 t (.lst [.str "plus", .str "minus"]) = H2t at ht hD2t dp2t o2t ⊢
        refine ⟨_, rfl, .inl ⟨_, rfl, ?_⟩⟩
        refine ⟨_, _, rfl, rfl, (by show (0 : Int) < 2; decide), ?_⟩
        obtain ⟨b, hb⟩ : ∃ b : Bool, atI [V.str "plus", V.str "minus"] (way % 2) = some (.str (pm b)) := by
          have e : way % 2 = 0 ∨ way % 2 = 1 := by omega
          rcases e with e | e
          · exact ⟨true, by rw [e]; rfl⟩
          · exact ⟨false, by rw [e]; rfl⟩
        refine ⟨t, _, _, _, rfl, rfl, .inl (.inl ht), hb, ?_⟩
        refine ⟨_, rfl, ?_⟩
        refine ⟨_, rfl, _, rfl, _, rfl, _, _, rfl, rfl, _, rfl, ?_⟩
        refine ⟨d, c, n2, nf, wk, congrArg (fun z => [V.ref d, V.int nf, V.int z, V.bl wk]) (show ((D + 1 : Nat) : Int) + 1 - 1 = (D : Int) + 1 by omega), hD2t, by rw [p9] at b2 ⊢; omega, hf0, hf6, by omega, fun H3 n3 v3 e3 o3 hD3 m3 b3 k3 dp3 => ?_⟩
        rw [p9] at b2 b3
        refine ⟨by show 3 ≤ sizeLine; decide, fun p np => ?_⟩
        have dp2z := dp_kpt (Kpt.off hD2t o3) _ _ (Exp.tup e2) dp2t
        exact q _ n3 _ (.bin b e2 e3) (o1.trans (o2t.trans (o3.trans (off_same (same_new np))))) (hD3.same (same_new np)) (by omega) (by omega) ⟨k2, k3⟩ (dpT3 upd_same (.str _) (dp_up (same_new np) _ _ dp2z) (dp_up (same_new np) _ _ dp3))
end
end K32
set_option maxHeartbeats 4000000
namespace K32
open PySem PySem.Spec PyProof.Rows L2 Sb
abbrev sTest : Stmt := topS 15
abbrev pOne : List Str := ["_law_deck_here", "_law_items"]
abbrev pTest : List Str := ["_law_deck_here", "_law_fields"]
theorem scTest : FnScope ["_law_deck_here", "_law_fields", "_law_test_here", "_law_k"] pTest (defScope sTest) := ⟨rfl, rfl, rfl, by decide +kernel, rfl, by decide +kernel, by decide +kernel⟩
section
variable {P : Program} {w : World} {K : PySem.W.Frag} {mg : Str → Option Value} {base : Heap}
theorem ok_ex {f fD : Addr} {fd fdD : FuncData} (DE : Dn K mg "_law_expression" sExpr pExpr f fd) (DD : Dn K mg "_law_draw" sDraw pDraw fD fdD) (m_len : mg "len" = none) (m_int : mg "int" = none) :
    FnOk P w K mg base CX0 4 f fd pExpr (spEx K) := FnOk.anyLt fun i hi => (ok_expr DE DD m_len m_int i).mono (by omega)
theorem ok_test {f fE fO fD : Addr} {fd fdE fdO fdD : FuncData} (DT : Dn K mg "_law_test" sTest pTest f fd) (DE : Dn K mg "_law_expression" sExpr pExpr fE fdE) (DO : Dn K mg "_law_one" sOne pOne fO fdO) (DD : Dn K mg "_law_draw" sDraw pDraw fD fdD)
    (m_len : mg "len" = none) (m_int : mg "int" = none) (m_range : mg "range" = none) : FnOk P w K mg base CX0 5 f fd pTest (spTest K) := by
  have G__law_expression : FnOk P w K mg base CX0 4 fE fdE pExpr (spEx K) := ok_ex DE DD m_len m_int
  have G__law_one : FnOk P w K mg base CX0 2 fO fdO pOne (spOne K) := ok_one DO.F DD.F DD.b DD.g m_len m_int
  obtain ⟨F__law_expression, b__law_expression, g__law_expression⟩ := DE
  obtain ⟨F__law_one, b__law_one, g__law_one⟩ := DO
  refine DT.F.ok scTest (fun vs H Q E h => ?_) (fun cdv A outer s H vs Q E hr h => ?_)
  · obtain ⟨d, c, n, nf, rfl, _⟩ := h
    rfl
  · obtain ⟨d, c, n, nf, rfl, hD, hn, hf0, hf6, q⟩ := h
    have nd := scTest.nd
    have r__law_one := hr.mono (show 2 ≤ 4 by decide)
    have r__law_expression := hr
    refine ⟨_, (pss_cons (ps_set (i := 2) nd rfl (Or.inl rfl) (pe_call G__law_one r__law_one (by rfl) g__law_one F__law_one.kp b__law_one .nil pass0 (pa_cons (pv 0) (pa_cons (pe_lst (pa_cons pe_str (pa_cons pe_str (pa_cons pe_str pa_nil)))) pa_nil))))
      (pss_cons (ps_set (i := 2) nd rfl (Or.inl rfl) (pe_tup (pa_cons (pv 2) (pa_cons (pe_call G__law_expression r__law_expression (by rfl) g__law_expression F__law_expression.kp b__law_expression .nil pass0 (pa_cons (pv 0) (pa_cons (pv 1) (pa_cons pe_int (pa_cons pe_bl pa_nil))))) (pa_cons (pe_call G__law_expression r__law_expression (by rfl) g__law_expression F__law_expression.kp b__law_expression .nil pass0 (pa_cons (pv 0) (pa_cons (pv 1) (pa_cons pe_int (pa_cons pe_bl pa_nil))))) pa_nil)))))
      (pss_cons (ps_for PassesOwn.never rfl (pi_range1 (by rfl) m_range (pa_cons (pe_call G__law_one r__law_one (by rfl) g__law_one F__law_one.kp b__law_one .nil pass0 (pa_cons (pv 0) (pa_cons (pe_lst (pa_cons pe_int (pa_cons pe_int (pa_cons pe_int (pa_cons pe_int (pa_cons pe_int pa_nil)))))) pa_nil))) pa_nil)) (pg_name (i := 3) nd rfl (Or.inl rfl))
      (pss_one (ps_set (i := 2) nd rfl (Or.inl rfl) (pe_tup (pa_cons pe_str (pa_cons (pv 2) pa_nil))))))
      (pss_one (ps_ret (pv 2)))))), ?_⟩
    -- the word
    have hcd := hD.ne
    obtain ⟨ns, hd1, hd2, hdl⟩ := id hD
    refine ⟨_, rfl, by show 3 ≤ sizeLine; decide, fun t nt => ?_⟩
    have s0 := same_new (o := .lst [.str "less", .str "same", .str "same"]) nt
    refine ⟨d, c, t, n, _, rfl, hD.same s0, by omega, .inl (.inl (.inl upd_same)), (ne_of_none hd1 nt).symm, (ne_of_none hd2 nt).symm, by simp, by show 3 ≤ 1000; decide, fun H1 i x o1 hD1 hx => ?_⟩
    have o1' := (off_same s0).trans o1
    obtain ⟨b, rfl⟩ : ∃ b, x = .str (ls b) := by
      match i, hx with
      | 0, h => cases h; exact ⟨true, rfl⟩
      | 1, h => cases h; exact ⟨false, rfl⟩
      | 2, h => cases h; exact ⟨false, rfl⟩
    clear hx
    -- both expressions
    refine ⟨_, rfl, _, rfl, _, rfl, 3, by decide, d, c, n + 1, nf, true, rfl, hD1, by show n + 1 + 16 ≤ _; omega, hf0, hf6, by decide, fun H2 n2 v2 e2 o2 hD2 m2 b2 k2 dp2 => ?_⟩
    have b2 : n2 + 2 ≤ n + 1 + 16 := b2
    refine ⟨_, rfl, _, rfl, 2, by decide, d, c, n2, nf, true, rfl, hD2, by show n2 + 8 ≤ _; omega, hf0, hf6, by decide, fun H3 n3 v3 e3 o3 hD3 m3 b3 k3 dp3 => ?_⟩
    have b3 : n3 + 2 ≤ n2 + 8 := b3
    have dp2 := dp_kpt (Kpt.off hD2 o3) _ _ (Exp.tup e2) dp2
    refine ⟨by show 3 ≤ sizeLine; decide, fun p np => ?_⟩
    have s4 := same_new (o := .tup [.str (ls b), v2, v3]) np
    have dT : Dp K (upd H3 p (.tup [.str (ls b), v2, v3])) (.ref p) (Tst.cmp b e2 e3).data := dpT3 upd_same (.str _) (dp_up s4 _ _ dp2) (dp_up s4 _ _ dp3)
    have hD4 := hD3.same s4
    have o4 := o1'.trans (o2.trans (o3.trans (off_same s4)))
    have kT : (Tst.cmp b e2 e3).ok nf 0 := ⟨k2, Exp.ok_up 2 e3 k3⟩
    generalize upd H3 p _ = H4 at dT hD4 o4 ⊢
    generalize Tst.cmp b e2 e3 = t0 at dT kT
    -- how many "not"
    refine ⟨_, rfl, by show 5 ≤ sizeLine; decide, fun u nu => ?_⟩
    obtain ⟨ns4, hd41, hd42, hdl4⟩ := id hD4
    have s5 := same_new (o := .lst [.int 0, .int 0, .int 0, .int 1, .int 2]) nu
    refine ⟨d, c, u, n3, _, rfl, hD4.same s5, by omega, .inl (.inl (.inl upd_same)), (ne_of_none hd41 nu).symm, (ne_of_none hd42 nu).symm, by simp, by show 5 ≤ 1000; decide, fun H5 i5 x5 o5 hD5 hx5 => ?_⟩
    have dT := dp_kpt (Kpt.off (hD4.same s5) o5) _ _ (Tst.tup t0) (dp_up s5 _ _ dT)
    have o5 := o4.trans ((off_same s5).trans o5)
    obtain ⟨m, rfl, hm⟩ : ∃ m : Nat, x5 = .int m ∧ m ≤ 2 := by
      match i5, hx5 with
      | 0, h => cases h; exact ⟨0, rfl, by decide⟩
      | 1, h => cases h; exact ⟨0, rfl, by decide⟩
      | 2, h => cases h; exact ⟨0, rfl, by decide⟩
      | 3, h => cases h; exact ⟨1, rfl, by decide⟩
      | 4, h => cases h; exact ⟨2, rfl, by decide⟩
    clear hx5
    refine ⟨m, rfl, by omega, by omega, for_range (n := m) (fun k σ H' => ∃ (z : Option V) (v : V) (t : Tst), σ = [some (.ref d), some (.int nf), some v, z] ∧ Sb.Off d c H H' ∧ DeckAt H' d c (n3 + 1) ∧ t.ok nf k ∧ Dp K H' v t.data)
      ⟨_, _, t0, rfl, o5, hD5, kT, dT⟩ (fun k σ H' hk hP => ?_) (fun σ H' hP => ?_)⟩
    · obtain ⟨z, v, t1, rfl, o, hDk, kt, dt⟩ := hP
      refine ⟨_, rfl, by show 2 ≤ sizeLine; decide, fun p2 np2 => ?_⟩
      have s6 := same_new (o := .tup [.str "not", v]) np2
      exact ⟨_, _, .not t1, rfl, o.trans (off_same s6), hDk.same s6, kt, dpT2 upd_same (.str _) (dp_up s6 _ _ dt)⟩
    · obtain ⟨z, v, t1, rfl, o, hDk, kt, dt⟩ := hP
      refine ⟨_, rfl, ?_⟩
      exact q H' (n3 + 1) v t1 o hDk (by omega) (by omega) (Tst.ok_le t1 m 2 kt hm) dt
end
end K32
set_option maxHeartbeats 4000000
namespace K32
open PySem PySem.Spec PyProof.Rows L2 Sb
abbrev sBlock : Stmt := topS 16
abbrev pBlock : List Str := ["_law_deck_here", "_law_fields", "_law_room", "_law_depth"]
theorem scBlock : FnScope ["_law_deck_here", "_law_fields", "_law_room", "_law_depth", "_law_rows", "_law_k", "_law_way", "_law_test_here", "_law_yes"] pBlock (defScope sBlock) := ⟨rfl, rfl, rfl, by decide +kernel, rfl, by decide +kernel, by decide +kernel⟩
section
variable {P : Program} {w : World} {K : PySem.W.Frag} {mg : Str → Option Value} {base : Heap}
theorem ok_block {f fT fE fO fD : Addr} {fd fdT fdE fdO fdD : FuncData} (DB : Dn K mg "_law_block" sBlock pBlock f fd) (DT : Dn K mg "_law_test" sTest pTest fT fdT) (DE : Dn K mg "_law_expression" sExpr pExpr fE fdE) (DO : Dn K mg "_law_one" sOne pOne fO fdO) (DD : Dn K mg "_law_draw" sDraw pDraw fD fdD)
    (m_len : mg "len" = none) (m_int : mg "int" = none) (m_range : mg "range" = none) (m_tuple : mg "tuple" = none) : ∀ M, FnOk P w K mg base CX0 (M + 5) f fd pBlock (spBl K M)
  | 0 => never fun _ _ _ _ z => z
  | M + 1 => by
    have G__law_block : FnOk P w K mg base CX0 (M + 5) f fd pBlock (spBl K M) := ok_block DB DT DE DO DD m_len m_int m_range m_tuple M
    have G__law_test : FnOk P w K mg base CX0 5 fT fdT pTest (spTest K) := ok_test DT DE DO DD m_len m_int m_range
    have G__law_expression : FnOk P w K mg base CX0 4 fE fdE pExpr (spEx K) := ok_ex DE DD m_len m_int
    have G__law_draw : FnOk P w K mg base CX0 1 fD fdD pDraw spDraw := ok_draw DD.F m_len m_int
    obtain ⟨F__law_expression, b__law_expression, g__law_expression⟩ := DE
    obtain ⟨F__law_test, b__law_test, g__law_test⟩ := DT
    obtain ⟨F__law_draw, b__law_draw, g__law_draw⟩ := DD
    obtain ⟨F__law_block, b__law_block, g__law_block⟩ := DB
    refine F__law_block.ok scBlock (fun vs H Q E h => ?_) (fun cdv A outer s H vs Q E hr h => ?_)
    · obtain ⟨d, c, r, n, nf, room, rfl, _⟩ := h
      rfl
    · obtain ⟨d, c, r, n, nf, room, rfl, hM3, hD, hn, hf0, hf6, hR, hrc, q⟩ := h
      have nd := scBlock.nd
      have r__law_draw := hr.mono (show 1 ≤ M + 5 by omega)
      have r__law_expression := hr.mono (show 4 ≤ M + 5 by omega)
      have r__law_test := hr.mono (show 5 ≤ M + 5 by omega)
      have r__law_block := hr
      refine ⟨_, (pss_cons (ps_set (i := 4) nd rfl (Or.inl rfl) (pe_lst pa_nil))
      (pss_cons (ps_for PassesOwn.never rfl (pi_range1 (by rfl) m_range (pa_cons (pe_op op_add (pe_call G__law_draw r__law_draw (by rfl) g__law_draw F__law_draw.kp b__law_draw .nil pass0 (pa_cons (pv 0) (pa_cons pe_int pa_nil))) (pe_callTy call_int1 (by rfl) m_int (by decide +kernel) (pa_cons (pe_cmpR op_eq (pv 3) pe_int (nomark _)) pa_nil))) pa_nil)) (pg_name (i := 5) nd rfl (Or.inl rfl))
      (pss_cons (ps_set (i := 6) nd rfl (Or.inl rfl) (pe_call G__law_draw r__law_draw (by rfl) g__law_draw F__law_draw.kp b__law_draw .nil pass0 (pa_cons (pv 0) (pa_cons pe_int pa_nil))))
      (pss_one (ps_if (pt_cmpR op_gt (pe_ix ix_list (pv 2) pe_int (fun _ _ => rfl)) pe_int (nomark _))
      (pss_cons (ps_asg (pe_op op_sub (pe_ix ix_list (pv 2) pe_int (fun _ _ => rfl)) pe_int) (pg_sub (pv 2) pe_int set_list))
      (pss_one (ps_if (PW.pt (pw_and (pt_cmpR op_lt (pv 6) pe_int (nomark _)) (pw_and1 (pt_cmpR op_lt (pv 3) pe_int (nomark _)))))
      (pss_cons (ps_par (i := 7) (j := 8) (by rfl) nd rfl rfl (by decide) rfl rfl (pa_cons (pe_call G__law_test r__law_test (by rfl) g__law_test F__law_test.kp b__law_test .nil pass0 (pa_cons (pv 0) (pa_cons (pv 1) pa_nil))) (pa_cons (pe_call G__law_block r__law_block (by rfl) g__law_block F__law_block.kp b__law_block .nil pass0 (pa_cons (pv 0) (pa_cons (pv 1) (pa_cons (pv 2) (pa_cons (pe_op op_add (pv 3) pe_int) pa_nil))))) pa_nil)) (by rfl))
      (pss_one (ps_expr (pe_bm PySem.F.plainAttrs_list PySem.F.slot_list_append PySem.F.type_list_append mt_append (pv 4) (pa_cons (pe_tup (pa_cons pe_str (pa_cons (pv 7) (pa_cons (pv 8) (pa_cons (pe_call G__law_block r__law_block (by rfl) g__law_block F__law_block.kp b__law_block .nil pass0 (pa_cons (pv 0) (pa_cons (pv 1) (pa_cons (pv 2) (pa_cons (pe_op op_add (pv 3) pe_int) pa_nil))))) pa_nil))))) pa_nil)))))
      (pss_one (ps_if (PW.pt (pw_and (pt_cmpR op_eq (pv 6) pe_int (nomark _)) (pw_and1 (pt_cmpR op_gt (pv 3) pe_int (nomark _)))))
      (pss_one (ps_expr (pe_bm PySem.F.plainAttrs_list PySem.F.slot_list_append PySem.F.type_list_append mt_append (pv 4) (pa_cons (pe_tup (pa_cons pe_str pa_nil)) pa_nil))))
      (pss_one (ps_expr (pe_bm PySem.F.plainAttrs_list PySem.F.slot_list_append PySem.F.type_list_append mt_append (pv 4) (pa_cons (pe_tup (pa_cons pe_str (pa_cons (pe_call G__law_draw r__law_draw (by rfl) g__law_draw F__law_draw.kp b__law_draw .nil pass0 (pa_cons (pv 0) (pa_cons (pv 1) pa_nil))) (pa_cons (pe_call G__law_expression r__law_expression (by rfl) g__law_expression F__law_expression.kp b__law_expression .nil pass0 (pa_cons (pv 0) (pa_cons (pv 1) (pa_cons pe_int (pa_cons pe_bl pa_nil))))) pa_nil)))) pa_nil)))))))))
      pss_nil))))
      (pss_one (ps_ret (pe_callTy call_tuple_of (by rfl) m_tuple (by decide +kernel) (pa_cons (pv 4) pa_nil)))))), ?_⟩
      have hcd := hD.ne
      obtain ⟨ns, hd1, hd2, hdl⟩ := id hD
      have hrd : r ≠ d := fun e => by
        rw [e, hd1] at hR
        cases hR
      -- rows = []
      refine ⟨by show 0 ≤ sizeLine; decide, fun l nl => ?_⟩
      have s0 := same_new (o := .lst []) nl
      have hl0 : (upd H l (.lst [])) l = some (.lst []) := upd_same
      have hD0 := hD.same s0
      have hR0 := s0 _ _ hR
      have ld : l ≠ d := (ne_of_none hd1 nl).symm
      have lc : l ≠ c := (ne_of_none hd2 nl).symm
      have lr : l ≠ r := (ne_of_none hR nl).symm
      have o0 : But [d, c, r] H (upd H l (.lst [])) := But.same s0
      generalize upd H l _ = H0 at s0 hl0 hD0 hR0 o0 ⊢
      refine ⟨_, rfl, d, c, n, 4, rfl, hD0, by omega, by decide, by decide, fun H1 cn o1 hD1 v0 v1 => ?_⟩
      refine ⟨_, rfl, rfl, .inr ⟨_, rfl, ?_⟩⟩
      refine ⟨_, _, rfl, rfl, ?_⟩
      have hlx : l ∉ [d, c, r] := by simp [ld, lc, lr]
      have b0 : BI K d c r l H H0 n room [] [] := ⟨o0, hD0, hR0, hl0, by rw [blkData]; exact .nil⟩
      have b1 := b0.off o1 hD1 hrd hrc hlx
      obtain ⟨N, hN, hN4, hN3⟩ : ∃ N : Nat, cn + (if decide (V.int (3 - (M : Int)) = V.int 0) = true then 1 else 0) = (N : Int) ∧ N ≤ 4 ∧ (M < 3 → N ≤ 3) := by
        obtain ⟨x, rfl⟩ := Int.eq_ofNat_of_zero_le v0
        by_cases e : decide (V.int (3 - (M : Int)) = V.int 0) = true
        · have := int_eq e
          rw [if_pos e]
          exact ⟨x + 1, rfl, by omega, by omega⟩
        · rw [if_neg e]
          exact ⟨x, by omega, by omega, by omega⟩
      clear b0
      have hst := stB_le M
      have hB : n + (1 + 4 * stB M) ≤ 700000000 := hn
      refine ⟨(N : Int), congrArg (fun z => [V.int z]) hN, by omega, by omega, for_range (n := N) (fun i σ H' => ∃ (z5 z6 z7 z8 : Option V) (n' room' : Nat) (vs : List V) (blk : List Sta),
        σ = [some (.ref d), some (.int nf), some (.ref r), some (.int (3 - (M : Int))), some (.ref l), z5, z6, z7, z8] ∧ BI K d c r l H H' n' room' vs blk ∧ n + 1 ≤ n' ∧ n' ≤ n + 1 + i * stB M ∧ room' + blkCnt blk = room ∧ blkOk nf M blk ∧ blk.length ≤ i)
        ⟨_, _, _, _, n + 1, room, [], [], rfl, b1, by omega, by omega, by rw [blkCnt]; rfl, by rw [blkOk]; trivial, by simp⟩ (fun i σ H' hi hP => ?_) (fun σ H' hP => ?_)⟩
      · obtain ⟨z5, z6, z7, z8, n', room', vs, blk, rfl, b, hn1, hn2, hcnt, hok, hlen⟩ := hP
        have hiB : i * stB M + stB M ≤ 4 * stB M := by
          have : (i + 1) * stB M ≤ 4 * stB M := Nat.mul_le_mul_right _ (by omega)
          rw [Nat.add_mul, Nat.one_mul] at this
          exact this
        have hsi : (i + 1) * stB M = i * stB M + stB M := by rw [Nat.add_mul, Nat.one_mul]
        have hvl := dps_len b.dp
        rw [blkData_length] at hvl
        have hvs : vs.length < sizeLine := small1000 (by omega)
        -- the way
        refine ⟨_, rfl, d, c, n', 9, rfl, b.dk, by omega, by decide, by decide, fun H1 way o1 hD1 w0 w1 => ?_⟩
        have b := b.off o1 hD1 hrd hrc hlx
        refine ⟨_, rfl, r, _, 0, .int room', rfl, rfl, .inl (.inl b.rm), rfl, _, _, rfl, rfl, _, rfl, ?_⟩
        refine ite2 (fun hr0 => ?_) (fun hr0 => ?_)
        · obtain ⟨rm, rfl⟩ : ∃ rm, room' = rm + 1 := ⟨room' - 1, by have := of_decide_eq_true hr0; omega⟩
          refine ⟨_, rfl, r, _, 0, .int _, rfl, rfl, .inl (.inl b.rm), rfl, _, _, rfl, rfl, ?_⟩
          refine ⟨_, rfl, r, _, 0, 0, rfl, rfl, b.rm, rfl, ?_⟩
          have hru : List.set [V.int ((rm + 1 : Nat) : Int)] 0 (.int (((rm + 1 : Nat) : Int) - 1)) = [V.int (rm : Int)] := by
            rw [show (((rm + 1 : Nat) : Int) - 1) = (rm : Int) by omega]
            rfl
          rw [hru]
          have b := b.room (room1 := rm) hrd hrc hlx
          generalize upd H1 r _ = H2 at b ⊢
          dsimp only []
          refine ifS_and (a := decide (way < 3)) (b := decide ((3 - (M : Int)) < 3)) (fun R q => ⟨_, rfl, _, _, rfl, rfl, q⟩) (fun R q => ⟨_, rfl, _, _, rfl, rfl, q⟩) ?_
          refine ite2 (fun hif => ?_) (fun hif => ?_)
          · rw [Bool.and_eq_true] at hif
            have hM := of_decide_eq_true hif.2
            obtain ⟨m, rfl⟩ : ∃ m, M = m + 1 := ⟨M - 1, by omega⟩
            have hsm : stB (m + 1) = 23 + 2 * (1 + 4 * stB m) := by rw [stB]
            -- test, yes
            refine ⟨_, rfl, _, rfl, d, c, n' + 1, nf, rfl, b.dk, by omega, hf0, hf6, fun H3 n3 v3 t3 o3 hD3 m3 b3 k3 dp3 => ?_⟩
            have b := b.off o3 hD3 hrd hrc hlx
            refine ⟨_, rfl, _, rfl, _, rfl, _, rfl, _, _, rfl, rfl, ?_⟩
            refine ⟨d, c, r, n3, nf, rm, congrArg (fun z => [V.ref d, V.int nf, V.ref r, V.int z]) (show 3 - ((m + 1 : Nat) : Int) + 1 = 3 - (m : Int) by omega), by omega, b.dk, by rw [drB]; omega, hf0, hf6, b.rm, hrc,
              fun H4 n4 v4 blk4 room4 bt4 hD4 m4 b4 hR4 cnt4 ok4 len4 len4' dp4 => ?_⟩
            have dp3 := dp_kpt (b.kpt bt4) _ _ (Tst.tup t3) dp3
            have b := b.move bt4 hD4 hR4 hlx
            rw [drB] at b4
            refine ⟨_, _, rfl, ?_⟩
            -- append the statement
            refine ⟨_, rfl, .inl ⟨rfl, _, .inl (.inl b.ls)⟩, ?_⟩
            refine ⟨_, rfl, _, rfl, ?_⟩
            refine ⟨_, rfl, _, rfl, _, rfl, _, rfl, _, _, rfl, rfl, ?_⟩
            refine ⟨d, c, r, n4, nf, room4, congrArg (fun z => [V.ref d, V.int nf, V.ref r, V.int z]) (show 3 - ((m + 1 : Nat) : Int) + 1 = 3 - (m : Int) by omega), by omega, b.dk, by rw [drB]; omega, hf0, hf6, b.rm, hrc,
              fun H5 n5 v5 blk5 room5 bt5 hD5 m5 b5 hR5 cnt5 ok5 len5 len5' dp5 => ?_⟩
            have dp3 := dp_kpt (b.kpt bt5) _ _ (Tst.tup t3) dp3
            have dp4 := dp_kpt (b.kpt bt5) _ _ (by rw [tupOnly]; exact blk_tup blk4) dp4
            have b := b.move bt5 hD5 hR5 hlx
            rw [drB] at b5
            refine ⟨by show 4 ≤ sizeLine; decide, fun p np => ?_⟩
            have s6 := same_new (o := .tup [.str "if", v3, v4, v5]) np
            have b := b.same s6 hrd hrc hlx
            have dS : Dp K (upd H5 p (.tup [.str "if", v3, v4, v5])) (.ref p) (Sta.ite t3 blk4 blk5).data := by
              rw [Sta.data]
              exact dpT4 upd_same (.str _) (dp_up s6 _ _ dp3) (dp_up s6 _ _ dp4) (dp_up s6 _ _ dp5)
            refine ⟨l, _, _, rfl, rfl, b.ls, hvs, ?_⟩
            refine ⟨_, _, _, _, n5, room5, _, _, rfl, b.push nl hlx dS, by omega, by rw [hsi]; omega, ?_, blkOk_snoc hok ?_, by rw [List.length_append, List.length_singleton]; omega⟩
            · rw [blkCnt_snoc, Sta.cnt]
              omega
            · rw [Sta.ok]
              exact ⟨k3, ⟨len4' (by omega), ok4⟩, len5' (by omega), ok5⟩
          refine ifS_and (a := decide (V.int way = V.int 3)) (b := decide (0 < (3 - (M : Int)))) (fun R q => ⟨_, rfl, rfl, q⟩) (fun R q => ⟨_, rfl, _, _, rfl, rfl, q⟩) ?_
          refine ite2 (fun hst => ?_) (fun hst => ?_)
          · refine ⟨_, rfl, .inl ⟨rfl, _, .inl (.inl b.ls)⟩, ?_⟩
            refine ⟨by show 1 ≤ sizeLine; decide, fun p np => ?_⟩
            have s6 := same_new (o := .tup [.str "stop"]) np
            have b := b.same s6 hrd hrc hlx
            have dS : Dp K (upd H2 p (.tup [.str "stop"])) (.ref p) (Sta.stop).data := by
              rw [Sta.data]
              exact dpT1 upd_same (.str _)
            refine ⟨l, _, _, rfl, rfl, b.ls, hvs, ?_⟩
            refine ⟨_, _, _, _, n' + 1, rm, _, _, rfl, b.push nl hlx dS, by omega, by rw [hsi]; omega, ?_, blkOk_snoc hok (Sta.ok_stop M), by rw [List.length_append, List.length_singleton]; omega⟩
            rw [blkCnt_snoc, Sta.cnt]
            omega
          · refine ⟨_, rfl, .inl ⟨rfl, _, .inl (.inl b.ls)⟩, ?_⟩
            refine ⟨_, rfl, _, rfl, d, c, n' + 1, nf, rfl, b.dk, by omega, by omega, by omega, fun H3 fv o3 hD3 f0 f1 => ?_⟩
            obtain ⟨fx, rfl⟩ := Int.eq_ofNat_of_zero_le f0
            have b := b.off o3 hD3 hrd hrc hlx
            refine ⟨_, rfl, _, rfl, 3, by decide, d, c, n' + 2, nf, true, rfl, b.dk, by show n' + 2 + 16 ≤ _; omega, hf0, hf6, by decide, fun H4 n4 v4 e4 o4 hD4 m4 b4 k4 dp4 => ?_⟩
            have b4 : n4 + 2 ≤ n' + 2 + 16 := b4
            have b := b.off o4 hD4 hrd hrc hlx
            refine ⟨by show 3 ≤ sizeLine; decide, fun p np => ?_⟩
            have s6 := same_new (o := .tup [.str "set", .int fx, v4]) np
            have b := b.same s6 hrd hrc hlx
            have dS : Dp K (upd H4 p (.tup [.str "set", .int fx, v4])) (.ref p) (Sta.set fx e4).data := by
              rw [Sta.data]
              exact dpT3 upd_same (.str _) (.int _) (dp_up s6 _ _ dp4)
            refine ⟨l, _, _, rfl, rfl, b.ls, hvs, ?_⟩
            refine ⟨_, _, _, _, n4, rm, _, _, rfl, b.push nl hlx dS, by omega, by rw [hsi]; omega, ?_, blkOk_snoc hok (Sta.ok_set (by omega) k4 M), by rw [List.length_append, List.length_singleton]; omega⟩
            rw [blkCnt_snoc, Sta.cnt]
            omega
        · exact ⟨_, _, _, _, n' + 1, room', vs, blk, rfl, b, by omega, by rw [hsi]; omega, hcnt, hok, by omega⟩
      · obtain ⟨z5, z6, z7, z8, n', room', vs, blk, rfl, b, hn1, hn2, hcnt, hok, hlen⟩ := hP
        have hNB : N * stB M ≤ 4 * stB M := Nat.mul_le_mul_right _ hN4
        refine ⟨_, rfl, l, vs, rfl, .inl ⟨.inl (.inl b.ls), fun p np => ?_⟩⟩
        have s6 := same_new (o := .tup vs) np
        have b := b.same s6 hrd hrc hlx
        exact q _ n' _ blk room' b.bt b.dk (by omega) (by rw [drB]; omega) b.rm hcnt hok (by omega) (fun h => by have := hN3 h; omega) (.tup (.inl (.inl upd_same)) b.dp)
end
end K32
set_option maxHeartbeats 4000000
namespace K32
open PySem PySem.Spec PyProof.Rows L2 Sb
abbrev sSizes : Stmt := topS 17
abbrev sWorld : Stmt := topS 18
abbrev sGame : Stmt := topS 19
abbrev pDeck1 : List Str := ["_law_deck_here"]
abbrev pWorld : List Str := ["_law_deck_here", "_law_sizes_here"]
theorem scSizes : FnScope ["_law_deck_here", "_law_some"] pDeck1 (defScope sSizes) := ⟨rfl, rfl, rfl, by decide +kernel, rfl, by decide +kernel, by decide +kernel⟩
theorem scWorld : FnScope ["_law_deck_here", "_law_sizes_here", "_law_size"] pWorld (defScope sWorld) := ⟨rfl, rfl, rfl, by decide +kernel, rfl, by decide +kernel, by decide +kernel⟩
theorem scGame : FnScope ["_law_deck_here", "_law_sizes_here", "_law_keys_here", "_law_room", "_law_block_here", "_law_k"] pDeck1 (defScope sGame) := ⟨rfl, rfl, rfl, by decide +kernel, rfl, by decide +kernel, by decide +kernel⟩
section
variable {P : Program} {w : World} {K : PySem.W.Frag} {mg : Str → Option Value} {base : Heap}
def szL1 : List (List Nat) := [[2], [3], [5], [6], [2, 2], [2, 3], [3, 2], [4, 2], [3, 3], [4, 4], [2, 6], [4, 6], [6, 4], [3, 5]]
def szL2 : List (List Nat) := [[2, 2, 2], [2, 3, 2], [3, 2, 4], [2, 2, 6], [2, 2, 2, 2], [2, 3, 2, 2], [2, 2, 2, 3]]
theorem ok_sizes {f fO fD : Addr} {fd fdO fdD : FuncData} (DS : Dn K mg "_law_sizes" sSizes pDeck1 f fd) (DO : Dn K mg "_law_one" sOne pOne fO fdO) (DD : Dn K mg "_law_draw" sDraw pDraw fD fdD)
    (m_len : mg "len" = none) (m_int : mg "int" = none) : FnOk P w K mg base CX0 3 f fd pDeck1 spSizes := by
  have G__law_one : FnOk P w K mg base CX0 2 fO fdO pOne (spOne K) := ok_one DO.F DD.F DD.b DD.g m_len m_int
  obtain ⟨F__law_one, b__law_one, g__law_one⟩ := DO
  refine DS.F.ok scSizes (fun vs H Q E h => ?_) (fun cdv A outer s H vs Q E hr h => ?_)
  · obtain ⟨d, c, n, rfl, _⟩ := h
    rfl
  · obtain ⟨d, c, n, rfl, hD, hn, q⟩ := h
    have nd := scSizes.nd
    have r__law_one := hr
    refine ⟨_, (pss_cons (ps_set (i := 1) nd rfl (Or.inl rfl) (pe_lst (pa_consT (pa_consN 2 pe_int pa_nilN) (pa_consT (pa_consN 3 pe_int pa_nilN) (pa_consT (pa_consN 5 pe_int pa_nilN) (pa_consT (pa_consN 6 pe_int pa_nilN) (pa_consT (pa_consN 2 pe_int (pa_consN 2 pe_int pa_nilN)) (pa_consT (pa_consN 2 pe_int (pa_consN 3 pe_int pa_nilN)) (pa_consT (pa_consN 3 pe_int (pa_consN 2 pe_int pa_nilN)) (pa_consT (pa_consN 4 pe_int (pa_consN 2 pe_int pa_nilN)) (pa_consT (pa_consN 3 pe_int (pa_consN 3 pe_int pa_nilN)) (pa_consT (pa_consN 4 pe_int (pa_consN 4 pe_int pa_nilN)) (pa_consT (pa_consN 2 pe_int (pa_consN 6 pe_int pa_nilN)) (pa_consT (pa_consN 4 pe_int (pa_consN 6 pe_int pa_nilN)) (pa_consT (pa_consN 6 pe_int (pa_consN 4 pe_int pa_nilN)) (pa_consT (pa_consN 3 pe_int (pa_consN 5 pe_int pa_nilN)) pa_nilT))))))))))))))))
      (pss_one (ps_ret (pe_call G__law_one r__law_one (by rfl) g__law_one F__law_one.kp b__law_one .nil pass0 (pa_cons (pv 0) (pa_cons (pe_op op_cat (pv 1) (pe_lst (pa_consT (pa_consN 2 pe_int (pa_consN 2 pe_int (pa_consN 2 pe_int pa_nilN))) (pa_consT (pa_consN 2 pe_int (pa_consN 3 pe_int (pa_consN 2 pe_int pa_nilN))) (pa_consT (pa_consN 3 pe_int (pa_consN 2 pe_int (pa_consN 4 pe_int pa_nilN))) (pa_consT (pa_consN 2 pe_int (pa_consN 2 pe_int (pa_consN 6 pe_int pa_nilN))) (pa_consT (pa_consN 2 pe_int (pa_consN 2 pe_int (pa_consN 2 pe_int (pa_consN 2 pe_int pa_nilN)))) (pa_consT (pa_consN 2 pe_int (pa_consN 3 pe_int (pa_consN 2 pe_int (pa_consN 2 pe_int pa_nilN)))) (pa_consT (pa_consN 2 pe_int (pa_consN 2 pe_int (pa_consN 2 pe_int (pa_consN 3 pe_int pa_nilN)))) pa_nilT))))))))) pa_nil)))))), ?_⟩
    have hcd := hD.ne
    obtain ⟨ns, hd1, hd2, hdl⟩ := id hD
    have hall : ∀ x ∈ szL1 ++ szL2, SzOk x := fun x hx => szOk_of (List.all_eq_true.mp (by decide +kernel : (szL1 ++ szL2).all szOkB = true) x hx)
    have hle : ∀ x ∈ szL1 ++ szL2, x.length ≤ 1000 := fun x hx => Nat.le_trans (hall x hx).len (by decide)
    refine tTups_ok (r := szL1) (fun x hx => hle x (List.mem_append_left _ hx)) fun H1 ps s1 hp => ?_
    have hpl := hp.len
    refine ⟨by rw [List.length_map, hpl]; decide, fun l nl => ?_⟩
    have s2 := same_new (o := .lst (ps.map V.ref)) nl
    refine ⟨_, rfl, _, rfl, ?_⟩
    refine tTups_ok (r := szL2) (fun x hx => hle x (List.mem_append_right _ hx)) fun H2 qs s3 hq => ?_
    have hql := hq.len
    refine ⟨by rw [List.length_map, hql]; decide, fun l2 nl2 => ?_⟩
    have s4 := same_new (o := .lst (qs.map V.ref)) nl2
    refine ⟨l, l2, _, _, rfl, rfl, s4 _ _ (s3 _ _ upd_same), upd_same, by rw [List.length_map, List.length_map, hpl, hql]; decide, fun l3 nl3 => ?_⟩
    have s5 := same_new (o := .lst (ps.map V.ref ++ qs.map V.ref)) nl3
    have sA := s1.trans (s2.trans (s3.trans (s4.trans s5)))
    have hpq : TupsAt (upd (upd H2 l2 (.lst (qs.map V.ref))) l3 (.lst (ps.map V.ref ++ qs.map V.ref))) (ps ++ qs) (szL1 ++ szL2) := (hp.up (s2.trans (s3.trans (s4.trans s5)))).append (hq.up (s4.trans s5))
    have hl3 : H l3 = none := (s1.trans (s2.trans (s3.trans s4))).free nl3
    refine ⟨d, c, l3, n, _, rfl, hD.same sA, hn, .inl (.inl (.inl upd_same)), (ne_of_none hd1 hl3).symm, (ne_of_none hd2 hl3).symm, ?_, ?_, fun H6 i x o6 hD6 hx => ?_⟩
    · intro e
      have := congrArg List.length e
      rw [List.length_append, List.length_map, List.length_map, hpl, hql] at this
      simp [szL1] at this
    · rw [List.length_append, List.length_map, List.length_map, hpl, hql]
      decide
    · rw [← List.map_append] at hx
      obtain ⟨p, xs, rfl, hm, hp6⟩ := hpq.at hx
      have hdA := hD.same sA
      exact q H6 p xs ((off_same sA).trans o6) hD6 (hall _ hm) (Kpt.off hdA o6 _ _ hp6 fun ys z => by cases z)
end
end K32
set_option maxHeartbeats 4000000
namespace K32
open PySem PySem.Spec PyProof.Rows L2 Sb
section
variable {P : Program} {w : World} {K : PySem.W.Frag} {mg : Str → Option Value} {base : Heap}
theorem ok_world {f fD : Addr} {fd fdD : FuncData} (DW : Dn K mg "_law_world" sWorld pWorld f fd) (DD : Dn K mg "_law_draw" sDraw pDraw fD fdD)
    (m_len : mg "len" = none) (m_int : mg "int" = none) (m_tuple : mg "tuple" = none) : FnOk P w K mg base CX0 2 f fd pWorld (spWorld K) := by
  have G__law_draw : FnOk P w K mg base CX0 1 fD fdD pDraw spDraw := ok_draw DD.F m_len m_int
  obtain ⟨F__law_draw, b__law_draw, g__law_draw⟩ := DD
  refine DW.F.ok scWorld (fun vs H Q E h => ?_) (fun cdv A outer s H vs Q E hr h => ?_)
  · obtain ⟨d, c, p, n, ss, rfl, _⟩ := h
    rfl
  · obtain ⟨d, c, p, n, ss, rfl, hD, hn, hS, hz, q⟩ := h
    have nd := scWorld.nd
    have r__law_draw := hr
    refine ⟨_, (pss_one (ps_ret (pe_callTy call_tuple_of (by rfl) m_tuple (by decide +kernel) (pa_cons (pe_lc (own := [("_law_size", 2)]) (g := gName 2) (tt := tYes) (by rfl) nd (pi_tup (pv 1)) (blkOk_by (own := [("_law_size", 2)]) (N := ["_law_deck_here", "_law_sizes_here", "_law_size"]) (sc := defScope sWorld) (by decide +kernel)) (fun _ _ _ _ _ => (pg_name (i := 2) nd rfl (Or.inl rfl))) (fun _ _ _ _ _ => pts_nil) (fun _ _ _ _ _ => (pe_call G__law_draw r__law_draw (by rfl) g__law_draw F__law_draw.kp b__law_draw .nil pass0 (pa_cons (pv 0) (pa_cons (pv 2) pa_nil))))) pa_nil)))), ?_⟩
    obtain ⟨ns, hd1, hd2, hdl⟩ := id hD
    have hsl := hz.len
    refine ⟨_, rfl, p, rfl, ⟨_, hS⟩, fun D nD => ?_⟩
    have hDd : D ≠ d := (ne_of_none hd1 nD).symm
    have hDc : D ≠ c := (ne_of_none hd2 nD).symm
    have s0 := same_new (o := .lst []) nD
    have seq : ∀ H', Off d c H H' → SqT K H' p (ss.map natV) := fun H' o => seqT_kpt (Kpt.off hD o) hS
    refine lc_tup (xs := ss.map natV) (fun i H' => ∃ ws : List Nat, Off d c H H' ∧ DeckAt H' d c (n + i) ∧ WorldOf (ss.take i) ws ∧ H' D = some (.lst (ws.map natV)))
      ⟨[], off_same s0, hD.same s0, by rw [List.take_zero]; exact .nil, upd_same⟩ (fun i H' _ h => by obtain ⟨ws, o, _⟩ := h; exact seq H' o) (fun i x H' hx hP => ?_) (fun H' hP => ?_)
    · obtain ⟨ws, o, dk, hw, hl⟩ := hP
      obtain ⟨sz, hsz, rfl⟩ : ∃ sz, ss[i]? = some sz ∧ x = natV sz := by
        rw [List.getElem?_map] at hx
        cases e : ss[i]? with
        | none => rw [e] at hx; cases hx
        | some sz => rw [e] at hx; cases hx; exact ⟨sz, rfl, rfl⟩
      have hi : i < ss.length := (List.getElem?_eq_some_iff.mp hsz).1
      have hr := hz.rng sz (List.mem_of_getElem? hsz)
      refine ⟨rfl, tYes_then ?_⟩
      refine ⟨_, rfl, _, rfl, d, c, n + i, sz, rfl, dk, by omega, by omega, by omega, fun H2 v o2 hD2 v0 v1 => ?_⟩
      obtain ⟨x, rfl⟩ := Int.eq_ofNat_of_zero_le v0
      have hwl := hw.len
      rw [List.length_take] at hwl
      have sp : Off d c H (upd H2 D (.lst (ws.map natV ++ [V.int x]))) := fun b ob hb h1 h2 => by
        rw [upd_ne (ne_of_none hb nD)]
        exact (o.trans o2) b ob hb h1 h2
      refine ⟨ws.map natV, o2 _ _ hl hDd hDc, by rw [List.length_map]; exact small1000 (by omega), ws ++ [x], sp, ?_, ?_, ?_⟩
      · obtain ⟨ms, e1, e2, e3⟩ := hD2
        exact ⟨ms, by rw [upd_ne hDd.symm]; exact e1, by rw [upd_ne hDc.symm]; exact e2, e3⟩
      · rw [List.take_succ, hsz]
        exact hw.snoc (by omega)
      · rw [upd_same, List.map_append]
        rfl
    · obtain ⟨ws, o, dk, hw, hl⟩ := hP
      rw [List.length_map] at dk hw
      rw [List.take_length] at hw
      refine ⟨D, _, rfl, .inl ⟨.inl (.inl hl), fun v nv => ?_⟩⟩
      have hv : H v = none := by
        cases e : H v with
        | none => rfl
        | some ob =>
          exfalso
          by_cases h1 : v = d
          · subst h1
            obtain ⟨ms, e1, _⟩ := dk
            rw [nv] at e1
            cases e1
          · by_cases h2 : v = c
            · subst h2
              obtain ⟨ms, _, e1, _⟩ := dk
              rw [nv] at e1
              cases e1
            · have := o v ob e h1 h2
              rw [nv] at this
              cases this
      exact q _ v ws (o.trans (off_same (same_new nv))) (dk.same (same_new nv)) hw hv upd_same
end
end K32
set_option maxHeartbeats 4000000
namespace K32
open PySem PySem.Spec PyProof.Rows L2 Sb
section
variable {P : Program} {w : World} {K : PySem.W.Frag} {mg : Str → Option Value} {base : Heap}
theorem ok_gameT {f fS fW fB fT fE fO fD : Addr} {fd fdS fdW fdB fdT fdE fdO fdD : FuncData} (DG : Dn K mg "_law_game" sGame pDeck1 f fd) (DS : Dn K mg "_law_sizes" sSizes pDeck1 fS fdS) (DW : Dn K mg "_law_world" sWorld pWorld fW fdW)
    (DB : Dn K mg "_law_block" sBlock pBlock fB fdB) (DT : Dn K mg "_law_test" sTest pTest fT fdT) (DE : Dn K mg "_law_expression" sExpr pExpr fE fdE) (DO : Dn K mg "_law_one" sOne pOne fO fdO) (DD : Dn K mg "_law_draw" sDraw pDraw fD fdD)
    (m_len : mg "len" = none) (m_int : mg "int" = none) (m_range : mg "range" = none) (m_tuple : mg "tuple" = none) : FnOk P w K mg base CX0 10 f fd pDeck1 (spGameT K) := by
  have G__law_block : FnOk P w K mg base CX0 9 fB fdB pBlock (spBl K 4) := ok_block DB DT DE DO DD m_len m_int m_range m_tuple 4
  have G__law_sizes : FnOk P w K mg base CX0 3 fS fdS pDeck1 spSizes := ok_sizes DS DO DD m_len m_int
  have G__law_world : FnOk P w K mg base CX0 2 fW fdW pWorld (spWorld K) := ok_world DW DD m_len m_int m_tuple
  have G__law_one : FnOk P w K mg base CX0 2 fO fdO pOne (spOne K) := ok_one DO.F DD.F DD.b DD.g m_len m_int
  have G__law_draw : FnOk P w K mg base CX0 1 fD fdD pDraw spDraw := ok_draw DD.F m_len m_int
  obtain ⟨F__law_draw, b__law_draw, g__law_draw⟩ := DD
  obtain ⟨F__law_one, b__law_one, g__law_one⟩ := DO
  obtain ⟨F__law_block, b__law_block, g__law_block⟩ := DB
  obtain ⟨F__law_sizes, b__law_sizes, g__law_sizes⟩ := DS
  obtain ⟨F__law_world, b__law_world, g__law_world⟩ := DW
  refine DG.F.ok scGame (fun vs H Q E h => ?_) (fun cdv A outer s H vs Q E hr h => ?_)
  · obtain ⟨d, c, n, rfl, _⟩ := h
    rfl
  · obtain ⟨d, c, n, rfl, hD, hn, q⟩ := h
    have nd := scGame.nd
    have r__law_draw := hr.mono (show 1 ≤ 9 by decide)
    have r__law_one := hr.mono (show 2 ≤ 9 by decide)
    have r__law_world := hr.mono (show 2 ≤ 9 by decide)
    have r__law_sizes := hr.mono (show 3 ≤ 9 by decide)
    have r__law_block := hr
    have hB3 : drB 3 ≤ 100000 := by decide
    have hn : n + (10 + 3 * drB 3) ≤ 600000000 := by
      unfold gmB at hn
      exact hn
    refine ⟨_, (pss_cons (ps_par (i := 1) (j := 2) (by rfl) nd rfl rfl (by decide) rfl rfl (pa_cons (pe_call G__law_sizes r__law_sizes (by rfl) g__law_sizes F__law_sizes.kp b__law_sizes .nil pass0 (pa_cons (pv 0) pa_nil)) (pa_cons (pe_op op_add pe_int (pe_call G__law_draw r__law_draw (by rfl) g__law_draw F__law_draw.kp b__law_draw .nil pass0 (pa_cons (pv 0) (pa_cons pe_int pa_nil)))) pa_nil)) (by rfl))
      (pss_cons (ps_par (i := 3) (j := 4) (by rfl) nd rfl rfl (by decide) rfl rfl (pa_cons (pe_lst (pa_cons (pe_call G__law_one r__law_one (by rfl) g__law_one F__law_one.kp b__law_one .nil pass0 (pa_cons (pv 0) (pa_cons (pe_lst (pa_cons pe_int (pa_cons pe_int (pa_cons pe_int (pa_cons pe_int pa_nil))))) pa_nil))) pa_nil)) (pa_cons (pe_tup pa_nil) pa_nil)) (by rfl))
      (pss_cons (ps_for PassesOwn.never rfl (pi_range1 (by rfl) m_range (pa_cons (pe_op op_add pe_int (pe_call G__law_draw r__law_draw (by rfl) g__law_draw F__law_draw.kp b__law_draw .nil pass0 (pa_cons (pv 0) (pa_cons pe_int pa_nil)))) pa_nil)) (pg_name (i := 5) nd rfl (Or.inl rfl))
      (pss_one (ps_set (i := 4) nd rfl (Or.inl rfl) (pe_op op_catA (pv 4) (pe_call G__law_block r__law_block (by rfl) g__law_block F__law_block.kp b__law_block .nil pass0 (pa_cons (pv 0) (pa_cons (pe_callB call_len_seq (by rfl) m_len (by decide +kernel) (pa_cons (pv 1) pa_nil)) (pa_cons (pv 3) (pa_cons pe_int pa_nil)))))))))
      (pss_one (ps_ret (pe_tup (pa_cons (pv 1) (pa_cons (pv 2) (pa_cons (pe_call G__law_world r__law_world (by rfl) g__law_world F__law_world.kp b__law_world .nil pass0 (pa_cons (pv 0) (pa_cons (pv 1) pa_nil))) (pa_cons (pv 4) pa_nil)))))))))), ?_⟩
    -- sizes, keys
    refine ⟨_, rfl, d, c, n, rfl, hD, by omega, fun H1 ps ss o1 hD1 hz hps => ?_⟩
    refine ⟨_, rfl, d, c, n + 1, 3, rfl, hD1, by omega, by decide, by decide, fun H2 kv o2 hD2 k0 k1 => ?_⟩
    have hps := Kpt.off hD1 o2 _ _ hps fun ys z => by cases z
    refine ⟨_, _, rfl, rfl, ?_⟩
    refine ⟨_, _, rfl, ?_⟩
    obtain ⟨k, rfl⟩ := Int.eq_ofNat_of_zero_le k0
    -- room, block
    refine ⟨_, rfl, by show 4 ≤ sizeLine; decide, fun t nt => ?_⟩
    obtain ⟨ns2, e1, e2, e3⟩ := id hD2
    have s3 := same_new (o := .lst [.int 2, .int 4, .int 8, .int 16]) nt
    refine ⟨d, c, t, n + 2, _, rfl, hD2.same s3, by omega, .inl (.inl (.inl upd_same)), (ne_of_none e1 nt).symm, (ne_of_none e2 nt).symm, by simp, by show 4 ≤ 1000; decide, fun H3 i3 x3 o3 hD3 hx3 => ?_⟩
    have hps := Kpt.off (hD2.same s3) o3 _ _ (s3 _ _ hps) fun ys z => by cases z
    obtain ⟨room, rfl, hroom⟩ : ∃ room : Nat, x3 = .int room ∧ room ≤ 16 := by
      match i3, hx3 with
      | 0, h => cases h; exact ⟨2, rfl, by decide⟩
      | 1, h => cases h; exact ⟨4, rfl, by decide⟩
      | 2, h => cases h; exact ⟨8, rfl, by decide⟩
      | 3, h => cases h; exact ⟨16, rfl, by decide⟩
    have o13 := (o1.trans o2).trans ((off_same s3).trans o3)
    refine ⟨by show 1 ≤ sizeLine; decide, fun r nr => ⟨by show 0 ≤ sizeLine; decide, fun b nb => ?_⟩⟩
    have s4 := same_new (o := .lst [.int room]) nr
    have hr4 : (upd H3 r (.lst [.int room])) r = some (.lst [.int room]) := upd_same
    have s5 := same_new (o := .tup []) nb
    have hr5 := s5 _ _ hr4
    obtain ⟨ns3, e31, e32, e33⟩ := id hD3
    have hrd : r ≠ d := (ne_of_none e31 nr).symm
    have hrc : r ≠ c := (ne_of_none e32 nr).symm
    have hrn : H r = none := by
      cases e : H r with
      | none => rfl
      | some ob =>
        have := o13 r ob e hrd hrc
        rw [nr] at this
        cases this
    have hb5 : (upd (upd H3 r (.lst [.int room])) b (.tup [])) b = some (.tup []) := upd_same
    have hps5 := s5 _ _ (s4 _ _ hps)
    have hD5 := (hD3.same s4).same s5
    have o5 : But [d, c, r] H (upd (upd H3 r (.lst [.int room])) b (.tup [])) := (o13.but.trans ((But.same s4).trans (But.same s5))).mono fun x hx => by simp only [List.mem_cons, List.not_mem_nil, or_false] at hx ⊢; rcases hx with h | h <;> simp [h]
    refine ⟨_, _, rfl, ?_⟩
    generalize upd (upd H3 r (.lst [.int room])) b (.tup []) = H5 at hr5 hb5 hps5 hD5 o5 ⊢
    clear s5 s4 nb hr4 nr
    -- the blocks
    refine ⟨_, rfl, d, c, n + 3, 3, rfl, hD5, by omega, by decide, by decide, fun H6 tv o6 hD6 t0 t1 => ?_⟩
    have hr6 := o6 _ _ hr5 hrd hrc
    have hb6 := Kpt.off hD5 o6 _ _ hb5 fun ys z => by cases z
    have hps6 := Kpt.off hD5 o6 _ _ hps5 fun ys z => by cases z
    have o66 : But [d, c, r] H H6 := o5.trans (o6.but.mono fun x hx => by simp only [List.mem_cons, List.not_mem_nil, or_false] at hx ⊢; rcases hx with h | h <;> simp [h])
    obtain ⟨tn, rfl⟩ := Int.eq_ofNat_of_zero_le t0
    refine ⟨_, _, rfl, rfl, ?_⟩
    have hlen := hz.len
    have hne := hz.ne
    have hpos : 0 < ss.length := List.length_pos_iff.mpr hne
    refine ⟨((tn + 1 : Nat) : Int), congrArg (fun z => [V.int z]) (show (1 : Int) + (tn : Int) = ((tn + 1 : Nat) : Int) by omega), by omega, by omega, for_range (n := tn + 1) (fun i σ H' => ∃ (z5 : Option V) (n' room' : Nat) (pb : Addr) (blk : List Sta),
      σ = [some (.ref d), some (.ref ps), some (.int (1 + (k : Int))), some (.ref r), some (.ref pb), z5] ∧ But [d, c, r] H H' ∧ DeckAt H' d c n' ∧ n ≤ n' ∧ n' ≤ n + 4 + i * drB 3 ∧ H' r = some (.lst [.int room']) ∧ room' + blkCnt blk = room ∧ blkOk ss.length 3 blk ∧ blk.length ≤ 4 * i ∧
        H' ps = some (.tup (ss.map natV)) ∧ Dp K H' (.ref pb) (.tuple (blkData blk)))
      ⟨_, n + 4, room, b, [], rfl, o66, hD6, by omega, by omega, hr6, by rw [blkCnt]; rfl, by rw [blkOk]; trivial, by simp, hps6, by rw [blkData]; exact .tup (.inl (.inl hb6)) .nil⟩ (fun i σ H' hi hP => ?_) (fun σ H' hP => ?_)⟩
    · obtain ⟨z5, n', room', pb, blk, rfl, o, dk, hn1, hn2, hrr, hcnt, hok, hlb, hpp, hdp⟩ := hP
      have hiB : i * drB 3 + drB 3 ≤ 3 * drB 3 := by
        have : (i + 1) * drB 3 ≤ 3 * drB 3 := Nat.mul_le_mul_right _ (by omega)
        rw [Nat.add_mul, Nat.one_mul] at this
        exact this
      have hsi : (i + 1) * drB 3 = i * drB 3 + drB 3 := by rw [Nat.add_mul, Nat.one_mul]
      refine ⟨_, rfl, ?_⟩
      refine ⟨_, rfl, _, rfl, ps, _, rfl, .inr (.inl (.inl hpp)), _, rfl, ?_⟩
      refine ⟨d, c, r, n', ss.length, room', congrArg (fun z : Nat => [V.ref d, V.int z, V.ref r, V.int 0]) (List.length_map (f := natV) (as := ss)), by decide, dk, by show n' + drB 3 ≤ _; omega, hpos, by omega, hrr, hrc,
        fun H7 n7 v7 blk7 room7 bt7 hD7 m7 b7 hR7 cnt7 ok7 len7 len7' dp7 => ?_⟩
      have b7 : n7 ≤ n' + drB 3 := b7
      have ok7 : blkOk ss.length 3 blk7 := ok7
      obtain ⟨nsd, ed1, ed2, ed3⟩ := id dk
      have kp : Kpt H' H7 := Kpt.but bt7 fun x hx => by
        simp only [List.mem_cons, List.not_mem_nil, or_false] at hx
        rcases hx with rfl | rfl | rfl
        · exact ⟨_, ed1⟩
        · exact ⟨_, ed2⟩
        · exact ⟨_, hrr⟩
      have hdp7 := dp_kpt kp _ _ (by rw [tupOnly]; exact blk_tup blk) hdp
      have hpp7 := kp _ _ hpp fun ys z => by cases z
      have hlB : (blkData (blk ++ blk7)).length ≤ 1000 := by rw [blkData_length, List.length_append]; omega
      have fin : ∀ (H8 : Hp) (p8 : Addr), Same H7 H8 → Dp K H8 (.ref p8) (.tuple (blkData (blk ++ blk7))) → ∃ (z5 : Option V) (n' room' : Nat) (pb : Addr) (blk : List Sta),
          [some (V.ref d), some (V.ref ps), some (V.int (1 + (k : Int))), some (V.ref r), some (V.ref p8), some (V.int (0 + (i : Int)))] = [some (.ref d), some (.ref ps), some (.int (1 + (k : Int))), some (.ref r), some (.ref pb), z5] ∧ But [d, c, r] H H8 ∧ DeckAt H8 d c n' ∧ n ≤ n' ∧ n' ≤ n + 4 + (i + 1) * drB 3 ∧ H8 r = some (.lst [.int room']) ∧ room' + blkCnt blk = room ∧ blkOk ss.length 3 blk ∧ blk.length ≤ 4 * (i + 1) ∧
            H8 ps = some (.tup (ss.map natV)) ∧ Dp K H8 (.ref pb) (.tuple (blkData blk)) := fun H8 p8 s8 hd8 =>
        ⟨_, n7, room7, p8, blk ++ blk7, rfl, o.trans (bt7.trans (But.same s8)), hD7.same s8, by omega, by rw [hsi]; omega, s8 _ _ hR7, by rw [blkCnt_append]; omega, blkOk_append hok ok7, by rw [List.length_append]; omega, s8 _ _ hpp7, hd8⟩
      cases hdp7 with
      | @tup _ vs6 _ hs1 ha1 =>
        cases dp7 with
        | @tup a7 vs7 _ hs2 ha2 =>
          have hl1 := dps_len ha1
          have hl2 := dps_len ha2
          rw [blkData_length] at hl1 hl2
          refine ⟨pb, a7, _, _, rfl, rfl, hs1, hs2, ?_, fun e => ?_, fun e1 e2 => ?_, fun e1 e2 p np => ?_⟩
          · exact Nat.le_of_lt (small1000 (by rw [hl1, hl2]; omega))
          · have : blk = [] := List.length_eq_zero_iff.mp (by rw [← hl1, e]; rfl)
            subst this
            exact fin H7 a7 (fun _ _ e => e) (.tup hs2 ha2)
          · have : blk7 = [] := List.length_eq_zero_iff.mp (by rw [← hl2, e2]; rfl)
            subst this
            refine fin H7 pb (fun _ _ e => e) ?_
            rw [List.append_nil]
            exact .tup hs1 ha1
          · have s8 := same_new (o := .tup (vs6 ++ vs7)) np
            refine fin _ p s8 ?_
            rw [blkData_append]
            exact .tup (.inl (.inl upd_same)) (dps_append (dps_up s8 _ _ ha1) (dps_up s8 _ _ ha2))
    · obtain ⟨z5, n', room', pb, blk, rfl, o, dk, hn1, hn2, hrr, hcnt, hok, hlb, hpp, hdp⟩ := hP
      have htB : (tn + 1) * drB 3 ≤ 3 * drB 3 := Nat.mul_le_mul_right _ (by omega)
      refine ⟨_, rfl, _, rfl, _, rfl, _, rfl, ?_⟩
      refine ⟨d, c, ps, n', ss, rfl, dk, by omega, .inl (.inl hpp), hz, fun H8 wv ws o8 hD8 hw hwn hwv => ?_⟩
      have kp := Kpt.off dk o8
      have hdp8 := dp_kpt kp _ _ (by rw [tupOnly]; exact blk_tup blk) hdp
      have hpp8 := kp _ _ hpp fun ys z => by cases z
      refine ⟨_, rfl, by show 4 ≤ sizeLine; decide, fun p np => ?_⟩
      have s9 := same_new (o := .tup [.ref ps, .int (1 + (k : Int)), .ref wv, .ref pb]) np
      have oo : But [d, c, r] H (upd H8 p (.tup [.ref ps, .int (1 + (k : Int)), .ref wv, .ref pb])) := o.trans ((o8.trans (off_same s9)).but.mono fun x hx => by simp only [List.mem_cons, List.not_mem_nil, or_false] at hx ⊢; rcases hx with h | h <;> simp [h])
      have od : Off d c H (upd H8 p (.tup [.ref ps, .int (1 + (k : Int)), .ref wv, .ref pb])) := fun x ob hx h1 h2 => oo x ob hx (by
        have h3 : x ≠ r := fun e => by
          rw [e, hrn] at hx
          cases hx
        simp [h1, h2, h3])
      refine q _ (n' + ss.length) _ ⟨ss, k + 1, ws, blk⟩ od (hD8.same s9) (by omega) (by rw [gmB]; omega) ⟨hz, by show 1 ≤ k + 1; omega, by show k + 1 ≤ 3; omega, hw, hok, by show blk.length ≤ 12; omega, by show blkCnt blk ≤ 16; omega⟩ ?_
      have dps1 : Dp K (upd H8 p (.tup [.ref ps, .int (1 + (k : Int)), .ref wv, .ref pb])) (.ref ps) (.tuple (ss.map natD)) := .tup (.inl (.inl (s9 _ _ hpp8))) (dps_nats ss)
      have dps2 : Dp K (upd H8 p (.tup [.ref ps, .int (1 + (k : Int)), .ref wv, .ref pb])) (.ref wv) (.tuple (ws.map natD)) := .tup (.inl (.inl (s9 _ _ hwv))) (dps_nats ws)
      have dpk : Dp K (upd H8 p (.tup [.ref ps, .int (1 + (k : Int)), .ref wv, .ref pb])) (.int (1 + (k : Int))) (.int ((k + 1 : Nat) : Int)) := by
        rw [show (1 + (k : Int)) = ((k + 1 : Nat) : Int) by omega]
        exact .int _
      exact ⟨p, _, _, _, wv, rfl, .inl (.inl upd_same), dps1, dpk, s9 _ _ hwv, dp_up s9 _ _ hdp8⟩
theorem ok_game {f fS fW fB fT fE fO fD : Addr} {fd fdS fdW fdB fdT fdE fdO fdD : FuncData} (DG : Dn K mg "_law_game" sGame pDeck1 f fd) (DS : Dn K mg "_law_sizes" sSizes pDeck1 fS fdS) (DW : Dn K mg "_law_world" sWorld pWorld fW fdW)
    (DB : Dn K mg "_law_block" sBlock pBlock fB fdB) (DT : Dn K mg "_law_test" sTest pTest fT fdT) (DE : Dn K mg "_law_expression" sExpr pExpr fE fdE) (DO : Dn K mg "_law_one" sOne pOne fO fdO) (DD : Dn K mg "_law_draw" sDraw pDraw fD fdD)
    (m_len : mg "len" = none) (m_int : mg "int" = none) (m_range : mg "range" = none) (m_tuple : mg "tuple" = none) : FnOk P w K mg base CX0 10 f fd pDeck1 (spGame K) :=
  (ok_gameT DG DS DW DB DT DE DO DD m_len m_int m_range m_tuple).imp fun vs H Q E ⟨d, c, n, e, hD, hn, q⟩ => ⟨d, c, n, e, hD, hn, fun H' n' v g a1 a2 a3 a4 a5 a6 => q H' n' v g a1 a2 a3 a4 a5 a6.dp⟩
end
end K32
set_option maxHeartbeats 4000000
namespace K32
open PySem PySem.Spec PyProof.Rows L2 Sb
abbrev sVal : Stmt := topS 20
abbrev sTru : Stmt := topS 21
abbrev pVal : List Str := ["_law_expression_here", "_law_values", "_law_key"]
abbrev pTru : List Str := ["_law_test_here", "_law_values", "_law_key"]
theorem scVal : FnScope ["_law_expression_here", "_law_values", "_law_key", "_law_second", "_law_first"] pVal (defScope sVal) := ⟨rfl, rfl, rfl, by decide +kernel, rfl, by decide +kernel, by decide +kernel⟩
theorem scTru : FnScope ["_law_test_here", "_law_values", "_law_key", "_law_gap"] pTru (defScope sTru) := ⟨rfl, rfl, rfl, by decide +kernel, rfl, by decide +kernel, by decide +kernel⟩
section
variable {P : Program} {w : World} {K : PySem.W.Frag} {mg : Str → Option Value} {base : Heap}
theorem ok_val {f : Addr} {fd : FuncData} (DV : Dn K mg "_law_value" sVal pVal f fd) (m_isinstance : mg "isinstance" = none) (m_int : mg "int" = none) (m_str : mg "str" = none) :
    ∀ D, FnOk P w K mg base CX0 (D + 1) f fd pVal (spVal K D)
  | 0 => never fun _ _ _ _ z => z
  | D + 1 => by
    have G__law_value : FnOk P w K mg base CX0 (D + 1) f fd pVal (spVal K D) := ok_val DV m_isinstance m_int m_str D
    obtain ⟨F__law_value, b__law_value, g__law_value⟩ := DV
    refine F__law_value.ok scVal (fun vs H Q E h => ?_) (fun cdv A outer s H vs Q E hr h => ?_)
    · obtain ⟨v, a, ns, k, wk, e, rfl, _⟩ := h
      rfl
    · obtain ⟨v, a, ns, k, wk, e, rfl, hd, hv, ok, q⟩ := h
      have nd := scVal.nd
      have r__law_value := hr
      refine ⟨_, (pss_cons (ps_if (pt_val (pe_callB call_isi (by rfl) m_isinstance (by decide +kernel) (pa_cons (pv 0) (pa_cons (pe_bltn (v := .ty "int") (by rfl) m_int (by decide +kernel) rfl) pa_nil))))
      (pss_one (ps_ret (pv 0)))
      pss_nil)
      (pss_cons (ps_if (pt_val (pe_callB call_isi (by rfl) m_isinstance (by decide +kernel) (pa_cons (pv 0) (pa_cons (pe_bltn (v := .ty "str") (by rfl) m_str (by decide +kernel) rfl) pa_nil))))
      (pss_one (ps_ret (pv 2)))
      pss_nil)
      (pss_cons (ps_if (pt_cmpR op_eq (pe_ix ix_seq (pv 0) pe_int (fun _ _ => rfl)) pe_str (nomark _))
      (pss_one (ps_ret (pe_ix ix_seq (pv 1) (pe_ix ix_seq (pv 0) pe_int (fun _ _ => rfl)) (fun _ _ => rfl))))
      pss_nil)
      (pss_cons (ps_set (i := 3) nd rfl (Or.inl rfl) (pe_call G__law_value r__law_value (by rfl) g__law_value F__law_value.kp b__law_value .nil pass0 (pa_cons (pe_ix ix_seq (pv 0) pe_int (fun _ _ => rfl)) (pa_cons (pv 1) (pa_cons (pv 2) pa_nil)))))
      (pss_cons (ps_if (pt_cmpR op_eq (pe_ix ix_seq (pv 0) pe_int (fun _ _ => rfl)) pe_str (nomark _))
      (pss_one (ps_ret (pe_op op_mul (pe_ix ix_seq (pv 0) pe_int (fun _ _ => rfl)) (pv 3))))
      pss_nil)
      (pss_cons (ps_set (i := 4) nd rfl (Or.inl rfl) (pe_call G__law_value r__law_value (by rfl) g__law_value F__law_value.kp b__law_value .nil pass0 (pa_cons (pe_ix ix_seq (pv 0) pe_int (fun _ _ => rfl)) (pa_cons (pv 1) (pa_cons (pv 2) pa_nil)))))
      (pss_one (ps_ret (pe_ifExp (pt_cmpR op_eq (pe_ix ix_seq (pv 0) pe_int (fun _ _ => rfl)) pe_str (nomark _)) (pe_op op_add (pv 4) (pv 3)) (pe_op op_sub (pv 4) (pv 3))))))))))), ?_⟩
      have ii : PySem.W.kitOne K (.type "int") (.type "int") = some true := kit_ty (by decide +kernel)
      have si : PySem.W.kitOne K (.type "str") (.type "int") = some false := kit_ty (by decide +kernel)
      have ss : PySem.W.kitOne K (.type "str") (.type "str") = some true := kit_ty (by decide +kernel)
      have ti : PySem.W.kitOne K (.type "tuple") (.type "int") = some false := kit_ty (by decide +kernel)
      have ts : PySem.W.kitOne K (.type "tuple") (.type "str") = some false := kit_ty (by decide +kernel)
      match e, hd, ok, q with
      | .num i, hd, ok, q =>
        obtain rfl := dp_int hd
        refine ⟨_, rfl, _, _, _, _, true, rfl, .ty "int", .base (.int i), ii, true, rfl, ?_⟩
        refine iteT ?_
        exact ⟨_, rfl, q⟩
      | .key, hd, ok, q =>
        obtain rfl := dp_str hd
        refine ⟨_, rfl, _, _, _, _, false, rfl, .ty "int", .base (.str _), si, false, rfl, ?_⟩
        refine iteF ?_
        refine ⟨_, rfl, _, _, _, _, true, rfl, .ty "str", .base (.str _), ss, true, rfl, ?_⟩
        refine iteT ?_
        exact ⟨_, rfl, q⟩
      | .fld fx, hd, ok, q =>
        obtain ⟨p, v1, v2, rfl, hp, h1, h2⟩ := dp_t2 hd
        obtain rfl := dp_str h1
        obtain rfl := dp_int h2
        refine ⟨_, rfl, _, _, _, _, false, rfl, .ty "int", tyx_tup hp, ti, false, rfl, ?_⟩
        refine iteF ?_
        refine ⟨_, rfl, _, _, _, _, false, rfl, .ty "str", tyx_tup hp, ts, false, rfl, ?_⟩
        refine iteF ?_
        refine ⟨_, rfl, .inr (.inl ⟨p, _, _, _, rfl, rfl, hp, rfl, ?_⟩)⟩
        refine ⟨rfl, _, rfl, ?_⟩
        refine iteT ?_
        refine ⟨_, rfl, _, rfl, .inr (.inl ⟨p, _, _, _, rfl, rfl, hp, rfl, ?_⟩)⟩
        have hx := atI_natV (ns := ns) (f := fx) ok
        rcases hv with hv | hv
        · exact .inl ⟨a, _, _, _, rfl, rfl, hv, hx, q⟩
        · exact .inr (.inl ⟨a, _, _, _, rfl, rfl, hv, hx, q⟩)
      | .times c x, hd, ok, q =>
        obtain ⟨p, v1, v2, v3, rfl, hp, h1, h2, h3⟩ := dp_t3 hd
        obtain rfl := dp_str h1
        obtain rfl := dp_int h2
        refine ⟨_, rfl, _, _, _, _, false, rfl, .ty "int", tyx_tup hp, ti, false, rfl, ?_⟩
        refine iteF ?_
        refine ⟨_, rfl, _, _, _, _, false, rfl, .ty "str", tyx_tup hp, ts, false, rfl, ?_⟩
        refine iteF ?_
        refine ⟨_, rfl, .inr (.inl ⟨p, _, _, _, rfl, rfl, hp, rfl, ?_⟩)⟩
        refine ⟨rfl, _, rfl, ?_⟩
        refine iteF ?_
        refine ⟨_, rfl, .inr (.inl ⟨p, _, _, _, rfl, rfl, hp, rfl, ?_⟩)⟩
        obtain ⟨D, rfl⟩ : ∃ D', D = D' + 1 := by
          cases D with
          | zero => exact (ok.2.2).elim
          | succ D => exact ⟨D, rfl⟩
        refine ⟨_, rfl, _, rfl, v3, a, ns, k, wk, x, rfl, h3, hv, ok.2.2, ?_⟩
        refine ⟨_, rfl, .inr (.inl ⟨p, _, _, _, rfl, rfl, hp, rfl, ?_⟩)⟩
        refine ⟨rfl, _, rfl, ?_⟩
        refine iteT ?_
        refine ⟨_, rfl, .inr (.inl ⟨p, _, _, _, rfl, rfl, hp, rfl, ?_⟩)⟩
        refine ⟨_, rfl, _, _, rfl, rfl, .inl ?_, q⟩
        have := ok.1
        have := ok.2.1
        omega
      | .bin bo x y, hd, ok, q =>
        obtain ⟨p, v1, v2, v3, rfl, hp, h1, h2, h3⟩ := dp_t3 hd
        obtain rfl := dp_str h1
        refine ⟨_, rfl, _, _, _, _, false, rfl, .ty "int", tyx_tup hp, ti, false, rfl, ?_⟩
        refine iteF ?_
        refine ⟨_, rfl, _, _, _, _, false, rfl, .ty "str", tyx_tup hp, ts, false, rfl, ?_⟩
        refine iteF ?_
        refine ⟨_, rfl, .inr (.inl ⟨p, _, _, _, rfl, rfl, hp, rfl, ?_⟩)⟩
        obtain ⟨D, rfl⟩ : ∃ D', D = D' + 1 := by
          cases D with
          | zero => exact (ok.2).elim
          | succ D => exact ⟨D, rfl⟩
        cases bo with
        | true =>
          refine ⟨rfl, _, rfl, ?_⟩
          refine iteF ?_
          refine ⟨_, rfl, .inr (.inl ⟨p, _, _, _, rfl, rfl, hp, rfl, ?_⟩)⟩
          refine ⟨_, rfl, _, rfl, v3, a, ns, k, wk, y, rfl, h3, hv, ok.2, ?_⟩
          refine ⟨_, rfl, .inr (.inl ⟨p, _, _, _, rfl, rfl, hp, rfl, ?_⟩)⟩
          refine ⟨rfl, _, rfl, ?_⟩
          refine iteF ?_
          refine ⟨_, rfl, .inr (.inl ⟨p, _, _, _, rfl, rfl, hp, rfl, ?_⟩)⟩
          refine ⟨_, rfl, _, rfl, v2, a, ns, k, wk, x, rfl, h2, hv, ok.1, ?_⟩
          refine ⟨_, rfl, .inr (.inl ⟨p, _, _, _, rfl, rfl, hp, rfl, ?_⟩)⟩
          refine ⟨rfl, _, rfl, ?_⟩
          refine iteT ?_
          exact ⟨_, rfl, _, rfl, _, _, rfl, rfl, q⟩
        | false =>
          refine ⟨rfl, _, rfl, ?_⟩
          refine iteF ?_
          refine ⟨_, rfl, .inr (.inl ⟨p, _, _, _, rfl, rfl, hp, rfl, ?_⟩)⟩
          refine ⟨_, rfl, _, rfl, v3, a, ns, k, wk, y, rfl, h3, hv, ok.2, ?_⟩
          refine ⟨_, rfl, .inr (.inl ⟨p, _, _, _, rfl, rfl, hp, rfl, ?_⟩)⟩
          refine ⟨rfl, _, rfl, ?_⟩
          refine iteF ?_
          refine ⟨_, rfl, .inr (.inl ⟨p, _, _, _, rfl, rfl, hp, rfl, ?_⟩)⟩
          refine ⟨_, rfl, _, rfl, v2, a, ns, k, wk, x, rfl, h2, hv, ok.1, ?_⟩
          refine ⟨_, rfl, .inr (.inl ⟨p, _, _, _, rfl, rfl, hp, rfl, ?_⟩)⟩
          refine ⟨rfl, _, rfl, ?_⟩
          refine iteF ?_
          exact ⟨_, rfl, _, rfl, _, _, rfl, rfl, q⟩
end
end K32
set_option maxHeartbeats 4000000
namespace K32
open PySem PySem.Spec PyProof.Rows L2 Sb
abbrev sGo : Stmt := topS 22
abbrev sStep : Stmt := topS 23
abbrev pGo : List Str := ["_law_block_here", "_law_sizes_here", "_law_values", "_law_key"]
abbrev pStep : List Str := ["_law_game_here", "_law_world_here", "_law_key"]
theorem scGo : FnScope ["_law_block_here", "_law_sizes_here", "_law_values", "_law_key", "_law_row"] pGo (defScope sGo) := ⟨rfl, rfl, rfl, by decide +kernel, rfl, by decide +kernel, by decide +kernel⟩
theorem scStep : FnScope ["_law_game_here", "_law_world_here", "_law_key", "_law_values"] pStep (defScope sStep) := ⟨rfl, rfl, rfl, by decide +kernel, rfl, by decide +kernel, by decide +kernel⟩
section
variable {P : Program} {w : World} {K : PySem.W.Frag} {mg : Str → Option Value} {base : Heap}
theorem ok_tru {f fV : Addr} {fd fdV : FuncData} (DT : Dn K mg "_law_true" sTru pTru f fd) (DV : Dn K mg "_law_value" sVal pVal fV fdV) (m_isinstance : mg "isinstance" = none) (m_int : mg "int" = none) (m_str : mg "str" = none) :
    ∀ n, FnOk P w K mg base CX0 (n + 5) f fd pTru (spTru K n)
  | 0 => never fun _ _ _ _ z => z
  | n + 1 => by
    have G__law_true : FnOk P w K mg base CX0 (n + 5) f fd pTru (spTru K n) := ok_tru DT DV m_isinstance m_int m_str n
    have G__law_value : FnOk P w K mg base CX0 4 fV fdV pVal (spVal K 3) := ok_val DV m_isinstance m_int m_str 3
    obtain ⟨F__law_value, b__law_value, g__law_value⟩ := DV
    obtain ⟨F__law_true, b__law_true, g__law_true⟩ := DT
    refine F__law_true.ok scTru (fun vs H Q E h => ?_) (fun cdv A outer s H vs Q E hr h => ?_)
    · obtain ⟨v, a, ns, k, t, rfl, _⟩ := h
      rfl
    · obtain ⟨v, a, ns, k, t, rfl, hd, hv, ok, q⟩ := h
      have nd := scTru.nd
      have r__law_value := hr.mono (show 4 ≤ n + 5 by omega)
      have r__law_true := hr
      refine ⟨_, (pss_cons (ps_if (pt_cmpR op_eq (pe_ix ix_seq (pv 0) pe_int (fun _ _ => rfl)) pe_str (nomark _))
      (pss_one (ps_ret (pe_not (pe_call G__law_true r__law_true (by rfl) g__law_true F__law_true.kp b__law_true .nil pass0 (pa_cons (pe_ix ix_seq (pv 0) pe_int (fun _ _ => rfl)) (pa_cons (pv 1) (pa_cons (pv 2) pa_nil)))))))
      pss_nil)
      (pss_cons (ps_set (i := 3) nd rfl (Or.inl rfl) (pe_op op_sub (pe_call G__law_value r__law_value (by rfl) g__law_value F__law_value.kp b__law_value .nil pass0 (pa_cons (pe_ix ix_seq (pv 0) pe_int (fun _ _ => rfl)) (pa_cons (pv 1) (pa_cons (pv 2) pa_nil)))) (pe_call G__law_value r__law_value (by rfl) g__law_value F__law_value.kp b__law_value .nil pass0 (pa_cons (pe_ix ix_seq (pv 0) pe_int (fun _ _ => rfl)) (pa_cons (pv 1) (pa_cons (pv 2) pa_nil))))))
      (pss_one (ps_ret (pe_ifExp (pt_cmpR op_eq (pe_ix ix_seq (pv 0) pe_int (fun _ _ => rfl)) pe_str (nomark _)) (pe_cmpR op_lt (pv 3) pe_int (nomark _)) (pe_cmpR op_eq (pv 3) pe_int (nomark _))))))), ?_⟩
      match t, hd, ok, q with
      | .not t, hd, ok, q =>
        obtain ⟨p, v1, v2, rfl, hp, h1, h2⟩ := dp_t2 hd
        obtain rfl := dp_str h1
        refine ⟨_, rfl, .inr (.inl ⟨p, _, _, _, rfl, rfl, hp, rfl, ?_⟩)⟩
        refine ⟨rfl, _, rfl, ?_⟩
        refine iteT ?_
        obtain ⟨n, rfl⟩ : ∃ n', n = n' + 1 := by
          cases n with
          | zero => rw [Tst.ok] at ok; exact ok.elim
          | succ n => exact ⟨n, rfl⟩
        refine ⟨_, rfl, .inr (.inl ⟨p, _, _, _, rfl, rfl, hp, rfl, ?_⟩)⟩
        refine ⟨_, rfl, _, rfl, v2, a, ns, k, t, rfl, h2, hv, ok, ?_⟩
        exact ⟨_, rfl, q⟩
      | .cmp b x y, hd, ok, q =>
        have okx : x.ok ns.length true 3 ∧ y.ok ns.length true 3 := by
          cases n with
          | zero => exact ok
          | succ n => exact ok
        obtain ⟨p, v1, v2, v3, rfl, hp, h1, h2, h3⟩ := dp_t3 hd
        obtain rfl := dp_str h1
        refine ⟨_, rfl, .inr (.inl ⟨p, _, _, _, rfl, rfl, hp, rfl, ?_⟩)⟩
        cases b with
        | true =>
          refine ⟨rfl, _, rfl, ?_⟩
          refine iteF ?_
          refine ⟨_, rfl, .inr (.inl ⟨p, _, _, _, rfl, rfl, hp, rfl, ?_⟩)⟩
          refine ⟨_, rfl, _, rfl, v2, a, ns, k, true, x, rfl, h2, hv, okx.1, ?_⟩
          refine ⟨_, rfl, .inr (.inl ⟨p, _, _, _, rfl, rfl, hp, rfl, ?_⟩)⟩
          refine ⟨_, rfl, _, rfl, v3, a, ns, k, true, y, rfl, h3, hv, okx.2, ?_⟩
          refine ⟨_, _, rfl, rfl, ?_⟩
          refine ⟨_, rfl, .inr (.inl ⟨p, _, _, _, rfl, rfl, hp, rfl, ?_⟩)⟩
          refine ⟨rfl, _, rfl, ?_⟩
          refine iteT ?_
          refine ⟨_, rfl, _, _, rfl, rfl, ?_⟩
          have e : decide (x.val ns k - y.val ns k < 0) = decide (x.val ns k < y.val ns k) := by
            rw [decide_eq_decide]
            omega
          have q : Q (.bl (decide (x.val ns k < y.val ns k))) H := q
          rw [← e] at q
          exact q
        | false =>
          refine ⟨rfl, _, rfl, ?_⟩
          refine iteF ?_
          refine ⟨_, rfl, .inr (.inl ⟨p, _, _, _, rfl, rfl, hp, rfl, ?_⟩)⟩
          refine ⟨_, rfl, _, rfl, v2, a, ns, k, true, x, rfl, h2, hv, okx.1, ?_⟩
          refine ⟨_, rfl, .inr (.inl ⟨p, _, _, _, rfl, rfl, hp, rfl, ?_⟩)⟩
          refine ⟨_, rfl, _, rfl, v3, a, ns, k, true, y, rfl, h3, hv, okx.2, ?_⟩
          refine ⟨_, _, rfl, rfl, ?_⟩
          refine ⟨_, rfl, .inr (.inl ⟨p, _, _, _, rfl, rfl, hp, rfl, ?_⟩)⟩
          refine ⟨rfl, _, rfl, ?_⟩
          refine iteF ?_
          refine ⟨_, rfl, rfl, ?_⟩
          have e : decide (V.int (x.val ns k - y.val ns k) = V.int 0) = decide (x.val ns k = y.val ns k) := by
            rw [decide_eq_decide]
            constructor
            · intro z
              have := V.int.inj z
              omega
            · intro z
              rw [z, Int.sub_self]
          have q : Q (.bl (decide (x.val ns k = y.val ns k))) H := q
          rw [← e] at q
          exact q
theorem ok_go {f fT fV : Addr} {fd fdT fdV : FuncData} (DG : Dn K mg "_law_go" sGo pGo f fd) (DT : Dn K mg "_law_true" sTru pTru fT fdT) (DV : Dn K mg "_law_value" sVal pVal fV fdV) (m_isinstance : mg "isinstance" = none) (m_int : mg "int" = none) (m_str : mg "str" = none) :
    ∀ m, FnOk P w K mg base CX0 (m + 9) f fd pGo (spGo K m)
  | 0 => never fun _ _ _ _ z => z
  | m + 1 => by
    have G__law_go : FnOk P w K mg base CX0 (m + 9) f fd pGo (spGo K m) := ok_go DG DT DV m_isinstance m_int m_str m
    have G__law_true : FnOk P w K mg base CX0 8 fT fdT pTru (spTru K 3) := ok_tru DT DV m_isinstance m_int m_str 3
    have G__law_value : FnOk P w K mg base CX0 4 fV fdV pVal (spVal K 3) := ok_val DV m_isinstance m_int m_str 3
    obtain ⟨F__law_value, b__law_value, g__law_value⟩ := DV
    obtain ⟨F__law_true, b__law_true, g__law_true⟩ := DT
    obtain ⟨F__law_go, b__law_go, g__law_go⟩ := DG
    refine F__law_go.ok scGo (fun vs H Q E h => ?_) (fun cdv A outer s H vs Q E hr h => ?_)
    · obtain ⟨v, z, a, ss, ns, k, b, rfl, _⟩ := h
      rfl
    · obtain ⟨v, z, a, ss, ns, k, b, rfl, hd, hz, hpos, ha, hW, ok, q⟩ := h
      have nd := scGo.nd
      have r__law_value := hr.mono (show 4 ≤ m + 9 by omega)
      have r__law_true := hr.mono (show 8 ≤ m + 9 by omega)
      have r__law_go := hr
      refine ⟨_, (pss_cons (ps_for PassesOwn.never rfl (pi_tup (pv 0)) (pg_name (i := 4) nd rfl (Or.inl rfl))
      (pss_cons (ps_if (pt_cmpR op_eq (pe_ix ix_seq (pv 4) pe_int (fun _ _ => rfl)) pe_str (nomark _))
      (pss_one (ps_ret pe_bl))
      pss_nil)
      (pss_one (ps_if (pt_cmpR op_eq (pe_ix ix_seq (pv 4) pe_int (fun _ _ => rfl)) pe_str (nomark _))
      (pss_one (ps_asg (pe_op op_mod (pe_callTy call_int1 (by rfl) m_int (by decide +kernel) (pa_cons (pe_call G__law_value r__law_value (by rfl) g__law_value F__law_value.kp b__law_value .nil pass0 (pa_cons (pe_ix ix_seq (pv 4) pe_int (fun _ _ => rfl)) (pa_cons (pv 2) (pa_cons (pv 3) pa_nil)))) pa_nil)) (pe_ix ix_seq (pv 1) (pe_ix ix_seq (pv 4) pe_int (fun _ _ => rfl)) (fun _ _ => rfl))) (pg_sub (pv 2) (pe_ix ix_seq (pv 4) pe_int (fun _ _ => rfl)) set_list)))
      (pss_one (ps_if (pt_val (pe_call G__law_go r__law_go (by rfl) g__law_go F__law_go.kp b__law_go .nil pass0 (pa_cons (pe_ifExp (pt_val (pe_call G__law_true r__law_true (by rfl) g__law_true F__law_true.kp b__law_true .nil pass0 (pa_cons (pe_ix ix_seq (pv 4) pe_int (fun _ _ => rfl)) (pa_cons (pv 2) (pa_cons (pv 3) pa_nil))))) (pe_ix ix_seq (pv 4) pe_int (fun _ _ => rfl)) (pe_ix ix_seq (pv 4) pe_int (fun _ _ => rfl))) (pa_cons (pv 1) (pa_cons (pv 2) (pa_cons (pv 3) pa_nil))))))
      (pss_one (ps_ret pe_bl))
      pss_nil))))))
      (pss_one (ps_ret pe_bl))), ?_⟩
      obtain ⟨p, vs, rfl, hS, hA⟩ := dp_tup hd
      have hbl := dps_len hA
      rw [blkData_length] at hbl
      refine ⟨_, rfl, p, rfl, ⟨_, hS⟩, for_tup (xs := vs) (fun i σ H' => ∃ (z4 : Option V) (ns' : List Nat), σ = [some (.ref p), some (.ref z), some (.ref a), some (.int k), z4] ∧ But [a] H H' ∧ H' a = some (.lst (ns'.map natV)) ∧ WorldOf ss ns' ∧ blkRun ss k b ns = blkRun ss k (b.drop i) ns')
        ⟨_, ns, rfl, But.refl _ _, ha, hW, rfl⟩ (fun i σ H' _ hP => ?_) (fun i x σ H' hx hP => ?_) (fun σ H' hP => ?_)⟩
      · obtain ⟨z4, ns', _, o, _⟩ := hP
        exact seqT_kpt (Kpt.one o ha) hS
      · obtain ⟨z4, ns', rfl, o, ha', hW', he⟩ := hP
        have kp := Kpt.one o ha
        obtain ⟨st, hst, hdst⟩ := dps_get hA hx
        have okst := blkOk_get ok hst
        have hdst := dp_kpt kp _ _ (Sta.tup st) hdst
        have hz' := seqT_kpt kp hz
        have hwl := hW'.len
        rw [hst] at he
        match st, okst, hdst, he with
        | .stop, okst, hdst, he =>
          rw [Sta.data] at hdst
          obtain ⟨pr, v1, rfl, hp, h1⟩ := dp_t1 hdst
          obtain rfl := dp_str h1
          refine ⟨_, rfl, .inr (.inl ⟨pr, _, _, _, rfl, rfl, hp, rfl, ?_⟩)⟩
          refine ⟨rfl, _, rfl, ?_⟩
          refine iteT ?_
          rw [run_stop] at he
          rw [he] at q
          exact q H' o ha'
        | .set fx e, okst, hdst, he =>
          rw [Sta.data] at hdst
          obtain ⟨pr, v1, v2, v3, rfl, hp, h1, h2, h3⟩ := dp_t3 hdst
          obtain rfl := dp_str h1
          obtain rfl := dp_int h2
          have okst : fx < ss.length ∧ e.ok ss.length true 3 := by
            cases m with
            | zero => rw [Sta.ok] at okst; exact okst
            | succ m => rw [Sta.ok] at okst; exact okst
          refine ⟨_, rfl, .inr (.inl ⟨pr, _, _, _, rfl, rfl, hp, rfl, ?_⟩)⟩
          refine ⟨rfl, _, rfl, ?_⟩
          refine iteF ?_
          refine ⟨_, rfl, .inr (.inl ⟨pr, _, _, _, rfl, rfl, hp, rfl, ?_⟩)⟩
          refine ⟨rfl, _, rfl, ?_⟩
          refine iteT ?_
          refine ⟨_, rfl, .inr (.inl ⟨pr, _, _, _, rfl, rfl, hp, rfl, ?_⟩)⟩
          refine ⟨_, rfl, _, rfl, v3, a, ns', k, true, e, rfl, h3, Vls.but ha', by rw [hwl]; exact okst.2, .inl ⟨_, rfl, ?_⟩⟩
          refine ⟨_, rfl, _, rfl, .inr (.inl ⟨pr, _, _, _, rfl, rfl, hp, rfl, ?_⟩)⟩
          refine .inr (.inl ⟨z, _, _, _, rfl, rfl, hz', atI_natV okst.1, ?_⟩)
          have hp0 : 0 < ss.getD fx 0 := hpos _ (getD_mem okst.1)
          refine ⟨_, _, rfl, rfl, by show (0 : Int) < ((ss.getD fx 0 : Nat) : Int); omega, ?_⟩
          refine ⟨_, rfl, _, rfl, .inr (.inl ⟨pr, _, _, _, rfl, rfl, hp, rfl, ?_⟩)⟩
          refine ⟨a, _, _, fx, rfl, rfl, ha', ixN_nat (by rw [List.length_map, hwl]; exact okst.1), ?_⟩
          rw [run_set] at he
          have hv0 : 0 ≤ e.val ns' k % ((ss.getD fx 0 : Nat) : Int) := Int.emod_nonneg _ (by omega)
          refine ⟨_, ns'.set fx (e.val ns' k % ((ss.getD fx 1 : Nat) : Int)).toNat, rfl, o.trans (But.put _ (by simp)), ?_, set_world hW' okst.1 hpos, he⟩
          rw [upd_same, map_set_natV hv0, getD_eq okst.1]
        | .ite t y n, okst, hdst, he =>
          rw [Sta.data] at hdst
          obtain ⟨pr, v1, v2, v3, v4, rfl, hp, h1, h2, h3, h4⟩ := dp_t4 hdst
          obtain rfl := dp_str h1
          obtain ⟨m, rfl⟩ : ∃ m', m = m' + 1 := by
            cases m with
            | zero => rw [Sta.ok] at okst; exact okst.elim
            | succ m => exact ⟨m, rfl⟩
          rw [Sta.ok] at okst
          refine ⟨_, rfl, .inr (.inl ⟨pr, _, _, _, rfl, rfl, hp, rfl, ?_⟩)⟩
          refine ⟨rfl, _, rfl, ?_⟩
          refine iteF ?_
          refine ⟨_, rfl, .inr (.inl ⟨pr, _, _, _, rfl, rfl, hp, rfl, ?_⟩)⟩
          refine ⟨rfl, _, rfl, ?_⟩
          refine iteF ?_
          refine ⟨_, rfl, .inr (.inl ⟨pr, _, _, _, rfl, rfl, hp, rfl, ?_⟩)⟩
          refine ⟨_, rfl, _, rfl, v2, a, ns', k, t, rfl, h2, Vls.but ha', by rw [hwl]; exact okst.1, _, rfl, ?_⟩
          rw [run_ite] at he
          have fin : ∀ (bb : List Sta) (H2 : Hp), blkRun ss k b ns = (if (blkRun ss k bb ns').1 then (true, (blkRun ss k bb ns').2) else blkRun ss k (b.drop (i + 1)) (blkRun ss k bb ns').2) → But [a] H' H2 → H2 a = some (.lst ((blkRun ss k bb ns').2.map natV)) → WorldOf ss (blkRun ss k bb ns').2 →
              (if (blkRun ss k bb ns').1 = true then Q (.bl true) H2 else ∃ (z4 : Option V) (ns1 : List Nat), [some (V.ref p), some (V.ref z), some (V.ref a), some (V.int k), some (V.ref pr)] = [some (.ref p), some (.ref z), some (.ref a), some (.int k), z4] ∧ But [a] H H2 ∧ H2 a = some (.lst (ns1.map natV)) ∧ WorldOf ss ns1 ∧ blkRun ss k b ns = blkRun ss k (b.drop (i + 1)) ns1) := by
            intro bb H2 he2 bt ha2 hw2
            by_cases c : (blkRun ss k bb ns').1 = true
            · rw [if_pos c] at he2 ⊢
              rw [he2] at q
              exact q H2 (o.trans bt) ha2
            · rw [if_neg c] at he2 ⊢
              exact ⟨_, _, rfl, o.trans bt, ha2, hw2, he2⟩
          refine ite2 (fun c => ?_) (fun c => ?_)
          · rw [if_pos c] at he
            refine ⟨_, rfl, .inr (.inl ⟨pr, _, _, _, rfl, rfl, hp, rfl, ?_⟩)⟩
            refine ⟨_, rfl, _, rfl, _, rfl, v3, z, a, ss, ns', k, y, rfl, h3, hz', hpos, ha', hW', okst.2.1.2, fun H2 bt ha2 => ⟨_, rfl, ?_⟩⟩
            exact fin y H2 he bt ha2 (blkRun_world rfl hpos m y ns' okst.2.1.2 hW')
          · rw [if_neg c] at he
            refine ⟨_, rfl, .inr (.inl ⟨pr, _, _, _, rfl, rfl, hp, rfl, ?_⟩)⟩
            refine ⟨_, rfl, _, rfl, _, rfl, v4, z, a, ss, ns', k, n, rfl, h4, hz', hpos, ha', hW', okst.2.2.2, fun H2 bt ha2 => ⟨_, rfl, ?_⟩⟩
            exact fin n H2 he bt ha2 (blkRun_world rfl hpos m n ns' okst.2.2.2 hW')
      · obtain ⟨z4, ns', rfl, o, ha', hW', he⟩ := hP
        rw [hbl, List.drop_length, blkRun] at he
        rw [he] at q
        exact q H' o ha'
theorem ok_step {f fG fT fV : Addr} {fd fdG fdT fdV : FuncData} (DS : Dn K mg "_law_step" sStep pStep f fd) (DG : Dn K mg "_law_go" sGo pGo fG fdG) (DT : Dn K mg "_law_true" sTru pTru fT fdT) (DV : Dn K mg "_law_value" sVal pVal fV fdV) (m_isinstance : mg "isinstance" = none) (m_int : mg "int" = none) (m_str : mg "str" = none)
    (m_list : mg "list" = none) (m_tuple : mg "tuple" = none) : FnOk P w K mg base CX0 14 f fd pStep (spStep K) := by
  have G__law_go : FnOk P w K mg base CX0 13 fG fdG pGo (spGo K 4) := ok_go DG DT DV m_isinstance m_int m_str 4
  obtain ⟨F__law_go, b__law_go, g__law_go⟩ := DG
  refine DS.F.ok scStep (fun vs H Q E h => ?_) (fun cdv A outer s H vs Q E hr h => ?_)
  · obtain ⟨v, w, g, ns, k, rfl, _⟩ := h
    rfl
  · obtain ⟨v, w, g, ns, k, rfl, hd, hz, ok, hw, hW, q⟩ := h
    have nd := scStep.nd
    have r__law_go := hr
    refine ⟨_, (pss_cons (ps_set (i := 3) nd rfl (Or.inl rfl) (pe_callTy call_list_of (by rfl) m_list (by decide +kernel) (pa_cons (pv 1) pa_nil)))
      (pss_cons (ps_expr (pe_call G__law_go r__law_go (by rfl) g__law_go F__law_go.kp b__law_go .nil pass0 (pa_cons (pe_ix ix_seq (pv 0) pe_int (fun _ _ => rfl)) (pa_cons (pe_ix ix_seq (pv 0) pe_int (fun _ _ => rfl)) (pa_cons (pv 3) (pa_cons (pv 2) pa_nil))))))
      (pss_one (ps_ret (pe_callTy call_tuple_of (by rfl) m_tuple (by decide +kernel) (pa_cons (pv 3) pa_nil)))))), ?_⟩
    obtain ⟨p, v1, v2, v3, v4, rfl, hp, h1, h2, h3, h4⟩ := dp_t4 hd
    refine ⟨_, rfl, w, _, rfl, .inr hw, fun l nl => ?_⟩
    have s1 := same_new (o := .lst (ns.map natV)) nl
    have h1 := dp_up s1 _ _ h1
    have h4 := dp_up s1 _ _ h4
    have hp := seqT_up s1 hp
    obtain ⟨z, rfl, hzt⟩ := dp_nats h1
    refine ⟨_, rfl, .inr (.inl ⟨p, _, _, _, rfl, rfl, hp, rfl, ?_⟩)⟩
    refine ⟨_, rfl, .inr (.inl ⟨p, _, _, _, rfl, rfl, hp, rfl, ?_⟩)⟩
    refine ⟨_, rfl, _, rfl, v4, z, l, g.sizes, ns, k, g.blk, rfl, h4, hzt, hz.pos, upd_same, hW, ok, fun H2 bt hl => ?_⟩
    refine ⟨_, rfl, l, _, rfl, .inl ⟨.inl (.inl hl), fun p2 np2 => ?_⟩⟩
    have sA : Same H H2 := fun b o hb => bt b o (s1 b o hb) (by
      rw [List.mem_singleton]
      exact ne_of_none hb nl)
    exact q _ p2 (sA.trans (same_new np2)) (sA.free np2) upd_same
end
end K32
set_option maxHeartbeats 4000000
namespace K32
open PySem PySem.Spec PyProof.Rows L2 Sb
abbrev sLPlan : Stmt := topS 24
abbrev pLPlan : List Str := ["_law_deck_here", "_law_sizes_here"]
theorem scLPlan : FnScope ["_law_deck_here", "_law_sizes_here", "_law_ways", "_law_field", "_law_kept", "_law_some", "_law_one_here", "_law_two", "_law_more", "_law_size", "_law_other"] pLPlan (defScope sLPlan) := ⟨rfl, rfl, rfl, by decide +kernel, rfl, by decide +kernel, by decide +kernel⟩
section
variable {P : Program} {w : World} {K : PySem.W.Frag} {mg : Str → Option Value} {base : Heap}
theorem ok_lplan {f fO fD : Addr} {fd fdO fdD : FuncData} (DP : Dn K mg "_law_plan" sLPlan pLPlan f fd) (DO : Dn K mg "_law_one" sOne pOne fO fdO) (DD : Dn K mg "_law_draw" sDraw pDraw fD fdD)
    (m_len : mg "len" = none) (m_int : mg "int" = none) (m_tuple : mg "tuple" = none) (m_range : mg "range" = none) : FnOk P w K mg base CX0 3 f fd pLPlan (spLPlan K) := by
  have G__law_draw : FnOk P w K mg base CX0 1 fD fdD pDraw spDraw := ok_draw DD.F m_len m_int
  have G__law_one : FnOk P w K mg base CX0 2 fO fdO pOne (spOne K) := ok_one DO.F DD.F DD.b DD.g m_len m_int
  obtain ⟨F__law_draw, b__law_draw, g__law_draw⟩ := DD
  obtain ⟨F__law_one, b__law_one, g__law_one⟩ := DO
  refine DP.F.ok scLPlan (fun vs H Q E h => ?_) (fun cdv A outer s H vs Q E hr h => ?_)
  · obtain ⟨d, c, p, n, ss, rfl, _⟩ := h
    rfl
  · obtain ⟨d, c, p, n, ss, rfl, hD, hn, hS, hz, q⟩ := h
    have nd := scLPlan.nd
    have r__law_one := hr
    have r__law_draw := hr.mono (show 1 ≤ 2 by decide)
    refine ⟨_, (pss_cons (ps_set (i := 2) nd rfl (Or.inr rfl) (pe_lc (own := [("_law_size", 9)]) (g := gName 9) (tt := tYes) (by rfl) nd (pi_tup (pv 1)) (blkOk_by (own := [("_law_size", 9)]) (N := ["_law_deck_here", "_law_sizes_here", "_law_ways", "_law_field", "_law_kept", "_law_some", "_law_one_here", "_law_two", "_law_more", "_law_size", "_law_other"]) (sc := defScope sLPlan) (by decide +kernel)) (fun _ _ _ _ _ => (pg_name (i := 9) nd rfl (Or.inl rfl))) (fun _ _ _ _ _ => pts_nil) (fun _ _ _ _ _ => (pe_call G__law_one r__law_one (by rfl) g__law_one F__law_one.kp b__law_one .nil pass0 (pa_cons (pv 0) (pa_cons (pe_lst (pa_cons pe_str (pa_cons pe_str (pa_cons pe_str (pa_cons pe_str pa_nil))))) pa_nil))))))
      (pss_cons (ps_setLc (i := 4) (own := [("_law_field", 3)]) (g := gName 3) (by rfl) nd rfl rfl (sw_true rfl rfl rfl (by decide +kernel)) (pi_range1 (by rfl) m_range (pa_cons (pe_callB call_len_seq (by rfl) m_len (by decide +kernel) (pa_cons (pv 1) pa_nil)) pa_nil)) (blkOk_by (own := [("_law_field", 3)]) (N := ["_law_deck_here", "_law_sizes_here", "_law_ways", "_law_field", "_law_kept", "_law_some", "_law_one_here", "_law_two", "_law_more", "_law_size", "_law_other"]) (sc := defScope sLPlan) (by decide +kernel)) (fun _ _ _ _ _ => (pg_name (i := 3) nd rfl (Or.inl rfl))) (fun _ _ _ _ _ => (pts_one (pt_cmpR op_eq (pe_ix (show IxR _ (rIx K) from ix_seq) (pv 2) (pv 3) (fun _ _ => rfl)) pe_str (nomark _)))) (fun _ _ _ _ _ => (pv 3)))
      (pss_cons (ps_for PassesOwn.never rfl (pi_range1 (by rfl) m_range (pa_cons (pe_callB call_len_seq (by rfl) m_len (by decide +kernel) (pa_cons (pv 1) pa_nil)) pa_nil)) (pg_name (i := 3) nd rfl (Or.inl rfl))
      (pss_one (ps_if (pt_cmpR op_eq (pe_ix (show IxR _ (rIx K) from ix_seq) (pv 2) (pv 3) (fun _ _ => rfl)) pe_str (nomark _))
      (pss_cons (ps_set (i := 5) nd rfl (Or.inl rfl) (pe_op op_cat (pe_lst (pa_cons (pe_op op_sub (pe_call G__law_draw r__law_draw (by rfl) g__law_draw F__law_draw.kp b__law_draw .nil pass0 (pa_cons (pv 0) (pa_cons pe_int pa_nil))) pe_int) pa_nil)) (pe_lc (own := [("_law_other", 10)]) (g := gName 10) (tt := tYes) (by rfl) nd (pi_list (pv 4)) (blkOk_by (own := [("_law_other", 10)]) (N := ["_law_deck_here", "_law_sizes_here", "_law_ways", "_law_field", "_law_kept", "_law_some", "_law_one_here", "_law_two", "_law_more", "_law_size", "_law_other"]) (sc := defScope sLPlan) (by decide +kernel)) (fun _ _ _ _ _ => (pg_name (i := 10) nd rfl (Or.inl rfl))) (fun _ _ _ _ _ => pts_nil) (fun _ _ _ _ _ => (pe_tup (pa_cons pe_str (pa_cons (pv 10) pa_nil)))))))
      (pss_cons (ps_par (i := 6) (j := 7) (by rfl) nd rfl rfl (by decide) rfl rfl (pa_cons (pe_call G__law_one r__law_one (by rfl) g__law_one F__law_one.kp b__law_one .nil pass0 (pa_cons (pv 0) (pa_cons (pv 5) pa_nil))) (pa_cons (pe_call G__law_one r__law_one (by rfl) g__law_one F__law_one.kp b__law_one .nil pass0 (pa_cons (pv 0) (pa_cons (pv 5) pa_nil))) pa_nil)) (by rfl))
      (pss_cons (ps_set (i := 8) nd rfl (Or.inl rfl) (pe_lst (pa_cons (pv 6) (pa_cons (pv 7) (pa_cons (pe_tup (pa_cons pe_str (pa_cons (pv 6) (pa_cons (pv 7) pa_nil)))) (pa_cons (pe_tup (pa_cons pe_str (pa_cons (pv 6) (pa_cons (pe_tup (pa_cons pe_str (pa_cons (pe_op op_sub (pe_call G__law_draw r__law_draw (by rfl) g__law_draw F__law_draw.kp b__law_draw .nil pass0 (pa_cons (pv 0) (pa_cons pe_int pa_nil))) pe_int) (pa_cons (pv 7) pa_nil)))) pa_nil)))) pa_nil))))))
      (pss_cons (ps_set (i := 8) nd rfl (Or.inl rfl) (pe_op op_cat (pv 8) (pe_lst (pa_cons (pe_tup (pa_cons pe_str (pa_cons (pv 6) (pa_cons (pe_tup (pa_cons pe_str (pa_cons (pv 7) (pa_cons (pv 6) pa_nil)))) pa_nil)))) (pa_cons (pe_tup (pa_cons pe_str (pa_cons (pv 6) (pa_cons (pe_tup (pa_cons pe_str (pa_cons (pv 7) (pa_cons (pv 6) pa_nil)))) pa_nil)))) pa_nil)))))
      (pss_cons (ps_set (i := 8) nd rfl (Or.inl rfl) (pe_op op_cat (pv 8) (pe_lst (pa_cons (pe_tup (pa_cons pe_str (pa_cons (pe_op op_sub (pe_call G__law_draw r__law_draw (by rfl) g__law_draw F__law_draw.kp b__law_draw .nil pass0 (pa_cons (pv 0) (pa_cons pe_int pa_nil))) pe_int) (pa_cons (pe_tup (pa_cons pe_str (pa_cons (pv 6) (pa_cons (pv 7) pa_nil)))) pa_nil)))) (pa_cons (pe_tup (pa_cons pe_str (pa_cons (pe_tup (pa_cons pe_str (pa_cons (pv 6) (pa_cons (pv 7) pa_nil)))) (pa_cons (pv 7) pa_nil)))) pa_nil)))))
      (pss_one (ps_asg (pe_tup (pa_cons pe_str (pa_cons (pe_call G__law_one r__law_one (by rfl) g__law_one F__law_one.kp b__law_one .nil pass0 (pa_cons (pv 0) (pa_cons (pv 8) pa_nil))) pa_nil))) (pg_sub (pv 2) (pv 3) set_list))))))))
      pss_nil)))
      (pss_one (ps_ret (pe_callTy call_tuple_of (by rfl) m_tuple (by decide +kernel) (pa_cons (pv 2) pa_nil))))))), ?_⟩
    have hsl := hz.len
    obtain ⟨nsd, ed1, ed2, _⟩ := id hD
    -- the words
    refine ⟨_, rfl, p, rfl, ⟨_, hS⟩, fun D nD => ?_⟩
    have hDd : D ≠ d := (ne_of_none ed1 nD).symm
    have hDc : D ≠ c := (ne_of_none ed2 nD).symm
    have s0 := same_new (o := .lst []) nD
    refine lc_tup (xs := ss.map natV) (fun i H' => ∃ ws : List V, Off d c H H' ∧ DeckAt H' d c (n + i) ∧ ws.length = i ∧ (∀ x ∈ ws, Wd x) ∧ H' D = some (.lst ws))
      ⟨[], off_same s0, hD.same s0, rfl, fun x hx => (by cases hx), upd_same⟩ (fun i H' _ h => by obtain ⟨ws, o, _⟩ := h; exact seqT_kpt (Kpt.off hD o) hS) (fun i x H' hx hP => ?_) (fun H' hP => ?_)
    · obtain ⟨ws, o, dk, hwl, hw, hl⟩ := hP
      have hi : i < ss.length := by
        have := (List.getElem?_eq_some_iff.mp hx).1
        rw [List.length_map] at this
        exact this
      refine ⟨rfl, tYes_then ?_⟩
      refine ⟨_, rfl, by show 4 ≤ sizeLine; decide, fun lm nlm => ?_⟩
      have s1 := same_new (o := .lst [.str "kept", .str "stays", .str "stays", .str "made"]) nlm
      obtain ⟨_, f1, f2, _⟩ := id dk
      refine ⟨d, c, lm, n + i, _, rfl, dk.same s1, by omega, .inl (.inl (.inl upd_same)), (ne_of_none f1 nlm).symm, (ne_of_none f2 nlm).symm, by simp, by show 4 ≤ 1000; decide, fun H2 im xm o2 hD2 hxm => ?_⟩
      have hwd : Wd xm := by
        match im, hxm with
        | 0, h => cases h; exact .inl rfl
        | 1, h => cases h; exact .inr (.inl rfl)
        | 2, h => cases h; exact .inr (.inl rfl)
        | 3, h => cases h; exact .inr (.inr rfl)
      refine ⟨ws, o2 _ _ (s1 _ _ hl) hDd hDc, small1000 (by omega), ws ++ [xm], fun b ob hb h1 h2 => ?_, ?_, by rw [List.length_append, List.length_singleton, hwl], ?_, upd_same⟩
      · rw [upd_ne (ne_of_none hb nD)]
        exact (o.trans ((off_same s1).trans o2)) b ob hb h1 h2
      · obtain ⟨ms, e1, e2, e3⟩ := hD2
        exact ⟨ms, by rw [upd_ne hDd.symm]; exact e1, by rw [upd_ne hDc.symm]; exact e2, e3⟩
      · intro x hx
        rcases List.mem_append.mp hx with hx | hx
        · exact hw x hx
        · rw [List.mem_singleton] at hx
          exact hx ▸ hwd
    obtain ⟨ws, o, dk, hwl, hw, hl⟩ := hP
    rw [List.length_map] at dk hwl
    clear s0
    -- the kept ones
    refine ⟨_, rfl, p, _, rfl, .inr (seqT_kpt (Kpt.off hD o) hS), ?_⟩
    refine ⟨(ss.length : Int), by rw [List.length_map], by omega, by omega, fun D2 nD2 => ?_⟩
    have sK := same_new (o := .lst []) nD2
    refine lc_range (n := ss.length) (fun i H2 => ∃ ks : List Nat, Same H' H2 ∧ (∀ k ∈ ks, k < ss.length) ∧ ks.length ≤ i ∧ H2 D2 = some (.lst (ks.map natV)))
      ⟨[], sK, fun k hk => (by cases hk), Nat.zero_le _, upd_same⟩ (fun i H2 hi hP => ?_) (fun H2 hP => ?_)
    · obtain ⟨ks, sm, hk, hkl, hl2⟩ := hP
      refine ⟨rfl, ?_⟩
      obtain ⟨x, hx⟩ : ∃ x, ws[i]? = some x := ⟨ws[i]'(by omega), List.getElem?_eq_getElem _⟩
      refine ⟨_, rfl, _, rfl, .inl ⟨D, _, _, _, rfl, rfl, .inl (.inl (sm _ _ hl)), by rw [Int.zero_add]; exact atI_nat hx, ?_⟩⟩
      have no : ∀ s : Str, x = .str s → s ≠ "kept" → ∃ ks : List Nat, Same H' H2 ∧ (∀ k ∈ ks, k < ss.length) ∧ ks.length ≤ i + 1 ∧ H2 D2 = some (.lst (ks.map natV)) := fun _ _ _ => ⟨ks, sm, hk, by omega, hl2⟩
      rcases hw x (List.mem_of_getElem? hx) with rfl | rfl | rfl
      · refine ⟨rfl, _, rfl, ?_⟩
        refine iteT ?_
        refine ⟨_, rfl, ks.map natV, hl2, by rw [List.length_map]; exact small1000 (by omega), ks ++ [i], same_put sm nD2, ?_, by rw [List.length_append, List.length_singleton]; omega, ?_⟩
        · intro k hk'
          rcases List.mem_append.mp hk' with hk' | hk'
          · exact hk k hk'
          · rw [List.mem_singleton] at hk'
            omega
        · rw [upd_same, List.map_append, Int.zero_add]
          rfl
      · refine ⟨rfl, _, rfl, ?_⟩
        exact iteF (no _ rfl (by decide))
      · refine ⟨rfl, _, rfl, ?_⟩
        exact iteF (no _ rfl (by decide))
    obtain ⟨ks, sm, hk, hkl, hl2⟩ := hP
    obtain ⟨_, f1, f2, _⟩ := id dk
    have hDD : D2 ≠ D := (ne_of_none hl nD2).symm
    have hB : LB K d c D D2 ss.length 0 ws ks H H2 (n + ss.length) := ⟨o.trans (off_same sm), dk.same sm, sm _ _ hl, hl2, ⟨hwl, fun j x hx => ⟨fun z => absurd z (Nat.not_lt_zero _), fun _ => hw x (List.mem_of_getElem? hx)⟩⟩, hDd, hDc, (ne_of_none f1 nD2).symm, (ne_of_none f2 nD2).symm⟩
    clear sK sm hw hl hl2 hwl f1 f2 ed1 ed2 nD2 dk o
    -- the made ones
    refine ⟨_, rfl, p, _, rfl, .inr (seqT_kpt (Kpt.off hD hB.o) hS), ?_⟩
    refine ⟨(ss.length : Int), by rw [List.length_map], by omega, by omega, for_range (n := ss.length) (fun i σ H' => ∃ (z3 z5 z6 z7 z8 z9 z10 : Option V) (n' : Nat) (xs : List V), σ = [some (.ref d), some (.ref p), some (.ref D), z3, some (.ref D2), z5, z6, z7, z8, z9, z10] ∧ LB K d c D D2 ss.length i xs ks H H' n' ∧ n ≤ n' ∧ n' ≤ n + 4 + 6 * i)
      ⟨_, _, _, _, _, _, _, _, ws, rfl, hB, by omega, by omega⟩ (fun i σ H3 hi hP => ?_) (fun σ H3 hP => ?_)⟩
    · obtain ⟨z3, z5, z6, z7, z8, z9, z10, n', xs, rfl, hB, hn1, hn2⟩ := hP
      obtain ⟨x, hx⟩ : ∃ x, xs[i]? = some x := ⟨xs[i]'(by rw [hB.wy.1]; exact hi), List.getElem?_eq_getElem _⟩
      refine ⟨_, rfl, _, rfl, .inl ⟨D, _, _, _, rfl, rfl, .inl (.inl hB.hD), by rw [Int.zero_add]; exact atI_nat hx, ?_⟩⟩
      rcases (hB.wy.2 i x hx).2 (Nat.le_refl _) with rfl | rfl | rfl
      · refine ⟨rfl, _, rfl, ?_⟩
        refine iteF ?_
        exact ⟨_, _, _, _, _, _, _, n', xs, rfl, { hB with wy := hB.wy.keep fun y hy => by rw [hx] at hy; cases hy; decide }, hn1, by omega⟩
      · refine ⟨rfl, _, rfl, ?_⟩
        refine iteF ?_
        exact ⟨_, _, _, _, _, _, _, n', xs, rfl, { hB with wy := hB.wy.keep fun y hy => by rw [hx] at hy; cases hy; decide }, hn1, by omega⟩
      · refine ⟨rfl, _, rfl, ?_⟩
        refine iteT ?_
        have hwl := hB.wy.1
        -- some
        refine ⟨_, rfl, d, c, n', 19, rfl, hB.dk, by omega, by decide, by decide, fun H4 v o4 hD4 v0 v1 => ?_⟩
        have hB := hB.off o4 hD4
        refine ⟨_, _, rfl, rfl, ?_⟩
        refine ⟨by show 1 ≤ sizeLine; decide, fun l1 nl1 => ?_⟩
        have hB := hB.same (same_new (o := .lst [.int (v - 9)]) nl1)
        have hl1 : (upd H4 l1 (.lst [.int (v - 9)])) l1 = some (.lst [.int (v - 9)]) := upd_same
        generalize upd H4 l1 (.lst [.int (v - 9)]) = H5 at hB hl1 ⊢
        clear nl1 o4 hD4
        refine ⟨_, rfl, D2, rfl, ⟨_, .inl (.inl hB.hK)⟩, fun D3 nD3 => ?_⟩
        have t3 := same_new (o := .lst []) nD3
        refine lc_list (xs := ks.map natV) (fun m H6 => ∃ ps : List Addr, Same H5 H6 ∧ H6 D3 = some (.lst (ps.map V.ref)) ∧ ps.length = m ∧ ∀ r ∈ ps, ∃ f : Nat, f < ss.length ∧ H6 r = some (.tup [.str "field", .int f]))
          ⟨[], t3, upd_same, rfl, fun r hr => (by cases hr)⟩ (fun m H6 _ h => by obtain ⟨_, sm, _⟩ := h; exact .inl (.inl (sm _ _ hB.hK))) (fun m x H6 hx hP => ?_) (fun H6 hP => ?_)
        · obtain ⟨ps, sm, hps, hpl, hpf⟩ := hP
          obtain ⟨k', hk', rfl⟩ : ∃ k', k' ∈ ks ∧ x = natV k' := by
            obtain ⟨k', h1, h2⟩ := List.mem_map.mp (List.mem_of_getElem? hx)
            exact ⟨k', h1, h2.symm⟩
          have hm := (List.getElem?_eq_some_iff.mp hx).1
          rw [List.length_map] at hm
          refine ⟨rfl, tYes_then ?_⟩
          refine ⟨_, rfl, by show 2 ≤ sizeLine; decide, fun r nr => ?_⟩
          have t4 := same_new (o := .tup [.str "field", natV k']) nr
          refine ⟨ps.map V.ref, t4 _ _ hps, by rw [List.length_map]; exact small1000 (by omega), ps ++ [r], same_put (sm.trans t4) nD3, by rw [upd_same, List.map_append]; rfl, by rw [List.length_append, List.length_singleton, hpl], fun r' hr' => ?_⟩
          rcases List.mem_append.mp hr' with hr' | hr'
          · obtain ⟨fx, h1, h2⟩ := hpf r' hr'
            exact ⟨fx, h1, (Kpt.put (t4 _ _ hps)) _ _ (t4 _ _ h2) fun ys z => by cases z⟩
          · rw [List.mem_singleton] at hr'
            subst hr'
            exact ⟨k', hk k' hk', (Kpt.put (t4 _ _ hps)) _ _ upd_same fun ys z => by cases z⟩
        obtain ⟨ps, sm, hps, hpl, hpf⟩ := hP
        rw [List.length_map] at hpl
        have hB := hB.same sm
        refine ⟨l1, D3, _, _, rfl, rfl, sm _ _ hl1, hps, by rw [List.length_map, sizeLine_eq]; show 1 + ps.length ≤ _; omega, fun so nso => ?_⟩
        obtain ⟨hsd, hsc⟩ := hB.new nso
        have t5 := same_new (o := .lst ([V.int (v - 9)] ++ ps.map V.ref)) nso
        have hB := hB.same t5
        have hX : Xes K (upd H6 so (.lst ([V.int (v - 9)] ++ ps.map V.ref))) ss.length 1 ([V.int (v - 9)] ++ ps.map V.ref) := Xes.app (.cons (Xe.num v0 v1) .nil) (fun y hy => by
          obtain ⟨r, hr', rfl⟩ := List.mem_map.mp hy
          obtain ⟨fx, h1, h2⟩ := hpf r hr'
          exact Xe.fld h1 (t5 _ _ h2))
        have hso : (upd H6 so (.lst ([V.int (v - 9)] ++ ps.map V.ref))) so = some (.lst ([V.int (v - 9)] ++ ps.map V.ref)) := upd_same
        have hLn : [V.int (v - 9)] ++ ps.map V.ref ≠ [] := by simp
        have hLl : ([V.int (v - 9)] ++ ps.map V.ref).length ≤ 1000 := by
          rw [List.length_append, List.length_map]
          show 1 + ps.length ≤ 1000
          omega
        clear t3 t5 nso nD3 hps hpf hl1 hx sm
        generalize upd H6 so (.lst ([V.int (v - 9)] ++ ps.map V.ref)) = H7 at hB hX hso ⊢
        generalize [V.int (v - 9)] ++ ps.map V.ref = L at hX hso hLn hLl ⊢
        clear hpl
        -- two of them
        refine ⟨_, rfl, _, rfl, d, c, so, _, L, rfl, hB.dk, by omega, .inl (.inl (.inl hso)), hsd, hsc, hLn, hLl, fun H8 i8 x o8 hD8 hx8 => ?_⟩
        have hxe := (hX x (List.mem_of_getElem? hx8)).kpt (Kpt.off hB.dk o8)
        have hX := hX.kpt (Kpt.off hB.dk o8)
        have hso := o8 _ _ hso hsd hsc
        have hB := hB.off o8 hD8
        refine ⟨_, rfl, _, rfl, d, c, so, _, L, rfl, hB.dk, by omega, .inl (.inl (.inl hso)), hsd, hsc, hLn, hLl, fun H9 i9 y o9 hD9 hx9 => ?_⟩
        have hye := (hX y (List.mem_of_getElem? hx9)).kpt (Kpt.off hB.dk o9)
        have hxe := hxe.kpt (Kpt.off hB.dk o9)
        have hB := hB.off o9 hD9
        clear hX hso o8 hD8 hx8 o9 hD9 hx9 hLn hLl hsd hsc
        refine ⟨_, _, rfl, ?_⟩
        -- more
        refine ⟨_, rfl, _, rfl, _, rfl, _, rfl, by show 3 ≤ sizeLine; decide, fun p1 np1 => ?_⟩
        have up1 := same_new (o := .tup [.str "plus", x, y]) np1
        have hxe := hxe.up up1
        have hye := hye.up up1
        have hB := hB.same up1
        have ep1 : Xe K (upd H9 p1 (.tup [.str "plus", x, y])) ss.length 2 (.ref p1) := hxe.plus hye upd_same
        generalize upd H9 p1 (.tup [.str "plus", x, y]) = G1 at hB hxe hye ep1 ⊢
        refine ⟨_, rfl, _, rfl, d, c, _, 19, rfl, hB.dk, by omega, by decide, by decide, fun G2 v2 ov2 Dv2 v20 v21 => ?_⟩
        have hxe := hxe.kpt (Kpt.off hB.dk ov2)
        have hye := hye.kpt (Kpt.off hB.dk ov2)
        have ep1 := ep1.kpt (Kpt.off hB.dk ov2)
        have hB := hB.off ov2 Dv2
        refine ⟨_, _, rfl, rfl, ?_⟩
        refine ⟨_, rfl, by show 3 ≤ sizeLine; decide, fun p2 np2 => ?_⟩
        have up2 := same_new (o := .tup [.str "times", .int (v2 - 9), y]) np2
        have hxe := hxe.up up2
        have hye := hye.up up2
        have ep1 := ep1.up up2
        have hB := hB.same up2
        have ep2 : Xe K (upd G2 p2 (.tup [.str "times", .int (v2 - 9), y])) ss.length 2 (.ref p2) := Xe.times v20 v21 hye upd_same
        generalize upd G2 p2 (.tup [.str "times", .int (v2 - 9), y]) = G3 at hB hxe hye ep1 ep2 ⊢
        refine ⟨by show 3 ≤ sizeLine; decide, fun p3 np3 => ?_⟩
        have up3 := same_new (o := .tup [.str "minus", x, .ref p2]) np3
        have hxe := hxe.up up3
        have hye := hye.up up3
        have ep1 := ep1.up up3
        have ep2 := ep2.up up3
        have hB := hB.same up3
        have ep3 : Xe K (upd G3 p3 (.tup [.str "minus", x, .ref p2])) ss.length 3 (.ref p3) := (hxe.le (by decide : 1 ≤ 2)).minus ep2 upd_same
        generalize upd G3 p3 (.tup [.str "minus", x, .ref p2]) = G4 at hB hxe hye ep1 ep2 ep3 ⊢
        refine ⟨by show 4 ≤ sizeLine; decide, fun m1 nm1 => ?_⟩
        obtain ⟨nm1d, nm1c⟩ := hB.new nm1
        have um1 := same_new (o := .lst [x, y, .ref p1, .ref p3]) nm1
        have hxe := hxe.up um1
        have hye := hye.up um1
        have ep1 := ep1.up um1
        have ep2 := ep2.up um1
        have ep3 := ep3.up um1
        have hB := hB.same um1
        have hm1 : (upd G4 m1 (.lst [x, y, .ref p1, .ref p3])) m1 = some (.lst [x, y, .ref p1, .ref p3]) := upd_same
        generalize upd G4 m1 (.lst [x, y, .ref p1, .ref p3]) = G5 at hB hxe hye ep1 ep2 ep3 hm1 ⊢
        refine ⟨_, rfl, _, rfl, _, rfl, _, rfl, by show 3 ≤ sizeLine; decide, fun p4 np4 => ?_⟩
        have up4 := same_new (o := .tup [.str "plus", y, x]) np4
        have hxe := hxe.up up4
        have hye := hye.up up4
        have ep1 := ep1.up up4
        have ep2 := ep2.up up4
        have ep3 := ep3.up up4
        have hm1 := up4 _ _ hm1
        have hB := hB.same up4
        have ep4 : Xe K (upd G5 p4 (.tup [.str "plus", y, x])) ss.length 2 (.ref p4) := hye.plus hxe upd_same
        generalize upd G5 p4 (.tup [.str "plus", y, x]) = G6 at hB hxe hye ep1 ep2 ep3 ep4 hm1 ⊢
        refine ⟨by show 3 ≤ sizeLine; decide, fun p5 np5 => ?_⟩
        have up5 := same_new (o := .tup [.str "minus", x, .ref p4]) np5
        have hxe := hxe.up up5
        have hye := hye.up up5
        have ep1 := ep1.up up5
        have ep2 := ep2.up up5
        have ep3 := ep3.up up5
        have ep4 := ep4.up up5
        have hm1 := up5 _ _ hm1
        have hB := hB.same up5
        have ep5 : Xe K (upd G6 p5 (.tup [.str "minus", x, .ref p4])) ss.length 3 (.ref p5) := (hxe.le (by decide : 1 ≤ 2)).minus ep4 upd_same
        generalize upd G6 p5 (.tup [.str "minus", x, .ref p4]) = G7 at hB hxe hye ep1 ep2 ep3 ep4 ep5 hm1 ⊢
        refine ⟨_, rfl, _, rfl, _, rfl, by show 3 ≤ sizeLine; decide, fun p6 np6 => ?_⟩
        have up6 := same_new (o := .tup [.str "minus", y, x]) np6
        have hxe := hxe.up up6
        have hye := hye.up up6
        have ep1 := ep1.up up6
        have ep2 := ep2.up up6
        have ep3 := ep3.up up6
        have ep4 := ep4.up up6
        have ep5 := ep5.up up6
        have hm1 := up6 _ _ hm1
        have hB := hB.same up6
        have ep6 : Xe K (upd G7 p6 (.tup [.str "minus", y, x])) ss.length 2 (.ref p6) := hye.minus hxe upd_same
        generalize upd G7 p6 (.tup [.str "minus", y, x]) = G8 at hB hxe hye ep1 ep2 ep3 ep4 ep5 ep6 hm1 ⊢
        refine ⟨by show 3 ≤ sizeLine; decide, fun p7 np7 => ?_⟩
        have up7 := same_new (o := .tup [.str "minus", x, .ref p6]) np7
        have hxe := hxe.up up7
        have hye := hye.up up7
        have ep1 := ep1.up up7
        have ep2 := ep2.up up7
        have ep3 := ep3.up up7
        have ep4 := ep4.up up7
        have ep5 := ep5.up up7
        have ep6 := ep6.up up7
        have hm1 := up7 _ _ hm1
        have hB := hB.same up7
        have ep7 : Xe K (upd G8 p7 (.tup [.str "minus", x, .ref p6])) ss.length 3 (.ref p7) := (hxe.le (by decide : 1 ≤ 2)).minus ep6 upd_same
        generalize upd G8 p7 (.tup [.str "minus", x, .ref p6]) = G9 at hB hxe hye ep1 ep2 ep3 ep4 ep5 ep6 ep7 hm1 ⊢
        refine ⟨by show 2 ≤ sizeLine; decide, fun m2 nm2 => ?_⟩
        obtain ⟨nm2d, nm2c⟩ := hB.new nm2
        have um2 := same_new (o := .lst [.ref p5, .ref p7]) nm2
        have hxe := hxe.up um2
        have hye := hye.up um2
        have ep1 := ep1.up um2
        have ep2 := ep2.up um2
        have ep3 := ep3.up um2
        have ep4 := ep4.up um2
        have ep5 := ep5.up um2
        have ep6 := ep6.up um2
        have ep7 := ep7.up um2
        have hm1 := um2 _ _ hm1
        have hB := hB.same um2
        have hm2 : (upd G9 m2 (.lst [.ref p5, .ref p7])) m2 = some (.lst [.ref p5, .ref p7]) := upd_same
        generalize upd G9 m2 (.lst [.ref p5, .ref p7]) = G10 at hB hxe hye ep1 ep2 ep3 ep4 ep5 ep6 ep7 hm1 hm2 ⊢
        refine ⟨m1, m2, _, _, rfl, rfl, hm1, hm2, by rw [sizeLine_eq]; show 4 + 2 ≤ _; omega, fun m3 nm3 => ?_⟩
        obtain ⟨nm3d, nm3c⟩ := hB.new nm3
        have um3 := same_new (o := .lst ([x, y, V.ref p1, V.ref p3] ++ [V.ref p5, V.ref p7])) nm3
        have hxe := hxe.up um3
        have hye := hye.up um3
        have ep1 := ep1.up um3
        have ep2 := ep2.up um3
        have ep3 := ep3.up um3
        have ep4 := ep4.up um3
        have ep5 := ep5.up um3
        have ep6 := ep6.up um3
        have ep7 := ep7.up um3
        have hm1 := um3 _ _ hm1
        have hm2 := um3 _ _ hm2
        have hB := hB.same um3
        have hm3 : (upd G10 m3 (.lst ([x, y, V.ref p1, V.ref p3] ++ [V.ref p5, V.ref p7]))) m3 = some (.lst ([x, y, V.ref p1, V.ref p3] ++ [V.ref p5, V.ref p7])) := upd_same
        generalize upd G10 m3 (.lst ([x, y, V.ref p1, V.ref p3] ++ [V.ref p5, V.ref p7])) = G11 at hB hxe hye ep1 ep2 ep3 ep4 ep5 ep6 ep7 hm1 hm2 hm3 ⊢
        refine ⟨_, rfl, _, rfl, d, c, _, 19, rfl, hB.dk, by omega, by decide, by decide, fun G12 v3 ov3 Dv3 v30 v31 => ?_⟩
        have hxe := hxe.kpt (Kpt.off hB.dk ov3)
        have hye := hye.kpt (Kpt.off hB.dk ov3)
        have ep1 := ep1.kpt (Kpt.off hB.dk ov3)
        have ep2 := ep2.kpt (Kpt.off hB.dk ov3)
        have ep3 := ep3.kpt (Kpt.off hB.dk ov3)
        have ep4 := ep4.kpt (Kpt.off hB.dk ov3)
        have ep5 := ep5.kpt (Kpt.off hB.dk ov3)
        have ep6 := ep6.kpt (Kpt.off hB.dk ov3)
        have ep7 := ep7.kpt (Kpt.off hB.dk ov3)
        have hm1 := ov3 _ _ hm1 nm1d nm1c
        have hm2 := ov3 _ _ hm2 nm2d nm2c
        have hm3 := ov3 _ _ hm3 nm3d nm3c
        have hB := hB.off ov3 Dv3
        refine ⟨_, _, rfl, rfl, ?_⟩
        refine ⟨_, rfl, _, rfl, by show 3 ≤ sizeLine; decide, fun p8 np8 => ?_⟩
        have up8 := same_new (o := .tup [.str "plus", x, y]) np8
        have hxe := hxe.up up8
        have hye := hye.up up8
        have ep1 := ep1.up up8
        have ep2 := ep2.up up8
        have ep3 := ep3.up up8
        have ep4 := ep4.up up8
        have ep5 := ep5.up up8
        have ep6 := ep6.up up8
        have ep7 := ep7.up up8
        have hm1 := up8 _ _ hm1
        have hm2 := up8 _ _ hm2
        have hm3 := up8 _ _ hm3
        have hB := hB.same up8
        have ep8 : Xe K (upd G12 p8 (.tup [.str "plus", x, y])) ss.length 2 (.ref p8) := hxe.plus hye upd_same
        generalize upd G12 p8 (.tup [.str "plus", x, y]) = G13 at hB hxe hye ep1 ep2 ep3 ep4 ep5 ep6 ep7 ep8 hm1 hm2 hm3 ⊢
        refine ⟨by show 3 ≤ sizeLine; decide, fun p9 np9 => ?_⟩
        have up9 := same_new (o := .tup [.str "times", .int (v3 - 9), .ref p8]) np9
        have hxe := hxe.up up9
        have hye := hye.up up9
        have ep1 := ep1.up up9
        have ep2 := ep2.up up9
        have ep3 := ep3.up up9
        have ep4 := ep4.up up9
        have ep5 := ep5.up up9
        have ep6 := ep6.up up9
        have ep7 := ep7.up up9
        have ep8 := ep8.up up9
        have hm1 := up9 _ _ hm1
        have hm2 := up9 _ _ hm2
        have hm3 := up9 _ _ hm3
        have hB := hB.same up9
        have ep9 : Xe K (upd G13 p9 (.tup [.str "times", .int (v3 - 9), .ref p8])) ss.length 3 (.ref p9) := Xe.times v30 v31 ep8 upd_same
        generalize upd G13 p9 (.tup [.str "times", .int (v3 - 9), .ref p8]) = G14 at hB hxe hye ep1 ep2 ep3 ep4 ep5 ep6 ep7 ep8 ep9 hm1 hm2 hm3 ⊢
        refine ⟨_, rfl, _, rfl, by show 3 ≤ sizeLine; decide, fun pa npa => ?_⟩
        have upa := same_new (o := .tup [.str "minus", x, y]) npa
        have hxe := hxe.up upa
        have hye := hye.up upa
        have ep1 := ep1.up upa
        have ep2 := ep2.up upa
        have ep3 := ep3.up upa
        have ep4 := ep4.up upa
        have ep5 := ep5.up upa
        have ep6 := ep6.up upa
        have ep7 := ep7.up upa
        have ep8 := ep8.up upa
        have ep9 := ep9.up upa
        have hm1 := upa _ _ hm1
        have hm2 := upa _ _ hm2
        have hm3 := upa _ _ hm3
        have hB := hB.same upa
        have epa : Xe K (upd G14 pa (.tup [.str "minus", x, y])) ss.length 2 (.ref pa) := hxe.minus hye upd_same
        generalize upd G14 pa (.tup [.str "minus", x, y]) = G15 at hB hxe hye ep1 ep2 ep3 ep4 ep5 ep6 ep7 ep8 ep9 epa hm1 hm2 hm3 ⊢
        refine ⟨_, rfl, by show 3 ≤ sizeLine; decide, fun pb npb => ?_⟩
        have upb := same_new (o := .tup [.str "plus", .ref pa, y]) npb
        have hxe := hxe.up upb
        have hye := hye.up upb
        have ep1 := ep1.up upb
        have ep2 := ep2.up upb
        have ep3 := ep3.up upb
        have ep4 := ep4.up upb
        have ep5 := ep5.up upb
        have ep6 := ep6.up upb
        have ep7 := ep7.up upb
        have ep8 := ep8.up upb
        have ep9 := ep9.up upb
        have epa := epa.up upb
        have hm1 := upb _ _ hm1
        have hm2 := upb _ _ hm2
        have hm3 := upb _ _ hm3
        have hB := hB.same upb
        have epb : Xe K (upd G15 pb (.tup [.str "plus", .ref pa, y])) ss.length 3 (.ref pb) := epa.plus (hye.le (by decide : 1 ≤ 2)) upd_same
        generalize upd G15 pb (.tup [.str "plus", .ref pa, y]) = G16 at hB hxe hye ep1 ep2 ep3 ep4 ep5 ep6 ep7 ep8 ep9 epa epb hm1 hm2 hm3 ⊢
        refine ⟨by show 2 ≤ sizeLine; decide, fun m4 nm4 => ?_⟩
        obtain ⟨nm4d, nm4c⟩ := hB.new nm4
        have um4 := same_new (o := .lst [.ref p9, .ref pb]) nm4
        have hxe := hxe.up um4
        have hye := hye.up um4
        have ep1 := ep1.up um4
        have ep2 := ep2.up um4
        have ep3 := ep3.up um4
        have ep4 := ep4.up um4
        have ep5 := ep5.up um4
        have ep6 := ep6.up um4
        have ep7 := ep7.up um4
        have ep8 := ep8.up um4
        have ep9 := ep9.up um4
        have epa := epa.up um4
        have epb := epb.up um4
        have hm1 := um4 _ _ hm1
        have hm2 := um4 _ _ hm2
        have hm3 := um4 _ _ hm3
        have hB := hB.same um4
        have hm4 : (upd G16 m4 (.lst [.ref p9, .ref pb])) m4 = some (.lst [.ref p9, .ref pb]) := upd_same
        generalize upd G16 m4 (.lst [.ref p9, .ref pb]) = G17 at hB hxe hye ep1 ep2 ep3 ep4 ep5 ep6 ep7 ep8 ep9 epa epb hm1 hm2 hm3 hm4 ⊢
        refine ⟨m3, m4, _, _, rfl, rfl, hm3, hm4, by rw [sizeLine_eq]; show 6 + 2 ≤ _; omega, fun m5 nm5 => ?_⟩
        obtain ⟨nm5d, nm5c⟩ := hB.new nm5
        have um5 := same_new (o := .lst (([x, y, V.ref p1, V.ref p3] ++ [V.ref p5, V.ref p7]) ++ [V.ref p9, V.ref pb])) nm5
        have hxe := hxe.up um5
        have hye := hye.up um5
        have ep1 := ep1.up um5
        have ep2 := ep2.up um5
        have ep3 := ep3.up um5
        have ep4 := ep4.up um5
        have ep5 := ep5.up um5
        have ep6 := ep6.up um5
        have ep7 := ep7.up um5
        have ep8 := ep8.up um5
        have ep9 := ep9.up um5
        have epa := epa.up um5
        have epb := epb.up um5
        have hm1 := um5 _ _ hm1
        have hm2 := um5 _ _ hm2
        have hm3 := um5 _ _ hm3
        have hm4 := um5 _ _ hm4
        have hB := hB.same um5
        have hm5 : (upd G17 m5 (.lst (([x, y, V.ref p1, V.ref p3] ++ [V.ref p5, V.ref p7]) ++ [V.ref p9, V.ref pb]))) m5 = some (.lst (([x, y, V.ref p1, V.ref p3] ++ [V.ref p5, V.ref p7]) ++ [V.ref p9, V.ref pb])) := upd_same
        generalize upd G17 m5 (.lst (([x, y, V.ref p1, V.ref p3] ++ [V.ref p5, V.ref p7]) ++ [V.ref p9, V.ref pb])) = G18 at hB hxe hye ep1 ep2 ep3 ep4 ep5 ep6 ep7 ep8 ep9 epa epb hm1 hm2 hm3 hm4 hm5 ⊢
        -- one of all
        have hX : Xes K G18 ss.length 3 (([x, y, V.ref p1, V.ref p3] ++ [V.ref p5, V.ref p7]) ++ [V.ref p9, V.ref pb]) := Xes.app (Xes.app (.cons (hxe.le (by decide)) (.cons (hye.le (by decide)) (.cons (ep1.le (by decide)) (.cons ep3 .nil)))) (.cons ep5 (.cons ep7 .nil))) (.cons ep9 (.cons epb .nil))
        have hLn : ([x, y, V.ref p1, V.ref p3] ++ [V.ref p5, V.ref p7]) ++ [V.ref p9, V.ref pb] ≠ [] := by simp
        have hLl : (([x, y, V.ref p1, V.ref p3] ++ [V.ref p5, V.ref p7]) ++ [V.ref p9, V.ref pb]).length ≤ 1000 := by show 8 ≤ 1000; decide
        generalize ([x, y, V.ref p1, V.ref p3] ++ [V.ref p5, V.ref p7]) ++ [V.ref p9, V.ref pb] = L5 at hm5 hX hLn hLl
        refine ⟨_, rfl, _, rfl, d, c, m5, _, L5, rfl, hB.dk, by omega, .inl (.inl (.inl hm5)), nm5d, nm5c, hLn, hLl, fun J1 iz z oz hDz hz => ?_⟩
        have hze := (hX z (List.mem_of_getElem? hz)).kpt (Kpt.off hB.dk oz)
        have hB := hB.off oz hDz
        refine ⟨by show 2 ≤ sizeLine; decide, fun t nt => ?_⟩
        have ut := same_new (o := .tup [.str "made", z]) nt
        have hB := hB.same ut
        have hze := hze.up ut
        have hw : ∃ w : Way, w.ok ss.length ∧ Dp K (upd J1 t (.tup [.str "made", z])) (.ref t) w.data := by
          obtain ⟨e, h1, h2⟩ := hze
          exact ⟨.made e, h1, dpT2 upd_same (.str _) h2⟩
        obtain ⟨wy, hw1, hw2⟩ := hw
        generalize upd J1 t (.tup [.str "made", z]) = J2 at hB hw2 ⊢
        refine ⟨_, rfl, _, rfl, D, xs, 0 + (i : Int), i, rfl, rfl, hB.hD, by rw [Int.zero_add]; exact ixN_nat (by rw [hwl]; exact hi), ?_⟩
        have kp : Kpt J2 (upd J2 D (.lst (xs.set i (.ref t)))) := Kpt.put hB.hD
        refine ⟨_, _, _, _, _, _, _, n' + 1 + 1 + 1 + 1 + 1 + 1, xs.set i (.ref t), rfl, ⟨fun b ob hb h1 h2 => ?_, ?_, upd_same, ?_, (hB.wy.kpt kp).put hi hw1 (dp_kpt kp _ _ (Way.tup wy) hw2), hB.n1, hB.n2, hB.n3, hB.n4⟩, by omega, by omega⟩
        · rw [upd_ne (ne_of_none hb nD)]
          exact hB.o b ob hb h1 h2
        · obtain ⟨ms, e1, e2, e3⟩ := hB.dk
          exact ⟨ms, by rw [upd_ne hDd.symm]; exact e1, by rw [upd_ne hDc.symm]; exact e2, e3⟩
        · rw [upd_ne hDD]
          exact hB.hK
    · obtain ⟨z3, z5, z6, z7, z8, z9, z10, n', xs, rfl, hB, hn1, hn2⟩ := hP
      obtain ⟨pl, e1, e2, e3⟩ := hB.wy.done
      refine ⟨_, rfl, D, xs, rfl, .inl ⟨.inl (.inl hB.hD), fun t nt => ?_⟩⟩
      have hB := hB.same (same_new (o := .tup xs) nt)
      exact q _ n' t pl hB.o hB.dk hn1 (by omega) ⟨e1, e2⟩ (.tup (.inl (.inl upd_same)) (dps_up (same_new nt) _ _ e3))
end
end K32
set_option maxHeartbeats 4000000
namespace K32
open PySem PySem.Spec PyProof.Rows L2 Sb
abbrev sLBack : Stmt := topS 25
abbrev sLKeys : Stmt := topS 26
abbrev sLFar : Stmt := topS 27
abbrev pLBack : List Str := ["_law_game_here", "_law_plan_here", "_law_old", "_law_now"]
abbrev pLKeys : List Str := ["_law_deck_here", "_law_game_here", "_law_many"]
abbrev pLFar : List Str := ["_law_game_here", "_law_world_here", "_law_keys_here"]
theorem scLBack : FnScope ["_law_game_here", "_law_plan_here", "_law_old", "_law_now", "_law_found", "_law_field"] pLBack (defScope sLBack) := ⟨rfl, rfl, rfl, by decide +kernel, rfl, by decide +kernel, by decide +kernel⟩
theorem scLKeys : FnScope ["_law_deck_here", "_law_game_here", "_law_many", "_law_k"] pLKeys (defScope sLKeys) := ⟨rfl, rfl, rfl, by decide +kernel, rfl, by decide +kernel, by decide +kernel⟩
theorem scLFar : FnScope ["_law_game_here", "_law_world_here", "_law_keys_here", "_law_key"] pLFar (defScope sLFar) := ⟨rfl, rfl, rfl, by decide +kernel, rfl, by decide +kernel, by decide +kernel⟩
section
variable {P : Program} {w : World} {K : PySem.W.Frag} {mg : Str → Option Value} {base : Heap}
theorem ok_lback {f fV : Addr} {fd fdV : FuncData} (DB : Dn K mg "_law_back" sLBack pLBack f fd) (DV : Dn K mg "_law_value" sVal pVal fV fdV) (m_isinstance : mg "isinstance" = none) (m_int : mg "int" = none) (m_str : mg "str" = none) (m_len : mg "len" = none) (m_range : mg "range" = none) (m_tuple : mg "tuple" = none) :
    FnOk P w K mg base CX0 5 f fd pLBack (spPBack K) := by
  have G__law_value : FnOk P w K mg base CX0 4 fV fdV pVal (spVal K 3) := ok_val DV m_isinstance m_int m_str 3
  obtain ⟨F__law_value, b__law_value, g__law_value⟩ := DV
  refine DB.F.ok scLBack (fun vs H Q E h => ?_) (fun cdv A outer s H vs Q E hr h => ?_)
  · obtain ⟨v, vp, g, pl, o, n, old, now, rfl, _⟩ := h
    rfl
  · obtain ⟨v, vp, g, pl, o, n, old, now, rfl, hd, hz, hpl, hok, ho, hWo, hn, hWn, q⟩ := h
    have nd := scLBack.nd
    have r__law_value := hr
    refine ⟨_, (pss_cons (ps_set (i := 4) nd rfl (Or.inl rfl) (pe_lst pa_nil))
      (pss_cons (ps_for PassesOwn.never rfl (pi_range1 (by rfl) m_range (pa_cons (pe_callB call_len_seq (by rfl) m_len (by decide +kernel) (pa_cons (pv 1) pa_nil)) pa_nil)) (pg_name (i := 5) nd rfl (Or.inl rfl))
      (pss_one (ps_if (pt_cmpR (op_eqD hr.units) (pe_ix (show IxR _ (rIx K) from ix_seq) (pv 1) (pv 5) (fun _ _ => rfl)) pe_str (nomark _))
      (pss_one (ps_expr (pe_bm PySem.F.plainAttrs_list PySem.F.slot_list_append PySem.F.type_list_append mt_append (pv 4) (pa_cons (pe_ix (show IxR _ (rIx K) from ix_seq) (pv 2) (pv 5) (fun _ _ => rfl)) pa_nil))))
      (pss_one (ps_if (pt_cmpR (op_eqD hr.units) (pe_ix (show IxR _ (rIx K) from ix_seq) (pv 1) (pv 5) (fun _ _ => rfl)) pe_str (nomark _))
      (pss_one (ps_expr (pe_bm PySem.F.plainAttrs_list PySem.F.slot_list_append PySem.F.type_list_append mt_append (pv 4) (pa_cons (pe_ix (show IxR _ (rIx K) from ix_seq) (pv 3) (pv 5) (fun _ _ => rfl)) pa_nil))))
      (pss_one (ps_expr (pe_bm PySem.F.plainAttrs_list PySem.F.slot_list_append PySem.F.type_list_append mt_append (pv 4) (pa_cons (pe_op op_mod (pe_callTy call_int1 (by rfl) m_int (by decide +kernel) (pa_cons (pe_call G__law_value r__law_value (by rfl) g__law_value F__law_value.kp b__law_value .nil pass0 (pa_cons (pe_ix (show IxR _ (rIx K) from ix_seq) (pe_ix (show IxR _ (rIx K) from ix_seq) (pv 1) (pv 5) (fun _ _ => rfl)) pe_int (fun _ _ => rfl)) (pa_cons (pv 2) (pa_cons pe_int pa_nil)))) pa_nil)) (pe_ix (show IxR _ (rIx K) from ix_seq) (pe_ix (show IxR _ (rIx K) from ix_seq) (pv 0) pe_int (fun _ _ => rfl)) (pv 5) (fun _ _ => rfl))) pa_nil)))))))))
      (pss_one (ps_ret (pe_callTy call_tuple_of (by rfl) m_tuple (by decide +kernel) (pa_cons (pv 4) pa_nil)))))), ?_⟩
    obtain ⟨pp, vs, rfl, hS, hA⟩ := dp_tup hpl
    have hvl := dps_len hA
    rw [List.length_map] at hvl
    have hpll := hok.len
    have hl4 := hz.len
    have hol := hWo.len
    have hnl := hWn.len
    refine ⟨by show 0 ≤ sizeLine; decide, fun D nD => ?_⟩
    have s0 := same_new (o := .lst []) nD
    refine ⟨_, rfl, pp, vs, rfl, .inr (seqT_up s0 hS), ?_⟩
    refine ⟨(vs.length : Int), rfl, by omega, by omega, for_range (n := vs.length) (fun i σ H' => ∃ (z5 : Option V), σ = [some v, some (.ref pp), some (.ref o), some (.ref n), some (.ref D), z5] ∧ Same H H' ∧ H' D = some (.lst ((backTo_ g.sizes pl old now i).map natV)))
      ⟨_, rfl, s0, upd_same⟩ (fun i σ H' hi hP => ?_) (fun σ H' hP => ?_)⟩
    · obtain ⟨z5, rfl, sm, hD⟩ := hP
      have hd' := dp_up sm _ _ hd
      have hS' := seqT_up sm hS
      have ho' := seqT_up sm ho
      have hn' := seqT_up sm hn
      obtain ⟨pg, v1, v2, v3, v4, rfl, hp, h1, h2, h3, h4⟩ := dp_t4 hd'
      obtain ⟨z, rfl, hzt⟩ := dp_nats h1
      obtain ⟨x, hx⟩ : ∃ x, vs[i]? = some x := ⟨vs[i]'(by omega), List.getElem?_eq_getElem _⟩
      obtain ⟨wy, hwy, hdw⟩ := dpall_way hA hx
      have hdw := dp_up sm _ _ hdw
      have hwo := hok.way wy (List.mem_of_getElem? hwy)
      have hat : atI vs (0 + (i : Int)) = some x := by rw [Int.zero_add]; exact atI_nat hx
      have fin : ∀ y : V, y = natV (backAt g.sizes old now i wy) → ∃ (z5 : Option V), [some (V.ref pg), some (.ref pp), some (.ref o), some (.ref n), some (.ref D), some (V.int (0 + (i : Int)))] = [some (V.ref pg), some (.ref pp), some (.ref o), some (.ref n), some (.ref D), z5] ∧ Same H (upd H' D (.lst ((backTo_ g.sizes pl old now i).map natV ++ [y]))) ∧ (upd H' D (.lst ((backTo_ g.sizes pl old now i).map natV ++ [y]))) D = some (.lst ((backTo_ g.sizes pl old now (i + 1)).map natV)) := fun y hy => by
        refine ⟨_, rfl, same_put sm nD, ?_⟩
        rw [upd_same, backTo_succ, List.map_append, getD_way hwy, hy]
        rfl
      have hsm : ((backTo_ g.sizes pl old now i).map natV).length < sizeLine := by
        rw [List.length_map, backTo_len]
        exact small1000 (by omega)
      refine ⟨_, rfl, _, rfl, .inr (.inl ⟨pp, _, _, _, rfl, rfl, hS', hat, ?_⟩)⟩
      refine ⟨wy.data, .str "kept", hdw, .str _, Way.shaped hwo, str_kept, ?_⟩
      match wy, hwy, hdw, hwo, fin with
      | .kept, hwy, hdw, hwo, fin =>
        refine ⟨true, by rfl, ?_⟩
        refine iteT ?_
        refine ⟨_, rfl, .inl ⟨rfl, _, .inl (.inl hD)⟩, _, rfl, _, rfl, .inr (.inl ⟨o, _, _, _, rfl, rfl, ho', by rw [Int.zero_add]; exact atI_natV (by omega), ?_⟩)⟩
        exact ⟨D, _, _, rfl, rfl, hD, hsm, fin _ rfl⟩
      | .stays, hwy, hdw, hwo, fin =>
        refine ⟨false, by rfl, ?_⟩
        refine iteF ?_
        refine ⟨_, rfl, _, rfl, .inr (.inl ⟨pp, _, _, _, rfl, rfl, hS', hat, ?_⟩)⟩
        refine ⟨(Way.stays).data, .str "stays", hdw, .str _, Way.shaped (w := .stays) hwo, str_stays, ?_⟩
        refine ⟨true, by rfl, ?_⟩
        refine iteT ?_
        refine ⟨_, rfl, .inl ⟨rfl, _, .inl (.inl hD)⟩, _, rfl, _, rfl, .inr (.inl ⟨n, _, _, _, rfl, rfl, hn', by rw [Int.zero_add]; exact atI_natV (by omega), ?_⟩)⟩
        exact ⟨D, _, _, rfl, rfl, hD, hsm, fin _ rfl⟩
      | .made e, hwy, hdw, hwo, fin =>
        have hdw0 := hdw
        obtain ⟨pw, w1, w2, rfl, hpw, hw1, hw2⟩ := dp_t2 hdw
        refine ⟨false, by rfl, ?_⟩
        refine iteF ?_
        refine ⟨_, rfl, _, rfl, .inr (.inl ⟨pp, _, _, _, rfl, rfl, hS', hat, ?_⟩)⟩
        refine ⟨(Way.made e).data, .str "stays", hdw0, .str _, Way.shaped hwo, str_stays, ?_⟩
        refine ⟨false, by rfl, ?_⟩
        refine iteF ?_
        refine ⟨_, rfl, .inl ⟨rfl, _, .inl (.inl hD)⟩, ?_⟩
        refine ⟨_, rfl, _, rfl, .inr (.inl ⟨pp, _, _, _, rfl, rfl, hS', hat, ?_⟩)⟩
        refine .inr (.inl ⟨pw, _, _, _, rfl, rfl, hpw, rfl, ?_⟩)
        refine ⟨_, rfl, w2, o, old, 0, false, e, rfl, hw2, .inr ho', by rw [hol]; exact hwo, ?_⟩
        refine .inl ⟨_, rfl, ?_⟩
        refine ⟨_, rfl, .inr (.inl ⟨pg, _, _, _, rfl, rfl, hp, rfl, ?_⟩)⟩
        refine ⟨_, rfl, .inr (.inl ⟨z, _, _, _, rfl, rfl, hzt, by rw [Int.zero_add]; exact atI_natV (by omega), ?_⟩)⟩
        have hgi : i < g.sizes.length := by omega
        have hp0 : 0 < g.sizes.getD i 0 := hz.pos _ (getD_mem hgi)
        refine ⟨_, _, rfl, rfl, by show (0 : Int) < ((g.sizes.getD i 0 : Nat) : Int); omega, ?_⟩
        have e2 : V.int (e.val old 0 % ((g.sizes.getD i 0 : Nat) : Int)) = natV (backAt g.sizes old now i (.made e)) := by
          unfold natV backAt
          rw [← getD_eq hgi, Int.toNat_of_nonneg (Int.emod_nonneg _ (by omega))]
        exact ⟨D, _, _, rfl, rfl, hD, hsm, fin _ e2⟩
    · obtain ⟨z5, rfl, sm, hD⟩ := hP
      refine ⟨_, rfl, D, _, rfl, .inl ⟨.inl (.inl hD), fun p2 np2 => ?_⟩⟩
      refine q _ p2 (sm.trans (same_new np2)) ?_
      rw [hvl]
      exact .inl (.inl upd_same)
theorem ok_lkeys {f fD : Addr} {fd fdD : FuncData} (DK : Dn K mg "_law_keys" sLKeys pLKeys f fd) (DD : Dn K mg "_law_draw" sDraw pDraw fD fdD) (m_len : mg "len" = none) (m_int : mg "int" = none) (m_range : mg "range" = none) (m_tuple : mg "tuple" = none) :
    FnOk P w K mg base CX0 2 f fd pLKeys (spLKeys K) := by
  have G__law_draw : FnOk P w K mg base CX0 1 fD fdD pDraw spDraw := ok_draw DD.F m_len m_int
  obtain ⟨F__law_draw, b__law_draw, g__law_draw⟩ := DD
  refine DK.F.ok scLKeys (fun vs H Q E h => ?_) (fun cdv A outer s H vs Q E hr h => ?_)
  · obtain ⟨d, c, v, n, m, g, rfl, _⟩ := h
    rfl
  · obtain ⟨d, c, v, n, m, g, rfl, hD, hn, hm, hd, hg, q⟩ := h
    have nd := scLKeys.nd
    have r__law_draw := hr
    refine ⟨_, (pss_one (ps_ret (pe_callTy call_tuple_of (by rfl) m_tuple (by decide +kernel) (pa_cons (pe_lc (own := [("_law_k", 3)]) (g := gName 3) (tt := tYes) (by rfl) nd (pi_range1 (by rfl) m_range (pa_cons (pv 2) pa_nil)) (blkOk_by (own := [("_law_k", 3)]) (N := ["_law_deck_here", "_law_game_here", "_law_many", "_law_k"]) (sc := defScope sLKeys) (by decide +kernel)) (fun _ _ _ _ _ => (pg_name (i := 3) nd rfl (Or.inl rfl))) (fun _ _ _ _ _ => pts_nil) (fun _ _ _ _ _ => (pe_call G__law_draw r__law_draw (by rfl) g__law_draw F__law_draw.kp b__law_draw .nil pass0 (pa_cons (pv 0) (pa_cons (pe_ix (show IxR _ (rIx K) from ix_seq) (pv 1) pe_int (fun _ _ => rfl)) pa_nil))))) pa_nil)))), ?_⟩
    refine ⟨_, rfl, (m : Int), rfl, by omega, by omega, fun D nD => ?_⟩
    obtain ⟨nsd, ed1, ed2, _⟩ := id hD
    have hDd : D ≠ d := (ne_of_none ed1 nD).symm
    have hDc : D ≠ c := (ne_of_none ed2 nD).symm
    have s0 := same_new (o := .lst []) nD
    have hk0 := hg.k0
    have hk3 := hg.k3
    refine lc_range (n := m) (fun i H' => ∃ ks : List Nat, Off d c H H' ∧ DeckAt H' d c (n + i) ∧ ks.length = i ∧ (∀ k ∈ ks, k < g.keys) ∧ H' D = some (.lst (ks.map natV)))
      ⟨[], off_same s0, hD.same s0, rfl, fun k hk => (by cases hk), upd_same⟩ (fun i H' hi hP => ?_) (fun H' hP => ?_)
    · obtain ⟨ks, o, dk, hkl, hkk, hl⟩ := hP
      have hd' := dp_kpt (Kpt.off hD o) _ _ (Game.tup g) hd
      obtain ⟨pg, v1, v2, v3, v4, rfl, hp, h1, h2, h3, h4⟩ := dp_t4 hd'
      obtain rfl := dp_int h2
      refine ⟨rfl, tYes_then ?_⟩
      refine ⟨_, rfl, _, rfl, .inr (.inl ⟨pg, _, _, _, rfl, rfl, hp, rfl, ?_⟩)⟩
      refine ⟨d, c, _, g.keys, rfl, dk, by omega, by omega, by omega, fun H2 kv o2 hD2 k0 k1 => ?_⟩
      obtain ⟨k', rfl⟩ := Int.eq_ofNat_of_zero_le k0
      refine ⟨ks.map natV, o2 _ _ hl hDd hDc, by rw [List.length_map]; exact small1000 (by omega), ks ++ [k'], fun b ob hb h1 h2 => ?_, ?_, by rw [List.length_append, List.length_singleton, hkl], ?_, ?_⟩
      · rw [upd_ne (ne_of_none hb nD)]
        exact (o.trans o2) b ob hb h1 h2
      · obtain ⟨ms, e1, e2, e3⟩ := hD2
        exact ⟨ms, by rw [upd_ne hDd.symm]; exact e1, by rw [upd_ne hDc.symm]; exact e2, e3⟩
      · intro x hx
        rcases List.mem_append.mp hx with hx | hx
        · exact hkk x hx
        · rw [List.mem_singleton] at hx
          omega
      · rw [upd_same, List.map_append]
        rfl
    · obtain ⟨ks, o, dk, hkl, hkk, hl⟩ := hP
      refine ⟨D, _, rfl, .inl ⟨.inl (.inl hl), fun t nt => ?_⟩⟩
      exact q _ t ks (o.trans (off_same (same_new nt))) (dk.same (same_new nt)) hkl hkk (.inl (.inl upd_same))
theorem ok_lfar {f fS : Addr} {fd fdS : FuncData} (DF : Dn K mg "_law_far" sLFar pLFar f fd) (DS : Dn K mg "_law_step" sStep pStep fS fdS) (G__law_step : FnOk P w K mg base CX0 14 fS fdS pStep (spStep K)) :
    FnOk P w K mg base CX0 15 f fd pLFar (spPBehind K) := by
  obtain ⟨F__law_step, b__law_step, g__law_step⟩ := DS
  refine DF.F.ok scLFar (fun vs H Q E h => ?_) (fun cdv A outer s H vs Q E hr h => ?_)
  · obtain ⟨v, w, t, g, ns, ks, rfl, _⟩ := h
    rfl
  · obtain ⟨v, w, t, g, ns, ks, rfl, hd, hg, hw, hW, ht, hk, hl, q⟩ := h
    have nd := scLFar.nd
    have r__law_step := hr
    refine ⟨_, (pss_cons (ps_for PassesOwn.never rfl (pi_tup (pv 2)) (pg_name (i := 3) nd rfl (Or.inl rfl))
      (pss_one (ps_set (i := 1) nd rfl (Or.inl rfl) (pe_call G__law_step r__law_step (by rfl) g__law_step F__law_step.kp b__law_step .nil pass0 (pa_cons (pv 0) (pa_cons (pv 1) (pa_cons (pv 3) pa_nil)))))))
      (pss_one (ps_ret (pv 1)))), ?_⟩
    have hz := hg.sz
    have hbl := hg.blk
    refine ⟨_, rfl, t, rfl, ⟨_, ht⟩, for_tup (xs := ks.map natV) (fun i σ H' => ∃ (z3 : Option V) (pu : Addr), σ = [some v, some (.ref pu), some (.ref t), z3] ∧ Same H H' ∧ SqT K H' pu ((g.far ns (ks.take i)).map natV) ∧ WorldOf g.sizes (g.far ns (ks.take i)))
      ⟨_, w, rfl, fun _ _ e => e, by rw [List.take_zero]; exact hw, by rw [List.take_zero]; exact hW⟩ (fun i σ H' _ hP => ?_) (fun i x σ H' hx hP => ?_) (fun σ H' hP => ?_)⟩
    · obtain ⟨z3, pu, rfl, sm, _⟩ := hP
      exact seqT_up sm ht
    · obtain ⟨z3, pu, rfl, sm, hpu, hWu⟩ := hP
      obtain ⟨kk, hkk', rfl⟩ : ∃ kk, ks[i]? = some kk ∧ x = natV kk := by
        rw [List.getElem?_map] at hx
        cases e : ks[i]? with
        | none => rw [e] at hx; cases hx
        | some kk => rw [e] at hx; cases hx; exact ⟨kk, rfl, rfl⟩
      have ef : g.far ns (ks.take (i + 1)) = g.step (g.far ns (ks.take i)) kk := by
        rw [List.take_succ, hkk']
        exact Game.far_snoc g _ _ _
      refine ⟨_, rfl, _, rfl, _, rfl, v, pu, g, _, kk, rfl, dp_up sm _ _ hd, hz, hbl, hpu, hWu, fun H2 p2 s2 _ e2 => ?_⟩
      refine ⟨_, p2, rfl, sm.trans s2, ?_, ?_⟩
      · rw [ef]
        exact .inl (.inl e2)
      · rw [ef]
        exact Game.step_world hbl hz.pos hWu kk
    · obtain ⟨z3, pu, rfl, sm, hpu, hWu⟩ := hP
      rw [List.length_map, List.take_length] at hpu
      exact ⟨_, rfl, q _ pu sm hpu⟩
end
end K32
set_option maxHeartbeats 4000000
namespace K32
open PySem PySem.Spec PyProof.Rows L2 Sb
abbrev sPVal : Stmt := topS 3
abbrev sPTru : Stmt := topS 4
abbrev pPVal : List Str := ["expression", "values", "key"]
abbrev pPTru : List Str := ["test", "values", "key"]
theorem scPVal : FnScope ["expression", "values", "key", "name", "right", "left"] pPVal (defScope sPVal) := ⟨rfl, rfl, rfl, by decide +kernel, rfl, by decide +kernel, by decide +kernel⟩
theorem scPTru : FnScope ["test", "values", "key", "left", "right"] pPTru (defScope sPTru) := ⟨rfl, rfl, rfl, by decide +kernel, rfl, by decide +kernel, by decide +kernel⟩
section
variable {P : Program} {w : World} {K : PySem.W.Frag} {mg : Str → Option Value} {base : Heap}
theorem ok_pval {f : Addr} {fd : FuncData} (DV : DnD K mg "value_of" sPVal [.non] pPVal f fd) (m_isinstance : mg "isinstance" = none) (m_tuple : mg "tuple" = none) :
    ∀ D, FnOk P w K mg base CX0 (D + 1) f fd pPVal (spPVal K D)
  | 0 => never fun _ _ _ _ z => z
  | D + 1 => by
    have G_value_of : FnOk P w K mg base CX0 (D + 1) f fd pPVal (spPVal K D) := ok_pval DV m_isinstance m_tuple D
    obtain ⟨F_value_of, b_value_of, bd_value_of, g_value_of⟩ := DV
    refine okD F_value_of scPVal (fun vs H Q E h => ?_) (fun cdv A outer s H vs Q E hr h => ?_)
    · obtain ⟨v, a, ns, k, wk, kv, e, rfl, _⟩ := h
      rfl
    · obtain ⟨v, a, ns, k, wk, kv, e, rfl, hkv, hd, hv, ok, hD, q⟩ := h
      have nd := scPVal.nd
      have r_value_of := hr
      refine ⟨_, (pss_cons (ps_if (pt_cmpR (op_eqD hr.units) (pv 0) pe_str (nomark _))
      (pss_one (ps_ret (pv 2)))
      pss_nil)
      (pss_cons (ps_if (pt_not (pt_val (pe_callB call_isi (by rfl) m_isinstance (by decide +kernel) (pa_cons (pv 0) (pa_cons (pe_bltn (v := .ty "tuple") (by rfl) m_tuple (by decide +kernel) rfl) pa_nil)))))
      (pss_one (ps_ret (pv 0)))
      pss_nil)
      (pss_cons (ps_set (i := 3) nd rfl (Or.inl rfl) (pe_ix ix_seq (pv 0) pe_int (fun _ _ => rfl)))
      (pss_cons (ps_if (pt_cmpR op_eq (pv 3) pe_str (nomark _))
      (pss_one (ps_ret (pe_ix ix_seq (pv 1) (pe_ix ix_seq (pv 0) pe_int (fun _ _ => rfl)) (fun _ _ => rfl))))
      pss_nil)
      (pss_cons (ps_set (i := 4) nd rfl (Or.inl rfl) (pe_call G_value_of r_value_of (by rfl) g_value_of F_value_of.kp b_value_of .nil pass0 (pa_cons (pe_ix ix_seq (pv 0) (pe_un un_neg pe_int) (fun _ _ => rfl)) (pa_cons (pv 1) (pa_cons (pv 2) pa_nil)))))
      (pss_cons (ps_if (pt_cmpR op_eq (pv 3) pe_str (nomark _))
      (pss_one (ps_ret (pe_op op_mul (pe_ix ix_seq (pv 0) pe_int (fun _ _ => rfl)) (pv 4))))
      pss_nil)
      (pss_cons (ps_set (i := 5) nd rfl (Or.inl rfl) (pe_call G_value_of r_value_of (by rfl) g_value_of F_value_of.kp b_value_of .nil pass0 (pa_cons (pe_ix ix_seq (pv 0) pe_int (fun _ _ => rfl)) (pa_cons (pv 1) (pa_cons (pv 2) pa_nil)))))
      (pss_cons (ps_if (pt_cmpR op_eq (pv 3) pe_str (nomark _))
      (pss_one (ps_ret (pe_op op_add (pv 5) (pv 4))))
      pss_nil)
      (pss_one (ps_ret (pe_op op_sub (pv 5) (pv 4)))))))))))), ?_⟩
      have it : PySem.W.kitOne K (.type "int") (.type "tuple") = some false := kit_ty (by decide +kernel)
      have tt : PySem.W.kitOne K (.type "tuple") (.type "tuple") = some true := kit_ty (by decide +kernel)
      refine ⟨_, rfl, e.data, .str "key", hd, .str _, Exp.shaped ok (by omega), key_shaped, ?_⟩
      match e, hd, ok, q with
      | .num i, hd, ok, q =>
        obtain rfl := dp_int hd
        refine ⟨false, rfl, ?_⟩
        refine iteF ?_
        refine ⟨_, rfl, _, _, _, _, false, rfl, .ty "tuple", .base (.int i), it, false, rfl, ?_⟩
        refine iteT ?_
        exact ⟨_, rfl, q⟩
      | .key, hd, ok, q =>
        have hk := hkv ok
        subst hk
        refine ⟨true, by rfl, ?_⟩
        refine iteT ?_
        exact ⟨_, rfl, q⟩
      | .fld fx, hd, ok, q =>
        obtain ⟨p, v1, v2, rfl, hp, h1, h2⟩ := dp_t2 hd
        obtain rfl := dp_str h1
        obtain rfl := dp_int h2
        refine ⟨false, rfl, ?_⟩
        refine iteF ?_
        refine ⟨_, rfl, _, _, _, _, true, rfl, .ty "tuple", tyx_tup hp, tt, true, rfl, ?_⟩
        refine iteF ?_
        refine ⟨_, rfl, .inr (.inl ⟨p, _, _, _, rfl, rfl, hp, rfl, ?_⟩)⟩
        refine ⟨_, rfl, rfl, _, rfl, ?_⟩
        refine iteT ?_
        refine ⟨_, rfl, _, rfl, .inr (.inl ⟨p, _, _, _, rfl, rfl, hp, rfl, ?_⟩)⟩
        have hx := atI_natV (ns := ns) (f := fx) ok
        rcases hv with hv | hv
        · exact .inl ⟨a, _, _, _, rfl, rfl, hv, hx, q⟩
        · exact .inr (.inl ⟨a, _, _, _, rfl, rfl, hv, hx, q⟩)
      | .times c x, hd, ok, q =>
        obtain ⟨p, v1, v2, v3, rfl, hp, h1, h2, h3⟩ := dp_t3 hd
        obtain rfl := dp_str h1
        obtain rfl := dp_int h2
        refine ⟨false, rfl, ?_⟩
        refine iteF ?_
        refine ⟨_, rfl, _, _, _, _, true, rfl, .ty "tuple", tyx_tup hp, tt, true, rfl, ?_⟩
        refine iteF ?_
        refine ⟨_, rfl, .inr (.inl ⟨p, _, _, _, rfl, rfl, hp, rfl, ?_⟩)⟩
        refine ⟨_, rfl, rfl, _, rfl, ?_⟩
        refine iteF ?_
        obtain ⟨D, rfl⟩ : ∃ D', D = D' + 1 := by
          cases D with
          | zero => exact (ok.2.2).elim
          | succ D => exact ⟨D, rfl⟩
        refine ⟨_, rfl, _, rfl, .inr (.inl ⟨p, _, _, _, rfl, rfl, hp, rfl, ?_⟩)⟩
        refine ⟨_, rfl, _, rfl, v3, a, ns, k, wk, kv, x, rfl, hkv, h3, hv, ok.2.2, by omega, ?_⟩
        refine ⟨_, rfl, rfl, _, rfl, ?_⟩
        refine iteT ?_
        refine ⟨_, rfl, .inr (.inl ⟨p, _, _, _, rfl, rfl, hp, rfl, ?_⟩)⟩
        refine ⟨_, rfl, _, _, rfl, rfl, .inl ?_, q⟩
        have := ok.1
        have := ok.2.1
        omega
      | .bin bo x y, hd, ok, q =>
        obtain ⟨p, v1, v2, v3, rfl, hp, h1, h2, h3⟩ := dp_t3 hd
        obtain rfl := dp_str h1
        refine ⟨false, rfl, ?_⟩
        refine iteF ?_
        refine ⟨_, rfl, _, _, _, _, true, rfl, .ty "tuple", tyx_tup hp, tt, true, rfl, ?_⟩
        refine iteF ?_
        obtain ⟨D, rfl⟩ : ∃ D', D = D' + 1 := by
          cases D with
          | zero => exact (ok.1).elim
          | succ D => exact ⟨D, rfl⟩
        refine ⟨_, rfl, .inr (.inl ⟨p, _, _, _, rfl, rfl, hp, rfl, ?_⟩)⟩
        cases bo with
        | true =>
          refine ⟨_, rfl, rfl, _, rfl, ?_⟩
          refine iteF ?_
          refine ⟨_, rfl, _, rfl, .inr (.inl ⟨p, _, _, _, rfl, rfl, hp, rfl, ?_⟩)⟩
          refine ⟨_, rfl, _, rfl, v3, a, ns, k, wk, kv, y, rfl, hkv, h3, hv, ok.2, by omega, ?_⟩
          refine ⟨_, rfl, rfl, _, rfl, ?_⟩
          refine iteF ?_
          refine ⟨_, rfl, .inr (.inl ⟨p, _, _, _, rfl, rfl, hp, rfl, ?_⟩)⟩
          refine ⟨_, rfl, _, rfl, v2, a, ns, k, wk, kv, x, rfl, hkv, h2, hv, ok.1, by omega, ?_⟩
          refine ⟨_, rfl, rfl, _, rfl, ?_⟩
          refine iteT ?_
          exact ⟨_, rfl, _, rfl, _, _, rfl, rfl, q⟩
        | false =>
          refine ⟨_, rfl, rfl, _, rfl, ?_⟩
          refine iteF ?_
          refine ⟨_, rfl, _, rfl, .inr (.inl ⟨p, _, _, _, rfl, rfl, hp, rfl, ?_⟩)⟩
          refine ⟨_, rfl, _, rfl, v3, a, ns, k, wk, kv, y, rfl, hkv, h3, hv, ok.2, by omega, ?_⟩
          refine ⟨_, rfl, rfl, _, rfl, ?_⟩
          refine iteF ?_
          refine ⟨_, rfl, .inr (.inl ⟨p, _, _, _, rfl, rfl, hp, rfl, ?_⟩)⟩
          refine ⟨_, rfl, _, rfl, v2, a, ns, k, wk, kv, x, rfl, hkv, h2, hv, ok.1, by omega, ?_⟩
          refine ⟨_, rfl, rfl, _, rfl, ?_⟩
          refine iteF ?_
          exact ⟨_, rfl, _, rfl, _, _, rfl, rfl, q⟩
theorem ok_ptru {f fV : Addr} {fd fdV : FuncData} (DT : Dn K mg "_is_true" sPTru pPTru f fd) (DV : DnD K mg "value_of" sPVal [.non] pPVal fV fdV) (m_isinstance : mg "isinstance" = none) (m_tuple : mg "tuple" = none) :
    ∀ n, FnOk P w K mg base CX0 (n + 5) f fd pPTru (spTru K n)
  | 0 => never fun _ _ _ _ z => z
  | n + 1 => by
    have G__is_true : FnOk P w K mg base CX0 (n + 5) f fd pPTru (spTru K n) := ok_ptru DT DV m_isinstance m_tuple n
    have G_value_of : FnOk P w K mg base CX0 4 fV fdV pPVal (spPVal K 3) := ok_pval DV m_isinstance m_tuple 3
    obtain ⟨F_value_of, b_value_of, bd_value_of, g_value_of⟩ := DV
    obtain ⟨F__is_true, b__is_true, g__is_true⟩ := DT
    refine F__is_true.ok scPTru (fun vs H Q E h => ?_) (fun cdv A outer s H vs Q E hr h => ?_)
    · obtain ⟨v, a, ns, k, t, rfl, _⟩ := h
      rfl
    · obtain ⟨v, a, ns, k, t, rfl, hd, hv, ok, q⟩ := h
      have nd := scPTru.nd
      have r_value_of := hr.mono (show 4 ≤ n + 5 by omega)
      have r__is_true := hr
      refine ⟨_, (pss_cons (ps_if (pt_cmpR op_eq (pe_ix ix_seq (pv 0) pe_int (fun _ _ => rfl)) pe_str (nomark _))
      (pss_one (ps_ret (pe_not (pe_call G__is_true r__is_true (by rfl) g__is_true F__is_true.kp b__is_true .nil pass0 (pa_cons (pe_ix ix_seq (pv 0) pe_int (fun _ _ => rfl)) (pa_cons (pv 1) (pa_cons (pv 2) pa_nil)))))))
      pss_nil)
      (pss_cons (ps_set (i := 3) nd rfl (Or.inl rfl) (pe_call G_value_of r_value_of (by rfl) g_value_of F_value_of.kp b_value_of .nil pass0 (pa_cons (pe_ix ix_seq (pv 0) pe_int (fun _ _ => rfl)) (pa_cons (pv 1) (pa_cons (pv 2) pa_nil)))))
      (pss_cons (ps_set (i := 4) nd rfl (Or.inl rfl) (pe_call G_value_of r_value_of (by rfl) g_value_of F_value_of.kp b_value_of .nil pass0 (pa_cons (pe_ix ix_seq (pv 0) pe_int (fun _ _ => rfl)) (pa_cons (pv 1) (pa_cons (pv 2) pa_nil)))))
      (pss_cons (ps_if (pt_cmpR op_eq (pe_ix ix_seq (pv 0) pe_int (fun _ _ => rfl)) pe_str (nomark _))
      (pss_one (ps_ret (pe_cmpR op_lt (pv 3) (pv 4) (nomark _))))
      pss_nil)
      (pss_one (ps_ret (pe_cmpR op_eq (pv 3) (pv 4) (nomark _)))))))), ?_⟩
      match t, hd, ok, q with
      | .not t, hd, ok, q =>
        obtain ⟨p, v1, v2, rfl, hp, h1, h2⟩ := dp_t2 hd
        obtain rfl := dp_str h1
        refine ⟨_, rfl, .inr (.inl ⟨p, _, _, _, rfl, rfl, hp, rfl, ?_⟩)⟩
        refine ⟨rfl, _, rfl, ?_⟩
        refine iteT ?_
        obtain ⟨n, rfl⟩ : ∃ n', n = n' + 1 := by
          cases n with
          | zero => rw [Tst.ok] at ok; exact ok.elim
          | succ n => exact ⟨n, rfl⟩
        refine ⟨_, rfl, .inr (.inl ⟨p, _, _, _, rfl, rfl, hp, rfl, ?_⟩)⟩
        refine ⟨_, rfl, _, rfl, v2, a, ns, k, t, rfl, h2, hv, ok, ?_⟩
        exact ⟨_, rfl, q⟩
      | .cmp b x y, hd, ok, q =>
        have okx : x.ok ns.length true 3 ∧ y.ok ns.length true 3 := by
          cases n with
          | zero => exact ok
          | succ n => exact ok
        obtain ⟨p, v1, v2, v3, rfl, hp, h1, h2, h3⟩ := dp_t3 hd
        obtain rfl := dp_str h1
        refine ⟨_, rfl, .inr (.inl ⟨p, _, _, _, rfl, rfl, hp, rfl, ?_⟩)⟩
        cases b with
        | true =>
          refine ⟨rfl, _, rfl, ?_⟩
          refine iteF ?_
          refine ⟨_, rfl, .inr (.inl ⟨p, _, _, _, rfl, rfl, hp, rfl, ?_⟩)⟩
          refine ⟨_, rfl, _, rfl, v2, a, ns, k, true, .int k, x, rfl, fun _ => rfl, h2, hv, okx.1, by decide, ?_⟩
          refine ⟨_, rfl, .inr (.inl ⟨p, _, _, _, rfl, rfl, hp, rfl, ?_⟩)⟩
          refine ⟨_, rfl, _, rfl, v3, a, ns, k, true, .int k, y, rfl, fun _ => rfl, h3, hv, okx.2, by decide, ?_⟩
          refine ⟨_, rfl, .inr (.inl ⟨p, _, _, _, rfl, rfl, hp, rfl, ?_⟩)⟩
          refine ⟨rfl, _, rfl, ?_⟩
          refine iteT ?_
          exact ⟨_, rfl, _, rfl, _, _, rfl, rfl, q⟩
        | false =>
          refine ⟨rfl, _, rfl, ?_⟩
          refine iteF ?_
          refine ⟨_, rfl, .inr (.inl ⟨p, _, _, _, rfl, rfl, hp, rfl, ?_⟩)⟩
          refine ⟨_, rfl, _, rfl, v2, a, ns, k, true, .int k, x, rfl, fun _ => rfl, h2, hv, okx.1, by decide, ?_⟩
          refine ⟨_, rfl, .inr (.inl ⟨p, _, _, _, rfl, rfl, hp, rfl, ?_⟩)⟩
          refine ⟨_, rfl, _, rfl, v3, a, ns, k, true, .int k, y, rfl, fun _ => rfl, h3, hv, okx.2, by decide, ?_⟩
          refine ⟨_, rfl, .inr (.inl ⟨p, _, _, _, rfl, rfl, hp, rfl, ?_⟩)⟩
          refine ⟨rfl, _, rfl, ?_⟩
          refine iteF ?_
          refine ⟨_, rfl, _, rfl, rfl, ?_⟩
          have e : decide (V.int (x.val ns k) = V.int (y.val ns k)) = decide (x.val ns k = y.val ns k) := by
            rw [decide_eq_decide]
            exact ⟨fun z => V.int.inj z, fun z => by rw [z]⟩
          have q : Q (.bl (decide (x.val ns k = y.val ns k))) H := q
          rw [← e] at q
          exact q
end
end K32
set_option maxHeartbeats 4000000
namespace K32
open PySem PySem.Spec PyProof.Rows L2 Sb
abbrev sPStep : Stmt := topS 1
abbrev pPStep : List Str := ["game", "world", "key"]
theorem scPStep : FnScope ["game", "world", "key", "sizes", "values", "waiting", "statement", "field", "chosen"] pPStep (defScope sPStep) := ⟨rfl, rfl, rfl, by decide +kernel, rfl, by decide +kernel, by decide +kernel⟩
section
variable {P : Program} {w : World} {K : PySem.W.Frag} {mg : Str → Option Value} {base : Heap}
theorem ok_pstepT {f fT fV : Addr} {fd fdT fdV : FuncData} (DS : Dn K mg "step" sPStep pPStep f fd) (DT : Dn K mg "_is_true" sPTru pPTru fT fdT) (DV : DnD K mg "value_of" sPVal [.non] pPVal fV fdV) (m_isinstance : mg "isinstance" = none) (m_list : mg "list" = none) (m_tuple : mg "tuple" = none) :
    FnOk P w K mg base CX0 9 f fd pPStep (spPStepT K) := by
  have G__is_true : FnOk P w K mg base CX0 8 fT fdT pPTru (spTru K 3) := ok_ptru DT DV m_isinstance m_tuple 3
  have G_value_of : FnOk P w K mg base CX0 4 fV fdV pPVal (spPVal K 3) := ok_pval DV m_isinstance m_tuple 3
  obtain ⟨F_value_of, b_value_of, bd_value_of, g_value_of⟩ := DV
  obtain ⟨F__is_true, b__is_true, g__is_true⟩ := DT
  refine DS.F.ok scPStep (fun vs H Q E h => ?_) (fun cdv A outer s H vs Q E hr h => ?_)
  · obtain ⟨v, w, g, ns, k, rfl, _⟩ := h
    rfl
  · obtain ⟨v, w, g, ns, k, rfl, hd, hg, hw, hW, hk, q⟩ := h
    have nd := scPStep.nd
    have r__is_true := hr
    have r_value_of := hr.mono (show 4 ≤ 8 by decide)
    refine ⟨_, (pss_cons (ps_set (i := 3) nd rfl (Or.inl rfl) (pe_ix ix_seq (pv 0) pe_int (fun _ _ => rfl)))
      (pss_cons (ps_set (i := 4) nd rfl (Or.inl rfl) (pe_callTy call_list_of (by rfl) m_list (by decide +kernel) (pa_cons (pv 1) pa_nil)))
      (pss_cons (ps_set (i := 5) nd rfl (Or.inl rfl) (pe_callTy call_list_of (by rfl) m_list (by decide +kernel) (pa_cons (pe_revT (pe_ix ix_seq (pv 0) pe_int (fun _ _ => rfl))) pa_nil)))
      (pss_cons (ps_while PassesOwn.never (pt_truth (pv 5) (by intro _; rfl))
      (pss_cons (ps_set (i := 6) nd rfl (Or.inl rfl) (pe_bm0 PySem.F.plainAttrs_list PySem.F.slot_list_pop PySem.F.type_list_pop mt_pop (pv 5)))
      (pss_cons (ps_if (pt_cmpR op_eq (pe_ix ix_seq (pv 6) pe_int (fun _ _ => rfl)) pe_str (nomark _))
      (pss_one ps_break)
      pss_nil)
      (pss_one (ps_if (pt_cmpR op_eq (pe_ix ix_seq (pv 6) pe_int (fun _ _ => rfl)) pe_str (nomark _))
      (pss_cons (ps_set (i := 7) nd rfl (Or.inl rfl) (pe_ix ix_seq (pv 6) pe_int (fun _ _ => rfl)))
      (pss_one (ps_asg (pe_op op_mod (pe_call G_value_of r_value_of (by rfl) g_value_of F_value_of.kp b_value_of .nil pass0 (pa_cons (pe_ix ix_seq (pv 6) pe_int (fun _ _ => rfl)) (pa_cons (pv 4) (pa_cons (pv 2) pa_nil)))) (pe_ix ix_seq (pv 3) (pv 7) (fun _ _ => rfl))) (pg_sub (pv 4) (pv 7) set_list))))
      (pss_cons (ps_set (i := 8) nd rfl (Or.inl rfl) (pe_ifExp (pt_val (pe_call G__is_true r__is_true (by rfl) g__is_true F__is_true.kp b__is_true .nil pass0 (pa_cons (pe_ix ix_seq (pv 6) pe_int (fun _ _ => rfl)) (pa_cons (pv 4) (pa_cons (pv 2) pa_nil))))) (pe_ix ix_seq (pv 6) pe_int (fun _ _ => rfl)) (pe_ix ix_seq (pv 6) pe_int (fun _ _ => rfl))))
      (pss_one (ps_expr (pe_bm PySem.F.plainAttrs_list PySem.F.slot_list_extend PySem.F.type_list_extend mt_extendT (pv 5) (pa_cons (pe_revT (pv 8)) pa_nil))))))))))
      (pss_one (ps_ret (pe_callTy call_tuple_of (by rfl) m_tuple (by decide +kernel) (pa_cons (pv 4) pa_nil)))))))), ?_⟩
    obtain ⟨p, v1, v2, v3, v4, rfl, hp, h1, h2, h3, h4⟩ := dp_t4 hd
    obtain ⟨z, rfl, hz⟩ := dp_nats h1
    obtain ⟨pb, vs, rfl, hS, hA⟩ := dp_tup h4
    have hbl := dps_len hA
    rw [blkData_length] at hbl
    have hbc := len_cnt g.blk
    have hcnt := hg.cnt
    have hpos := hg.sz.pos
    refine ⟨_, rfl, .inr (.inl ⟨p, _, _, _, rfl, rfl, hp, rfl, ?_⟩)⟩
    refine ⟨_, rfl, w, _, rfl, .inr hw, fun a na => ?_⟩
    have s1 := same_new (o := .lst (ns.map natV)) na
    refine ⟨_, rfl, .inr (.inl ⟨p, _, _, _, rfl, rfl, seqT_up s1 hp, rfl, pb, vs, rfl, seqT_up s1 hS, fun t nt => ?_⟩)⟩
    have s2 := same_new (o := .tup vs.reverse) nt
    refine ⟨t, _, rfl, .inr (.inl (.inl upd_same)), fun l nl => ?_⟩
    have s3 := same_new (o := .lst vs.reverse) nl
    have sA := (s1.trans s2).trans s3
    have ha : (upd (upd (upd H a (.lst (ns.map natV))) t (.tup vs.reverse)) l (.lst vs.reverse)) a = some (.lst (ns.map natV)) := s3 _ _ (s2 _ _ upd_same)
    have hl : (upd (upd (upd H a (.lst (ns.map natV))) t (.tup vs.reverse)) l (.lst vs.reverse)) l = some (.lst vs.reverse) := upd_same
    have hal : a ≠ l := ne_of_none (s2 _ _ upd_same) nl
    have nl0 : H l = none := (s1.trans s2).free nl
    generalize upd (upd (upd H a _) t _) l _ = H1 at sA ha hl ⊢
    have hz := seqT_up sA hz
    have hA := dps_up sA _ _ hA
    clear s1 s2 s3 nt nl hp hS h2 h3 h4 hd h1
    refine ⟨fun m σ H' => ∃ (z6 z7 z8 : Option V) (vs' : List V) (r : List Sta) (ns' : List Nat), σ = [some (.ref p), some (.ref w), some (.int k), some (.ref z), some (.ref a), some (.ref l), z6, z7, z8] ∧ But [a, l] H1 H' ∧ H' a = some (.lst (ns'.map natV)) ∧ H' l = some (.lst vs'.reverse) ∧ DpAll K H' vs' (blkData r) ∧
        blkOk g.sizes.length 3 r ∧ blkCnt r = m ∧ m ≤ 16 ∧ WorldOf g.sizes ns' ∧ (blkRun g.sizes k r ns').2 = g.step ns k,
      ⟨_, _, _, _, vs, g.blk, ns, rfl, But.refl _ _, ha, hl, hA, hg.blk, rfl, hcnt, hW, rfl⟩, fun m σ H' hP => ?_⟩
    obtain ⟨z6, y7, z8, vs', r, ns', rfl, bt, ha', hl', hA', hok, hm, hm16, hW', he⟩ := hP
    have hwl := hW'.len
    have kp : Kpt H1 H' := Kpt.but bt (fun x hx => by
      simp only [List.mem_cons, List.not_mem_nil, or_false] at hx
      rcases hx with rfl | rfl
      · exact ⟨_, ha⟩
      · exact ⟨_, hl⟩)
    have hz' := seqT_kpt kp hz
    have fin : ∀ (H2 : Hp) (ns2 : List Nat), But [a, l] H1 H2 → H2 a = some (.lst (ns2.map natV)) → ns2 = g.step ns k → ∀ p2, H2 p2 = none → Q (.ref p2) (upd H2 p2 (.tup (ns2.map natV))) := fun H2 ns2 bt2 ha2 e2 p2 np2 => by
      subst e2
      have sB : Same H H2 := fun b o hb => bt2 b o (sA b o hb) (by
        simp only [List.mem_cons, List.not_mem_nil, or_false, not_or]
        exact ⟨ne_of_none hb na, ne_of_none hb nl0⟩)
      exact q _ p2 (sB.trans (same_new np2)) upd_same
    match r, hA', hok, hm, he with
    | [], hA', hok, hm, he =>
      rw [blkData] at hA'
      obtain rfl := dps_none hA'
      refine ⟨_, rfl, false, .inl ⟨_, .inl (.inl hl'), rfl⟩, ?_⟩
      refine iteF ?_
      rw [blkRun] at he
      exact ⟨_, rfl, a, _, rfl, .inl ⟨.inl (.inl ha'), fin H' ns' bt ha' he⟩⟩
    | st :: r, hA', hok, hm, he =>
      rw [blkData] at hA'
      obtain ⟨v, vs', rfl, hv, hA'⟩ := dps_uncons hA'
      rw [blkOk] at hok
      rw [List.reverse_cons] at hl'
      refine ⟨_, rfl, true, .inl ⟨_, .inl (.inl hl'), by simp⟩, ?_⟩
      refine iteT ?_
      rw [blkCnt] at hm
      refine ⟨fun σ' H2 => ∃ m', m' < m ∧ ∃ (z6 z7 z8 : Option V) (vs' : List V) (r : List Sta) (ns' : List Nat), σ' = [some (.ref p), some (.ref w), some (.int k), some (.ref z), some (.ref a), some (.ref l), z6, z7, z8] ∧ But [a, l] H1 H2 ∧ H2 a = some (.lst (ns'.map natV)) ∧ H2 l = some (.lst vs'.reverse) ∧ DpAll K H2 vs' (blkData r) ∧
        blkOk g.sizes.length 3 r ∧ blkCnt r = m' ∧ m' ≤ 16 ∧ WorldOf g.sizes ns' ∧ (blkRun g.sizes k r ns').2 = g.step ns k, fun σ' H2 h => h, ?_⟩
      refine ⟨_, rfl, .inl ⟨rfl, _, .inl (.inl hl')⟩, l, _, v, rfl, rfl, hl', by simp, ?_⟩
      rw [List.dropLast_concat]
      have kp2 : Kpt H' (upd H' l (.lst vs'.reverse)) := Kpt.put hl'
      have bt2 : But [a, l] H1 (upd H' l (.lst vs'.reverse)) := bt.trans (But.put _ (by simp))
      have ha2 : (upd H' l (.lst vs'.reverse)) a = some (.lst (ns'.map natV)) := by rw [upd_ne hal]; exact ha'
      have hl2 : (upd H' l (.lst vs'.reverse)) l = some (.lst vs'.reverse) := upd_same
      have hv2 := dp_kpt kp2 _ _ (Sta.tup st) hv
      have hA2 := dps_kpt kp2 _ _ (blk_tup r) hA'
      have hz2 := seqT_kpt kp2 hz'
      generalize upd H' l (.lst vs'.reverse) = H2 at bt2 ha2 hl2 hv2 hA2 hz2 ⊢
      clear kp2 hv hA' hl' ha' bt hz' kp
      match st, hv2, hok, hm, he with
      | .stop, hv2, hok, hm, he =>
        rw [Sta.data] at hv2
        obtain ⟨pr, v1, rfl, hp, h1⟩ := dp_t1 hv2
        obtain rfl := dp_str h1
        refine ⟨_, rfl, .inr (.inl ⟨pr, _, _, _, rfl, rfl, hp, rfl, ?_⟩)⟩
        refine ⟨rfl, _, rfl, ?_⟩
        refine iteT ?_
        rw [run_stop] at he
        exact ⟨_, rfl, a, _, rfl, .inl ⟨.inl (.inl ha2), fin H2 ns' bt2 ha2 he⟩⟩
      | .set fx e, hv2, hok, hm, he =>
        rw [Sta.data] at hv2
        obtain ⟨pr, v1, v2, v3, rfl, hp, h1, h2, h3⟩ := dp_t3 hv2
        obtain rfl := dp_str h1
        obtain rfl := dp_int h2
        have okst : fx < g.sizes.length ∧ e.ok g.sizes.length true 3 := by
          have := hok.1
          rw [Sta.ok] at this
          exact this
        refine ⟨_, rfl, .inr (.inl ⟨pr, _, _, _, rfl, rfl, hp, rfl, ?_⟩)⟩
        refine ⟨rfl, _, rfl, ?_⟩
        refine iteF ?_
        refine ⟨_, rfl, .inr (.inl ⟨pr, _, _, _, rfl, rfl, hp, rfl, ?_⟩)⟩
        refine ⟨rfl, _, rfl, ?_⟩
        refine iteT ?_
        refine ⟨_, rfl, .inr (.inl ⟨pr, _, _, _, rfl, rfl, hp, rfl, ?_⟩)⟩
        refine ⟨_, rfl, .inr (.inl ⟨pr, _, _, _, rfl, rfl, hp, rfl, ?_⟩)⟩
        refine ⟨_, rfl, _, rfl, v3, a, ns', k, true, .int k, e, rfl, fun _ => rfl, h3, Vls.but ha2, by rw [hwl]; exact okst.2, by decide, ?_⟩
        refine ⟨_, rfl, _, rfl, .inr (.inl ⟨z, _, _, _, rfl, rfl, hz2, atI_natV okst.1, ?_⟩)⟩
        have hp0 : 0 < g.sizes.getD fx 0 := hpos _ (getD_mem okst.1)
        refine ⟨_, _, rfl, rfl, by show (0 : Int) < ((g.sizes.getD fx 0 : Nat) : Int); omega, ?_⟩
        refine ⟨_, rfl, _, rfl, ?_⟩
        refine ⟨a, _, _, fx, rfl, rfl, ha2, ixN_nat (by rw [List.length_map, hwl]; exact okst.1), ?_⟩
        rw [run_set] at he
        rw [Sta.cnt] at hm
        have hv0 : 0 ≤ e.val ns' k % ((g.sizes.getD fx 0 : Nat) : Int) := Int.emod_nonneg _ (by omega)
        have kp3 : Kpt H2 (upd H2 a (.lst ((ns'.map natV).set fx (V.int (e.val ns' k % ((g.sizes.getD fx 0 : Nat) : Int)))))) := Kpt.put ha2
        refine ⟨_, Nat.lt_of_lt_of_eq (Nat.lt_add_of_pos_left (show 0 < 1 by decide)) hm, _, _, _, vs', r, ns'.set fx (e.val ns' k % ((g.sizes.getD fx 1 : Nat) : Int)).toNat, rfl, bt2.trans (But.put _ (by simp)), ?_, ?_, dps_kpt kp3 _ _ (blk_tup r) hA2, hok.2, rfl, by omega, set_world hW' okst.1 hpos, he⟩
        · rw [upd_same, map_set_natV hv0, getD_eq okst.1]
        · rw [upd_ne hal.symm]
          exact hl2
      | .ite t y n, hv2, hok, hm, he =>
        rw [Sta.data] at hv2
        obtain ⟨pr, v1, v2, v3, v4, rfl, hp, h1, h2, h3, h4⟩ := dp_t4 hv2
        obtain rfl := dp_str h1
        have okst := hok.1
        rw [Sta.ok] at okst
        refine ⟨_, rfl, .inr (.inl ⟨pr, _, _, _, rfl, rfl, hp, rfl, ?_⟩)⟩
        refine ⟨rfl, _, rfl, ?_⟩
        refine iteF ?_
        refine ⟨_, rfl, .inr (.inl ⟨pr, _, _, _, rfl, rfl, hp, rfl, ?_⟩)⟩
        refine ⟨rfl, _, rfl, ?_⟩
        refine iteF ?_
        refine ⟨_, rfl, .inr (.inl ⟨pr, _, _, _, rfl, rfl, hp, rfl, ?_⟩)⟩
        refine ⟨_, rfl, _, rfl, v2, a, ns', k, t, rfl, h2, Vls.but ha2, by rw [hwl]; exact okst.1, _, rfl, ?_⟩
        rw [run_ite2] at he
        rw [Sta.cnt] at hm
        have fin2 : ∀ (vb : V) (bb : List Sta), Dp K H2 vb (.tuple (blkData bb)) → bb = (if t.val ns' k then y else n) → blkOk g.sizes.length 2 bb → blkCnt bb ≤ blkCnt y + blkCnt n → ∃ a1 xs1, vb = .ref a1 ∧ SqT K H2 a1 xs1 ∧ ∀ p5, H2 p5 = none →
            ∃ l5 b5 xs5 zs5, V.ref l = .ref l5 ∧ [V.ref p5] = [.ref b5] ∧ (upd H2 p5 (.tup xs1.reverse)) l5 = some (.lst xs5) ∧ SqT K (upd H2 p5 (.tup xs1.reverse)) b5 zs5 ∧ xs5.length + zs5.length ≤ sizeLine ∧
              ∃ m', m' < m ∧ ∃ (z6 z7 z8 : Option V) (vs' : List V) (r : List Sta) (ns' : List Nat), [some (V.ref p), some (.ref w), some (.int k), some (.ref z), some (.ref a), some (.ref l), some (.ref pr), y7, some vb] = [some (.ref p), some (.ref w), some (.int k), some (.ref z), some (.ref a), some (.ref l), z6, z7, z8] ∧ But [a, l] H1 (upd (upd H2 p5 (.tup xs1.reverse)) l5 (.lst (xs5 ++ zs5))) ∧ (upd (upd H2 p5 (.tup xs1.reverse)) l5 (.lst (xs5 ++ zs5))) a = some (.lst (ns'.map natV)) ∧ (upd (upd H2 p5 (.tup xs1.reverse)) l5 (.lst (xs5 ++ zs5))) l = some (.lst vs'.reverse) ∧ DpAll K (upd (upd H2 p5 (.tup xs1.reverse)) l5 (.lst (xs5 ++ zs5))) vs' (blkData r) ∧
                blkOk g.sizes.length 3 r ∧ blkCnt r = m' ∧ m' ≤ 16 ∧ WorldOf g.sizes ns' ∧ (blkRun g.sizes k r ns').2 = g.step ns k := by
          intro vb bb hb eb hob hcb
          obtain ⟨a1, xs1, rfl, hS1, hA1⟩ := dp_tup hb
          have hl1 := dps_len hA1
          have hl3 := dps_len hA2
          rw [blkData_length] at hl1 hl3
          have c1 := len_cnt bb
          have c2 := len_cnt r
          refine ⟨a1, xs1, rfl, hS1, fun p5 n5 => ?_⟩
          have s5 := same_new (o := .tup xs1.reverse) n5
          have kp5 : Kpt (upd H2 p5 (.tup xs1.reverse)) (upd (upd H2 p5 (.tup xs1.reverse)) l (.lst (vs'.reverse ++ xs1.reverse))) := Kpt.put (s5 _ _ hl2)
          refine ⟨l, p5, _, _, rfl, rfl, s5 _ _ hl2, .inl (.inl upd_same), ?_, ?_⟩
          · rw [List.length_reverse, List.length_reverse]
            exact Nat.le_of_lt (small1000 (by omega))
          refine ⟨_, ?_, _, _, _, xs1 ++ vs', bb ++ r, ns', rfl, (bt2.trans (But.same s5)).trans (But.put _ (by simp)), ?_, ?_, ?_, ?_, rfl, ?_, hW', ?_⟩
          · rw [blkCnt_append]; omega
          · rw [upd_ne hal]
            exact s5 _ _ ha2
          · rw [upd_same, List.reverse_append]
          · rw [blkData_append]
            exact dps_append (dps_kpt kp5 _ _ (blk_tup bb) (dps_up s5 _ _ hA1)) (dps_kpt kp5 _ _ (blk_tup r) (dps_up s5 _ _ hA2))
          · exact blkOk_append (blkOk_up _ _ hob) hok.2
          · rw [blkCnt_append]; omega
          · rw [eb]; exact he
        refine ite2 (fun c => ?_) (fun c => ?_)
        · refine ⟨_, rfl, .inr (.inl ⟨pr, _, _, _, rfl, rfl, hp, rfl, ?_⟩)⟩
          refine ⟨_, rfl, .inl ⟨rfl, _, .inl (.inl hl2)⟩, _, rfl, ?_⟩
          exact fin2 v3 y h3 (by rw [if_pos c]) okst.2.1.2 (Nat.le_add_right _ _)
        · refine ⟨_, rfl, .inr (.inl ⟨pr, _, _, _, rfl, rfl, hp, rfl, ?_⟩)⟩
          refine ⟨_, rfl, .inl ⟨rfl, _, .inl (.inl hl2)⟩, _, rfl, ?_⟩
          exact fin2 v4 n h4 (by rw [if_neg c]) okst.2.2.2 (Nat.le_add_left _ _)
theorem ok_pstep {f fT fV : Addr} {fd fdT fdV : FuncData} (DS : Dn K mg "step" sPStep pPStep f fd) (DT : Dn K mg "_is_true" sPTru pPTru fT fdT) (DV : DnD K mg "value_of" sPVal [.non] pPVal fV fdV) (m_isinstance : mg "isinstance" = none) (m_list : mg "list" = none) (m_tuple : mg "tuple" = none) :
    FnOk P w K mg base CX0 9 f fd pPStep (spPStep K) := (ok_pstepT DS DT DV m_isinstance m_list m_tuple).imp fun vs H Q E ⟨v, w, g, ns, k, e, hd, hg, hw, hW, hk, q⟩ => ⟨v, w, g, ns, k, e, hd, hg, hw, hW, hk, fun H' p s h => q H' p s (.inl (.inl h))⟩
end
end K32
set_option maxHeartbeats 4000000
namespace K32
open PySem PySem.Spec PyProof.Rows L2 Sb
abbrev sPWalk : Stmt := topS 2
abbrev pPWalk : List Str := ["game", "world", "keys"]
theorem scPWalk : FnScope ["game", "world", "keys", "worlds", "key"] pPWalk (defScope sPWalk) := ⟨rfl, rfl, rfl, by decide +kernel, rfl, by decide +kernel, by decide +kernel⟩
section
variable {P : Program} {w : World} {K : PySem.W.Frag} {mg : Str → Option Value} {base : Heap}
theorem ok_pwalk {f fS : Addr} {fd fdS : FuncData} (DW : Dn K mg "walk" sPWalk pPWalk f fd) (DS : Dn K mg "step" sPStep pPStep fS fdS) (G_step : FnOk P w K mg base CX0 9 fS fdS pPStep (spPStep K)) (m_tuple : mg "tuple" = none) :
    FnOk P w K mg base CX0 10 f fd pPWalk (spPWalk K) := by
  obtain ⟨F_step, b_step, g_step⟩ := DS
  refine DW.F.ok scPWalk (fun vs H Q E h => ?_) (fun cdv A outer s H vs Q E hr h => ?_)
  · obtain ⟨v, w, t, g, ns, ks, rfl, _⟩ := h
    rfl
  · obtain ⟨v, w, t, g, ns, ks, rfl, hd, hg, hw, hW, ht, hk, hlen, q⟩ := h
    have nd := scPWalk.nd
    have r_step := hr
    have hbl := hg.blk
    have hpos := hg.sz.pos
    refine ⟨_, (pss_cons (ps_set (i := 3) nd rfl (Or.inl rfl) (pe_lst (pa_cons (pv 1) pa_nil)))
      (pss_cons (ps_for PassesOwn.never rfl (pi_tup (pv 2)) (pg_name (i := 4) nd rfl (Or.inl rfl))
      (pss_one (ps_expr (pe_bm PySem.F.plainAttrs_list PySem.F.slot_list_append PySem.F.type_list_append mt_append (pv 3) (pa_cons (pe_call G_step r_step (by rfl) g_step F_step.kp b_step .nil pass0 (pa_cons (pv 0) (pa_cons (pe_ix ix_seq (pv 3) (pe_un un_neg pe_int) (fun _ _ => rfl)) (pa_cons (pv 4) pa_nil)))) pa_nil)))))
      (pss_one (ps_ret (pe_callTy call_tuple_of (by rfl) m_tuple (by decide +kernel) (pa_cons (pv 3) pa_nil)))))), ?_⟩
    refine ⟨_, rfl, by show 1 ≤ sizeLine; decide, fun l nl => ?_⟩
    have s1 := same_new (o := .lst [.ref w]) nl
    have hd1 := dp_up s1 _ _ hd
    have dw := dp_up s1 _ _ (dp_world hw)
    have ht1 := seqT_up s1 ht
    refine ⟨_, rfl, t, rfl, ⟨_, ht1⟩, for_tup (xs := ks.map natV) (fun i σ H' => ∃ (z4 : Option V) (vs : List V) (us : List (List Nat)) (u : List Nat) (pu : Addr), σ = [some v, some (.ref w), some (.ref t), some (.ref l), z4] ∧ But [l] (upd H l (.lst [.ref w])) H' ∧ H' l = some (.lst (vs ++ [.ref pu])) ∧ DpAll K H' (vs ++ [.ref pu]) (us.map worldD ++ [worldD u]) ∧ g.walk ns (ks.take i) = us ++ [u])
      ⟨_, [], [], ns, w, rfl, But.refl _ _, upd_same, .cons dw .nil, by rw [List.take_zero, Game.walk]; rfl⟩ (fun i σ H' _ hP => ?_) (fun i x σ H' hx hP => ?_) (fun σ H' hP => ?_)⟩
    · obtain ⟨z4, vs, us, u, pu, _, bt, hl, _⟩ := hP
      exact seqT_kpt (Kpt.one bt upd_same) ht1
    · obtain ⟨z4, vs, us, u, pu, rfl, bt, hl, hA, hwk⟩ := hP
      have kp := Kpt.one bt upd_same
      obtain ⟨kk, hkk', rfl⟩ : ∃ kk, ks[i]? = some kk ∧ x = natV kk := by
        rw [List.getElem?_map] at hx
        cases e : ks[i]? with
        | none => rw [e] at hx; cases hx
        | some kk => rw [e] at hx; cases hx; exact ⟨kk, rfl, rfl⟩
      have hi' : i < ks.length := (List.getElem?_eq_some_iff.mp hkk').1
      have hWu : WorldOf g.sizes u := Game.walk_world hbl hpos (ks.take i) ns hW u (by rw [hwk]; simp)
      obtain ⟨pu', e', hpu⟩ := world_dp (dpall_last hA)
      cases e'
      have hul : us.length ≤ 400 := by
        have := congrArg List.length hwk
        rw [Game.walk_len, List.length_append, List.length_singleton, List.length_take] at this
        omega
      have hvl := dps_len hA
      rw [List.length_append, List.length_append, List.length_map, List.length_singleton, List.length_singleton] at hvl
      refine ⟨_, rfl, .inl ⟨rfl, _, .inl (.inl hl)⟩, ?_⟩
      refine ⟨_, rfl, _, rfl, _, rfl, .inl ⟨l, _, _, _, rfl, rfl, .inl (.inl hl), atI_last, ?_⟩⟩
      refine ⟨_, rfl, v, pu, g, u, kk, rfl, dp_kpt kp _ _ (Game.tup g) hd1, hg, hpu, hWu, hk kk (List.mem_of_getElem? hkk'), fun H2 p2 s2 e2 => ?_⟩
      have hl2 := s2 _ _ hl
      have hA2 := dps_up s2 _ _ hA
      refine ⟨l, _, _, rfl, rfl, hl2, ?_, ?_⟩
      · rw [List.length_append, List.length_singleton]
        exact small1000 (by omega)
      have kp2 : Kpt H2 (upd H2 l (.lst (vs ++ [.ref pu] ++ [.ref p2]))) := Kpt.put hl2
      refine ⟨_, vs ++ [.ref pu], us ++ [u], g.step u kk, p2, rfl, (bt.trans (But.same s2)).trans (But.put _ (by simp)), upd_same, ?_, ?_⟩
      · have hA3 := dps_kpt kp2 _ _ (by rw [← List.map_singleton (f := worldD), ← List.map_append]; exact worldDs_tup _) hA2
        have d3 := dp_kpt kp2 _ _ (worldD_tup _) (dp_world (K := K) e2)
        rw [List.map_append]
        exact dps_snoc d3 hA3
      · rw [List.take_succ, hkk']
        exact walk_snoc hwk
    · obtain ⟨z4, vs, us, u, pu, rfl, bt, hl, hA, hwk⟩ := hP
      rw [List.length_map, List.take_length] at hwk
      refine ⟨_, rfl, l, _, rfl, .inl ⟨.inl (.inl hl), fun p2 np2 => ?_⟩⟩
      have s2 := same_new (o := .tup (vs ++ [.ref pu])) np2
      have sA : Same H H' := fun b o hb => bt b o (s1 b o hb) (by
        rw [List.mem_singleton]
        exact ne_of_none hb nl)
      refine q _ p2 (sA.trans s2) ?_
      rw [hwk, List.map_append]
      exact .tup (.inl (.inl upd_same)) (dps_up s2 _ _ hA)
end
end K32
set_option maxHeartbeats 4000000
namespace K32
open PySem PySem.Spec PyProof.Rows L2 Sb
abbrev sPVB : Stmt := topS 9
abbrev sPBack : Stmt := topS 6
abbrev sPBehind : Stmt := topS 8
abbrev sPTried : Stmt := topS 7
abbrev pPVB : List Str := ["game", "way", "field", "old", "now"]
abbrev pPBack : List Str := ["game", "plan", "old", "now"]
abbrev pPBehind : List Str := ["game", "world", "keys"]
abbrev pPTried : List Str := ["game", "plan", "ahead", "guessed", "keys"]
theorem scPVB : FnScope ["game", "way", "field", "old", "now"] pPVB (defScope sPVB) := ⟨rfl, rfl, rfl, by decide +kernel, rfl, by decide +kernel, by decide +kernel⟩
theorem scPBack : FnScope ["game", "plan", "old", "now", "field", "way"] pPBack (defScope sPBack) := ⟨rfl, rfl, rfl, by decide +kernel, rfl, by decide +kernel, by decide +kernel⟩
theorem scPBehind : FnScope ["game", "world", "keys"] pPBehind (defScope sPBehind) := ⟨rfl, rfl, rfl, by decide +kernel, rfl, by decide +kernel, by decide +kernel⟩
theorem scPTried : FnScope ["game", "plan", "ahead", "guessed", "keys", "old", "now", "back"] pPTried (defScope sPTried) := ⟨rfl, rfl, rfl, by decide +kernel, rfl, by decide +kernel, by decide +kernel⟩
section
variable {P : Program} {w : World} {K : PySem.W.Frag} {mg : Str → Option Value} {base : Heap}
theorem ok_pvb {f fV : Addr} {fd fdV : FuncData} (DB : Dn K mg "_value_back" sPVB pPVB f fd) (DV : DnD K mg "value_of" sPVal [.non] pPVal fV fdV) (m_isinstance : mg "isinstance" = none) (m_tuple : mg "tuple" = none) :
    FnOk P w K mg base CX0 5 f fd pPVB (spPVB K) := by
  have G_value_of : FnOk P w K mg base CX0 4 fV fdV pPVal (spPVal K 3) := ok_pval DV m_isinstance m_tuple 3
  obtain ⟨F_value_of, b_value_of, ⟨ds2, hv2, B2⟩, g_value_of⟩ := DV
  refine DB.F.ok scPVB (fun vs H Q E h => ?_) (fun cdv A outer s H vs Q E hr h => ?_)
  · obtain ⟨v, vw, g, wy, i, o, n, old, now, rfl, _⟩ := h
    rfl
  · obtain ⟨v, vw, g, wy, i, o, n, old, now, rfl, hd, hz, hw, hok, hi, ho, hWo, hn, hWn, q⟩ := h
    have nd := scPVB.nd
    have r_value_of := hr
    refine ⟨_, (pss_cons (ps_if (pt_cmpR (op_eqD hr.units) (pv 1) pe_str (nomark _))
      (pss_one (ps_ret (pe_ix ix_seq (pv 3) (pv 2) (fun _ _ => rfl))))
      pss_nil)
      (pss_cons (ps_if (pt_cmpR (op_eqD hr.units) (pv 1) pe_str (nomark _))
      (pss_one (ps_ret (pe_ix ix_seq (pv 4) (pv 2) (fun _ _ => rfl))))
      pss_nil)
      (pss_one (ps_ret (pe_op op_mod (pe_call G_value_of r_value_of (by rfl) g_value_of F_value_of.kp B2 hv2 pass0 (pa_cons (pe_ix ix_seq (pv 1) pe_int (fun _ _ => rfl)) (pa_cons (pv 3) pa_nil))) (pe_ix ix_seq (pe_ix ix_seq (pv 0) pe_int (fun _ _ => rfl)) (pv 2) (fun _ _ => rfl))))))), ?_⟩
    obtain ⟨p, v1, v2, v3, v4, rfl, hp, h1, h2, h3, h4⟩ := dp_t4 hd
    obtain ⟨z, rfl, hzt⟩ := dp_nats h1
    have hol := hWo.len
    have hnl := hWn.len
    refine ⟨_, rfl, wy.data, .str "kept", hw, .str _, Way.shaped hok, str_kept, ?_⟩
    match wy, hw, hok, q with
    | .kept, hw, hok, q =>
      refine ⟨true, by rfl, ?_⟩
      refine iteT ?_
      exact ⟨_, rfl, _, rfl, .inr (.inl ⟨o, _, _, _, rfl, rfl, ho, atI_natV (by omega), q⟩)⟩
    | .stays, hw, hok, q =>
      refine ⟨false, by rfl, ?_⟩
      refine iteF ?_
      refine ⟨_, rfl, (Way.stays).data, .str "stays", hw, .str _, Way.shaped (w := .stays) hok, str_stays, ?_⟩
      refine ⟨true, by rfl, ?_⟩
      refine iteT ?_
      exact ⟨_, rfl, _, rfl, .inr (.inl ⟨n, _, _, _, rfl, rfl, hn, atI_natV (by omega), q⟩)⟩
    | .made e, hw, hok, q =>
      have hw0 := hw
      obtain ⟨pw, w1, w2, rfl, hpw, hw1, hw2⟩ := dp_t2 hw
      refine ⟨false, by rfl, ?_⟩
      refine iteF ?_
      refine ⟨_, rfl, (Way.made e).data, .str "stays", hw0, .str _, Way.shaped hok, str_stays, ?_⟩
      refine ⟨false, by rfl, ?_⟩
      refine iteF ?_
      refine ⟨_, rfl, .inr (.inl ⟨pw, _, _, _, rfl, rfl, hpw, rfl, ?_⟩)⟩
      refine ⟨_, rfl, w2, o, old, 0, false, .non, e, rfl, (fun z => by cases z), hw2, .inr ho, by rw [hol]; exact hok, by decide, ?_⟩
      refine ⟨_, rfl, .inr (.inl ⟨p, _, _, _, rfl, rfl, hp, rfl, ?_⟩)⟩
      refine ⟨_, rfl, .inr (.inl ⟨z, _, _, _, rfl, rfl, hzt, atI_natV hi, ?_⟩)⟩
      have hp0 : 0 < g.sizes.getD i 0 := hz.pos _ (getD_mem hi)
      refine ⟨_, _, rfl, rfl, by show (0 : Int) < ((g.sizes.getD i 0 : Nat) : Int); omega, ?_⟩
      have e2 : V.int (e.val old 0 % ((g.sizes.getD i 0 : Nat) : Int)) = natV (backAt g.sizes old now i (.made e)) := by
        unfold natV backAt
        rw [← getD_eq hi, Int.toNat_of_nonneg (Int.emod_nonneg _ (by omega))]
      show Q (V.int (e.val old 0 % ((g.sizes.getD i 0 : Nat) : Int))) H
      rw [e2]
      exact q
theorem ok_pback {f fB fV : Addr} {fd fdB fdV : FuncData} (DK : Dn K mg "taken_back" sPBack pPBack f fd) (DB : Dn K mg "_value_back" sPVB pPVB fB fdB) (DV : DnD K mg "value_of" sPVal [.non] pPVal fV fdV) (m_isinstance : mg "isinstance" = none) (m_tuple : mg "tuple" = none) (m_enumerate : mg "enumerate" = none) :
    FnOk P w K mg base CX0 6 f fd pPBack (spPBack K) := by
  have G__value_back : FnOk P w K mg base CX0 5 fB fdB pPVB (spPVB K) := ok_pvb DB DV m_isinstance m_tuple
  obtain ⟨F__value_back, b__value_back, g__value_back⟩ := DB
  refine DK.F.ok scPBack (fun vs H Q E h => ?_) (fun cdv A outer s H vs Q E hr h => ?_)
  · obtain ⟨v, vp, g, pl, o, n, old, now, rfl, _⟩ := h
    rfl
  · obtain ⟨v, vp, g, pl, o, n, old, now, rfl, hd, hz, hpl, hok, ho, hWo, hn, hWn, q⟩ := h
    have nd := scPBack.nd
    have r__value_back := hr
    refine ⟨_, (pss_one (ps_ret (pe_callTy call_tuple_of (by rfl) m_tuple (by decide +kernel) (pa_cons (pe_lc (own := [("field", 4), ("way", 5)]) (g := gTup K 2 (gCons (gName 4) (gCons (gName 5) gNil))) (tt := tYes) (by rfl) nd (pi_enumT (by rfl) m_enumerate (pa_cons (pv 1) pa_nil)) (blkOk_by (own := [("field", 4), ("way", 5)]) (N := ["game", "plan", "old", "now", "field", "way"]) (sc := defScope sPBack) (by decide +kernel)) (fun _ _ _ _ _ => (pg_tup (by rfl) (pgs_cons (pg_name (i := 4) nd rfl (Or.inl rfl)) (pgs_cons (pg_name (i := 5) nd rfl (Or.inl rfl)) pgs_nil)))) (fun _ _ _ _ _ => pts_nil) (fun _ _ _ _ _ => (pe_call G__value_back r__value_back (by rfl) g__value_back F__value_back.kp b__value_back .nil pass0 (pa_cons (pv 0) (pa_cons (pv 5) (pa_cons (pv 4) (pa_cons (pv 2) (pa_cons (pv 3) pa_nil)))))))) pa_nil)))), ?_⟩
    obtain ⟨pp, vs, rfl, hS, hA⟩ := dp_tup hpl
    have hvl := dps_len hA
    rw [List.length_map] at hvl
    have hpll := hok.len
    have hl4 := hz.len
    refine ⟨_, rfl, pp, vs, rfl, hS, fun D nD => ?_⟩
    refine lc_it (walk_enumT (K := K) (a := pp) (xs := vs)) (fun i H' => ∃ m, m = i ∧ Same H H' ∧ H' D = some (.lst ((backTo_ g.sizes pl old now m).map natV))) ⟨0, rfl, same_new nD, upd_same⟩ (fun i H' _ hP => ?_) (fun i x H' H2 hi hP hY => ?_) (fun H' hP => ?_)
    · obtain ⟨m, rfl, sm, _⟩ := hP
      exact seqT_up sm hS
    · obtain ⟨m, rfl, sm, hD⟩ := hP
      obtain ⟨T, x1, x2, rfl, nT, rfl, e1, e2⟩ := hY
      cases e1
      have sT := same_new (o := .tup [.int (m : Nat), x2]) nT
      have sA := sm.trans sT
      have hm : m < pl.length := by omega
      refine ⟨T, _, rfl, .inl (.inl upd_same), rfl, _, _, rfl, _, _, rfl, rfl, rfl, tYes_then ?_⟩
      obtain ⟨wy, hwy, hdw⟩ := dpall_way hA e2
      refine ⟨_, rfl, _, rfl, _, rfl, _, rfl, _, rfl, v, x2, g, wy, m, o, n, old, now, rfl, dp_up sA _ _ hd, hz, dp_up sA _ _ hdw, hok.way wy (List.mem_of_getElem? hwy), by omega, seqT_up sA ho, hWo, seqT_up sA hn, hWn, ?_⟩
      refine ⟨_, sT _ _ hD, ?_, m + 1, rfl, fun b ob hb => ?_, ?_⟩
      · rw [List.length_map, backTo_len]
        exact small1000 (by omega)
      · rw [upd_ne (ne_of_none hb nD)]
        exact sA _ _ hb
      · rw [upd_same, backTo_succ, List.map_append, getD_way hwy]
        rfl
    · obtain ⟨m, rfl, sm, hD⟩ := hP
      refine ⟨D, _, rfl, .inl ⟨.inl (.inl hD), fun p2 np2 => ?_⟩⟩
      refine q _ p2 (sm.trans (same_new np2)) ?_
      rw [hvl]
      exact .inl (.inl upd_same)
theorem ok_pbehind {f fW : Addr} {fd fdW : FuncData} (DH : Dn K mg "_behind" sPBehind pPBehind f fd) (DW : Dn K mg "walk" sPWalk pPWalk fW fdW) (G_walk : FnOk P w K mg base CX0 10 fW fdW pPWalk (spPWalk K)) :
    FnOk P w K mg base CX0 11 f fd pPBehind (spPBehind K) := by
  obtain ⟨F_walk, b_walk, g_walk⟩ := DW
  refine DH.F.ok scPBehind (fun vs H Q E h => ?_) (fun cdv A outer s H vs Q E hr h => ?_)
  · obtain ⟨v, w, t, g, ns, ks, rfl, _⟩ := h
    rfl
  · obtain ⟨v, w, t, g, ns, ks, rfl, hd, hg, hw, hW, ht, hk, hlen, q⟩ := h
    have r_walk := hr
    refine ⟨_, (pss_one (ps_ret (pe_ix ix_seq (pe_call G_walk r_walk (by rfl) g_walk F_walk.kp b_walk .nil pass0 (pa_cons (pv 0) (pa_cons (pv 1) (pa_cons (pv 2) pa_nil)))) (pe_un un_neg pe_int) (fun _ _ => rfl)))), ?_⟩
    refine ⟨_, rfl, _, rfl, _, rfl, v, w, t, g, ns, ks, rfl, hd, hg, hw, hW, ht, hk, hlen, fun H1 p1 s1 d1 => ?_⟩
    obtain ⟨us, hus⟩ := g.walk_far ks ns
    rw [hus, List.map_append] at d1
    obtain ⟨a, vs, e, hS, hA⟩ := dp_tup d1
    cases e
    obtain ⟨vs', x, rfl, hx⟩ := dpall_snoc hA
    obtain ⟨px, rfl, hpx⟩ := world_dp hx
    exact ⟨_, rfl, .inr (.inl ⟨p1, _, _, _, rfl, rfl, hS, atI_last, q H1 px s1 hpx⟩)⟩
theorem ok_ptried {f fH fK : Addr} {fd fdH fdK : FuncData} (DT : Dn K mg "tried" sPTried pPTried f fd) (DH : Dn K mg "_behind" sPBehind pPBehind fH fdH) (DK : Dn K mg "taken_back" sPBack pPBack fK fdK) (G__behind : FnOk P w K mg base CX0 11 fH fdH pPBehind (spPBehind K)) (G_taken_back : FnOk P w K mg base CX0 6 fK fdK pPBack (spPBack K)) :
    FnOk P w K mg base CX0 12 f fd pPTried (spPTried K) := by
  obtain ⟨F__behind, b__behind, g__behind⟩ := DH
  obtain ⟨F_taken_back, b_taken_back, g_taken_back⟩ := DK
  refine DT.F.ok scPTried (fun vs H Q E h => ?_) (fun cdv A outer s H vs Q E hr h => ?_)
  · obtain ⟨v, vp, t1, t2, t3, g, pl, k1, k2, k3, rfl, _⟩ := h
    rfl
  · obtain ⟨v, vp, t1, t2, t3, g, pl, k1, k2, k3, rfl, hd, hg, hpl, hok, h1, hk1, hl1, h2, hk2, hl2, h3, hk3, hl3, q⟩ := h
    have nd := scPTried.nd
    have r__behind := hr
    have r_taken_back := hr.mono (show 6 ≤ 11 by decide)
    have hbl := hg.blk
    have hpos := hg.sz.pos
    refine ⟨_, (pss_cons (ps_set (i := 5) nd rfl (Or.inl rfl) (pe_call G__behind r__behind (by rfl) g__behind F__behind.kp b__behind .nil pass0 (pa_cons (pv 0) (pa_cons (pe_ix ix_seq (pv 0) pe_int (fun _ _ => rfl)) (pa_cons (pv 2) pa_nil)))))
      (pss_cons (ps_set (i := 6) nd rfl (Or.inl rfl) (pe_call G__behind r__behind (by rfl) g__behind F__behind.kp b__behind .nil pass0 (pa_cons (pv 0) (pa_cons (pv 5) (pa_cons (pv 3) pa_nil)))))
      (pss_cons (ps_set (i := 7) nd rfl (Or.inl rfl) (pe_call G_taken_back r_taken_back (by rfl) g_taken_back F_taken_back.kp b_taken_back .nil pass0 (pa_cons (pv 0) (pa_cons (pv 1) (pa_cons (pv 5) (pa_cons (pv 6) pa_nil))))))
      (pss_one (ps_ret (pe_tup (pa_cons (pv 5) (pa_cons (pv 6) (pa_cons (pv 7) (pa_cons (pe_call G__behind r__behind (by rfl) g__behind F__behind.kp b__behind .nil pass0 (pa_cons (pv 0) (pa_cons (pv 5) (pa_cons (pv 4) pa_nil)))) (pa_cons (pe_call G__behind r__behind (by rfl) g__behind F__behind.kp b__behind .nil pass0 (pa_cons (pv 0) (pa_cons (pv 7) (pa_cons (pv 4) pa_nil)))) pa_nil))))))))))), ?_⟩
    obtain ⟨p, v1, v2, v3, v4, rfl, hp, e1, e2, e3, e4⟩ := dp_t4 hd
    obtain ⟨pf, rfl, hf⟩ := dp_nats e3
    have W0 := Game.far_world hbl hpos k1 _ hg.fst
    have W1 := Game.far_world hbl hpos k2 _ W0
    have WB := backOf_world hok.len W0 W1 hpos
    refine ⟨_, rfl, _, rfl, .inr (.inl ⟨p, _, _, _, rfl, rfl, hp, rfl, ?_⟩)⟩
    refine ⟨_, rfl, .ref p, pf, t1, g, g.first, k1, rfl, hd, hg, hf, hg.fst, h1, hk1, hl1, fun H1 o s1 ho => ?_⟩
    refine ⟨_, rfl, _, rfl, _, rfl, .ref p, o, t2, g, _, k2, rfl, dp_up s1 _ _ hd, hg, ho, W0, seqT_up s1 h2, hk2, hl2, fun H2 n s2 hn => ?_⟩
    have s12 := s1.trans s2
    have ho := seqT_up s2 ho
    refine ⟨_, rfl, _, rfl, _, rfl, _, rfl, .ref p, vp, g, pl, o, n, _, _, rfl, dp_up s12 _ _ hd, hg.sz, dp_up s12 _ _ hpl, hok, ho, W0, hn, W1, fun H3 b s3 hb => ?_⟩
    have s13 := s12.trans s3
    have ho := seqT_up s3 ho
    have hn := seqT_up s3 hn
    refine ⟨_, rfl, _, rfl, _, rfl, _, rfl, _, rfl, _, rfl, .ref p, o, t3, g, _, k3, rfl, dp_up s13 _ _ hd, hg, ho, W0, seqT_up s13 h3, hk3, hl3, fun H4 du s4 hdu => ?_⟩
    have s14 := s13.trans s4
    have ho := seqT_up s4 ho
    have hn := seqT_up s4 hn
    have hb := seqT_up s4 hb
    refine ⟨_, rfl, _, rfl, _, rfl, .ref p, b, t3, g, _, k3, rfl, dp_up s14 _ _ hd, hg, hb, WB, seqT_up s14 h3, hk3, hl3, fun H5 go s5 hgo => ?_⟩
    refine ⟨by show 5 ≤ sizeLine; decide, fun r nr => ?_⟩
    have s6 := same_new (o := .tup [.ref o, .ref n, .ref b, .ref du, .ref go]) nr
    refine q _ r ((s14.trans s5).trans s6) ?_
    exact .tup (.inl (.inl upd_same)) (.cons (dp_up s6 _ _ (dp_up s5 _ _ (dp_world ho))) (.cons (dp_up s6 _ _ (dp_up s5 _ _ (dp_world hn))) (.cons (dp_up s6 _ _ (dp_up s5 _ _ (dp_world hb))) (.cons (dp_up s6 _ _ (dp_up s5 _ _ (dp_world hdu))) (.cons (dp_up s6 _ _ (dp_world hgo)) .nil)))))
end
end K32
set_option maxHeartbeats 4000000
namespace K32
open PySem PySem.Spec PyProof.Rows L2 Sb
abbrev sLaw : Stmt := topS 28
theorem scLaw : FnScope ["_law_script", "_law_deck_here", "_law_turn", "_law_game_here", "_law_plan_here", "_law_kept", "_law_k", "_law_old", "_law_now", "_law_due", "_law_ahead", "_law_many", "_law_guessed", "_law_keys_here", "_law_back_here", "_law_again"] ["_law_script"] (defScope sLaw) := ⟨rfl, rfl, rfl, by decide +kernel, rfl, by decide +kernel, by decide +kernel⟩
def spLaw (K : PySem.W.Frag) : Sp := fun vs H Q _ => ∃ (a : Addr) (ns : List Int), vs = [.ref a] ∧ SqL K H a (ns.map V.int) ∧ ns.length ≤ 63 ∧ ∀ H', Q (.bl true) H'
section
variable {P : Program} {w : World} {K : PySem.W.Frag} {mg : Str → Option Value} {base : Heap}
theorem ok_law {f fK fD fO fG fW fN fB fY fF fT fR : Addr} {fd fdK fdD fdO fdG fdW fdN fdB fdY fdF fdT fdR : FuncData} (DL : Dn K mg "law" sLaw ["_law_script"] f fd)
    (DK : Dn K mg "_law_deck" sDeck ["_law_script"] fK fdK) (DD : Dn K mg "_law_draw" sDraw pDraw fD fdD) (DO : Dn K mg "_law_one" sOne pOne fO fdO) (DG : Dn K mg "_law_game" sGame pDeck1 fG fdG) (DW : Dn K mg "_law_world" sWorld pWorld fW fdW)
    (DN : Dn K mg "_law_plan" sLPlan pLPlan fN fdN) (DB : Dn K mg "_law_back" sLBack pLBack fB fdB) (DY : Dn K mg "_law_keys" sLKeys pLKeys fY fdY) (DF : Dn K mg "_law_far" sLFar pLFar fF fdF) (DT : Dn K mg "taken_back" sPBack pPBack fT fdT) (DR : Dn K mg "tried" sPTried pPTried fR fdR)
    (G__law_game : FnOk P w K mg base CX0 10 fG fdG pDeck1 (spGame K)) (G__law_back : FnOk P w K mg base CX0 5 fB fdB pLBack (spPBack K)) (G__law_far : FnOk P w K mg base CX0 15 fF fdF pLFar (spPBehind K)) (G_taken_back : FnOk P w K mg base CX0 6 fT fdT pPBack (spPBack K)) (G_tried : FnOk P w K mg base CX0 15 fR fdR pPTried (spPTried K))
    (m_len : mg "len" = none) (m_int : mg "int" = none) (m_abs : mg "abs" = none) (m_tuple : mg "tuple" = none) (m_range : mg "range" = none) (m_repr : mg "repr" = none) : FnG P w K mg base CX0 16 f fd ["_law_script"] (spLaw K) := by
  have G__law_deck : FnOk P w K mg base CX0 1 fK fdK ["_law_script"] (spDeck K) := ok_deck DK.F m_abs
  have G__law_draw : FnOk P w K mg base CX0 1 fD fdD pDraw spDraw := ok_draw DD.F m_len m_int
  have G__law_one : FnOk P w K mg base CX0 2 fO fdO pOne (spOne K) := ok_one DO.F DD.F DD.b DD.g m_len m_int
  have G__law_world : FnOk P w K mg base CX0 2 fW fdW pWorld (spWorld K) := ok_world DW DD m_len m_int m_tuple
  have G__law_plan : FnOk P w K mg base CX0 3 fN fdN pLPlan (spLPlan K) := ok_lplan DN DO DD m_len m_int m_tuple m_range
  have G__law_keys : FnOk P w K mg base CX0 2 fY fdY pLKeys (spLKeys K) := ok_lkeys DY DD m_len m_int m_range m_tuple
  obtain ⟨F__law_deck, b__law_deck, g__law_deck⟩ := DK
  obtain ⟨F__law_draw, b__law_draw, g__law_draw⟩ := DD
  obtain ⟨F__law_one, b__law_one, g__law_one⟩ := DO
  obtain ⟨F__law_game, b__law_game, g__law_game⟩ := DG
  obtain ⟨F__law_world, b__law_world, g__law_world⟩ := DW
  obtain ⟨F__law_plan, b__law_plan, g__law_plan⟩ := DN
  obtain ⟨F__law_back, b__law_back, g__law_back⟩ := DB
  obtain ⟨F__law_keys, b__law_keys, g__law_keys⟩ := DY
  obtain ⟨F__law_far, b__law_far, g__law_far⟩ := DF
  obtain ⟨F_taken_back, b_taken_back, g_taken_back⟩ := DT
  obtain ⟨F_tried, b_tried, g_tried⟩ := DR
  refine okG DL.F scLaw (fun vs H Q E h => ?_) (fun cdv A outer s H vs Q E hgd hr h => ?_)
  · obtain ⟨a, ns, rfl, _⟩ := h
    rfl
  · obtain ⟨a, ns, rfl, hS, hlen, q⟩ := h
    have nd := scLaw.nd
    have hu := hr.units
    have r__law_deck := hr.mono (show 1 ≤ 15 by decide)
    have r__law_draw := hr.mono (show 1 ≤ 15 by decide)
    have r__law_one := hr.mono (show 2 ≤ 15 by decide)
    have r__law_world := hr.mono (show 2 ≤ 15 by decide)
    have r__law_game := hr.mono (show 10 ≤ 15 by decide)
    have r__law_plan := hr.mono (show 3 ≤ 15 by decide)
    have r__law_back := hr.mono (show 5 ≤ 15 by decide)
    have r__law_keys := hr.mono (show 2 ≤ 15 by decide)
    have r__law_far := hr
    have r_taken_back := hr.mono (show 6 ≤ 15 by decide)
    have r_tried := hr
    refine ⟨_, (pss_cons (ps_set (i := 1) nd rfl (Or.inl rfl) (pe_call G__law_deck r__law_deck (by rfl) g__law_deck F__law_deck.kp b__law_deck .nil pass0 (pa_cons (pv 0) pa_nil)))
      (pss_cons (ps_for PassesOwn.never rfl (pi_range1 (by rfl) m_range (pa_cons pe_int pa_nil)) (pg_name (i := 2) nd rfl (Or.inl rfl))
      (pss_cons (ps_set (i := 3) nd rfl (Or.inr rfl) (pe_call G__law_game r__law_game (by rfl) g__law_game F__law_game.kp b__law_game .nil pass0 (pa_cons (pv 1) pa_nil)))
      (pss_cons (ps_set (i := 4) nd rfl (Or.inr rfl) (pe_call G__law_plan r__law_plan (by rfl) g__law_plan F__law_plan.kp b__law_plan .nil pass0 (pa_cons (pv 1) (pa_cons (pe_ix (show IxR _ (rIx K) from ix_seq) (pv 3) pe_int (fun _ _ => rfl)) pa_nil))))
      (pss_cons (ps_set (i := 5) nd rfl (Or.inl rfl) (pe_callB (call_repr hgd hu) (by rfl) m_repr (by decide +kernel) (pa_cons (pe_lst (pa_cons (pv 3) (pa_cons (pv 4) pa_nil))) pa_nil)))
      (pss_cons (ps_for PassesOwn.never rfl (pi_range1 (by rfl) m_range (pa_cons pe_int pa_nil)) (pg_name (i := 6) nd rfl (Or.inl rfl))
      (pss_cons (ps_asg (pe_tup (pa_cons (pe_call G__law_world r__law_world (by rfl) g__law_world F__law_world.kp b__law_world .nil pass0 (pa_cons (pv 1) (pa_cons (pe_ix (show IxR _ (rIx K) from ix_seq) (pv 3) pe_int (fun _ _ => rfl)) pa_nil))) (pa_cons (pe_call G__law_world r__law_world (by rfl) g__law_world F__law_world.kp b__law_world .nil pass0 (pa_cons (pv 1) (pa_cons (pe_ix (show IxR _ (rIx K) from ix_seq) (pv 3) pe_int (fun _ _ => rfl)) pa_nil))) pa_nil))) (pg_tup (by rfl) (pgs_cons (pg_name (i := 7) nd rfl (Or.inr rfl)) (pgs_cons (pg_name (i := 8) nd rfl (Or.inr rfl)) pgs_nil))))
      (pss_cons (ps_set (i := 9) nd rfl (Or.inl rfl) (pe_call G__law_back r__law_back (by rfl) g__law_back F__law_back.kp b__law_back .nil pass0 (pa_cons (pv 3) (pa_cons (pv 4) (pa_cons (pv 7) (pa_cons (pv 8) pa_nil))))))
      (pss_cons (ps_if (pt_cmpR op_ne (pe_callB (call_repr hgd hu) (by rfl) m_repr (by decide +kernel) (pa_cons (pe_lc (own := [("_law_again", 15)]) (g := gName 15) (tt := tYes) (by rfl) nd (pi_range1 (by rfl) m_range (pa_cons pe_int pa_nil)) (blkOk_by (own := [("_law_again", 15)]) (N := ["_law_script", "_law_deck_here", "_law_turn", "_law_game_here", "_law_plan_here", "_law_kept", "_law_k", "_law_old", "_law_now", "_law_due", "_law_ahead", "_law_many", "_law_guessed", "_law_keys_here", "_law_back_here", "_law_again"]) (sc := defScope sLaw) (by decide +kernel)) (fun _ _ _ _ _ => (pg_name (i := 15) nd rfl (Or.inl rfl))) (fun _ _ _ _ _ => pts_nil) (fun _ _ _ _ _ => (pe_call G_taken_back r_taken_back (by rfl) g_taken_back F_taken_back.kp b_taken_back .nil pass0 (pa_cons (pv 3) (pa_cons (pv 4) (pa_cons (pv 7) (pa_cons (pv 8) pa_nil))))))) pa_nil)) (pe_callB (call_repr hgd hu) (by rfl) m_repr (by decide +kernel) (pa_cons (pe_lst (pa_cons (pv 9) (pa_cons (pv 9) pa_nil))) pa_nil)) (nomark _))
      (pss_one (ps_ret pe_bl))
      pss_nil)
      (pss_cons (ps_set (i := 10) nd rfl (Or.inr rfl) (pe_call G__law_keys r__law_keys (by rfl) g__law_keys F__law_keys.kp b__law_keys .nil pass0 (pa_cons (pv 1) (pa_cons (pv 3) (pa_cons (pe_ifO (pt_cmpR op_eq (pv 6) pe_int (nomark _)) (pe_call G__law_draw r__law_draw (by rfl) g__law_draw F__law_draw.kp b__law_draw .nil pass0 (pa_cons (pv 1) (pa_cons pe_int pa_nil))) (pe_call G__law_draw r__law_draw (by rfl) g__law_draw F__law_draw.kp b__law_draw .nil pass0 (pa_cons (pv 1) (pa_cons pe_int pa_nil)))) pa_nil)))))
      (pss_cons (ps_set (i := 11) nd rfl (Or.inl rfl) (pe_ifO (pt_cmpR op_gt (pv 6) pe_int (nomark _)) (pe_call G__law_one r__law_one (by rfl) g__law_one F__law_one.kp b__law_one .nil pass0 (pa_cons (pv 1) (pa_cons (pe_lst (pa_cons pe_int (pa_cons pe_int (pa_cons pe_int (pa_cons (pe_call G__law_draw r__law_draw (by rfl) g__law_draw F__law_draw.kp b__law_draw .nil pass0 (pa_cons (pv 1) (pa_cons pe_int pa_nil))) pa_nil))))) pa_nil))) (pe_call G__law_draw r__law_draw (by rfl) g__law_draw F__law_draw.kp b__law_draw .nil pass0 (pa_cons (pv 1) (pa_cons pe_int pa_nil)))))
      (pss_cons (ps_asg (pe_tup (pa_cons (pe_call G__law_keys r__law_keys (by rfl) g__law_keys F__law_keys.kp b__law_keys .nil pass0 (pa_cons (pv 1) (pa_cons (pv 3) (pa_cons (pv 11) pa_nil)))) (pa_cons (pe_call G__law_keys r__law_keys (by rfl) g__law_keys F__law_keys.kp b__law_keys .nil pass0 (pa_cons (pv 1) (pa_cons (pv 3) (pa_cons (pv 11) pa_nil)))) pa_nil))) (pg_tup (by rfl) (pgs_cons (pg_name (i := 12) nd rfl (Or.inr rfl)) (pgs_cons (pg_name (i := 13) nd rfl (Or.inr rfl)) pgs_nil))))
      (pss_cons (ps_set (i := 7) nd rfl (Or.inr rfl) (pe_call G__law_far r__law_far (by rfl) g__law_far F__law_far.kp b__law_far .nil pass0 (pa_cons (pv 3) (pa_cons (pe_ix (show IxR _ (rIx K) from ix_seq) (pv 3) pe_int (fun _ _ => rfl)) (pa_cons (pv 10) pa_nil)))))
      (pss_cons (ps_set (i := 8) nd rfl (Or.inr rfl) (pe_call G__law_far r__law_far (by rfl) g__law_far F__law_far.kp b__law_far .nil pass0 (pa_cons (pv 3) (pa_cons (pv 7) (pa_cons (pv 12) pa_nil)))))
      (pss_cons (ps_set (i := 14) nd rfl (Or.inl rfl) (pe_call G__law_back r__law_back (by rfl) g__law_back F__law_back.kp b__law_back .nil pass0 (pa_cons (pv 3) (pa_cons (pv 4) (pa_cons (pv 7) (pa_cons (pv 8) pa_nil))))))
      (pss_cons (ps_set (i := 9) nd rfl (Or.inl rfl) (pe_tup (pa_cons (pv 7) (pa_cons (pv 8) (pa_cons (pv 14) (pa_cons (pe_call G__law_far r__law_far (by rfl) g__law_far F__law_far.kp b__law_far .nil pass0 (pa_cons (pv 3) (pa_cons (pv 7) (pa_cons (pv 13) pa_nil)))) (pa_cons (pe_call G__law_far r__law_far (by rfl) g__law_far F__law_far.kp b__law_far .nil pass0 (pa_cons (pv 3) (pa_cons (pv 14) (pa_cons (pv 13) pa_nil)))) pa_nil)))))))
      (pss_one (ps_if (pt_cmpR op_ne (pe_callB (call_repr hgd hu) (by rfl) m_repr (by decide +kernel) (pa_cons (pe_lc (own := [("_law_again", 15)]) (g := gName 15) (tt := tYes) (by rfl) nd (pi_range1 (by rfl) m_range (pa_cons pe_int pa_nil)) (blkOk_by (own := [("_law_again", 15)]) (N := ["_law_script", "_law_deck_here", "_law_turn", "_law_game_here", "_law_plan_here", "_law_kept", "_law_k", "_law_old", "_law_now", "_law_due", "_law_ahead", "_law_many", "_law_guessed", "_law_keys_here", "_law_back_here", "_law_again"]) (sc := defScope sLaw) (by decide +kernel)) (fun _ _ _ _ _ => (pg_name (i := 15) nd rfl (Or.inl rfl))) (fun _ _ _ _ _ => pts_nil) (fun _ _ _ _ _ => (pe_call G_tried r_tried (by rfl) g_tried F_tried.kp b_tried .nil pass0 (pa_cons (pv 3) (pa_cons (pv 4) (pa_cons (pv 10) (pa_cons (pv 12) (pa_cons (pv 13) pa_nil)))))))) pa_nil)) (pe_callB (call_repr hgd hu) (by rfl) m_repr (by decide +kernel) (pa_cons (pe_lst (pa_cons (pv 9) (pa_cons (pv 9) pa_nil))) pa_nil)) (nomark _))
      (pss_one (ps_ret pe_bl))
      pss_nil)))))))))))))
      (pss_one (ps_if (pt_cmpR op_ne (pe_callB (call_repr hgd hu) (by rfl) m_repr (by decide +kernel) (pa_cons (pe_lst (pa_cons (pv 3) (pa_cons (pv 4) pa_nil))) pa_nil)) (pv 5) (nomark _))
      (pss_one (ps_ret pe_bl))
      pss_nil)))))))
      (pss_one (ps_ret (pe_cmpR op_eq (pe_callB (call_repr hgd hu) (by rfl) m_repr (by decide +kernel) (pa_cons (pe_call G_taken_back r_taken_back (by rfl) g_taken_back F_taken_back.kp b_taken_back .nil pass0 (pa_cons (pe_dT (pa_dC (pe_dT (pa_dC (pe_dI pe_int) pa_dN)) (pa_dC (pe_dI pe_int) (pa_dC (pe_dT (pa_dC (pe_dI pe_int) pa_dN)) (pa_dC (pe_dT pa_dN) pa_dN))))) (pa_cons (pe_tup (pa_cons (pe_tup (pa_cons pe_str (pa_cons (pe_un un_neg pe_int) pa_nil))) pa_nil)) (pa_cons (pe_dT (pa_dC (pe_dI pe_int) pa_dN)) (pa_cons (pe_dT (pa_dC (pe_dI pe_int) pa_dN)) pa_nil))))) pa_nil)) pe_str (nomark _)))))), ?_⟩
    refine ⟨_, rfl, a, ns, rfl, hS, hlen, fun H1 d c s1 nd1 nc1 hD1 => ?_⟩
    obtain ⟨TB, hTB⟩ : ∃ TB, TB = gmB + 13000 := ⟨_, rfl⟩
    have hgB : gmB ≤ 500000 := gmB_le
    have hsz : (200000 : Nat) ≤ sizeLine := by rw [sizeLine_eq]; omega
    refine ⟨6, rfl, by decide, by decide, for_range (n := 6) (fun i σ H' => ∃ (z2 z3 z4 z5 z6 z7 z8 z9 z10 z11 z12 z13 z14 z15 : Option V) (n' : Nat), σ = [some (.ref a), some (.ref d), z2, z3, z4, z5, z6, z7, z8, z9, z10, z11, z12, z13, z14, z15] ∧ DeckAt H' d c n' ∧ n' ≤ i * TB)
      ⟨_, _, _, _, _, _, _, _, _, _, _, _, _, _, 0, rfl, hD1, Nat.zero_le _⟩ (fun i σ H' hi hP => ?_) (fun σ H' hP => ?_)⟩
    · obtain ⟨z2, z3, z4, z5, z6, z7, z8, z9, z10, z11, z12, z13, z14, z15, n', rfl, hD, hn⟩ := hP
      have hiT : i * TB ≤ 5 * TB := Nat.mul_le_mul_right _ (by omega)
      have hsi : (i + 1) * TB = i * TB + TB := Nat.succ_mul i TB
      -- the game, the plan, their text
      refine ⟨_, rfl, d, c, n', rfl, hD, by omega, fun H2 n2 v g o2 hD2 l2 u2 hg dg => ?_⟩
      have hz := hg.sz
      have hzl := hz.len
      obtain ⟨pg, _, _, _, _, rfl, _, _, _, _, _⟩ := dp_t4 dg
      obtain ⟨ps, pf, vb, hp, hps, hpf⟩ := game_first dg
      refine ⟨_, rfl, _, rfl, .inr (.inl ⟨pg, _, _, _, rfl, rfl, hp, rfl, ?_⟩)⟩
      refine ⟨d, c, ps, n2, g.sizes, rfl, hD2, by omega, hps, hz, fun H3 n3 pp pl o3 hD3 l3 u3 hpl dpl => ?_⟩
      have hC : Ct K d c pg pp g pl H3 n3 := ⟨hD3, dp_kpt (Kpt.off hD2 o3) _ _ (Game.tup _) dg, dpl⟩
      clear hp hps hpf dg dpl o2 o3 hD2 hD3
      have ff := game_plan_fine hg hpl
      refine ⟨_, rfl, _, rfl, by show 2 ≤ sizeLine; decide, fun l4 nl4 => ?_⟩
      have s4 := same_new (o := .lst [.ref pg, .ref pp]) nl4
      have hC := hC.same s4
      have dl : Dp K (upd H3 l4 (.lst [.ref pg, .ref pp])) (.ref l4) (.list [g.data, planD pl]) := .lst (.inl (.inl upd_same)) (.cons hC.dg (.cons hC.dp .nil))
      refine ⟨l4, _, rfl, dl, ff.1, ff.2.1, Nat.le_trans ff.2.2.1 (by decide), Nat.le_trans ff.2.2.2 (Nat.le_trans (by decide) hsz), ?_⟩
      generalize upd H3 l4 _ = H4 at hC ⊢
      clear s4 nl4 dl
      obtain ⟨sh, hsh⟩ : ∃ sh, sh = (PyData.list [g.data, planD pl]).shown := ⟨_, rfl⟩
      rw [← hsh]
      -- six times
      refine ⟨6, rfl, by decide, by decide, for_range (n := 6) (fun j σ H' => ∃ (z6 z7 z8 z9 z10 z11 z12 z13 z14 z15 : Option V) (n' : Nat), σ = [some (.ref a), some (.ref d), some (.int (0 + (i : Int))), some (.ref pg), some (.ref pp), some (.str sh), z6, z7, z8, z9, z10, z11, z12, z13, z14, z15] ∧ Ct K d c pg pp g pl H' n' ∧ n' ≤ n3 + j * 2000)
        ⟨_, _, _, _, _, _, _, _, _, _, n3, rfl, hC, by omega⟩ (fun j σ H' hj hP => ?_) (fun σ H' hP => ?_)⟩
      · obtain ⟨z6, z7, z8, z9, z10, z11, z12, z13, z14, z15, nn, rfl, hC, hn2⟩ := hP
        -- two worlds
        obtain ⟨ps, pf, vb, hp, hps, _⟩ := game_first hC.dg
        refine ⟨_, rfl, _, rfl, .inr (.inl ⟨pg, _, _, _, rfl, rfl, hp, rfl, ?_⟩)⟩
        refine ⟨d, c, ps, nn, g.sizes, rfl, hC.dk, by omega, hps, hz, fun H5 w1 m1 o5 hD5 hW1 _ hw1 => ?_⟩
        have hC := hC.off o5 hD5
        obtain ⟨ps, pf, vb, hp, hps, _⟩ := game_first hC.dg
        refine ⟨_, rfl, _, rfl, .inr (.inl ⟨pg, _, _, _, rfl, rfl, hp, rfl, ?_⟩)⟩
        refine ⟨d, c, ps, _, g.sizes, rfl, hC.dk, by omega, hps, hz, fun H6 w2 m2 o6 hD6 hW2 _ hw2 => ?_⟩
        have hw1 := seqT_kpt (K := K) (Kpt.off hC.dk o6) (.inl (.inl hw1))
        have hw2 : SqT K H6 w2 (m2.map natV) := .inl (.inl hw2)
        have hC := hC.off o6 hD6
        refine ⟨by show 2 ≤ sizeLine; decide, fun t7 nt7 => ?_⟩
        have s7 := same_new (o := .tup [.ref w1, .ref w2]) nt7
        have hC := hC.same s7
        have hw1 := seqT_up s7 hw1
        have hw2 := seqT_up s7 hw2
        refine ⟨t7, _, rfl, .inl (.inl upd_same), rfl, _, _, rfl, _, _, rfl, rfl, ?_⟩
        generalize upd H6 t7 _ = H7 at hC hw1 hw2 ⊢
        clear s7 nt7 hp hps o5 o6 hD5 hD6
        -- what is due
        refine ⟨_, rfl, _, rfl, _, rfl, _, rfl, .ref pg, .ref pp, g, pl, w1, w2, m1, m2, rfl, hC.dg, hz, hC.dp, hpl, hw1, hW1, hw2, hW2, fun H8 wd s8 hwd => ?_⟩
        have hC := hC.same s8
        have hw1 := seqT_up s8 hw1
        have hw2 := seqT_up s8 hw2
        have hWb := backOf_world hpl.len hW1 hW2 hz.pos
        -- twice
        refine ⟨2, rfl, by decide, by decide, fun D nD => ?_⟩
        have s9 := same_new (o := .lst []) nD
        refine lc_range (n := 2) (fun i' H' => ∃ xs : List V, Same H8 H' ∧ H' D = some (.lst xs) ∧ xs.length = i' ∧ ∀ x ∈ xs, Dp K H' x (worldD (backOf g.sizes pl m1 m2)))
          ⟨[], s9, upd_same, rfl, fun x hx => (by cases hx)⟩ (fun i' H' hi' hP => ?_) (fun H' hP => ?_)
        · obtain ⟨xs, sm, hl, hxl, hxd⟩ := hP
          refine ⟨rfl, tYes_then ?_⟩
          have hC := hC.same sm
          refine ⟨_, rfl, _, rfl, _, rfl, _, rfl, .ref pg, .ref pp, g, pl, w1, w2, m1, m2, rfl, hC.dg, hz, hC.dp, hpl, seqT_up sm hw1, hW1, seqT_up sm hw2, hW2, fun H9 wa s10 hwa => ?_⟩
          refine ⟨xs, s10 _ _ hl, small1000 (by omega), xs ++ [.ref wa], same_put (sm.trans s10) nD, upd_same, by rw [List.length_append, List.length_singleton, hxl], ?_⟩
          exact all_snoc (worldD_tup _) (s10 _ _ hl) (fun y hy => dp_up s10 _ _ (hxd y hy)) (dp_world hwa)
        obtain ⟨xs, sm, hl, hxl, hxd⟩ := hP
        have hC := hC.same sm
        have hwd := seqT_up sm hwd
        have f2 := two_fine hz hWb
        have da : Dp K H' (.ref D) (.list [worldD (backOf g.sizes pl m1 m2), worldD (backOf g.sizes pl m1 m2)]) := by
          have e := all_dp hxd
          rw [hxl] at e
          exact .lst (.inl (.inl hl)) e
        refine ⟨D, _, rfl, da, f2.1, f2.2.1, Nat.le_trans f2.2.2.1 (by decide), Nat.le_trans f2.2.2.2 (Nat.le_trans (by decide) hsz), ?_⟩
        refine ⟨_, rfl, _, rfl, by show 2 ≤ sizeLine; decide, fun l9 nl9 => ?_⟩
        have s11 := same_new (o := .lst [.ref wd, .ref wd]) nl9
        have hC := hC.same s11
        have db : Dp K (upd H' l9 (.lst [.ref wd, .ref wd])) (.ref l9) (.list [worldD (backOf g.sizes pl m1 m2), worldD (backOf g.sizes pl m1 m2)]) := .lst (.inl (.inl upd_same)) (.cons (dp_up s11 _ _ (dp_world hwd)) (.cons (dp_up s11 _ _ (dp_world hwd)) .nil))
        refine ⟨l9, _, rfl, db, f2.1, f2.2.1, Nat.le_trans f2.2.2.1 (by decide), Nat.le_trans f2.2.2.2 (Nat.le_trans (by decide) hsz), ?_⟩
        generalize (PyData.list [worldD (backOf g.sizes pl m1 m2), worldD (backOf g.sizes pl m1 m2)]).shown = sr
        refine ⟨rfl, _, rfl, ?_⟩
        refine ite2 (fun hne => absurd hne (by simp)) (fun _ => ?_)
        generalize upd H' l9 _ = H9 at hC ⊢
        clear da db f2 s11 nl9 hwd hl hxd hxl sm s9 nD hw1 hw2 s8
        -- the rows of keys
        refine ⟨_, rfl, _, rfl, ?_⟩
        refine draw2_if (j := 1) (d := d) (c := c) (fun Q' h => ⟨_, rfl, rfl, _, rfl, h _⟩) rfl hC.dk (by omega) fun H10 q1 o10 hD10 hq1 => ?_
        have hC := hC.off o10 hD10
        refine ⟨d, c, .ref pg, _, q1, g, rfl, hC.dk, by omega, hq1, hC.dg, hg, fun H11 t1 ks1 o11 hD11 hl1 hk1 ht1 => ?_⟩
        have hC := hC.off o11 hD11
        refine many_if (j := 1) (d := d) (c := c) (fun Q' h => ⟨_, rfl, _, _, rfl, rfl, _, rfl, h _⟩) rfl hC.dk (by omega) fun H12 n12 mm o12 hD12 l12 u12 hmm => ?_
        have ht1 := seqT_kpt (K := K) (Kpt.off hC.dk o12) ht1
        have hC := hC.off o12 hD12
        refine ⟨_, rfl, _, rfl, _, rfl, d, c, .ref pg, _, mm, g, rfl, hC.dk, by omega, hmm, hC.dg, hg, fun H13 t2 ks2 o13 hD13 hl2 hk2 ht2 => ?_⟩
        have ht1 := seqT_kpt (K := K) (Kpt.off hC.dk o13) ht1
        have hC := hC.off o13 hD13
        refine ⟨_, rfl, _, rfl, _, rfl, d, c, .ref pg, _, mm, g, rfl, hC.dk, by omega, hmm, hC.dg, hg, fun H14 t3 ks3 o14 hD14 hl3 hk3 ht3 => ?_⟩
        have ht1 := seqT_kpt (K := K) (Kpt.off hC.dk o14) ht1
        have ht2 := seqT_kpt (K := K) (Kpt.off hC.dk o14) ht2
        have hC := hC.off o14 hD14
        refine ⟨by show 2 ≤ sizeLine; decide, fun t15 nt15 => ?_⟩
        have s15 := same_new (o := .tup [.ref t2, .ref t3]) nt15
        have hC := hC.same s15
        have ht1 := seqT_up s15 ht1
        have ht2 := seqT_up s15 ht2
        have ht3 := seqT_up s15 ht3
        refine ⟨t15, _, rfl, .inl (.inl upd_same), rfl, _, _, rfl, _, _, rfl, rfl, ?_⟩
        generalize upd H14 t15 _ = H15 at hC ht1 ht2 ht3 ⊢
        clear s15 nt15 o10 o11 o12 o13 o14 hD10 hD11 hD12 hD13 hD14
        have hl1 : ks1.length ≤ 400 := by omega
        have hl2 : ks2.length ≤ 400 := by omega
        have hl3 : ks3.length ≤ 400 := by omega
        have far : ∀ (ks u : List Nat), WorldOf g.sizes u → WorldOf g.sizes (g.far u ks) := fun ks u h => Game.far_world hg.blk hz.pos ks u h
        -- old, now
        obtain ⟨ps, pf, vb, hp, hps, hpf⟩ := game_first hC.dg
        refine ⟨_, rfl, _, rfl, .inr (.inl ⟨pg, _, _, _, rfl, rfl, hp, rfl, ?_⟩)⟩
        refine ⟨_, rfl, .ref pg, pf, t1, g, g.first, ks1, rfl, hC.dg, hg, hpf, hg.fst, ht1, hk1, hl1, fun H16 po s16 hpo => ?_⟩
        have hWo := far ks1 _ hg.fst
        have hC := hC.same s16
        have ht1 := seqT_up s16 ht1
        have ht2 := seqT_up s16 ht2
        have ht3 := seqT_up s16 ht3
        refine ⟨_, rfl, _, rfl, _, rfl, .ref pg, po, t2, g, _, ks2, rfl, hC.dg, hg, hpo, hWo, ht2, hk2, hl2, fun H17 pn s17 hpn => ?_⟩
        have hWn := far ks2 _ hWo
        have hC := hC.same s17
        have ht1 := seqT_up s17 ht1
        have ht2 := seqT_up s17 ht2
        have ht3 := seqT_up s17 ht3
        have hpo := seqT_up s17 hpo
        -- back
        refine ⟨_, rfl, _, rfl, _, rfl, _, rfl, .ref pg, .ref pp, g, pl, po, pn, _, _, rfl, hC.dg, hz, hC.dp, hpl, hpo, hWo, hpn, hWn, fun H18 pb s18 hpb => ?_⟩
        have hWb2 := backOf_world hpl.len hWo hWn hz.pos
        have hC := hC.same s18
        have ht1 := seqT_up s18 ht1
        have ht2 := seqT_up s18 ht2
        have ht3 := seqT_up s18 ht3
        have hpo := seqT_up s18 hpo
        have hpn := seqT_up s18 hpn
        -- due
        refine ⟨_, rfl, _, rfl, _, rfl, ?_⟩
        refine ⟨_, rfl, _, rfl, _, rfl, .ref pg, po, t3, g, _, ks3, rfl, hC.dg, hg, hpo, hWo, ht3, hk3, hl3, fun H19 pd s19 hpd => ?_⟩
        have hWd := far ks3 _ hWo
        have hC := hC.same s19
        have ht1 := seqT_up s19 ht1
        have ht2 := seqT_up s19 ht2
        have ht3 := seqT_up s19 ht3
        have hpo := seqT_up s19 hpo
        have hpn := seqT_up s19 hpn
        have hpb := seqT_up s19 hpb
        refine ⟨_, rfl, _, rfl, _, rfl, .ref pg, pb, t3, g, _, ks3, rfl, hC.dg, hg, hpb, hWb2, ht3, hk3, hl3, fun H20 pe s20 hpe => ?_⟩
        have hWe := far ks3 _ hWb2
        have hC := hC.same s20
        have ht1 := seqT_up s20 ht1
        have ht2 := seqT_up s20 ht2
        have ht3 := seqT_up s20 ht3
        have hpo := seqT_up s20 hpo
        have hpn := seqT_up s20 hpn
        have hpb := seqT_up s20 hpb
        have hpd := seqT_up s20 hpd
        refine ⟨by show 5 ≤ sizeLine; decide, fun pt npt => ?_⟩
        have s21 := same_new (o := .tup [.ref po, .ref pn, .ref pb, .ref pd, .ref pe]) npt
        have hC := hC.same s21
        have ht1 := seqT_up s21 ht1
        have ht2 := seqT_up s21 ht2
        have ht3 := seqT_up s21 ht3
        have dd : Dp K (upd H20 pt (.tup [.ref po, .ref pn, .ref pb, .ref pd, .ref pe])) (.ref pt) (.tuple ((g.tried pl ks1 ks2 ks3).map worldD)) :=
          .tup (.inl (.inl upd_same)) (.cons (dp_up s21 _ _ (dp_world hpo)) (.cons (dp_up s21 _ _ (dp_world hpn)) (.cons (dp_up s21 _ _ (dp_world hpb)) (.cons (dp_up s21 _ _ (dp_world hpd)) (.cons (dp_up s21 _ _ (dp_world hpe)) .nil)))))
        generalize upd H20 pt _ = H21 at hC ht1 ht2 ht3 dd ⊢
        have hWs : ∀ u ∈ g.tried pl ks1 ks2 ks3, WorldOf g.sizes u := fun u hu => by
          unfold Game.tried at hu
          simp only [List.mem_cons, List.not_mem_nil, or_false] at hu
          rcases hu with rfl | rfl | rfl | rfl | rfl
          · exact hWo
          · exact hWn
          · exact hWb2
          · exact hWd
          · exact hWe
        have hus : (g.tried pl ks1 ks2 ks3).length = 5 := rfl
        clear s16 s17 s18 s19 s20 s21 npt hpo hpn hpb hpd hpe hWo hWn hWb2 hWd hWe hp hps hpf
        generalize hgu : g.tried pl ks1 ks2 ks3 = us at dd hWs hus
        -- twice
        refine ⟨2, rfl, by decide, by decide, fun D nD => ?_⟩
        have s22 := same_new (o := .lst []) nD
        refine lc_range (n := 2) (fun i' H' => ∃ xs : List V, Same H21 H' ∧ H' D = some (.lst xs) ∧ xs.length = i' ∧ ∀ x ∈ xs, Dp K H' x (.tuple (us.map worldD)))
          ⟨[], s22, upd_same, rfl, fun x hx => (by cases hx)⟩ (fun i' H' hi' hP => ?_) (fun H' hP => ?_)
        · obtain ⟨xs, sm, hl, hxl, hxd⟩ := hP
          refine ⟨rfl, tYes_then ?_⟩
          have hC := hC.same sm
          refine ⟨_, rfl, _, rfl, _, rfl, _, rfl, _, rfl, .ref pg, .ref pp, t1, t2, t3, g, pl, ks1, ks2, ks3, rfl, hC.dg, hg, hC.dp, hpl, seqT_up sm ht1, hk1, hl1, seqT_up sm ht2, hk2, hl2, seqT_up sm ht3, hk3, hl3, fun H9 wa s10 hwa => ?_⟩
          rw [hgu] at hwa
          refine ⟨xs, s10 _ _ hl, small1000 (by omega), xs ++ [.ref wa], same_put (sm.trans s10) nD, upd_same, by rw [List.length_append, List.length_singleton, hxl], ?_⟩
          exact all_snoc (by rw [tupOnly]; exact worldDs_tup _) (s10 _ _ hl) (fun y hy => dp_up s10 _ _ (hxd y hy)) hwa
        obtain ⟨xs, sm, hl, hxl, hxd⟩ := hP
        have hC := hC.same sm
        have dd := dp_up sm _ _ dd
        have f2 := tries_fine hz hWs hus
        have da : Dp K H' (.ref D) (.list [.tuple (us.map worldD), .tuple (us.map worldD)]) := by
          have e := all_dp hxd
          rw [hxl] at e
          exact .lst (.inl (.inl hl)) e
        refine ⟨D, _, rfl, da, f2.1, f2.2.1, Nat.le_trans f2.2.2.1 (by decide), Nat.le_trans f2.2.2.2 (Nat.le_trans (by decide) hsz), ?_⟩
        refine ⟨_, rfl, _, rfl, by show 2 ≤ sizeLine; decide, fun l9 nl9 => ?_⟩
        have s11 := same_new (o := .lst [.ref pt, .ref pt]) nl9
        have hC := hC.same s11
        have db : Dp K (upd H' l9 (.lst [.ref pt, .ref pt])) (.ref l9) (.list [.tuple (us.map worldD), .tuple (us.map worldD)]) := .lst (.inl (.inl upd_same)) (.cons (dp_up s11 _ _ dd) (.cons (dp_up s11 _ _ dd) .nil))
        refine ⟨l9, _, rfl, db, f2.1, f2.2.1, Nat.le_trans f2.2.2.1 (by decide), Nat.le_trans f2.2.2.2 (Nat.le_trans (by decide) hsz), ?_⟩
        generalize (PyData.list [.tuple (us.map worldD), .tuple (us.map worldD)]).shown = sr
        refine ⟨rfl, _, rfl, ?_⟩
        refine ite2 (fun hne => absurd hne (by simp)) (fun _ => ?_)
        exact ⟨_, _, _, _, _, _, _, _, _, _, _, rfl, hC, by omega⟩
      · obtain ⟨z6, z7, z8, z9, z10, z11, z12, z13, z14, z15, nn, rfl, hC, hn2⟩ := hP
        refine ⟨_, rfl, _, rfl, by show 2 ≤ sizeLine; decide, fun l4 nl4 => ?_⟩
        have s4 := same_new (o := .lst [.ref pg, .ref pp]) nl4
        have hC := hC.same s4
        have dl : Dp K (upd H' l4 (.lst [.ref pg, .ref pp])) (.ref l4) (.list [g.data, planD pl]) := .lst (.inl (.inl upd_same)) (.cons hC.dg (.cons hC.dp .nil))
        refine ⟨l4, _, rfl, dl, ff.1, ff.2.1, Nat.le_trans ff.2.2.1 (by decide), Nat.le_trans ff.2.2.2 (Nat.le_trans (by decide) hsz), ?_⟩
        rw [← hsh]
        refine ⟨_, rfl, rfl, _, rfl, ?_⟩
        refine ite2 (fun hne => absurd hne (by simp)) (fun _ => ?_)
        exact ⟨_, _, _, _, _, _, _, _, _, _, _, _, _, _, _, rfl, hC.dk, by rw [hsi]; omega⟩
    · obtain ⟨z2, z3, z4, z5, z6, z7, z8, z9, z10, z11, z12, z13, z14, z15, n', rfl, hD, hn⟩ := hP
      refine tData_ok (K := K) _ (by decide) fun v1 H2 s2 d2 => ?_
      refine ⟨_, rfl, by show 2 ≤ sizeLine; decide, fun p3 np3 => ⟨by show 1 ≤ sizeLine; decide, fun p4 np4 => ?_⟩⟩
      have s3 := same_new (o := .tup [.str "made", .int (-1)]) np3
      have s4 := same_new (o := .tup [.ref p3]) np4
      have d2 := dp_up s4 _ _ (dp_up s3 _ _ d2)
      rw [← mini_data] at d2
      have d4 : Dp K (upd (upd H2 p3 (.tup [.str "made", .int (-1)])) p4 (.tup [.ref p3])) (.ref p4) (planD miniP) := dpT1 upd_same (dpT2 (s4 _ _ upd_same) (.str _) (.int _))
      generalize upd (upd H2 p3 _) p4 _ = H4 at d2 d4 ⊢
      refine tData_ok (K := K) _ (by decide) fun v5 H5 s5 d5 => ?_
      obtain ⟨a5, rfl, hw5⟩ := world_dp (ns := [0]) d5
      refine tData_ok (K := K) _ (by decide) fun v6 H6 s6 d6 => ?_
      obtain ⟨a6, rfl, hw6⟩ := world_dp (ns := [1]) d6
      have d2 := dp_up s6 _ _ (dp_up s5 _ _ d2)
      have d4 := dp_up s6 _ _ (dp_up s5 _ _ d4)
      refine ⟨v1, .ref p4, miniG, miniP, a5, a6, [0], [1], rfl, d2, mini_ok.sz, d4, miniP_ok, seqT_up s6 hw5, .cons (by decide) .nil, hw6, .cons (by decide) .nil, fun H7 p7 s7 hp7 => ?_⟩
      rw [mini_back] at hp7
      refine ⟨p7, _, rfl, dp_world hp7, by decide +kernel, by decide +kernel, by decide +kernel, by decide +kernel, ?_⟩
      refine ⟨rfl, ?_⟩
      have e : decide (V.str (worldD [2]).shown = V.str "(2,)") = true := by decide +kernel
      exact (congrArg (fun b => Q (V.bl b) _) e).mpr (q _)
end
end K32
set_option maxHeartbeats 0
namespace K32
open PySem PySem.Spec PyProof.Rows L2 Sb
def frees : List Str := ["abs", "enumerate", "int", "isinstance", "len", "list", "range", "repr", "str", "tuple"]
def glos : List Str := ["step", "walk", "value_of", "_is_true", "taken_back", "tried", "_behind", "_value_back", "_law_deck", "_law_draw", "_law_one", "_law_expression", "_law_test", "_law_block", "_law_sizes", "_law_world", "_law_game", "_law_value", "_law_true", "_law_go", "_law_step", "_law_plan", "_law_back", "_law_keys", "_law_far", "law"]
def fnL : List He.DefD := [dfn "step" sPStep [], dfn "walk" sPWalk [], dfn "value_of" sPVal [.non], dfn "_is_true" sPTru [], dfn "taken_back" sPBack [], dfn "tried" sPTried [], dfn "_behind" sPBehind [], dfn "_value_back" sPVB [], dfn "_law_deck" sDeck [], dfn "_law_draw" sDraw [], dfn "_law_one" sOne [], dfn "_law_expression" sExpr [], dfn "_law_test" sTest [], dfn "_law_block" sBlock [], dfn "_law_sizes" sSizes [], dfn "_law_world" sWorld [], dfn "_law_game" sGame [], dfn "_law_value" sVal [], dfn "_law_true" sTru [], dfn "_law_go" sGo [], dfn "_law_step" sStep [], dfn "_law_plan" sLPlan [], dfn "_law_back" sLBack [], dfn "_law_keys" sLKeys [], dfn "_law_far" sLFar [], dfn "law" sLaw []]
abbrev RR : PySem.W.OpenRow := PySem.W.OpenLaw.row PySem.Challenge.rw_savedback_k32_tries_walked
abbrev hk : PySem.W.Hook := hookS 6 (okN frees glos) fnL
def ob (s : PySem.W.SharedT) : Sb.Seen := seenG 6 (okN frees glos) fnL (HandSHeadRun.getT s)
theorem ob_eq (s : PySem.W.SharedT) : ob s = hk.obs s.abs := seenG_eq (HandSHeadRun.getT_eq s)
def loose : List PySem.Str := ["step", "walk", "value_of", "_is_true", "taken_back", "tried", "_behind", "_value_back", "_law_deck", "_law_draw", "_law_one", "_law_expression", "_law_test", "_law_block", "_law_sizes", "_law_world", "_law_game", "_law_value", "_law_true", "_law_go", "_law_step", "_law_plan", "_law_back", "_law_keys", "_law_far"]
theorem run (w : World) : HandSHeadRun.RunEq RR (PySem.W.view RR.prog [28]) hk ob 6000 loose w := by
  intro os
  kernel_rfl
theorem facts {P : Program} {w : World} {K : PySem.W.Frag} {h : Heap} {mg : Str → Option Value} {f : Addr} (X : K.In h) (G : h.Ns mainGlobals mg) (hfa : mg ("law" : Str) = some (.ref f)) (c : seenK (okN frees glos) fnL K = (true, fnL.map He.DefD.val)) :
    ∃ fd : FuncData, (∀ (s : Shared) (v : Value), BindsTo s fd ⟨[v], []⟩ [("_law_script", v)]) ∧ ∀ base : Heap, K.In base → base.Ns mainGlobals mg → FnG P w K mg base CX0 16 f fd ["_law_script"] (spLaw K) := by
  obtain ⟨fd_step, D_step⟩ := dn_of X G c 0 (x := "step") (st := sPStep) rfl (List.mem_of_getElem? (i := 0) rfl) (ps := ["game", "world", "key"]) (fun _ _ _ _ _ _ us hl => match us, hl with | [_, _, _], _ => rfl)
  obtain ⟨fd_walk, D_walk⟩ := dn_of X G c 1 (x := "walk") (st := sPWalk) rfl (List.mem_of_getElem? (i := 1) rfl) (ps := ["game", "world", "keys"]) (fun _ _ _ _ _ _ us hl => match us, hl with | [_, _, _], _ => rfl)
  obtain ⟨fd_value_of, D_value_of⟩ := dnD_of X G c 2 (x := "value_of") (st := sPVal) (dfl := [.non]) rfl (List.mem_of_getElem? (i := 2) rfl) (ps := ["expression", "values", "key"]) (by simp) (by decide) (fun _ _ _ _ _ _ _ us its hl h2 => match us, its, hl, h2 with | [_, _, _], [_], _, _ => ⟨_, rfl, rfl⟩) (fun _ _ _ _ _ _ _ us its hl h2 => match us, its, hl, h2 with | [_, _], [_], _, _ => ⟨_, rfl, rfl⟩)
  obtain ⟨fd__is_true, D__is_true⟩ := dn_of X G c 3 (x := "_is_true") (st := sPTru) rfl (List.mem_of_getElem? (i := 3) rfl) (ps := ["test", "values", "key"]) (fun _ _ _ _ _ _ us hl => match us, hl with | [_, _, _], _ => rfl)
  obtain ⟨fd_taken_back, D_taken_back⟩ := dn_of X G c 4 (x := "taken_back") (st := sPBack) rfl (List.mem_of_getElem? (i := 4) rfl) (ps := ["game", "plan", "old", "now"]) (fun _ _ _ _ _ _ us hl => match us, hl with | [_, _, _, _], _ => rfl)
  obtain ⟨fd_tried, D_tried⟩ := dn_of X G c 5 (x := "tried") (st := sPTried) rfl (List.mem_of_getElem? (i := 5) rfl) (ps := ["game", "plan", "ahead", "guessed", "keys"]) (fun _ _ _ _ _ _ us hl => match us, hl with | [_, _, _, _, _], _ => rfl)
  obtain ⟨fd__behind, D__behind⟩ := dn_of X G c 6 (x := "_behind") (st := sPBehind) rfl (List.mem_of_getElem? (i := 6) rfl) (ps := ["game", "world", "keys"]) (fun _ _ _ _ _ _ us hl => match us, hl with | [_, _, _], _ => rfl)
  obtain ⟨fd__value_back, D__value_back⟩ := dn_of X G c 7 (x := "_value_back") (st := sPVB) rfl (List.mem_of_getElem? (i := 7) rfl) (ps := ["game", "way", "field", "old", "now"]) (fun _ _ _ _ _ _ us hl => match us, hl with | [_, _, _, _, _], _ => rfl)
  obtain ⟨fd__law_deck, D__law_deck⟩ := dn_of X G c 8 (x := "_law_deck") (st := sDeck) rfl (List.mem_of_getElem? (i := 8) rfl) (ps := ["_law_script"]) (fun _ _ _ _ _ _ us hl => match us, hl with | [_], _ => rfl)
  obtain ⟨fd__law_draw, D__law_draw⟩ := dn_of X G c 9 (x := "_law_draw") (st := sDraw) rfl (List.mem_of_getElem? (i := 9) rfl) (ps := ["_law_deck_here", "_law_many"]) (fun _ _ _ _ _ _ us hl => match us, hl with | [_, _], _ => rfl)
  obtain ⟨fd__law_one, D__law_one⟩ := dn_of X G c 10 (x := "_law_one") (st := sOne) rfl (List.mem_of_getElem? (i := 10) rfl) (ps := ["_law_deck_here", "_law_items"]) (fun _ _ _ _ _ _ us hl => match us, hl with | [_, _], _ => rfl)
  obtain ⟨fd__law_expression, D__law_expression⟩ := dn_of X G c 11 (x := "_law_expression") (st := sExpr) rfl (List.mem_of_getElem? (i := 11) rfl) (ps := ["_law_deck_here", "_law_fields", "_law_deep", "_law_with_key"]) (fun _ _ _ _ _ _ us hl => match us, hl with | [_, _, _, _], _ => rfl)
  obtain ⟨fd__law_test, D__law_test⟩ := dn_of X G c 12 (x := "_law_test") (st := sTest) rfl (List.mem_of_getElem? (i := 12) rfl) (ps := ["_law_deck_here", "_law_fields"]) (fun _ _ _ _ _ _ us hl => match us, hl with | [_, _], _ => rfl)
  obtain ⟨fd__law_block, D__law_block⟩ := dn_of X G c 13 (x := "_law_block") (st := sBlock) rfl (List.mem_of_getElem? (i := 13) rfl) (ps := ["_law_deck_here", "_law_fields", "_law_room", "_law_depth"]) (fun _ _ _ _ _ _ us hl => match us, hl with | [_, _, _, _], _ => rfl)
  obtain ⟨fd__law_sizes, D__law_sizes⟩ := dn_of X G c 14 (x := "_law_sizes") (st := sSizes) rfl (List.mem_of_getElem? (i := 14) rfl) (ps := ["_law_deck_here"]) (fun _ _ _ _ _ _ us hl => match us, hl with | [_], _ => rfl)
  obtain ⟨fd__law_world, D__law_world⟩ := dn_of X G c 15 (x := "_law_world") (st := sWorld) rfl (List.mem_of_getElem? (i := 15) rfl) (ps := ["_law_deck_here", "_law_sizes_here"]) (fun _ _ _ _ _ _ us hl => match us, hl with | [_, _], _ => rfl)
  obtain ⟨fd__law_game, D__law_game⟩ := dn_of X G c 16 (x := "_law_game") (st := sGame) rfl (List.mem_of_getElem? (i := 16) rfl) (ps := ["_law_deck_here"]) (fun _ _ _ _ _ _ us hl => match us, hl with | [_], _ => rfl)
  obtain ⟨fd__law_value, D__law_value⟩ := dn_of X G c 17 (x := "_law_value") (st := sVal) rfl (List.mem_of_getElem? (i := 17) rfl) (ps := ["_law_expression_here", "_law_values", "_law_key"]) (fun _ _ _ _ _ _ us hl => match us, hl with | [_, _, _], _ => rfl)
  obtain ⟨fd__law_true, D__law_true⟩ := dn_of X G c 18 (x := "_law_true") (st := sTru) rfl (List.mem_of_getElem? (i := 18) rfl) (ps := ["_law_test_here", "_law_values", "_law_key"]) (fun _ _ _ _ _ _ us hl => match us, hl with | [_, _, _], _ => rfl)
  obtain ⟨fd__law_go, D__law_go⟩ := dn_of X G c 19 (x := "_law_go") (st := sGo) rfl (List.mem_of_getElem? (i := 19) rfl) (ps := ["_law_block_here", "_law_sizes_here", "_law_values", "_law_key"]) (fun _ _ _ _ _ _ us hl => match us, hl with | [_, _, _, _], _ => rfl)
  obtain ⟨fd__law_step, D__law_step⟩ := dn_of X G c 20 (x := "_law_step") (st := sStep) rfl (List.mem_of_getElem? (i := 20) rfl) (ps := ["_law_game_here", "_law_world_here", "_law_key"]) (fun _ _ _ _ _ _ us hl => match us, hl with | [_, _, _], _ => rfl)
  obtain ⟨fd__law_plan, D__law_plan⟩ := dn_of X G c 21 (x := "_law_plan") (st := sLPlan) rfl (List.mem_of_getElem? (i := 21) rfl) (ps := ["_law_deck_here", "_law_sizes_here"]) (fun _ _ _ _ _ _ us hl => match us, hl with | [_, _], _ => rfl)
  obtain ⟨fd__law_back, D__law_back⟩ := dn_of X G c 22 (x := "_law_back") (st := sLBack) rfl (List.mem_of_getElem? (i := 22) rfl) (ps := ["_law_game_here", "_law_plan_here", "_law_old", "_law_now"]) (fun _ _ _ _ _ _ us hl => match us, hl with | [_, _, _, _], _ => rfl)
  obtain ⟨fd__law_keys, D__law_keys⟩ := dn_of X G c 23 (x := "_law_keys") (st := sLKeys) rfl (List.mem_of_getElem? (i := 23) rfl) (ps := ["_law_deck_here", "_law_game_here", "_law_many"]) (fun _ _ _ _ _ _ us hl => match us, hl with | [_, _, _], _ => rfl)
  obtain ⟨fd__law_far, D__law_far⟩ := dn_of X G c 24 (x := "_law_far") (st := sLFar) rfl (List.mem_of_getElem? (i := 24) rfl) (ps := ["_law_game_here", "_law_world_here", "_law_keys_here"]) (fun _ _ _ _ _ _ us hl => match us, hl with | [_, _, _], _ => rfl)
  obtain ⟨fd_law, D_law⟩ := dn_of X G c 25 (x := "law") (st := sLaw) rfl (List.mem_of_getElem? (i := 25) rfl) (ps := ["_law_script"]) (fun _ _ _ _ _ _ us hl => match us, hl with | [_], _ => rfl)
  have m_abs : mg "abs" = none := okN_free X G (seen_ok c) (List.mem_of_getElem? (i := 0) rfl)
  have m_enumerate : mg "enumerate" = none := okN_free X G (seen_ok c) (List.mem_of_getElem? (i := 1) rfl)
  have m_int : mg "int" = none := okN_free X G (seen_ok c) (List.mem_of_getElem? (i := 2) rfl)
  have m_isinstance : mg "isinstance" = none := okN_free X G (seen_ok c) (List.mem_of_getElem? (i := 3) rfl)
  have m_len : mg "len" = none := okN_free X G (seen_ok c) (List.mem_of_getElem? (i := 4) rfl)
  have m_list : mg "list" = none := okN_free X G (seen_ok c) (List.mem_of_getElem? (i := 5) rfl)
  have m_range : mg "range" = none := okN_free X G (seen_ok c) (List.mem_of_getElem? (i := 6) rfl)
  have m_repr : mg "repr" = none := okN_free X G (seen_ok c) (List.mem_of_getElem? (i := 7) rfl)
  have m_str : mg "str" = none := okN_free X G (seen_ok c) (List.mem_of_getElem? (i := 8) rfl)
  have m_tuple : mg "tuple" = none := okN_free X G (seen_ok c) (List.mem_of_getElem? (i := 9) rfl)
  have e := hfa.symm.trans D_law.g
  cases e
  refine ⟨fd_law, fun s v => ?_, fun base _ _ => ok_law D_law D__law_deck D__law_draw D__law_one D__law_game D__law_world D__law_plan D__law_back D__law_keys D__law_far D_taken_back D_tried
    (ok_game D__law_game D__law_sizes D__law_world D__law_block D__law_test D__law_expression D__law_one D__law_draw m_len m_int m_range m_tuple) (ok_lback D__law_back D__law_value m_isinstance m_int m_str m_len m_range m_tuple) (ok_lfar D__law_far D__law_step (ok_step D__law_step D__law_go D__law_true D__law_value m_isinstance m_int m_str m_list m_tuple)) (ok_pback D_taken_back D__value_back D_value_of m_isinstance m_tuple m_enumerate) ((ok_ptried D_tried D__behind D_taken_back (ok_pbehind D__behind D_walk (ok_pwalk D_walk D_step (ok_pstep D_step D__is_true D_value_of m_isinstance m_list m_tuple) m_tuple)) (ok_pback D_taken_back D__value_back D_value_of m_isinstance m_tuple m_enumerate)).mono (by decide))
    m_len m_int m_abs m_tuple m_range m_repr⟩
  obtain ⟨oc, od, kV, doc, pm, an, cdv, ct, osl, rfl, _, _⟩ := D_law.F.ex
  exact .of_eq rfl
end K32
open PySem PySem.W PySem.Calls PyProof.Rows
set_option maxRecDepth 100000 in
set_option maxHeartbeats 0 in
theorem PySem.Challenge.cw_savedback_k32_tries_walked_holds : PySem.Challenge.rw_savedback_k32_tries_walked.Holds := by
  w_on; o_law
  refine HandSHeadRun.head_any (r := OpenLaw.row PySem.Challenge.rw_savedback_k32_tries_walked) (q := view (OpenLaw.row PySem.Challenge.rw_savedback_k32_tries_walked).prog [28]) (H := K32.hk) (ob := K32.ob) (M := 6000) (loose := K32.loose)
    (d := HandSHeadRun.topDef (OpenLaw.row PySem.Challenge.rw_savedback_k32_tries_walked).prog 28) (kwd := []) K32.ob_eq
    (by kernel_rfl) (fun s => by kernel_rfl) K32.run (by kernel_rfl) (by kernel_rfl) (by kernel_rfl) (by rfl) (by first | assumption | decide +kernel) (by decide +kernel) ⟨rfl, rfl, rfl, rfl, rfl, by decide +kernel⟩ ?hw ?hc
  case hw => w_witness2
  case hc =>
    refine Sb.walkG (l := PySem.Challenge.rw_savedback_k32_tries_walked) (n := 63) (k := 16) (x := "_law_script") (CX := L2.CX0) rfl (by decide) (by kernel_rfl) ⟨rfl, by decide, by decide⟩ ?F (fun _ _ _ _ z => z)
    intro w mg fa h Y G hmg0
    obtain ⟨K, KX, c⟩ := Y
    have hmg : mg ("law" : PySem.Str) = some (.ref fa) := by
      have e : (HandSHeadRun.topDef (OpenLaw.row PySem.Challenge.rw_savedback_k32_tries_walked).prog 28).name = ("law" : PySem.Str) := by kernel_rfl
      rw [← e]
      exact hmg0
    obtain ⟨fd, hb, hF⟩ := K32.facts (P := (PySem.Challenge.rw_savedback_k32_tries_walked).prog) (w := w) KX G hmg c
    exact ⟨K, fd, K32.spLaw K, KX, hb, fun H a ns hl _ hS => ⟨a, ns, rfl, hS, hl, fun _ => rfl⟩, hF⟩
