import PyProof.Rows.All
import Wide.All
import OpenK.AllK
import Wide.FinOn
import HandS.ForMost
import HandS.Wide
import HandS.IsInst
import HandS.Defaults
import HandS.Codes
import HandS.Style
import PyProof.ReprRoads
import PyProof.ReprLen
import HandS.Zip
import HandS.NoneIn
import HandS.TupAny
import HandS.WordsExc
import HandS.ExcCtx
import HandS.ExcOwn
import HandS.SlotsOwn
import HandS.TryOnly
import HandS.Conv
import PyProof.LongRange
import HandS.Walk
import PySem.Challenge.RW_unlikepairs_k65_whole_stations
set_option Elab.async false
set_option linter.all false
set_option maxRecDepth 100000
set_option maxHeartbeats 4000000
namespace UP
open PySem PySem.Spec PyProof.Rows L2

/-! ### a def that keeps a promise, by its name -/
section
variable (P : Program) (w : World) (K : PySem.W.Frag) (mg : Str → Option Value) (base : Heap)
def Has (k : Nat) (x : Str) (ps : List Str) (sp : Sp) : Prop :=
  ∃ f fd, mg x = some (.ref f) ∧ PySem.W.keepIn K (.ref f) = true ∧ Binds K fd ps [] ∧ FnOk P w K mg base CX0 k f fd ps sp
def Df (x : Str) (st : Stmt) : Prop := ∃ f fd, mg x = some (.ref f) ∧ Fun K x x st f fd
end
theorem Df.of {K : PySem.W.Frag} {mg : Str → Option Value} {x : Str} {st : Stmt} {f : Addr} {fd : FuncData} (g : mg x = some (.ref f)) (F : Fun K x x st f fd) : Df K mg x st := ⟨f, fd, g, F⟩
section
variable {P : Program} {w : World} {K : PySem.W.Frag} {mg : Str → Option Value} {base : Heap}
theorem has_of {x : Str} {st : Stmt} {ps N : List Str} {k : Nat} {sp : Sp} (D : Df K mg x st) (S : FnScope N ps (defScope st))
    (hb : ∀ (kV doc pm : Value) (an : Option Addr) (cdv ct : Value) (us : List Value), us.length = ps.length → bindArgs (PySem.W.fnOf x x (defArgs st) (defBody st) (defScope st) .none kV doc pm an cdv ct) ⟨us, []⟩ = pure (ps.zip us))
    (len : ∀ vs H Q E, sp vs H Q E → vs.length = ps.length)
    (body : ∀ (f : Addr) (cdv : Value) (A : Around) (outer : List Env) (s : Shared) (H : Hp) (vs : List V) (Q : VK) (E : XK), Room k (A.deeper (envOfC x (defScope st) s.heap.objs.size f cdv)) → sp vs H Q E →
      ∃ t, PSs (cxOf CX0 P w K mg base N x (defScope st) f cdv A outer s H E).nox (defBody st) t ∧ t { nx := fun _ H' => Q .non H', rt := Q } (start N vs) H) :
    Has P w K mg base (k + 1) x ps sp := by
  obtain ⟨f, fd, g, F⟩ := D
  exact ⟨f, fd, g, F.kp, F.binds hb, F.ok S len fun cdv A outer s H vs Q E hr h => body f cdv A outer s H vs Q E hr h⟩
theorem Has.weak {x : Str} {ps : List Str} {k : Nat} {sp sp' : Sp} (h : Has P w K mg base k x ps sp) (e : sp = sp') : Has P w K mg base k x ps sp' := e ▸ h
end
section
variable {X : Cx}
theorem pe_callH {k : Nat} {x : Str} {ps : List Str} {sp : Sp} {p pos : Pos} {e : Expr} {es : List Expr} {t : TA} (G : Has X.prog X.w X.K X.mg X.base k x ps sp) (hr : Room k X.A) (hg : Gl X x) (ha : PA X (e :: es) t)
    (hdb : (x == ("__debug__" : Str)) = false := by decide) (he : starEach (e :: es) X.env = (false, eval e X.env) :: starEach es X.env := by rfl) (hpl : (backTo pos (starEach es X.env)).any (·.1) = false := by rfl) :
    PE X (.Call (.Name x p) (e :: es) [] pos) (tCall sp [] E0 t) := by
  obtain ⟨f, fd, g, kp, b, F⟩ := G
  exact pe_call F hr hg g kp b .nil pass0 ha hdb he hpl
theorem pe_glI {x : Str} {i : Int} {pos : Pos} (h : ∃ t, X.mg x = some (.int i t)) (hg : Gl X x) (hd : (x == ("__debug__" : Str)) = false := by decide) : PE X (.Name x pos) (tC (.int i)) := by
  obtain ⟨t, h⟩ := h
  exact pe_glob hg h ⟨t, rfl⟩ hd
end

/-! ### heaps -/
theorem same_upd {H : Hp} {p : Addr} {o : HO} (h : H p = none) : Same H (upd H p o) := fun b x e => by
  rw [upd_ne (ne_of_none e h)]
  exact e
/-- all but the object at sp is as it was -/
def But (sp : Addr) (H H' : Hp) : Prop := ∀ b o, b ≠ sp → H b = some o → H' b = some o
theorem Same.but {sp : Addr} {H H' : Hp} (h : Same H H') : But sp H H' := fun b o _ e => h b o e
theorem But.trans {sp : Addr} {H H1 H2 : Hp} (a : But sp H H1) (b : But sp H1 H2) : But sp H H2 := fun c o n e => b c o n (a c o n e)
theorem But.refl {sp : Addr} {H : Hp} : But sp H H := fun _ _ _ e => e
theorem but_upd {sp : Addr} {H : Hp} {o : HO} : But sp H (upd H sp o) := fun b x n e => by
  rw [upd_ne n]
  exact e
theorem small {n : Nat} (h : n ≤ 1000000) : n < sizeLine := Nat.lt_of_le_of_lt h (by decide)
theorem smallE {n : Nat} (h : n ≤ 1000000) : n ≤ sizeLine := Nat.le_of_lt (small h)

/-! ### runs and states -/
abbrev Run := Str × Int
def RunV (H : Hp) (v : V) (r : Run) : Prop := ∃ t, v = .ref t ∧ H t = some (.tup [.str r.1, .int r.2])
def Runs (H : Hp) (a : Addr) (rs : List Run) : Prop := ∃ xs, H a = some (.lst xs) ∧ Paired (RunV H) xs rs
def StV (H : Hp) (v : V) : Option Run → Prop
  | none => v = .non
  | some r => RunV H v r
theorem RunV.same {H H' : Hp} {v : V} {r : Run} (s : Same H H') (h : RunV H v r) : RunV H' v r := by
  obtain ⟨t, e, h⟩ := h
  exact ⟨t, e, s _ _ h⟩
theorem Paired.len {α β : Type} {F : α → β → Prop} : ∀ {l₁ : List α} {l₂ : List β}, Paired F l₁ l₂ → l₁.length = l₂.length
  | _, _, .nil => rfl
  | _, _, .cons _ t => congrArg Nat.succ (Paired.len t)
theorem Paired.at {α β : Type} {F : α → β → Prop} : ∀ {l₁ : List α} {l₂ : List β} {i : Nat} {x : α}, Paired F l₁ l₂ → l₁[i]? = some x → ∃ y, l₂[i]? = some y ∧ F x y
  | _, _, _, _, .nil, h => by simp at h
  | _, _, 0, _, .cons h _, e => by
    simp only [List.getElem?_cons_zero, Option.some.injEq] at e
    subst e
    exact ⟨_, by simp, h⟩
  | _, _, i + 1, _, .cons _ t, e => by
    simp only [List.getElem?_cons_succ] at e ⊢
    exact Paired.at t e
theorem Paired.at' {α β : Type} {F : α → β → Prop} : ∀ {l₁ : List α} {l₂ : List β} {i : Nat} {y : β}, Paired F l₁ l₂ → l₂[i]? = some y → ∃ x, l₁[i]? = some x ∧ F x y
  | _, _, _, _, .nil, h => by simp at h
  | _, _, 0, _, .cons h _, e => by
    simp only [List.getElem?_cons_zero, Option.some.injEq] at e
    subst e
    exact ⟨_, by simp, h⟩
  | _, _, i + 1, _, .cons _ t, e => by
    simp only [List.getElem?_cons_succ] at e ⊢
    exact Paired.at' t e
theorem Paired.imp {α β : Type} {F G : α → β → Prop} (f : ∀ a b, F a b → G a b) : ∀ {l₁ : List α} {l₂ : List β}, Paired F l₁ l₂ → Paired G l₁ l₂
  | _, _, .nil => .nil
  | _, _, .cons h t => .cons (f _ _ h) (Paired.imp f t)
theorem Paired.app {α β : Type} {F : α → β → Prop} : ∀ {l₁ m₁ : List α} {l₂ m₂ : List β}, Paired F l₁ l₂ → Paired F m₁ m₂ → Paired F (l₁ ++ m₁) (l₂ ++ m₂)
  | _, _, _, _, .nil, h => h
  | _, _, _, _, .cons h t, k => .cons h (Paired.app t k)
theorem Paired.dropp {α β : Type} {F : α → β → Prop} : ∀ {l₁ : List α} {l₂ : List β} (n : Nat), Paired F l₁ l₂ → Paired F (l₁.drop n) (l₂.drop n)
  | _, _, 0, h => h
  | _, _, n + 1, .nil => .nil
  | _, _, n + 1, .cons _ t => by
    simp only [List.drop_succ_cons]
    exact Paired.dropp n t
theorem Paired.takep {α β : Type} {F : α → β → Prop} : ∀ {l₁ : List α} {l₂ : List β} (n : Nat), Paired F l₁ l₂ → Paired F (l₁.take n) (l₂.take n)
  | _, _, 0, h => by simp only [List.take_zero]; exact .nil
  | _, _, n + 1, .nil => .nil
  | _, _, n + 1, .cons h t => by
    simp only [List.take_succ_cons]
    exact .cons h (Paired.takep n t)
theorem Runs.same {H H' : Hp} {a : Addr} {rs : List Run} (s : Same H H') (h : Runs H a rs) : Runs H' a rs := by
  obtain ⟨xs, e, p⟩ := h
  exact ⟨xs, s _ _ e, Paired.imp (fun _ _ => RunV.same s) p⟩
theorem StV.same {H H' : Hp} {v : V} {st : Option Run} (s : Same H H') (h : StV H v st) : StV H' v st := by
  cases st with
  | none => exact h
  | some r => exact RunV.same s h
/-- the spring: a list of three ints -/
def Spr (H : Hp) (sp : Addr) : Prop := ∃ d s c : Int, H sp = some (.lst [.int d, .int s, .int c]) ∧ 0 ≤ d ∧ d.natAbs < 2 ^ 20000 ∧ 0 ≤ s ∧ s < 2305843009213693951
theorem RunV.but {H H' : Hp} {sp : Addr} {v : V} {r : Run} (z : Spr H sp) (s : But sp H H') (h : RunV H v r) : RunV H' v r := by
  obtain ⟨t, e, h⟩ := h
  obtain ⟨_, _, _, hs, _⟩ := z
  exact ⟨t, e, s _ _ (ne_of h hs (by intro q; cases q)) h⟩
theorem Runs.ne {H : Hp} {sp a : Addr} {rs : List Run} (z : Spr H sp) (h : Runs H a rs) : a ≠ sp := by
  obtain ⟨xs, e, p⟩ := h
  obtain ⟨d, s, c, hs, _⟩ := z
  refine ne_of e hs fun q => ?_
  have q := HO.lst.inj q
  subst q
  cases p with
  | cons h _ =>
    obtain ⟨t, e, _⟩ := h
    cases e
theorem Runs.but {H H' : Hp} {sp a : Addr} {rs : List Run} (z : Spr H sp) (s : But sp H H') (h : Runs H a rs) : Runs H' a rs := by
  have n := Runs.ne z h
  obtain ⟨xs, e, p⟩ := h
  exact ⟨xs, s _ _ n e, Paired.imp (fun _ _ => RunV.but z s) p⟩
theorem StV.but {H H' : Hp} {sp : Addr} {v : V} {st : Option Run} (z : Spr H sp) (s : But sp H H') (h : StV H v st) : StV H' v st := by
  cases st with
  | none => exact h
  | some r => exact RunV.but z s h
theorem Spr.same {H H' : Hp} {sp : Addr} (z : Spr H sp) (s : Same H H') : Spr H' sp := by
  obtain ⟨d, e, c, hs, r⟩ := z
  exact ⟨d, e, c, s _ _ hs, r⟩
def KindOk (s : Str) : Prop := 1 ≤ s.length ∧ s.length ≤ 8 ∧ ∀ c ∈ s.cps.toList, 97 ≤ c ∧ c ≤ 122
def RunOk (r : Run) : Prop := KindOk r.1 ∧ 1 ≤ r.2 ∧ r.2 ≤ 1000000000000000000000000000000
def Alt (rs : List Run) : Prop := ∀ (i : Nat) (x y : Run), rs[i]? = some x → rs[i + 1]? = some y → x.1 ≠ y.1
def SeqOk (rs : List Run) : Prop := rs.length ≤ 400 ∧ (∀ r ∈ rs, RunOk r) ∧ Alt rs
end UP

set_option Elab.async false
set_option linter.all false
set_option maxRecDepth 100000
set_option maxHeartbeats 4000000
namespace UP
open PySem PySem.Spec PyProof.Rows L2
/-! ### repr of plain data, where no other repr is under way -/
def rRepr (K : PySem.W.Frag) : List V → Hp → VK → Prop := fun xs H Q => ∃ (a : Addr) (d : PyData), xs = [.ref a] ∧ Dp K H (.ref a) d ∧ d.showable = true ∧ SeqAt.shaped d = true ∧ d.shown.length ≤ sizeLine ∧ Q (.str d.shown) H
theorem call_reprD {X : Cx} (hg : X.A.guards = some []) (hu : X.A.units + 70 < cLine) : CallR X (.builtin "repr") (rRepr X.K) := by
  intro pins s σ H xs us Q I r h
  obtain ⟨a, d, rfl, dp, sh, sp, sz, q⟩ := h
  obtain ⟨u, rfl, ru⟩ := vals1 r
  cases (show u = Value.ref a from ru)
  obtain ⟨as, rd⟩ := Dp.reads I d (.ref a) (.ref a) dp rfl
  have dd := SeqAt.depth_of_shaped sp
  refine repr_of_reads' rd sh (PyData.noDict_hsm (PyData.hasDict_of_canLay d (SeqAt.canLay_of_shaped sp))) hg (by omega) (fun _ _ e => e) (fun h' u tk hk => ?_) sz
  exact ⟨.str d.shown, H, I.kept (t' := tk) hk, ⟨u, rfl⟩, q⟩
/-! ### the law's own call, around it nothing -/
structure FnC (P : Program) (w : World) (K : PySem.W.Frag) (mg : Str → Option Value) (base : Heap) (f : Addr) (fd : FuncData) (ps : List Str) (sp : Sp) : Prop where
  go : ∀ (out : List Env) (s : Shared) (H : Hp) (args : Args) (us : List Value) (vs : List V) (Q : VK) (E : XK), Env0 P w K mg base callerA out s H → BindsTo s fd args (ps.zip us) → Vals vs us → sp vs H Q E →
    codeAny (model P w) callerA (.call (.ref f) args) (CR CX0 out P w H s Q E) s
theorem callerA_room : Room 8 callerA := ⟨rfl, by decide, by decide⟩
section
variable {P : Program} {w : World} {K : PySem.W.Frag} {mg : Str → Option Value} {base : Heap}
theorem fnC_of {x : Str} {st : Stmt} {f : Addr} {fd : FuncData} {ps N : List Str} {sp : Sp} (F : Fun K x x st f fd) (S : FnScope N ps (defScope st)) (len : ∀ vs H Q E, sp vs H Q E → vs.length = ps.length)
    (body : ∀ (cdv : Value) (out : List Env) (s : Shared) (H : Hp) (vs : List V) (Q : VK) (E : XK), Room 7 (callerA.deeper (envOfC x (defScope st) s.heap.objs.size f cdv)) → sp vs H Q E →
      ∃ t, PSs (cxOf CX0 P w K mg base N x (defScope st) f cdv callerA out s H E).nox (defBody st) t ∧ t { nx := fun _ H' => Q .non H', rt := Q } (start N vs) H) : FnC P w K mg base f fd ps sp := by
  obtain ⟨oc, od, kV, doc, pm, an, cdv, ct, osl, rfl, lk, hcd⟩ := F.ex
  refine ⟨fun out s H args us vs Q E e0 hb rv hsp => ?_⟩
  have inS : K.In s.heap := e0.mod.kin.keeps fun b o z => (e0.bs b o z).1
  have noL : s.heap.NoLimit := e0.mod.nolimit.keeps fun b o z => (e0.bs b o z).1
  have kinds : ∀ y ∈ ps.zip us, (defScope st).names.lookup y.1 = some .local ∨ ((defScope st).names.lookup y.1 = some .cell ∧ ((cellsFrom (s.heap.objs.size + 1) (defScope st).names []).lookup y.1).isSome = true) := by
    intro y hy
    rcases S.par y.1 (List.of_mem_zip (a := y.1) (b := y.2) hy).1 with z | z
    · exact Or.inl z
    · exact Or.inr ⟨z, PySem.W.cellsFrom_some _ _ _ (Or.inl z)⟩
  refine codeAny_call_function callerA_room.depth (inS _ _ lk) rfl S.co S.gen rfl (PySem.W.codeRec_of inS hcd) (hb _ _ _ _ ?_)
  refine wpAny_newFunctionEnv_cells S.kind kinds fun env he s1 inC => ?_
  subst he
  refine ⟨noL.keeps inC.toInCall.keep, codeAny_func ?_⟩
  obtain ⟨t, ht0, hq⟩ := body cdv out s H vs Q E (callerA_room.deeper _) hsp
  have ht := PSs.nox ht0
  have I0 : Inv (cxOf CX0 P w K mg base N x (defScope st) f cdv callerA out s H E) [] (start N vs) H s1 := inv_start S rfl e0 (len _ _ _ _ hsp) rv inC
  refine wpAny_mono (ht.run [] s1 (start N vs) H _ I0 hq) (fun fl s2 h2 => ?_) fun _ _ z => z
  cases fl with
  | next =>
    obtain ⟨σ2, H2, J, q2⟩ := h2
    exact ⟨V.non, H2, J.os, J.bare, J.base, J.hok, rfl, q2⟩
  | ret u =>
    obtain ⟨v, σ2, H2, J, rv2, q2⟩ := h2
    exact ⟨v, H2, J.os, J.bare, J.base, J.hok, rv2, q2⟩
  | brk =>
    obtain ⟨_, _, _, z⟩ := h2
    exact z.elim
  | cont =>
    obtain ⟨_, _, _, z⟩ := h2
    exact z.elim
end
/-- the heap that holds the script alone, locked -/
def oneH (a : Addr) (o : Obj) (xs : List V) : Hp := fun b => if b = a then some (.frz o (.lst xs)) else none
theorem run_law {P : Program} {w : World} {K : PySem.W.Frag} {mg mb : Str → Option Value} {fa a : Addr} {fd : FuncData} {x : Str} {sp : Sp} {s : Shared} {vs : List Value} {ns : List Int}
    (kx : K.In s.heap) (gns : s.heap.Ns mainGlobals mg) (bns : s.heap.Ns builtinsNs mb) (bb : ∀ y : Str, y ≠ "__name__" → mb y = bootBuiltins y) (nl : s.heap.NoLimit) (gens : s.gens = #[])
    (ob : s.heap.get? a = some { cls := .type "list", data := .seq vs.toArray }) (hin : IntsAre vs ns) (len : ns.length ≤ sizeLine) (F : ∀ base : Heap, K.In base → base.Ns mainGlobals mg → FnC P w K mg base fa fd [x] sp)
    (bind : ∀ (s : Shared) (u : Value), BindsTo s fd ⟨[u], []⟩ [(x, u)]) (hsp : ∀ H : Hp, SqL K H a (ns.map V.int) → sp [.ref a] H (fun v _ => v = .bl true) fun _ _ _ => False) :
    codeAny (model P w) callerA (.call (.ref fa) ⟨[.ref a], []⟩) (fun r s' => r = .ok (.ret (.bool true)) ∧ OldK s.heap s'.heap ∧ s'.os = s.os ∧ AllBare s'.gens) s := by
  have rel := vals_ints hin
  have step : ∀ H : Hp, (H = (fun _ => none) ∨ (H = oneH a { cls := .type "list", data := .seq vs.toArray } (ns.map V.int) ∧ K.lookup a = none)) → SqL K H a (ns.map V.int) → HOk P w H s.heap →
      codeAny (model P w) callerA (.call (.ref fa) ⟨[.ref a], []⟩) (fun r s' => r = .ok (.ret (.bool true)) ∧ OldK s.heap s'.heap ∧ s'.os = s.os ∧ AllBare s'.gens) s := by
    intro H hH hS hok
    have only : ∀ b u, H b = some u → b = a ∧ u = .frz { cls := .type "list", data := .seq vs.toArray } (.lst (ns.map V.int)) ∧ K.lookup a = none := by
      intro b u e
      rcases hH with z | ⟨z, z2⟩
      · rw [z] at e
        cases e
      · rw [z] at e
        by_cases hb : b = a
        · have e := (if_pos hb).symm.trans e
          cases e
          exact ⟨hb, rfl, z2⟩
        · have e := (if_neg hb).symm.trans e
          cases e
    have free : ∀ {b : Addr} {o : Obj}, s.heap.get? b = some o → (b = a → False) → (hidT s.heap H).get? b = some o := by
      intro b o e n
      refine hidT_get e ?_
      cases q : H b with
      | none => rfl
      | some u => exact (n (only b u q).1).elim
    have nss : ∀ {b : Addr} {m : Str → Option Value}, s.heap.Ns b m → (hidT s.heap H).Ns b m := by
      intro b m ⟨o, es, ep, e, d, r⟩
      refine ⟨o, es, ep, free e fun z => ?_, d, r⟩
      subst z
      rw [ob] at e
      cases e
      cases d
    have kb : K.In (hidT s.heap H) := by
      intro b o e
      refine hidT_get (kx b o e) ?_
      cases q : H b with
      | none => rfl
      | some u =>
        obtain ⟨z1, _, z2⟩ := only b u q
        rw [z1, z2] at e
        cases e
    have md : Mod K mg (hidT s.heap H) := ⟨kb, nss gns, ⟨mb, nss bns, bb⟩, by obtain ⟨mc, h1, h2⟩ := nl; exact ⟨mc, nss h1, h2⟩⟩
    have env : Env0 P w K mg (hidT s.heap H) callerA [] s H := ⟨rfl, md, fun b o e => of_hidT e, Nat.le_of_eq (hidT_size _ _), trivial, (fun b hb => by cases hb), hok, .of_eq gens⟩
    refine codeAny_mono ((F _ kb (nss gns)).go [] s H ⟨[.ref a], []⟩ [.ref a] [.ref a] _ _ env (bind s (.ref a)) (.cons rfl .nil) (hsp H hS)) fun r s' h => ?_
    cases r with
    | error e => exact h.elim
    | ok fl =>
      cases fl with
      | next => exact h.elim
      | brk => exact h.elim
      | cont => exact h.elim
      | ret u =>
        obtain ⟨v, H', o1, o2, un, hok', rv, q⟩ := h
        have q : v = .bl true := q
        subst q
        cases (show u = Value.bool true from rv)
        refine ⟨rfl, OldK.of_keep fun b o e => ?_, o1, o2⟩
        cases q : H b with
        | none => exact un.keep b o e q (fun z => by cases z) (fun z => by cases z)
        | some u =>
          obtain ⟨_, z, _⟩ := only b u q
          subst z
          obtain ⟨e1, _⟩ := hok b _ q
          obtain ⟨e2, _⟩ := hok' b _ (un.frzs b _ _ q)
          rw [e] at e1
          cases e1
          exact e2
  cases hk : K.lookup a with
  | some o =>
    have e := kx a o hk
    rw [ob] at e
    cases e
    refine step (fun _ => none) (.inl rfl) (.inr ⟨_, vs.toArray, _, hk, rfl, rfl, rfl, ?_, by simpa using rel⟩) fun b u z => by cases z
    rw [List.size_toArray, hin.length]
    exact len
  | none =>
    have at_a : oneH a { cls := .type "list", data := .seq vs.toArray } (ns.map V.int) a = some (.frz { cls := .type "list", data := .seq vs.toArray } (.lst (ns.map V.int))) := if_pos rfl
    refine step _ (.inr ⟨rfl, hk⟩) (.inl (.inr ⟨_, at_a⟩)) fun b u z => ?_
    by_cases hb : b = a
    · subst hb
      rw [at_a] at z
      cases z
      exact ⟨ob, by rw [List.length_map]; exact len, vs, _, rel, ob⟩
    · have z := (if_neg hb).symm.trans z
      cases z
theorem walkC {l : PySem.W.OpenLaw} {n : Nat} {q : Program} {loose : List Str} {XP : (Str → Option Value) → Heap → Prop} {YP : World → Heap → Prop} {d : DefRec} {K : Params → PySem.W.Frag} {sp : World → Sp} {x : Str}
    (hn : l.most = some n) (n2 : n ≤ sizeLine) (df : d.params.defaults = []) (hY : ∀ (w : World) (h : Heap), YP w h → (K w.params).In h)
    (F : ∀ (w : World) (mg : Str → Option Value) (fa : Addr) (h : Heap), (K w.params).In h → h.Ns mainGlobals mg → mg d.name = some (.ref fa) →
      ∃ fd : FuncData, (∀ (s : Shared) (u : Value), BindsTo s fd ⟨[u], []⟩ [(x, u)]) ∧ ∀ base : Heap, (K w.params).In base → base.Ns mainGlobals mg → FnC l.prog w (K w.params) mg base fa fd [x] (sp w))
    (hsp : ∀ (w : World) (H : Hp) (a : Addr) (ns : List Int), ns.length ≤ n → SqL (K w.params) H a (ns.map V.int) → sp w [.ref a] H (fun v _ => v = .bl true) fun _ _ _ => False) :
    PySem.W.WalkO q loose XP YP l.row.toRowW d [] (fun f vs => PySem.call f vs) := by
  refine Att.attach_call hn df fun w s₀ s mg mb fa o pm cd doc a vs ns G Y ho hd hcd hmg hobj hints hlen hg => ?_
  have kx := hY w _ Y
  obtain ⟨fd, hb, hF⟩ := F w mg fa _ kx G.T.g hmg
  exact run_law kx G.T.g G.T.b G.T.builtins G.T.nolimit hg hobj hints (Nat.le_trans hlen n2) hF hb fun H hS => hsp w H a ns hlen hS
end UP

set_option Elab.async false
set_option linter.all false
set_option maxRecDepth 100000
set_option maxHeartbeats 4000000
namespace UP
open PySem PySem.Spec PyProof.Rows L2
/-! ### lists or tuples -/
def Sq2 (H : Hp) (a : Addr) (xs : List V) : Prop := H a = some (.lst xs) ∨ H a = some (.tup xs)
theorem Sq2.same {H H' : Hp} {a : Addr} {xs : List V} (s : Same H H') (h : Sq2 H a xs) : Sq2 H' a xs := h.elim (fun z => .inl (s _ _ z)) (fun z => .inr (s _ _ z))
/-- a walk over the items xs, from the heap H on -/
structure Wk (J : It) (H : Hp) (xs : List V) : Prop where
  go : ∀ i H', Same H H' → i < xs.length → J.go i H'
  stop : ∀ H', Same H H' → J.stop xs.length H'
  yld : ∀ i x H' H'', Same H H' → J.yld i H' x H'' → H'' = H' ∧ xs[i]? = some x
theorem wk_list {K : PySem.W.Frag} {H : Hp} {a : Addr} {xs : List V} (h : H a = some (.lst xs)) : Wk (Itl K a) H xs :=
  ⟨fun i H' s hi => ⟨xs, xs[i], .of (s _ _ h), List.getElem?_eq_getElem hi⟩, fun H' s => ⟨xs, .of (s _ _ h), Nat.le_refl _⟩, fun i x H' H'' s y => ⟨y.1, y.2 xs (.of (s _ _ h))⟩⟩
theorem wk_tup {K : PySem.W.Frag} {H : Hp} {a : Addr} {xs : List V} (h : H a = some (.tup xs)) : Wk (Itt K a) H xs :=
  ⟨fun i H' s hi => ⟨xs, xs[i], .of (s _ _ h), List.getElem?_eq_getElem hi⟩, fun H' s => ⟨xs, .of (s _ _ h), Nat.le_refl _⟩, fun i x H' H'' s y => ⟨y.1, y.2 xs (.of (s _ _ h))⟩⟩
def iSeqV (i : Nat) : TI := fun σ H R => ∃ a xs, σ[i]? = some (some (.ref a)) ∧ Sq2 H a xs ∧ ∀ J, Wk J H xs → R J H
section
variable {X : Cx}
theorem pi_seqV (i : Nat) {x : Str} {pos : Pos} {tg : Expr} (hN : X.N[i]? = some x := by rfl) (hv : Vis X.env.scope x := by first | exact Or.inl rfl | exact Or.inr (Or.inl rfl) | exact Or.inr (Or.inr rfl)) (hd : (x == ("__debug__" : Str)) = false := by decide)
    (hc : (x == ("__classdict__" : Str)) = false := by decide) : PI X tg (.Name x pos) (iSeqV i) := by
  refine ⟨fun pins s σ H R I hw => ?_⟩
  obtain ⟨a, xs, e, h, k⟩ := hw
  rcases h with h | h
  · exact (pi_list (pe_var hN hv hd hc)).run pins s σ H R I ⟨_, e, a, rfl, ⟨xs, .of h⟩, k _ (wk_list h)⟩
  · exact (pi_tup (pe_var hN hv hd hc)).run pins s σ H R I ⟨_, e, a, rfl, ⟨xs, .of h⟩, k _ (wk_tup h)⟩
def gAny (n : Nat) (t : TGs) : TG := fun v σ H Q => ∃ a xs, v = .ref a ∧ Sq2 H a xs ∧ xs.length = n ∧ t xs σ H Q
theorem pg_any {es : List Expr} {k n : Nat} {t : TGs} {pos : Pos} (hc : X.calm = true) (h : PGs X es t) (hn : (assignEach es X.env).length = n := by rfl) (hst : (assignEach es X.env).findIdx? (fun z => z.1) = none := by rfl) : PG X (.Tuple es k pos) (gAny n t) := by
  refine ⟨fun pins s σ H v u Q I r hw => ?_⟩
  obtain ⟨a, xs, e, hx, hl, hw⟩ := hw
  rcases hx with z | z
  · exact (pg_unl hc h hn hst).run pins s σ H v u Q I r ⟨a, xs, e, .of z, hl, hw⟩
  · exact (pg_tup hc h hn hst).run pins s σ H v u Q I r ⟨a, xs, e, .of z, hl, hw⟩
/-- zip(x, x[1:]) -/
structure WkZ (J : It) (H : Hp) (xs : List V) : Prop where
  go : ∀ i H', Same H H' → i + 1 < xs.length → J.go i H'
  stop : ∀ H', Same H H' → J.stop (xs.length - 1) H'
  yld : ∀ i x H' H'', Same H H' → J.yld i H' x H'' → ∃ T x1 x2, x = .ref T ∧ H' T = none ∧ H'' = upd H' T (.tup [x1, x2]) ∧ xs[i]? = some x1 ∧ (i + 1 < xs.length → xs[i + 1]? = some x2)
def iZip1 (i : Nat) : TI := fun σ H R => ∃ a xs, σ[i]? = some (some (.ref a)) ∧ Sq2 H a xs ∧ ∀ J H', Same H H' → WkZ J H' xs → R J H'
theorem cutt_one (xs : List V) : cutV xs (some 1) none = xs.drop 1 := by
  have e : HT.sIx xs.length 0 (some 1) = min 1 xs.length := HT.sIx_nat xs.length 0 1
  unfold cutV
  rw [e, HT.sIx_none]
  cases xs with
  | nil => rfl
  | cons x r =>
    have e1 : min 1 (x :: r).length = 1 := by simp only [List.length_cons]; omega
    rw [e1]
    simp
theorem pi_zip1 {i : Nat} {tg it : Expr} {tl th : TO} (h : PI X tg it (RZ.iZipA X.K (tCons (tVar i) (tCons (tSl (fun x lo hi H Q => rSlL X.K x lo hi H Q ∨ rSlA X.K x lo hi H Q) (tVar i) tl th) tNil))))
    (h1 : ∀ (σ : L2.St) (H : Hp) (Q : Option Int → Hp → Prop), Q (some 1) H → tl σ H Q) (h2 : ∀ (σ : L2.St) (H : Hp) (Q : Option Int → Hp → Prop), Q none H → th σ H Q) : PI X tg it (iZip1 i) := by
  refine ⟨fun pins s σ H R I hw => h.run pins s σ H R I ?_⟩
  obtain ⟨a, xs, e, hx, k⟩ := hw
  refine ⟨_, e, _, e, h1 σ H _ (h2 σ H _ ?_)⟩
  have gn : ∀ j : Nat, (xs.drop 1)[j]? = xs[j + 1]? := fun j => by rw [List.getElem?_drop, Nat.add_comm 1 j]
  rcases hx with hx | hx
  · refine .inl ⟨a, xs, rfl, .of hx, fun c nc => ?_⟩
    have sc : Same H (upd H c (.lst (cutV xs (some 1) none))) := fun b o z => by rw [upd_ne (ne_of_none z nc)]; exact z
    have hc : (upd H c (.lst (cutV xs (some 1) none))) c = some (.lst (xs.drop 1)) := by rw [upd_same, cutt_one]
    refine ⟨a, c, xs, xs.drop 1, rfl, .inl ⟨.of (sc _ _ hx), .of hc, k _ _ sc ⟨fun j H' sj hj => ?_, fun H' sj => ?_, fun j x H' H'' sj y => ?_⟩⟩⟩
    · exact ⟨xs, xs.drop 1, xs[j], xs[j + 1], .of (sj _ _ (sc _ _ hx)), .of (sj _ _ hc), List.getElem?_eq_getElem (by omega), by rw [gn]; exact List.getElem?_eq_getElem hj⟩
    · exact ⟨xs, xs.drop 1, .of (sj _ _ (sc _ _ hx)), .of (sj _ _ hc), .inr (by rw [List.length_drop]; exact Nat.le_refl _)⟩
    · obtain ⟨T, x1, x2, e1, e2, e3, f1, f2⟩ := y
      exact ⟨T, x1, x2, e1, e2, e3, f1 xs (.of (sj _ _ (sc _ _ hx))), fun _ => by rw [← gn]; exact f2 _ (.of (sj _ _ hc))⟩
  · refine .inr ⟨a, xs, rfl, .of hx, fun z => ?_, fun z c nc => ?_⟩
    · have lz : xs.length = 0 := by
        have z1 := z.1
        rw [show HT.sIx xs.length 0 (some 1) = min 1 xs.length from HT.sIx_nat xs.length 0 1] at z1
        omega
      refine ⟨a, a, xs, xs, rfl, .inr ⟨.of hx, .of hx, k _ _ (Same.refl _) ⟨fun j H' sj hj => by omega, fun H' sj => ⟨xs, xs, .of (sj _ _ hx), .of (sj _ _ hx), .inl (by omega)⟩, fun j x H' H'' sj y => ?_⟩⟩⟩
      obtain ⟨T, x1, x2, e1, e2, e3, f1, f2⟩ := y
      exact ⟨T, x1, x2, e1, e2, e3, f1 xs (.of (sj _ _ hx)), fun hj => by omega⟩
    · have sc : Same H (upd H c (.tup (cutV xs (some 1) none))) := fun b o z => by rw [upd_ne (ne_of_none z nc)]; exact z
      have hc : (upd H c (.tup (cutV xs (some 1) none))) c = some (.tup (xs.drop 1)) := by rw [upd_same, cutt_one]
      refine ⟨a, c, xs, xs.drop 1, rfl, .inr ⟨.of (sc _ _ hx), .of hc, k _ _ sc ⟨fun j H' sj hj => ?_, fun H' sj => ?_, fun j x H' H'' sj y => ?_⟩⟩⟩
      · exact ⟨xs, xs.drop 1, xs[j], xs[j + 1], .of (sj _ _ (sc _ _ hx)), .of (sj _ _ hc), List.getElem?_eq_getElem (by omega), by rw [gn]; exact List.getElem?_eq_getElem hj⟩
      · exact ⟨xs, xs.drop 1, .of (sj _ _ (sc _ _ hx)), .of (sj _ _ hc), .inr (by rw [List.length_drop]; exact Nat.le_refl _)⟩
      · obtain ⟨T, x1, x2, e1, e2, e3, f1, f2⟩ := y
        exact ⟨T, x1, x2, e1, e2, e3, f1 xs (.of (sj _ _ (sc _ _ hx))), fun _ => by rw [← gn]; exact f2 _ (.of (sj _ _ hc))⟩
end
/-! ### runs and states, dressed -/
def RunG (H : Hp) (v : V) (r : Run) : Prop := ∃ t, v = .ref t ∧ Sq2 H t [.str r.1, .int r.2]
def RunsG (H : Hp) (v : V) (rs : List Run) : Prop := ∃ a xs, v = .ref a ∧ Sq2 H a xs ∧ Paired (RunG H) xs rs
def StG (H : Hp) (v : V) : Option Run → Prop
  | none => v = .non
  | some r => RunG H v r
theorem RunG.same {H H' : Hp} {v : V} {r : Run} (s : Same H H') (h : RunG H v r) : RunG H' v r := by
  obtain ⟨t, e, h⟩ := h
  exact ⟨t, e, h.same s⟩
theorem RunsG.same {H H' : Hp} {v : V} {rs : List Run} (s : Same H H') (h : RunsG H v rs) : RunsG H' v rs := by
  obtain ⟨a, xs, e, hx, p⟩ := h
  exact ⟨a, xs, e, hx.same s, Paired.imp (fun _ _ => RunG.same s) p⟩
theorem StG.same {H H' : Hp} {v : V} {st : Option Run} (s : Same H H') (h : StG H v st) : StG H' v st := by
  cases st with
  | none => exact h
  | some r => exact RunG.same s h
theorem RunV.dress {H : Hp} {v : V} {r : Run} (h : RunV H v r) : RunG H v r := by
  obtain ⟨t, e, h⟩ := h
  exact ⟨t, e, .inr h⟩
theorem Runs.dress {H : Hp} {a : Addr} {rs : List Run} (h : Runs H a rs) : RunsG H (.ref a) rs := by
  obtain ⟨xs, hx, p⟩ := h
  exact ⟨a, xs, rfl, .inl hx, Paired.imp (fun _ _ => RunV.dress) p⟩
theorem StV.dress {H : Hp} {v : V} {st : Option Run} (h : StV H v st) : StG H v st := by
  cases st with
  | none => exact h
  | some r => exact RunV.dress h
theorem Sq2.but {H H' : Hp} {sp a : Addr} {xs : List V} (z : Spr H sp) (s : But sp H H') (h : Sq2 H a xs) (n : ∀ d e f, xs ≠ [.int d, .int e, .int f]) : Sq2 H' a xs := by
  obtain ⟨d, e, f, hs, _⟩ := z
  rcases h with h | h
  · exact .inl (s _ _ (ne_of h hs fun q => n d e f (HO.lst.inj q)) h)
  · exact .inr (s _ _ (ne_of h hs fun q => by cases q) h)
theorem RunG.but {H H' : Hp} {sp : Addr} {v : V} {r : Run} (z : Spr H sp) (s : But sp H H') (h : RunG H v r) : RunG H' v r := by
  obtain ⟨t, e, h⟩ := h
  exact ⟨t, e, h.but z s fun _ _ _ q => by cases q⟩
theorem RunsG.but {H H' : Hp} {sp : Addr} {v : V} {rs : List Run} (z : Spr H sp) (s : But sp H H') (h : RunsG H v rs) : RunsG H' v rs := by
  obtain ⟨a, xs, e, hx, p⟩ := h
  refine ⟨a, xs, e, hx.but z s fun d _ _ q => ?_, Paired.imp (fun _ _ => RunG.but z s) p⟩
  subst q
  cases p with
  | cons h _ =>
    obtain ⟨_, e, _⟩ := h
    cases e
theorem StG.but {H H' : Hp} {sp : Addr} {v : V} {st : Option Run} (z : Spr H sp) (s : But sp H H') (h : StG H v st) : StG H' v st := by
  cases st with
  | none => exact h
  | some r => exact RunG.but z s h
end UP

set_option Elab.async false
set_option linter.all false
set_option maxRecDepth 100000
set_option maxHeartbeats 4000000
namespace UP
open PySem PySem.Spec PyProof.Rows L2
def topS (i : Nat) : Stmt := PySem.Challenge.pw_unlikepairs_k65_whole_stations.main.body.getD i (.Pass ⟨0, 0, 0, 0⟩)
structure Tx (mg : Str → Option Value) : Prop where
  n_isinstance : mg "isinstance" = none
  n_int : mg "int" = none
  n_bool : mg "bool" = none
  n_str : mg "str" = none
  n_list : mg "list" = none
  n_tuple : mg "tuple" = none
  n_len : mg "len" = none
  n_all : mg "all" = none
  n_zip : mg "zip" = none
  n_sum : mg "sum" = none
  n_min : mg "min" = none
  n_max : mg "max" = none
  n_abs : mg "abs" = none
  n_range : mg "range" = none
  n_repr : mg "repr" = none
  n_enumerate : mg "enumerate" = none
  n_any : mg "any" = none
  n_dict : mg "dict" = none
  n_sorted : mg "sorted" = none
  n_set : mg "set" = none
  n_reversed : mg "reversed" = none
  c_MAX_LETTERS : ∃ t, mg "MAX_LETTERS" = some (.int 8 t)
  c_MAX_RUNS : ∃ t, mg "MAX_RUNS" = some (.int 400 t)
  c_MAX_COUNT : ∃ t, mg "MAX_COUNT" = some (.int 1000000000000000000000000000000 t)
section
variable {P : Program} {w : World} {K : PySem.W.Frag} {mg : Str → Option Value} {base : Heap}
/-! is_whole: slots 0:value -/
abbrev s_is_whole : Stmt := topS 12
theorem sc_is_whole : FnScope ["value"] ["value"] (defScope s_is_whole) := ⟨rfl, rfl, rfl, by decide +kernel, rfl, by decide +kernel, by decide +kernel⟩
def sp_is_whole : Sp := fun vs H Q _ => ∃ n : Int, vs = [.int n] ∧ Q (.bl true) H
theorem ok_is_whole (D : Df K mg "is_whole" s_is_whole) (T : Tx mg) : Has P w K mg base 1 "is_whole" ["value"] sp_is_whole := by
  refine has_of D sc_is_whole (fun _ _ _ _ _ _ us hl => match us, hl with | [_], _ => rfl) (fun vs H Q E h => ?_) (fun f cdv A outer s H vs Q E hr h => ?_)
  · obtain ⟨n, rfl, _⟩ := h
    rfl
  · obtain ⟨n, rfl, q⟩ := h
    refine ⟨_, (pss_one (ps_ret (pe_and (pe_callB call_isi (by rfl) T.n_isinstance (by decide +kernel) (pa_cons (pv 0) (pa_cons (pe_bltn (v := .ty "int") (by rfl) T.n_int (by decide +kernel) rfl) pa_nil))) (pe_one (pe_not (pe_callB call_isi (by rfl) T.n_isinstance (by decide +kernel) (pa_cons (pv 0) (pa_cons (pe_bltn (v := .ty "bool") (by rfl) T.n_bool (by decide +kernel) rfl) pa_nil)))))))), ?_⟩
    exact ⟨_, rfl, _, _, _, _, true, rfl, .ty "int", .base (.int n), kit_ty (by decide +kernel), true, rfl, iteT ⟨_, rfl, _, _, _, _, false, rfl, .ty "bool", .base (.int n), kit_ty (by decide +kernel), false, rfl, q⟩⟩
/-! is_within: slots 0:value 1:low 2:high -/
abbrev s_is_within : Stmt := topS 13
theorem sc_is_within : FnScope ["value", "low", "high"] ["value", "low", "high"] (defScope s_is_within) := ⟨rfl, rfl, rfl, by decide +kernel, rfl, by decide +kernel, by decide +kernel⟩
def sp_is_within : Sp := fun vs H Q _ => ∃ n lo hi : Int, vs = [.int n, .int lo, .int hi] ∧ Q (.bl (decide (lo ≤ n ∧ n ≤ hi))) H
theorem ok_is_within (D : Df K mg "is_within" s_is_within) (G_is_whole : Has P w K mg base 1 "is_whole" ["value"] sp_is_whole) : Has P w K mg base 2 "is_within" ["value", "low", "high"] sp_is_within := by
  refine has_of D sc_is_within (fun _ _ _ _ _ _ us hl => match us, hl with | [_, _, _], _ => rfl) (fun vs H Q E h => ?_) (fun f cdv A outer s H vs Q E hr h => ?_)
  · obtain ⟨n, lo, hi, rfl, _⟩ := h
    rfl
  · obtain ⟨n, lo, hi, rfl, q⟩ := h
    refine ⟨_, (pss_one (ps_ret (pe_and (pe_callH G_is_whole (hr.mono (by omega)) (by rfl) (pa_cons (pv 0) pa_nil)) (pe_one (pe_chain op_le op_le (pv 1) (pv 0) (pv 2)))))), ?_⟩
    refine ⟨_, rfl, n, rfl, true, rfl, iteT ⟨_, rfl, _, rfl, _, _, rfl, rfl, _, rfl, ite2 (fun e => ?_) (fun e => ?_)⟩⟩
    · have e := of_decide_eq_true e
      refine ⟨_, rfl, _, _, rfl, rfl, ?_⟩
      show Q (.bl (decide (n ≤ hi))) H
      rw [show decide (n ≤ hi) = decide (lo ≤ n ∧ n ≤ hi) by simp [e]]
      exact q
    · have e : ¬ lo ≤ n := fun z => e (decide_eq_true z)
      show Q (.bl false) H
      rw [show false = decide (lo ≤ n ∧ n ≤ hi) by simp [e]]
      exact q
theorem kit_lst {K : PySem.W.Frag} : PySem.W.kitAny K (.type "list") [.type "list", .type "tuple"] = some true := kitAny_cons (b := true) (kit_ty (by decide +kernel)) (fun z => nomatch z) (fun _ => rfl)
theorem kit_tup {K : PySem.W.Frag} : PySem.W.kitAny K (.type "tuple") [.type "list", .type "tuple"] = some true := kitAny_cons (b := false) (kit_ty (by decide +kernel)) (fun _ => kitAny_cons (b := true) (kit_ty (by decide +kernel)) (fun z => nomatch z) (fun _ => rfl)) (fun z => nomatch z)
/-! is_listed: slots 0:value 1:most -/
abbrev s_is_listed : Stmt := topS 14
theorem sc_is_listed : FnScope ["value", "most"] ["value", "most"] (defScope s_is_listed) := ⟨rfl, rfl, rfl, by decide +kernel, rfl, by decide +kernel, by decide +kernel⟩
def sp_is_listed : Sp := fun vs H Q _ => ∃ (a : Addr) (xs : List V) (m : Int), vs = [.ref a, .int m] ∧ Sq2 H a xs ∧ ∀ H', Same H H' → Q (.bl (decide ((xs.length : Int) ≤ m))) H'
theorem ok_is_listed (D : Df K mg "is_listed" s_is_listed) (T : Tx mg) : Has P w K mg base 1 "is_listed" ["value", "most"] sp_is_listed := by
  refine has_of D sc_is_listed (fun _ _ _ _ _ _ us hl => match us, hl with | [_, _], _ => rfl) (fun vs H Q E h => ?_) (fun f cdv A outer s H vs Q E hr h => ?_)
  · obtain ⟨a, xs, m, rfl, _⟩ := h
    rfl
  · obtain ⟨a, xs, m, rfl, hx, q⟩ := h
    refine ⟨_, (pss_one (ps_ret (pe_and (pe_callB call_isiT (by rfl) T.n_isinstance (by decide +kernel) (pa_cons (pv 0) (pa_cons (pe_tup (pa_cons (pe_bltn (v := .ty "list") (by rfl) T.n_list (by decide +kernel) rfl) (pa_cons (pe_bltn (v := .ty "tuple") (by rfl) T.n_tuple (by decide +kernel) rfl) pa_nil))) pa_nil))) (pe_one (pe_cmpR op_le (pe_callB call_len_seq (by rfl) T.n_len (by decide +kernel) (pa_cons (pv 0) pa_nil)) (pv 1) (nomark _)))))), ?_⟩
    refine ⟨_, rfl, (by show 2 ≤ sizeLine; decide), fun t nt => ?_⟩
    rcases hx with hx | hx
    · refine ⟨_, t, _, _, _, true, rfl, upd_same, .cons (.ty "list") (.cons (.ty "tuple") .nil), .base (.lst (same_upd nt _ _ hx)), kit_lst, true, rfl, iteT ?_⟩
      exact ⟨_, rfl, _, _, rfl, .inl (.of (same_upd nt _ _ hx)), _, rfl, _, _, rfl, rfl, q _ (same_upd nt)⟩
    · refine ⟨_, t, _, _, _, true, rfl, upd_same, .cons (.ty "list") (.cons (.ty "tuple") .nil), .base (.tup (same_upd nt _ _ hx)), kit_tup, true, rfl, iteT ?_⟩
      exact ⟨_, rfl, _, _, rfl, .inr (.of (same_upd nt _ _ hx)), _, rfl, _, _, rfl, rfl, q _ (same_upd nt)⟩
/-! is_couple: slots 0:value -/
abbrev s_is_couple : Stmt := topS 15
theorem sc_is_couple : FnScope ["value"] ["value"] (defScope s_is_couple) := ⟨rfl, rfl, rfl, by decide +kernel, rfl, by decide +kernel, by decide +kernel⟩
def sp_is_couple : Sp := fun vs H Q _ => ∃ (a : Addr) (xs : List V), vs = [.ref a] ∧ Sq2 H a xs ∧ xs.length = 2 ∧ ∀ H', Same H H' → Q (.bl true) H'
theorem ok_is_couple (D : Df K mg "is_couple" s_is_couple) (T : Tx mg) : Has P w K mg base 1 "is_couple" ["value"] sp_is_couple := by
  refine has_of D sc_is_couple (fun _ _ _ _ _ _ us hl => match us, hl with | [_], _ => rfl) (fun vs H Q E h => ?_) (fun f cdv A outer s H vs Q E hr h => ?_)
  · obtain ⟨a, xs, rfl, _⟩ := h
    rfl
  · obtain ⟨a, xs, rfl, hx, hl, q⟩ := h
    refine ⟨_, (pss_one (ps_ret (pe_and (pe_callB call_isiT (by rfl) T.n_isinstance (by decide +kernel) (pa_cons (pv 0) (pa_cons (pe_tup (pa_cons (pe_bltn (v := .ty "list") (by rfl) T.n_list (by decide +kernel) rfl) (pa_cons (pe_bltn (v := .ty "tuple") (by rfl) T.n_tuple (by decide +kernel) rfl) pa_nil))) pa_nil))) (pe_one (pe_cmpR op_eq (pe_callB call_len_seq (by rfl) T.n_len (by decide +kernel) (pa_cons (pv 0) pa_nil)) pe_int (nomark _)))))), ?_⟩
    refine ⟨_, rfl, (by show 2 ≤ sizeLine; decide), fun t nt => ?_⟩
    rcases hx with hx | hx
    · refine ⟨_, t, _, _, _, true, rfl, upd_same, .cons (.ty "list") (.cons (.ty "tuple") .nil), .base (.lst (same_upd nt _ _ hx)), kit_lst, true, rfl, iteT ⟨_, rfl, _, _, rfl, .inl (.of (same_upd nt _ _ hx)), rfl, ?_⟩⟩
      rw [hl]
      exact q _ (same_upd nt)
    · refine ⟨_, t, _, _, _, true, rfl, upd_same, .cons (.ty "list") (.cons (.ty "tuple") .nil), .base (.tup (same_upd nt _ _ hx)), kit_tup, true, rfl, iteT ⟨_, rfl, _, _, rfl, .inr (.of (same_upd nt _ _ hx)), rfl, ?_⟩⟩
      rw [hl]
      exact q _ (same_upd nt)
end
end UP

set_option Elab.async false
set_option linter.all false
set_option maxRecDepth 100000
set_option maxHeartbeats 4000000
namespace UP
open PySem PySem.Spec PyProof.Rows L2
theorem iteP {b : Bool} {A B : Prop} (h : b = true) (x : A) : if b = true then A else B := by
  rw [if_pos h]
  exact x
theorem iteN {b : Bool} {A B : Prop} (h : b = false) (x : B) : if b = true then A else B := by
  rw [if_neg (by rw [h]; decide)]
  exact x
theorem yesT {σ : L2.St} {H : Hp} {A B : Hp → Prop} (h : A H) : tYes σ H (fun b H3 => if b = true then A H3 else B H3) := by
  show (if true = true then A H else B H)
  exact iteT h
theorem lc_gen {J : It} {n : Nat} {g : TG} {tt : TT} {te : TE} {vs : List Nat} {σ : L2.St} {H1 : Hp} {D : Addr} {Qd : Hp → Prop} (Pv : Nat → Hp → Prop) (h0 : Pv 0 (upd H1 D (.lst [])))
    (hg : ∀ i H, i < n → Pv i H → J.go i H) (hst : ∀ H, Pv n H → J.stop n H)
    (hs : ∀ i x H H', i < n → Pv i H → J.yld i H x H' → g x (wipe σ vs) H' fun σ2 H2 => wipe σ2 vs = wipe σ vs ∧ tt σ2 H2 fun b H3 =>
      if b = true then te σ2 H3 fun y H4 => ∃ acc, H4 D = some (.lst acc) ∧ acc.length < sizeLine ∧ Pv (i + 1) (upd H4 D (.lst (acc ++ [y]))) else Pv (i + 1) H3) (hd : ∀ H, Pv n H → Qd H) :
    ∃ W : Nat → Nat → Hp → Prop, (∃ m, W 0 m (upd H1 D (.lst []))) ∧ ∀ i m H, W i m H →
      (J.stop i H ∧ Qd H) ∨ (J.go i H ∧ ∃ Nx : Hp → Prop, (∀ H', Nx H' → ∃ m', m' < m ∧ W (i + 1) m' H') ∧ ∀ x H', J.yld i H x H' → g x (wipe σ vs) H' fun σ2 H2 => wipe σ2 vs = wipe σ vs ∧ tt σ2 H2 fun b H3 =>
        if b = true then te σ2 H3 fun y H4 => ∃ acc, H4 D = some (.lst acc) ∧ acc.length < sizeLine ∧ Nx (upd H4 D (.lst (acc ++ [y]))) else Nx H3) := by
  refine ⟨fun i m H => m = n - i ∧ i ≤ n ∧ Pv i H, ⟨n, by simp, Nat.zero_le _, h0⟩, ?_⟩
  rintro i m H ⟨rfl, hi, p⟩
  by_cases hlt : i < n
  · exact .inr ⟨hg i H hlt p, Pv (i + 1), fun H' p' => ⟨n - (i + 1), by omega, rfl, hlt, p'⟩, fun x H' y => hs i x H H' hlt p y⟩
  · have e : i = n := by omega
    subst e
    exact .inl ⟨hst H p, hd H p⟩
section
variable {X : Cx} {K : PySem.W.Frag}
theorem ix_tupK (h : X.K = K) : IxR X (rIxT K) := h ▸ ix_tup
theorem ix_listK (h : X.K = K) : IxR X (rIxL K) := h ▸ ix_list
theorem pg_tupK {es : List Expr} {k : Nat} {t : TGs} {n : Nat} {pos : Pos} (h : X.K = K) (hc : X.calm = true) (hp : PGs X es t)
    (hn : (assignEach es X.env).length = n := by rfl) (hst : (assignEach es X.env).findIdx? (fun z => z.1) = none := by rfl) : PG X (.Tuple es k pos) (gTup K n t) := by
  subst h
  exact pg_tup hc hp hn hst
theorem call_len_seqK (h : X.K = K) : CallR X (.builtin "len") (fun xs H Q => ∃ p ys, xs = [.ref p] ∧ (SqL K H p ys ∨ SqT K H p ys) ∧ Q (.int ys.length) H) := by
  subst h
  exact call_len_seq
end
theorem ix_seqK {X : Cx} {K : PySem.W.Frag} (h : X.K = K) : IxR X (rIx K) := h ▸ ix_seq
/-! ### lists that grow -/
theorem same_grow {H H4 : Hp} {D : Addr} {o : HO} (n : H D = none) (s : Same H H4) : Same H (upd H4 D o) := fun b x e => by
  rw [upd_ne (ne_of_none e n)]
  exact s b x e
theorem RunV.grow {H : Hp} {D : Addr} {acc acc' : List V} {v : V} {r : Run} (hD : H D = some (.lst acc)) (h : RunV H v r) : RunV (upd H D (.lst acc')) v r := by
  obtain ⟨t, e, h⟩ := h
  refine ⟨t, e, ?_⟩
  rw [upd_ne (ne_of h hD (by intro q; cases q))]
  exact h
theorem prs_grow {H : Hp} {D : Addr} {acc acc' : List V} {xs : List V} {rs : List Run} (hD : H D = some (.lst acc)) (h : Paired (RunV H) xs rs) : Paired (RunV (upd H D (.lst acc'))) xs rs := Paired.imp (fun _ _ => RunV.grow hD) h
theorem prs_same {H H' : Hp} {xs : List V} {rs : List Run} (s : Same H H') (h : Paired (RunV H) xs rs) : Paired (RunV H') xs rs := Paired.imp (fun _ _ => RunV.same s) h
theorem take_snoc {α : Type} {l : List α} {i : Nat} {x : α} (h : l[i]? = some x) : l.take (i + 1) = l.take i ++ [x] := by
  rw [List.take_add_one, h]
  rfl
theorem lc_wk {J : It} {H0 H1 : Hp} {xs : List V} {g : TG} {tt : TT} {te : TE} {vs : List Nat} {σ : L2.St} {D : Addr} {Qd : Hp → Prop} (wk : Wk J H0 xs) (Pv : Nat → Hp → Prop) (hsm : ∀ i H, Pv i H → Same H0 H) (h0 : Pv 0 (upd H1 D (.lst [])))
    (hs : ∀ i x H, xs[i]? = some x → Pv i H → g x (wipe σ vs) H fun σ2 H2 => wipe σ2 vs = wipe σ vs ∧ tt σ2 H2 fun b H3 =>
      if b = true then te σ2 H3 fun y H4 => ∃ acc, H4 D = some (.lst acc) ∧ acc.length < sizeLine ∧ Pv (i + 1) (upd H4 D (.lst (acc ++ [y]))) else Pv (i + 1) H3) (hd : ∀ H, Pv xs.length H → Qd H) :
    ∃ W : Nat → Nat → Hp → Prop, (∃ m, W 0 m (upd H1 D (.lst []))) ∧ ∀ i m H, W i m H →
      (J.stop i H ∧ Qd H) ∨ (J.go i H ∧ ∃ Nx : Hp → Prop, (∀ H', Nx H' → ∃ m', m' < m ∧ W (i + 1) m' H') ∧ ∀ x H', J.yld i H x H' → g x (wipe σ vs) H' fun σ2 H2 => wipe σ2 vs = wipe σ vs ∧ tt σ2 H2 fun b H3 =>
        if b = true then te σ2 H3 fun y H4 => ∃ acc, H4 D = some (.lst acc) ∧ acc.length < sizeLine ∧ Nx (upd H4 D (.lst (acc ++ [y]))) else Nx H3) := by
  refine lc_gen Pv h0 (fun i H hi p => wk.go i H (hsm i H p) hi) (fun H p => wk.stop H (hsm _ H p)) (fun i x H H' hi p y => ?_) hd
  obtain ⟨e, ex⟩ := wk.yld i x H H' (hsm i H p) y
  subst e
  exact hs i x _ ex p
theorem for_wk {J : It} {H0 H : Hp} {xs : List V} {g : TG} {tb : TS} {D : Ends} {σ : L2.St} (wk : Wk J H0 xs) (Pv : Nat → L2.St → Hp → Prop) (hsm : ∀ i σ H, Pv i σ H → Same H0 H) (h0 : Pv 0 σ H)
    (hs : ∀ i x σ H, xs[i]? = some x → Pv i σ H → g x σ H fun σ2 H2 => tb { D with nx := Pv (i + 1), ct := Pv (i + 1), bk := D.nx } σ2 H2) (hd : ∀ σ H, Pv xs.length σ H → D.nx σ H) :
    ∃ W : Nat → Nat → L2.St → Hp → Prop, (∃ m, W 0 m σ H) ∧ ∀ i m σ H, W i m σ H →
      (J.stop i H ∧ D.nx σ H) ∨ (J.go i H ∧ ∃ N : L2.St → Hp → Prop, (∀ σ' H', N σ' H' → ∃ m', m' < m ∧ W (i + 1) m' σ' H') ∧ ∀ x H', J.yld i H x H' → g x σ H' fun σ2 H2 => tb { D with nx := N, ct := N, bk := D.nx } σ2 H2) := by
  refine ⟨fun i m σ H => m = xs.length - i ∧ i ≤ xs.length ∧ Pv i σ H, ⟨xs.length, by omega, Nat.zero_le _, h0⟩, ?_⟩
  rintro i m σ H ⟨rfl, hi, p⟩
  by_cases hlt : i < xs.length
  · refine Or.inr ⟨wk.go i H (hsm i σ H p) hlt, Pv (i + 1), fun σ' H' p' => ⟨xs.length - (i + 1), by omega, rfl, hlt, p'⟩, fun x H' y => ?_⟩
    obtain ⟨e, ex⟩ := wk.yld i x H H' (hsm i σ H p) y
    subst e
    exact hs i x σ _ ex p
  · have e : i = xs.length := by omega
    subst e
    exact Or.inl ⟨wk.stop H (hsm _ σ H p), hd σ H p⟩
section
variable {P : Program} {w : World} {K : PySem.W.Frag} {mg : Str → Option Value} {base : Heap}
theorem lex1 {c d : Nat} : (!decide (([c] : List Nat) < [d])) = decide (d ≤ c) := by
  have e : (([c] : List Nat) < [d]) ↔ c < d := by
    rw [List.cons_lt_cons_iff]
    simp
  by_cases h : c < d
  · rw [decide_eq_true (e.mpr h), decide_eq_false (by omega)]
    rfl
  · rw [decide_eq_false (fun z => h (e.mp z)), decide_eq_true (by omega)]
    rfl
/-! is_kind: slots 0:value 1:letter -/
abbrev s_is_kind : Stmt := topS 16
theorem sc_is_kind : FnScope ["value", "letter"] ["value"] (defScope s_is_kind) := ⟨rfl, rfl, rfl, by decide +kernel, rfl, by decide +kernel, by decide +kernel⟩
def sp_is_kind : Sp := fun vs H Q _ => ∃ z : Str, vs = [.str z] ∧ KindOk z ∧ ∀ H', Same H H' → Q (.bl true) H'
theorem ok_is_kind (D : Df K mg "is_kind" s_is_kind) (T : Tx mg) : Has P w K mg base 1 "is_kind" ["value"] sp_is_kind := by
  refine has_of D sc_is_kind (fun _ _ _ _ _ _ us hl => match us, hl with | [_], _ => rfl) (fun vs H Q E h => ?_) (fun f cdv A outer s H vs Q E hr h => ?_)
  · obtain ⟨n, rfl, _⟩ := h
    rfl
  · obtain ⟨z, rfl, ⟨k1, k2, k3⟩, q⟩ := h
    refine ⟨_, (pss_cons (ps_if (PW.pt (pw_or (pt_not (pt_val (pe_callB call_isi (by rfl) T.n_isinstance (by decide +kernel) (pa_cons (pv 0) (pa_cons (pe_bltn (v := .ty "str") (by rfl) T.n_str (by decide +kernel) rfl) pa_nil))))) (pw_or1 (pt_not (pt_chain op_le op_le pe_int (pe_callB call_len_str (by rfl) T.n_len (by decide +kernel) (pa_cons (pv 0) pa_nil)) (pe_glI T.c_MAX_LETTERS (by rfl))))))) (pss_one (ps_ret pe_bl)) pss_nil)
    (pss_one (ps_ret (pe_callB (cr_all rfl) (by rfl) T.n_all (by decide +kernel) (pa_cons (pe_lc (own := [("letter", 1)]) rfl sc_is_kind.nd (pi_str (pv 0)) (blkOk_by (N := ["value", "letter"]) (sc := defScope s_is_kind) (by decide +kernel)) (fun _ _ _ _ _ => (pg_name (i := 1) sc_is_kind.nd rfl (by first | exact Or.inl rfl | exact Or.inr rfl))) (fun _ _ _ _ _ => pts_nil) (fun _ _ _ _ _ => (pe_chain op_le_str op_le_str pe_str (pv 1) pe_str))) pa_nil))))), ?_⟩
    refine ⟨_, rfl, _, _, _, _, true, rfl, .ty "str", .base (.str z), kit_ty (by decide +kernel), true, rfl, iteF ?_⟩
    refine ⟨_, rfl, z, rfl, smallE (by omega), _, _, rfl, rfl, _, rfl, iteP (decide_eq_true (by omega)) ⟨_, _, rfl, rfl, _, rfl, iteN ?_ ?_⟩⟩
    · show (!decide ((z.length : Int) ≤ 8)) = false
      rw [decide_eq_true (by omega)]
      rfl
    refine ⟨_, rfl, z, rfl, fun L nL => lc_gen (n := z.cps.size) (fun i H' => Same H H' ∧ H' L = some (.lst ((List.replicate i true).map V.bl))) ⟨same_upd nL, upd_same⟩ (fun i H' hi _ => hi) (fun H' _ => Nat.le_refl _) (fun i x H1 H2 hi p y => ?_) (fun H' p => ?_)⟩
    · obtain ⟨rfl, c, ec, rfl⟩ := y
      obtain ⟨sm, hL⟩ := p
      have hc : 97 ≤ c ∧ c ≤ 122 := k3 c (by
        have := Array.mem_of_getElem? ec
        simpa using this)
      have ea : ("a" : Str).cps.toList = [97] := by decide +kernel
      have ez : ("z" : Str).cps.toList = [122] := by decide +kernel
      refine ⟨rfl, yesT ⟨_, rfl, _, _, rfl, rfl, _, rfl, iteP ?_ ⟨_, _, rfl, rfl, _, hL, ?_, ?_, ?_⟩⟩⟩
      · show (!decide (([c] : List Nat) < ("a" : Str).cps.toList)) = true
        rw [ea, lex1]
        exact decide_eq_true hc.1
      · simp only [List.length_map, List.length_replicate]
        exact small (by have : z.cps.size = z.length := rfl; omega)
      · intro b o e
        have nb : b ≠ L := ne_of_none e nL
        rw [upd_ne nb]
        exact sm b o e
      · rw [upd_same]
        have e1 : (!decide ((("z" : Str).cps.toList) < ([c] : List Nat))) = true := by
          rw [ez, lex1]
          exact decide_eq_true hc.2
        show some (HO.lst ((List.replicate i true).map V.bl ++ [V.bl (!decide ((("z" : Str).cps.toList) < ([c] : List Nat)))])) = _
        rw [e1, List.replicate_succ', List.map_append]
        rfl
    · refine ⟨L, _, rfl, .of p.2, ?_⟩
      have e : ((List.replicate z.cps.size true).all id) = true := by simp
      rw [e]
      exact q H' p.1
def StOk (st : Option Run) : Prop := ∀ r, st = some r → KindOk r.1 ∧ 1 ≤ r.2
theorem at0 {α : Type} {x y : α} : atI [x, y] 0 = some x := rfl
theorem at1 {α : Type} {x y : α} : atI [x, y] 1 = some y := rfl
theorem ix0 {K : PySem.W.Frag} {H : Hp} {t : Addr} {x y : V} {Q : VK} (h : Sq2 H t [x, y]) (q : Q x H) : rIx K (.ref t) (.int 0) H Q := h.elim (fun z => .inl ⟨t, _, 0, _, rfl, rfl, .of z, at0, q⟩) (fun z => .inr (.inl ⟨t, _, 0, _, rfl, rfl, .of z, at0, q⟩))
theorem ix1 {K : PySem.W.Frag} {H : Hp} {t : Addr} {x y : V} {Q : VK} (h : Sq2 H t [x, y]) (q : Q y H) : rIx K (.ref t) (.int 1) H Q := h.elim (fun z => .inl ⟨t, _, 1, _, rfl, rfl, .of z, at1, q⟩) (fun z => .inr (.inl ⟨t, _, 1, _, rfl, rfl, .of z, at1, q⟩))
theorem all_rep (n : Nat) : ((List.replicate n true).all id) = true := by simp
/-! is_run: slots 0:value -/
abbrev s_is_run : Stmt := topS 17
theorem sc_is_run : FnScope ["value"] ["value"] (defScope s_is_run) := ⟨rfl, rfl, rfl, by decide +kernel, rfl, by decide +kernel, by decide +kernel⟩
def sp_is_run : Sp := fun vs H Q _ => ∃ (v : V) (r : Run), vs = [v] ∧ RunG H v r ∧ RunOk r ∧ ∀ H', Same H H' → Q (.bl true) H'
theorem ok_is_run (D : Df K mg "is_run" s_is_run) (T : Tx mg) (G_is_couple : Has P w K mg base 1 "is_couple" ["value"] sp_is_couple) (G_is_kind : Has P w K mg base 1 "is_kind" ["value"] sp_is_kind) (G_is_within : Has P w K mg base 2 "is_within" ["value", "low", "high"] sp_is_within) :
    Has P w K mg base 3 "is_run" ["value"] sp_is_run := by
  refine has_of D sc_is_run (fun _ _ _ _ _ _ us hl => match us, hl with | [_], _ => rfl) (fun vs H Q E h => ?_) (fun f cdv A outer s H vs Q E hr h => ?_)
  · obtain ⟨v, r, rfl, _⟩ := h
    rfl
  · obtain ⟨v, r, rfl, ⟨t, rfl, ht⟩, ⟨k, c1, c2⟩, q⟩ := h
    refine ⟨_, (pss_one (ps_ret (pe_and (pe_callH G_is_couple (hr.mono (by omega)) (by rfl) (pa_cons (pv 0) pa_nil)) (pe_and (pe_callH G_is_kind (hr.mono (by omega)) (by rfl) (pa_cons (pe_ix ix_seq (pv 0) pe_int (fun _ _ => rfl)) pa_nil)) (pe_one (pe_callH G_is_within (hr.mono (by omega)) (by rfl) (pa_cons (pe_ix ix_seq (pv 0) pe_int (fun _ _ => rfl)) (pa_cons pe_int (pa_cons (pe_glI T.c_MAX_COUNT (by rfl)) pa_nil))))))))), ?_⟩
    refine ⟨_, rfl, t, _, rfl, ht, rfl, fun H1 s1 => ⟨true, rfl, iteT ?_⟩⟩
    refine ⟨_, rfl, ix0 (ht.same s1) ⟨r.1, rfl, k, fun H2 s2 => ⟨true, rfl, iteT ?_⟩⟩⟩
    refine ⟨_, rfl, ix1 ((ht.same s1).same s2) ⟨r.2, 1, _, rfl, ?_⟩⟩
    rw [decide_eq_true ⟨c1, c2⟩]
    exact q _ (s1.trans s2)
/-! is_state: slots 0:value -/
abbrev s_is_state : Stmt := topS 19
theorem sc_is_state : FnScope ["value"] ["value"] (defScope s_is_state) := ⟨rfl, rfl, rfl, by decide +kernel, rfl, by decide +kernel, by decide +kernel⟩
def sp_is_state : Sp := fun vs H Q _ => ∃ (v : V) (st : Option Run), vs = [v] ∧ StG H v st ∧ StOk st ∧ ∀ H', Same H H' → Q (.bl true) H'
theorem ok_is_state (D : Df K mg "is_state" s_is_state) (T : Tx mg) (G_is_couple : Has P w K mg base 1 "is_couple" ["value"] sp_is_couple) (G_is_kind : Has P w K mg base 1 "is_kind" ["value"] sp_is_kind) (G_is_whole : Has P w K mg base 1 "is_whole" ["value"] sp_is_whole) :
    Has P w K mg base 2 "is_state" ["value"] sp_is_state := by
  refine has_of D sc_is_state (fun _ _ _ _ _ _ us hl => match us, hl with | [_], _ => rfl) (fun vs H Q E h => ?_) (fun f cdv A outer s H vs Q E hr h => ?_)
  · obtain ⟨v, r, rfl, _⟩ := h
    rfl
  · obtain ⟨v, st, rfl, hv, ok, q⟩ := h
    refine ⟨_, (pss_cons (ps_if (pt_cmpR op_isN (pv 0) pe_non (nomark _)) (pss_one (ps_ret pe_bl)) pss_nil)
    (pss_one (ps_ret (pe_and (pe_callH G_is_couple (hr.mono (by omega)) (by rfl) (pa_cons (pv 0) pa_nil)) (pe_and (pe_callH G_is_kind (hr.mono (by omega)) (by rfl) (pa_cons (pe_ix ix_seq (pv 0) pe_int (fun _ _ => rfl)) pa_nil)) (pe_and (pe_callH G_is_whole (hr.mono (by omega)) (by rfl) (pa_cons (pe_ix ix_seq (pv 0) pe_int (fun _ _ => rfl)) pa_nil)) (pe_one (pe_cmpR op_ge (pe_ix ix_seq (pv 0) pe_int (fun _ _ => rfl)) pe_int (nomark _))))))))), ?_⟩
    cases st with
    | none =>
      cases hv
      exact ⟨_, rfl, rfl, _, rfl, iteP rfl (q H (Same.refl H))⟩
    | some r =>
      obtain ⟨t, rfl, ht⟩ := hv
      obtain ⟨k, c1⟩ := ok r rfl
      refine ⟨_, rfl, rfl, _, rfl, iteN rfl ?_⟩
      refine ⟨_, rfl, t, _, rfl, ht, rfl, fun H1 s1 => ⟨true, rfl, iteT ?_⟩⟩
      refine ⟨_, rfl, ix0 (ht.same s1) ⟨r.1, rfl, k, fun H2 s2 => ⟨true, rfl, iteT ?_⟩⟩⟩
      refine ⟨_, rfl, ix1 ((ht.same s1).same s2) ⟨r.2, rfl, true, rfl, iteT ?_⟩⟩
      refine ⟨_, rfl, ix1 ((ht.same s1).same s2) ⟨_, _, rfl, rfl, ?_⟩⟩
      show Q (.bl (decide (1 ≤ r.2))) H2
      rw [decide_eq_true c1]
      exact q _ (s1.trans s2)
/-! is_sequence: slots 0:value 1:run 2:following -/
abbrev s_is_sequence : Stmt := topS 18
theorem sc_is_sequence : FnScope ["value", "run", "following"] ["value"] (defScope s_is_sequence) := ⟨rfl, rfl, rfl, by decide +kernel, rfl, by decide +kernel, by decide +kernel⟩
def sp_is_sequence : Sp := fun vs H Q _ => ∃ (v : V) (rs : List Run), vs = [v] ∧ RunsG H v rs ∧ SeqOk rs ∧ ∀ H', Same H H' → Q (.bl true) H'
theorem ok_is_sequence (D : Df K mg "is_sequence" s_is_sequence) (T : Tx mg) (G_is_listed : Has P w K mg base 1 "is_listed" ["value", "most"] sp_is_listed) (G_is_run : Has P w K mg base 3 "is_run" ["value"] sp_is_run) :
    Has P w K mg base 4 "is_sequence" ["value"] sp_is_sequence := by
  refine has_of D sc_is_sequence (fun _ _ _ _ _ _ us hl => match us, hl with | [_], _ => rfl) (fun vs H Q E h => ?_) (fun f cdv A outer s H vs Q E hr h => ?_)
  · obtain ⟨v, r, rfl, _⟩ := h
    rfl
  · obtain ⟨v, rs, rfl, ⟨a, xs, rfl, hx, hp⟩, ⟨l4, rok, alt⟩, q⟩ := h
    have lx : xs.length = rs.length := Paired.len hp
    refine ⟨_, (pss_cons (ps_if (PW.pt (pw_or (pt_not (pt_val (pe_callH G_is_listed (hr.mono (by omega)) (by rfl) (pa_cons (pv 0) (pa_cons (pe_glI T.c_MAX_RUNS (by rfl)) pa_nil))))) (pw_or1 (pt_not (pt_val (pe_callB (cr_all rfl) (by rfl) T.n_all (by decide +kernel) (pa_cons (pe_lc (own := [("run", 1)]) rfl sc_is_sequence.nd (pi_seqV 0) (blkOk_by (N := ["value", "run", "following"]) (sc := defScope s_is_sequence) (by decide +kernel)) (fun _ _ _ _ _ => (pg_name (i := 1) sc_is_sequence.nd rfl (by first | exact Or.inl rfl | exact Or.inr rfl))) (fun _ _ _ _ _ => pts_nil) (fun _ _ _ _ _ => (pe_callH G_is_run (hr.mono (by omega)) (by rfl) (pa_cons (pv 1) pa_nil)))) pa_nil))))))) (pss_one (ps_ret pe_bl)) pss_nil)
    (pss_one (ps_ret (pe_callB (cr_all rfl) (by rfl) T.n_all (by decide +kernel) (pa_cons (pe_lc (own := [("run", 1), ("following", 2)]) rfl sc_is_sequence.nd (pi_zip1 (i := 0) (RZ.pi_zipA (by rfl) T.n_zip (pa_cons (pv 0) (pa_cons (pe_slice (SlR.or sl_list sl_tupA) (pv 0) (po_some pe_int) po_none) pa_nil))) (fun _ _ _ q => ⟨1, rfl, q⟩) (fun _ _ _ q => q)) (blkOk_by (N := ["value", "run", "following"]) (sc := defScope s_is_sequence) (by decide +kernel)) (fun _ _ _ _ _ => (pg_tupK (K := K) (n := 2) rfl rfl (pgs_cons (pg_name (i := 1) sc_is_sequence.nd rfl (by first | exact Or.inl rfl | exact Or.inr rfl)) (pgs_cons (pg_name (i := 2) sc_is_sequence.nd rfl (by first | exact Or.inl rfl | exact Or.inr rfl)) pgs_nil)))) (fun _ _ _ _ _ => pts_nil) (fun _ _ _ _ _ => (pe_cmpR op_ne (pe_ix (ix_seqK (K := K) rfl) (pv 1) pe_int (fun _ _ => rfl)) (pe_ix (ix_seqK (K := K) rfl) (pv 2) pe_int (fun _ _ => rfl)) (nomark _)))) pa_nil))))), ?_⟩
    refine ⟨_, rfl, a, xs, 400, rfl, hx, fun H1 s1 => ⟨_, rfl, iteN ?_ ?_⟩⟩
    · show (!decide ((xs.length : Int) ≤ 400)) = false
      rw [decide_eq_true (by omega)]
      rfl
    refine ⟨a, xs, rfl, hx.same s1, fun J wk L nL => lc_wk wk (fun i H' => Same H1 H' ∧ H' L = some (.lst ((List.replicate i true).map V.bl))) (fun _ _ p => p.1) ⟨same_upd nL, upd_same⟩ (fun i x H2 ex p => ?_) (fun H2 p => ?_)⟩
    · obtain ⟨sm, hL⟩ := p
      obtain ⟨r, er, hr1⟩ := Paired.at hp ex
      have hi : i < xs.length := (List.getElem?_eq_some_iff.mp ex).1
      refine ⟨rfl, yesT ⟨_, rfl, x, r, rfl, RunG.same (s1.trans sm) hr1, rok r (List.mem_of_getElem? er), fun H3 s3 => ⟨_, s3 _ _ hL, ?_, same_grow nL (sm.trans s3), ?_⟩⟩⟩
      · simp only [List.length_map, List.length_replicate]
        exact small (by omega)
      · rw [upd_same, List.replicate_succ', List.map_append]
        rfl
    · refine ⟨L, _, rfl, .of p.2, _, rfl, iteN ?_ ?_⟩
      · rw [all_rep]
        rfl
      have s2 : Same H H2 := s1.trans p.1
      refine ⟨a, xs, rfl, hx.same s2, fun J Hc sc wk M nM => ?_⟩
      have sA : Same H Hc := s2.trans sc
      refine lc_gen (n := xs.length - 1) (fun i H' => Same Hc H' ∧ H' M = some (.lst ((List.replicate i true).map V.bl))) ⟨same_upd nM, upd_same⟩ (fun i H' hi p => wk.go i H' p.1 (by omega)) (fun H' p => wk.stop H' p.1) (fun i x H3 H4 hi p y => ?_) (fun H' p => ?_)
      · obtain ⟨T', x1, x2, rfl, nT, rfl, g1, g2⟩ := wk.yld i x H3 H4 p.1 y
        obtain ⟨sm, hM⟩ := p
        have g2 := g2 (by omega)
        have sB : Same H H3 := sA.trans sm
        obtain ⟨r1, e1, v1⟩ := Paired.at hp g1
        obtain ⟨r2, e2, v2⟩ := Paired.at hp g2
        obtain ⟨t1, rfl, w1⟩ := RunG.same (sB.trans (same_upd (o := .tup [x1, x2]) nT)) v1
        obtain ⟨t2, rfl, w2⟩ := RunG.same (sB.trans (same_upd (o := .tup [_, x2]) nT)) v2
        refine ⟨T', _, rfl, .of upd_same, rfl, _, _, rfl, _, _, rfl, rfl, rfl, yesT ?_⟩
        refine ⟨_, rfl, ix0 w1 ⟨_, rfl, ix0 w2 ⟨rfl, _, same_upd nT _ _ hM, ?_, same_grow nM (sm.trans (same_upd nT)), ?_⟩⟩⟩
        · simp only [List.length_map, List.length_replicate]
          exact small (by omega)
        · rw [upd_same, List.replicate_succ', List.map_append]
          have ne : (!decide (V.str r1.1 = V.str r2.1)) = true := by
            rw [decide_eq_false (fun z => alt i r1 r2 e1 e2 (V.str.inj z))]
            rfl
          rw [ne]
          rfl
      · refine ⟨M, _, rfl, .of p.2, ?_⟩
        rw [all_rep]
        exact q _ (sA.trans p.1)
/-! checked_runs: slots 0:sequence 1:kind 2:count -/
abbrev s_checked_runs : Stmt := topS 20
theorem sc_checked_runs : FnScope ["sequence", "kind", "count"] ["sequence"] (defScope s_checked_runs) := ⟨rfl, rfl, rfl, by decide +kernel, rfl, by decide +kernel, by decide +kernel⟩
def sp_checked_runs : Sp := fun vs H Q _ => ∃ (v : V) (rs : List Run), vs = [v] ∧ RunsG H v rs ∧ SeqOk rs ∧ ∀ H' p, Same H H' → H p = none → Runs H' p rs → Q (.ref p) H'
theorem ok_checked_runs (D : Df K mg "checked_runs" s_checked_runs) (T : Tx mg) (G_is_sequence : Has P w K mg base 4 "is_sequence" ["value"] sp_is_sequence) :
    Has P w K mg base 5 "checked_runs" ["sequence"] sp_checked_runs := by
  refine has_of D sc_checked_runs (fun _ _ _ _ _ _ us hl => match us, hl with | [_], _ => rfl) (fun vs H Q E h => ?_) (fun f cdv A outer s H vs Q E hr h => ?_)
  · obtain ⟨v, r, rfl, _⟩ := h
    rfl
  · obtain ⟨v, rs, rfl, hR, ok, q⟩ := h
    refine ⟨_, (pss_cons (ps_if (pt_not (pt_val (pe_callH G_is_sequence (hr.mono (by omega)) (by rfl) (pa_cons (pv 0) pa_nil)))) (pss_one ps_never) pss_nil)
    (pss_one (ps_ret (pe_lc (own := [("kind", 1), ("count", 2)]) rfl sc_checked_runs.nd (pi_seqV 0) (blkOk_by (N := ["sequence", "kind", "count"]) (sc := defScope s_checked_runs) (by decide +kernel)) (fun _ _ _ _ _ => (pg_any (n := 2) rfl (pgs_cons (pg_name (i := 1) sc_checked_runs.nd rfl (by first | exact Or.inl rfl | exact Or.inr rfl)) (pgs_cons (pg_name (i := 2) sc_checked_runs.nd rfl (by first | exact Or.inl rfl | exact Or.inr rfl)) pgs_nil)))) (fun _ _ _ _ _ => pts_nil) (fun _ _ _ _ _ => (pe_tup (pa_cons (pv 1) (pa_cons (pv 2) pa_nil)))))))), ?_⟩
    refine ⟨_, rfl, v, rs, rfl, hR, ok, fun H1 s1 => ⟨true, rfl, iteF ?_⟩⟩
    obtain ⟨a, xs, rfl, hx, hp⟩ := hR
    have lx : xs.length = rs.length := Paired.len hp
    refine ⟨a, xs, rfl, hx.same s1, fun J wk L nL => lc_wk wk (fun i H' => Same H1 H' ∧ ∃ ys, H' L = some (.lst ys) ∧ Paired (RunV H') ys (rs.take i)) (fun _ _ p => p.1) ⟨same_upd nL, [], upd_same, .nil⟩ (fun i x H2 ex p => ?_) (fun H2 p => ?_)⟩
    · obtain ⟨sm, ys, hL, hy⟩ := p
      obtain ⟨r, er, hr1⟩ := Paired.at hp ex
      have hi : i < xs.length := (List.getElem?_eq_some_iff.mp ex).1
      obtain ⟨t, rfl, ht⟩ := RunG.same (s1.trans sm) hr1
      refine ⟨t, _, rfl, ht, rfl, _, _, rfl, _, _, rfl, rfl, rfl, yesT ⟨_, rfl, _, rfl, (by show 2 ≤ sizeLine; decide), fun n nn => ⟨_, same_upd nn _ _ hL, ?_, same_grow nL (sm.trans (same_upd nn)), _, upd_same, ?_⟩⟩⟩
      · have := Paired.len hy
        rw [List.length_take] at this
        exact small (by have := ok.1; omega)
      · rw [take_snoc er]
        refine Paired.app (prs_grow (same_upd nn _ _ hL) (prs_same (same_upd nn) hy)) (.cons ?_ .nil)
        exact RunV.grow (same_upd nn _ _ hL) ⟨n, rfl, upd_same⟩
    · obtain ⟨sm, ys, hL, hy⟩ := p
      rw [lx, List.take_length] at hy
      exact q H2 L (s1.trans sm) (s1.free nL) ⟨ys, hL, hy⟩
/-! checked_state: slots 0:state -/
abbrev s_checked_state : Stmt := topS 23
theorem sc_checked_state : FnScope ["state"] ["state"] (defScope s_checked_state) := ⟨rfl, rfl, rfl, by decide +kernel, rfl, by decide +kernel, by decide +kernel⟩
def sp_checked_state : Sp := fun vs H Q _ => ∃ (v : V) (st : Option Run), vs = [v] ∧ StG H v st ∧ StOk st ∧ ∀ H' v', Same H H' → StV H' v' st → Q v' H'
theorem ok_checked_state (D : Df K mg "checked_state" s_checked_state) (T : Tx mg) (G_is_state : Has P w K mg base 2 "is_state" ["value"] sp_is_state) :
    Has P w K mg base 3 "checked_state" ["state"] sp_checked_state := by
  refine has_of D sc_checked_state (fun _ _ _ _ _ _ us hl => match us, hl with | [_], _ => rfl) (fun vs H Q E h => ?_) (fun f cdv A outer s H vs Q E hr h => ?_)
  · obtain ⟨v, r, rfl, _⟩ := h
    rfl
  · obtain ⟨v, st, rfl, hv, ok, q⟩ := h
    refine ⟨_, (pss_cons (ps_if (pt_not (pt_val (pe_callH G_is_state (hr.mono (by omega)) (by rfl) (pa_cons (pv 0) pa_nil)))) (pss_one ps_never) pss_nil)
    (pss_one (ps_ret (pe_ifExp (pt_cmpR op_isN (pv 0) pe_non (nomark _)) pe_non (pe_callTy call_tuple_of (by rfl) T.n_tuple (by decide +kernel) (pa_cons (pv 0) pa_nil)))))), ?_⟩
    refine ⟨_, rfl, v, st, rfl, hv, ok, fun H1 s1 => ⟨true, rfl, iteF ?_⟩⟩
    cases st with
    | none =>
      cases hv
      exact ⟨_, rfl, rfl, _, rfl, iteP rfl (q H1 _ s1 rfl)⟩
    | some r =>
      obtain ⟨t, rfl, ht⟩ := hv
      refine ⟨_, rfl, rfl, _, rfl, iteN rfl ⟨_, rfl, t, [.str r.1, .int r.2], rfl, ?_⟩⟩
      rcases ht.same s1 with z | z
      · exact .inl ⟨.of z, fun l nl => q _ _ (s1.trans (same_upd nl)) ⟨l, rfl, upd_same⟩⟩
      · exact .inr ⟨.of z, q H1 _ s1 ⟨t, rfl, z⟩⟩
end
end UP

set_option Elab.async false
set_option linter.all false
set_option maxRecDepth 100000
set_option maxHeartbeats 4000000
namespace UP
open PySem PySem.Spec PyProof.Rows L2
section
variable {P : Program} {w : World} {K : PySem.W.Frag} {mg : Str → Option Value} {base : Heap}
def lenR (rs : List Run) : Int := (rs.map (·.2)).sum
/-! length_of: slots 0:runs 1:kind 2:count -/
abbrev s_length_of : Stmt := topS 24
theorem sc_length_of : FnScope ["runs", "kind", "count"] ["runs"] (defScope s_length_of) := ⟨rfl, rfl, rfl, by decide +kernel, rfl, by decide +kernel, by decide +kernel⟩
def sp_length_of : Sp := fun vs H Q _ => ∃ (a : Addr) (rs : List Run), vs = [.ref a] ∧ Runs H a rs ∧ rs.length ≤ 1000 ∧ ∀ H', Same H H' → Q (.int (lenR rs)) H'
theorem ok_length_of (D : Df K mg "length_of" s_length_of) (T : Tx mg) : Has P w K mg base 1 "length_of" ["runs"] sp_length_of := by
  refine has_of D sc_length_of (fun _ _ _ _ _ _ us hl => match us, hl with | [_], _ => rfl) (fun vs H Q E h => ?_) (fun f cdv A outer s H vs Q E hr h => ?_)
  · obtain ⟨v, r, rfl, _⟩ := h
    rfl
  · obtain ⟨a, rs, rfl, ⟨xs, hx, hp⟩, l4, q⟩ := h
    have lx : xs.length = rs.length := Paired.len hp
    refine ⟨_, (pss_one (ps_ret (pe_callB (cr_sum rfl) (by rfl) T.n_sum (by decide +kernel) (pa_cons (pe_lc (own := [("kind", 1), ("count", 2)]) rfl sc_length_of.nd (pi_list (pv 0)) (blkOk_by (N := ["runs", "kind", "count"]) (sc := defScope s_length_of) (by decide +kernel)) (fun _ _ _ _ _ => (pg_tupK (K := K) (n := 2) rfl rfl (pgs_cons (pg_name (i := 1) sc_length_of.nd rfl (by first | exact Or.inl rfl | exact Or.inr rfl)) (pgs_cons (pg_name (i := 2) sc_length_of.nd rfl (by first | exact Or.inl rfl | exact Or.inr rfl)) pgs_nil)))) (fun _ _ _ _ _ => pts_nil) (fun _ _ _ _ _ => (pv 2))) pa_nil)))), ?_⟩
    refine ⟨_, rfl, a, rfl, ⟨xs, .of hx⟩, fun L nL => lc_list (K := K) (a := a) (xs := xs) (fun i H' => Same H H' ∧ H' L = some (.lst (((rs.map (·.2)).take i).map V.int))) ⟨same_upd nL, upd_same⟩ (fun i H' _ p => .of (p.1 _ _ hx)) (fun i x H2 ex p => ?_) (fun H2 p => ?_)⟩
    · obtain ⟨sm, hL⟩ := p
      obtain ⟨r, er, hr1⟩ := Paired.at hp ex
      have hi : i < xs.length := (List.getElem?_eq_some_iff.mp ex).1
      obtain ⟨t, rfl, ht⟩ := RunV.same sm hr1
      refine ⟨t, _, rfl, .of ht, rfl, _, _, rfl, _, _, rfl, rfl, rfl, yesT ⟨_, rfl, _, hL, ?_, same_grow nL sm, ?_⟩⟩
      · simp only [List.length_map, List.length_take]
        exact small (by omega)
      · rw [upd_same, take_snoc (x := r.2) (by rw [List.getElem?_map, er]; rfl), List.map_append]
        rfl
    · refine ⟨L, (rs.map (fun r : Run => r.2)), rfl, .of ?_, q H2 p.1⟩
      have := p.2
      rw [List.take_of_length_le (by rw [List.length_map]; omega)] at this
      exact this
end
end UP

set_option Elab.async false
set_option linter.all false
set_option maxRecDepth 100000
set_option maxHeartbeats 4000000
namespace UP
open PySem PySem.Spec PyProof.Rows L2
/-! ### the mirror of cut -/
theorem lenR_nil : lenR [] = 0 := rfl
theorem lenR_cons (r : Run) (l : List Run) : lenR (r :: l) = r.2 + lenR l := by
  unfold lenR
  rw [List.map_cons, List.sum_cons]
theorem lenR_app (l m : List Run) : lenR (l ++ m) = lenR l + lenR m := by
  induction l with
  | nil => rw [List.nil_append, lenR_nil]; omega
  | cons r t ih => rw [List.cons_append, lenR_cons, lenR_cons, ih]; omega
theorem lenR_snoc (l : List Run) (r : Run) : lenR (l ++ [r]) = lenR l + r.2 := by
  rw [lenR_app, lenR_cons, lenR_nil]
  omega
def sizeR (b s e c : Int) : Int := (if b + c < e then b + c else e) - (if b > s then b else s)
def pieceR (b s e : Int) (r : Run) : List Run := if 0 < sizeR b s e r.2 then [(r.1, sizeR b s e r.2)] else []
def cutR (s e : Int) : Int → List Run → List Run
  | _, [] => []
  | b, r :: t => pieceR b s e r ++ cutR s e (b + r.2) t
theorem cutR_snoc (s e : Int) : ∀ (l : List Run) (b : Int) (r : Run), cutR s e b (l ++ [r]) = cutR s e b l ++ pieceR (b + lenR l) s e r
  | [], b, r => by
    show pieceR b s e r ++ [] = [] ++ pieceR (b + lenR []) s e r
    rw [lenR_nil, Int.add_zero, List.append_nil, List.nil_append]
  | x :: t, b, r => by
    show pieceR b s e x ++ cutR s e (b + x.2) (t ++ [r]) = (pieceR b s e x ++ cutR s e (b + x.2) t) ++ pieceR (b + lenR (x :: t)) s e r
    rw [cutR_snoc s e t, lenR_cons, List.append_assoc, Int.add_assoc]
theorem pieceR_len (b s e : Int) (r : Run) : (pieceR b s e r).length ≤ 1 := by
  unfold pieceR
  split <;> simp
theorem cutR_len (s e : Int) : ∀ (l : List Run) (b : Int), (cutR s e b l).length ≤ l.length
  | [], _ => Nat.le_refl _
  | r :: t, b => by
    show (pieceR b s e r ++ cutR s e (b + r.2) t).length ≤ (r :: t).length
    have h1 := pieceR_len b s e r
    have h2 := cutR_len s e t (b + r.2)
    rw [List.length_append, List.length_cons]
    omega
section
variable {P : Program} {w : World} {K : PySem.W.Frag} {mg : Str → Option Value} {base : Heap}
/-! cut: slots 0:runs 1:start 2:length 3:end 4:part 5:before 6:kind 7:count 8:after 9:size -/
abbrev s_cut : Stmt := topS 25
theorem sc_cut : FnScope ["runs", "start", "length", "end", "part", "before", "kind", "count", "after", "size"] ["runs", "start", "length"] (defScope s_cut) := ⟨rfl, rfl, rfl, by decide +kernel, rfl, by decide +kernel, by decide +kernel⟩
def sp_cut : Sp := fun vs H Q _ => ∃ (a : Addr) (rs : List Run) (s l : Int), vs = [.ref a, .int s, .int l] ∧ Runs H a rs ∧ rs.length ≤ 1000 ∧ ∀ H' p, Same H H' → H p = none → Runs H' p (cutR s (s + l) 0 rs) → Q (.ref p) H'
theorem ok_cut (D : Df K mg "cut" s_cut) (T : Tx mg) : Has P w K mg base 1 "cut" ["runs", "start", "length"] sp_cut := by
  refine has_of D sc_cut (fun _ _ _ _ _ _ us hl => match us, hl with | [_, _, _], _ => rfl) (fun vs H Q E h => ?_) (fun f cdv A outer s₀ H vs Q E hr h => ?_)
  · obtain ⟨a, rs, s, l, rfl, _⟩ := h
    rfl
  · obtain ⟨a, rs, s, l, rfl, ⟨xs, hx, hp⟩, l4, q⟩ := h
    have lx : xs.length = rs.length := Paired.len hp
    refine ⟨_, (pss_cons (ps_set (i := 3) sc_cut.nd rfl (by first | exact Or.inl rfl | exact Or.inr rfl) (pe_op op_add (pv 1) (pv 2)))
    (pss_cons (ps_set (i := 4) sc_cut.nd rfl (by first | exact Or.inl rfl | exact Or.inr rfl) (pe_lst pa_nil))
    (pss_cons (ps_set (i := 5) sc_cut.nd rfl (by first | exact Or.inl rfl | exact Or.inr rfl) pe_int)
    (pss_cons (ps_for PassesOwn.never rfl (pi_list (pv 0)) (pg_tup rfl (pgs_cons (pg_name (i := 6) sc_cut.nd rfl (by first | exact Or.inl rfl | exact Or.inr rfl)) (pgs_cons (pg_name (i := 7) sc_cut.nd rfl (by first | exact Or.inl rfl | exact Or.inr rfl)) pgs_nil)))
      (pss_cons (ps_set (i := 8) sc_cut.nd rfl (by first | exact Or.inl rfl | exact Or.inr rfl) (pe_op op_add (pv 5) (pv 7)))
    (pss_cons (ps_set (i := 9) sc_cut.nd rfl (by first | exact Or.inl rfl | exact Or.inr rfl) (pe_op op_sub (pe_callB (call_min2 rfl) (by rfl) T.n_min (by decide +kernel) (pa_cons (pv 3) (pa_cons (pv 8) pa_nil))) (pe_callB (call_max2 rfl) (by rfl) T.n_max (by decide +kernel) (pa_cons (pv 1) (pa_cons (pv 5) pa_nil)))))
    (pss_cons (ps_if (pt_cmpR op_gt (pv 9) pe_int (nomark _)) (pss_one (ps_expr (pe_bm PySem.F.plainAttrs_list PySem.F.slot_list_append PySem.F.type_list_append mt_append (pv 4) (pa_cons (pe_tup (pa_cons (pv 6) (pa_cons (pv 9) pa_nil))) pa_nil)))) pss_nil)
    (pss_one (ps_set (i := 5) sc_cut.nd rfl (by first | exact Or.inl rfl | exact Or.inr rfl) (pv 8)))))))
    (pss_one (ps_ret (pv 4))))))), ?_⟩
    refine ⟨_, rfl, _, rfl, _, _, rfl, rfl, Nat.zero_le _, fun p np => ?_⟩
    refine ⟨_, rfl, a, rfl, ⟨xs, .of (same_upd np _ _ hx)⟩, for_list (K := K) (a := a) (xs := xs) (fun i σ H' => ∃ b y6 y7 y8 y9, b = lenR (rs.take i) ∧ σ = [some (.ref a), some (.int s), some (.int l), some (.int (s + l)), some (.ref p), some (.int b), y6, y7, y8, y9] ∧ Same H H' ∧ ∃ ys, H' p = some (.lst ys) ∧ Paired (RunV H') ys (cutR s (s + l) 0 (rs.take i)))
      ⟨0, none, none, none, none, rfl, rfl, same_upd np, [], upd_same, .nil⟩ (fun i σ H' _ hP => ?_) (fun i x σ H1 ex hP => ?_) (fun σ H1 hP => ?_)⟩
    · obtain ⟨_, _, _, _, _, _, _, sm, _⟩ := hP
      exact .of (sm _ _ hx)
    · obtain ⟨b, y6, y7, y8, y9, rfl, rfl, sm, ys, hL, hy⟩ := hP
      obtain ⟨r, er, hr1⟩ := Paired.at hp ex
      have hi : i < xs.length := (List.getElem?_eq_some_iff.mp ex).1
      obtain ⟨t, rfl, ht⟩ := RunV.same sm hr1
      have el : lenR (rs.take (i + 1)) = lenR (rs.take i) + r.2 := by rw [take_snoc er, lenR_snoc]
      have ec : cutR s (s + l) 0 (rs.take (i + 1)) = cutR s (s + l) 0 (rs.take i) ++ pieceR (lenR (rs.take i)) s (s + l) r := by
        rw [take_snoc er, cutR_snoc, Int.zero_add]
      refine ⟨t, _, rfl, .of ht, rfl, _, _, rfl, _, _, rfl, rfl, ?_⟩
      refine ⟨_, rfl, _, rfl, _, _, rfl, rfl, ?_⟩
      refine ⟨_, rfl, _, rfl, _, _, rfl, _, rfl, _, rfl, _, _, rfl, _, _, rfl, rfl, ?_⟩
      refine ⟨_, rfl, _, _, rfl, rfl, _, rfl, ite2 (fun e => ?_) (fun e => ?_)⟩
      · have e : 0 < sizeR (lenR (rs.take i)) s (s + l) r.2 := of_decide_eq_true e
        have epc : pieceR (lenR (rs.take i)) s (s + l) r = [(r.1, sizeR (lenR (rs.take i)) s (s + l) r.2)] := if_pos e
        refine ⟨_, rfl, .inl ⟨rfl, _, SqL.of hL⟩, _, rfl, _, rfl, (by show 2 ≤ sizeLine; decide), fun n nn => ⟨p, _, _, rfl, rfl, same_upd nn _ _ hL, ?_, ?_⟩⟩
        · have h1 := Paired.len hy
          have h2 := cutR_len s (s + l) (rs.take i) 0
          rw [List.length_take] at h2
          exact small (by omega)
        · refine ⟨_, rfl, _, _, _, _, _, el.symm, rfl, same_grow np (sm.trans (same_upd nn)), _, upd_same, ?_⟩
          · rw [ec, epc]
            exact Paired.app (prs_grow (same_upd nn _ _ hL) (prs_same (same_upd nn) hy)) (.cons (RunV.grow (same_upd nn _ _ hL) ⟨n, rfl, upd_same⟩) .nil)
      · have e : ¬ 0 < sizeR (lenR (rs.take i)) s (s + l) r.2 := fun z => e (decide_eq_true z)
        have epc : pieceR (lenR (rs.take i)) s (s + l) r = [] := if_neg e
        refine ⟨_, rfl, _, _, _, _, _, el.symm, rfl, sm, _, hL, ?_⟩
        · rw [ec, epc, List.append_nil]
          exact hy
    · obtain ⟨b, y6, y7, y8, y9, rfl, rfl, sm, ys, hL, hy⟩ := hP
      rw [lx, List.take_length] at hy
      exact ⟨_, rfl, q H1 p sm np ⟨ys, hL, hy⟩⟩
end
end UP

set_option Elab.async false
set_option linter.all false
set_option maxRecDepth 100000
set_option maxHeartbeats 4000000
namespace UP
open PySem PySem.Spec PyProof.Rows L2
/-! ### the mirror of the states -/
def numR : Option Run → Int
  | none => 0
  | some r => r.2
def leavR : Option Run → Str → Int → Int
  | none, _, _ => 0
  | some r, k, c => if r.1 = k then 0 else if c < r.2 then c else r.2
def stepR : Option Run → Str → Int → Option Run
  | some r, k, c => if r.1 = k then some (k, r.2 + c) else if 0 < r.2 - c then some (r.1, r.2 - c) else if r.2 - c = 0 then none else some (k, -(r.2 - c))
  | none, k, c => some (k, c)
def withR (k : Str) (n : Int) : Option Run := if n = 0 then none else some (k, n)
def stR (rs : List Run) (st : Option Run) : Option Run := rs.foldl (fun s r => stepR s r.1 r.2) st
theorem stR_snoc (l : List Run) (r : Run) (st : Option Run) : stR (l ++ [r]) st = stepR (stR l st) r.1 r.2 := by
  unfold stR
  rw [List.foldl_append]
  rfl
section
variable {P : Program} {w : World} {K : PySem.W.Frag} {mg : Str → Option Value} {base : Heap}
/-! waiting_number: slots 0:state -/
abbrev s_waiting_number : Stmt := topS 27
theorem sc_waiting_number : FnScope ["state"] ["state"] (defScope s_waiting_number) := ⟨rfl, rfl, rfl, by decide +kernel, rfl, by decide +kernel, by decide +kernel⟩
def sp_waiting_number : Sp := fun vs H Q _ => ∃ (v : V) (st : Option Run), vs = [v] ∧ StV H v st ∧ Q (.int (numR st)) H
theorem ok_waiting_number (D : Df K mg "waiting_number" s_waiting_number) : Has P w K mg base 1 "waiting_number" ["state"] sp_waiting_number := by
  refine has_of D sc_waiting_number (fun _ _ _ _ _ _ us hl => match us, hl with | [_], _ => rfl) (fun vs H Q E h => ?_) (fun f cdv A outer s₀ H vs Q E hr h => ?_)
  · obtain ⟨a, rs, rfl, _⟩ := h
    rfl
  · obtain ⟨v, st, rfl, hv, q⟩ := h
    refine ⟨_, (pss_one (ps_ret (pe_ifExp (pt_cmpR op_isN (pv 0) pe_non (nomark _)) pe_int (pe_ix ix_tup (pv 0) pe_int (fun _ _ => rfl))))), ?_⟩
    cases st with
    | none =>
      cases hv
      exact ⟨_, rfl, rfl, _, rfl, iteP rfl q⟩
    | some r =>
      obtain ⟨t, rfl, ht⟩ := hv
      exact ⟨_, rfl, rfl, _, rfl, iteN rfl ⟨_, rfl, t, _, 1, _, rfl, rfl, .of ht, at1, q⟩⟩
/-! leaving_number: slots 0:state 1:kind 2:count -/
abbrev s_leaving_number : Stmt := topS 29
theorem sc_leaving_number : FnScope ["state", "kind", "count"] ["state", "kind", "count"] (defScope s_leaving_number) := ⟨rfl, rfl, rfl, by decide +kernel, rfl, by decide +kernel, by decide +kernel⟩
def sp_leaving_number : Sp := fun vs H Q _ => ∃ (v : V) (st : Option Run) (k : Str) (c : Int), vs = [v, .str k, .int c] ∧ StV H v st ∧ Q (.int (leavR st k c)) H
theorem ok_leaving_number (D : Df K mg "leaving_number" s_leaving_number) (T : Tx mg) : Has P w K mg base 1 "leaving_number" ["state", "kind", "count"] sp_leaving_number := by
  refine has_of D sc_leaving_number (fun _ _ _ _ _ _ us hl => match us, hl with | [_, _, _], _ => rfl) (fun vs H Q E h => ?_) (fun f cdv A outer s₀ H vs Q E hr h => ?_)
  · obtain ⟨a, rs, _, _, rfl, _⟩ := h
    rfl
  · obtain ⟨v, st, k, c, rfl, hv, q⟩ := h
    refine ⟨_, (pss_cons (ps_if (PW.pt (pw_or (pt_cmpR op_isN (pv 0) pe_non (nomark _)) (pw_or1 (pt_cmpR op_eq (pe_ix ix_tup (pv 0) pe_int (fun _ _ => rfl)) (pv 1) (nomark _))))) (pss_one (ps_ret pe_int)) pss_nil)
    (pss_one (ps_ret (pe_callB (call_min2 rfl) (by rfl) T.n_min (by decide +kernel) (pa_cons (pe_ix ix_tup (pv 0) pe_int (fun _ _ => rfl)) (pa_cons (pv 2) pa_nil)))))), ?_⟩
    cases st with
    | none =>
      cases hv
      exact ⟨_, rfl, rfl, _, rfl, iteP rfl (iteT q)⟩
    | some r =>
      obtain ⟨t, rfl, ht⟩ := hv
      refine ⟨_, rfl, rfl, _, rfl, iteN rfl ⟨_, rfl, t, _, 0, _, rfl, rfl, .of ht, at0, _, rfl, rfl, _, rfl, ?_⟩⟩
      by_cases e : r.1 = k
      · refine iteP (by rw [e]; exact decide_eq_true rfl) ?_
        rw [show leavR (some r) k c = 0 from if_pos e] at q
        exact q
      · refine iteN (decide_eq_false fun z => e (V.str.inj z)) ⟨_, rfl, t, _, 1, _, rfl, rfl, .of ht, at1, _, rfl, _, _, rfl, ?_⟩
        rw [show leavR (some r) k c = if c < r.2 then c else r.2 from if_neg e] at q
        exact q
/-! state_with: slots 0:kind 1:number -/
abbrev s_state_with : Stmt := topS 28
theorem sc_state_with : FnScope ["kind", "number"] ["kind", "number"] (defScope s_state_with) := ⟨rfl, rfl, rfl, by decide +kernel, rfl, by decide +kernel, by decide +kernel⟩
def sp_state_with : Sp := fun vs H Q _ => ∃ (k : Str) (n : Int), vs = [.str k, .int n] ∧ ∀ H' v', Same H H' → StV H' v' (withR k n) → Q v' H'
theorem ok_state_with (D : Df K mg "state_with" s_state_with) : Has P w K mg base 1 "state_with" ["kind", "number"] sp_state_with := by
  refine has_of D sc_state_with (fun _ _ _ _ _ _ us hl => match us, hl with | [_, _], _ => rfl) (fun vs H Q E h => ?_) (fun f cdv A outer s₀ H vs Q E hr h => ?_)
  · obtain ⟨k, n, rfl, _⟩ := h
    rfl
  · obtain ⟨k, n, rfl, q⟩ := h
    refine ⟨_, (pss_one (ps_ret (pe_ifExp (pt_cmpR op_eq (pv 1) pe_int (nomark _)) pe_non (pe_tup (pa_cons (pv 0) (pa_cons (pv 1) pa_nil)))))), ?_⟩
    refine ⟨_, rfl, rfl, _, rfl, ?_⟩
    by_cases e : n = 0
    · rw [show withR k n = none from if_pos e] at q
      exact iteP (decide_eq_true (by rw [e])) (q _ _ (Same.refl _) rfl)
    · rw [show withR k n = some (k, n) from if_neg e] at q
      refine iteN (decide_eq_false fun z => e (V.int.inj z)) ?_
      exact ⟨_, rfl, _, rfl, (by show 2 ≤ sizeLine; decide), fun n' nn => q _ _ (same_upd nn) ⟨n', rfl, upd_same⟩⟩
/-! state_after_run: slots 0:state 1:kind 2:count 3:left_over -/
abbrev s_state_after_run : Stmt := topS 30
theorem sc_state_after_run : FnScope ["state", "kind", "count", "left_over"] ["state", "kind", "count"] (defScope s_state_after_run) := ⟨rfl, rfl, rfl, by decide +kernel, rfl, by decide +kernel, by decide +kernel⟩
def sp_state_after_run : Sp := fun vs H Q _ => ∃ (v : V) (st : Option Run) (k : Str) (c : Int), vs = [v, .str k, .int c] ∧ StV H v st ∧ 1 ≤ c ∧ ∀ H' v', Same H H' → StV H' v' (stepR st k c) → Q v' H'
theorem ok_state_after_run (D : Df K mg "state_after_run" s_state_after_run) (G_waiting_number : Has P w K mg base 1 "waiting_number" ["state"] sp_waiting_number) (G_state_with : Has P w K mg base 1 "state_with" ["kind", "number"] sp_state_with) : Has P w K mg base 2 "state_after_run" ["state", "kind", "count"] sp_state_after_run := by
  refine has_of D sc_state_after_run (fun _ _ _ _ _ _ us hl => match us, hl with | [_, _, _], _ => rfl) (fun vs H Q E h => ?_) (fun f cdv A outer s₀ H vs Q E hr h => ?_)
  · obtain ⟨a, rs, _, _, rfl, _⟩ := h
    rfl
  · obtain ⟨v, st, k, c, rfl, hv, hc, q⟩ := h
    refine ⟨_, (pss_cons (ps_if (PW.pt (pw_and (pt_cmpR op_notN (pv 0) pe_non (nomark _)) (pw_and1 (pt_cmpR op_eq (pe_ix ix_tup (pv 0) pe_int (fun _ _ => rfl)) (pv 1) (nomark _))))) (pss_one (ps_ret (pe_tup (pa_cons (pv 1) (pa_cons (pe_op op_add (pe_ix ix_tup (pv 0) pe_int (fun _ _ => rfl)) (pv 2)) pa_nil))))) pss_nil)
    (pss_cons (ps_set (i := 3) sc_state_after_run.nd rfl (by first | exact Or.inl rfl | exact Or.inr rfl) (pe_op op_sub (pe_callH G_waiting_number (hr.mono (by omega)) (by rfl) (pa_cons (pv 0) pa_nil)) (pv 2)))
    (pss_cons (ps_if (pt_cmpR op_gt (pv 3) pe_int (nomark _)) (pss_one (ps_ret (pe_tup (pa_cons (pe_ix ix_tup (pv 0) pe_int (fun _ _ => rfl)) (pa_cons (pv 3) pa_nil))))) pss_nil)
    (pss_one (ps_ret (pe_callH G_state_with (hr.mono (by omega)) (by rfl) (pa_cons (pv 1) (pa_cons (pe_un un_neg (pv 3)) pa_nil)))))))), ?_⟩
    cases st with
    | none =>
      cases hv
      refine ⟨_, rfl, rfl, _, rfl, iteN rfl (iteF ?_)⟩
      refine ⟨_, rfl, _, none, rfl, rfl, _, rfl, _, _, rfl, rfl, ?_⟩
      refine ⟨_, rfl, _, _, rfl, rfl, _, rfl, iteN (decide_eq_false (by show ¬ (0 : Int) < 0 - c; omega)) ?_⟩
      refine ⟨_, rfl, _, rfl, _, rfl, k, -(0 - c), rfl, fun H' v' s h => q H' v' s ?_⟩
      have e : withR k (-(0 - c)) = some (k, c) := by
        unfold withR
        rw [if_neg (by omega), show -(0 - c) = c by omega]
      rw [e] at h
      exact h
    | some r =>
      obtain ⟨t, rfl, ht⟩ := hv
      refine ⟨_, rfl, rfl, _, rfl, iteP rfl ⟨_, rfl, t, _, 0, _, rfl, rfl, .of ht, at0, _, rfl, rfl, _, rfl, ?_⟩⟩
      by_cases e : r.1 = k
      · have es : stepR (some r) k c = some (k, r.2 + c) := if_pos e
        rw [es] at q
        refine iteP (by rw [e]; exact decide_eq_true rfl) ?_
        exact ⟨_, rfl, _, rfl, t, _, 1, _, rfl, rfl, .of ht, at1, _, rfl, _, _, rfl, rfl, (by show 2 ≤ sizeLine; decide), fun n nn => q _ _ (same_upd nn) ⟨n, rfl, upd_same⟩⟩
      · refine iteN (decide_eq_false fun z => e (V.str.inj z)) ?_
        have es : stepR (some r) k c = if 0 < r.2 - c then some (r.1, r.2 - c) else if r.2 - c = 0 then none else some (k, -(r.2 - c)) := if_neg e
        rw [es] at q
        refine ⟨_, rfl, _, some r, rfl, ⟨t, rfl, ht⟩, _, rfl, _, _, rfl, rfl, ?_⟩
        refine ⟨_, rfl, _, _, rfl, rfl, _, rfl, ?_⟩
        by_cases e1 : 0 < r.2 - c
        · rw [if_pos e1] at q
          refine iteP (decide_eq_true e1) ?_
          exact ⟨_, rfl, t, _, 0, _, rfl, rfl, .of ht, at0, _, rfl, (by show 2 ≤ sizeLine; decide), fun n nn => q _ _ (same_upd nn) ⟨n, rfl, upd_same⟩⟩
        · rw [if_neg e1] at q
          refine iteN (decide_eq_false e1) ⟨_, rfl, _, rfl, _, rfl, k, -(r.2 - c), rfl, fun H' v' s h => q H' v' s ?_⟩
          have e3 : withR k (-(r.2 - c)) = if r.2 - c = 0 then none else some (k, -(r.2 - c)) := by
            unfold withR
            by_cases e2 : r.2 - c = 0
            · rw [if_pos e2, if_pos (by omega)]
            · rw [if_neg e2, if_neg (by omega)]
          rw [e3] at h
          exact h
/-! state_after_runs: slots 0:runs 1:state 2:kind 3:count -/
abbrev s_state_after_runs : Stmt := topS 31
theorem sc_state_after_runs : FnScope ["runs", "state", "kind", "count"] ["runs", "state"] (defScope s_state_after_runs) := ⟨rfl, rfl, rfl, by decide +kernel, rfl, by decide +kernel, by decide +kernel⟩
def sp_state_after_runs : Sp := fun vs H Q _ => ∃ (a : Addr) (rs : List Run) (v : V) (st : Option Run), vs = [.ref a, v] ∧ Runs H a rs ∧ (∀ r ∈ rs, 1 ≤ r.2) ∧ StV H v st ∧ ∀ H' v', Same H H' → StV H' v' (stR rs st) → Q v' H'
theorem ok_state_after_runs (D : Df K mg "state_after_runs" s_state_after_runs) (G_state_after_run : Has P w K mg base 2 "state_after_run" ["state", "kind", "count"] sp_state_after_run) : Has P w K mg base 3 "state_after_runs" ["runs", "state"] sp_state_after_runs := by
  refine has_of D sc_state_after_runs (fun _ _ _ _ _ _ us hl => match us, hl with | [_, _], _ => rfl) (fun vs H Q E h => ?_) (fun f cdv A outer s₀ H vs Q E hr h => ?_)
  · obtain ⟨a, rs, _, _, rfl, _⟩ := h
    rfl
  · obtain ⟨a, rs, v, st, rfl, ⟨xs, hx, hp⟩, pos, hv, q⟩ := h
    have lx : xs.length = rs.length := Paired.len hp
    refine ⟨_, (pss_cons (ps_for PassesOwn.never rfl (pi_list (pv 0)) (pg_tup rfl (pgs_cons (pg_name (i := 2) sc_state_after_runs.nd rfl (by first | exact Or.inl rfl | exact Or.inr rfl)) (pgs_cons (pg_name (i := 3) sc_state_after_runs.nd rfl (by first | exact Or.inl rfl | exact Or.inr rfl)) pgs_nil)))
      (pss_one (ps_set (i := 1) sc_state_after_runs.nd rfl (by first | exact Or.inl rfl | exact Or.inr rfl) (pe_callH G_state_after_run (hr.mono (by omega)) (by rfl) (pa_cons (pv 1) (pa_cons (pv 2) (pa_cons (pv 3) pa_nil)))))))
    (pss_one (ps_ret (pv 1)))), ?_⟩
    refine ⟨_, rfl, a, rfl, ⟨xs, .of hx⟩, for_list (K := K) (a := a) (xs := xs) (fun i σ H' => ∃ v' y2 y3, σ = [some (.ref a), some v', y2, y3] ∧ Same H H' ∧ StV H' v' (stR (rs.take i) st))
      ⟨v, none, none, rfl, Same.refl H, hv⟩ (fun i σ H' _ hP => ?_) (fun i x σ H1 ex hP => ?_) (fun σ H1 hP => ?_)⟩
    · obtain ⟨_, _, _, _, sm, _⟩ := hP
      exact .of (sm _ _ hx)
    · obtain ⟨v', y2, y3, rfl, sm, hv'⟩ := hP
      obtain ⟨r, er, hr1⟩ := Paired.at hp ex
      obtain ⟨t, rfl, ht⟩ := RunV.same sm hr1
      refine ⟨t, _, rfl, .of ht, rfl, _, _, rfl, _, _, rfl, rfl, ?_⟩
      refine ⟨_, rfl, _, rfl, _, rfl, v', _, r.1, r.2, rfl, hv', pos r (List.mem_of_getElem? er), fun H2 v2 s2 h2 => ⟨v2, _, _, rfl, sm.trans s2, ?_⟩⟩
      rw [take_snoc er, stR_snoc]
      exact h2
    · obtain ⟨v', y2, y3, rfl, sm, hv'⟩ := hP
      rw [lx, List.take_length] at hv'
      exact ⟨_, rfl, q H1 v' sm hv'⟩
/-! check_moment: slots 0:runs 1:moment -/
abbrev s_check_moment : Stmt := topS 32
theorem sc_check_moment : FnScope ["runs", "moment"] ["runs", "moment"] (defScope s_check_moment) := ⟨rfl, rfl, rfl, by decide +kernel, rfl, by decide +kernel, by decide +kernel⟩
def sp_check_moment : Sp := fun vs H Q _ => ∃ (a : Addr) (rs : List Run) (m : Int), vs = [.ref a, .int m] ∧ Runs H a rs ∧ rs.length ≤ 1000 ∧ 0 ≤ m ∧ m ≤ lenR rs ∧ ∀ H', Same H H' → Q .non H'
theorem ok_check_moment (D : Df K mg "check_moment" s_check_moment) (G_is_within : Has P w K mg base 2 "is_within" ["value", "low", "high"] sp_is_within) (G_length_of : Has P w K mg base 1 "length_of" ["runs"] sp_length_of) : Has P w K mg base 3 "check_moment" ["runs", "moment"] sp_check_moment := by
  refine has_of D sc_check_moment (fun _ _ _ _ _ _ us hl => match us, hl with | [_, _], _ => rfl) (fun vs H Q E h => ?_) (fun f cdv A outer s₀ H vs Q E hr h => ?_)
  · obtain ⟨a, rs, _, rfl, _⟩ := h
    rfl
  · obtain ⟨a, rs, m, rfl, hR, l4, h0, h1, q⟩ := h
    refine ⟨_, (pss_one (ps_if (pt_not (pt_val (pe_callH G_is_within (hr.mono (by omega)) (by rfl) (pa_cons (pv 1) (pa_cons pe_int (pa_cons (pe_callH G_length_of (hr.mono (by omega)) (by rfl) (pa_cons (pv 0) pa_nil)) pa_nil)))))) (pss_one ps_never) pss_nil)), ?_⟩
    refine ⟨_, rfl, _, rfl, a, rs, rfl, hR, l4, fun H2 s2 => ⟨m, 0, _, rfl, _, rfl, iteN ?_ (q H2 s2)⟩⟩
    rw [decide_eq_true (by omega)]
    rfl
/-! check_position: slots 0:runs 1:position -/
abbrev s_check_position : Stmt := topS 22
theorem sc_check_position : FnScope ["runs", "position"] ["runs", "position"] (defScope s_check_position) := ⟨rfl, rfl, rfl, by decide +kernel, rfl, by decide +kernel, by decide +kernel⟩
def sp_check_position : Sp := fun vs H Q _ => ∃ (a : Addr) (rs : List Run) (m : Int), vs = [.ref a, .int m] ∧ Runs H a rs ∧ rs.length ≤ 1000 ∧ 0 ≤ m ∧ m < lenR rs ∧ ∀ H', Same H H' → Q .non H'
theorem ok_check_position (D : Df K mg "check_position" s_check_position) (G_is_within : Has P w K mg base 2 "is_within" ["value", "low", "high"] sp_is_within) (G_length_of : Has P w K mg base 1 "length_of" ["runs"] sp_length_of) : Has P w K mg base 3 "check_position" ["runs", "position"] sp_check_position := by
  refine has_of D sc_check_position (fun _ _ _ _ _ _ us hl => match us, hl with | [_, _], _ => rfl) (fun vs H Q E h => ?_) (fun f cdv A outer s₀ H vs Q E hr h => ?_)
  · obtain ⟨a, rs, _, rfl, _⟩ := h
    rfl
  · obtain ⟨a, rs, m, rfl, hR, l4, h0, h1, q⟩ := h
    refine ⟨_, (pss_one (ps_if (pt_not (pt_val (pe_callH G_is_within (hr.mono (by omega)) (by rfl) (pa_cons (pv 1) (pa_cons pe_int (pa_cons (pe_op op_sub (pe_callH G_length_of (hr.mono (by omega)) (by rfl) (pa_cons (pv 0) pa_nil)) pe_int) pa_nil)))))) (pss_one ps_never) pss_nil)), ?_⟩
    refine ⟨_, rfl, _, rfl, a, rs, rfl, hR, l4, fun H2 s2 => ⟨_, _, rfl, rfl, m, 0, _, rfl, _, rfl, iteN ?_ (q H2 s2)⟩⟩
    rw [decide_eq_true (by omega)]
    rfl
end
end UP

set_option Elab.async false
set_option linter.all false
set_option maxRecDepth 100000
set_option maxHeartbeats 4000000
namespace UP
open PySem PySem.Spec PyProof.Rows L2
def DfD (K : PySem.W.Frag) (mg : Str → Option Value) (x : Str) (st : Stmt) (dvs : List V) : Prop := ∃ f fd, mg x = some (.ref f) ∧ FunD K x x (defArgs st) (defBody st) (defScope st) dvs [] f fd
/-- a def whose last parameter, kw, has the default None -/
def HasD (P : Program) (w : World) (K : PySem.W.Frag) (mg : Str → Option Value) (base : Heap) (k : Nat) (x : Str) (ps : List Str) (n : Nat) (kw : Str) (sp : Sp) : Prop :=
  ∃ f fd, mg x = some (.ref f) ∧ PySem.W.keepIn K (.ref f) = true ∧ Binds K fd ps [] ∧ (∃ ds, Vals [.non] ds ∧ Binds K fd ps ds) ∧ KBn K fd ps n [kw] (fun us ws => us ++ ws) (fun vs zs => vs ++ zs) ∧ FnOk P w K mg base CX0 k f fd ps sp
section
variable {P : Program} {w : World} {K : PySem.W.Frag} {mg : Str → Option Value} {base : Heap}
theorem HasD.has {k n : Nat} {x kw : Str} {ps : List Str} {sp : Sp} (h : HasD P w K mg base k x ps n kw sp) : Has P w K mg base k x ps sp := by
  obtain ⟨f, fd, g, kp, b, _, _, F⟩ := h
  exact ⟨f, fd, g, kp, b, F⟩
theorem has_ofD {x kw : Str} {st : Stmt} {ps N : List Str} {k n : Nat} {sp : Sp} (D : DfD K mg x st [.non]) (S : FnScope N ps (defScope st)) (hpn : ps.length = n + 1)
    (hb : ∀ (T : Addr) (kV doc pm : Value) (an : Option Addr) (cdv ct : Value) (us its : List Value), us.length = n + 1 → its.length = 1 →
      ∃ k, bindArgs (PySem.W.fnOf x x (defArgs st) (defBody st) (defScope st) (.ref T) kV doc pm an cdv ct) ⟨us, []⟩ = seqItems? (.ref T) >>= k ∧ k (some its.toArray) = pure (ps.zip us))
    (hb1 : ∀ (T : Addr) (kV doc pm : Value) (an : Option Addr) (cdv ct : Value) (us its : List Value), us.length = n → its.length = 1 →
      ∃ k, bindArgs (PySem.W.fnOf x x (defArgs st) (defBody st) (defScope st) (.ref T) kV doc pm an cdv ct) ⟨us, []⟩ = seqItems? (.ref T) >>= k ∧ k (some its.toArray) = pure (ps.zip (us ++ its)))
    (hb2 : ∀ (T : Addr) (kV doc pm : Value) (an : Option Addr) (cdv ct : Value) (us its : List Value) (v : Value), us.length = n → its.length = 1 →
      ∃ k, bindArgs (PySem.W.fnOf x x (defArgs st) (defBody st) (defScope st) (.ref T) kV doc pm an cdv ct) ⟨us, [(kw, v)]⟩ = seqItems? (.ref T) >>= k ∧ k (some its.toArray) = pure (ps.zip (us ++ [v])))
    (len : ∀ vs H Q E, sp vs H Q E → vs.length = ps.length)
    (body : ∀ (f : Addr) (cdv : Value) (A : Around) (outer : List Env) (s : Shared) (H : Hp) (vs : List V) (Q : VK) (E : XK), Room k (A.deeper (envOfC x (defScope st) s.heap.objs.size f cdv)) → sp vs H Q E →
      ∃ t, PSs (cxOf CX0 P w K mg base N x (defScope st) f cdv A outer s H E).nox (defBody st) t ∧ t { nx := fun _ H' => Q .non H', rt := Q } (start N vs) H) :
    HasD P w K mg base (k + 1) x ps n kw sp := by
  obtain ⟨f, fd, g, F⟩ := D
  have B0 : Binds K fd ps [] := by
    obtain ⟨ds, v, b⟩ := F.binds1 (n + 1) 1 (ps := ps) (by intro z; cases z) (by rw [hpn]; rfl) fun T kV doc pm an cdv ct us its h1 h2 => by
      obtain ⟨k, e1, e2⟩ := hb T kV doc pm an cdv ct us its h1 h2
      refine ⟨k, e1, ?_⟩
      have h3 : its.length ≤ 1 := Nat.le_of_eq h2
      rw [e2, List.drop_of_length_le h3, List.append_nil]
    cases v
    exact b
  have B1 : ∃ ds, Vals [V.non] ds ∧ Binds K fd ps ds := by
    obtain ⟨ds, v, b⟩ := F.binds1 n 0 (ps := ps) (by intro z; cases z) (by rw [hpn]; rfl) fun T kV doc pm an cdv ct us its h1 h2 => by
      obtain ⟨k, e1, e2⟩ := hb1 T kV doc pm an cdv ct us its h1 h2
      exact ⟨k, e1, by rw [e2, List.drop_zero]⟩
    exact ⟨ds, v, b⟩
  have B2 : KBn K fd ps n [kw] (fun us ws => us ++ ws) (fun vs zs => vs ++ zs) := by
    refine ⟨fun s us ws X l1 l2 => ?_, fun r1 r2 => r1.append r2⟩
    obtain ⟨oc, od, dV, kV, doc, pm, an, cdv, ct, osl, rfl, lk, hcd, hD, _⟩ := F.ex
    rcases hD with ⟨z, _⟩ | ⟨_, T, o, its, m, rfl, lT, oT, rT⟩
    · cases z
    · match ws, l2 with
      | [v], _ =>
        obtain ⟨k, e1, e2⟩ := hb2 T kV doc pm an cdv ct us its v l1 rT.length.symm
        refine BindsTo.of_looks fun M => ?_
        show PySem.W.Looks M s.heap (bindArgs _ ⟨us, [(kw, v)]⟩) _
        rw [e1]
        exact looks_items X lT oT (.of_pure e2)
  refine ⟨f, fd, g, F.kp, B0, B1, B2, F.ok S len fun cdv A outer s H vs Q E hr h => ?_⟩
  obtain ⟨t, p, q⟩ := body f cdv A outer s H vs Q E hr h
  exact ⟨t, p.nox, q⟩
end
section
variable {X : Cx}
/-- the default taken -/
theorem pe_callDH {k n : Nat} {x kw : Str} {ps : List Str} {sp : Sp} {p pos : Pos} {e : Expr} {es : List Expr} {t : TA} (G : HasD X.prog X.w X.K X.mg X.base k x ps n kw sp) (hr : Room k X.A) (hg : Gl X x) (ha : PA X (e :: es) t)
    (hdb : (x == ("__debug__" : Str)) = false := by decide) (he : starEach (e :: es) X.env = (false, eval e X.env) :: starEach es X.env := by rfl) (hpl : (backTo pos (starEach es X.env)).any (·.1) = false := by rfl) :
    PE X (.Call (.Name x p) (e :: es) [] pos) (tCall sp [.non] E0 t) := by
  obtain ⟨f, fd, g, kp, _, ⟨ds, v, b⟩, _, F⟩ := G
  exact pe_call F hr hg g kp b v pass0 ha hdb he hpl
/-- the last one by its name -/
theorem pe_callNH {k n : Nat} {x kw : Str} {ps : List Str} {sp : Sp} {p pos : Pos} {e : Expr} {es : List Expr} {kws : List Keyword} {t tk : TA} (G : HasD X.prog X.w X.K X.mg X.base k x ps n kw sp) (hr : Room k X.A) (hg : Gl X x) (ha : PA X (e :: es) t) (hk : PK X kws tk)
    (h1 : (backToKw pos (keywordEach kws X.env)).all (·.1.isSome) = true := by rfl) (h2 : (backToKw pos (keywordEach kws X.env)).filterMap (·.1) = [kw] := by rfl) (hdb : (x == ("__debug__" : Str)) = false := by decide)
    (he : starEach (e :: es) X.env = (false, eval e X.env) :: starEach es X.env := by rfl) (hpl : ((backTo pos (starEach (e :: es) X.env)).any (·.1) || (backToKw pos (keywordEach kws X.env)).any (·.1.isNone)) = false := by rfl) :
    PE X (.Call (.Name x p) (e :: es) kws pos) (tCallN n 1 sp (fun vs zs => vs ++ zs) E0 t tk) := by
  obtain ⟨f, fd, g, kp, _, _, b, F⟩ := G
  exact pe_callN F hr hg g kp b pass0 ha hk h1 h2 hdb he hpl
end
section
variable {P : Program} {w : World} {K : PySem.W.Frag} {mg : Str → Option Value} {base : Heap}
theorem SeqOk.pos {rs : List Run} (h : SeqOk rs) : ∀ r ∈ rs, 1 ≤ r.2 := fun r m => (h.2.1 r m).2.1
theorem pieceR_pos {b s e : Int} {r x : Run} (h : x ∈ pieceR b s e r) : 1 ≤ x.2 := by
  unfold pieceR at h
  split at h
  · rename_i z
    simp only [List.mem_singleton] at h
    subst h
    show 1 ≤ sizeR b s e r.2
    omega
  · cases h
theorem cutR_pos {s e : Int} : ∀ {l : List Run} {b : Int}, ∀ x ∈ cutR s e b l, 1 ≤ x.2
  | [], _, x, h => by cases h
  | r :: t, b, x, h => by
    rcases List.mem_append.mp (show x ∈ pieceR b s e r ++ cutR s e (b + r.2) t from h) with h | h
    · exact pieceR_pos h
    · exact cutR_pos x h
/-! state_after: slots 0:sequence 1:state 2:runs -/
abbrev s_state_after : Stmt := topS 37
theorem sc_state_after : FnScope ["sequence", "state", "runs"] ["sequence", "state"] (defScope s_state_after) := ⟨rfl, rfl, rfl, by decide +kernel, rfl, by decide +kernel, by decide +kernel⟩
def sp_state_after : Sp := fun vs H Q _ => ∃ (a : V) (rs : List Run) (v : V) (st : Option Run), vs = [a, v] ∧ RunsG H a rs ∧ SeqOk rs ∧ StG H v st ∧ StOk st ∧ ∀ H' v', Same H H' → StV H' v' (stR rs st) → Q v' H'
theorem ok_state_after (D : DfD K mg "state_after" s_state_after [.non]) (G_checked_runs : Has P w K mg base 5 "checked_runs" ["sequence"] sp_checked_runs) (G_checked_state : Has P w K mg base 3 "checked_state" ["state"] sp_checked_state) (G_state_after_runs : Has P w K mg base 3 "state_after_runs" ["runs", "state"] sp_state_after_runs) :
    HasD P w K mg base 6 "state_after" ["sequence", "state"] 1 "state" sp_state_after := by
  refine has_ofD D sc_state_after rfl (fun _ _ _ _ _ _ _ us its hl h1 => match us, hl, its, h1 with | [_, _], _, [_], _ => ⟨_, rfl, rfl⟩) (fun _ _ _ _ _ _ _ us its hl h1 => match us, hl, its, h1 with | [_], _, [_], _ => ⟨_, rfl, rfl⟩) (fun _ _ _ _ _ _ _ us its v hl h1 => match us, hl, its, h1 with | [_], _, [_], _ => ⟨_, rfl, rfl⟩) (fun vs H Q E h => ?_) (fun f cdv A outer s₀ H vs Q E hr h => ?_)
  · obtain ⟨a, rs, _, _, rfl, _⟩ := h
    rfl
  · obtain ⟨a, rs, v, st, rfl, hR, ok, hv, so, q⟩ := h
    refine ⟨_, (pss_cons (ps_set (i := 2) sc_state_after.nd rfl (by first | exact Or.inl rfl | exact Or.inr rfl) (pe_callH G_checked_runs (hr.mono (by omega)) (by rfl) (pa_cons (pv 0) pa_nil)))
    (pss_one (ps_ret (pe_callH G_state_after_runs (hr.mono (by omega)) (by rfl) (pa_cons (pv 2) (pa_cons (pe_callH G_checked_state (hr.mono (by omega)) (by rfl) (pa_cons (pv 1) pa_nil)) pa_nil)))))), ?_⟩
    refine ⟨_, rfl, a, rs, rfl, hR, ok, fun H1 p s1 np hp => ?_⟩
    refine ⟨_, rfl, _, rfl, v, st, rfl, hv.same s1, so, fun H2 v2 s2 h2 => ?_⟩
    exact ⟨p, rs, v2, st, rfl, hp.same s2, SeqOk.pos ok, h2, fun H3 v3 s3 h3 => q H3 v3 (s1.trans (s2.trans s3)) h3⟩
end
end UP

set_option Elab.async false
set_option linter.all false
set_option maxRecDepth 100000
set_option maxHeartbeats 4000000
namespace UP
open PySem PySem.Spec PyProof.Rows L2
section
variable {P : Program} {w : World} {K : PySem.W.Frag} {mg : Str → Option Value} {base : Heap}
end
end UP

set_option Elab.async false
set_option linter.all false
set_option maxRecDepth 100000
set_option maxHeartbeats 4000000
namespace UP
open PySem PySem.Spec PyProof.Rows L2
/-! ### data -/
def dRun (r : Run) : PyData := .tuple [.str r.1, .int r.2]
theorem dp_run {K : PySem.W.Frag} {H : Hp} {v : V} {r : Run} (h : RunV H v r) : Dp K H v (dRun r) := by
  obtain ⟨t, rfl, h⟩ := h
  exact .tup (.of h) (.cons (.str _) (.cons (.int _) .nil))
theorem dp_all {K : PySem.W.Frag} {H : Hp} : ∀ {xs : List V} {rs : List Run}, Paired (RunV H) xs rs → DpAll K H xs (rs.map dRun)
  | _, _, .nil => .nil
  | _, _, .cons h t => .cons (dp_run h) (dp_all t)
theorem KindOk.str {s : Str} (h : KindOk s) : PyData.strOk s = true := by
  unfold PyData.strOk
  rw [Array.all_eq_true']
  intro c hc
  have := h.2.2 c (by simpa using hc)
  exact decide_eq_true (by omega)
theorem can_run {r : Run} (h : KindOk r.1) : (dRun r).canLay0 = true := by
  simp [dRun, PyData.canLay0, PyData.canLayAll0, h.str]
theorem can_runs : ∀ {rs : List Run}, (∀ r ∈ rs, KindOk r.1) → PyData.canLayAll0 (rs.map dRun) = true
  | [], _ => by simp [PyData.canLayAll0]
  | r :: t, h => by
    rw [List.map_cons, PyData.canLayAll0, can_run (h r (List.mem_cons_self ..)), can_runs fun x hx => h x (List.mem_cons_of_mem _ hx)]
    rfl
theorem depth_run (r : Run) : (dRun r).depth ≤ 2 := by
  simp [dRun, PyData.depth, PyData.depthAll]
theorem depth_runs : ∀ (rs : List Run), PyData.depthAll (rs.map dRun) ≤ 2
  | [] => by simp [PyData.depthAll]
  | r :: t => by
    rw [List.map_cons, PyData.depthAll]
    exact Nat.max_le.mpr ⟨depth_run r, depth_runs t⟩
theorem shaped_runs {rs : List Run} (h : ∀ r ∈ rs, KindOk r.1) : SeqAt.shaped (.list (rs.map dRun)) = true := by
  unfold SeqAt.shaped
  rw [PyData.canLay0, can_runs h, PyData.depth]
  have := depth_runs rs
  exact decide_eq_true (by omega)
theorem shaped_run {r : Run} (h : KindOk r.1) : SeqAt.shaped (dRun r) = true := by
  unfold SeqAt.shaped
  rw [can_run h]
  have := depth_run r
  exact decide_eq_true (by omega)
theorem shaped_nil : SeqAt.shaped (.list []) = true := by decide
theorem eqv_nil (rs : List Run) : PyData.eqv (.list (rs.map dRun)) (.list []) = rs.isEmpty := by
  cases rs with
  | nil => simp [PyData.eqv, PyData.eqvAll]
  | cons r t => simp [PyData.eqv, PyData.eqvAll]
theorem sb {sp : Addr} {H H' : Hp} (h : Same H H') : But sp H H' := fun b o _ e => h b o e
theorem But.free {sp : Addr} {H H' : Hp} (b : But sp H H') (z : Spr H' sp) {p : Addr} (h : H' p = none) : H p = none := by
  by_cases e : p = sp
  · subst e
    obtain ⟨_, _, _, h1, _⟩ := z
    rw [h1] at h
    cases h
  · cases q : H p with
    | none => rfl
    | some o =>
      rw [b p o e q] at h
      cases h
theorem Spr.ne {sp p : Addr} {H : Hp} (z : Spr H sp) (h : H p = none) : p ≠ sp := by
  obtain ⟨_, _, _, h1, _⟩ := z
  exact fun e => by rw [e, h1] at h; cases h
instance (s : Str) : Decidable (KindOk s) := by
  unfold KindOk
  infer_instance
section
variable {P : Program} {w : World} {K : PySem.W.Frag} {mg : Str → Option Value} {base : Heap}
end
end UP

set_option Elab.async false
set_option linter.all false
set_option maxRecDepth 100000
set_option maxHeartbeats 4000000
namespace UP
open PySem PySem.Spec PyProof.Rows L2
theorem pe_bmK {X : Cx} {K : PySem.W.Frag} {e : Expr} {c : String} {r : V → List V → Hp → VK → Prop} {to : TE} {t : TA} (h : X.K = K) (p : PE X e (tBM X.K c r to t)) : PE X e (tBM K c r to t) := h ▸ p
theorem if_by {c : TT} {t u : TS} {D : Ends} {σ : L2.St} {H : Hp} (R : Bool → Hp → Prop) (h : ∀ Q' : Bool → Hp → Prop, (∀ b H', R b H' → Q' b H') → c σ H Q') (ht : ∀ H', R true H' → t D σ H') (hu : ∀ H', R false H' → u D σ H') : tIfS c t u D σ H := by
  refine h _ fun b H' r => ?_
  cases b with
  | true => exact iteT (ht H' r)
  | false => exact iteF (hu H' r)
theorem erase_map {α β : Type} (f : α → β) : ∀ (l : List α) (i : Nat), (l.map f).eraseIdx i = (l.eraseIdx i).map f
  | [], _ => rfl
  | x :: t, 0 => rfl
  | x :: t, i + 1 => by
    simp only [List.map_cons, List.eraseIdx_cons_succ]
    rw [erase_map f t i]
def eight : List Str := ["a", "b", "c", "ab", "zz", "abcdefgh", "aa", "z"]
theorem eight_ok : ∀ s ∈ eight, KindOk s := by decide +kernel
theorem alt_snoc {l : List Run} {x : Run} (h : Alt l) (k : ∀ y, l[l.length - 1]? = some y → y.1 ≠ x.1) : Alt (l ++ [x]) := by
  intro i a b ha hb
  by_cases h1 : i + 1 < l.length
  · rw [List.getElem?_append_left (by omega)] at ha
    rw [List.getElem?_append_left h1] at hb
    exact h i a b ha hb
  · by_cases h2 : i + 1 = l.length
    · rw [List.getElem?_append_left (by omega)] at ha
      rw [List.getElem?_append_right (by omega), h2, Nat.sub_self] at hb
      cases hb
      rw [show i = l.length - 1 by omega] at ha
      exact k a ha
    · rw [List.getElem?_append_right (by omega)] at hb
      rw [List.getElem?_eq_none (by simp; omega)] at hb
      cases hb
theorem pow62 {x : Int} (h0 : 0 ≤ x) (h1 : x ≤ 1000000) : -(2 ^ 62) ≤ x ∧ x < 2 ^ 62 := by omega
theorem wide8 {m : Int} (h0 : 0 ≤ m) (h1 : m ≤ 1000000000000000000000000000000000000000000000000000000000000) : m.natAbs < 2 ^ 8000 :=
  Nat.lt_of_lt_of_le (show m.natAbs < 2 ^ 256 by omega) (Nat.pow_le_pow_right (by decide) (by decide))
section
variable {P : Program} {w : World} {K : PySem.W.Frag} {mg : Str → Option Value} {base : Heap}
end
end UP

set_option Elab.async false
set_option linter.all false
set_option maxRecDepth 100000
set_option maxHeartbeats 4000000
namespace UP
open PySem PySem.Spec PyProof.Rows L2
def scR (t : Int) (rs : List Run) : List Run := rs.map fun r => (r.1, r.2 * t)
def toldR (ws : List Run) : Option Run := match ws with
  | [] => none
  | r :: _ => some (r.1, (ws.length : Int))
def repR (k : Str) (n : Int) : Option Run := if n = 0 then none else some (k, n)
theorem repR_zero (k : Str) : repR k 0 = none := if_pos rfl
theorem repR_pos {k : Str} {n : Int} (h : 0 < n) : repR k n = some (k, n) := if_neg (by omega)
def PosO (st : Option Run) : Prop := ∀ r, st = some r → 1 ≤ r.2
theorem stepR_pos {st : Option Run} {k : Str} {c : Int} (h : PosO st) (hc : 1 ≤ c) : PosO (stepR st k c) := by
  intro r e
  cases st with
  | none =>
    cases e
    exact hc
  | some x =>
    have hx := h x rfl
    have e : (if x.1 = k then some (k, x.2 + c) else if 0 < x.2 - c then some (x.1, x.2 - c) else if x.2 - c = 0 then none else some (k, -(x.2 - c))) = some r := e
    by_cases h1 : x.1 = k
    · rw [if_pos h1] at e
      cases e
      show 1 ≤ x.2 + c
      omega
    · rw [if_neg h1] at e
      by_cases h2 : 0 < x.2 - c
      · rw [if_pos h2] at e
        cases e
        show 1 ≤ x.2 - c
        omega
      · rw [if_neg h2] at e
        by_cases h3 : x.2 - c = 0
        · rw [if_pos h3] at e
          cases e
        · rw [if_neg h3] at e
          cases e
          show 1 ≤ -(x.2 - c)
          omega
theorem stR_cons (r : Run) (l : List Run) (st : Option Run) : stR (r :: l) st = stR l (stepR st r.1 r.2) := rfl
theorem stR_pos : ∀ {rs : List Run} {st : Option Run}, PosO st → (∀ r ∈ rs, 1 ≤ r.2) → PosO (stR rs st)
  | [], _, h, _ => h
  | r :: t, st, h, k => by
    rw [stR_cons]
    exact stR_pos (stepR_pos h (k r (List.mem_cons_self ..))) fun x hx => k x (List.mem_cons_of_mem _ hx)
theorem StOk.pos {st : Option Run} (h : StOk st) : PosO st := fun r e => (h r e).2
section
variable {P : Program} {w : World} {K : PySem.W.Frag} {mg : Str → Option Value} {base : Heap}
end
end UP

set_option Elab.async false
set_option linter.all false
set_option maxRecDepth 100000
set_option maxHeartbeats 4000000
namespace UP
open PySem PySem.Spec PyProof.Rows L2
/-! ### plain data, by depth -/
def Dsc (v : V) (d : PyData) : Prop := (v = .non ∧ d = .none) ∨ (∃ b, v = .bl b ∧ d = .bool b) ∨ (∃ i, v = .int i ∧ d = .int i) ∨ ∃ s, v = .str s ∧ d = .str s
def Dt (H : Hp) : Nat → V → PyData → Prop
  | 0, v, d => Dsc v d
  | n + 1, v, d => Dsc v d ∨ (∃ a xs ds, v = .ref a ∧ H a = some (.lst xs) ∧ d = .list ds ∧ Paired (Dt H n) xs ds ∧ ds.length ≤ 100000) ∨ ∃ a xs ds, v = .ref a ∧ H a = some (.tup xs) ∧ d = .tuple ds ∧ Paired (Dt H n) xs ds ∧ ds.length ≤ 100000
theorem Dt.same {H H' : Hp} (s : Same H H') : ∀ {n : Nat} {v : V} {d : PyData}, Dt H n v d → Dt H' n v d
  | 0, _, _, h => h
  | n + 1, v, d, h => by
    rcases h with h | ⟨a, xs, ds, e, h, e2, p, l⟩ | ⟨a, xs, ds, e, h, e2, p, l⟩
    · exact .inl h
    · exact .inr (.inl ⟨a, xs, ds, e, s _ _ h, e2, Paired.imp (fun _ _ z => Dt.same s z) p, l⟩)
    · exact .inr (.inr ⟨a, xs, ds, e, s _ _ h, e2, Paired.imp (fun _ _ z => Dt.same s z) p, l⟩)
theorem dsc_ref {a : Addr} {d : PyData} (h : Dsc (.ref a) d) : False := by
  rcases h with ⟨h, _⟩ | ⟨_, h, _⟩ | ⟨_, h, _⟩ | ⟨_, h, _⟩ <;> cases h
theorem dsc_lst {v : V} {ds : List PyData} (h : Dsc v (.list ds)) : False := by
  rcases h with ⟨_, h⟩ | ⟨_, _, h⟩ | ⟨_, _, h⟩ | ⟨_, _, h⟩ <;> cases h
theorem dsc_tup {v : V} {ds : List PyData} (h : Dsc v (.tuple ds)) : False := by
  rcases h with ⟨_, h⟩ | ⟨_, _, h⟩ | ⟨_, _, h⟩ | ⟨_, _, h⟩ <;> cases h
theorem dsc_one {v v' : V} {d : PyData} (h : Dsc v d) (h' : Dsc v' d) : v = v' := by
  rcases h with ⟨e, z⟩ | ⟨x, e, z⟩ | ⟨x, e, z⟩ | ⟨x, e, z⟩ <;> subst z <;> rcases h' with ⟨e', z⟩ | ⟨y, e', z⟩ | ⟨y, e', z⟩ | ⟨y, e', z⟩ <;> cases z <;> rw [e, e']
theorem kit_no {K : PySem.W.Frag} {c : String} (h1 : kitB c "list" = some false) (h2 : kitB c "tuple" = some false) : PySem.W.kitAny K (.type c) [.type "list", .type "tuple"] = some false :=
  kitAny_cons (b := false) (kit_ty h1) (fun _ => kitAny_cons (b := false) (kit_ty h2) (fun _ => rfl) (fun z => nomatch z)) (fun z => nomatch z)
theorem ixL {K : PySem.W.Frag} {x y : V} {H : Hp} {Q : VK} (h : rIxL K x y H Q) : rIx K x y H Q := .inl h
theorem ixT {K : PySem.W.Frag} {x y : V} {H : Hp} {Q : VK} (h : rIxT K x y H Q) : rIx K x y H Q := .inr (.inl h)
section
variable {P : Program} {w : World} {K : PySem.W.Frag} {mg : Str → Option Value} {base : Heap}
end
end UP

set_option Elab.async false
set_option linter.all false
set_option maxRecDepth 100000
set_option maxHeartbeats 4000000
namespace UP
open PySem PySem.Spec PyProof.Rows L2
/-! ### a walk over one object that stays, whatever else is changed -/
structure WkA (J : It) (H : Hp) (a : Addr) (xs : List V) : Prop where
  go : ∀ i H', H' a = H a → i < xs.length → J.go i H'
  stop : ∀ H', H' a = H a → J.stop xs.length H'
  yld : ∀ i x H' H'', H' a = H a → J.yld i H' x H'' → H'' = H' ∧ xs[i]? = some x
def iSeqA (i : Nat) : TI := fun σ H R => ∃ a xs, σ[i]? = some (some (.ref a)) ∧ Sq2 H a xs ∧ ∀ J, WkA J H a xs → R J H
section
variable {X : Cx}
theorem wka_list {K : PySem.W.Frag} {H : Hp} {a : Addr} {xs : List V} (h : H a = some (.lst xs)) : WkA (Itl K a) H a xs :=
  ⟨fun i H' e hi => ⟨xs, xs[i], .of (e.trans h), List.getElem?_eq_getElem hi⟩, fun H' e => ⟨xs, .of (e.trans h), Nat.le_refl _⟩, fun i x H' H'' e y => ⟨y.1, y.2 xs (.of (e.trans h))⟩⟩
theorem wka_tup {K : PySem.W.Frag} {H : Hp} {a : Addr} {xs : List V} (h : H a = some (.tup xs)) : WkA (Itt K a) H a xs :=
  ⟨fun i H' e hi => ⟨xs, xs[i], .of (e.trans h), List.getElem?_eq_getElem hi⟩, fun H' e => ⟨xs, .of (e.trans h), Nat.le_refl _⟩, fun i x H' H'' e y => ⟨y.1, y.2 xs (.of (e.trans h))⟩⟩
theorem pi_seqA (i : Nat) {x : Str} {pos : Pos} {tg : Expr} (hN : X.N[i]? = some x := by rfl) (hv : Vis X.env.scope x := by first | exact Or.inl rfl | exact Or.inr (Or.inl rfl) | exact Or.inr (Or.inr rfl)) (hd : (x == ("__debug__" : Str)) = false := by decide)
    (hc : (x == ("__classdict__" : Str)) = false := by decide) : PI X tg (.Name x pos) (iSeqA i) := by
  refine ⟨fun pins s σ H R I hw => ?_⟩
  obtain ⟨a, xs, e, h, k⟩ := hw
  rcases h with h | h
  · exact (pi_list (pe_var hN hv hd hc)).run pins s σ H R I ⟨_, e, a, rfl, ⟨xs, .of h⟩, k _ (wka_list h)⟩
  · exact (pi_tup (pe_var hN hv hd hc)).run pins s σ H R I ⟨_, e, a, rfl, ⟨xs, .of h⟩, k _ (wka_tup h)⟩
end
theorem lc_wka {J : It} {H0 H1 : Hp} {a : Addr} {xs : List V} {g : TG} {tt : TT} {te : TE} {vs : List Nat} {σ : L2.St} {D : Addr} {Qd : Hp → Prop} (wk : WkA J H0 a xs) (Pv : Nat → Hp → Prop) (hsm : ∀ i H, Pv i H → H a = H0 a) (h0 : Pv 0 (upd H1 D (.lst [])))
    (hs : ∀ i x H, xs[i]? = some x → Pv i H → g x (wipe σ vs) H fun σ2 H2 => wipe σ2 vs = wipe σ vs ∧ tt σ2 H2 fun b H3 =>
      if b = true then te σ2 H3 fun y H4 => ∃ acc, H4 D = some (.lst acc) ∧ acc.length < sizeLine ∧ Pv (i + 1) (upd H4 D (.lst (acc ++ [y]))) else Pv (i + 1) H3) (hd : ∀ H, Pv xs.length H → Qd H) :
    ∃ W : Nat → Nat → Hp → Prop, (∃ m, W 0 m (upd H1 D (.lst []))) ∧ ∀ i m H, W i m H →
      (J.stop i H ∧ Qd H) ∨ (J.go i H ∧ ∃ Nx : Hp → Prop, (∀ H', Nx H' → ∃ m', m' < m ∧ W (i + 1) m' H') ∧ ∀ x H', J.yld i H x H' → g x (wipe σ vs) H' fun σ2 H2 => wipe σ2 vs = wipe σ vs ∧ tt σ2 H2 fun b H3 =>
        if b = true then te σ2 H3 fun y H4 => ∃ acc, H4 D = some (.lst acc) ∧ acc.length < sizeLine ∧ Nx (upd H4 D (.lst (acc ++ [y]))) else Nx H3) := by
  refine lc_gen Pv h0 (fun i H hi p => wk.go i H (hsm i H p) hi) (fun H p => wk.stop H (hsm _ H p)) (fun i x H H' hi p y => ?_) hd
  obtain ⟨e, ex⟩ := wk.yld i x H H' (hsm i H p) y
  subst e
  exact hs i x _ ex p
theorem for_gen {J : It} {n : Nat} {H : Hp} {g : TG} {tb : TS} {D : Ends} {σ : L2.St} (Pv : Nat → L2.St → Hp → Prop) (h0 : Pv 0 σ H) (hg : ∀ i σ H, i < n → Pv i σ H → J.go i H) (hst : ∀ σ H, Pv n σ H → J.stop n H)
    (hs : ∀ i x σ H H', i < n → Pv i σ H → J.yld i H x H' → g x σ H' fun σ2 H2 => tb { D with nx := Pv (i + 1), ct := Pv (i + 1), bk := D.nx } σ2 H2) (hd : ∀ σ H, Pv n σ H → D.nx σ H) :
    ∃ W : Nat → Nat → L2.St → Hp → Prop, (∃ m, W 0 m σ H) ∧ ∀ i m σ H, W i m σ H →
      (J.stop i H ∧ D.nx σ H) ∨ (J.go i H ∧ ∃ N : L2.St → Hp → Prop, (∀ σ' H', N σ' H' → ∃ m', m' < m ∧ W (i + 1) m' σ' H') ∧ ∀ x H', J.yld i H x H' → g x σ H' fun σ2 H2 => tb { D with nx := N, ct := N, bk := D.nx } σ2 H2) := by
  refine ⟨fun i m σ H => m = n - i ∧ i ≤ n ∧ Pv i σ H, ⟨n, by omega, Nat.zero_le _, h0⟩, ?_⟩
  rintro i m σ H ⟨rfl, hi, p⟩
  by_cases hlt : i < n
  · exact Or.inr ⟨hg i σ H hlt p, Pv (i + 1), fun σ' H' p' => ⟨n - (i + 1), by omega, rfl, hlt, p'⟩, fun x H' y => hs i x σ H H' hlt p y⟩
  · have e : i = n := by omega
    subst e
    exact Or.inl ⟨hst σ H p, hd σ H p⟩
theorem for_wka {J : It} {H0 H : Hp} {a : Addr} {xs : List V} {g : TG} {tb : TS} {D : Ends} {σ : L2.St} (wk : WkA J H0 a xs) (Pv : Nat → L2.St → Hp → Prop) (hsm : ∀ i σ H, Pv i σ H → H a = H0 a) (h0 : Pv 0 σ H)
    (hs : ∀ i x σ H, xs[i]? = some x → Pv i σ H → g x σ H fun σ2 H2 => tb { D with nx := Pv (i + 1), ct := Pv (i + 1), bk := D.nx } σ2 H2) (hd : ∀ σ H, Pv xs.length σ H → D.nx σ H) :
    ∃ W : Nat → Nat → L2.St → Hp → Prop, (∃ m, W 0 m σ H) ∧ ∀ i m σ H, W i m σ H →
      (J.stop i H ∧ D.nx σ H) ∨ (J.go i H ∧ ∃ N : L2.St → Hp → Prop, (∀ σ' H', N σ' H' → ∃ m', m' < m ∧ W (i + 1) m' σ' H') ∧ ∀ x H', J.yld i H x H' → g x σ H' fun σ2 H2 => tb { D with nx := N, ct := N, bk := D.nx } σ2 H2) := by
  refine for_gen Pv h0 (fun i σ H hi p => wk.go i H (hsm i σ H p) hi) (fun σ H p => wk.stop H (hsm _ σ H p)) (fun i x σ H H' hi p y => ?_) hd
  obtain ⟨e, ex⟩ := wk.yld i x H H' (hsm i σ H p) y
  subst e
  exact hs i x σ _ ex p
theorem Sq2.eq {H H' : Hp} {a : Addr} {xs : List V} (h : Sq2 H a xs) (s : Same H H') : H' a = H a := h.elim (fun z => (s _ _ z).trans z.symm) (fun z => (s _ _ z).trans z.symm)
/-! ### data without its dress -/
def Sim (N : Addr → Prop) (H : Hp) : Nat → V → PyData → Prop
  | 0, v, d => Dsc v d
  | n + 1, v, d => Dsc v d ∨ ∃ a xs ds, v = .ref a ∧ N a ∧ Sq2 H a xs ∧ d = .list ds ∧ Paired (Sim N H n) xs ds ∧ ds.length ≤ 1000
theorem Sim.keep {N N' : Addr → Prop} {H H' : Hp} (hn : ∀ a, N a → N' a) (hk : ∀ a o, N a → H a = some o → H' a = some o) : ∀ {n : Nat} {v : V} {d : PyData}, Sim N H n v d → Sim N' H' n v d
  | 0, _, _, h => h
  | n + 1, v, d, h => by
    rcases h with h | ⟨a, xs, ds, e, na, hx, e2, p, l⟩
    · exact .inl h
    · exact .inr ⟨a, xs, ds, e, hn a na, hx.elim (fun z => .inl (hk _ _ na z)) (fun z => .inr (hk _ _ na z)), e2, Paired.imp (fun _ _ z => Sim.keep hn hk z) p, l⟩
theorem Sim.dsc {N : Addr → Prop} {H : Hp} {v : V} {d : PyData} : ∀ {n : Nat}, Dsc v d → Sim N H n v d
  | 0, h => h
  | n + 1, h => .inl h
section
variable {P : Program} {w : World} {K : PySem.W.Frag} {mg : Str → Option Value} {base : Heap}
end
end UP

set_option Elab.async false
set_option linter.all false
set_option maxRecDepth 100000
set_option maxHeartbeats 4000000
namespace UP
open PySem PySem.Spec PyProof.Rows L2
/-! ### waiting items one by one -/
def plS (ws : List Run) (k : Str) (n : Nat) : List Run := match ws with
  | [] => [(k, (n : Int))]
  | r :: t => if r.1 = k then (r :: t) ++ [(k, (n : Int))] else t
def plP (ws : List Run) (k : Str) (n : Nat) : List (Int × Int) := match ws with
  | [] => []
  | r :: _ => if r.1 = k then [] else [(r.2, (n : Int))]
def plA (ws : List Run) (n : Nat) : List Str → List Run
  | [] => ws
  | k :: t => plA (plS ws k n) (n + 1) t
def psR (ws : List Run) (n : Nat) : List Str → List (Int × Int)
  | [] => []
  | k :: t => plP ws k n ++ psR (plS ws k n) (n + 1) t
theorem plA_snoc : ∀ (l : List Str) (ws : List Run) (n : Nat) (k : Str), plA ws n (l ++ [k]) = plS (plA ws n l) k (n + l.length)
  | [], ws, n, k => rfl
  | x :: t, ws, n, k => by
    show plA (plS ws x n) (n + 1) (t ++ [k]) = plS (plA (plS ws x n) (n + 1) t) k (n + (x :: t).length)
    rw [plA_snoc t, List.length_cons, show n + 1 + t.length = n + (t.length + 1) by omega]
theorem psR_snoc : ∀ (l : List Str) (ws : List Run) (n : Nat) (k : Str), psR ws n (l ++ [k]) = psR ws n l ++ plP (plA ws n l) k (n + l.length)
  | [], ws, n, k => by
    show plP ws k n ++ [] = [] ++ plP ws k (n + 0)
    rw [List.append_nil, List.nil_append, Nat.add_zero]
  | x :: t, ws, n, k => by
    show plP ws x n ++ psR (plS ws x n) (n + 1) (t ++ [k]) = (plP ws x n ++ psR (plS ws x n) (n + 1) t) ++ plP (plA (plS ws x n) (n + 1) t) k (n + (x :: t).length)
    rw [psR_snoc t, List.length_cons, List.append_assoc, show n + 1 + t.length = n + (t.length + 1) by omega]
def plMs (ws : List Run) (ks : List Str) : List (List Run) := (List.range (ks.length + 1)).map fun m => plA ws 0 (ks.take m)
theorem plMs_snoc (ws : List Run) (l : List Str) (k : Str) : plMs ws (l ++ [k]) = plMs ws l ++ [plA ws 0 (l ++ [k])] := by
  unfold plMs
  rw [List.length_append, List.length_cons, List.length_nil, Nat.zero_add, List.range_succ, List.map_append]
  congr 1
  · refine List.map_congr_left fun m hm => ?_
    have : m ≤ l.length := by
      have := List.mem_range.mp hm
      omega
    rw [List.take_append_of_le_length this]
  · rw [List.map_singleton, List.take_of_length_le (by rw [List.length_append]; exact Nat.le_refl _)]
theorem plMs_nil (ws : List Run) : plMs ws [] = [ws] := rfl
theorem plMs_len (ws : List Run) (l : List Str) : (plMs ws l).length = l.length + 1 := by
  unfold plMs
  rw [List.length_map, List.length_range]
theorem plS_len (ws : List Run) (k : Str) (n : Nat) : (plS ws k n).length ≤ ws.length + 1 := by
  cases ws with
  | nil => exact Nat.le_refl _
  | cons r t =>
    show (if r.1 = k then (r :: t) ++ [(k, (n : Int))] else t).length ≤ _
    split
    · rw [List.length_append]
      exact Nat.le_refl _
    · rw [List.length_cons]
      omega
theorem plA_len : ∀ (l : List Str) (ws : List Run) (n : Nat), (plA ws n l).length ≤ ws.length + l.length
  | [], ws, n => Nat.le_refl _
  | k :: t, ws, n => by
    have h1 := plA_len t (plS ws k n) (n + 1)
    have h2 := plS_len ws k n
    show (plA (plS ws k n) (n + 1) t).length ≤ _
    rw [List.length_cons]
    omega
theorem plP_len (ws : List Run) (k : Str) (n : Nat) : (plP ws k n).length ≤ 1 := by
  cases ws with
  | nil => exact Nat.zero_le _
  | cons r t =>
    show (if r.1 = k then [] else [(r.2, (n : Int))]).length ≤ 1
    split <;> simp
theorem psR_len : ∀ (l : List Str) (ws : List Run) (n : Nat), (psR ws n l).length ≤ l.length
  | [], ws, n => Nat.le_refl _
  | k :: t, ws, n => by
    have h1 := psR_len t (plS ws k n) (n + 1)
    have h2 := plP_len ws k n
    show (plP ws k n ++ psR (plS ws k n) (n + 1) t).length ≤ _
    rw [List.length_append, List.length_cons]
    omega
theorem plS_kinds {ws : List Run} {k : Str} {n : Nat} (h : ∀ r ∈ ws, KindOk r.1) (hk : KindOk k) : ∀ r ∈ plS ws k n, KindOk r.1 := by
  intro r hr
  cases ws with
  | nil =>
    rw [List.mem_singleton.mp (show r ∈ [(k, (n : Int))] from hr)]
    exact hk
  | cons x t =>
    have hr : r ∈ (if x.1 = k then (x :: t) ++ [(k, (n : Int))] else t) := hr
    by_cases e : x.1 = k
    · rw [if_pos e] at hr
      rcases List.mem_append.mp hr with z | z
      · exact h r z
      · rw [List.mem_singleton.mp z]
        exact hk
    · rw [if_neg e] at hr
      exact h r (List.mem_cons_of_mem _ hr)
theorem plA_kinds : ∀ {l : List Str} {ws : List Run} {n : Nat}, (∀ r ∈ ws, KindOk r.1) → (∀ k ∈ l, KindOk k) → ∀ r ∈ plA ws n l, KindOk r.1
  | [], _, _, h, _ => h
  | k :: t, ws, n, h, hl => plA_kinds (l := t) (plS_kinds h (hl k (List.mem_cons_self ..))) fun x hx => hl x (List.mem_cons_of_mem _ hx)
def w0R : Option Run → List Run
  | none => []
  | some r => List.replicate r.2.toNat (r.1, -1)
def itR (rs : List Run) : List Str := rs.flatMap fun r => List.replicate r.2.toNat r.1
theorem itR_snoc (l : List Run) (r : Run) : itR (l ++ [r]) = itR l ++ List.replicate r.2.toNat r.1 := by
  unfold itR
  rw [List.flatMap_append]
  simp
def PV (H : Hp) (v : V) (p : Int × Int) : Prop := ∃ t, v = .ref t ∧ H t = some (.tup [.int p.1, .int p.2])
theorem PV.same {H H' : Hp} {v : V} {p : Int × Int} (s : Same H H') (h : PV H v p) : PV H' v p := by
  obtain ⟨t, e, h⟩ := h
  exact ⟨t, e, s _ _ h⟩
theorem PV.grow {H : Hp} {D : Addr} {acc acc' : List V} {v : V} {p : Int × Int} (hD : H D = some (.lst acc)) (h : PV H v p) : PV (upd H D (.lst acc')) v p := by
  obtain ⟨t, e, h⟩ := h
  refine ⟨t, e, ?_⟩
  rw [upd_ne (ne_of h hD (by intro q; cases q))]
  exact h
theorem Runs.grow {H : Hp} {D a : Addr} {acc acc' : List V} {ws : List Run} (hD : H D = some (.lst acc)) (n : a ≠ D) (h : Runs H a ws) : Runs (upd H D (.lst acc')) a ws := by
  obtain ⟨xs, hx, hp⟩ := h
  refine ⟨xs, ?_, prs_grow hD hp⟩
  rw [upd_ne n]
  exact hx
/-- a list of runs apart from two others -/
def WL (H : Hp) (M N : Addr) (v : V) (ws : List Run) : Prop := ∃ a, v = .ref a ∧ a ≠ M ∧ a ≠ N ∧ Runs H a ws
theorem WL.same {H H' : Hp} {M N : Addr} {v : V} {ws : List Run} (s : Same H H') (h : WL H M N v ws) : WL H' M N v ws := by
  obtain ⟨a, e, n1, n2, h⟩ := h
  exact ⟨a, e, n1, n2, h.same s⟩
/-- what the play keeps -/
structure Pl (H0 H : Hp) (W M N : Addr) (ws0 : List Run) (ks ls : List Str) : Prop where
  sm : Same H0 H
  wm : W ≠ M
  wn : W ≠ N
  wr : Runs H W (plA ws0 0 ls)
  ms : ∃ xs, H M = some (.lst xs) ∧ Paired (WL H M N) xs (plMs ws0 ks)
  ps : ∃ ys, H N = some (.lst ys) ∧ Paired (PV H) ys (psR ws0 0 ls)
theorem flat_one {α : Type} (x : α) : ∀ n : Nat, (List.replicate n [x]).flatten = List.replicate n x
  | 0 => rfl
  | n + 1 => by
    rw [List.replicate_succ, List.flatten_cons, flat_one x n]
    rfl
theorem paired_rep {α β : Type} {F : α → β → Prop} {a : α} {b : β} (h : F a b) : ∀ n : Nat, Paired F (List.replicate n a) (List.replicate n b)
  | 0 => .nil
  | n + 1 => .cons h (paired_rep h n)
theorem len_items {rs : List Run} (h : ∀ r ∈ rs, 1 ≤ r.2 ∧ r.2 ≤ 1000) : (itR rs).length ≤ 1000 * rs.length := by
  induction rs with
  | nil => exact Nat.le_refl _
  | cons r t ih =>
    have e : itR (r :: t) = List.replicate r.2.toNat r.1 ++ itR t := rfl
    have h1 := h r (List.mem_cons_self ..)
    have h2 := ih fun x hx => h x (List.mem_cons_of_mem _ hx)
    rw [e, List.length_append, List.length_replicate, List.length_cons]
    omega
end UP

set_option Elab.async false
set_option linter.all false
set_option maxRecDepth 100000
set_option maxHeartbeats 4000000
namespace UP
open PySem PySem.Spec PyProof.Rows L2
section
variable {P : Program} {w : World} {K : PySem.W.Frag} {mg : Str → Option Value} {base : Heap}
end
end UP

set_option Elab.async false
set_option linter.all false
set_option maxRecDepth 100000
set_option maxHeartbeats 4000000
namespace UP
open PySem PySem.Spec PyProof.Rows L2
/-! ### one arrival after the other -/
def stI (ks : List Str) (st : Option Run) : Option Run := ks.foldl (fun s k => stepR s k 1) st
theorem stI_app (l m : List Str) (st : Option Run) : stI (l ++ m) st = stI m (stI l st) := List.foldl_append ..
theorem step_same {r : Run} {k : Str} {c : Int} (h : r.1 = k) : stepR (some r) k c = some (k, r.2 + c) := if_pos h
theorem step_other {r : Run} {k : Str} {c : Int} (h : r.1 ≠ k) : stepR (some r) k c = if 0 < r.2 - c then some (r.1, r.2 - c) else if r.2 - c = 0 then none else some (k, -(r.2 - c)) := if_neg h
theorem step_step {s : Option Run} {k : Str} {c : Int} (h : PosO s) (hc : 1 ≤ c) : stepR (stepR s k 1) k c = stepR s k (1 + c) := by
  cases s with
  | none => exact step_same (r := (k, 1)) rfl
  | some r =>
    have r1 := h r rfl
    by_cases e : r.1 = k
    · rw [step_same e, step_same e, step_same (r := (k, r.2 + 1)) rfl]
      show some (k, r.2 + 1 + c) = _
      rw [Int.add_assoc]
    · rw [step_other e, step_other e]
      by_cases h1 : 0 < r.2 - 1
      · rw [if_pos h1, step_other (r := (r.1, r.2 - 1)) e]
        show (if 0 < r.2 - 1 - c then some (r.1, r.2 - 1 - c) else if r.2 - 1 - c = 0 then none else some (k, -(r.2 - 1 - c))) = _
        rw [show r.2 - 1 - c = r.2 - (1 + c) by omega]
      · have e2 : r.2 - 1 = 0 := by omega
        rw [if_neg h1, if_pos e2, if_neg (by omega), if_neg (by omega)]
        show some (k, c) = _
        rw [show -(r.2 - (1 + c)) = c by omega]
theorem it_step : ∀ (n : Nat) (s : Option Run) (k : Str), PosO s → stI (List.replicate (n + 1) k) s = stepR s k ((n : Int) + 1)
  | 0, s, k, _ => rfl
  | n + 1, s, k, h => by
    show stI (List.replicate (n + 1) k) (stepR s k 1) = _
    rw [it_step n _ k (stepR_pos h (by decide)), step_step h (by omega)]
    congr 1
    omega
theorem st_items : ∀ (rs : List Run) (st : Option Run), PosO st → (∀ r ∈ rs, 1 ≤ r.2) → stR rs st = stI (itR rs) st
  | [], st, _, _ => rfl
  | r :: t, st, h, k => by
    have c1 := k r (List.mem_cons_self ..)
    have e : itR (r :: t) = List.replicate r.2.toNat r.1 ++ itR t := rfl
    obtain ⟨n, hn⟩ : ∃ n : Nat, r.2.toNat = n + 1 := ⟨r.2.toNat - 1, by omega⟩
    rw [e, stI_app, hn, it_step n _ _ h, stR_cons, show ((n : Int) + 1) = r.2 by omega]
    exact st_items t _ (stepR_pos h c1) fun x hx => k x (List.mem_cons_of_mem _ hx)
theorem take_app {α : Type} : ∀ (l m : List α) (n : Nat), (l ++ m).take n = l.take n ++ m.take (n - l.length)
  | [], m, n => by
    rw [List.nil_append, List.take_nil, List.nil_append, List.length_nil, Nat.sub_zero]
  | x :: t, m, 0 => by
    rw [List.take_zero, List.take_zero, Nat.zero_sub, List.take_zero]
    rfl
  | x :: t, m, n + 1 => by
    rw [List.cons_append, List.take_succ_cons, take_app t m n, List.take_succ_cons, List.length_cons, Nat.add_sub_add_right]
    rfl
theorem it_app (l m : List Run) : itR (l ++ m) = itR l ++ itR m := List.flatMap_append ..
theorem cut_items (e : Int) : ∀ (rs : List Run) (b : Int), 0 ≤ b → (∀ r ∈ rs, 1 ≤ r.2) → itR (cutR 0 e b rs) = (itR rs).take (e - b).toNat
  | [], b, _, _ => by
    show ([] : List Str) = ([] : List Str).take _
    rw [List.take_nil]
  | r :: t, b, hb, k => by
    have c1 := k r (List.mem_cons_self ..)
    have ih := cut_items e t (b + r.2) (by omega) fun x hx => k x (List.mem_cons_of_mem _ hx)
    have e1 : cutR 0 e b (r :: t) = pieceR b 0 e r ++ cutR 0 e (b + r.2) t := rfl
    have e2 : itR (r :: t) = List.replicate r.2.toNat r.1 ++ itR t := rfl
    rw [e1, it_app, ih, e2, take_app, List.length_replicate, List.take_replicate, show (e - (b + r.2)).toNat = (e - b).toNat - r.2.toNat by omega]
    congr 1
    have es : sizeR b 0 e r.2 = (if b + r.2 < e then b + r.2 else e) - b := by
      unfold sizeR
      by_cases h0 : b > 0
      · rw [if_pos h0]
      · rw [if_neg h0, show b = 0 by omega]
    by_cases hs : 0 < sizeR b 0 e r.2
    · rw [show pieceR b 0 e r = [(r.1, sizeR b 0 e r.2)] from if_pos hs]
      show List.replicate (sizeR b 0 e r.2).toNat r.1 ++ [] = _
      rw [List.append_nil]
      congr 1
      rw [es] at hs ⊢
      split <;> omega
    · rw [show pieceR b 0 e r = [] from if_neg hs]
      rw [es] at hs
      rw [show min (e - b).toNat r.2.toNat = 0 by split at hs <;> omega]
      rfl
theorem len_it : ∀ (rs : List Run), (∀ r ∈ rs, 1 ≤ r.2) → ((itR rs).length : Int) = lenR rs
  | [], _ => rfl
  | r :: t, k => by
    have c1 := k r (List.mem_cons_self ..)
    have ih := len_it t fun x hx => k x (List.mem_cons_of_mem _ hx)
    have e2 : itR (r :: t) = List.replicate r.2.toNat r.1 ++ itR t := rfl
    rw [e2, List.length_append, List.length_replicate, lenR_cons]
    omega
/-! ### what is told of waiting items -/
def Uni (ws : List Run) : Prop := ∀ x ∈ ws, ∀ y ∈ ws, x.1 = y.1
theorem uni_plS {ws : List Run} {k : Str} {n : Nat} (h : Uni ws) : Uni (plS ws k n) := by
  cases ws with
  | nil =>
    intro x hx y hy
    rw [List.mem_singleton.mp (show x ∈ [(k, (n : Int))] from hx), List.mem_singleton.mp (show y ∈ [(k, (n : Int))] from hy)]
  | cons r t =>
    by_cases e : r.1 = k
    · rw [show plS (r :: t) k n = (r :: t) ++ [(k, (n : Int))] from if_pos e]
      have all : ∀ x ∈ (r :: t) ++ [(k, (n : Int))], x.1 = k := by
        intro x hx
        rcases List.mem_append.mp hx with z | z
        · rw [h x z r (List.mem_cons_self ..)]
          exact e
        · rw [List.mem_singleton.mp z]
      intro x hx y hy
      rw [all x hx, all y hy]
    · rw [show plS (r :: t) k n = t from if_neg e]
      exact fun x hx y hy => h x (List.mem_cons_of_mem _ hx) y (List.mem_cons_of_mem _ hy)
theorem told_plS {ws : List Run} {k : Str} {n : Nat} (h : Uni ws) : toldR (plS ws k n) = stepR (toldR ws) k 1 := by
  cases ws with
  | nil => rfl
  | cons r t =>
    by_cases e : r.1 = k
    · rw [show plS (r :: t) k n = (r :: t) ++ [(k, (n : Int))] from if_pos e]
      show some (r.1, (((r :: t) ++ [(k, (n : Int))]).length : Int)) = stepR (some (r.1, ((r :: t).length : Int))) k 1
      rw [step_same (r := (r.1, ((r :: t).length : Int))) e, List.length_append, e]
      show some (k, (((r :: t).length + 1 : Nat) : Int)) = some (k, ((r :: t).length : Int) + 1)
      rw [Int.natCast_add]
      rfl
    · rw [show plS (r :: t) k n = t from if_neg e]
      show toldR t = stepR (some (r.1, ((r :: t).length : Int))) k 1
      rw [step_other (r := (r.1, ((r :: t).length : Int))) e]
      cases t with
      | nil => rfl
      | cons x u =>
        have ex : x.1 = r.1 := h x (List.mem_cons_of_mem _ (List.mem_cons_self ..)) r (List.mem_cons_self ..)
        show some (x.1, ((x :: u).length : Int)) = if 0 < ((r :: x :: u).length : Int) - 1 then some (r.1, ((r :: x :: u).length : Int) - 1) else _
        rw [List.length_cons, List.length_cons, List.length_cons, if_pos (by omega), ex]
        congr 2
        omega
theorem told_plA : ∀ (l : List Str) (ws : List Run) (n : Nat), Uni ws → toldR (plA ws n l) = stI l (toldR ws)
  | [], _, _, _ => rfl
  | k :: t, ws, n, h => by
    show toldR (plA (plS ws k n) (n + 1) t) = stI t (stepR (toldR ws) k 1)
    rw [told_plA t _ _ (uni_plS h), told_plS h]
theorem uni_w0 (st : Option Run) : Uni (w0R st) := by
  cases st with
  | none => intro x hx; cases hx
  | some r =>
    intro x hx y hy
    rw [List.eq_of_mem_replicate hx, List.eq_of_mem_replicate hy]
theorem told_w0 {st : Option Run} (h : PosO st) : toldR (w0R st) = st := by
  cases st with
  | none => rfl
  | some r =>
    have r1 := h r rfl
    obtain ⟨n, hn⟩ : ∃ n : Nat, r.2.toNat = n + 1 := ⟨r.2.toNat - 1, by omega⟩
    show toldR (List.replicate r.2.toNat (r.1, (-1 : Int))) = some r
    rw [hn, List.replicate_succ]
    show some (r.1, (((r.1, (-1 : Int)) :: List.replicate n (r.1, (-1 : Int))).length : Int)) = some r
    rw [List.length_cons, List.length_replicate, show ((n + 1 : Nat) : Int) = r.2 by omega]
/-! ### all counts multiplied -/
def scO (t : Int) (st : Option Run) : Option Run := st.map fun r => (r.1, r.2 * t)
theorem lt_sc {a b t : Int} (ht : 0 < t) : a * t < b * t ↔ a < b :=
  ⟨fun h => by
    by_cases z : a < b
    · exact z
    · have := Int.mul_le_mul_of_nonneg_right (show b ≤ a by omega) (Int.le_of_lt ht)
      omega, fun h => Int.mul_lt_mul_of_pos_right h ht⟩
theorem size_sc {b s e c t : Int} (ht : 0 < t) : sizeR (b * t) (s * t) (e * t) (c * t) = sizeR b s e c * t := by
  unfold sizeR
  rw [← Int.add_mul, Int.sub_mul]
  congr 1
  · by_cases h : b + c < e
    · rw [if_pos h, if_pos ((lt_sc ht).mpr h)]
    · rw [if_neg h, if_neg fun z => h ((lt_sc ht).mp z)]
  · by_cases h : b > s
    · rw [if_pos h, if_pos ((lt_sc ht).mpr h)]
    · rw [if_neg h, if_neg fun z => h ((lt_sc ht).mp z)]
theorem pos_sc {a t : Int} (ht : 0 < t) : 0 < a * t ↔ 0 < a := by
  have := lt_sc (a := 0) (b := a) ht
  rw [Int.zero_mul] at this
  exact this
theorem piece_sc {b s e t : Int} {r : Run} (ht : 0 < t) : pieceR (b * t) (s * t) (e * t) (r.1, r.2 * t) = scR t (pieceR b s e r) := by
  unfold pieceR
  show (if 0 < sizeR (b * t) (s * t) (e * t) (r.2 * t) then [(r.1, sizeR (b * t) (s * t) (e * t) (r.2 * t))] else []) = _
  rw [size_sc ht]
  by_cases h : 0 < sizeR b s e r.2
  · rw [if_pos h, if_pos ((pos_sc ht).mpr h)]
    rfl
  · rw [if_neg h, if_neg fun z => h ((pos_sc ht).mp z)]
    rfl
theorem cut_sc {s e t : Int} (ht : 0 < t) : ∀ (rs : List Run) (b : Int), cutR (s * t) (e * t) (b * t) (scR t rs) = scR t (cutR s e b rs)
  | [], _ => rfl
  | r :: u, b => by
    have ih := cut_sc (s := s) (e := e) ht u (b + r.2)
    show pieceR (b * t) (s * t) (e * t) (r.1, r.2 * t) ++ cutR (s * t) (e * t) (b * t + r.2 * t) (scR t u) = scR t (pieceR b s e r ++ cutR s e (b + r.2) u)
    rw [← Int.add_mul, ih, piece_sc ht]
    unfold scR
    rw [List.map_append]
theorem step_sc {st : Option Run} {k : Str} {c t : Int} (ht : 0 < t) : stepR (scO t st) k (c * t) = scO t (stepR st k c) := by
  cases st with
  | none => rfl
  | some r =>
    show stepR (some (r.1, r.2 * t)) k (c * t) = _
    by_cases e : r.1 = k
    · rw [step_same (r := (r.1, r.2 * t)) e, step_same e]
      show some (k, r.2 * t + c * t) = some (k, (r.2 + c) * t)
      rw [Int.add_mul]
    · rw [step_other (r := (r.1, r.2 * t)) e, step_other e]
      show (if 0 < r.2 * t - c * t then some (r.1, r.2 * t - c * t) else if r.2 * t - c * t = 0 then none else some (k, -(r.2 * t - c * t))) = _
      rw [← Int.sub_mul]
      by_cases h : 0 < r.2 - c
      · rw [if_pos h, if_pos ((pos_sc ht).mpr h)]
        rfl
      · rw [if_neg h, if_neg fun z => h ((pos_sc ht).mp z)]
        by_cases h2 : r.2 - c = 0
        · rw [if_pos h2, h2, Int.zero_mul, if_pos rfl]
          rfl
        · have h3 : (r.2 - c) * t ≠ 0 := Int.mul_ne_zero h2 (by omega)
          rw [if_neg h2, if_neg h3]
          show some (k, -((r.2 - c) * t)) = some (k, -(r.2 - c) * t)
          rw [Int.neg_mul]
theorem st_sc {t : Int} (ht : 0 < t) : ∀ (rs : List Run) (st : Option Run), stR (scR t rs) (scO t st) = scO t (stR rs st)
  | [], _ => rfl
  | r :: u, st => by
    show stR (scR t u) (stepR (scO t st) r.1 (r.2 * t)) = scO t (stR u (stepR st r.1 r.2))
    rw [step_sc ht, st_sc ht u]
theorem len_sc {t : Int} : ∀ (rs : List Run), lenR (scR t rs) = lenR rs * t
  | [] => by
    show (0 : Int) = 0 * t
    rw [Int.zero_mul]
  | r :: u => by
    show lenR ((r.1, r.2 * t) :: scR t u) = _
    rw [lenR_cons, lenR_cons, len_sc u, Int.add_mul]
/-- the multiplied state at a multiplied moment -/
theorem whole_sc {t : Int} {rs : List Run} {st : Option Run} {p : Nat} (ht : 0 < t) (h : PosO st) (k : ∀ r ∈ rs, 1 ≤ r.2) :
    stR (cutR 0 ((p : Int) * t) 0 (scR t rs)) (scO t st) = scO t (toldR (plA (w0R st) 0 ((itR rs).take p))) := by
  have e := cut_sc (s := 0) (e := (p : Int)) ht rs 0
  rw [Int.zero_mul] at e
  rw [e, st_sc ht, told_plA _ _ _ (uni_w0 st), told_w0 h, st_items _ _ h cutR_pos, cut_items _ _ _ (Int.le_refl _) k, Int.sub_zero, Int.toNat_natCast]
end UP

set_option Elab.async false
set_option linter.all false
set_option maxRecDepth 100000
set_option maxHeartbeats 4000000
namespace UP
open PySem PySem.Spec PyProof.Rows L2
theorem room70 {A : Around} {k : Nat} (hr : Room k A) : A.units + 70 < cLine := by
  have := hr.un
  omega
theorem call_list_ofK {X : Cx} {K : PySem.W.Frag} (h : X.K = K) : CallR X (.type "list") (fun xs H Q => ∃ p ys, xs = [.ref p] ∧ (SqL K H p ys ∨ SqT K H p ys) ∧ ∀ l, H l = none → Q (.ref l) (upd H l (.lst ys))) := by
  subst h
  exact call_list_of
/-! ### data that a repr takes -/
structure Nice (w n : Nat) (d : PyData) : Prop where
  can : d.canLay0 = true
  dep : d.depth ≤ n
  sho : d.showable = true
  lea : d.leavesShort 100 = true
  wei : d.weight ≤ w
theorem Nice.mono {w w' n n' : Nat} {d : PyData} (h : Nice w n d) (h1 : w ≤ w') (h2 : n ≤ n') : Nice w' n' d := ⟨h.can, Nat.le_trans h.dep h2, h.sho, h.lea, Nat.le_trans h.wei h1⟩
theorem Nice.fits {w n : Nat} {d : PyData} (h : Nice w n d) (hw : w ≤ 150000) (hn : n ≤ 64) : d.showable = true ∧ SeqAt.shaped d = true ∧ d.shown.length ≤ sizeLine := by
  refine ⟨h.sho, ?_, ?_⟩
  · unfold SeqAt.shaped
    rw [h.can]
    have := h.dep
    exact decide_eq_true (by omega)
  · have h1 := PyData.shown_le 100 (by decide) d h.lea
    have h2 := h.wei
    have h3 : d.shown.length ≤ 16000000 := by omega
    exact Nat.le_trans h3 (by decide)
theorem nice_none : Nice 0 0 .none := ⟨rfl, Nat.le_refl _, rfl, rfl, Nat.le_refl _⟩
theorem nice_str {s : Str} (h : KindOk s) : Nice 8 0 (.str s) := by
  refine ⟨?_, Nat.le_refl _, rfl, ?_, h.2.1⟩
  · rw [PyData.canLay0]
    exact h.str
  · rw [PyData.leavesShort, List.all_eq_true]
    intro c hc
    have := h.2.2 c hc
    exact decide_eq_true (by omega)
theorem nice_int {i : Int} (h : i.natAbs < 10 ^ 60) : Nice 201 0 (.int i) := by
  have h2 : i.natAbs < 2 ^ 200 := Nat.lt_of_lt_of_le h (by decide)
  have h3 : i.natAbs.log2 < 200 := by
    by_cases z : i.natAbs = 0
    · rw [z]
      decide
    · exact (Nat.log2_lt z).mpr h2
  refine ⟨by rw [PyData.canLay0], Nat.le_refl _, ?_, ?_, ?_⟩
  · rw [PyData.showable]
    exact decide_eq_true (by omega)
  · rw [PyData.leavesShort]
    refine decide_eq_true ?_
    have e := int_text_length_le10 (k := 60) (by decide) h
    show (Str.ofString (toString i)).length ≤ 100
    rw [PySem.ofString_length]
    omega
  · rw [PyData.weight]
    split <;> omega
theorem nice_items {w n : Nat} : ∀ {ds : List PyData}, (∀ d ∈ ds, Nice w n d) → PyData.canLayAll0 ds = true ∧ PyData.depthAll ds ≤ n ∧ PyData.showableAll ds = true ∧ PyData.leavesShortAll 100 ds = true ∧ PyData.weightAll ds ≤ (w + 1) * ds.length
  | [], _ => ⟨rfl, Nat.zero_le _, rfl, rfl, Nat.zero_le _⟩
  | d :: t, h => by
    have h1 := h d (List.mem_cons_self ..)
    obtain ⟨a, b, c, e, f⟩ := nice_items (ds := t) fun x hx => h x (List.mem_cons_of_mem _ hx)
    refine ⟨?_, ?_, ?_, ?_, ?_⟩
    · rw [PyData.canLayAll0, h1.can, a]
      rfl
    · rw [PyData.depthAll]
      exact Nat.max_le.mpr ⟨h1.dep, b⟩
    · rw [PyData.showableAll, h1.sho, c]
      rfl
    · rw [PyData.leavesShortAll, h1.lea, e]
      rfl
    · have h2 := h1.wei
      rw [PyData.weightAll, List.length_cons, Nat.mul_succ]
      omega
theorem nice_list {w n : Nat} {ds : List PyData} (h : ∀ d ∈ ds, Nice w n d) : Nice ((w + 1) * ds.length) (n + 1) (.list ds) := by
  obtain ⟨a, b, c, e, f⟩ := nice_items h
  exact ⟨by rw [PyData.canLay0]; exact a, by rw [PyData.depth]; omega, by rw [PyData.showable]; exact c, by rw [PyData.leavesShort]; exact e, by rw [PyData.weight]; exact f⟩
theorem nice_tup {w n : Nat} {ds : List PyData} (h : ∀ d ∈ ds, Nice w n d) : Nice ((w + 1) * ds.length) (n + 1) (.tuple ds) := by
  obtain ⟨a, b, c, e, f⟩ := nice_items h
  exact ⟨by rw [PyData.canLay0]; exact a, by rw [PyData.depth]; omega, by rw [PyData.showable]; exact c, by rw [PyData.leavesShort]; exact e, by rw [PyData.weight]; exact f⟩
/-- v stands for d at H and at every heap that keeps H -/
def DpS (K : PySem.W.Frag) (H : Hp) (v : V) (d : PyData) : Prop := ∀ H', Same H H' → Dp K H' v d
theorem DpS.same {K : PySem.W.Frag} {H H' : Hp} {v : V} {d : PyData} (s : Same H H') (h : DpS K H v d) : DpS K H' v d := fun H2 s2 => h H2 (s.trans s2)
theorem dps_all {K : PySem.W.Frag} {H : Hp} {F : PyData → Prop} : ∀ {xs : List V}, (∀ x ∈ xs, ∃ d, DpS K H x d ∧ F d) → ∃ ds, (∀ H', Same H H' → DpAll K H' xs ds) ∧ ds.length = xs.length ∧ ∀ d ∈ ds, F d
  | [], _ => ⟨[], fun _ _ => .nil, rfl, fun d h => by cases h⟩
  | x :: t, h => by
    obtain ⟨d, h1, h2⟩ := h x (List.mem_cons_self ..)
    obtain ⟨ds, a, b, c⟩ := dps_all (xs := t) fun y hy => h y (List.mem_cons_of_mem _ hy)
    refine ⟨d :: ds, fun H' s => .cons (h1 H' s) (a H' s), congrArg Nat.succ b, fun z hz => ?_⟩
    rcases List.mem_cons.mp hz with e | e
    · rw [e]
      exact h2
    · exact c z e
theorem dps_seq {K : PySem.W.Frag} {H : Hp} {a : Addr} {xs : List V} {w n : Nat} (hx : Sq2 H a xs) (h : ∀ x ∈ xs, ∃ d, DpS K H x d ∧ Nice w n d) : ∃ d, DpS K H (.ref a) d ∧ Nice ((w + 1) * xs.length) (n + 1) d := by
  obtain ⟨ds, h1, h2, h3⟩ := dps_all h
  rcases hx with z | z
  · exact ⟨.list ds, fun H' s => .lst (.of (s _ _ z)) (h1 H' s), by rw [← h2]; exact nice_list h3⟩
  · exact ⟨.tuple ds, fun H' s => .tup (.of (s _ _ z)) (h1 H' s), by rw [← h2]; exact nice_tup h3⟩
theorem dps_run {K : PySem.W.Frag} {H : Hp} {v : V} {r : Run} (h : RunG H v r) (k : KindOk r.1) (c : r.2.natAbs < 10 ^ 60) : ∃ d, DpS K H v d ∧ Nice 404 1 d := by
  obtain ⟨t, rfl, h⟩ := h
  have := dps_seq (K := K) (w := 201) (n := 0) h fun x hx => by
    rcases List.mem_cons.mp hx with e | e
    · rw [e]
      exact ⟨.str r.1, fun _ _ => .str _, (nice_str k).mono (by decide) (Nat.le_refl _)⟩
    · rw [List.mem_singleton.mp e]
      exact ⟨.int r.2, fun _ _ => .int _, nice_int c⟩
  exact this
theorem dps_runs {K : PySem.W.Frag} {H : Hp} {v : V} {rs : List Run} (h : RunsG H v rs) (k : ∀ r ∈ rs, KindOk r.1 ∧ r.2.natAbs < 10 ^ 60) (l : rs.length ≤ 100) : ∃ d, DpS K H v d ∧ Nice 41000 2 d := by
  obtain ⟨a, xs, rfl, hx, hp⟩ := h
  have lx : xs.length = rs.length := Paired.len hp
  obtain ⟨d, h1, h2⟩ := dps_seq (K := K) (w := 404) (n := 1) hx fun x hx => by
    obtain ⟨i, hi, e⟩ := List.mem_iff_getElem.mp hx
    obtain ⟨r, er, hr⟩ := Paired.at hp (List.getElem?_eq_getElem hi)
    rw [e] at hr
    have := k r (List.mem_of_getElem? er)
    exact dps_run hr this.1 this.2
  exact ⟨d, h1, h2.mono (by rw [lx]; omega) (Nat.le_refl _)⟩
theorem dps_st {K : PySem.W.Frag} {H : Hp} {v : V} {st : Option Run} (h : StG H v st) (k : ∀ r, st = some r → KindOk r.1 ∧ r.2.natAbs < 10 ^ 60) : ∃ d, DpS K H v d ∧ Nice 41000 2 d := by
  cases st with
  | none =>
    cases h
    exact ⟨.none, fun _ _ => .non, nice_none.mono (by decide) (by decide)⟩
  | some r =>
    obtain ⟨d, h1, h2⟩ := dps_run (K := K) h (k r rfl).1 (k r rfl).2
    exact ⟨d, h1, h2.mono (by decide) (by decide)⟩
theorem dps_two {K : PySem.W.Frag} {H : Hp} {a : Addr} {x y : V} (h : H a = some (.lst [x, y])) (hx : ∃ d, DpS K H x d ∧ Nice 41000 2 d) (hy : ∃ d, DpS K H y d ∧ Nice 41000 2 d) : ∃ d, DpS K H (.ref a) d ∧ Nice 82002 3 d := by
  have := dps_seq (K := K) (a := a) (xs := [x, y]) (w := 41000) (n := 2) (.inl h) fun z hz => by
    rcases List.mem_cons.mp hz with e | e
    · rw [e]
      exact hx
    · rw [List.mem_singleton.mp e]
      exact hy
  exact this
/-! ### dressed and undressed -/
def dP (r : Run) : PyData := .list [.str r.1, .int r.2]
def dSq (rs : List Run) : PyData := .list (rs.map dP)
def dSt : Option Run → PyData
  | none => .none
  | some r => dP r
theorem sim_pair {N : Addr → Prop} {H : Hp} {n : Nat} (r : Run) : Paired (Sim N H n) [V.str r.1, V.int r.2] [PyData.str r.1, PyData.int r.2] := .cons (Sim.dsc (.inr (.inr (.inr ⟨_, rfl, rfl⟩)))) (.cons (Sim.dsc (.inr (.inr (.inl ⟨_, rfl, rfl⟩)))) .nil)
theorem sim_run {H : Hp} {sp : Addr} {v : V} {r : Run} {n : Nat} (z : Spr H sp) (h : RunV H v r) : Sim (· ≠ sp) H (n + 1) v (dP r) := by
  obtain ⟨t, rfl, h⟩ := h
  obtain ⟨_, _, _, hs, _⟩ := z
  exact .inr ⟨t, _, _, rfl, ne_of h hs (by intro q; cases q), .inr h, rfl, sim_pair r, Nat.le_of_ble_eq_true rfl⟩
theorem sim_seq {H : Hp} {sp a : Addr} {rs : List Run} (z : Spr H sp) (h : Runs H a rs) (l : rs.length ≤ 1000) : Sim (· ≠ sp) H 2 (.ref a) (dSq rs) := by
  have na := Runs.ne z h
  obtain ⟨xs, hx, hp⟩ := h
  refine .inr ⟨a, xs, _, rfl, na, .inl hx, rfl, ?_, by rw [List.length_map]; exact l⟩
  have gen : ∀ {xs : List V} {rs : List Run}, Paired (RunV H) xs rs → Paired (Sim (· ≠ sp) H 1) xs (rs.map dP) := by
    intro xs rs h
    induction h with
    | nil => exact .nil
    | cons h _ ih => exact .cons (sim_run z h) ih
  exact gen hp
theorem sim_st {H : Hp} {sp : Addr} {v : V} {st : Option Run} (z : Spr H sp) (h : StV H v st) : Sim (· ≠ sp) H 2 v (dSt st) := by
  cases st with
  | none =>
    cases h
    exact .inl (.inl ⟨rfl, rfl⟩)
  | some r => exact sim_run z h
theorem sim_one {N : Addr → Prop} {H : Hp} {n : Nat} {v : V} {r : Run} (h : Sim N H (n + 1) v (dP r)) : RunG H v r := by
  rcases h with h | ⟨a, xs, ds, rfl, _, hx, e, p, _⟩
  · exact (dsc_lst h).elim
  · cases e
    have scal : ∀ {m : Nat} {x : V} {s : Str}, Sim N H m x (.str s) → x = .str s := by
      intro m x s h
      have h : Dsc x (.str s) := by
        cases m with
        | zero => exact h
        | succ m =>
          rcases h with h | ⟨_, _, _, _, _, _, e, _⟩
          · exact h
          · cases e
      rcases h with ⟨_, e⟩ | ⟨_, _, e⟩ | ⟨_, _, e⟩ | ⟨y, e1, e⟩ <;> cases e
      exact e1
    have scai : ∀ {m : Nat} {x : V} {s : Int}, Sim N H m x (.int s) → x = .int s := by
      intro m x s h
      have h : Dsc x (.int s) := by
        cases m with
        | zero => exact h
        | succ m =>
          rcases h with h | ⟨_, _, _, _, _, _, e, _⟩
          · exact h
          · cases e
      rcases h with ⟨_, e⟩ | ⟨_, _, e⟩ | ⟨y, e1, e⟩ | ⟨_, _, e⟩ <;> cases e
      exact e1
    cases p with
    | cons h1 p1 =>
      cases p1 with
      | cons h2 p2 =>
        cases p2
        rw [scal h1, scai h2] at hx
        exact ⟨a, rfl, hx⟩
theorem sim_all {N : Addr → Prop} {H : Hp} : ∀ (rs : List Run) (xs : List V), Paired (Sim N H 1) xs (rs.map dP) → Paired (RunG H) xs rs
  | [], xs, h => by
    cases h
    exact .nil
  | r :: t, xs, h => by
    cases h with
    | cons h1 h2 => exact .cons (sim_one h1) (sim_all t _ h2)
theorem sim_runs {N : Addr → Prop} {H : Hp} {v : V} {rs : List Run} (h : Sim N H 2 v (dSq rs)) : RunsG H v rs := by
  rcases h with h | ⟨a, xs, ds, rfl, _, hx, e, p, _⟩
  · exact (dsc_lst h).elim
  · cases e
    refine ⟨a, xs, rfl, hx, ?_⟩
    exact sim_all rs xs p
theorem sim_stg {N : Addr → Prop} {H : Hp} {v : V} {st : Option Run} (h : Sim N H 2 v (dSt st)) : StG H v st := by
  cases st with
  | none =>
    rcases h with h | ⟨_, _, _, _, _, _, e, _⟩
    · rcases h with ⟨e, _⟩ | ⟨_, _, e⟩ | ⟨_, _, e⟩ | ⟨_, _, e⟩
      · exact e
      all_goals cases e
    · cases e
  | some r => exact sim_one h
/-! ### one by one -/
theorem at_moment {rs : List Run} {st : Option Run} {m : Nat} (h : PosO st) (k : ∀ r ∈ rs, 1 ≤ r.2) : stR (cutR 0 (m : Int) 0 rs) st = toldR (plA (w0R st) 0 ((itR rs).take m)) := by
  rw [told_plA _ _ _ (uni_w0 st), told_w0 h, st_items _ _ h cutR_pos, cut_items _ _ _ (Int.le_refl _) k, Int.sub_zero, Int.toNat_natCast]
theorem at_end {rs : List Run} {st : Option Run} (h : PosO st) (k : ∀ r ∈ rs, 1 ≤ r.2) : stR rs st = toldR (plA (w0R st) 0 (itR rs)) := by
  rw [told_plA _ _ _ (uni_w0 st), told_w0 h, st_items _ _ h k]
theorem plMs_get (ws : List Run) (ks : List Str) {n : Nat} (h : n ≤ ks.length) : (plMs ws ks)[n]? = some (plA ws 0 (ks.take n)) := by
  unfold plMs
  rw [List.getElem?_map, List.getElem?_range (by omega)]
  rfl
def dO : Option Run → PyData
  | none => .none
  | some r => dRun r
theorem dt_st {H : Hp} {v : V} {st : Option Run} {n : Nat} (h : StV H v st) : Dt H (n + 1) v (dO st) := by
  cases st with
  | none =>
    cases h
    exact .inl (.inl ⟨rfl, rfl⟩)
  | some r =>
    obtain ⟨t, rfl, h⟩ := h
    refine .inr (.inr ⟨t, _, _, rfl, h, rfl, .cons ?_ (.cons ?_ .nil), Nat.le_of_ble_eq_true rfl⟩)
    · cases n with
      | zero => exact .inr (.inr (.inr ⟨_, rfl, rfl⟩))
      | succ m => exact .inl (.inr (.inr (.inr ⟨_, rfl, rfl⟩)))
    · cases n with
      | zero => exact .inr (.inr (.inl ⟨_, rfl, rfl⟩))
      | succ m => exact .inl (.inr (.inr (.inl ⟨_, rfl, rfl⟩)))
theorem w0_len {st : Option Run} (h : ∀ r, st = some r → r.2 ≤ 1000) : (w0R st).length ≤ 1000 := by
  cases st with
  | none => exact Nat.zero_le _
  | some r =>
    have := h r rfl
    show (List.replicate r.2.toNat (r.1, (-1 : Int))).length ≤ 1000
    rw [List.length_replicate]
    omega
theorem w0_kinds {st : Option Run} (h : StOk st) : ∀ r ∈ w0R st, KindOk r.1 := by
  cases st with
  | none => intro r h; cases h
  | some x =>
    intro r hr
    rw [List.eq_of_mem_replicate hr]
    exact (h x rfl).1
theorem it_kinds {rs : List Run} (h : ∀ r ∈ rs, KindOk r.1) : ∀ k ∈ itR rs, KindOk k := by
  intro k hk
  obtain ⟨r, h1, h2⟩ := List.mem_flatMap.mp hk
  rw [List.eq_of_mem_replicate h2]
  exact h r h1
end UP

set_option Elab.async false
set_option linter.all false
set_option maxRecDepth 100000
set_option maxHeartbeats 4000000
namespace UP
open PySem PySem.Spec PyProof.Rows L2
abbrev Rg := Int × Int
/-! ### ranges without their first positions -/
def rmR (p : Rg) (n : Int) : Int := if p.2 - p.1 + 1 < n then p.2 - p.1 + 1 else n
def wfP (p : Rg) (n : Int) : List Rg := if p.1 + rmR p n ≤ p.2 then [(p.1 + rmR p n, p.2)] else []
def wfR : List Rg → Int → List Rg
  | [], _ => []
  | p :: t, n => wfP p n ++ wfR t (n - rmR p n)
/-- the number that is left to be removed behind some ranges -/
def wfN : List Rg → Int → Int
  | [], n => n
  | p :: t, n => wfN t (n - rmR p n)
theorem wfN_snoc : ∀ (l : List Rg) (p : Rg) (n : Int), wfN (l ++ [p]) n = wfN l n - rmR p (wfN l n)
  | [], _, _ => rfl
  | x :: t, p, n => wfN_snoc t p (n - rmR x n)
theorem wfR_snoc : ∀ (l : List Rg) (p : Rg) (n : Int), wfR (l ++ [p]) n = wfR l n ++ wfP p (wfN l n)
  | [], p, n => by
    show wfP p n ++ [] = [] ++ wfP p n
    rw [List.append_nil, List.nil_append]
  | x :: t, p, n => by
    show wfP x n ++ wfR (t ++ [p]) (n - rmR x n) = (wfP x n ++ wfR t (n - rmR x n)) ++ wfP p (wfN t (n - rmR x n))
    rw [wfR_snoc t, List.append_assoc]
def adP (st : Option Run) (b : Int) (r : Run) : List Rg := if leavR st r.1 r.2 < r.2 then [(b + leavR st r.1 r.2, b + r.2 - 1)] else []
def waR : List Run → Option Run → Int → List Rg → List Rg
  | [], _, _, R => R
  | r :: t, st, b, R => waR t (stepR st r.1 r.2) (b + r.2) (wfR R (leavR st r.1 r.2) ++ adP st b r)
theorem waR_snoc : ∀ (l : List Run) (r : Run) (st : Option Run) (b : Int) (R : List Rg), waR (l ++ [r]) st b R = wfR (waR l st b R) (leavR (stR l st) r.1 r.2) ++ adP (stR l st) (b + lenR l) r
  | [], r, st, b, R => by
    show wfR R (leavR st r.1 r.2) ++ adP st b r = wfR R (leavR st r.1 r.2) ++ adP st (b + lenR []) r
    rw [lenR_nil, Int.add_zero]
  | x :: t, r, st, b, R => by
    show waR (t ++ [r]) (stepR st x.1 x.2) (b + x.2) (wfR R (leavR st x.1 x.2) ++ adP st b x) = wfR (waR t (stepR st x.1 x.2) (b + x.2) (wfR R (leavR st x.1 x.2) ++ adP st b x)) (leavR (stR (x :: t) st) r.1 r.2) ++ adP (stR (x :: t) st) (b + lenR (x :: t)) r
    rw [waR_snoc t, stR_cons, lenR_cons, Int.add_assoc]
/-! ### all counts multiplied -/
def scP (t : Int) (R : List Rg) : List Rg := R.map fun p => (p.1 * t, p.2 * t + t - 1)
theorem le_sc {a b t : Int} (ht : 0 < t) : a * t ≤ b * t ↔ a ≤ b := by
  have := lt_sc (a := b) (b := a) ht
  exact ⟨fun z => by
    by_cases q : b < a
    · have := this.mpr q
      omega
    · omega, fun z => Int.mul_le_mul_of_nonneg_right z (by omega)⟩
theorem last_sc {a b t : Int} (ht : 0 < t) : a * t ≤ b * t + t - 1 ↔ a ≤ b := by
  have e : (b + 1) * t = b * t + t := by rw [Int.add_mul, Int.one_mul]
  have := lt_sc (a := a) (b := b + 1) ht
  rw [e] at this
  exact ⟨fun z => by have := this.mp (by omega); omega, fun z => by have := this.mpr (by omega); omega⟩
theorem rm_sc {p : Rg} {n t : Int} (ht : 0 < t) : rmR (p.1 * t, p.2 * t + t - 1) (n * t) = rmR p n * t := by
  unfold rmR
  have e : (p.2 * t + t - 1) - p.1 * t + 1 = (p.2 - p.1 + 1) * t := by
    rw [Int.add_mul, Int.sub_mul, Int.one_mul]
    omega
  show (if (p.2 * t + t - 1) - p.1 * t + 1 < n * t then (p.2 * t + t - 1) - p.1 * t + 1 else n * t) = _
  rw [e]
  by_cases g : p.2 - p.1 + 1 < n
  · rw [if_pos g, if_pos ((lt_sc ht).mpr g)]
  · rw [if_neg g, if_neg fun z => g ((lt_sc ht).mp z)]
theorem wfP_sc {p : Rg} {n t : Int} (ht : 0 < t) : wfP (p.1 * t, p.2 * t + t - 1) (n * t) = scP t (wfP p n) := by
  unfold wfP
  rw [rm_sc ht]
  show (if p.1 * t + rmR p n * t ≤ p.2 * t + t - 1 then [(p.1 * t + rmR p n * t, p.2 * t + t - 1)] else []) = _
  rw [← Int.add_mul]
  by_cases g : p.1 + rmR p n ≤ p.2
  · rw [if_pos g, if_pos ((last_sc ht).mpr g)]
    rfl
  · rw [if_neg g, if_neg fun z => g ((last_sc ht).mp z)]
    rfl
theorem wfR_sc {t : Int} (ht : 0 < t) : ∀ (R : List Rg) (n : Int), wfR (scP t R) (n * t) = scP t (wfR R n)
  | [], _ => rfl
  | p :: u, n => by
    show wfP (p.1 * t, p.2 * t + t - 1) (n * t) ++ wfR (scP t u) (n * t - rmR (p.1 * t, p.2 * t + t - 1) (n * t)) = scP t (wfP p n ++ wfR u (n - rmR p n))
    rw [wfP_sc ht, rm_sc ht, ← Int.sub_mul, wfR_sc ht u]
    unfold scP
    rw [List.map_append]
theorem leav_sc {st : Option Run} {k : Str} {c t : Int} (ht : 0 < t) : leavR (scO t st) k (c * t) = leavR st k c * t := by
  cases st with
  | none =>
    show (0 : Int) = 0 * t
    rw [Int.zero_mul]
  | some x =>
    show (if x.1 = k then 0 else if c * t < x.2 * t then c * t else x.2 * t) = (if x.1 = k then 0 else if c < x.2 then c else x.2) * t
    by_cases e : x.1 = k
    · rw [if_pos e, if_pos e, Int.zero_mul]
    · rw [if_neg e, if_neg e]
      by_cases g : c < x.2
      · rw [if_pos g, if_pos ((lt_sc ht).mpr g)]
      · rw [if_neg g, if_neg fun z => g ((lt_sc ht).mp z)]
theorem adP_sc {st : Option Run} {b t : Int} {r : Run} (ht : 0 < t) : adP (scO t st) (b * t) (r.1, r.2 * t) = scP t (adP st b r) := by
  unfold adP
  rw [leav_sc ht]
  by_cases g : leavR st r.1 r.2 < r.2
  · rw [if_pos g, if_pos ((lt_sc ht).mpr g)]
    show [(b * t + leavR st r.1 r.2 * t, b * t + r.2 * t - 1)] = [((b + leavR st r.1 r.2) * t, (b + r.2 - 1) * t + t - 1)]
    rw [← Int.add_mul, ← Int.add_mul, Int.sub_mul, Int.one_mul]
    congr 2
    omega
  · rw [if_neg g, if_neg fun z => g ((lt_sc ht).mp z)]
    rfl
theorem waR_sc {t : Int} (ht : 0 < t) : ∀ (rs : List Run) (st : Option Run) (b : Int) (R : List Rg), waR (scR t rs) (scO t st) (b * t) (scP t R) = scP t (waR rs st b R)
  | [], _, _, _ => rfl
  | r :: u, st, b, R => by
    show waR (scR t u) (stepR (scO t st) r.1 (r.2 * t)) (b * t + r.2 * t) (wfR (scP t R) (leavR (scO t st) r.1 (r.2 * t)) ++ adP (scO t st) (b * t) (r.1, r.2 * t)) = scP t (waR u (stepR st r.1 r.2) (b + r.2) (wfR R (leavR st r.1 r.2) ++ adP st b r))
    rw [step_sc ht, ← Int.add_mul, leav_sc ht, wfR_sc ht, adP_sc ht]
    have e : scP t (wfR R (leavR st r.1 r.2)) ++ scP t (adP st b r) = scP t (wfR R (leavR st r.1 r.2) ++ adP st b r) := by
      unfold scP
      rw [List.map_append]
    rw [e, waR_sc ht u]
/-! ### the ranges of positions -/
def rgS (t : Int) (F : List Rg) (p : Int) : List Rg := match F.getLast? with
  | none => F ++ [(p * t, p * t + t - 1)]
  | some l => if l.2 = p * t - 1 then F.dropLast ++ [(l.1, p * t + t - 1)] else F ++ [(p * t, p * t + t - 1)]
def rgR (t : Int) (ps : List Int) : List Rg := ps.foldl (rgS t) []
theorem rgS_sc {t : Int} (ht : 0 < t) (F : List Rg) (p : Int) : rgS t (scP t F) p = scP t (rgS 1 F p) := by
  unfold rgS
  have eg : (scP t F).getLast? = F.getLast?.map fun p => (p.1 * t, p.2 * t + t - 1) := by
    unfold scP
    rw [List.getLast?_map]
  rw [eg]
  cases F.getLast? with
  | none =>
    show scP t F ++ [(p * t, p * t + t - 1)] = scP t (F ++ [(p * 1, p * 1 + 1 - 1)])
    unfold scP
    rw [List.map_append, Int.mul_one, show p + 1 - 1 = p by omega]
    rfl
  | some l =>
    show (if l.2 * t + t - 1 = p * t - 1 then (scP t F).dropLast ++ [(l.1 * t, p * t + t - 1)] else scP t F ++ [(p * t, p * t + t - 1)]) = scP t (if l.2 = p * 1 - 1 then F.dropLast ++ [(l.1, p * 1 + 1 - 1)] else F ++ [(p * 1, p * 1 + 1 - 1)])
    rw [Int.mul_one, show p + 1 - 1 = p by omega]
    have iff : l.2 * t + t - 1 = p * t - 1 ↔ l.2 = p - 1 := by
      have e : (l.2 + 1) * t = l.2 * t + t := by rw [Int.add_mul, Int.one_mul]
      constructor
      · intro z
        have a := (le_sc (a := l.2 + 1) (b := p) ht).mp (by omega)
        have b := (le_sc (a := p) (b := l.2 + 1) ht).mp (by omega)
        omega
      · intro z
        have : (l.2 + 1) * t = p * t := by rw [show l.2 + 1 = p by omega]
        omega
    by_cases g : l.2 = p - 1
    · rw [if_pos g, if_pos (iff.mpr g)]
      unfold scP
      rw [List.map_append, List.map_dropLast]
      rfl
    · rw [if_neg g, if_neg fun z => g (iff.mp z)]
      unfold scP
      rw [List.map_append]
      rfl
theorem rgR_sc {t : Int} (ht : 0 < t) (ps : List Int) : rgR t ps = scP t (rgR 1 ps) := by
  unfold rgR
  have gen : ∀ (ps : List Int) (F : List Rg), ps.foldl (rgS t) (scP t F) = scP t (ps.foldl (rgS 1) F) := by
    intro ps
    induction ps with
    | nil => intro F; rfl
    | cons p u ih =>
      intro F
      show u.foldl (rgS t) (rgS t (scP t F) p) = scP t (u.foldl (rgS 1) (rgS 1 F p))
      rw [rgS_sc ht, ih]
  exact gen ps []
/-! ### positions -/
def posL (a : Int) : Nat → List Int
  | 0 => []
  | n + 1 => a :: posL (a + 1) n
theorem posL_app : ∀ (m n : Nat) (a : Int), posL a (m + n) = posL a m ++ posL (a + (m : Int)) n
  | 0, n, a => by
    rw [Nat.zero_add, show a + ((0 : Nat) : Int) = a by omega]
    rfl
  | m + 1, n, a => by
    rw [show m + 1 + n = (m + n) + 1 by omega]
    show a :: posL (a + 1) (m + n) = a :: (posL (a + 1) m ++ posL (a + ((m + 1 : Nat) : Int)) n)
    rw [posL_app m n, show a + 1 + (m : Int) = a + ((m + 1 : Nat) : Int) by omega]
theorem posL_len : ∀ (n : Nat) (a : Int), (posL a n).length = n
  | 0, _ => rfl
  | n + 1, a => congrArg Nat.succ (posL_len n _)
theorem posL_drop (a : Int) (n k : Nat) (h : k ≤ n) : (posL a n).drop k = posL (a + (k : Int)) (n - k) := by
  have e : n = k + (n - k) := by omega
  rw [e, posL_app, List.drop_append_of_le_length (by rw [posL_len]; exact Nat.le_refl _), List.drop_of_length_le (by rw [posL_len]; exact Nat.le_refl _), List.nil_append, show k + (n - k) - k = n - k by omega]
def flP (p : Rg) : List Int := posL p.1 (p.2 - p.1 + 1).toNat
def flR (R : List Rg) : List Int := R.flatMap flP
theorem flR_cons (p : Rg) (t : List Rg) : flR (p :: t) = flP p ++ flR t := rfl
theorem flR_app (R S : List Rg) : flR (R ++ S) = flR R ++ flR S := List.flatMap_append ..
/-- ascending, with gaps, below b -/
def Gd : List Rg → Int → Prop
  | [], _ => True
  | p :: t, b => p.1 ≤ p.2 ∧ p.2 < b ∧ (∀ x, t.head? = some x → p.2 + 1 < x.1) ∧ Gd t b
theorem Gd.mono {b b' : Int} (h : b ≤ b') : ∀ {R : List Rg}, Gd R b → Gd R b'
  | [], _ => trivial
  | p :: t, g => ⟨g.1, by have := g.2.1; omega, g.2.2.1, Gd.mono h g.2.2.2⟩
theorem Gd.last {b : Int} : ∀ {R : List Rg}, Gd R b → ∀ l, R.getLast? = some l → l.2 < b
  | [], _, l, h => by cases h
  | [p], g, l, h => by
    have e : p = l := Option.some.inj h
    rw [← e]
    exact g.2.1
  | p :: q :: t, g, l, h => by
    rw [List.getLast?_cons_cons] at h
    exact Gd.last g.2.2.2 l h
theorem Gd.snoc {b : Int} {p : Rg} : ∀ {R : List Rg}, Gd R b → p.1 ≤ p.2 → p.2 < b → (∀ l, R.getLast? = some l → l.2 + 1 < p.1) → Gd (R ++ [p]) b
  | [], _, h1, h2, _ => ⟨h1, h2, (fun x h => by cases h), trivial⟩
  | [q], g, h1, h2, h3 => ⟨g.1, g.2.1, (fun x h => by have e : p = x := Option.some.inj h; rw [← e]; exact h3 q rfl), h1, h2, (fun x h => by cases h), trivial⟩
  | q :: r :: t, g, h1, h2, h3 => by
    have ih := Gd.snoc (R := r :: t) g.2.2.2 h1 h2 (fun l hl => h3 l (by rw [List.getLast?_cons_cons]; exact hl))
    exact ⟨g.1, g.2.1, (fun x h => g.2.2.1 x h), ih⟩
theorem rm_le {p : Rg} {n : Int} (h : p.1 ≤ p.2) (hn : 0 ≤ n) : 0 ≤ rmR p n ∧ rmR p n ≤ n ∧ rmR p n ≤ p.2 - p.1 + 1 ∧ (rmR p n < p.2 - p.1 + 1 → rmR p n = n) := by
  unfold rmR
  split <;> omega
theorem wf_zero {b : Int} : ∀ {R : List Rg}, Gd R b → wfR R 0 = R
  | [], _ => rfl
  | p :: t, g => by
    have h := rm_le (p := p) (n := 0) g.1 (Int.le_refl _)
    have e : rmR p 0 = 0 := by omega
    show wfP p 0 ++ wfR t (0 - rmR p 0) = p :: t
    unfold wfP
    rw [e, Int.sub_zero, Int.add_zero, if_pos g.1, wf_zero g.2.2.2]
    rfl
theorem wf_flat {b : Int} : ∀ {R : List Rg} {n : Int}, Gd R b → 0 ≤ n → flR (wfR R n) = (flR R).drop n.toNat
  | [], n, _, _ => by
    show ([] : List Int) = ([] : List Int).drop _
    rw [List.drop_nil]
  | p :: t, n, g, hn => by
    have g1 := g.1
    have h := rm_le (p := p) g1 hn
    have ih := wf_flat (n := n - rmR p n) g.2.2.2 (by omega)
    show flR (wfP p n ++ wfR t (n - rmR p n)) = (flP p ++ flR t).drop n.toNat
    rw [flR_app, ih, List.drop_append]
    have lp : (flP p).length = (p.2 - p.1 + 1).toNat := posL_len _ _
    rw [lp]
    by_cases c : p.1 + rmR p n ≤ p.2
    · have e : rmR p n = n := h.2.2.2 (by omega)
      have e1 : wfP p n = [(p.1 + rmR p n, p.2)] := if_pos c
      rw [e1, e, show n - n = 0 by omega, show n.toNat - (p.2 - p.1 + 1).toNat = 0 by omega]
      congr 1
      show posL (p.1 + n) (p.2 - (p.1 + n) + 1).toNat ++ [] = (posL p.1 (p.2 - p.1 + 1).toNat).drop n.toNat
      rw [List.append_nil, posL_drop _ _ _ (by omega), show (n.toNat : Int) = n by omega, show (p.2 - (p.1 + n) + 1).toNat = (p.2 - p.1 + 1).toNat - n.toNat by omega]
    · have e1 : wfP p n = [] := if_neg c
      rw [e1, show (n - rmR p n).toNat = n.toNat - (p.2 - p.1 + 1).toNat by omega]
      congr 1
      show [] = (posL p.1 (p.2 - p.1 + 1).toNat).drop n.toNat
      rw [List.drop_of_length_le (by rw [posL_len]; omega)]
theorem wf_good {b : Int} : ∀ {R : List Rg} {n : Int}, Gd R b → 0 ≤ n → Gd (wfR R n) b
  | [], _, _, _ => trivial
  | p :: t, n, g, hn => by
    have g1 := g.1
    have h := rm_le (p := p) g1 hn
    show Gd (wfP p n ++ wfR t (n - rmR p n)) b
    by_cases c : p.1 + rmR p n ≤ p.2
    · have e : rmR p n = n := h.2.2.2 (by omega)
      have e1 : wfP p n = [(p.1 + rmR p n, p.2)] := if_pos c
      rw [e1, show n - rmR p n = 0 by omega, wf_zero g.2.2.2]
      exact ⟨c, g.2.1, g.2.2.1, g.2.2.2⟩
    · have e1 : wfP p n = [] := if_neg c
      rw [e1]
      exact wf_good g.2.2.2 (by omega)
theorem wf_lastlt {b : Int} {R : List Rg} {n : Int} (g : Gd R b) (hn : 0 ≤ n) : ∀ l, (wfR R n).getLast? = some l → l.2 < b := fun l h => Gd.last (wf_good g hn) l h
/-! ### ranges of positions are the ranges -/
theorem rg_more : ∀ (k : Nat) (F : List Rg) (a q : Int), (posL (q + 1) k).foldl (rgS 1) (F ++ [(a, q)]) = F ++ [(a, q + (k : Int))]
  | 0, F, a, q => by
    rw [show q + ((0 : Nat) : Int) = q by omega]
    rfl
  | k + 1, F, a, q => by
    show (posL (q + 1 + 1) k).foldl (rgS 1) (rgS 1 (F ++ [(a, q)]) (q + 1)) = _
    have e : rgS 1 (F ++ [(a, q)]) (q + 1) = F ++ [(a, q + 1)] := by
      unfold rgS
      rw [List.getLast?_concat]
      show (if q = (q + 1) * 1 - 1 then (F ++ [(a, q)]).dropLast ++ [(a, (q + 1) * 1 + 1 - 1)] else _) = _
      rw [if_pos (by omega), List.dropLast_concat, Int.mul_one, show q + 1 + 1 - 1 = q + 1 by omega]
    rw [e, rg_more k F a (q + 1), show q + 1 + (k : Int) = q + ((k + 1 : Nat) : Int) by omega]
theorem rg_flat {b : Int} : ∀ (R : List Rg) (F : List Rg), Gd R b → (∀ l p, F.getLast? = some l → R.head? = some p → l.2 + 1 < p.1) → (flR R).foldl (rgS 1) F = F ++ R
  | [], F, _, _ => by
    rw [List.append_nil]
    rfl
  | p :: t, F, g, h => by
    have g1 := g.1
    obtain ⟨k, hk⟩ : ∃ k : Nat, (p.2 - p.1 + 1).toNat = k + 1 := ⟨(p.2 - p.1).toNat, by omega⟩
    have e0 : flP p = p.1 :: posL (p.1 + 1) k := by
      unfold flP
      rw [hk]
      rfl
    rw [flR_cons, List.foldl_append, e0]
    show (flR t).foldl (rgS 1) ((posL (p.1 + 1) k).foldl (rgS 1) (rgS 1 F p.1)) = F ++ p :: t
    have e1 : rgS 1 F p.1 = F ++ [(p.1, p.1)] := by
      unfold rgS
      cases e : F.getLast? with
      | none =>
        show F ++ [(p.1 * 1, p.1 * 1 + 1 - 1)] = _
        rw [Int.mul_one, show p.1 + 1 - 1 = p.1 by omega]
      | some l =>
        have := h l p e rfl
        show (if l.2 = p.1 * 1 - 1 then _ else F ++ [(p.1 * 1, p.1 * 1 + 1 - 1)]) = _
        rw [if_neg (by omega), Int.mul_one, show p.1 + 1 - 1 = p.1 by omega]
    rw [e1, rg_more, show p.1 + (k : Int) = p.2 by omega]
    have ep : (p.1, p.2) = p := rfl
    rw [ep, rg_flat t (F ++ [p]) g.2.2.2 (fun l q hl hq => by
      rw [List.getLast?_concat] at hl
      have e : p = l := Option.some.inj hl
      rw [← e]
      exact g.2.2.1 q hq), List.append_assoc]
    rfl
/-! ### positions that wait, run by run -/
def psW (ws : List Run) : List Int := ws.map (·.2)
theorem pl_same : ∀ (c : Nat) (ws : List Run) (n : Nat) (k : Str), (∀ r ∈ ws, r.1 = k) → psW (plA ws n (List.replicate c k)) = psW ws ++ posL (n : Int) c
  | 0, ws, n, k, _ => by
    show psW ws = psW ws ++ []
    rw [List.append_nil]
  | c + 1, ws, n, k, h => by
    have e : plS ws k n = ws ++ [(k, (n : Int))] := by
      cases ws with
      | nil => rfl
      | cons r t => exact if_pos (h r (List.mem_cons_self ..))
    show psW (plA (plS ws k n) (n + 1) (List.replicate c k)) = psW ws ++ ((n : Int) :: posL ((n : Int) + 1) c)
    rw [e, pl_same c _ (n + 1) k (fun r hr => by
      rcases List.mem_append.mp hr with z | z
      · exact h r z
      · rw [List.mem_singleton.mp z])]
    unfold psW
    rw [List.map_append, List.append_assoc]
    rfl
theorem pl_other : ∀ (c : Nat) (ws : List Run) (n : Nat) (k : Str), (∀ r ∈ ws, r.1 ≠ k) → psW (plA ws n (List.replicate c k)) = (psW ws).drop c ++ posL ((n : Int) + (ws.length : Int)) (c - ws.length)
  | 0, ws, n, k, _ => by
    show psW ws = (psW ws).drop 0 ++ posL _ (0 - ws.length)
    rw [Nat.zero_sub]
    show psW ws = psW ws ++ []
    rw [List.append_nil]
  | c + 1, [], n, k, _ => by
    have := pl_same (c + 1) [] n k (fun r h => by cases h)
    rw [this]
    show [] ++ posL (n : Int) (c + 1) = ([] : List Int).drop (c + 1) ++ posL ((n : Int) + 0) (c + 1 - 0)
    rw [List.drop_nil, Int.add_zero]
    rfl
  | c + 1, r :: t, n, k, h => by
    have e : plS (r :: t) k n = t := if_neg (h r (List.mem_cons_self ..))
    show psW (plA (plS (r :: t) k n) (n + 1) (List.replicate c k)) = (psW t).drop c ++ posL ((n : Int) + ((r :: t).length : Int)) (c + 1 - (r :: t).length)
    rw [e, pl_other c t (n + 1) k (fun x hx => h x (List.mem_cons_of_mem _ hx)), List.length_cons, show ((n + 1 : Nat) : Int) + (t.length : Int) = (n : Int) + ((t.length + 1 : Nat) : Int) by omega, show c + 1 - (t.length + 1) = c - t.length by omega]
end UP

set_option Elab.async false
set_option linter.all false
set_option maxRecDepth 100000
set_option maxHeartbeats 4000000
namespace UP
open PySem PySem.Spec PyProof.Rows L2
theorem plA_app : ∀ (l m : List Str) (ws : List Run) (n : Nat), plA ws n (l ++ m) = plA (plA ws n l) (n + l.length) m
  | [], m, ws, n => rfl
  | k :: t, m, ws, n => by
    show plA (plS ws k n) (n + 1) (t ++ m) = plA (plA (plS ws k n) (n + 1) t) (n + (k :: t).length) m
    rw [plA_app t m, List.length_cons, show n + 1 + t.length = n + (t.length + 1) by omega]
theorem uni_plA : ∀ (l : List Str) (ws : List Run) (n : Nat), Uni ws → Uni (plA ws n l)
  | [], _, _, h => h
  | k :: t, ws, n, h => uni_plA t _ _ (uni_plS h)
theorem told_len {ws : List Run} : numR (toldR ws) = (ws.length : Int) := by
  cases ws with
  | nil => rfl
  | cons r t => rfl
/-- one run -/
theorem one_run {ws : List Run} {R : List Rg} {n : Nat} {r : Run} (u : Uni ws) (fl : flR R = psW ws) (g : Gd R (n : Int)) (c1 : 1 ≤ r.2) (bd : ∀ l, R.getLast? = some l → l.2 = (n : Int) - 1 → ∀ x, toldR ws = some x → x.1 ≠ r.1) :
    flR (wfR R (leavR (toldR ws) r.1 r.2) ++ adP (toldR ws) (n : Int) r) = psW (plA ws n (List.replicate r.2.toNat r.1)) ∧ Gd (wfR R (leavR (toldR ws) r.1 r.2) ++ adP (toldR ws) (n : Int) r) ((n : Int) + r.2) ∧
    ∀ l, (wfR R (leavR (toldR ws) r.1 r.2) ++ adP (toldR ws) (n : Int) r).getLast? = some l → l.2 = (n : Int) + r.2 - 1 → ∀ x, toldR (plA ws n (List.replicate r.2.toNat r.1)) = some x → x.1 = r.1 := by
  obtain ⟨c, hc⟩ : ∃ c : Nat, r.2.toNat = c + 1 := ⟨r.2.toNat - 1, by omega⟩
  have er : ((c : Int) + 1) = r.2 := by omega
  have nn : PosO (toldR ws) := by
    intro x hx
    cases ws with
    | nil => cases hx
    | cons y t =>
      cases hx
      show 1 ≤ (((y :: t).length : Nat) : Int)
      rw [List.length_cons]
      omega
  have told' : toldR (plA ws n (List.replicate r.2.toNat r.1)) = stepR (toldR ws) r.1 r.2 := by
    rw [told_plA _ _ _ u, hc, it_step c _ _ nn, er]
  cases ws with
  | nil =>
    -- nobody waits
    have eR : R = [] := by
      cases R with
      | nil => rfl
      | cons p t =>
        have g1 := g.1
        have : flR (p :: t) = [] := fl
        rw [flR_cons] at this
        have l0 := congrArg List.length this
        rw [List.length_append, show (flP p).length = (p.2 - p.1 + 1).toNat from posL_len _ _] at l0
        have l0 : (p.2 - p.1 + 1).toNat + (flR t).length = 0 := l0
        omega
    subst eR
    have lv : leavR (toldR []) r.1 r.2 = 0 := rfl
    have ad : adP (toldR []) (n : Int) r = [((n : Int) + 0, (n : Int) + r.2 - 1)] := if_pos (by rw [lv]; omega)
    rw [lv, ad]
    refine ⟨?_, ⟨by show (n : Int) + 0 ≤ (n : Int) + r.2 - 1; omega, by show (n : Int) + r.2 - 1 < (n : Int) + r.2; omega, (fun x h => by cases h), trivial⟩, fun l _ _ x hx => ?_⟩
    · rw [pl_same r.2.toNat [] n r.1 (fun r h => by cases h)]
      show posL ((n : Int) + 0) ((n : Int) + r.2 - 1 - ((n : Int) + 0) + 1).toNat ++ [] = [] ++ posL (n : Int) r.2.toNat
      rw [List.append_nil, List.nil_append, Int.add_zero, show (n : Int) + r.2 - 1 - (n : Int) + 1 = r.2 by omega]
    · rw [told'] at hx
      cases hx
      rfl
  | cons y t =>
    by_cases e : y.1 = r.1
    · -- the same kind
      have all : ∀ x ∈ y :: t, x.1 = r.1 := fun x hx => (u x hx y (List.mem_cons_self ..)).trans e
      have lv : leavR (toldR (y :: t)) r.1 r.2 = 0 := if_pos e
      have ad : adP (toldR (y :: t)) (n : Int) r = [((n : Int) + 0, (n : Int) + r.2 - 1)] := by
        unfold adP
        rw [lv, if_pos (by omega)]
      rw [lv, ad, wf_zero g]
      refine ⟨?_, ?_, fun l _ _ x hx => ?_⟩
      · rw [flR_app, fl, pl_same r.2.toNat _ n r.1 all]
        congr 1
        show posL ((n : Int) + 0) ((n : Int) + r.2 - 1 - ((n : Int) + 0) + 1).toNat ++ [] = _
        rw [List.append_nil, Int.add_zero, show (n : Int) + r.2 - 1 - (n : Int) + 1 = r.2 by omega]
      · refine Gd.snoc (Gd.mono (by omega) g) (by show (n : Int) + 0 ≤ (n : Int) + r.2 - 1; omega) (by show (n : Int) + r.2 - 1 < (n : Int) + r.2; omega) fun l hl => ?_
        have h1 := Gd.last g l hl
        show l.2 + 1 < (n : Int) + 0
        by_cases z : l.2 = (n : Int) - 1
        · exact absurd e (bd l hl z (y.1, ((y :: t).length : Int)) rfl)
        · omega
      · rw [told', show stepR (toldR (y :: t)) r.1 r.2 = some (r.1, _ + r.2) from step_same e] at hx
        cases hx
        rfl
    · -- another kind
      have all : ∀ x ∈ y :: t, x.1 ≠ r.1 := fun x hx z => e ((u y (List.mem_cons_self ..) x hx).trans z)
      have lv : leavR (toldR (y :: t)) r.1 r.2 = if r.2 < ((y :: t).length : Int) then r.2 else ((y :: t).length : Int) := if_neg e
      have lfl : (flR R).length = (y :: t).length := by
        rw [fl]
        exact List.length_map _
      by_cases q : r.2 ≤ ((y :: t).length : Int)
      · have lv1 : leavR (toldR (y :: t)) r.1 r.2 = r.2 := by
          rw [lv]
          split <;> omega
        have ad : adP (toldR (y :: t)) (n : Int) r = [] := if_neg (by rw [lv1]; omega)
        rw [lv1, ad, List.append_nil]
        refine ⟨?_, Gd.mono (by omega) (wf_good g (by omega)), fun l hl hz => ?_⟩
        · rw [wf_flat g (by omega), fl, pl_other r.2.toNat _ n r.1 all, show r.2.toNat - (y :: t).length = 0 by omega]
          show _ = _ ++ []
          rw [List.append_nil]
        · have := wf_lastlt g (show 0 ≤ r.2 by omega) l hl
          omega
      · have lv1 : leavR (toldR (y :: t)) r.1 r.2 = ((y :: t).length : Int) := by
          rw [lv, if_neg (by omega)]
        have ad : adP (toldR (y :: t)) (n : Int) r = [((n : Int) + ((y :: t).length : Int), (n : Int) + r.2 - 1)] := by
          unfold adP
          rw [lv1, if_pos (by omega)]
        have fl0 : flR (wfR R ((y :: t).length : Int)) = [] := by
          rw [wf_flat g (by omega), Int.toNat_natCast, List.drop_of_length_le (by omega)]
        have w0 : wfR R ((y :: t).length : Int) = [] := by
          cases hw : wfR R ((y :: t).length : Int) with
          | nil => rfl
          | cons p s =>
            have gg := wf_good g (show 0 ≤ ((y :: t).length : Int) by omega)
            rw [hw] at gg fl0
            have g1 := gg.1
            rw [flR_cons] at fl0
            have l0 := congrArg List.length fl0
            rw [List.length_append, show (flP p).length = (p.2 - p.1 + 1).toNat from posL_len _ _] at l0
            have l0 : (p.2 - p.1 + 1).toNat + (flR s).length = 0 := l0
            omega
        rw [lv1, ad, w0]
        refine ⟨?_, ⟨by show (n : Int) + ((y :: t).length : Int) ≤ (n : Int) + r.2 - 1; omega, by show (n : Int) + r.2 - 1 < (n : Int) + r.2; omega, (fun x h => by cases h), trivial⟩, fun l _ _ x hx => ?_⟩
        · rw [pl_other r.2.toNat _ n r.1 all, List.drop_of_length_le (by unfold psW; rw [List.length_map]; omega)]
          show posL ((n : Int) + ((y :: t).length : Int)) ((n : Int) + r.2 - 1 - ((n : Int) + ((y :: t).length : Int)) + 1).toNat ++ [] = [] ++ _
          rw [List.append_nil, List.nil_append, show ((n : Int) + r.2 - 1 - ((n : Int) + ((y :: t).length : Int)) + 1).toNat = r.2.toNat - (y :: t).length by omega]
        · rw [told', show stepR (toldR (y :: t)) r.1 r.2 = _ from step_other (r := (y.1, ((y :: t).length : Int))) e] at hx
          have h0 : ¬ (0 : Int) < ((y :: t).length : Int) - r.2 := by omega
          have h1 : ¬ ((y :: t).length : Int) - r.2 = 0 := by omega
          have hx : (if (0 : Int) < ((y :: t).length : Int) - r.2 then some (y.1, ((y :: t).length : Int) - r.2) else if ((y :: t).length : Int) - r.2 = 0 then none else some (r.1, -(((y :: t).length : Int) - r.2))) = some x := hx
          rw [if_neg h0, if_neg h1] at hx
          cases hx
          rfl
theorem all_runs : ∀ (rs : List Run) (ws : List Run) (R : List Rg) (n : Nat), Uni ws → flR R = psW ws → Gd R (n : Int) → (∀ r ∈ rs, 1 ≤ r.2) → Alt rs → (∀ l, R.getLast? = some l → l.2 = (n : Int) - 1 → ∀ x r, toldR ws = some x → rs.head? = some r → x.1 ≠ r.1) →
    flR (waR rs (toldR ws) (n : Int) R) = psW (plA ws n (itR rs)) ∧ ∃ b, Gd (waR rs (toldR ws) (n : Int) R) b
  | [], ws, R, n, _, fl, g, _, _, _ => ⟨fl, _, g⟩
  | r :: t, ws, R, n, u, fl, g, k, alt, bd => by
    have c1 := k r (List.mem_cons_self ..)
    obtain ⟨h1, h2, h3⟩ := one_run (r := r) u fl g c1 fun l hl hz x hx => bd l hl hz x r hx rfl
    have e : itR (r :: t) = List.replicate r.2.toNat r.1 ++ itR t := rfl
    have cn : ((n + r.2.toNat : Nat) : Int) = (n : Int) + r.2 := by omega
    have told' : toldR (plA ws n (List.replicate r.2.toNat r.1)) = stepR (toldR ws) r.1 r.2 := by
      have nn : PosO (toldR ws) := by
        intro x hx
        cases ws with
        | nil => cases hx
        | cons y t =>
          cases hx
          show 1 ≤ (((y :: t).length : Nat) : Int)
          rw [List.length_cons]
          omega
      obtain ⟨c, hc⟩ : ∃ c : Nat, r.2.toNat = c + 1 := ⟨r.2.toNat - 1, by omega⟩
      rw [told_plA _ _ _ u, hc, it_step c _ _ nn, show (c : Int) + 1 = r.2 by omega]
    have ih := all_runs t (plA ws n (List.replicate r.2.toNat r.1)) _ (n + r.2.toNat) (uni_plA _ _ _ u) h1 (by rw [cn]; exact h2) (fun x hx => k x (List.mem_cons_of_mem _ hx)) (fun i x y hx hy => alt (i + 1) x y hx hy) (fun l hl hz x r' hx hr' => by
      have ex := h3 l hl (by omega) x hx
      rw [ex]
      refine alt 0 r r' rfl ?_
      cases t with
      | nil => cases hr'
      | cons y s => exact hr')
    rw [cn, told'] at ih
    rw [e, plA_app, List.length_replicate]
    exact ih
/-! ### the parts up to a moment -/
theorem cut_none {e : Int} : ∀ (rs : List Run) (b : Int), 0 ≤ b → e ≤ b → (∀ r ∈ rs, 1 ≤ r.2) → cutR 0 e b rs = []
  | [], _, _, _, _ => rfl
  | r :: t, b, h0, h, k => by
    have c1 := k r (List.mem_cons_self ..)
    have hs : ¬ 0 < sizeR b 0 e r.2 := by
      unfold sizeR
      split <;> split <;> omega
    show pieceR b 0 e r ++ cutR 0 e (b + r.2) t = []
    rw [show pieceR b 0 e r = [] from if_neg hs, cut_none t (b + r.2) (by omega) (by omega) fun x hx => k x (List.mem_cons_of_mem _ hx)]
    rfl
theorem cut_kinds {e : Int} : ∀ (rs : List Run) (b : Int), 0 ≤ b → (∀ r ∈ rs, 1 ≤ r.2) → ∃ n, (cutR 0 e b rs).map (·.1) = (rs.map (·.1)).take n
  | [], _, _, _ => ⟨0, rfl⟩
  | r :: t, b, h0, k => by
    by_cases h : e ≤ b
    · exact ⟨0, by rw [cut_none (r :: t) b h0 h k]; rfl⟩
    · have c1 := k r (List.mem_cons_self ..)
      obtain ⟨n, hn⟩ := cut_kinds t (b + r.2) (by omega) fun x hx => k x (List.mem_cons_of_mem _ hx)
      have hs : 0 < sizeR b 0 e r.2 := by
        unfold sizeR
        split <;> split <;> omega
      refine ⟨n + 1, ?_⟩
      show (pieceR b 0 e r ++ cutR 0 e (b + r.2) t).map (·.1) = r.1 :: (t.map (·.1)).take n
      rw [show pieceR b 0 e r = [(r.1, sizeR b 0 e r.2)] from if_pos hs, List.map_append, hn]
      rfl
theorem alt_take {rs hs : List Run} {n : Nat} (h : hs.map (·.1) = (rs.map (·.1)).take n) (a : Alt rs) : Alt hs := by
  intro i x y hx hy
  have g : ∀ (j : Nat) (z : Run), hs[j]? = some z → ∃ w, rs[j]? = some w ∧ w.1 = z.1 := by
    intro j z hz
    have := congrArg (fun l : List Str => l[j]?) h
    simp only [List.getElem?_map, hz, List.getElem?_take] at this
    split at this
    · cases e : rs[j]? with
      | none => rw [e] at this; cases this
      | some w =>
        rw [e] at this
        exact ⟨w, rfl, (Option.some.inj this).symm⟩
    · cases this
  obtain ⟨x', h1, e1⟩ := g i x hx
  obtain ⟨y', h2, e2⟩ := g (i + 1) y hy
  rw [← e1, ← e2]
  exact a i x' y' h1 h2
/-- the ranges at a multiplied moment -/
theorem whole_wa {rs : List Run} {t : Int} {m : Nat} (ht : 0 < t) (k : ∀ r ∈ rs, 1 ≤ r.2) (a : Alt rs) : waR (cutR 0 ((m : Int) * t) 0 (scR t rs)) none 0 [] = rgR t (psW (plA [] 0 ((itR rs).take m))) := by
  have ec := cut_sc (s := 0) (e := (m : Int)) ht rs 0
  rw [Int.zero_mul] at ec
  have es := waR_sc ht (cutR 0 (m : Int) 0 rs) none 0 []
  rw [Int.zero_mul] at es
  obtain ⟨n, hn⟩ := cut_kinds (e := (m : Int)) rs 0 (Int.le_refl _) k
  obtain ⟨h1, b, h2⟩ := all_runs (cutR 0 (m : Int) 0 rs) [] [] 0 (fun x hx => by cases hx) rfl trivial cutR_pos (alt_take hn a) (fun l hl => by cases hl)
  have h1 : flR (waR (cutR 0 (m : Int) 0 rs) none 0 []) = psW (plA [] 0 (itR (cutR 0 (m : Int) 0 rs))) := h1
  have h2 : Gd (waR (cutR 0 (m : Int) 0 rs) none 0 []) b := h2
  rw [cut_items _ _ _ (Int.le_refl _) k, Int.sub_zero, Int.toNat_natCast] at h1
  have rf := rg_flat _ [] h2 (fun l p hl => by cases hl)
  rw [h1, List.nil_append] at rf
  rw [ec, rgR_sc ht]
  unfold rgR
  rw [rf]
  exact es
end UP

set_option Elab.async false
set_option linter.all false
set_option maxRecDepth 100000
set_option maxHeartbeats 4000000
namespace UP
open PySem PySem.Spec PyProof.Rows L2
/-! ### lists of ranges -/
def Rngs (H : Hp) (a : Addr) (R : List Rg) : Prop := ∃ xs, H a = some (.lst xs) ∧ Paired (PV H) xs R
theorem pvs_same {H H' : Hp} {xs : List V} {R : List Rg} (s : Same H H') (h : Paired (PV H) xs R) : Paired (PV H') xs R := Paired.imp (fun _ _ => PV.same s) h
theorem pvs_grow {H : Hp} {D : Addr} {acc acc' xs : List V} {R : List Rg} (hD : H D = some (.lst acc)) (h : Paired (PV H) xs R) : Paired (PV (upd H D (.lst acc'))) xs R := Paired.imp (fun _ _ => PV.grow hD) h
theorem Rngs.same {H H' : Hp} {a : Addr} {R : List Rg} (s : Same H H') (h : Rngs H a R) : Rngs H' a R := by
  obtain ⟨xs, hx, hp⟩ := h
  exact ⟨xs, s _ _ hx, pvs_same s hp⟩
theorem wfP_len (p : Rg) (n : Int) : (wfP p n).length ≤ 1 := by
  unfold wfP
  split <;> simp
theorem wfR_len : ∀ (R : List Rg) (n : Int), (wfR R n).length ≤ R.length
  | [], _ => Nat.le_refl _
  | p :: t, n => by
    have h1 := wfP_len p n
    have h2 := wfR_len t (n - rmR p n)
    show (wfP p n ++ wfR t (n - rmR p n)).length ≤ _
    rw [List.length_append, List.length_cons]
    omega
theorem adP_len (st : Option Run) (b : Int) (r : Run) : (adP st b r).length ≤ 1 := by
  unfold adP
  split <;> simp
theorem waR_len : ∀ (l : List Run) (st : Option Run) (b : Int) (R : List Rg), (waR l st b R).length ≤ R.length + l.length
  | [], _, _, _ => Nat.le_refl _
  | r :: t, st, b, R => by
    have h1 := waR_len t (stepR st r.1 r.2) (b + r.2) (wfR R (leavR st r.1 r.2) ++ adP st b r)
    have h2 := wfR_len R (leavR st r.1 r.2)
    have h3 := adP_len st b r
    rw [List.length_append] at h1
    show (waR t (stepR st r.1 r.2) (b + r.2) (wfR R (leavR st r.1 r.2) ++ adP st b r)).length ≤ _
    rw [List.length_cons]
    omega
theorem paired_snocR {α β : Type} {F : α → β → Prop} : ∀ {xs : List α} (l : List β) (y : β), Paired F xs (l ++ [y]) → ∃ xs0 x, xs = xs0 ++ [x] ∧ Paired F xs0 l ∧ F x y
  | _, [], y, h => by
    cases h with
    | cons h1 h2 =>
      cases h2
      exact ⟨[], _, rfl, .nil, h1⟩
  | _, z :: l, y, h => by
    cases h with
    | cons h1 h2 =>
      obtain ⟨xs0, x, e, h3, h4⟩ := paired_snocR l y h2
      exact ⟨_ :: xs0, x, by rw [e]; rfl, .cons h1 h3, h4⟩
theorem Gd.gap {b : Int} {p : Rg} : ∀ {R : List Rg}, Gd (R ++ [p]) b → ∀ l, R.getLast? = some l → l.2 + 1 < p.1
  | [], _, l, h => by cases h
  | [q], g, l, h => by
    have e : q = l := Option.some.inj h
    rw [← e]
    exact g.2.2.1 p rfl
  | q :: r :: t, g, l, h => by
    rw [List.getLast?_cons_cons] at h
    exact Gd.gap (R := r :: t) g.2.2.2 l h
/-- a new range never touches the last one -/
theorem no_touch {cs : List Run} (pos : ∀ r ∈ cs, 1 ≤ r.2) (alt : Alt cs) {i : Nat} {r : Run} (er : cs[i]? = some r) : leavR (stR (cs.take i) none) r.1 r.2 < r.2 → ∀ l, (wfR (waR (cs.take i) none 0 []) (leavR (stR (cs.take i) none) r.1 r.2)).getLast? = some l → l.2 + 1 ≠ lenR (cs.take i) + leavR (stR (cs.take i) none) r.1 r.2 := by
  intro lt l hl z
  obtain ⟨_, b, g⟩ := all_runs (cs.take (i + 1)) [] [] 0 (fun x hx => by cases hx) rfl trivial (fun x hx => pos x (List.mem_of_mem_take hx)) (alt_take (n := i + 1) List.map_take alt) (fun l hl => by cases hl)
  have g : Gd (waR (cs.take (i + 1)) none 0 []) b := g
  rw [take_snoc er, waR_snoc, Int.zero_add, show adP (stR (cs.take i) none) (lenR (cs.take i)) r = [_] from if_pos lt] at g
  have := Gd.gap g l hl
  have this : l.2 + 1 < lenR (cs.take i) + leavR (stR (cs.take i) none) r.1 r.2 := this
  omega
theorem set_lastX {α : Type} : ∀ (l : List α) (x y : α), (l ++ [x]).set l.length y = l ++ [y]
  | [], _, _ => rfl
  | z :: l, x, y => congrArg (z :: ·) (set_lastX l x y)
theorem ixN_lastX {n : Nat} : ixN (n + 1) (-1) = some n := by
  unfold ixN
  simp
  omega
def adR (R : List Rg) (f l : Int) : List Rg := match R.getLast? with
  | none => R ++ [(f, l)]
  | some z => if z.2 + 1 = f then R.dropLast ++ [(z.1, l)] else R ++ [(f, l)]
def rarR (R : List Rg) (b c n : Int) : List Rg := if n < c then adR (wfR R n) (b + n) (b + c - 1) else wfR R n
theorem adR_len (R : List Rg) (f l : Int) : (adR R f l).length ≤ R.length + 1 := by
  unfold adR
  split
  · rw [List.length_append]
    exact Nat.le_refl _
  · split
    · rw [List.length_append, List.length_dropLast]
      show R.length - 1 + 1 ≤ _
      omega
    · rw [List.length_append]
      exact Nat.le_refl _
theorem rarR_len (R : List Rg) (b c n : Int) : (rarR R b c n).length ≤ R.length + 1 := by
  have := wfR_len R n
  unfold rarR
  split
  · have := adR_len (wfR R n) (b + n) (b + c - 1)
    omega
  · omega
def adQ (b c n : Int) : List Rg := if n < c then [(b + n, b + c - 1)] else []
theorem rar_nt {R : List Rg} {b c n : Int} (h : n < c → ∀ l, (wfR R n).getLast? = some l → l.2 + 1 ≠ b + n) : rarR R b c n = wfR R n ++ adQ b c n := by
  unfold rarR adQ adR
  by_cases q : n < c
  · rw [if_pos q, if_pos q]
    cases e : (wfR R n).getLast? with
    | none => rfl
    | some z =>
      show (if z.2 + 1 = b + n then _ else _) = _
      rw [if_neg (h q z e)]
  · rw [if_neg q, if_neg q, List.append_nil]
section
variable {P : Program} {w : World} {K : PySem.W.Frag} {mg : Str → Option Value} {base : Heap}
/-! without_first: slots 0:ranges 1:number 2:kept 3:first 4:last 5:removed -/
abbrev s_without_first : Stmt := topS 35
theorem sc_without_first : FnScope ["ranges", "number", "kept", "first", "last", "removed"] ["ranges", "number"] (defScope s_without_first) := ⟨rfl, rfl, rfl, by decide +kernel, rfl, by decide +kernel, by decide +kernel⟩
def sp_without_first : Sp := fun vs H Q _ => ∃ (a : Addr) (R : List Rg) (n : Int), vs = [.ref a, .int n] ∧ Rngs H a R ∧ R.length ≤ 100000 ∧ ∀ H' p, Same H H' → H p = none → Rngs H' p (wfR R n) → Q (.ref p) H'
theorem ok_without_first (D : Df K mg "without_first" s_without_first) (T : Tx mg) : Has P w K mg base 1 "without_first" ["ranges", "number"] sp_without_first := by
  refine has_of D sc_without_first (fun _ _ _ _ _ _ us hl => match us, hl with | [_, _], _ => rfl) (fun vs H Q E h => ?_) (fun f cdv A outer s₀ H vs Q E hr h => ?_)
  · obtain ⟨a, R, n, rfl, _⟩ := h
    rfl
  · obtain ⟨a, R, n, rfl, ⟨xs, hx, hp⟩, l4, q⟩ := h
    have lx : xs.length = R.length := Paired.len hp
    refine ⟨_, (pss_cons (ps_set (i := 2) sc_without_first.nd rfl (by first | exact Or.inl rfl | exact Or.inr rfl) (pe_lst pa_nil))
    (pss_cons (ps_for PassesOwn.never rfl (pi_list (pv 0)) (pg_tup rfl (pgs_cons (pg_name (i := 3) sc_without_first.nd rfl (by first | exact Or.inl rfl | exact Or.inr rfl)) (pgs_cons (pg_name (i := 4) sc_without_first.nd rfl (by first | exact Or.inl rfl | exact Or.inr rfl)) pgs_nil)))
      (pss_cons (ps_set (i := 5) sc_without_first.nd rfl (by first | exact Or.inl rfl | exact Or.inr rfl) (pe_callB (call_min2 rfl) (by rfl) T.n_min (by decide +kernel) (pa_cons (pv 1) (pa_cons (pe_op op_add (pe_op op_sub (pv 4) (pv 3)) pe_int) pa_nil))))
    (C8.pss_cut (ps_if (pt_cmpR op_le (pe_op op_add (pv 3) (pv 5)) (pv 4) (nomark _)) (pss_one (ps_expr (pe_bm PySem.F.plainAttrs_list PySem.F.slot_list_append PySem.F.type_list_append mt_append (pv 2) (pa_cons (pe_tup (pa_cons (pe_op op_add (pv 3) (pv 5)) (pa_cons (pv 4) pa_nil))) pa_nil)))) pss_nil)
    (pss_one (ps_aug (i := 1) sc_without_first.nd rfl (by first | exact Or.inl rfl | exact Or.inr rfl) (pv 5) ip_sub)))))
    (pss_one (ps_ret (pv 2))))), ?_⟩
    refine ⟨Nat.zero_le _, fun p np => ?_⟩
    refine ⟨_, rfl, a, rfl, ⟨xs, .of (same_upd np _ _ hx)⟩, for_list (K := K) (a := a) (xs := xs) (fun i σ H' => ∃ b y3 y4 y5, b = wfN (R.take i) n ∧ σ = [some (.ref a), some (.int b), some (.ref p), y3, y4, y5] ∧ Same H H' ∧ ∃ ys, H' p = some (.lst ys) ∧ Paired (PV H') ys (wfR (R.take i) n))
      ⟨n, none, none, none, rfl, rfl, same_upd np, [], upd_same, .nil⟩ (fun i σ H' _ hP => ?_) (fun i x σ H1 ex hP => ?_) (fun σ H1 hP => ?_)⟩
    · obtain ⟨_, _, _, _, _, _, sm, _⟩ := hP
      exact .of (sm _ _ hx)
    · obtain ⟨b, y3, y4, y5, rfl, rfl, sm, ys, hL, hy⟩ := hP
      obtain ⟨r, er, hr1⟩ := Paired.at hp ex
      have hi : i < xs.length := (List.getElem?_eq_some_iff.mp ex).1
      obtain ⟨t, rfl, ht⟩ := PV.same sm hr1
      have el : wfN (R.take (i + 1)) n = wfN (R.take i) n - rmR r (wfN (R.take i) n) := by rw [take_snoc er, wfN_snoc]
      have ec : wfR (R.take (i + 1)) n = wfR (R.take i) n ++ wfP r (wfN (R.take i) n) := by rw [take_snoc er, wfR_snoc]
      refine ⟨t, _, rfl, .of ht, rfl, _, _, rfl, _, _, rfl, rfl, ?_⟩
      refine ⟨_, rfl, _, rfl, _, rfl, _, _, rfl, rfl, _, _, rfl, rfl, _, _, rfl, ?_⟩
      refine ⟨fun σ' H' => σ' = [some (.ref a), some (.int (wfN (R.take i) n)), some (.ref p), some (.int r.1), some (.int r.2), some (.int (rmR r (wfN (R.take i) n)))] ∧ Same H H' ∧ ∃ ys, H' p = some (.lst ys) ∧ Paired (PV H') ys (wfR (R.take (i + 1)) n), ?_, fun σ' H5 hM => ?_⟩
      · refine ⟨_, rfl, _, rfl, _, _, rfl, rfl, _, rfl, _, _, rfl, rfl, _, rfl, ite2 (fun e => ?_) (fun e => ?_)⟩
        · have e : r.1 + rmR r (wfN (R.take i) n) ≤ r.2 := of_decide_eq_true e
          have epc : wfP r (wfN (R.take i) n) = [(r.1 + rmR r (wfN (R.take i) n), r.2)] := if_pos e
          refine ⟨_, rfl, .inl ⟨rfl, _, SqL.of hL⟩, _, rfl, _, rfl, _, _, rfl, rfl, _, rfl, (by show 2 ≤ sizeLine; decide), fun u nn => ⟨p, _, _, rfl, rfl, same_upd nn _ _ hL, ?_, ?_⟩⟩
          · have h1 := Paired.len hy
            have h2 := wfR_len (R.take i) n
            rw [List.length_take] at h2
            exact small (by omega)
          · refine ⟨rfl, same_grow np (sm.trans (same_upd nn)), _, upd_same, ?_⟩
            rw [ec, epc]
            exact Paired.app (pvs_grow (same_upd nn _ _ hL) (pvs_same (same_upd nn) hy)) (.cons (PV.grow (same_upd nn _ _ hL) ⟨_, rfl, upd_same⟩) .nil)
        · have e : ¬ r.1 + rmR r (wfN (R.take i) n) ≤ r.2 := fun z => e (decide_eq_true z)
          have epc : wfP r (wfN (R.take i) n) = [] := if_neg e
          refine ⟨rfl, sm, _, hL, ?_⟩
          rw [ec, epc, List.append_nil]
          exact hy
      · obtain ⟨rfl, s5, ys5, hL5, hy5⟩ := hM
        exact ⟨_, rfl, _, rfl, _, _, rfl, rfl, _, _, _, _, el.symm, rfl, s5, ys5, hL5, hy5⟩
    · obtain ⟨b, y3, y4, y5, rfl, rfl, sm, ys, hL, hy⟩ := hP
      rw [lx, List.take_length] at hy
      exact ⟨_, rfl, q H1 p sm np ⟨ys, hL, hy⟩⟩
/-! add_range: slots 0:ranges 1:first 2:last -/
abbrev s_add_range : Stmt := topS 33
theorem sc_add_range : FnScope ["ranges", "first", "last"] ["ranges", "first", "last"] (defScope s_add_range) := ⟨rfl, rfl, rfl, by decide +kernel, rfl, by decide +kernel, by decide +kernel⟩
def sp_add_range : Sp := fun vs H Q _ => ∃ (a : Addr) (R : List Rg) (f l : Int), vs = [.ref a, .int f, .int l] ∧ Rngs H a R ∧ R.length ≤ 100000 ∧ ∀ H', But a H H' → Rngs H' a (adR R f l) → Q .non H'
theorem ok_add_range (D : Df K mg "add_range" s_add_range) : Has P w K mg base 1 "add_range" ["ranges", "first", "last"] sp_add_range := by
  refine has_of D sc_add_range (fun _ _ _ _ _ _ us hl => match us, hl with | [_, _, _], _ => rfl) (fun vs H Q E h => ?_) (fun f cdv A outer s₀ H vs Q E hr h => ?_)
  · obtain ⟨a, R, x, l, rfl, _⟩ := h
    rfl
  · obtain ⟨a, R, x, l, rfl, ⟨xs, hx, hp⟩, l4, q⟩ := h
    have lx : xs.length = R.length := Paired.len hp
    have app : adR R x l = R ++ [(x, l)] → ∀ (p : Addr), H p = none → Q .non (upd (upd H p (.tup [.int x, .int l])) a (.lst (xs ++ [.ref p]))) := by
      intro e p np
      have hx1 := same_upd (o := .tup [.int x, .int l]) np _ _ hx
      refine q _ ((Same.but (same_upd np)).trans but_upd) ⟨_, upd_same, ?_⟩
      rw [e]
      exact Paired.app (pvs_grow hx1 (pvs_same (same_upd np) hp)) (.cons (PV.grow hx1 ⟨_, rfl, upd_same⟩) .nil)
    refine ⟨_, (pss_one (ps_if (PW.pt (pw_and (pt_truth (pv 0) (by intro _; rfl)) (pw_and1 (pt_cmpR op_eq (pe_op op_add (pe_ix ix_tup (pe_ix ix_list (pv 0) (pe_un un_neg pe_int) (fun _ _ => rfl)) pe_int (fun _ _ => rfl)) pe_int) (pv 1) (nomark _))))) (pss_one (ps_asg (pe_tup (pa_cons (pe_ix ix_tup (pe_ix ix_list (pv 0) (pe_un un_neg pe_int) (fun _ _ => rfl)) pe_int (fun _ _ => rfl)) (pa_cons (pv 2) pa_nil))) (pg_sub (pv 0) (pe_un un_neg pe_int) set_list))) (pss_one (ps_expr (pe_bm PySem.F.plainAttrs_list PySem.F.slot_list_append PySem.F.type_list_append mt_append (pv 0) (pa_cons (pe_tup (pa_cons (pv 1) (pa_cons (pv 2) pa_nil))) pa_nil)))))), ?_⟩
    rcases List.eq_nil_or_concat R with e0 | ⟨R0, y, e0⟩
    · subst e0
      cases hp
      refine ⟨_, rfl, false, .inl ⟨[], .of hx, rfl⟩, iteF ?_⟩
      exact ⟨_, rfl, .inl ⟨rfl, _, SqL.of hx⟩, _, rfl, _, rfl, (by show 2 ≤ sizeLine; decide), fun u nn => ⟨a, _, _, rfl, rfl, same_upd nn _ _ hx, small (by show 0 ≤ _; omega), app rfl u nn⟩⟩
    · rw [List.concat_eq_append] at e0
      subst e0
      obtain ⟨ys0, yv, rfl, hy0, ⟨tl, rfl, htl⟩⟩ := paired_snocR R0 y hp
      have exl : atI (ys0 ++ [V.ref tl]) (-1) = some (.ref tl) := atI_last _ _
      have tr : (!(ys0 ++ [V.ref tl]).isEmpty) = true := by cases ys0 <;> rfl
      have lx2 : (ys0 ++ [V.ref tl]).length ≤ 100000 := by rw [lx]; exact l4
      have ead : adR (R0 ++ [y]) x l = if y.2 + 1 = x then R0 ++ [(y.1, l)] else (R0 ++ [y]) ++ [(x, l)] := by
        unfold adR
        rw [List.getLast?_concat]
        show (if y.2 + 1 = x then _ else _) = _
        rw [List.dropLast_concat]
      refine ⟨_, rfl, true, .inl ⟨_, .of hx, tr.symm⟩, iteT ?_⟩
      refine ⟨_, rfl, 1, rfl, a, _, -1, _, rfl, rfl, .of hx, exl, tl, _, 1, _, rfl, rfl, .of htl, rfl, _, _, rfl, rfl, _, rfl, rfl, _, rfl, ?_⟩
      by_cases nt : y.2 + 1 = x
      · refine iteP (decide_eq_true (by show V.int (y.2 + 1) = V.int x; rw [nt])) ?_
        refine ⟨_, rfl, 1, rfl, a, _, -1, _, rfl, rfl, .of hx, exl, tl, _, 0, _, rfl, rfl, .of htl, rfl, _, rfl, (by show 2 ≤ sizeLine; decide), fun u nu => ?_⟩
        have su := same_upd (o := .tup [.int y.1, .int l]) nu
        have hx1 := su _ _ hx
        refine ⟨_, rfl, 1, rfl, a, _, -1, ys0.length, rfl, rfl, hx1, ?_, ?_⟩
        · rw [List.length_append]
          exact ixN_lastX
        · rw [set_lastX]
          refine q _ ((Same.but su).trans but_upd) ⟨_, upd_same, ?_⟩
          rw [ead, if_pos nt]
          exact Paired.app (pvs_grow hx1 (pvs_same su hy0)) (.cons (PV.grow hx1 ⟨_, rfl, upd_same⟩) .nil)
      · refine iteN (decide_eq_false fun z => nt (V.int.inj z)) ?_
        refine ⟨_, rfl, .inl ⟨rfl, _, SqL.of hx⟩, _, rfl, _, rfl, (by show 2 ≤ sizeLine; decide), fun u nn => ⟨a, _, _, rfl, rfl, same_upd nn _ _ hx, small (by omega), app ?_ u nn⟩⟩
        rw [ead, if_neg nt]
/-! ranges_after_run: slots 0:ranges 1:start 2:count 3:leaving 4:kept -/
abbrev s_ranges_after_run : Stmt := topS 36
theorem sc_ranges_after_run : FnScope ["ranges", "start", "count", "leaving", "kept"] ["ranges", "start", "count", "leaving"] (defScope s_ranges_after_run) := ⟨rfl, rfl, rfl, by decide +kernel, rfl, by decide +kernel, by decide +kernel⟩
def sp_ranges_after_run : Sp := fun vs H Q _ => ∃ (a : Addr) (R : List Rg) (b c n : Int), vs = [.ref a, .int b, .int c, .int n] ∧ Rngs H a R ∧ R.length ≤ 100000 ∧ ∀ H' p, Same H H' → H p = none → Rngs H' p (rarR R b c n) → Q (.ref p) H'
theorem ok_ranges_after_run (D : Df K mg "ranges_after_run" s_ranges_after_run) (G_without_first : Has P w K mg base 1 "without_first" ["ranges", "number"] sp_without_first) (G_add_range : Has P w K mg base 1 "add_range" ["ranges", "first", "last"] sp_add_range) : Has P w K mg base 2 "ranges_after_run" ["ranges", "start", "count", "leaving"] sp_ranges_after_run := by
  refine has_of D sc_ranges_after_run (fun _ _ _ _ _ _ us hl => match us, hl with | [_, _, _, _], _ => rfl) (fun vs H Q E h => ?_) (fun f cdv A outer s₀ H vs Q E hr h => ?_)
  · obtain ⟨a, R, b, c, n, rfl, _⟩ := h
    rfl
  · obtain ⟨a, R, b, c, n, rfl, hR, l4, q⟩ := h
    refine ⟨_, (pss_cons (ps_set (i := 4) sc_ranges_after_run.nd rfl (by first | exact Or.inl rfl | exact Or.inr rfl) (pe_callH G_without_first (hr.mono (by omega)) (by rfl) (pa_cons (pv 0) (pa_cons (pv 3) pa_nil))))
    (pss_cons (ps_if (pt_cmpR op_lt (pv 3) (pv 2) (nomark _)) (pss_one (ps_expr (pe_callH G_add_range (hr.mono (by omega)) (by rfl) (pa_cons (pv 4) (pa_cons (pe_op op_add (pv 1) (pv 3)) (pa_cons (pe_op op_sub (pe_op op_add (pv 1) (pv 2)) pe_int) pa_nil)))))) pss_nil)
    (pss_one (ps_ret (pv 4))))), ?_⟩
    refine ⟨_, rfl, _, rfl, a, R, n, rfl, hR, l4, fun H5 p5 s5 n5 h5 => ?_⟩
    have lw := wfR_len R n
    refine ⟨_, rfl, _, rfl, _, _, rfl, rfl, _, rfl, ite2 (fun e => ?_) (fun e => ?_)⟩
    · have e : n < c := of_decide_eq_true e
      have epc : rarR R b c n = adR (wfR R n) (b + n) (b + c - 1) := if_pos e
      refine ⟨_, rfl, _, rfl, _, rfl, _, _, rfl, rfl, _, rfl, _, rfl, _, _, rfl, rfl, _, _, rfl, rfl, p5, _, _, _, rfl, h5, by omega, fun H6 b6 h6 => ?_⟩
      refine ⟨_, rfl, q _ p5 (fun x o hx => b6 _ _ (ne_of_none hx n5) (s5 _ _ hx)) n5 ?_⟩
      rw [epc]
      exact h6
    · have e : ¬ n < c := fun z => e (decide_eq_true z)
      have epc : rarR R b c n = wfR R n := if_neg e
      refine ⟨_, rfl, q _ p5 s5 n5 ?_⟩
      rw [epc]
      exact h5
/-! waiting_at: slots 0:sequence 1:moment 2:runs 3:state 4:start 5:ranges 6:kind 7:count -/
abbrev s_waiting_at : Stmt := topS 38
theorem sc_waiting_at : FnScope ["sequence", "moment", "runs", "state", "start", "ranges", "kind", "count"] ["sequence", "moment"] (defScope s_waiting_at) := ⟨rfl, rfl, rfl, by decide +kernel, rfl, by decide +kernel, by decide +kernel⟩
def sp_waiting_at : Sp := fun vs H Q _ => ∃ (av : V) (rs : List Run) (m : Int), vs = [av, .int m] ∧ RunsG H av rs ∧ SeqOk rs ∧ 0 ≤ m ∧ m ≤ lenR rs ∧ ∀ H' p, Same H H' → H p = none → Rngs H' p (waR (cutR 0 m 0 rs) none 0 []) → Q (.ref p) H'
theorem ok_waiting_at (D : Df K mg "waiting_at" s_waiting_at) (G_checked_runs : Has P w K mg base 5 "checked_runs" ["sequence"] sp_checked_runs) (G_check_moment : Has P w K mg base 3 "check_moment" ["runs", "moment"] sp_check_moment) (G_cut : Has P w K mg base 1 "cut" ["runs", "start", "length"] sp_cut)
    (G_leaving_number : Has P w K mg base 1 "leaving_number" ["state", "kind", "count"] sp_leaving_number) (G_ranges_after_run : Has P w K mg base 2 "ranges_after_run" ["ranges", "start", "count", "leaving"] sp_ranges_after_run) (G_state_after_run : Has P w K mg base 2 "state_after_run" ["state", "kind", "count"] sp_state_after_run) :
    Has P w K mg base 6 "waiting_at" ["sequence", "moment"] sp_waiting_at := by
  refine has_of D sc_waiting_at (fun _ _ _ _ _ _ us hl => match us, hl with | [_, _], _ => rfl) (fun vs H Q E h => ?_) (fun f cdv A outer s₀ H vs Q E hr h => ?_)
  · obtain ⟨a, R, n, rfl, _⟩ := h
    rfl
  · obtain ⟨av, rs, m, rfl, hR, ok, m0, m1, q⟩ := h
    have l4 : rs.length ≤ 1000 := by have := ok.1; omega
    refine ⟨_, (pss_cons (ps_set (i := 2) sc_waiting_at.nd rfl (by first | exact Or.inl rfl | exact Or.inr rfl) (pe_callH G_checked_runs (hr.mono (by omega)) (by rfl) (pa_cons (pv 0) pa_nil)))
    (pss_cons (ps_expr (pe_callH G_check_moment (hr.mono (by omega)) (by rfl) (pa_cons (pv 2) (pa_cons (pv 1) pa_nil))))
    (pss_cons (ps_set (i := 3) sc_waiting_at.nd rfl (by first | exact Or.inl rfl | exact Or.inr rfl) pe_non)
    (pss_cons (ps_set (i := 4) sc_waiting_at.nd rfl (by first | exact Or.inl rfl | exact Or.inr rfl) pe_int)
    (pss_cons (ps_set (i := 5) sc_waiting_at.nd rfl (by first | exact Or.inl rfl | exact Or.inr rfl) (pe_lst pa_nil))
    (pss_cons (ps_for PassesOwn.never rfl (pi_list (pe_callH G_cut (hr.mono (by omega)) (by rfl) (pa_cons (pv 2) (pa_cons pe_int (pa_cons (pv 1) pa_nil))))) (pg_tup rfl (pgs_cons (pg_name (i := 6) sc_waiting_at.nd rfl (by first | exact Or.inl rfl | exact Or.inr rfl)) (pgs_cons (pg_name (i := 7) sc_waiting_at.nd rfl (by first | exact Or.inl rfl | exact Or.inr rfl)) pgs_nil)))
      (pss_cons (ps_set (i := 5) sc_waiting_at.nd rfl (by first | exact Or.inl rfl | exact Or.inr rfl) (pe_callH G_ranges_after_run (hr.mono (by omega)) (by rfl) (pa_cons (pv 5) (pa_cons (pv 4) (pa_cons (pv 7) (pa_cons (pe_callH G_leaving_number (hr.mono (by omega)) (by rfl) (pa_cons (pv 3) (pa_cons (pv 6) (pa_cons (pv 7) pa_nil)))) pa_nil))))))
    (pss_cons (ps_set (i := 3) sc_waiting_at.nd rfl (by first | exact Or.inl rfl | exact Or.inr rfl) (pe_callH G_state_after_run (hr.mono (by omega)) (by rfl) (pa_cons (pv 3) (pa_cons (pv 6) (pa_cons (pv 7) pa_nil)))))
    (pss_one (ps_aug (i := 4) sc_waiting_at.nd rfl (by first | exact Or.inl rfl | exact Or.inr rfl) (pv 7) ip_add)))))
    (pss_one (ps_ret (pv 5))))))))), ?_⟩
    refine ⟨_, rfl, av, rs, rfl, hR, ok, fun H1 p s1 np hp => ?_⟩
    refine ⟨_, rfl, _, rfl, p, rs, m, rfl, hp, l4, m0, m1, fun H2 s2 => ?_⟩
    refine ⟨Nat.zero_le _, fun e ne => ?_⟩
    have se := same_upd (o := .lst []) ne
    refine ⟨_, rfl, _, rfl, p, rs, 0, m, rfl, (hp.same s2).same se, l4, fun H3 p3 s3 n3 h3 => ?_⟩
    rw [Int.zero_add] at h3
    have sA := s1.trans (s2.trans (se.trans s3))
    have he : H3 e = some (.lst []) := s3 _ _ upd_same
    have neH : H e = none := (s1.trans s2).free ne
    have lc := cutR_len 0 m rs 0
    have cp := cutR_pos (s := 0) (e := m) (l := rs) (b := 0)
    obtain ⟨nk, hnk⟩ := cut_kinds (e := m) rs 0 (Int.le_refl _) (fun r hr => (ok.2.1 r hr).2.1)
    have al := alt_take hnk ok.2.2
    clear hnk
    generalize cutR 0 m 0 rs = cs at h3 lc cp q al
    obtain ⟨xs, hx, hpr⟩ := h3
    have lx : xs.length = cs.length := Paired.len hpr
    refine ⟨p3, rfl, ⟨xs, .of hx⟩, for_list (K := K) (a := p3) (xs := xs) (fun i σ H' => ∃ v b a y6 y7, b = lenR (cs.take i) ∧ σ = [some av, some (.int m), some (.ref p), some v, some (.int b), some (.ref a), y6, y7] ∧ Same H3 H' ∧ H a = none ∧ StV H' v (stR (cs.take i) none) ∧ Rngs H' a (waR (cs.take i) none 0 []))
      ⟨.non, 0, e, none, none, rfl, rfl, Same.refl _, neH, rfl, [], he, .nil⟩ (fun i σ H' _ hP => ?_) (fun i x σ H4 ex hP => ?_) (fun σ H4 hP => ?_)⟩
    · obtain ⟨_, _, _, _, _, _, _, sm, _⟩ := hP
      exact .of (sm _ _ hx)
    · obtain ⟨v, b, a, y6, y7, rfl, rfl, sm, na, hv, hR4⟩ := hP
      obtain ⟨r, er, hr1⟩ := Paired.at hpr ex
      obtain ⟨t, rfl, ht⟩ := RunV.same sm hr1
      have hi : i < xs.length := (List.getElem?_eq_some_iff.mp ex).1
      have c1 : 1 ≤ r.2 := cp r (List.mem_of_getElem? er)
      have el : lenR (cs.take (i + 1)) = lenR (cs.take i) + r.2 := by rw [take_snoc er, lenR_snoc]
      have es : stR (cs.take (i + 1)) none = stepR (stR (cs.take i) none) r.1 r.2 := by rw [take_snoc er, stR_snoc]
      have ew : waR (cs.take (i + 1)) none 0 [] = wfR (waR (cs.take i) none 0 []) (leavR (stR (cs.take i) none) r.1 r.2) ++ adP (stR (cs.take i) none) (lenR (cs.take i)) r := by rw [take_snoc er, waR_snoc, Int.zero_add]
      have lw := waR_len (cs.take i) none 0 []
      rw [List.length_take, List.length_nil] at lw
      have nt := no_touch cp al er
      rw [el, es, ew]
      generalize lenR (cs.take i) = b at *
      generalize stR (cs.take i) none = st at *
      generalize waR (cs.take i) none 0 [] = R at *
      refine ⟨t, _, rfl, .of ht, rfl, _, _, rfl, _, _, rfl, rfl, ?_⟩
      refine ⟨_, rfl, _, rfl, _, rfl, _, rfl, _, rfl, _, rfl, v, st, r.1, r.2, rfl, hv, ?_⟩
      refine ⟨a, R, b, r.2, leavR st r.1 r.2, rfl, hR4, by omega, fun H5 p5 s5 n5 h5 => ?_⟩
      rw [rar_nt nt] at h5
      have h5 : Rngs H5 p5 (wfR R (leavR st r.1 r.2) ++ adP st b r) := h5
      have n3 : H3 p5 = none := sm.free n5
      refine ⟨_, rfl, _, rfl, _, rfl, v, st, r.1, r.2, rfl, hv.same s5, c1, fun H7 v7 s7 h7 => ?_⟩
      exact ⟨_, rfl, _, rfl, _, _, rfl, rfl, v7, _, p5, _, _, rfl, rfl, sm.trans (s5.trans s7), sA.free n3, h7, h5.same s7⟩
    · obtain ⟨v, b, a, y6, y7, rfl, rfl, sm, na, hv, hR4⟩ := hP
      rw [lx, List.take_length] at hR4
      exact ⟨_, rfl, q H4 a (sA.trans sm) na hR4⟩
end
end UP

set_option Elab.async false
set_option linter.all false
set_option maxRecDepth 100000
set_option maxHeartbeats 4000000
namespace UP
open PySem PySem.Spec PyProof.Rows L2
/-! ### blocks of pairs -/
theorem paired_snoc {α β : Type} {F : α → β → Prop} : ∀ {xs : List α} (l : List β) (y : β), Paired F xs (l ++ [y]) → ∃ xs0 x, xs = xs0 ++ [x] ∧ Paired F xs0 l ∧ F x y
  | _, [], y, h => by
    cases h with
    | cons h1 h2 =>
      cases h2
      exact ⟨[], _, rfl, .nil, h1⟩
  | _, z :: l, y, h => by
    cases h with
    | cons h1 h2 =>
      obtain ⟨xs0, x, e, h3, h4⟩ := paired_snoc l y h2
      exact ⟨_ :: xs0, x, by rw [e]; rfl, .cons h1 h3, h4⟩
abbrev Blk := Int × Int × Int
def BV (H : Hp) (v : V) (b : Blk) : Prop := ∃ t, v = .ref t ∧ H t = some (.tup [.int b.1, .int b.2.1, .int b.2.2])
theorem BV.same {H H' : Hp} {v : V} {p : Blk} (s : Same H H') (h : BV H v p) : BV H' v p := by
  obtain ⟨t, e, h⟩ := h
  exact ⟨t, e, s _ _ h⟩
theorem BV.grow {H : Hp} {D : Addr} {acc acc' : List V} {v : V} {p : Blk} (hD : H D = some (.lst acc)) (h : BV H v p) : BV (upd H D (.lst acc')) v p := by
  obtain ⟨t, e, h⟩ := h
  refine ⟨t, e, ?_⟩
  rw [upd_ne (ne_of h hD (by intro q; cases q))]
  exact h
theorem BV.but {H H' : Hp} {D : Addr} {acc : List V} {v : V} {p : Blk} (hD : H D = some (.lst acc)) (s : But D H H') (h : BV H v p) : BV H' v p := by
  obtain ⟨t, e, h⟩ := h
  exact ⟨t, e, s _ _ (ne_of h hD (by intro q; cases q)) h⟩
def Blks (H : Hp) (a : Addr) (B : List Blk) : Prop := ∃ xs, H a = some (.lst xs) ∧ Paired (BV H) xs B
theorem bvs_same {H H' : Hp} {xs : List V} {R : List Blk} (s : Same H H') (h : Paired (BV H) xs R) : Paired (BV H') xs R := Paired.imp (fun _ _ => BV.same s) h
theorem bvs_grow {H : Hp} {D : Addr} {acc acc' xs : List V} {R : List Blk} (hD : H D = some (.lst acc)) (h : Paired (BV H) xs R) : Paired (BV (upd H D (.lst acc'))) xs R := Paired.imp (fun _ _ => BV.grow hD) h
theorem Blks.same {H H' : Hp} {a : Addr} {R : List Blk} (s : Same H H') (h : Blks H a R) : Blks H' a R := by
  obtain ⟨xs, hx, hp⟩ := h
  exact ⟨xs, s _ _ hx, bvs_same s hp⟩
def brP (p : Rg) (b n : Int) : List Blk := if 0 < rmR p n then [(p.1, b, rmR p n)] else []
def brR : List Rg → Int → Int → List Blk
  | [], _, _ => []
  | p :: t, b, n => brP p b n ++ brR t (b + rmR p n) (n - rmR p n)
theorem brR_snoc : ∀ (l : List Rg) (p : Rg) (b n : Int), brR (l ++ [p]) b n = brR l b n ++ brP p (b + (n - wfN l n)) (wfN l n)
  | [], p, b, n => by
    show brP p b n ++ [] = [] ++ brP p (b + (n - n)) n
    rw [List.append_nil, List.nil_append, show b + (n - n) = b by omega]
  | x :: t, p, b, n => by
    show brP x b n ++ brR (t ++ [p]) (b + rmR x n) (n - rmR x n) = (brP x b n ++ brR t (b + rmR x n) (n - rmR x n)) ++ brP p (b + (n - wfN t (n - rmR x n))) (wfN t (n - rmR x n))
    rw [brR_snoc t, List.append_assoc, show b + rmR x n + (n - rmR x n - wfN t (n - rmR x n)) = b + (n - wfN t (n - rmR x n)) by omega]
theorem brP_len (p : Rg) (b n : Int) : (brP p b n).length ≤ 1 := by
  unfold brP
  split <;> simp
theorem brR_len : ∀ (R : List Rg) (b n : Int), (brR R b n).length ≤ R.length
  | [], _, _ => Nat.le_refl _
  | p :: t, b, n => by
    have h1 := brP_len p b n
    have h2 := brR_len t (b + rmR p n) (n - rmR p n)
    show (brP p b n ++ brR t (b + rmR p n) (n - rmR p n)).length ≤ _
    rw [List.length_append, List.length_cons]
    omega
def addB (B : List Blk) (x : Blk) : List Blk := match B.getLast? with
  | none => B ++ [x]
  | some l => if l.1 + l.2.2 = x.1 ∧ l.2.1 + l.2.2 = x.2.1 then B.dropLast ++ [(l.1, l.2.1, l.2.2 + x.2.2)] else B ++ [x]
theorem addB_len (B : List Blk) (x : Blk) : (addB B x).length ≤ B.length + 1 := by
  unfold addB
  split
  · rw [List.length_append]
    exact Nat.le_refl _
  · split
    · rw [List.length_append, List.length_dropLast]
      simp only [List.length_cons, List.length_nil]
      omega
    · rw [List.length_append]
      exact Nat.le_refl _
def addsB (B xs : List Blk) : List Blk := xs.foldl addB B
theorem addsB_snoc (B xs : List Blk) (x : Blk) : addsB B (xs ++ [x]) = addB (addsB B xs) x := by
  unfold addsB
  rw [List.foldl_append]
  rfl
theorem addsB_len : ∀ (xs B : List Blk), (addsB B xs).length ≤ B.length + xs.length
  | [], B => Nat.le_refl _
  | x :: t, B => by
    have h1 := addsB_len t (addB B x)
    have h2 := addB_len B x
    show (addsB (addB B x) t).length ≤ _
    rw [List.length_cons]
    omega
def boR : List Run → Option Run → Int → List Rg → List Blk → List Blk
  | [], _, _, _, B => B
  | r :: t, st, b, R, B => boR t (stepR st r.1 r.2) (b + r.2) (wfR R (leavR st r.1 r.2) ++ adP st b r) (addsB B (brR R b (leavR st r.1 r.2)))
theorem boR_snoc : ∀ (l : List Run) (r : Run) (st : Option Run) (b : Int) (R : List Rg) (B : List Blk), boR (l ++ [r]) st b R B = addsB (boR l st b R B) (brR (waR l st b R) (b + lenR l) (leavR (stR l st) r.1 r.2))
  | [], r, st, b, R, B => by
    show addsB B (brR R b (leavR st r.1 r.2)) = addsB B (brR R (b + lenR []) (leavR st r.1 r.2))
    rw [lenR_nil, Int.add_zero]
  | x :: t, r, st, b, R, B => by
    show boR (t ++ [r]) (stepR st x.1 x.2) (b + x.2) (wfR R (leavR st x.1 x.2) ++ adP st b x) (addsB B (brR R b (leavR st x.1 x.2))) = addsB (boR t (stepR st x.1 x.2) (b + x.2) (wfR R (leavR st x.1 x.2) ++ adP st b x) (addsB B (brR R b (leavR st x.1 x.2)))) (brR (waR t (stepR st x.1 x.2) (b + x.2) (wfR R (leavR st x.1 x.2) ++ adP st b x)) (b + lenR (x :: t)) (leavR (stR (x :: t) st) r.1 r.2))
    rw [boR_snoc t, stR_cons, lenR_cons, Int.add_assoc]
theorem boR_len : ∀ (l : List Run) (st : Option Run) (b : Int) (R : List Rg) (B : List Blk), (boR l st b R B).length ≤ B.length + l.length * (R.length + l.length)
  | [], _, _, _, _ => by
    show _ ≤ _ + 0 * _
    rw [Nat.zero_mul]
    exact Nat.le_refl _
  | r :: t, st, b, R, B => by
    have h1 := boR_len t (stepR st r.1 r.2) (b + r.2) (wfR R (leavR st r.1 r.2) ++ adP st b r) (addsB B (brR R b (leavR st r.1 r.2)))
    have h2 := addsB_len (brR R b (leavR st r.1 r.2)) B
    have h3 := brR_len R b (leavR st r.1 r.2)
    have h4 := wfR_len R (leavR st r.1 r.2)
    have h5 := adP_len st b r
    rw [List.length_append] at h1
    show (boR t (stepR st r.1 r.2) (b + r.2) (wfR R (leavR st r.1 r.2) ++ adP st b r) (addsB B (brR R b (leavR st r.1 r.2)))).length ≤ _
    rw [List.length_cons, Nat.succ_mul]
    have h6 : t.length * ((wfR R (leavR st r.1 r.2)).length + (adP st b r).length + t.length) ≤ t.length * (R.length + (t.length + 1)) := Nat.mul_le_mul_left _ (by omega)
    omega
theorem shaped_not {B : List Blk} : B = [] ∨ ∃ B0 l, B = B0 ++ [l] := by
  rcases List.eq_nil_or_concat B with e | ⟨B0, l, e⟩
  · exact .inl e
  · exact .inr ⟨B0, l, by rw [e, List.concat_eq_append]⟩
section
variable {P : Program} {w : World} {K : PySem.W.Frag} {mg : Str → Option Value} {base : Heap}
/-! blocks_of_run: slots 0:ranges 1:start 2:leaving 3:blocks 4:first 5:last 6:size -/
abbrev s_blocks_of_run : Stmt := topS 40
theorem sc_blocks_of_run : FnScope ["ranges", "start", "leaving", "blocks", "first", "last", "size"] ["ranges", "start", "leaving"] (defScope s_blocks_of_run) := ⟨rfl, rfl, rfl, by decide +kernel, rfl, by decide +kernel, by decide +kernel⟩
def sp_blocks_of_run : Sp := fun vs H Q _ => ∃ (a : Addr) (R : List Rg) (b n : Int), vs = [.ref a, .int b, .int n] ∧ Rngs H a R ∧ R.length ≤ 100000 ∧ ∀ H' p, Same H H' → H p = none → Blks H' p (brR R b n) → Q (.ref p) H'
theorem ok_blocks_of_run (D : Df K mg "blocks_of_run" s_blocks_of_run) (T : Tx mg) : Has P w K mg base 1 "blocks_of_run" ["ranges", "start", "leaving"] sp_blocks_of_run := by
  refine has_of D sc_blocks_of_run (fun _ _ _ _ _ _ us hl => match us, hl with | [_, _, _], _ => rfl) (fun vs H Q E h => ?_) (fun f cdv A outer s₀ H vs Q E hr h => ?_)
  · obtain ⟨a, R, b, n, rfl, _⟩ := h
    rfl
  · obtain ⟨a, R, b, n, rfl, ⟨xs, hx, hp⟩, l4, q⟩ := h
    have lx : xs.length = R.length := Paired.len hp
    refine ⟨_, (pss_cons (ps_set (i := 3) sc_blocks_of_run.nd rfl (by first | exact Or.inl rfl | exact Or.inr rfl) (pe_lst pa_nil))
    (pss_cons (ps_for PassesOwn.never rfl (pi_list (pv 0)) (pg_tup rfl (pgs_cons (pg_name (i := 4) sc_blocks_of_run.nd rfl (by first | exact Or.inl rfl | exact Or.inr rfl)) (pgs_cons (pg_name (i := 5) sc_blocks_of_run.nd rfl (by first | exact Or.inl rfl | exact Or.inr rfl)) pgs_nil)))
      (pss_cons (ps_set (i := 6) sc_blocks_of_run.nd rfl (by first | exact Or.inl rfl | exact Or.inr rfl) (pe_callB (call_min2 rfl) (by rfl) T.n_min (by decide +kernel) (pa_cons (pv 2) (pa_cons (pe_op op_add (pe_op op_sub (pv 5) (pv 4)) pe_int) pa_nil))))
    (C8.pss_cut (ps_if (pt_cmpR op_gt (pv 6) pe_int (nomark _)) (pss_one (ps_expr (pe_bm PySem.F.plainAttrs_list PySem.F.slot_list_append PySem.F.type_list_append mt_append (pv 3) (pa_cons (pe_tup (pa_cons (pv 4) (pa_cons (pv 1) (pa_cons (pv 6) pa_nil)))) pa_nil)))) pss_nil)
    (pss_cons (ps_aug (i := 1) sc_blocks_of_run.nd rfl (by first | exact Or.inl rfl | exact Or.inr rfl) (pv 6) ip_add)
    (pss_one (ps_aug (i := 2) sc_blocks_of_run.nd rfl (by first | exact Or.inl rfl | exact Or.inr rfl) (pv 6) ip_sub))))))
    (pss_one (ps_ret (pv 3))))), ?_⟩
    refine ⟨Nat.zero_le _, fun p np => ?_⟩
    refine ⟨_, rfl, a, rfl, ⟨xs, .of (same_upd np _ _ hx)⟩, for_list (K := K) (a := a) (xs := xs) (fun i σ H' => ∃ c m y4 y5 y6, m = wfN (R.take i) n ∧ c = b + (n - wfN (R.take i) n) ∧ σ = [some (.ref a), some (.int c), some (.int m), some (.ref p), y4, y5, y6] ∧ Same H H' ∧ ∃ ys, H' p = some (.lst ys) ∧ Paired (BV H') ys (brR (R.take i) b n))
      ⟨b, n, none, none, none, rfl, (by show b = b + (n - n); omega), rfl, same_upd np, [], upd_same, .nil⟩ (fun i σ H' _ hP => ?_) (fun i x σ H1 ex hP => ?_) (fun σ H1 hP => ?_)⟩
    · obtain ⟨_, _, _, _, _, _, _, _, sm, _⟩ := hP
      exact .of (sm _ _ hx)
    · obtain ⟨c, m, y4, y5, y6, em, ecc, rfl, sm, ys, hL, hy⟩ := hP
      obtain ⟨r, er, hr1⟩ := Paired.at hp ex
      have hi : i < xs.length := (List.getElem?_eq_some_iff.mp ex).1
      obtain ⟨t, rfl, ht⟩ := PV.same sm hr1
      have el : wfN (R.take (i + 1)) n = m - rmR r m := by rw [take_snoc er, wfN_snoc, em]
      have ec : brR (R.take (i + 1)) b n = brR (R.take i) b n ++ brP r c m := by rw [take_snoc er, brR_snoc, ecc, em]
      refine ⟨t, _, rfl, .of ht, rfl, _, _, rfl, _, _, rfl, rfl, ?_⟩
      refine ⟨_, rfl, _, rfl, _, rfl, _, _, rfl, rfl, _, _, rfl, rfl, _, _, rfl, ?_⟩
      refine ⟨fun σ' H' => σ' = [some (.ref a), some (.int c), some (.int m), some (.ref p), some (.int r.1), some (.int r.2), some (.int (rmR r m))] ∧ Same H H' ∧ ∃ ys, H' p = some (.lst ys) ∧ Paired (BV H') ys (brR (R.take (i + 1)) b n), ?_, fun σ' H5 hM => ?_⟩
      · refine ⟨_, rfl, _, _, rfl, rfl, _, rfl, ite2 (fun e => ?_) (fun e => ?_)⟩
        · have e : 0 < rmR r m := of_decide_eq_true e
          have epc : brP r c m = [(r.1, c, rmR r m)] := if_pos e
          refine ⟨_, rfl, .inl ⟨rfl, _, SqL.of hL⟩, _, rfl, _, rfl, _, rfl, (by show 3 ≤ sizeLine; decide), fun u nn => ⟨p, _, _, rfl, rfl, same_upd nn _ _ hL, ?_, ?_⟩⟩
          · have h1 := Paired.len hy
            have h2 := brR_len (R.take i) b n
            rw [List.length_take] at h2
            exact small (by omega)
          · refine ⟨rfl, same_grow np (sm.trans (same_upd nn)), _, upd_same, ?_⟩
            rw [ec, epc]
            exact Paired.app (bvs_grow (same_upd nn _ _ hL) (bvs_same (same_upd nn) hy)) (.cons (BV.grow (same_upd nn _ _ hL) ⟨_, rfl, upd_same⟩) .nil)
        · have e : ¬ 0 < rmR r m := fun z => e (decide_eq_true z)
          have epc : brP r c m = [] := if_neg e
          refine ⟨rfl, sm, _, hL, ?_⟩
          rw [ec, epc, List.append_nil]
          exact hy
      · obtain ⟨rfl, s5, ys5, hL5, hy5⟩ := hM
        exact ⟨_, rfl, _, rfl, _, _, rfl, rfl, _, rfl, _, rfl, _, _, rfl, rfl, _, _, _, _, _, el.symm, (by show c + rmR r m = b + (n - wfN (R.take (i + 1)) n); rw [el]; omega), rfl, s5, ys5, hL5, hy5⟩
    · obtain ⟨c, m, y3, y4, y5, em, ecc, rfl, sm, ys, hL, hy⟩ := hP
      rw [lx, List.take_length] at hy
      exact ⟨_, rfl, q H1 p sm np ⟨ys, hL, hy⟩⟩
/-! add_block: slots 0:blocks 1:first 2:second 3:count 4:last_first 5:last_second 6:size -/
abbrev s_add_block : Stmt := topS 41
theorem sc_add_block : FnScope ["blocks", "first", "second", "count", "last_first", "last_second", "size"] ["blocks", "first", "second", "count"] (defScope s_add_block) := ⟨rfl, rfl, rfl, by decide +kernel, rfl, by decide +kernel, by decide +kernel⟩
def sp_add_block : Sp := fun vs H Q _ => ∃ (a : Addr) (B : List Blk) (x : Blk), vs = [.ref a, .int x.1, .int x.2.1, .int x.2.2] ∧ Blks H a B ∧ B.length ≤ 900000 ∧ ∀ H', But a H H' → Blks H' a (addB B x) → Q .non H'
theorem ok_add_block (D : Df K mg "add_block" s_add_block) : Has P w K mg base 1 "add_block" ["blocks", "first", "second", "count"] sp_add_block := by
  refine has_of D sc_add_block (fun _ _ _ _ _ _ us hl => match us, hl with | [_, _, _, _], _ => rfl) (fun vs H Q E h => ?_) (fun f cdv A outer s₀ H vs Q E hr h => ?_)
  · obtain ⟨a, R, x, rfl, _⟩ := h
    rfl
  · obtain ⟨a, B, x, rfl, ⟨xs, hx, hp⟩, l4, q⟩ := h
    have lx : xs.length = B.length := Paired.len hp
    have app : addB B x = B ++ [x] → ∀ (p : Addr), H p = none → Q .non (upd (upd H p (.tup [.int x.1, .int x.2.1, .int x.2.2])) a (.lst (xs ++ [.ref p]))) := by
      intro e p np
      have hx1 := same_upd (o := .tup [.int x.1, .int x.2.1, .int x.2.2]) np _ _ hx
      refine q _ ((Same.but (same_upd np)).trans but_upd) ⟨_, upd_same, ?_⟩
      rw [e]
      exact Paired.app (bvs_grow hx1 (bvs_same (same_upd np) hp)) (.cons (BV.grow hx1 ⟨_, rfl, upd_same⟩) .nil)
    refine ⟨_, (pss_cons (ps_if (pt_truth (pv 0) (by intro _; rfl)) (pss_cons (ps_asg (pe_ix ix_list (pv 0) (pe_un un_neg pe_int) (fun _ _ => rfl)) (pg_tup rfl (pgs_cons (pg_name (i := 4) sc_add_block.nd rfl (by first | exact Or.inl rfl | exact Or.inr rfl)) (pgs_cons (pg_name (i := 5) sc_add_block.nd rfl (by first | exact Or.inl rfl | exact Or.inr rfl)) (pgs_cons (pg_name (i := 6) sc_add_block.nd rfl (by first | exact Or.inl rfl | exact Or.inr rfl)) pgs_nil)))))
    (pss_one (ps_if (PW.pt (pw_and (pt_cmpR op_eq (pe_op op_add (pv 4) (pv 6)) (pv 1) (nomark _)) (pw_and1 (pt_cmpR op_eq (pe_op op_add (pv 5) (pv 6)) (pv 2) (nomark _))))) (pss_cons (ps_asg (pe_tup (pa_cons (pv 4) (pa_cons (pv 5) (pa_cons (pe_op op_add (pv 6) (pv 3)) pa_nil)))) (pg_sub (pv 0) (pe_un un_neg pe_int) set_list))
    (pss_one ps_retN)) pss_nil))) pss_nil)
    (pss_one (ps_expr (pe_bm PySem.F.plainAttrs_list PySem.F.slot_list_append PySem.F.type_list_append mt_append (pv 0) (pa_cons (pe_tup (pa_cons (pv 1) (pa_cons (pv 2) (pa_cons (pv 3) pa_nil)))) pa_nil))))), ?_⟩
    rcases shaped_not (B := B) with e0 | ⟨B0, l, e0⟩
    · subst e0
      cases hp
      refine ⟨_, rfl, false, .inl ⟨[], .of hx, rfl⟩, iteF ?_⟩
      exact ⟨_, rfl, .inl ⟨rfl, _, SqL.of hx⟩, _, rfl, _, rfl, _, rfl, (by show 3 ≤ sizeLine; decide), fun u nn => ⟨a, _, _, rfl, rfl, same_upd nn _ _ hx, small (by show 0 ≤ _; omega), app rfl u nn⟩⟩
    · subst e0
      obtain ⟨ys0, y, rfl, hy0, ⟨tl, rfl, htl⟩⟩ := paired_snoc B0 l hp
      have exl : atI (ys0 ++ [V.ref tl]) (-1) = some (.ref tl) := atI_last _ _
      have tr : (!(ys0 ++ [V.ref tl]).isEmpty) = true := by cases ys0 <;> rfl
      refine ⟨_, rfl, true, .inl ⟨_, .of hx, tr.symm⟩, iteT ?_⟩
      refine ⟨_, rfl, 1, rfl, a, _, -1, _, rfl, rfl, .of hx, exl, tl, _, rfl, .of htl, rfl, _, _, rfl, _, _, rfl, _, _, rfl, rfl, ?_⟩
      have ap2 : ¬ (l.1 + l.2.2 = x.1 ∧ l.2.1 + l.2.2 = x.2.1) → addB (B0 ++ [l]) x = (B0 ++ [l]) ++ [x] := by
        intro z
        unfold addB
        rw [List.getLast?_concat]
        exact if_neg z
      have lx2 : (ys0 ++ [V.ref tl]).length ≤ 900000 := by rw [lx]; exact l4
      refine ⟨_, rfl, _, rfl, _, _, rfl, rfl, _, rfl, rfl, _, rfl, ite2 (fun e1 => ?_) (fun e1 => ?_)⟩
      · have e1 : l.1 + l.2.2 = x.1 := V.int.inj (of_decide_eq_true e1)
        refine ⟨_, rfl, _, rfl, _, _, rfl, rfl, _, rfl, rfl, _, rfl, ite2 (fun e2 => ?_) (fun e2 => ?_)⟩
        · have e2 : l.2.1 + l.2.2 = x.2.1 := V.int.inj (of_decide_eq_true e2)
          have er : addB (B0 ++ [l]) x = B0 ++ [(l.1, l.2.1, l.2.2 + x.2.2)] := by
            unfold addB
            rw [List.getLast?_concat, List.dropLast_concat]
            exact if_pos ⟨e1, e2⟩
          refine ⟨_, rfl, _, rfl, _, rfl, _, rfl, _, _, rfl, rfl, (by show 3 ≤ sizeLine; decide), fun u nn => ⟨_, rfl, 1, rfl, a, _, -1, ys0.length, rfl, rfl, same_upd nn _ _ hx, ?_, ?_⟩⟩
          · rw [List.length_append]
            exact ixN_lastX
          · rw [set_lastX]
            have hx1 := same_upd (o := .tup [.int l.1, .int l.2.1, .int (l.2.2 + x.2.2)]) nn _ _ hx
            refine q _ ((Same.but (same_upd nn)).trans but_upd) ⟨_, upd_same, ?_⟩
            rw [er]
            exact Paired.app (bvs_grow hx1 (bvs_same (same_upd nn) hy0)) (.cons (BV.grow hx1 ⟨_, rfl, upd_same⟩) .nil)
        · have e2 : ¬ l.2.1 + l.2.2 = x.2.1 := fun z => e2 (decide_eq_true (by show V.int (l.2.1 + l.2.2) = V.int x.2.1; rw [z]))
          exact ⟨_, rfl, .inl ⟨rfl, _, SqL.of hx⟩, _, rfl, _, rfl, _, rfl, (by show 3 ≤ sizeLine; decide), fun u nn => ⟨a, _, _, rfl, rfl, same_upd nn _ _ hx, small (by omega), app (ap2 fun z => e2 z.2) u nn⟩⟩
      · have e1 : ¬ l.1 + l.2.2 = x.1 := fun z => e1 (decide_eq_true (by show V.int (l.1 + l.2.2) = V.int x.1; rw [z]))
        refine iteF ?_
        exact ⟨_, rfl, .inl ⟨rfl, _, SqL.of hx⟩, _, rfl, _, rfl, _, rfl, (by show 3 ≤ sizeLine; decide), fun u nn => ⟨a, _, _, rfl, rfl, same_upd nn _ _ hx, small (by omega), app (ap2 fun z => e1 z.1) u nn⟩⟩
end
end UP

set_option Elab.async false
set_option linter.all false
set_option maxRecDepth 100000
set_option maxHeartbeats 4000000
namespace UP
open PySem PySem.Spec PyProof.Rows L2
def pgR : List Blk → Int → Option Int
  | [], _ => none
  | x :: t, p => if x.1 ≤ p ∧ p < x.1 + x.2.2 then some (x.2.1 + p - x.1) else if x.2.1 ≤ p ∧ p < x.2.1 + x.2.2 then some (x.1 + p - x.2.1) else pgR t p
def oI : Option Int → V
  | none => .non
  | some i => .int i
theorem drop_at {α : Type} {l : List α} {i : Nat} {x : α} (h : l[i]? = some x) : l.drop i = x :: l.drop (i + 1) := by
  obtain ⟨hi, e⟩ := List.getElem?_eq_some_iff.mp h
  rw [List.drop_eq_getElem_cons hi, e]
def blR (rs : List Run) : List Blk := boR rs none 0 [] []
theorem Rngs.butB {H H' : Hp} {D a : Addr} {acc : List V} {R : List Rg} (hD : H D = some (.lst acc)) (n : a ≠ D) (s : But D H H') (h : Rngs H a R) : Rngs H' a R := by
  obtain ⟨xs, hx, hp⟩ := h
  refine ⟨xs, s _ _ n hx, Paired.imp (fun v p z => ?_) hp⟩
  obtain ⟨t, e, ht⟩ := z
  exact ⟨t, e, s _ _ (ne_of ht hD (by intro q; cases q)) ht⟩
theorem Runs.butB {H H' : Hp} {D a : Addr} {acc : List V} {R : List Run} (hD : H D = some (.lst acc)) (n : a ≠ D) (s : But D H H') (h : Runs H a R) : Runs H' a R := by
  obtain ⟨xs, hx, hp⟩ := h
  refine ⟨xs, s _ _ n hx, Paired.imp (fun v p z => ?_) hp⟩
  obtain ⟨t, e, ht⟩ := z
  exact ⟨t, e, s _ _ (ne_of ht hD (by intro q; cases q)) ht⟩
theorem StV.butB {H H' : Hp} {D : Addr} {acc : List V} {v : V} {st : Option Run} (hD : H D = some (.lst acc)) (s : But D H H') (h : StV H v st) : StV H' v st := by
  cases st with
  | none => exact h
  | some r =>
    obtain ⟨t, e, ht⟩ := h
    exact ⟨t, e, s _ _ (ne_of ht hD (by intro q; cases q)) ht⟩
/-- what was there before stays, whatever is done to a list that is new -/
theorem Same.butB {H H1 H' : Hp} {D : Addr} (n : H D = none) (s : Same H H1) (b : But D H1 H') : Same H H' := fun a o e => b _ _ (ne_of_none e n) (s _ _ e)
section
variable {P : Program} {w : World} {K : PySem.W.Frag} {mg : Str → Option Value} {base : Heap}
/-! blocks_of: slots 0:runs 1:blocks 2:ranges 3:state 4:start 5:kind 6:count 7:leaving 8:first 9:second 10:size -/
abbrev s_blocks_of : Stmt := topS 42
theorem sc_blocks_of : FnScope ["runs", "blocks", "ranges", "state", "start", "kind", "count", "leaving", "first", "second", "size"] ["runs"] (defScope s_blocks_of) := ⟨rfl, rfl, rfl, by decide +kernel, rfl, by decide +kernel, by decide +kernel⟩
def sp_blocks_of : Sp := fun vs H Q _ => ∃ (a : Addr) (rs : List Run), vs = [.ref a] ∧ Runs H a rs ∧ rs.length ≤ 400 ∧ (∀ r ∈ rs, 1 ≤ r.2) ∧ Alt rs ∧ ∀ H' p, Same H H' → H p = none → Blks H' p (blR rs) → Q (.ref p) H'
theorem ok_blocks_of (D : Df K mg "blocks_of" s_blocks_of) (G_leaving_number : Has P w K mg base 1 "leaving_number" ["state", "kind", "count"] sp_leaving_number) (G_blocks_of_run : Has P w K mg base 1 "blocks_of_run" ["ranges", "start", "leaving"] sp_blocks_of_run)
    (G_add_block : Has P w K mg base 1 "add_block" ["blocks", "first", "second", "count"] sp_add_block) (G_ranges_after_run : Has P w K mg base 2 "ranges_after_run" ["ranges", "start", "count", "leaving"] sp_ranges_after_run) (G_state_after_run : Has P w K mg base 2 "state_after_run" ["state", "kind", "count"] sp_state_after_run) :
    Has P w K mg base 3 "blocks_of" ["runs"] sp_blocks_of := by
  refine has_of D sc_blocks_of (fun _ _ _ _ _ _ us hl => match us, hl with | [_], _ => rfl) (fun vs H Q E h => ?_) (fun f cdv A outer s₀ H vs Q E hr h => ?_)
  · obtain ⟨a, R, rfl, _⟩ := h
    rfl
  · obtain ⟨a, rs, rfl, ⟨xs, hx, hpr⟩, l4, pos, al, q⟩ := h
    have lx : xs.length = rs.length := Paired.len hpr
    refine ⟨_, (pss_cons (ps_set (i := 1) sc_blocks_of.nd rfl (by first | exact Or.inl rfl | exact Or.inr rfl) (pe_lst pa_nil))
    (pss_cons (ps_set (i := 2) sc_blocks_of.nd rfl (by first | exact Or.inl rfl | exact Or.inr rfl) (pe_lst pa_nil))
    (pss_cons (ps_set (i := 3) sc_blocks_of.nd rfl (by first | exact Or.inl rfl | exact Or.inr rfl) pe_non)
    (pss_cons (ps_set (i := 4) sc_blocks_of.nd rfl (by first | exact Or.inl rfl | exact Or.inr rfl) pe_int)
    (pss_cons (ps_for PassesOwn.never rfl (pi_list (pv 0)) (pg_tup rfl (pgs_cons (pg_name (i := 5) sc_blocks_of.nd rfl (by first | exact Or.inl rfl | exact Or.inr rfl)) (pgs_cons (pg_name (i := 6) sc_blocks_of.nd rfl (by first | exact Or.inl rfl | exact Or.inr rfl)) pgs_nil)))
      (pss_cons (ps_set (i := 7) sc_blocks_of.nd rfl (by first | exact Or.inl rfl | exact Or.inr rfl) (pe_callH G_leaving_number (hr.mono (by omega)) (by rfl) (pa_cons (pv 3) (pa_cons (pv 5) (pa_cons (pv 6) pa_nil)))))
    (pss_cons (ps_for PassesOwn.never rfl (pi_list (pe_callH G_blocks_of_run (hr.mono (by omega)) (by rfl) (pa_cons (pv 2) (pa_cons (pv 4) (pa_cons (pv 7) pa_nil))))) (pg_tup rfl (pgs_cons (pg_name (i := 8) sc_blocks_of.nd rfl (by first | exact Or.inl rfl | exact Or.inr rfl)) (pgs_cons (pg_name (i := 9) sc_blocks_of.nd rfl (by first | exact Or.inl rfl | exact Or.inr rfl)) (pgs_cons (pg_name (i := 10) sc_blocks_of.nd rfl (by first | exact Or.inl rfl | exact Or.inr rfl)) pgs_nil))))
      (pss_one (ps_expr (pe_callH G_add_block (hr.mono (by omega)) (by rfl) (pa_cons (pv 1) (pa_cons (pv 8) (pa_cons (pv 9) (pa_cons (pv 10) pa_nil))))))))
    (pss_cons (ps_set (i := 2) sc_blocks_of.nd rfl (by first | exact Or.inl rfl | exact Or.inr rfl) (pe_callH G_ranges_after_run (hr.mono (by omega)) (by rfl) (pa_cons (pv 2) (pa_cons (pv 4) (pa_cons (pv 6) (pa_cons (pv 7) pa_nil))))))
    (pss_cons (ps_set (i := 3) sc_blocks_of.nd rfl (by first | exact Or.inl rfl | exact Or.inr rfl) (pe_callH G_state_after_run (hr.mono (by omega)) (by rfl) (pa_cons (pv 3) (pa_cons (pv 5) (pa_cons (pv 6) pa_nil)))))
    (pss_one (ps_aug (i := 4) sc_blocks_of.nd rfl (by first | exact Or.inl rfl | exact Or.inr rfl) (pv 6) ip_add)))))))
    (pss_one (ps_ret (pv 1)))))))), ?_⟩
    refine ⟨Nat.zero_le _, fun p np => ⟨Nat.zero_le _, fun e ne => ?_⟩⟩
    have sp := same_upd (o := .lst []) np
    have se := same_upd (o := .lst []) ne
    have ep : e ≠ p := fun z => by rw [z, upd_same] at ne; cases ne
    have neH : H e = none := sp.free ne
    have hp0 : (upd (upd H p (.lst [])) e (.lst [])) p = some (.lst []) := by rw [upd_ne ep.symm, upd_same]
    refine ⟨_, rfl, a, rfl, ⟨xs, .of (se _ _ (sp _ _ hx))⟩, for_list (K := K) (a := a) (xs := xs) (fun i σ H' => ∃ v b c y5 y6 y7 y8 y9 y10, b = lenR (rs.take i) ∧ σ = [some (.ref a), some (.ref p), some (.ref c), some v, some (.int b), y5, y6, y7, y8, y9, y10] ∧ Same H H' ∧ c ≠ p ∧ StV H' v (stR (rs.take i) none) ∧ Rngs H' c (waR (rs.take i) none 0 []) ∧ Blks H' p (blR (rs.take i)))
      ⟨.non, 0, e, none, none, none, none, none, none, rfl, rfl, sp.trans se, ep, rfl, ⟨[], upd_same, .nil⟩, ⟨[], hp0, .nil⟩⟩ (fun i σ H' _ hP => ?_) (fun i x σ H4 ex hP => ?_) (fun σ H4 hP => ?_)⟩
    · obtain ⟨_, _, _, _, _, _, _, _, _, _, _, sm, _⟩ := hP
      exact .of (sm _ _ hx)
    · obtain ⟨v, b, c, y5, y6, y7, y8, y9, y10, rfl, rfl, sm, cp, hv, hR4, hB4⟩ := hP
      obtain ⟨r, er, hr1⟩ := Paired.at hpr ex
      obtain ⟨t, rfl, ht⟩ := RunV.same sm hr1
      have hi : i < xs.length := (List.getElem?_eq_some_iff.mp ex).1
      have c1 : 1 ≤ r.2 := pos r (List.mem_of_getElem? er)
      have el : lenR (rs.take (i + 1)) = lenR (rs.take i) + r.2 := by rw [take_snoc er, lenR_snoc]
      have es : stR (rs.take (i + 1)) none = stepR (stR (rs.take i) none) r.1 r.2 := by rw [take_snoc er, stR_snoc]
      have ew : waR (rs.take (i + 1)) none 0 [] = wfR (waR (rs.take i) none 0 []) (leavR (stR (rs.take i) none) r.1 r.2) ++ adP (stR (rs.take i) none) (lenR (rs.take i)) r := by rw [take_snoc er, waR_snoc, Int.zero_add]
      have eb : blR (rs.take (i + 1)) = addsB (blR (rs.take i)) (brR (waR (rs.take i) none 0 []) (lenR (rs.take i)) (leavR (stR (rs.take i) none) r.1 r.2)) := by
        unfold blR
        rw [take_snoc er, boR_snoc, Int.zero_add]
      have lw := waR_len (rs.take i) none 0 []
      have lb := boR_len (rs.take i) none 0 [] []
      have lb2 : (blR (rs.take i)).length ≤ 160000 := by
        refine Nat.le_trans lb ?_
        have h1 : (rs.take i).length ≤ 400 := by rw [List.length_take]; omega
        have h2 := Nat.mul_le_mul h1 h1
        show ([] : List Blk).length + (rs.take i).length * (0 + (rs.take i).length) ≤ _
        rw [List.length_nil, Nat.zero_add, Nat.zero_add]
        omega
      rw [List.length_take, List.length_nil] at lw
      have nt := no_touch pos al er
      rw [el, es, ew, eb]
      generalize lenR (rs.take i) = b at *
      generalize stR (rs.take i) none = st at *
      generalize waR (rs.take i) none 0 [] = R at *
      generalize blR (rs.take i) = B at *
      clear lb
      refine ⟨t, _, rfl, .of ht, rfl, _, _, rfl, _, _, rfl, rfl, ?_⟩
      refine ⟨_, rfl, _, rfl, _, rfl, v, st, r.1, r.2, rfl, hv, ?_⟩
      have hlv : ∃ n, leavR st r.1 r.2 = n := ⟨_, rfl⟩
      obtain ⟨n, hn⟩ := hlv
      have had : adQ b r.2 n = adP st b r := by rw [← hn]; rfl
      rw [hn, ← had]
      rw [hn] at nt
      -- the blocks of the run
      refine ⟨_, rfl, _, rfl, _, rfl, c, R, b, n, rfl, hR4, by omega, fun H5 p5 s5 n5 h5 => ?_⟩
      have lbr := brR_len R b n
      obtain ⟨zs, hz, hzp⟩ := h5
      have lz : zs.length = (brR R b n).length := Paired.len hzp
      have p5p : p5 ≠ p := by
        obtain ⟨_, hB, _⟩ := hB4
        exact (ne_of_none hB n5).symm
      have hR5 := hR4.same s5
      have hv5 := hv.same s5
      have hB5 := hB4.same s5
      refine ⟨p5, rfl, ⟨zs, .of hz⟩, for_list (K := K) (a := p5) (xs := zs) (fun j σ H' => ∃ y8 y9 y10, σ = [some (.ref a), some (.ref p), some (.ref c), some v, some (.int b), some (.str r.1), some (.int r.2), some (.int n), y8, y9, y10] ∧ But p H5 H' ∧ Blks H' p (addsB B ((brR R b n).take j)))
        ⟨_, _, _, rfl, But.refl, hB5⟩ (fun j σ H' _ hP => ?_) (fun j x σ H6 ex6 hP => ?_) (fun σ H6 hP => ?_)⟩
      · obtain ⟨_, _, _, _, bt, _⟩ := hP
        exact .of (bt _ _ p5p hz)
      · obtain ⟨y8, y9, y10, rfl, bt, hB6⟩ := hP
        obtain ⟨k, ek, hk⟩ := Paired.at hzp ex6
        obtain ⟨_, hB5x, _⟩ := id hB5
        obtain ⟨tk, rfl, htk⟩ := BV.but hB5x bt hk
        refine ⟨tk, _, rfl, .of htk, rfl, _, _, rfl, _, _, rfl, _, _, rfl, rfl, ?_⟩
        have la := addsB_len ((brR R b n).take j) B
        rw [List.length_take] at la
        refine ⟨_, rfl, _, rfl, _, rfl, _, rfl, p, _, k, rfl, hB6, by omega, fun H7 b7 h7 => ⟨_, _, _, rfl, bt.trans b7, ?_⟩⟩
        rw [take_snoc ek, addsB_snoc]
        exact h7
      · obtain ⟨y8, y9, y10, rfl, bt, hB6⟩ := hP
        rw [lz, List.take_length] at hB6
        obtain ⟨_, hB5x, _⟩ := id hB5
        have hR6 := hR5.butB hB5x cp bt
        have hv6 := hv5.butB hB5x bt
        have s6 : Same H H6 := Same.butB np (sm.trans s5) bt
        refine ⟨_, rfl, _, rfl, _, rfl, _, rfl, c, R, b, r.2, n, rfl, hR6, by omega, fun H7 p7 s7 n7 h7 => ?_⟩
        rw [rar_nt nt] at h7
        refine ⟨_, rfl, _, rfl, _, rfl, v, st, r.1, r.2, rfl, hv6.same s7, c1, fun H8 v8 s8 h8 => ?_⟩
        have p7p : p7 ≠ p := by
          obtain ⟨_, hB, _⟩ := hB6
          exact (ne_of_none hB n7).symm
        exact ⟨_, rfl, _, rfl, _, _, rfl, rfl, v8, _, p7, _, _, _, _, _, _, rfl, rfl, s6.trans (s7.trans s8), p7p, h8, h7.same s8, (hB6.same s7).same s8⟩
    · obtain ⟨v, b, c, y5, y6, y7, y8, y9, y10, rfl, rfl, sm, cp, hv, hR4, hB4⟩ := hP
      rw [lx, List.take_length] at hB4
      exact ⟨_, rfl, q H4 p sm np hB4⟩
/-! partner_in: slots 0:blocks 1:position 2:first 3:second 4:count -/
abbrev s_partner_in : Stmt := topS 43
theorem sc_partner_in : FnScope ["blocks", "position", "first", "second", "count"] ["blocks", "position"] (defScope s_partner_in) := ⟨rfl, rfl, rfl, by decide +kernel, rfl, by decide +kernel, by decide +kernel⟩
def sp_partner_in : Sp := fun vs H Q _ => ∃ (a : Addr) (B : List Blk) (m : Int), vs = [.ref a, .int m] ∧ Blks H a B ∧ Q (oI (pgR B m)) H
theorem ok_partner_in (D : Df K mg "partner_in" s_partner_in) : Has P w K mg base 1 "partner_in" ["blocks", "position"] sp_partner_in := by
  refine has_of D sc_partner_in (fun _ _ _ _ _ _ us hl => match us, hl with | [_, _], _ => rfl) (fun vs H Q E h => ?_) (fun f cdv A outer s₀ H vs Q E hr h => ?_)
  · obtain ⟨a, R, n, rfl, _⟩ := h
    rfl
  · obtain ⟨a, B, m, rfl, ⟨xs, hx, hpr⟩, q⟩ := h
    refine ⟨_, (pss_cons (ps_for PassesOwn.never rfl (pi_list (pv 0)) (pg_tup rfl (pgs_cons (pg_name (i := 2) sc_partner_in.nd rfl (by first | exact Or.inl rfl | exact Or.inr rfl)) (pgs_cons (pg_name (i := 3) sc_partner_in.nd rfl (by first | exact Or.inl rfl | exact Or.inr rfl)) (pgs_cons (pg_name (i := 4) sc_partner_in.nd rfl (by first | exact Or.inl rfl | exact Or.inr rfl)) pgs_nil))))
      (C8.pss_cut (ps_if (pt_chain op_le op_lt (pv 2) (pv 1) (pe_op op_add (pv 2) (pv 4))) (pss_one (ps_ret (pe_op op_sub (pe_op op_add (pv 3) (pv 1)) (pv 2)))) pss_nil)
    (pss_one (ps_if (pt_chain op_le op_lt (pv 3) (pv 1) (pe_op op_add (pv 3) (pv 4))) (pss_one (ps_ret (pe_op op_sub (pe_op op_add (pv 2) (pv 1)) (pv 3)))) pss_nil))))
    (pss_one (ps_ret pe_non))), ?_⟩
    have lx : xs.length = B.length := Paired.len hpr
    refine ⟨_, rfl, a, rfl, ⟨xs, .of hx⟩, for_list (K := K) (a := a) (xs := xs) (fun i σ H' => ∃ y3 y4 y5, σ = [some (.ref a), some (.int m), y3, y4, y5] ∧ H' = H ∧ pgR B m = pgR (B.drop i) m)
      ⟨none, none, none, rfl, rfl, rfl⟩ (fun i σ H' _ hP => ?_) (fun i x σ H4 ex hP => ?_) (fun σ H4 hP => ?_)⟩
    · obtain ⟨_, _, _, _, rfl, _⟩ := hP
      exact .of hx
    · obtain ⟨y3, y4, y5, rfl, rfl, eq⟩ := hP
      obtain ⟨k, ek, ⟨t, rfl, ht⟩⟩ := Paired.at hpr ex
      have ed : B.drop i = k :: B.drop (i + 1) := drop_at ek
      rw [ed] at eq
      refine ⟨t, _, rfl, .of ht, rfl, _, _, rfl, _, _, rfl, _, _, rfl, rfl, ?_⟩
      have done : ∀ z : Option Int, pgR B m = z → Q (oI z) H4 := fun z e => by
        rw [← e]
        exact q
      have e0 : pgR (k :: B.drop (i + 1)) m = if k.1 ≤ m ∧ m < k.1 + k.2.2 then some (k.2.1 + m - k.1) else if k.2.1 ≤ m ∧ m < k.2.1 + k.2.2 then some (k.1 + m - k.2.1) else pgR (B.drop (i + 1)) m := rfl
      refine ⟨fun σ' H' => σ' = [some (.ref a), some (.int m), some (.int k.1), some (.int k.2.1), some (.int k.2.2)] ∧ H' = H4 ∧ ¬ (k.1 ≤ m ∧ m < k.1 + k.2.2), ?_, fun σ' H6 hM => ?_⟩
      · by_cases c1 : k.1 ≤ m ∧ m < k.1 + k.2.2
        · rw [e0, if_pos c1] at eq
          refine ⟨_, rfl, _, rfl, _, _, rfl, rfl, _, rfl, iteP (decide_eq_true c1.1) ⟨_, rfl, _, rfl, _, _, rfl, rfl, _, _, rfl, rfl, _, rfl, iteP (decide_eq_true c1.2) ?_⟩⟩
          exact ⟨_, rfl, _, rfl, _, _, rfl, rfl, _, rfl, _, _, rfl, rfl, done _ eq⟩
        · by_cases c2 : k.1 ≤ m
          · exact ⟨_, rfl, _, rfl, _, _, rfl, rfl, _, rfl, iteP (decide_eq_true c2) ⟨_, rfl, _, rfl, _, _, rfl, rfl, _, _, rfl, rfl, _, rfl, iteN (decide_eq_false fun z => c1 ⟨c2, z⟩) ⟨rfl, rfl, c1⟩⟩⟩
          · exact ⟨_, rfl, _, rfl, _, _, rfl, rfl, _, rfl, iteN (decide_eq_false c2) ⟨_, rfl, iteF ⟨rfl, rfl, c1⟩⟩⟩
      · obtain ⟨rfl, rfl, c1⟩ := hM
        rw [e0, if_neg c1] at eq
        by_cases c1 : k.2.1 ≤ m ∧ m < k.2.1 + k.2.2
        · rw [if_pos c1] at eq
          refine ⟨_, rfl, _, rfl, _, _, rfl, rfl, _, rfl, iteP (decide_eq_true c1.1) ⟨_, rfl, _, rfl, _, _, rfl, rfl, _, _, rfl, rfl, _, rfl, iteP (decide_eq_true c1.2) ?_⟩⟩
          exact ⟨_, rfl, _, rfl, _, _, rfl, rfl, _, rfl, _, _, rfl, rfl, done _ eq⟩
        · rw [if_neg c1] at eq
          by_cases c2 : k.2.1 ≤ m
          · exact ⟨_, rfl, _, rfl, _, _, rfl, rfl, _, rfl, iteP (decide_eq_true c2) ⟨_, rfl, _, rfl, _, _, rfl, rfl, _, _, rfl, rfl, _, rfl, iteN (decide_eq_false fun z => c1 ⟨c2, z⟩) ⟨_, _, _, rfl, rfl, eq⟩⟩⟩
          · exact ⟨_, rfl, _, rfl, _, _, rfl, rfl, _, rfl, iteN (decide_eq_false c2) ⟨_, rfl, iteF ⟨_, _, _, rfl, rfl, eq⟩⟩⟩
    · obtain ⟨y3, y4, y5, rfl, rfl, eq⟩ := hP
      rw [lx, List.drop_length] at eq
      have := q
      rw [eq] at this
      exact this
/-! partner_of: slots 0:sequence 1:position 2:runs -/
abbrev s_partner_of : Stmt := topS 44
theorem sc_partner_of : FnScope ["sequence", "position", "runs"] ["sequence", "position"] (defScope s_partner_of) := ⟨rfl, rfl, rfl, by decide +kernel, rfl, by decide +kernel, by decide +kernel⟩
def sp_partner_of : Sp := fun vs H Q _ => ∃ (av : V) (rs : List Run) (m : Int), vs = [av, .int m] ∧ RunsG H av rs ∧ SeqOk rs ∧ 0 ≤ m ∧ m < lenR rs ∧ ∀ H', Same H H' → Q (oI (pgR (blR rs) m)) H'
theorem ok_partner_of (D : Df K mg "partner_of" s_partner_of) (G_checked_runs : Has P w K mg base 5 "checked_runs" ["sequence"] sp_checked_runs) (G_check_position : Has P w K mg base 3 "check_position" ["runs", "position"] sp_check_position) (G_blocks_of : Has P w K mg base 3 "blocks_of" ["runs"] sp_blocks_of) (G_partner_in : Has P w K mg base 1 "partner_in" ["blocks", "position"] sp_partner_in) :
    Has P w K mg base 6 "partner_of" ["sequence", "position"] sp_partner_of := by
  refine has_of D sc_partner_of (fun _ _ _ _ _ _ us hl => match us, hl with | [_, _], _ => rfl) (fun vs H Q E h => ?_) (fun f cdv A outer s₀ H vs Q E hr h => ?_)
  · obtain ⟨a, R, n, rfl, _⟩ := h
    rfl
  · obtain ⟨av, rs, m, rfl, hR, ok, m0, m1, q⟩ := h
    have l4 : rs.length ≤ 400 := ok.1
    refine ⟨_, (pss_cons (ps_set (i := 2) sc_partner_of.nd rfl (by first | exact Or.inl rfl | exact Or.inr rfl) (pe_callH G_checked_runs (hr.mono (by omega)) (by rfl) (pa_cons (pv 0) pa_nil)))
    (pss_cons (ps_expr (pe_callH G_check_position (hr.mono (by omega)) (by rfl) (pa_cons (pv 2) (pa_cons (pv 1) pa_nil))))
    (pss_one (ps_ret (pe_callH G_partner_in (hr.mono (by omega)) (by rfl) (pa_cons (pe_callH G_blocks_of (hr.mono (by omega)) (by rfl) (pa_cons (pv 2) pa_nil)) (pa_cons (pv 1) pa_nil))))))), ?_⟩
    refine ⟨_, rfl, av, rs, rfl, hR, ok, fun H1 p s1 np hp => ?_⟩
    refine ⟨_, rfl, _, rfl, p, rs, m, rfl, hp, by omega, m0, m1, fun H2 s2 => ?_⟩
    refine ⟨_, rfl, p, rs, rfl, hp.same s2, l4, (fun r hr => (ok.2.1 r hr).2.1), ok.2.2, fun H3 p3 s3 n3 h3 => ?_⟩
    exact ⟨_, rfl, p3, blR rs, m, rfl, h3, q _ (s1.trans (s2.trans s3))⟩
end
end UP

set_option Elab.async false
set_option linter.all false
set_option maxRecDepth 100000
set_option maxHeartbeats 4000000
namespace UP
open PySem PySem.Spec PyProof.Rows L2
/-! ### pairs written out -/
abbrev Pr := Int × Int
def zpL : List Int → Int → List Pr
  | [], _ => []
  | p :: t, b => (p, b) :: zpL t (b + 1)
theorem zpL_app : ∀ (l m : List Int) (b : Int), zpL (l ++ m) b = zpL l b ++ zpL m (b + (l.length : Int))
  | [], m, b => by
    show zpL m b = zpL m (b + ((0 : Nat) : Int))
    rw [show b + ((0 : Nat) : Int) = b by omega]
  | p :: t, m, b => by
    show (p, b) :: zpL (t ++ m) (b + 1) = (p, b) :: (zpL t (b + 1) ++ zpL m (b + ((p :: t).length : Int)))
    rw [zpL_app t m, List.length_cons, show b + 1 + (t.length : Int) = b + ((t.length + 1 : Nat) : Int) by omega]
def flX (x : Blk) : List Pr := zpL (posL x.1 x.2.2.toNat) x.2.1
def flB (B : List Blk) : List Pr := B.flatMap flX
theorem flB_app (B C : List Blk) : flB (B ++ C) = flB B ++ flB C := List.flatMap_append ..
theorem flB_one (x : Blk) : flB [x] = flX x := by
  show flX x ++ [] = _
  rw [List.append_nil]
def PosB (B : List Blk) : Prop := ∀ x ∈ B, 0 < x.2.2
theorem posL_take : ∀ (n k : Nat) (a : Int), k ≤ n → (posL a n).take k = posL a k := by
  intro n k a h
  have e : n = k + (n - k) := by omega
  rw [e, posL_app, List.take_append_of_le_length (by rw [posL_len]; exact Nat.le_refl _), List.take_of_length_le (by rw [posL_len]; exact Nat.le_refl _)]
theorem fl_br {c : Int} : ∀ {R : List Rg} {b n : Int}, Gd R c → 0 ≤ n → flB (brR R b n) = zpL ((flR R).take n.toNat) b
  | [], b, n, _, _ => by
    show ([] : List Pr) = zpL (([] : List Int).take _) b
    rw [List.take_nil]
    rfl
  | p :: t, b, n, g, hn => by
    have g1 := g.1
    have h := rm_le (p := p) g1 hn
    have ih := fl_br (b := b + rmR p n) (n := n - rmR p n) g.2.2.2 (by omega)
    show flB (brP p b n ++ brR t (b + rmR p n) (n - rmR p n)) = zpL ((flP p ++ flR t).take n.toNat) b
    have lp : (flP p).length = (p.2 - p.1 + 1).toNat := posL_len _ _
    have e1 : flB (brP p b n) = zpL (posL p.1 (rmR p n).toNat) b := by
      by_cases c : 0 < rmR p n
      · rw [show brP p b n = [(p.1, b, rmR p n)] from if_pos c, flB_one]
        rfl
      · rw [show brP p b n = [] from if_neg c, show (rmR p n).toNat = 0 by omega]
        rfl
    rw [flB_app, ih, e1, List.take_append, zpL_app, lp]
    have e2 : (flP p).take n.toNat = posL p.1 (rmR p n).toNat := by
      by_cases c : rmR p n < p.2 - p.1 + 1
      · have e := h.2.2.2 c
        unfold flP
        rw [posL_take _ _ _ (by omega), e]
      · rw [List.take_of_length_le (by omega)]
        unfold flP
        rw [show (p.2 - p.1 + 1).toNat = (rmR p n).toNat by omega]
    rw [e2, posL_len, show ((rmR p n).toNat : Int) = rmR p n by omega, show (n - rmR p n).toNat = n.toNat - (p.2 - p.1 + 1).toNat by
      by_cases c : rmR p n < p.2 - p.1 + 1
      · have e := h.2.2.2 c
        omega
      · omega]
theorem pos_brR : ∀ (R : List Rg) (b n : Int), PosB (brR R b n)
  | [], _, _ => fun x h => by cases h
  | p :: t, b, n => by
    intro x hx
    rcases List.mem_append.mp (show x ∈ brP p b n ++ brR t (b + rmR p n) (n - rmR p n) from hx) with z | z
    · by_cases c : 0 < rmR p n
      · rw [show brP p b n = [(p.1, b, rmR p n)] from if_pos c] at z
        rw [List.mem_singleton.mp z]
        exact c
      · rw [show brP p b n = [] from if_neg c] at z
        cases z
    · exact pos_brR t _ _ x z
theorem addB_cases (B : List Blk) (x : Blk) : addB B x = B ++ [x] ∨ ∃ B0 l, B = B0 ++ [l] ∧ l.1 + l.2.2 = x.1 ∧ l.2.1 + l.2.2 = x.2.1 ∧ addB B x = B0 ++ [(l.1, l.2.1, l.2.2 + x.2.2)] := by
  rcases shaped_not (B := B) with e | ⟨B0, l, e⟩
  · subst e
    exact .inl rfl
  · subst e
    by_cases c : l.1 + l.2.2 = x.1 ∧ l.2.1 + l.2.2 = x.2.1
    · refine .inr ⟨B0, l, rfl, c.1, c.2, ?_⟩
      unfold addB
      rw [List.getLast?_concat, List.dropLast_concat]
      exact if_pos c
    · refine .inl ?_
      unfold addB
      rw [List.getLast?_concat]
      exact if_neg c
theorem fl_add {B : List Blk} {x : Blk} (h : PosB B) (hx : 0 < x.2.2) : flB (addB B x) = flB B ++ flX x ∧ PosB (addB B x) := by
  rcases addB_cases B x with e | ⟨B0, l, e0, c1, c2, e⟩
  · rw [e, flB_app, flB_one]
    refine ⟨rfl, fun y hy => ?_⟩
    rcases List.mem_append.mp hy with z | z
    · exact h y z
    · rw [List.mem_singleton.mp z]
      exact hx
  · subst e0
    have hl : 0 < l.2.2 := h l (List.mem_append.mpr (.inr (List.mem_singleton.mpr rfl)))
    rw [e]
    refine ⟨?_, fun y hy => ?_⟩
    · rw [flB_app, flB_app, flB_one, flB_one, List.append_assoc]
      congr 1
      show zpL (posL l.1 (l.2.2 + x.2.2).toNat) l.2.1 = zpL (posL l.1 l.2.2.toNat) l.2.1 ++ zpL (posL x.1 x.2.2.toNat) x.2.1
      rw [show (l.2.2 + x.2.2).toNat = l.2.2.toNat + x.2.2.toNat by omega, posL_app, zpL_app, posL_len, show ((l.2.2.toNat : Nat) : Int) = l.2.2 by omega, c1, c2]
    · rcases List.mem_append.mp hy with z | z
      · exact h y (List.mem_append.mpr (.inl z))
      · rw [List.mem_singleton.mp z]
        show 0 < l.2.2 + x.2.2
        omega
theorem fl_adds : ∀ (xs B : List Blk), PosB B → PosB xs → flB (addsB B xs) = flB B ++ flB xs ∧ PosB (addsB B xs)
  | [], B, h, _ => by
    refine ⟨?_, h⟩
    show flB B = flB B ++ []
    rw [List.append_nil]
  | x :: t, B, h, hx => by
    obtain ⟨a1, a2⟩ := fl_add (x := x) h (hx x (List.mem_cons_self ..))
    obtain ⟨b1, b2⟩ := fl_adds t (addB B x) a2 fun y hy => hx y (List.mem_cons_of_mem _ hy)
    refine ⟨?_, b2⟩
    show flB (addsB (addB B x) t) = flB B ++ (flX x ++ flB t)
    rw [b1, a1, List.append_assoc]
/-! ### the pairs of a run -/
theorem psR_app : ∀ (l m : List Str) (ws : List Run) (n : Nat), psR ws n (l ++ m) = psR ws n l ++ psR (plA ws n l) (n + l.length) m
  | [], m, ws, n => rfl
  | k :: t, m, ws, n => by
    show plP ws k n ++ psR (plS ws k n) (n + 1) (t ++ m) = (plP ws k n ++ psR (plS ws k n) (n + 1) t) ++ psR (plA (plS ws k n) (n + 1) t) (n + (k :: t).length) m
    rw [psR_app t m, List.length_cons, List.append_assoc, show n + 1 + t.length = n + (t.length + 1) by omega]
theorem ps_same : ∀ (c : Nat) (ws : List Run) (n : Nat) (k : Str), (∀ r ∈ ws, r.1 = k) → psR ws n (List.replicate c k) = []
  | 0, _, _, _, _ => rfl
  | c + 1, ws, n, k, h => by
    have e : plS ws k n = ws ++ [(k, (n : Int))] ∧ plP ws k n = [] := by
      cases ws with
      | nil => exact ⟨rfl, rfl⟩
      | cons r t => exact ⟨if_pos (h r (List.mem_cons_self ..)), if_pos (h r (List.mem_cons_self ..))⟩
    show plP ws k n ++ psR (plS ws k n) (n + 1) (List.replicate c k) = []
    rw [e.1, e.2, ps_same c _ (n + 1) k (fun r hr => by
      rcases List.mem_append.mp hr with z | z
      · exact h r z
      · rw [List.mem_singleton.mp z])]
    rfl
theorem ps_other : ∀ (c : Nat) (ws : List Run) (n : Nat) (k : Str), (∀ r ∈ ws, r.1 ≠ k) → psR ws n (List.replicate c k) = zpL ((psW ws).take c) (n : Int)
  | 0, ws, n, k, _ => rfl
  | c + 1, [], n, k, _ => by
    rw [ps_same (c + 1) [] n k (fun r h => by cases h)]
    rfl
  | c + 1, r :: t, n, k, h => by
    have hr := h r (List.mem_cons_self ..)
    have e1 : plS (r :: t) k n = t := if_neg hr
    have e2 : plP (r :: t) k n = [(r.2, (n : Int))] := if_neg hr
    show plP (r :: t) k n ++ psR (plS (r :: t) k n) (n + 1) (List.replicate c k) = (r.2, (n : Int)) :: zpL ((psW t).take c) ((n : Int) + 1)
    rw [e1, e2, ps_other c t (n + 1) k fun x hx => h x (List.mem_cons_of_mem _ hx)]
    rfl
theorem pairs_run {ws : List Run} {R : List Rg} {n : Nat} {r : Run} {b : Int} (u : Uni ws) (fl : flR R = psW ws) (g : Gd R b) (c1 : 1 ≤ r.2) : flB (brR R (n : Int) (leavR (toldR ws) r.1 r.2)) = psR ws n (List.replicate r.2.toNat r.1) := by
  cases ws with
  | nil =>
    rw [ps_same _ [] n r.1 (fun r h => by cases h), fl_br g (by show (0 : Int) ≤ 0; omega)]
    rfl
  | cons y t =>
    by_cases e : y.1 = r.1
    · have all : ∀ x ∈ y :: t, x.1 = r.1 := fun x hx => (u x hx y (List.mem_cons_self ..)).trans e
      have lv : leavR (toldR (y :: t)) r.1 r.2 = 0 := if_pos e
      rw [lv, ps_same _ _ n r.1 all, fl_br g (Int.le_refl _)]
      rfl
    · have all : ∀ x ∈ y :: t, x.1 ≠ r.1 := fun x hx z => e ((u y (List.mem_cons_self ..) x hx).trans z)
      have lv : leavR (toldR (y :: t)) r.1 r.2 = if r.2 < ((y :: t).length : Int) then r.2 else ((y :: t).length : Int) := if_neg e
      have lp : (psW (y :: t)).length = (y :: t).length := List.length_map _
      rw [ps_other _ _ n r.1 all, lv]
      by_cases q : r.2 < ((y :: t).length : Int)
      · rw [if_pos q, fl_br g (by omega), fl]
      · rw [if_neg q, fl_br g (by omega), fl, List.take_of_length_le (by omega), List.take_of_length_le (by omega)]
theorem all_pairs : ∀ (rs : List Run) (ws : List Run) (R : List Rg) (n : Nat) (B : List Blk), Uni ws → flR R = psW ws → Gd R (n : Int) → (∀ r ∈ rs, 1 ≤ r.2) → Alt rs → (∀ l, R.getLast? = some l → l.2 = (n : Int) - 1 → ∀ x r, toldR ws = some x → rs.head? = some r → x.1 ≠ r.1) → PosB B →
    flB (boR rs (toldR ws) (n : Int) R B) = flB B ++ psR ws n (itR rs) ∧ PosB (boR rs (toldR ws) (n : Int) R B)
  | [], ws, R, n, B, _, _, _, _, _, _, hB => by
    refine ⟨?_, hB⟩
    show flB B = flB B ++ []
    rw [List.append_nil]
  | r :: t, ws, R, n, B, u, fl, g, k, alt, bd, hB => by
    have c1 := k r (List.mem_cons_self ..)
    obtain ⟨h1, h2, h3⟩ := one_run (r := r) u fl g c1 fun l hl hz x hx => bd l hl hz x r hx rfl
    obtain ⟨a1, a2⟩ := fl_adds (brR R (n : Int) (leavR (toldR ws) r.1 r.2)) B hB (pos_brR _ _ _)
    rw [pairs_run u fl g c1] at a1
    have e : itR (r :: t) = List.replicate r.2.toNat r.1 ++ itR t := rfl
    have cn : ((n + r.2.toNat : Nat) : Int) = (n : Int) + r.2 := by omega
    have told' : toldR (plA ws n (List.replicate r.2.toNat r.1)) = stepR (toldR ws) r.1 r.2 := by
      have nn : PosO (toldR ws) := by
        intro x hx
        cases ws with
        | nil => cases hx
        | cons y t =>
          cases hx
          show 1 ≤ (((y :: t).length : Nat) : Int)
          rw [List.length_cons]
          omega
      obtain ⟨c, hc⟩ : ∃ c : Nat, r.2.toNat = c + 1 := ⟨r.2.toNat - 1, by omega⟩
      rw [told_plA _ _ _ u, hc, it_step c _ _ nn, show (c : Int) + 1 = r.2 by omega]
    have ih := all_pairs t (plA ws n (List.replicate r.2.toNat r.1)) _ (n + r.2.toNat) _ (uni_plA _ _ _ u) h1 (by rw [cn]; exact h2) (fun x hx => k x (List.mem_cons_of_mem _ hx)) (fun i x y hx hy => alt (i + 1) x y hx hy) (fun l hl hz x r' hx hr' => by
      have ex := h3 l hl (by omega) x hx
      rw [ex]
      refine alt 0 r r' rfl ?_
      cases t with
      | nil => cases hr'
      | cons y s => exact hr') a2
    rw [cn, told', a1] at ih
    rw [e, psR_app, List.length_replicate, ← List.append_assoc]
    exact ih
theorem whole_pairs {rs : List Run} (k : ∀ r ∈ rs, 1 ≤ r.2) (a : Alt rs) : flB (blR rs) = psR [] 0 (itR rs) ∧ PosB (blR rs) := by
  obtain ⟨h1, h2⟩ := all_pairs rs [] [] 0 [] (fun x hx => by cases hx) rfl trivial k a (fun l hl => by cases hl) (fun x hx => by cases hx)
  exact ⟨h1, h2⟩
/-! ### every position once -/
theorem ps_perm : ∀ (ks : List Str) (ws : List Run) (n : Nat), ((psR ws n ks).map (·.1) ++ ((psR ws n ks).map (·.2) ++ psW (plA ws n ks))).Perm (psW ws ++ posL (n : Int) ks.length)
  | [], ws, n => by
    show (([] : List Int) ++ ([] ++ psW ws)).Perm (psW ws ++ [])
    rw [List.append_nil]
    exact .refl _
  | k :: t, ws, n => by
    have ih := ps_perm t (plS ws k n) (n + 1)
    have eL : posL (n : Int) (k :: t).length = (n : Int) :: posL ((n + 1 : Nat) : Int) t.length := rfl
    rw [eL]
    cases ws with
    | nil => exact ih
    | cons r u =>
      by_cases e : r.1 = k
      · have e1 : plS (r :: u) k n = (r :: u) ++ [(k, (n : Int))] := if_pos e
        have e2 : psR (r :: u) n (k :: t) = psR (plS (r :: u) k n) (n + 1) t := by
          show plP (r :: u) k n ++ _ = _
          rw [show plP (r :: u) k n = [] from if_pos e]
          rfl
        rw [e2]
        show (_ ++ (_ ++ psW (plA (plS (r :: u) k n) (n + 1) t))).Perm _
        have e3 : psW (plS (r :: u) k n) ++ posL ((n + 1 : Nat) : Int) t.length = psW (r :: u) ++ (n : Int) :: posL ((n + 1 : Nat) : Int) t.length := by
          rw [e1]
          unfold psW
          rw [List.map_append, List.append_assoc]
          rfl
        rw [← e3]
        exact ih
      · have e1 : plS (r :: u) k n = u := if_neg e
        have e2 : psR (r :: u) n (k :: t) = (r.2, (n : Int)) :: psR (plS (r :: u) k n) (n + 1) t := by
          show plP (r :: u) k n ++ _ = _
          rw [show plP (r :: u) k n = [(r.2, (n : Int))] from if_neg e]
          rfl
        rw [e2]
        show (_ ++ (_ ++ psW (plA (plS (r :: u) k n) (n + 1) t))).Perm _
        rw [e1] at ih ⊢
        rw [List.map_cons, List.map_cons]
        show (r.2 :: ((psR u (n + 1) t).map (·.1) ++ ((n : Int) :: ((psR u (n + 1) t).map (·.2) ++ psW (plA u (n + 1) t))))).Perm (r.2 :: (psW u ++ (n : Int) :: posL ((n + 1 : Nat) : Int) t.length))
        exact .cons _ (List.perm_middle.trans ((List.Perm.cons _ ih).trans List.perm_middle.symm))
theorem posL_ge : ∀ (n : Nat) (a : Int), ∀ x ∈ posL a n, a ≤ x ∧ x < a + (n : Int)
  | 0, _, x, h => by cases h
  | n + 1, a, x, h => by
    rcases List.mem_cons.mp (show x ∈ a :: posL (a + 1) n from h) with z | z
    · omega
    · have := posL_ge n (a + 1) x z
      omega
theorem posL_nodup : ∀ (n : Nat) (a : Int), (posL a n).Nodup
  | 0, _ => List.nodup_nil
  | n + 1, a => by
    refine List.nodup_cons.mpr ⟨fun h => ?_, posL_nodup n (a + 1)⟩
    have := posL_ge n (a + 1) a h
    omega
theorem ps_nodup (ks : List Str) : ((psR [] 0 ks).map (·.1) ++ ((psR [] 0 ks).map (·.2) ++ psW (plA [] 0 ks))).Nodup := by
  have h := ps_perm ks [] 0
  exact h.symm.nodup (posL_nodup _ _)
theorem ps_count (ks : List Str) : 2 * (psR [] 0 ks).length + (plA [] 0 ks).length = ks.length := by
  have h := (ps_perm ks [] 0).length_eq
  rw [List.length_append, List.length_append, List.length_map, List.length_map, List.length_append, posL_len] at h
  have e : (psW (plA [] 0 ks)).length = (plA [] 0 ks).length := List.length_map _
  have e2 : (psW ([] : List Run)).length = 0 := rfl
  omega
theorem ps_snd : ∀ (ks : List Str) (ws : List Run) (n : Nat), ∀ p ∈ psR ws n ks, (n : Int) ≤ p.2 ∧ p.2 < (n : Int) + (ks.length : Int)
  | [], _, _, p, h => by cases h
  | k :: t, ws, n, p, h => by
    rw [List.length_cons]
    rcases List.mem_append.mp (show p ∈ plP ws k n ++ psR (plS ws k n) (n + 1) t from h) with z | z
    · have e : p.2 = (n : Int) := by
        cases ws with
        | nil => cases z
        | cons r u =>
          have z : p ∈ (if r.1 = k then [] else [(r.2, (n : Int))]) := z
          by_cases c : r.1 = k
          · rw [if_pos c] at z
            cases z
          · rw [if_neg c] at z
            rw [List.mem_singleton.mp z]
      omega
    · have := ps_snd t _ (n + 1) p z
      omega
theorem ps_filter (ks : List Str) (m : Nat) (h : m ≤ ks.length) : (psR [] 0 ks).filter (fun p => decide (p.2 < (m : Int))) = psR [] 0 (ks.take m) := by
  have e : psR [] 0 ks = psR [] 0 (ks.take m) ++ psR (plA [] 0 (ks.take m)) m (ks.drop m) := by
    have := psR_app (ks.take m) (ks.drop m) [] 0
    rw [List.take_append_drop, List.length_take, Nat.zero_add, Nat.min_eq_left h] at this
    exact this
  rw [e, List.filter_append]
  have f1 : (psR [] 0 (ks.take m)).filter (fun p => decide (p.2 < (m : Int))) = psR [] 0 (ks.take m) := by
    refine List.filter_eq_self.mpr fun p hp => decide_eq_true ?_
    have := ps_snd _ _ _ p hp
    rw [List.length_take] at this
    omega
  have f2 : (psR (plA [] 0 (ks.take m)) m (ks.drop m)).filter (fun p => decide (p.2 < (m : Int))) = [] := by
    refine List.filter_eq_nil_iff.mpr fun p hp z => ?_
    have := ps_snd _ _ _ p hp
    have := of_decide_eq_true z
    omega
  rw [f1, f2, List.append_nil]
theorem map_inj {α β : Type} {f : α → β} : ∀ {l : List α}, (l.map f).Nodup → ∀ {a b : α}, a ∈ l → b ∈ l → f a = f b → a = b
  | x :: t, h, a, b, ha, hb, e => by
    have h := List.nodup_cons.mp (show (f x :: t.map f).Nodup from h)
    rcases List.mem_cons.mp ha with h1 | h1
    · rcases List.mem_cons.mp hb with h2 | h2
      · rw [h1, h2]
      · exact absurd (List.mem_map.mpr ⟨b, h2, by rw [← e, h1]⟩) h.1
    · rcases List.mem_cons.mp hb with h2 | h2
      · exact absurd (List.mem_map.mpr ⟨a, h1, by rw [e, h2]⟩) h.1
      · exact map_inj h.2 h1 h2 e
/-- each position stands in one pair at most -/
structure U (P : List Pr) : Prop where
  fst : ∀ p ∈ P, ∀ q ∈ P, p.1 = q.1 → p = q
  snd : ∀ p ∈ P, ∀ q ∈ P, p.2 = q.2 → p = q
  dis : ∀ p ∈ P, ∀ q ∈ P, p.1 ≠ q.2
theorem u_ps (ks : List Str) : U (psR [] 0 ks) := by
  have h := ps_nodup ks
  obtain ⟨h1, h2, h3⟩ := List.nodup_append.mp h
  obtain ⟨h4, _, _⟩ := List.nodup_append.mp h2
  refine ⟨fun p hp q hq e => map_inj h1 hp hq e, fun p hp q hq e => map_inj h4 hp hq e, fun p hp q hq e => ?_⟩
  exact h3 _ (List.mem_map.mpr ⟨p, hp, rfl⟩) _ (List.mem_append.mpr (.inl (List.mem_map.mpr ⟨q, hq, rfl⟩))) e
theorem mem_zp : ∀ (n : Nat) (a b : Int) (p : Pr), p ∈ zpL (posL a n) b ↔ a ≤ p.1 ∧ p.1 < a + (n : Int) ∧ p.2 = b + p.1 - a
  | 0, a, b, p => by
    constructor
    · intro h
      cases h
    · intro h
      omega
  | n + 1, a, b, p => by
    have ih := mem_zp n (a + 1) (b + 1) p
    show p ∈ (a, b) :: zpL (posL (a + 1) n) (b + 1) ↔ _
    rw [List.mem_cons, ih]
    constructor
    · rintro (h | h)
      · rw [h]
        show a ≤ a ∧ a < a + ((n + 1 : Nat) : Int) ∧ b = b + a - a
        omega
      · omega
    · intro h
      by_cases c : p.1 = a
      · exact .inl (Prod.ext c (by show p.2 = b; omega))
      · exact .inr (by omega)
theorem mem_fl {x : Blk} (h : 0 < x.2.2) (p : Pr) : p ∈ flX x ↔ x.1 ≤ p.1 ∧ p.1 < x.1 + x.2.2 ∧ p.2 = x.2.1 + p.1 - x.1 := by
  unfold flX
  rw [mem_zp, show ((x.2.2.toNat : Nat) : Int) = x.2.2 by omega]
theorem pg_first : ∀ (B : List Blk) (p : Pr), PosB B → U (flB B) → p ∈ flB B → pgR B p.1 = some p.2
  | [], p, _, _, h => by cases h
  | x :: t, p, hB, u, h => by
    have hx := hB x (List.mem_cons_self ..)
    have mx := mem_fl hx
    show (if x.1 ≤ p.1 ∧ p.1 < x.1 + x.2.2 then some (x.2.1 + p.1 - x.1) else if x.2.1 ≤ p.1 ∧ p.1 < x.2.1 + x.2.2 then some (x.1 + p.1 - x.2.1) else pgR t p.1) = _
    by_cases c1 : x.1 ≤ p.1 ∧ p.1 < x.1 + x.2.2
    · rw [if_pos c1]
      have m : ((p.1, x.2.1 + p.1 - x.1) : Pr) ∈ flB (x :: t) := List.mem_append.mpr (.inl ((mx _).mpr ⟨c1.1, c1.2, rfl⟩))
      rw [← u.fst _ m _ h rfl]
    · rw [if_neg c1]
      by_cases c2 : x.2.1 ≤ p.1 ∧ p.1 < x.2.1 + x.2.2
      · have m : ((x.1 + p.1 - x.2.1, p.1) : Pr) ∈ flB (x :: t) := List.mem_append.mpr (.inl ((mx _).mpr ⟨by show x.1 ≤ x.1 + p.1 - x.2.1; omega, by show x.1 + p.1 - x.2.1 < _; omega, by show p.1 = x.2.1 + (x.1 + p.1 - x.2.1) - x.1; omega⟩))
        exact absurd rfl (u.dis _ h _ m)
      · rw [if_neg c2]
        rcases List.mem_append.mp (show p ∈ flX x ++ flB t from h) with z | z
        · have := (mx p).mp z
          exact absurd ⟨this.1, this.2.1⟩ c1
        · exact pg_first t p (fun y hy => hB y (List.mem_cons_of_mem _ hy)) ⟨fun a ha b hb => u.fst a (List.mem_append.mpr (.inr ha)) b (List.mem_append.mpr (.inr hb)), fun a ha b hb => u.snd a (List.mem_append.mpr (.inr ha)) b (List.mem_append.mpr (.inr hb)), fun a ha b hb => u.dis a (List.mem_append.mpr (.inr ha)) b (List.mem_append.mpr (.inr hb))⟩ z
theorem pg_second : ∀ (B : List Blk) (p : Pr), PosB B → U (flB B) → p ∈ flB B → pgR B p.2 = some p.1
  | [], p, _, _, h => by cases h
  | x :: t, p, hB, u, h => by
    have hx := hB x (List.mem_cons_self ..)
    have mx := mem_fl hx
    show (if x.1 ≤ p.2 ∧ p.2 < x.1 + x.2.2 then some (x.2.1 + p.2 - x.1) else if x.2.1 ≤ p.2 ∧ p.2 < x.2.1 + x.2.2 then some (x.1 + p.2 - x.2.1) else pgR t p.2) = _
    by_cases c1 : x.1 ≤ p.2 ∧ p.2 < x.1 + x.2.2
    · have m : ((p.2, x.2.1 + p.2 - x.1) : Pr) ∈ flB (x :: t) := List.mem_append.mpr (.inl ((mx _).mpr ⟨c1.1, c1.2, rfl⟩))
      exact absurd rfl (u.dis _ m _ h)
    · rw [if_neg c1]
      by_cases c2 : x.2.1 ≤ p.2 ∧ p.2 < x.2.1 + x.2.2
      · have m : ((x.1 + p.2 - x.2.1, p.2) : Pr) ∈ flB (x :: t) := List.mem_append.mpr (.inl ((mx _).mpr ⟨by show x.1 ≤ x.1 + p.2 - x.2.1; omega, by show x.1 + p.2 - x.2.1 < _; omega, by show p.2 = x.2.1 + (x.1 + p.2 - x.2.1) - x.1; omega⟩))
        rw [if_pos c2, ← u.snd _ m _ h rfl]
      · rw [if_neg c2]
        rcases List.mem_append.mp (show p ∈ flX x ++ flB t from h) with z | z
        · have := (mx p).mp z
          exact absurd ⟨by omega, by omega⟩ c2
        · exact pg_second t p (fun y hy => hB y (List.mem_cons_of_mem _ hy)) ⟨fun a ha b hb => u.fst a (List.mem_append.mpr (.inr ha)) b (List.mem_append.mpr (.inr hb)), fun a ha b hb => u.snd a (List.mem_append.mpr (.inr ha)) b (List.mem_append.mpr (.inr hb)), fun a ha b hb => u.dis a (List.mem_append.mpr (.inr ha)) b (List.mem_append.mpr (.inr hb))⟩ z
theorem pg_none : ∀ (B : List Blk) (m : Int), PosB B → (∀ p ∈ flB B, p.1 ≠ m ∧ p.2 ≠ m) → pgR B m = none
  | [], _, _, _ => rfl
  | x :: t, m, hB, h => by
    have hx := hB x (List.mem_cons_self ..)
    have mx := mem_fl hx
    show (if x.1 ≤ m ∧ m < x.1 + x.2.2 then some (x.2.1 + m - x.1) else if x.2.1 ≤ m ∧ m < x.2.1 + x.2.2 then some (x.1 + m - x.2.1) else pgR t m) = _
    by_cases c1 : x.1 ≤ m ∧ m < x.1 + x.2.2
    · have := h ((m, x.2.1 + m - x.1) : Pr) (List.mem_append.mpr (.inl ((mx _).mpr ⟨c1.1, c1.2, rfl⟩)))
      exact absurd rfl this.1
    · rw [if_neg c1]
      by_cases c2 : x.2.1 ≤ m ∧ m < x.2.1 + x.2.2
      · have := h ((x.1 + m - x.2.1, m) : Pr) (List.mem_append.mpr (.inl ((mx _).mpr ⟨by show x.1 ≤ x.1 + m - x.2.1; omega, by show x.1 + m - x.2.1 < _; omega, by show m = x.2.1 + (x.1 + m - x.2.1) - x.1; omega⟩)))
        exact absurd rfl this.2
      · rw [if_neg c2]
        exact pg_none t m (fun y hy => hB y (List.mem_cons_of_mem _ hy)) fun p hp => h p (List.mem_append.mpr (.inr hp))
end UP

set_option Elab.async false
set_option linter.all false
set_option maxRecDepth 100000
set_option maxHeartbeats 4000000
namespace UP
open PySem PySem.Spec PyProof.Rows L2
/-! ### dicts of pairs -/
theorem merge_hit {k : Key} {v : V} : ∀ (kvs acc : List (Key × V)), (∀ kv ∈ kvs, kv.1 = k → kv.2 = v) → (valV acc k = some v ∨ ∃ kv ∈ kvs, kv.1 = k) → valV (mergeK acc kvs) k = some v
  | [], acc, _, h => by
    rcases h with h | ⟨_, h, _⟩
    · exact h
    · cases h
  | x :: t, acc, hv, h => by
    show valV (mergeK (putK acc x.1 x.2) t) k = some v
    refine merge_hit t _ (fun kv hkv => hv kv (List.mem_cons_of_mem _ hkv)) ?_
    rw [valV_put]
    by_cases e : k = x.1
    · rw [if_pos e]
      exact .inl (by rw [hv x (List.mem_cons_self ..) e.symm])
    · rw [if_neg e]
      rcases h with h | ⟨kv, h, ek⟩
      · exact .inl h
      · rcases List.mem_cons.mp h with z | z
        · rw [z] at ek
          exact absurd ek.symm e
        · exact .inr ⟨kv, z, ek⟩
theorem merge_miss {k : Key} : ∀ (kvs acc : List (Key × V)), (∀ kv ∈ kvs, kv.1 ≠ k) → valV (mergeK acc kvs) k = valV acc k
  | [], acc, _ => rfl
  | x :: t, acc, hv => by
    show valV (mergeK (putK acc x.1 x.2) t) k = _
    rw [merge_miss t _ fun kv hkv => hv kv (List.mem_cons_of_mem _ hkv), valV_put, if_neg fun z => hv x (List.mem_cons_self ..) z.symm]
def kvP (P : List Pr) : List (Key × V) := P.map (fun p => (Sum.inl p.1, V.int p.2)) ++ P.map (fun p => (Sum.inl p.2, V.int p.1))
theorem mem_kvP {P : List Pr} {kv : Key × V} (h : kv ∈ kvP P) : ∃ p ∈ P, kv = (Sum.inl p.1, V.int p.2) ∨ kv = (Sum.inl p.2, V.int p.1) := by
  rcases List.mem_append.mp h with z | z
  · obtain ⟨p, hp, e⟩ := List.mem_map.mp z
    exact ⟨p, hp, .inl e.symm⟩
  · obtain ⟨p, hp, e⟩ := List.mem_map.mp z
    exact ⟨p, hp, .inr e.symm⟩
theorem inlI {a b : Int} (h : (Sum.inl a : Key) = Sum.inl b) : a = b := Sum.inl.inj h
/-- what the dict of the pairs says of a position -/
theorem dict_pairs {B : List Blk} {P : List Pr} (m : Int) (hB : PosB B) (e : flB B = P) (u : U P) : (valV (mergeK [] (kvP P)) (Sum.inl m)).getD .non = oI (pgR B m) := by
  subst e
  by_cases h1 : ∃ p ∈ flB B, p.1 = m
  · obtain ⟨p, hp, em⟩ := h1
    rw [← em, pg_first B p hB u hp, merge_hit (v := .int p.2) (kvP (flB B)) [] (fun kv hkv ek => ?_) (.inr ⟨(Sum.inl p.1, V.int p.2), List.mem_append.mpr (.inl (List.mem_map.mpr ⟨p, hp, rfl⟩)), rfl⟩)]
    · rfl
    · obtain ⟨q, hq, z | z⟩ := mem_kvP hkv
      · rw [z] at ek
        rw [z, u.fst q hq p hp (inlI ek)]
      · rw [z] at ek
        exact absurd (inlI ek).symm (u.dis p hp q hq)
  · by_cases h2 : ∃ p ∈ flB B, p.2 = m
    · obtain ⟨p, hp, em⟩ := h2
      rw [← em, pg_second B p hB u hp, merge_hit (v := .int p.1) (kvP (flB B)) [] (fun kv hkv ek => ?_) (.inr ⟨(Sum.inl p.2, V.int p.1), List.mem_append.mpr (.inr (List.mem_map.mpr ⟨p, hp, rfl⟩)), rfl⟩)]
      · rfl
      · obtain ⟨q, hq, z | z⟩ := mem_kvP hkv
        · rw [z] at ek
          exact absurd (inlI ek) (u.dis q hq p hp)
        · rw [z] at ek
          rw [z, u.snd q hq p hp (inlI ek)]
    · have no : ∀ p ∈ flB B, p.1 ≠ m ∧ p.2 ≠ m := fun p hp => ⟨fun z => h1 ⟨p, hp, z⟩, fun z => h2 ⟨p, hp, z⟩⟩
      rw [pg_none B m hB no, merge_miss (kvP (flB B)) [] fun kv hkv ek => ?_]
      · rfl
      · obtain ⟨q, hq, z | z⟩ := mem_kvP hkv
        · rw [z] at ek
          exact (no q hq).1 (inlI ek)
        · rw [z] at ek
          exact (no q hq).2 (inlI ek)
/-! ### the number of pairs -/
def pcR (rs : List Run) (m : Int) : Int := (m - numR (stR (cutR 0 m 0 rs) none)) / 2
theorem pos_none : PosO none := fun r h => by cases h
theorem pc_at {rs : List Run} {m : Nat} (k : ∀ r ∈ rs, 1 ≤ r.2) (h : m ≤ (itR rs).length) : pcR rs (m : Int) = ((psR [] 0 ((itR rs).take m)).length : Int) := by
  have e1 := at_moment (m := m) pos_none k
  have e2 := ps_count ((itR rs).take m)
  rw [List.length_take, Nat.min_eq_left h] at e2
  unfold pcR
  rw [e1, told_len]
  show ((m : Int) - ((plA [] 0 ((itR rs).take m)).length : Int)) / 2 = _
  omega
theorem dt_int {H : Hp} {n : Nat} {i : Int} : Dt H n (.int i) (.int i) := by
  cases n with
  | zero => exact .inr (.inr (.inl ⟨_, rfl, rfl⟩))
  | succ m => exact .inl (.inr (.inr (.inl ⟨_, rfl, rfl⟩)))
theorem dt_oI {H : Hp} {n : Nat} (z : Option Int) : ∃ d, Dt H n (oI z) d := by
  cases z with
  | none =>
    cases n with
    | zero => exact ⟨_, .inl ⟨rfl, rfl⟩⟩
    | succ m => exact ⟨_, .inl (.inl ⟨rfl, rfl⟩)⟩
  | some i => exact ⟨_, dt_int⟩
theorem dt_two {H : Hp} {a : Addr} {i j : Int} (h : H a = some (.lst [.int i, .int j])) : Dt H 2 (.ref a) (.list [.int i, .int j]) := .inr (.inl ⟨a, _, _, rfl, h, rfl, .cons dt_int (.cons dt_int .nil), Nat.le_of_ble_eq_true rfl⟩)
section
variable {P : Program} {w : World} {K : PySem.W.Frag} {mg : Str → Option Value} {base : Heap}
/-! pair_count: slots 0:sequence 1:moment 2:runs 3:waiting -/
abbrev s_pair_count : Stmt := topS 45
theorem sc_pair_count : FnScope ["sequence", "moment", "runs", "waiting"] ["sequence", "moment"] (defScope s_pair_count) := ⟨rfl, rfl, rfl, by decide +kernel, rfl, by decide +kernel, by decide +kernel⟩
def sp_pair_count : Sp := fun vs H Q _ => ∃ (av : V) (rs : List Run) (mv : V) (m : Int), vs = [av, mv] ∧ RunsG H av rs ∧ SeqOk rs ∧ ((mv = .non ∧ m = lenR rs) ∨ mv = .int m) ∧ 0 ≤ m ∧ m ≤ lenR rs ∧ ∀ H', Same H H' → Q (.int (pcR rs m)) H'
theorem ok_pair_count (D : DfD K mg "pair_count" s_pair_count [.non]) (G_checked_runs : Has P w K mg base 5 "checked_runs" ["sequence"] sp_checked_runs) (G_length_of : Has P w K mg base 1 "length_of" ["runs"] sp_length_of) (G_check_moment : Has P w K mg base 3 "check_moment" ["runs", "moment"] sp_check_moment)
    (G_cut : Has P w K mg base 1 "cut" ["runs", "start", "length"] sp_cut) (G_state_after_runs : Has P w K mg base 3 "state_after_runs" ["runs", "state"] sp_state_after_runs) (G_waiting_number : Has P w K mg base 1 "waiting_number" ["state"] sp_waiting_number) :
    HasD P w K mg base 6 "pair_count" ["sequence", "moment"] 1 "moment" sp_pair_count := by
  refine has_ofD D sc_pair_count rfl (fun _ _ _ _ _ _ _ us its hl h1 => match us, hl, its, h1 with | [_, _], _, [_], _ => ⟨_, rfl, rfl⟩) (fun _ _ _ _ _ _ _ us its hl h1 => match us, hl, its, h1 with | [_], _, [_], _ => ⟨_, rfl, rfl⟩) (fun _ _ _ _ _ _ _ us its v hl h1 => match us, hl, its, h1 with | [_], _, [_], _ => ⟨_, rfl, rfl⟩) (fun vs H Q E h => ?_) (fun f cdv A outer s₀ H vs Q E hr h => ?_)
  · obtain ⟨a, rs, _, _, rfl, _⟩ := h
    rfl
  · obtain ⟨av, rs, mv, m, rfl, hR, ok, hm, m0, m1, q⟩ := h
    have l4 : rs.length ≤ 1000 := by have := ok.1; omega
    refine ⟨_, (pss_cons (ps_set (i := 2) sc_pair_count.nd rfl (by first | exact Or.inl rfl | exact Or.inr rfl) (pe_callH G_checked_runs (hr.mono (by omega)) (by rfl) (pa_cons (pv 0) pa_nil)))
    (C8.pss_cut (ps_if (pt_cmpR op_isN (pv 1) pe_non (nomark _)) (pss_one (ps_set (i := 1) sc_pair_count.nd rfl (by first | exact Or.inl rfl | exact Or.inr rfl) (pe_callH G_length_of (hr.mono (by omega)) (by rfl) (pa_cons (pv 2) pa_nil)))) pss_nil)
    (pss_cons (ps_expr (pe_callH G_check_moment (hr.mono (by omega)) (by rfl) (pa_cons (pv 2) (pa_cons (pv 1) pa_nil))))
    (pss_cons (ps_set (i := 3) sc_pair_count.nd rfl (by first | exact Or.inl rfl | exact Or.inr rfl) (pe_callH G_waiting_number (hr.mono (by omega)) (by rfl) (pa_cons (pe_callH G_state_after_runs (hr.mono (by omega)) (by rfl) (pa_cons (pe_callH G_cut (hr.mono (by omega)) (by rfl) (pa_cons (pv 2) (pa_cons pe_int (pa_cons (pv 1) pa_nil)))) (pa_cons pe_non pa_nil))) pa_nil)))
    (pss_one (ps_ret (pe_op op_fdiv (pe_op op_sub (pv 1) (pv 3)) pe_int))))))), ?_⟩
    refine ⟨_, rfl, av, rs, rfl, hR, ok, fun H1 p s1 np hp => ?_⟩
    refine ⟨fun σ' H' => σ' = [some av, some (.int m), some (.ref p), none] ∧ Same H1 H', ?_, fun σ' H2 hM => ?_⟩
    · rcases hm with ⟨rfl, rfl⟩ | rfl
      · exact ⟨_, rfl, rfl, _, rfl, iteP rfl ⟨_, rfl, p, rs, rfl, hp, l4, fun H2 s2 => ⟨rfl, s2⟩⟩⟩
      · exact ⟨_, rfl, rfl, _, rfl, iteN rfl ⟨rfl, Same.refl _⟩⟩
    · obtain ⟨rfl, s2⟩ := hM
      refine ⟨_, rfl, _, rfl, p, rs, m, rfl, hp.same s2, l4, m0, m1, fun H3 s3 => ?_⟩
      refine ⟨_, rfl, _, rfl, p, rs, 0, m, rfl, (hp.same s2).same s3, l4, fun H4 p4 s4 n4 h4 => ?_⟩
      rw [Int.zero_add] at h4
      refine ⟨p4, _, .non, none, rfl, h4, cutR_pos, rfl, fun H5 v5 s5 h5 => ⟨v5, _, rfl, h5, ?_⟩⟩
      exact ⟨_, rfl, _, rfl, _, _, rfl, rfl, _, _, rfl, rfl, ⟨by decide, by decide⟩, q _ (s1.trans (s2.trans (s3.trans (s4.trans s5))))⟩
end
end UP

set_option Elab.async false
set_option linter.all false
set_option maxRecDepth 100000
set_option maxHeartbeats 4000000
namespace UP
open PySem PySem.Spec PyProof.Rows L2
def cntB (B : List Blk) : Int := (B.map (·.2.2)).sum
theorem cntB_cons (x : Blk) (t : List Blk) : cntB (x :: t) = x.2.2 + cntB t := by
  unfold cntB
  rw [List.map_cons, List.sum_cons]
theorem zpL_len : ∀ (l : List Int) (b : Int), (zpL l b).length = l.length
  | [], _ => rfl
  | _ :: t, b => congrArg Nat.succ (zpL_len t (b + 1))
theorem flX_len (x : Blk) : (flX x).length = x.2.2.toNat := by
  unfold flX
  rw [zpL_len, posL_len]
theorem cnt_fl : ∀ (B : List Blk), PosB B → cntB B = ((flB B).length : Int)
  | [], _ => rfl
  | x :: t, h => by
    have hx := h x (List.mem_cons_self ..)
    rw [cntB_cons, cnt_fl t fun y hy => h y (List.mem_cons_of_mem _ hy)]
    show _ = ((flX x ++ flB t).length : Int)
    rw [List.length_append, flX_len]
    omega
theorem zp_get : ∀ (n : Nat) (a b : Int) (i : Nat), i < n → (zpL (posL a n) b)[i]? = some (a + (i : Int), b + (i : Int))
  | 0, _, _, _, h => by omega
  | n + 1, a, b, 0, _ => by
    show some (a, b) = _
    rw [show a + ((0 : Nat) : Int) = a by omega, show b + ((0 : Nat) : Int) = b by omega]
  | n + 1, a, b, i + 1, h => by
    show (zpL (posL (a + 1) n) (b + 1))[i]? = _
    rw [zp_get n (a + 1) (b + 1) i (by omega), show a + 1 + (i : Int) = a + ((i + 1 : Nat) : Int) by omega, show b + 1 + (i : Int) = b + ((i + 1 : Nat) : Int) by omega]
section
variable {P : Program} {w : World} {K : PySem.W.Frag} {mg : Str → Option Value} {base : Heap}
end
end UP

set_option Elab.async false
set_option linter.all false
set_option maxRecDepth 100000
set_option maxHeartbeats 4000000
namespace UP
open PySem PySem.Spec PyProof.Rows L2
/-! ### blocks, pair by pair -/
def addU (B : List Blk) (P : List Pr) : List Blk := P.foldl (fun F p => addB F (p.1, p.2, 1)) B
theorem addB_nil (x : Blk) : addB [] x = [x] := rfl
theorem addB_join {B : List Blk} {l x : Blk} (h : l.1 + l.2.2 = x.1 ∧ l.2.1 + l.2.2 = x.2.1) : addB (B ++ [l]) x = B ++ [(l.1, l.2.1, l.2.2 + x.2.2)] := by
  unfold addB
  rw [List.getLast?_concat, List.dropLast_concat]
  exact if_pos h
theorem addB_new {B : List Blk} {l x : Blk} (h : ¬ (l.1 + l.2.2 = x.1 ∧ l.2.1 + l.2.2 = x.2.1)) : addB (B ++ [l]) x = (B ++ [l]) ++ [x] := by
  unfold addB
  rw [List.getLast?_concat]
  exact if_neg h
theorem add_add (B : List Blk) (a b k : Int) : addB (addB B (a, b, 1)) (a + 1, b + 1, k) = addB B (a, b, 1 + k) := by
  rcases shaped_not (B := B) with e | ⟨B0, l, e⟩
  · subst e
    exact addB_join (B := []) (l := (a, b, 1)) ⟨rfl, rfl⟩
  · subst e
    by_cases c : l.1 + l.2.2 = a ∧ l.2.1 + l.2.2 = b
    · rw [addB_join (x := (a, b, 1)) c, addB_join (x := (a, b, 1 + k)) c, addB_join (x := (a + 1, b + 1, k)) ⟨by show l.1 + (l.2.2 + 1) = a + 1; omega, by show l.2.1 + (l.2.2 + 1) = b + 1; omega⟩]
      show B0 ++ [(l.1, l.2.1, l.2.2 + 1 + k)] = B0 ++ [(l.1, l.2.1, l.2.2 + (1 + k))]
      rw [Int.add_assoc]
    · rw [addB_new (x := (a, b, 1)) c, addB_new (x := (a, b, 1 + k)) c]
      exact addB_join (B := B0 ++ [l]) (l := (a, b, 1)) ⟨rfl, rfl⟩
theorem unit_add : ∀ (c : Nat) (a b : Int) (B : List Blk), addU B (zpL (posL a (c + 1)) b) = addB B (a, b, (c : Int) + 1)
  | 0, a, b, B => rfl
  | c + 1, a, b, B => by
    show addU (addB B (a, b, 1)) (zpL (posL (a + 1) (c + 1)) (b + 1)) = _
    rw [unit_add c, add_add, show (1 : Int) + ((c : Int) + 1) = ((c + 1 : Nat) : Int) + 1 by omega]
theorem addU_app (B : List Blk) (P Q : List Pr) : addU B (P ++ Q) = addU (addU B P) Q := List.foldl_append ..
theorem adds_units : ∀ (xs B : List Blk), PosB xs → addsB B xs = addU B (flB xs)
  | [], _, _ => rfl
  | x :: t, B, h => by
    have hx := h x (List.mem_cons_self ..)
    obtain ⟨c, hc⟩ : ∃ c : Nat, x.2.2.toNat = c + 1 := ⟨x.2.2.toNat - 1, by omega⟩
    show addsB (addB B x) t = addU B (flX x ++ flB t)
    rw [addU_app, adds_units t _ fun y hy => h y (List.mem_cons_of_mem _ hy)]
    congr 1
    unfold flX
    rw [hc, unit_add, show (c : Int) + 1 = x.2.2 by omega]
theorem all_units : ∀ (rs : List Run) (ws : List Run) (R : List Rg) (n : Nat) (B : List Blk), Uni ws → flR R = psW ws → Gd R (n : Int) → (∀ r ∈ rs, 1 ≤ r.2) → Alt rs → (∀ l, R.getLast? = some l → l.2 = (n : Int) - 1 → ∀ x r, toldR ws = some x → rs.head? = some r → x.1 ≠ r.1) →
    boR rs (toldR ws) (n : Int) R B = addU B (psR ws n (itR rs))
  | [], ws, R, n, B, _, _, _, _, _, _ => rfl
  | r :: t, ws, R, n, B, u, fl, g, k, alt, bd => by
    have c1 := k r (List.mem_cons_self ..)
    obtain ⟨h1, h2, h3⟩ := one_run (r := r) u fl g c1 fun l hl hz x hx => bd l hl hz x r hx rfl
    have a1 := adds_units (brR R (n : Int) (leavR (toldR ws) r.1 r.2)) B (pos_brR _ _ _)
    rw [pairs_run u fl g c1] at a1
    have e : itR (r :: t) = List.replicate r.2.toNat r.1 ++ itR t := rfl
    have cn : ((n + r.2.toNat : Nat) : Int) = (n : Int) + r.2 := by omega
    have told' : toldR (plA ws n (List.replicate r.2.toNat r.1)) = stepR (toldR ws) r.1 r.2 := by
      have nn : PosO (toldR ws) := by
        intro x hx
        cases ws with
        | nil => cases hx
        | cons y t =>
          cases hx
          show 1 ≤ (((y :: t).length : Nat) : Int)
          rw [List.length_cons]
          omega
      obtain ⟨c, hc⟩ : ∃ c : Nat, r.2.toNat = c + 1 := ⟨r.2.toNat - 1, by omega⟩
      rw [told_plA _ _ _ u, hc, it_step c _ _ nn, show (c : Int) + 1 = r.2 by omega]
    have ih := all_units t (plA ws n (List.replicate r.2.toNat r.1)) _ (n + r.2.toNat) (addsB B (brR R (n : Int) (leavR (toldR ws) r.1 r.2))) (uni_plA _ _ _ u) h1 (by rw [cn]; exact h2) (fun x hx => k x (List.mem_cons_of_mem _ hx)) (fun i x y hx hy => alt (i + 1) x y hx hy) (fun l hl hz x r' hx hr' => by
      have ex := h3 l hl (by omega) x hx
      rw [ex]
      refine alt 0 r r' rfl ?_
      cases t with
      | nil => cases hr'
      | cons y s => exact hr')
    rw [cn, told'] at ih
    rw [e, psR_app, List.length_replicate, addU_app, ← a1]
    exact ih
theorem whole_units {rs : List Run} (k : ∀ r ∈ rs, 1 ≤ r.2) (a : Alt rs) : blR rs = addU [] (psR [] 0 (itR rs)) :=
  all_units rs [] [] 0 [] (fun x hx => by cases hx) rfl trivial k a (fun l hl => by cases hl)
/-! ### all counts multiplied -/
def scX (t : Int) (x : Blk) : Blk := (x.1 * t, x.2.1 * t, x.2.2 * t)
def scB (t : Int) (B : List Blk) : List Blk := B.map (scX t)
theorem eq_sc {a b t : Int} (ht : 0 < t) : a * t = b * t ↔ a = b :=
  ⟨fun z => Int.le_antisymm ((le_sc ht).mp (by omega)) ((le_sc ht).mp (by omega)), fun z => by rw [z]⟩
theorem addB_sc {t : Int} (ht : 0 < t) (B : List Blk) (x : Blk) : addB (scB t B) (scX t x) = scB t (addB B x) := by
  rcases shaped_not (B := B) with e | ⟨B0, l, e⟩
  · subst e
    rfl
  · subst e
    have e1 : scB t (B0 ++ [l]) = scB t B0 ++ [scX t l] := List.map_append ..
    rw [e1]
    have i1 : (scX t l).1 + (scX t l).2.2 = (scX t x).1 ↔ l.1 + l.2.2 = x.1 := by
      show l.1 * t + l.2.2 * t = x.1 * t ↔ _
      rw [← Int.add_mul]
      exact eq_sc ht
    have i2 : (scX t l).2.1 + (scX t l).2.2 = (scX t x).2.1 ↔ l.2.1 + l.2.2 = x.2.1 := by
      show l.2.1 * t + l.2.2 * t = x.2.1 * t ↔ _
      rw [← Int.add_mul]
      exact eq_sc ht
    by_cases c : l.1 + l.2.2 = x.1 ∧ l.2.1 + l.2.2 = x.2.1
    · rw [addB_join c, addB_join ⟨i1.mpr c.1, i2.mpr c.2⟩]
      show _ = List.map (scX t) (B0 ++ [_])
      rw [List.map_append]
      show scB t B0 ++ [(l.1 * t, l.2.1 * t, l.2.2 * t + x.2.2 * t)] = scB t B0 ++ [(l.1 * t, l.2.1 * t, (l.2.2 + x.2.2) * t)]
      rw [Int.add_mul]
    · rw [addB_new c, addB_new fun z => c ⟨i1.mp z.1, i2.mp z.2⟩]
      show _ = List.map (scX t) ((B0 ++ [l]) ++ [x])
      rw [List.map_append, List.map_append]
      rfl
theorem adds_sc {t : Int} (ht : 0 < t) : ∀ (xs B : List Blk), addsB (scB t B) (scB t xs) = scB t (addsB B xs)
  | [], _ => rfl
  | x :: u, B => by
    show addsB (addB (scB t B) (scX t x)) (scB t u) = scB t (addsB (addB B x) u)
    rw [addB_sc ht, adds_sc ht u]
theorem brP_sc {t : Int} (ht : 0 < t) (p : Rg) (b n : Int) : brP (p.1 * t, p.2 * t + t - 1) (b * t) (n * t) = scB t (brP p b n) := by
  unfold brP
  rw [rm_sc ht]
  by_cases c : 0 < rmR p n
  · rw [if_pos c, if_pos ((pos_sc ht).mpr c)]
    rfl
  · rw [if_neg c, if_neg fun z => c ((pos_sc ht).mp z)]
    rfl
theorem brR_sc {t : Int} (ht : 0 < t) : ∀ (R : List Rg) (b n : Int), brR (scP t R) (b * t) (n * t) = scB t (brR R b n)
  | [], _, _ => rfl
  | p :: u, b, n => by
    show brP (p.1 * t, p.2 * t + t - 1) (b * t) (n * t) ++ brR (scP t u) (b * t + rmR (p.1 * t, p.2 * t + t - 1) (n * t)) (n * t - rmR (p.1 * t, p.2 * t + t - 1) (n * t)) = List.map (scX t) (brP p b n ++ brR u (b + rmR p n) (n - rmR p n))
    rw [brP_sc ht, rm_sc ht, ← Int.sub_mul, ← Int.add_mul, brR_sc ht u, List.map_append]
    rfl
theorem boR_sc {t : Int} (ht : 0 < t) : ∀ (rs : List Run) (st : Option Run) (b : Int) (R : List Rg) (B : List Blk), boR (scR t rs) (scO t st) (b * t) (scP t R) (scB t B) = scB t (boR rs st b R B)
  | [], _, _, _, _ => rfl
  | r :: u, st, b, R, B => by
    show boR (scR t u) (stepR (scO t st) r.1 (r.2 * t)) (b * t + r.2 * t) (wfR (scP t R) (leavR (scO t st) r.1 (r.2 * t)) ++ adP (scO t st) (b * t) (r.1, r.2 * t)) (addsB (scB t B) (brR (scP t R) (b * t) (leavR (scO t st) r.1 (r.2 * t)))) = scB t (boR u (stepR st r.1 r.2) (b + r.2) (wfR R (leavR st r.1 r.2) ++ adP st b r) (addsB B (brR R b (leavR st r.1 r.2))))
    rw [step_sc ht, ← Int.add_mul, leav_sc ht, wfR_sc ht, adP_sc ht, brR_sc ht, adds_sc ht]
    have e : scP t (wfR R (leavR st r.1 r.2)) ++ scP t (adP st b r) = scP t (wfR R (leavR st r.1 r.2) ++ adP st b r) := by
      unfold scP
      rw [List.map_append]
    rw [e, boR_sc ht u]
theorem blR_sc {t : Int} (ht : 0 < t) (rs : List Run) : blR (scR t rs) = scB t (blR rs) := by
  have := boR_sc ht rs none 0 [] []
  rw [Int.zero_mul] at this
  exact this
/-- the blocks of multiplied pairs -/
def lbR (t : Int) (P : List Pr) : List Blk := P.foldl (fun F p => addB F (p.1 * t, p.2 * t, t)) []
theorem lbR_snoc (t : Int) (P : List Pr) (p : Pr) : lbR t (P ++ [p]) = addB (lbR t P) (p.1 * t, p.2 * t, t) := by
  unfold lbR
  rw [List.foldl_append]
  rfl
theorem lbR_sc {t : Int} (ht : 0 < t) (P : List Pr) : lbR t P = scB t (addU [] P) := by
  have gen : ∀ (P : List Pr) (F : List Blk), P.foldl (fun F p => addB F (p.1 * t, p.2 * t, t)) (scB t F) = scB t (addU F P) := by
    intro P
    induction P with
    | nil => intro F; rfl
    | cons p u ih =>
      intro F
      have e := addB_sc ht F (p.1, p.2, 1)
      have e2 : scX t (p.1, p.2, 1) = (p.1 * t, p.2 * t, t) := by
        show (p.1 * t, p.2 * t, 1 * t) = _
        rw [Int.one_mul]
      rw [e2] at e
      show u.foldl (fun F p => addB F (p.1 * t, p.2 * t, t)) (addB (scB t F) (p.1 * t, p.2 * t, t)) = scB t (addU (addB F (p.1, p.2, 1)) u)
      rw [e, ih]
  exact gen P []
theorem lbR_len (t : Int) (P : List Pr) : (lbR t P).length ≤ P.length := by
  have gen : ∀ (P : List Pr) (F : List Blk), (P.foldl (fun F p => addB F (p.1 * t, p.2 * t, t)) F).length ≤ F.length + P.length := by
    intro P
    induction P with
    | nil => intro F; exact Nat.le_refl _
    | cons p u ih =>
      intro F
      have h1 := ih (addB F (p.1 * t, p.2 * t, t))
      have h2 := addB_len F (p.1 * t, p.2 * t, t)
      show (u.foldl (fun F p => addB F (p.1 * t, p.2 * t, t)) (addB F (p.1 * t, p.2 * t, t))).length ≤ _
      rw [List.length_cons]
      omega
  have := gen P []
  rw [List.length_nil, Nat.zero_add] at this
  exact this
theorem lbR_pos {t : Int} (ht : 0 < t) (P : List Pr) : PosB (lbR t P) := by
  have gen : ∀ (P : List Pr) (F : List Blk), PosB F → PosB (P.foldl (fun F p => addB F (p.1 * t, p.2 * t, t)) F) := by
    intro P
    induction P with
    | nil => intro F h; exact h
    | cons p u ih =>
      intro F h
      exact ih _ (fl_add (x := (p.1 * t, p.2 * t, t)) h ht).2
  exact gen P [] (fun x h => by cases h)
theorem whole_lb {rs : List Run} {t : Int} (ht : 0 < t) (k : ∀ r ∈ rs, 1 ≤ r.2) (a : Alt rs) : blR (scR t rs) = lbR t (psR [] 0 (itR rs)) := by
  rw [blR_sc ht, whole_units k a, lbR_sc ht]
/-! ### pairs of a multiplied sequence -/
def exP (t : Int) (P : List Pr) : List Pr := P.flatMap fun p => zpL (posL (p.1 * t) t.toNat) (p.2 * t)
theorem exP_cons (t : Int) (p : Pr) (P : List Pr) : exP t (p :: P) = zpL (posL (p.1 * t) t.toNat) (p.2 * t) ++ exP t P := rfl
theorem exP_app (t : Int) (P Q : List Pr) : exP t (P ++ Q) = exP t P ++ exP t Q := List.flatMap_append ..
theorem ex_zp {t : Int} (ht : 0 < t) : ∀ (c : Nat) (a b : Int), exP t (zpL (posL a c) b) = zpL (posL (a * t) (c * t.toNat)) (b * t)
  | 0, a, b => by
    rw [Nat.zero_mul]
    rfl
  | c + 1, a, b => by
    show zpL (posL (a * t) t.toNat) (b * t) ++ exP t (zpL (posL (a + 1) c) (b + 1)) = _
    rw [ex_zp ht c, Nat.succ_mul, Nat.add_comm, posL_app, zpL_app, posL_len, Int.add_mul, Int.add_mul, Int.one_mul, show ((t.toNat : Nat) : Int) = t by omega]
theorem fl_sc {t : Int} (ht : 0 < t) : ∀ (B : List Blk), PosB B → flB (scB t B) = exP t (flB B)
  | [], _ => rfl
  | x :: u, h => by
    have hx := h x (List.mem_cons_self ..)
    show flX (scX t x) ++ flB (scB t u) = exP t (flX x ++ flB u)
    rw [exP_app, fl_sc ht u fun y hy => h y (List.mem_cons_of_mem _ hy)]
    congr 1
    unfold flX
    rw [ex_zp ht]
    show zpL (posL (x.1 * t) (x.2.2 * t).toNat) (x.2.1 * t) = _
    rw [Int.toNat_mul (by omega) (by omega)]
theorem ex_len {t : Int} (P : List Pr) : (exP t P).length = P.length * t.toNat := by
  induction P with
  | nil => rw [List.length_nil, Nat.zero_mul]; rfl
  | cons p u ih => rw [exP_cons, List.length_append, ih, zpL_len, posL_len, List.length_cons, Nat.succ_mul, Nat.add_comm]
theorem ex_get {t : Int} : ∀ (P : List Pr) (i r : Nat) (p : Pr), P[i]? = some p → r < t.toNat → (exP t P)[i * t.toNat + r]? = some (p.1 * t + (r : Int), p.2 * t + (r : Int))
  | [], _, _, _, h, _ => by simp at h
  | x :: u, 0, r, p, h, hr => by
    have e : x = p := Option.some.inj h
    subst e
    rw [Nat.zero_mul, Nat.zero_add, exP_cons, List.getElem?_append_left (by rw [zpL_len, posL_len]; exact hr), zp_get _ _ _ _ hr]
  | x :: u, i + 1, r, p, h, hr => by
    have h : u[i]? = some p := h
    rw [exP_cons, List.getElem?_append_right (by rw [zpL_len, posL_len, Nat.succ_mul]; omega), zpL_len, posL_len, Nat.succ_mul, show i * t.toNat + t.toNat + r - t.toNat = i * t.toNat + r by omega]
    exact ex_get u i r p h hr
theorem ex_mem {t : Int} (ht : 0 < t) {P : List Pr} {q : Pr} (h : q ∈ exP t P) : ∃ p ∈ P, ∃ j : Int, 0 ≤ j ∧ j < t ∧ q = (p.1 * t + j, p.2 * t + j) := by
  obtain ⟨p, hp, hq⟩ := List.mem_flatMap.mp h
  have := (mem_zp _ _ _ q).mp hq
  rw [show ((t.toNat : Nat) : Int) = t by omega] at this
  exact ⟨p, hp, q.1 - p.1 * t, by omega, by omega, Prod.ext (by show q.1 = p.1 * t + (q.1 - p.1 * t); omega) (by show q.2 = p.2 * t + (q.1 - p.1 * t); omega)⟩
theorem same_item {a b j r t : Int} (ht : 0 < t) (j0 : 0 ≤ j) (j1 : j < t) (r0 : 0 ≤ r) (r1 : r < t) (e : a * t + j = b * t + r) : a = b := by
  rcases Int.lt_trichotomy a b with c | c | c
  · have := (le_sc (a := a + 1) (b := b) ht).mpr (by omega)
    rw [Int.add_mul, Int.one_mul] at this
    omega
  · exact c
  · have := (le_sc (a := b + 1) (b := a) ht).mpr (by omega)
    rw [Int.add_mul, Int.one_mul] at this
    omega
theorem ps_sorted : ∀ (ks : List Str) (ws : List Run) (n : Nat), (psR ws n ks).Pairwise fun p q => p.2 < q.2
  | [], _, _ => List.Pairwise.nil
  | k :: t, ws, n => by
    show (plP ws k n ++ psR (plS ws k n) (n + 1) t).Pairwise _
    have ih := ps_sorted t (plS ws k n) (n + 1)
    have bd := ps_snd t (plS ws k n) (n + 1)
    cases ws with
    | nil => exact ih
    | cons r u =>
      by_cases c : r.1 = k
      · rw [show plP (r :: u) k n = [] from if_pos c]
        exact ih
      · rw [show plP (r :: u) k n = [(r.2, (n : Int))] from if_neg c]
        refine List.Pairwise.cons (fun q hq => ?_) ih
        have := bd q hq
        show (n : Int) < q.2
        omega
theorem sorted_at : ∀ {P : List Pr} {k : Nat} {p : Pr}, P.Pairwise (fun p q => p.2 < q.2) → P[k]? = some p → (P.filter fun q => decide (q.2 < p.2)).length = k
  | x :: t, 0, p, h, e => by
    have e : x = p := Option.some.inj e
    subst e
    have h := List.pairwise_cons.mp h
    rw [List.length_eq_zero_iff, List.filter_eq_nil_iff]
    intro q hq z
    have z := of_decide_eq_true z
    rcases List.mem_cons.mp hq with w | w
    · rw [w] at z
      omega
    · have := h.1 q w
      omega
  | x :: t, k + 1, p, h, e => by
    have e : t[k]? = some p := e
    have h := List.pairwise_cons.mp h
    have lt := h.1 p (List.mem_of_getElem? e)
    rw [List.filter_cons, if_pos (decide_eq_true lt), List.length_cons, sorted_at h.2 e]
theorem scR_pos {t : Int} {rs : List Run} (t1 : 1 ≤ t) (k : ∀ r ∈ rs, 1 ≤ r.2) : ∀ r ∈ scR t rs, 1 ≤ r.2 := by
  intro r hr
  obtain ⟨x, hx, rfl⟩ := List.mem_map.mp hr
  have c1 := k x hx
  show 1 ≤ x.2 * t
  have := Int.mul_le_mul c1 t1 (by decide) (by omega)
  omega
theorem scR_alt {t : Int} {rs : List Run} (a : Alt rs) : Alt (scR t rs) := by
  intro i x y hx hy
  unfold scR at hx hy
  rw [List.getElem?_map] at hx hy
  cases e1 : rs[i]? with
  | none => rw [e1] at hx; cases hx
  | some a' =>
    cases e2 : rs[i + 1]? with
    | none => rw [e2] at hy; cases hy
    | some b' =>
      rw [e1] at hx
      rw [e2] at hy
      cases hx
      cases hy
      exact a i a' b' e1 e2
/-- all that is told of a multiplied sequence's pairs -/
structure Mul (t : Int) (rs : List Run) : Prop where
  lb : blR (scR t rs) = lbR t (psR [] 0 (itR rs))
  fl : flB (blR (scR t rs)) = exP t (psR [] 0 (itR rs))
  ps : psR [] 0 (itR (scR t rs)) = exP t (psR [] 0 (itR rs))
  pb : PosB (blR (scR t rs))
theorem mul_of {t : Int} {rs : List Run} (t1 : 1 ≤ t) (k : ∀ r ∈ rs, 1 ≤ r.2) (a : Alt rs) : Mul t rs := by
  have ht : 0 < t := by omega
  obtain ⟨w1, w2⟩ := whole_pairs k a
  obtain ⟨v1, v2⟩ := whole_pairs (scR_pos t1 k) (scR_alt (t := t) a)
  have f : flB (blR (scR t rs)) = exP t (psR [] 0 (itR rs)) := by rw [blR_sc ht, fl_sc ht _ w2, w1]
  exact ⟨whole_lb ht k a, f, by rw [← v1, f], v2⟩
theorem pc_count {rs : List Run} {k : Nat} {p : Pr} (pos : ∀ r ∈ rs, 1 ≤ r.2) (h : (psR [] 0 (itR rs))[k]? = some p) : 0 ≤ p.2 ∧ p.2 < lenR rs ∧ pcR rs p.2 = (k : Int) := by
  have b := ps_snd _ _ _ p (List.mem_of_getElem? h)
  have l := len_it rs pos
  have pm : ((p.2.toNat : Nat) : Int) = p.2 := by omega
  have e1 := pc_at (m := p.2.toNat) pos (by omega)
  rw [pm] at e1
  refine ⟨by omega, by omega, ?_⟩
  rw [e1, ← ps_filter _ _ (by omega), pm, sorted_at (ps_sorted _ _ _) h]
theorem pair_in {rs : List Run} {p : Pr} (pos : ∀ r ∈ rs, 1 ≤ r.2) (h : p ∈ psR [] 0 (itR rs)) : 0 ≤ p.1 ∧ p.1 < lenR rs ∧ 0 ≤ p.2 ∧ p.2 < lenR rs := by
  have l := len_it rs pos
  have pm := ps_perm (itR rs) [] 0
  have b1 := posL_ge _ _ p.1 (pm.mem_iff.mp (List.mem_append.mpr (.inl (List.mem_map.mpr ⟨p, h, rfl⟩))))
  have b2 := posL_ge _ _ p.2 (pm.mem_iff.mp (List.mem_append.mpr (.inr (List.mem_append.mpr (.inl (List.mem_map.mpr ⟨p, h, rfl⟩))))))
  omega
theorem wait_in {rs : List Run} {r : Run} (pos : ∀ r ∈ rs, 1 ≤ r.2) (h : r ∈ plA [] 0 (itR rs)) : 0 ≤ r.2 ∧ r.2 < lenR rs ∧ ∀ p ∈ psR [] 0 (itR rs), p.1 ≠ r.2 ∧ p.2 ≠ r.2 := by
  have l := len_it rs pos
  have pm := ps_perm (itR rs) [] 0
  have hr : r.2 ∈ psW (plA [] 0 (itR rs)) := List.mem_map.mpr ⟨r, h, rfl⟩
  have b1 := posL_ge _ _ r.2 (pm.mem_iff.mp (List.mem_append.mpr (.inr (List.mem_append.mpr (.inr hr)))))
  refine ⟨by omega, by omega, fun p hp => ?_⟩
  obtain ⟨_, h2, h3⟩ := List.nodup_append.mp (ps_nodup (itR rs))
  obtain ⟨_, _, h6⟩ := List.nodup_append.mp h2
  exact ⟨h3 _ (List.mem_map.mpr ⟨p, hp, rfl⟩) _ (List.mem_append.mpr (.inr hr)), h6 _ (List.mem_map.mpr ⟨p, hp, rfl⟩) _ hr⟩
end UP

set_option Elab.async false
set_option linter.all false
set_option maxRecDepth 100000
set_option maxHeartbeats 4000000
namespace UP
open PySem PySem.Spec PyProof.Rows L2
/-! ### the stream -/
def SM (H : Hp) (st : Addr) : Prop := ∃ d s : Int, H st = some (.lst [.int d, .int s]) ∧ 0 ≤ d ∧ 0 ≤ s ∧ s < 2147483647
theorem SM.same {H H' : Hp} {st : Addr} (s : Same H H') (h : SM H st) : SM H' st := by
  obtain ⟨d, c, e, r⟩ := h
  exact ⟨d, c, s _ _ e, r⟩
theorem SM.ne {H : Hp} {st p : Addr} (z : SM H st) (h : H p = none) : p ≠ st := by
  obtain ⟨_, _, e, _⟩ := z
  exact (ne_of_none e h).symm
theorem Runs.butM {H H' : Hp} {st a : Addr} {rs : List Run} (z : SM H st) (s : But st H H') (h : Runs H a rs) : Runs H' a rs := by
  obtain ⟨xs, e, p⟩ := h
  obtain ⟨d, c, hs, _⟩ := z
  refine ⟨xs, s _ _ (ne_of e hs fun q => ?_) e, Paired.imp (fun v r w => ?_) p⟩
  · have q := HO.lst.inj q
    subst q
    cases p with
    | cons h _ =>
      obtain ⟨t, e, _⟩ := h
      cases e
  · obtain ⟨t, e, h⟩ := w
    exact ⟨t, e, s _ _ (ne_of h hs (by intro q; cases q)) h⟩
theorem at2a {α : Type} {x y : α} : atI [x, y] 0 = some x := rfl
theorem at2b {α : Type} {x y : α} : atI [x, y] 1 = some y := rfl
theorem p18 : (10 : Int) ^ ((18 : Int).toNat) = 1000000000000000000 := by decide +kernel
theorem p29 : (10 : Int) ^ ((29 : Int).toNat) = 100000000000000000000000000000 := by decide +kernel
section
variable {P : Program} {w : World} {K : PySem.W.Frag} {mg : Str → Option Value} {base : Heap}
/-! _law_stream: slots 0:cell 1:k -/
abbrev s_law_stream : Stmt := topS 49
theorem sc_law_stream : FnScope ["cell", "k"] ["cell", "k"] (defScope s_law_stream) := ⟨rfl, rfl, rfl, by decide +kernel, rfl, by decide +kernel, by decide +kernel⟩
def sp_law_stream : Sp := fun vs H Q _ => ∃ (c : Int) (k : Nat), vs = [.int c, .int (k : Int)] ∧ k ≤ 100 ∧ ∀ H' p, Same H H' → H p = none → SM H' p → Q (.ref p) H'
theorem ok_law_stream (D : Df K mg "_law_stream" s_law_stream) (T : Tx mg) : Has P w K mg base 1 "_law_stream" ["cell", "k"] sp_law_stream := by
  refine has_of D sc_law_stream (fun _ _ _ _ _ _ us hl => match us, hl with | [_, _], _ => rfl) (fun vs H Q E h => ?_) (fun f cdv A outer s H vs Q E hr h => ?_)
  · obtain ⟨_, _, rfl, _⟩ := h
    rfl
  · obtain ⟨c, k, rfl, hk, q⟩ := h
    refine ⟨_, (pss_one (ps_ret (pe_lst (pa_cons (pe_callB call_abs (by rfl) T.n_abs (by decide +kernel) (pa_cons (pv 0) pa_nil)) (pa_cons (pe_op op_mod (pe_op op_mul (pe_op op_add (pe_op op_mod (pe_callB call_abs (by rfl) T.n_abs (by decide +kernel) (pa_cons (pv 0) pa_nil)) pe_int) pe_int) (pe_op op_add (pe_op op_mul pe_int (pv 1)) pe_int)) pe_int) pa_nil))))), ?_⟩
    have a0 : 0 ≤ (if c < 0 then -c else c) := by split <;> omega
    have m0 := Int.emod_nonneg (if c < 0 then -c else c) (show (2147483629 : Int) ≠ 0 by decide)
    have m1 := Int.emod_lt_of_pos (if c < 0 then -c else c) (show (0 : Int) < 2147483629 by decide)
    refine ⟨_, rfl, _, rfl, _, rfl, _, rfl, _, _, rfl, rfl, (by show (0 : Int) < 2147483629; decide), _, _, rfl, rfl, _, rfl, _, _, rfl, rfl, .inl ⟨by decide, by decide⟩, _, _, rfl, rfl, _, _, rfl, rfl, .inl ⟨?_, ?_⟩, _, _, rfl, rfl, (by show (0 : Int) < 2147483647; decide), (by show 2 ≤ sizeLine; decide), fun p np => q _ p (same_upd np) np ⟨_, _, upd_same, a0, Int.emod_nonneg _ (by decide), Int.emod_lt_of_pos _ (by decide)⟩⟩
    · show -(2 ^ 64) < (if c < 0 then -c else c) % 2147483629 + 1
      omega
    · show (if c < 0 then -c else c) % 2147483629 + 1 < 2 ^ 64
      omega
/-! _law_draw: slots 0:stream 1:many 2:stirred 3:found -/
abbrev s_law_draw : Stmt := topS 50
theorem sc_law_draw : FnScope ["stream", "many", "stirred", "found"] ["stream", "many"] (defScope s_law_draw) := ⟨rfl, rfl, rfl, by decide +kernel, rfl, by decide +kernel, by decide +kernel⟩
def sp_law_draw : Sp := fun vs H Q _ => ∃ (st : Addr) (m : Int), vs = [.ref st, .int m] ∧ SM H st ∧ 1 ≤ m ∧ m.natAbs < 2 ^ 8000 ∧ ∀ H' r, But st H H' → SM H' st → 0 ≤ r → r < m → Q (.int r) H'
theorem ok_law_draw (D : Df K mg "_law_draw" s_law_draw) (T : Tx mg) : Has P w K mg base 1 "_law_draw" ["stream", "many"] sp_law_draw := by
  refine has_of D sc_law_draw (fun _ _ _ _ _ _ us hl => match us, hl with | [_, _], _ => rfl) (fun vs H Q E h => ?_) (fun f cdv A outer s₀ H vs Q E hr h => ?_)
  · obtain ⟨a, rs, rfl, _⟩ := h
    rfl
  · obtain ⟨st, m, rfl, ⟨d, s, hs, d0, s0, s1⟩, m1, m2, q⟩ := h
    refine ⟨_, (pss_cons (ps_if (pt_cmpR op_ge (pe_ix ix_list (pv 0) pe_int (fun _ _ => rfl)) (pe_op op_pow pe_int pe_int) (nomark _)) (pss_cons (ps_set (i := 3) sc_law_draw.nd rfl (by first | exact Or.inl rfl | exact Or.inr rfl) (pe_op op_mod (pe_ix ix_list (pv 0) pe_int (fun _ _ => rfl)) (pv 1)))
    (pss_cons (ps_asg (pe_op op_fdivW (pe_ix ix_list (pv 0) pe_int (fun _ _ => rfl)) (pv 1)) (pg_sub (pv 0) pe_int set_list))
    (pss_one (ps_ret (pv 3))))) pss_nil)
    (pss_cons (ps_asg (pe_op op_mod (pe_op op_mul (pe_op op_add (pe_ix ix_list (pv 0) pe_int (fun _ _ => rfl)) pe_int) pe_int) pe_int) (pg_sub (pv 0) pe_int set_list))
    (pss_cons (ps_set (i := 2) sc_law_draw.nd rfl (by first | exact Or.inl rfl | exact Or.inr rfl) (pe_op op_mod (pe_op op_mul (pe_ix ix_list (pv 0) pe_int (fun _ _ => rfl)) (pe_ix ix_list (pv 0) pe_int (fun _ _ => rfl))) pe_int))
    (pss_one (ps_ret (pe_op op_mod (pe_op op_fdiv (pe_op op_mod (pe_op op_mul (pv 2) pe_int) pe_int) pe_int) (pv 1))))))), ?_⟩
    refine ⟨_, rfl, st, _, 0, _, rfl, rfl, .of hs, at2a, _, _, rfl, rfl, ⟨by decide, by decide, by decide⟩, _, _, rfl, rfl, _, rfl, ?_⟩
    by_cases e : (10 : Int) ^ ((18 : Int).toNat) ≤ d
    · refine iteP (decide_eq_true e) ?_
      refine ⟨_, rfl, st, _, 0, _, rfl, rfl, .of hs, at2a, _, rfl, _, _, rfl, rfl, (by omega), ?_⟩
      refine ⟨_, rfl, st, _, 0, _, rfl, rfl, .of hs, at2a, _, rfl, _, _, rfl, rfl, wide_div (by omega) m2 (by decide) (by decide), ?_⟩
      refine ⟨_, rfl, st, _, 0, 0, rfl, rfl, hs, rfl, _, rfl, q _ _ but_upd ⟨d / m, s, upd_same, Int.ediv_nonneg d0 (by omega), s0, s1⟩ (Int.emod_nonneg _ (by omega)) (Int.emod_lt_of_pos _ (by omega))⟩
    · refine iteN (decide_eq_false e) ?_
      refine ⟨_, rfl, st, _, 1, _, rfl, rfl, .of hs, at2b, _, _, rfl, rfl, _, _, rfl, rfl, .inl ⟨by omega, by omega⟩, _, _, rfl, rfl, (by show (0 : Int) < 2147483647; decide), ?_⟩
      refine ⟨_, rfl, st, _, 1, 1, rfl, rfl, hs, rfl, ?_⟩
      have n0 := Int.emod_nonneg ((s + 1) * 48271) (show (2147483647 : Int) ≠ 0 by decide)
      have n1 := Int.emod_lt_of_pos ((s + 1) * 48271) (show (0 : Int) < 2147483647 by decide)
      have h2 : (upd H st (.lst [.int d, .int ((s + 1) * 48271 % 2147483647)])) st = some (.lst [.int d, .int ((s + 1) * 48271 % 2147483647)]) := upd_same
      refine ⟨_, rfl, st, _, 1, _, rfl, rfl, .of h2, at2b, _, rfl, st, _, 1, _, rfl, rfl, .of h2, at2b, _, _, rfl, rfl, .inl ⟨by omega, by omega⟩, _, _, rfl, rfl, (by show (0 : Int) < 2147483629; decide), ?_⟩
      have t0 := Int.emod_nonneg ((s + 1) * 48271 % 2147483647 * ((s + 1) * 48271 % 2147483647)) (show (2147483629 : Int) ≠ 0 by decide)
      have t1 := Int.emod_lt_of_pos ((s + 1) * 48271 % 2147483647 * ((s + 1) * 48271 % 2147483647)) (show (0 : Int) < 2147483629 by decide)
      refine ⟨_, rfl, _, _, rfl, rfl, .inl ⟨?_, ?_⟩, _, _, rfl, rfl, (by show (0 : Int) < 2147483587; decide), _, _, rfl, rfl, ⟨by decide, by decide⟩, _, rfl, _, _, rfl, rfl, (by omega), q _ _ but_upd ⟨d, _, h2, d0, n0, n1⟩ (Int.emod_nonneg _ (by omega)) (Int.emod_lt_of_pos _ (by omega))⟩
      · show -(2 ^ 64) < (s + 1) * 48271 % 2147483647 * ((s + 1) * 48271 % 2147483647) % 2147483629
        omega
      · show (s + 1) * 48271 % 2147483647 * ((s + 1) * 48271 % 2147483647) % 2147483629 < 2 ^ 64
        omega
/-! _law_length: slots 0:sequence 1:kind 2:count -/
abbrev s_law_length : Stmt := topS 51
theorem sc_law_length : FnScope ["sequence", "kind", "count"] ["sequence"] (defScope s_law_length) := ⟨rfl, rfl, rfl, by decide +kernel, rfl, by decide +kernel, by decide +kernel⟩
def sp_law_length : Sp := fun vs H Q _ => ∃ (a : Addr) (rs : List Run), vs = [.ref a] ∧ Runs H a rs ∧ rs.length ≤ 1000 ∧ ∀ H', Same H H' → Q (.int (lenR rs)) H'
theorem ok_law_length (D : Df K mg "_law_length" s_law_length) (T : Tx mg) : Has P w K mg base 1 "_law_length" ["sequence"] sp_law_length := by
  refine has_of D sc_law_length (fun _ _ _ _ _ _ us hl => match us, hl with | [_], _ => rfl) (fun vs H Q E h => ?_) (fun f cdv A outer s H vs Q E hr h => ?_)
  · obtain ⟨v, r, rfl, _⟩ := h
    rfl
  · obtain ⟨a, rs, rfl, ⟨xs, hx, hp⟩, l4, q⟩ := h
    have lx : xs.length = rs.length := Paired.len hp
    refine ⟨_, (pss_one (ps_ret (pe_callB (cr_sum rfl) (by rfl) T.n_sum (by decide +kernel) (pa_cons (pe_lc (own := [("kind", 1), ("count", 2)]) rfl sc_law_length.nd (pi_list (pv 0)) (blkOk_by (N := ["sequence", "kind", "count"]) (sc := defScope s_law_length) (by decide +kernel)) (fun _ _ _ _ _ => (pg_tupK (K := K) (n := 2) rfl rfl (pgs_cons (pg_name (i := 1) sc_law_length.nd rfl (by first | exact Or.inl rfl | exact Or.inr rfl)) (pgs_cons (pg_name (i := 2) sc_law_length.nd rfl (by first | exact Or.inl rfl | exact Or.inr rfl)) pgs_nil)))) (fun _ _ _ _ _ => pts_nil) (fun _ _ _ _ _ => (pv 2))) pa_nil)))), ?_⟩
    refine ⟨_, rfl, a, rfl, ⟨xs, .of hx⟩, fun L nL => lc_list (K := K) (a := a) (xs := xs) (fun i H' => Same H H' ∧ H' L = some (.lst (((rs.map (·.2)).take i).map V.int))) ⟨same_upd nL, upd_same⟩ (fun i H' _ p => .of (p.1 _ _ hx)) (fun i x H2 ex p => ?_) (fun H2 p => ?_)⟩
    · obtain ⟨sm, hL⟩ := p
      obtain ⟨r, er, hr1⟩ := Paired.at hp ex
      have hi : i < xs.length := (List.getElem?_eq_some_iff.mp ex).1
      obtain ⟨t, rfl, ht⟩ := RunV.same sm hr1
      refine ⟨t, _, rfl, .of ht, rfl, _, _, rfl, _, _, rfl, rfl, rfl, yesT ⟨_, rfl, _, hL, ?_, same_grow nL sm, ?_⟩⟩
      · simp only [List.length_map, List.length_take]
        exact small (by omega)
      · rw [upd_same, take_snoc (x := r.2) (by rw [List.getElem?_map, er]; rfl), List.map_append]
        rfl
    · refine ⟨L, (rs.map (fun r : Run => r.2)), rfl, .of ?_, q H2 p.1⟩
      have := p.2
      rw [List.take_of_length_le (by rw [List.length_map]; omega)] at this
      exact this
end
end UP

set_option Elab.async false
set_option linter.all false
set_option maxRecDepth 100000
set_option maxHeartbeats 4000000
set_option pp.maxSteps 300
namespace UP
open PySem PySem.Spec PyProof.Rows L2
/-! ### ranges, also such that grow -/
theorem atI_ofB {α : Type} {l : List α} {i : Int} {x : α} (h0 : 0 ≤ i) (h : l[i.toNat]? = some x) : atI l i = some x := by
  have : i < l.length := by
    obtain ⟨q, _⟩ := List.getElem?_eq_some_iff.mp h
    omega
  unfold atI ixN
  rw [if_pos h0, if_pos (by omega)]
  exact h
/-- the first n positions of a range, of ranges -/
def ofP (p : Rg) (n : Int) : List Rg := if 0 < rmR p n then [(p.1, p.1 + rmR p n - 1)] else []
def ofR : List Rg → Int → List Rg
  | [], _ => []
  | p :: t, n => ofP p n ++ ofR t (n - rmR p n)
theorem ofR_snoc : ∀ (l : List Rg) (p : Rg) (n : Int), ofR (l ++ [p]) n = ofR l n ++ ofP p (wfN l n)
  | [], p, n => by
    show ofP p n ++ [] = [] ++ ofP p n
    rw [List.append_nil, List.nil_append]
  | x :: t, p, n => by
    show ofP x n ++ ofR (t ++ [p]) (n - rmR x n) = (ofP x n ++ ofR t (n - rmR x n)) ++ ofP p (wfN t (n - rmR x n))
    rw [ofR_snoc t, List.append_assoc]
theorem ofP_len (p : Rg) (n : Int) : (ofP p n).length ≤ 1 := by
  unfold ofP
  split <;> simp
theorem ofR_len : ∀ (R : List Rg) (n : Int), (ofR R n).length ≤ R.length
  | [], _ => Nat.le_refl _
  | p :: t, n => by
    show (ofP p n ++ ofR t (n - rmR p n)).length ≤ t.length + 1
    rw [List.length_append]
    have h1 := ofP_len p n
    have h2 := ofR_len t (n - rmR p n)
    omega
section
variable {P : Program} {w : World} {K : PySem.W.Frag} {mg : Str → Option Value} {base : Heap}
/-! check_kind: slots 0:kind -/
abbrev s_check_kind : Stmt := topS 21
theorem sc_check_kind : FnScope ["kind"] ["kind"] (defScope s_check_kind) := ⟨rfl, rfl, rfl, by decide +kernel, rfl, by decide +kernel, by decide +kernel⟩
def sp_check_kind : Sp := fun vs H Q _ => ∃ k : Str, vs = [.str k] ∧ KindOk k ∧ ∀ H', Same H H' → Q .non H'
theorem ok_check_kind (D : Df K mg "check_kind" s_check_kind) (G_is_kind : Has P w K mg base 1 "is_kind" ["value"] sp_is_kind) : Has P w K mg base 2 "check_kind" ["kind"] sp_check_kind := by
  refine has_of D sc_check_kind (fun _ _ _ _ _ _ us hl => match us, hl with | [_], _ => rfl) (fun vs H Q E h => ?_) (fun f cdv A outer s H vs Q E hr h => ?_)
  · obtain ⟨v, rfl, _⟩ := h
    rfl
  · obtain ⟨k, rfl, ok, q⟩ := h
    refine ⟨_, (pss_one (ps_if (pt_not (pt_val (pe_callH G_is_kind (hr.mono (by omega)) (by rfl) (pa_cons (pv 0) pa_nil)))) (pss_one ps_never) pss_nil)), ?_⟩
    exact ⟨_, rfl, k, rfl, ok, fun H1 s1 => ⟨_, rfl, iteF (q _ s1)⟩⟩
/-! only_first: slots 0:ranges 1:number 2:kept 3:first 4:last 5:size -/
abbrev s_only_first : Stmt := topS 34
theorem sc_only_first : FnScope ["ranges", "number", "kept", "first", "last", "size"] ["ranges", "number"] (defScope s_only_first) := ⟨rfl, rfl, rfl, by decide +kernel, rfl, by decide +kernel, by decide +kernel⟩
def sp_only_first : Sp := fun vs H Q _ => ∃ (a : Addr) (R : List Rg) (n : Int), vs = [.ref a, .int n] ∧ Rngs H a R ∧ R.length ≤ 100000 ∧ ∀ H' p, Same H H' → H p = none → Rngs H' p (ofR R n) → Q (.ref p) H'
theorem ok_only_first (D : Df K mg "only_first" s_only_first) (T : Tx mg) : Has P w K mg base 1 "only_first" ["ranges", "number"] sp_only_first := by
  refine has_of D sc_only_first (fun _ _ _ _ _ _ us hl => match us, hl with | [_, _], _ => rfl) (fun vs H Q E h => ?_) (fun f cdv A outer s₀ H vs Q E hr h => ?_)
  · obtain ⟨a, R, n, rfl, _⟩ := h
    rfl
  · obtain ⟨a, R, n, rfl, ⟨xs, hx, hp⟩, l4, q⟩ := h
    have lx : xs.length = R.length := Paired.len hp
    refine ⟨_, (pss_cons (ps_set (i := 2) sc_only_first.nd rfl (by first | exact Or.inl rfl | exact Or.inr rfl) (pe_lst pa_nil))
    (pss_cons (ps_for PassesOwn.never rfl (pi_list (pv 0)) (pg_tup rfl (pgs_cons (pg_name (i := 3) sc_only_first.nd rfl (by first | exact Or.inl rfl | exact Or.inr rfl)) (pgs_cons (pg_name (i := 4) sc_only_first.nd rfl (by first | exact Or.inl rfl | exact Or.inr rfl)) pgs_nil)))
      (pss_cons (ps_set (i := 5) sc_only_first.nd rfl (by first | exact Or.inl rfl | exact Or.inr rfl) (pe_callB (call_min2 rfl) (by rfl) T.n_min (by decide +kernel) (pa_cons (pv 1) (pa_cons (pe_op op_add (pe_op op_sub (pv 4) (pv 3)) pe_int) pa_nil))))
    (C8.pss_cut (ps_if (pt_cmpR op_gt (pv 5) pe_int (nomark _)) (pss_one (ps_expr (pe_bm PySem.F.plainAttrs_list PySem.F.slot_list_append PySem.F.type_list_append mt_append (pv 2) (pa_cons (pe_tup (pa_cons (pv 3) (pa_cons (pe_op op_sub (pe_op op_add (pv 3) (pv 5)) pe_int) pa_nil))) pa_nil)))) pss_nil)
    (pss_one (ps_aug (i := 1) sc_only_first.nd rfl (by first | exact Or.inl rfl | exact Or.inr rfl) (pv 5) ip_sub)))))
    (pss_one (ps_ret (pv 2))))), ?_⟩
    refine ⟨Nat.zero_le _, fun p np => ?_⟩
    refine ⟨_, rfl, a, rfl, ⟨xs, .of (same_upd np _ _ hx)⟩, for_list (K := K) (a := a) (xs := xs) (fun i σ H' => ∃ b y3 y4 y5, b = wfN (R.take i) n ∧ σ = [some (.ref a), some (.int b), some (.ref p), y3, y4, y5] ∧ Same H H' ∧ ∃ ys, H' p = some (.lst ys) ∧ Paired (PV H') ys (ofR (R.take i) n))
      ⟨n, none, none, none, rfl, rfl, same_upd np, [], upd_same, .nil⟩ (fun i σ H' _ hP => ?_) (fun i x σ H1 ex hP => ?_) (fun σ H1 hP => ?_)⟩
    · obtain ⟨_, _, _, _, _, _, sm, _⟩ := hP
      exact .of (sm _ _ hx)
    · obtain ⟨b, y3, y4, y5, rfl, rfl, sm, ys, hL, hy⟩ := hP
      obtain ⟨r, er, hr1⟩ := Paired.at hp ex
      have hi : i < xs.length := (List.getElem?_eq_some_iff.mp ex).1
      obtain ⟨t, rfl, ht⟩ := PV.same sm hr1
      have el : wfN (R.take (i + 1)) n = wfN (R.take i) n - rmR r (wfN (R.take i) n) := by rw [take_snoc er, wfN_snoc]
      have ec : ofR (R.take (i + 1)) n = ofR (R.take i) n ++ ofP r (wfN (R.take i) n) := by rw [take_snoc er, ofR_snoc]
      refine ⟨t, _, rfl, .of ht, rfl, _, _, rfl, _, _, rfl, rfl, ?_⟩
      refine ⟨_, rfl, _, rfl, _, rfl, _, _, rfl, rfl, _, _, rfl, rfl, _, _, rfl, ?_⟩
      refine ⟨fun σ' H' => σ' = [some (.ref a), some (.int (wfN (R.take i) n)), some (.ref p), some (.int r.1), some (.int r.2), some (.int (rmR r (wfN (R.take i) n)))] ∧ Same H H' ∧ ∃ ys, H' p = some (.lst ys) ∧ Paired (PV H') ys (ofR (R.take (i + 1)) n), ?_, fun σ' H5 hM => ?_⟩
      · refine ⟨_, rfl, _, _, rfl, rfl, _, rfl, ite2 (fun e => ?_) (fun e => ?_)⟩
        · have e : 0 < rmR r (wfN (R.take i) n) := of_decide_eq_true e
          have epc : ofP r (wfN (R.take i) n) = [(r.1, r.1 + rmR r (wfN (R.take i) n) - 1)] := if_pos e
          refine ⟨_, rfl, .inl ⟨rfl, _, SqL.of hL⟩, _, rfl, _, rfl, _, rfl, _, _, rfl, rfl, _, _, rfl, rfl, (by show 2 ≤ sizeLine; decide), fun u nn => ⟨p, _, _, rfl, rfl, same_upd nn _ _ hL, ?_, ?_⟩⟩
          · have h1 := Paired.len hy
            have h2 := ofR_len (R.take i) n
            rw [List.length_take] at h2
            exact small (by omega)
          · refine ⟨rfl, same_grow np (sm.trans (same_upd nn)), _, upd_same, ?_⟩
            rw [ec, epc]
            exact Paired.app (pvs_grow (same_upd nn _ _ hL) (pvs_same (same_upd nn) hy)) (.cons (PV.grow (same_upd nn _ _ hL) ⟨_, rfl, upd_same⟩) .nil)
        · have e : ¬ 0 < rmR r (wfN (R.take i) n) := fun z => e (decide_eq_true z)
          have epc : ofP r (wfN (R.take i) n) = [] := if_neg e
          refine ⟨rfl, sm, _, hL, ?_⟩
          rw [ec, epc, List.append_nil]
          exact hy
      · obtain ⟨rfl, s5, ys5, hL5, hy5⟩ := hM
        exact ⟨_, rfl, _, rfl, _, _, rfl, rfl, _, _, _, _, el.symm, rfl, s5, ys5, hL5, hy5⟩
    · obtain ⟨b, y3, y4, y5, rfl, rfl, sm, ys, hL, hy⟩ := hP
      rw [lx, List.take_length] at hy
      exact ⟨_, rfl, q H1 p sm np ⟨ys, hL, hy⟩⟩
end
end UP

set_option Elab.async false
set_option linter.all false
set_option maxRecDepth 100000
set_option maxHeartbeats 4000000
set_option pp.maxSteps 300
namespace UP
open PySem PySem.Spec PyProof.Rows L2
/-! ### methods that keep a promise, by their names -/
section
variable (P : Program) (w : World) (K : PySem.W.Frag) (mg : Str → Option Value) (base : Heap) (C : Addr)
def HasM (k : Nat) (m : Str) (ps : List Str) (sp : Sp) : Prop := ∃ f fd, Meth K C m f ∧ Binds K fd ps [] ∧ FnOk P w K mg base CX0 k f fd ps sp
def HasI (k : Nat) (sp : Sp) : Prop := ∃ f fd, Mk K C f ∧ Binds K fd ["self"] [] ∧ FnOk P w K mg base CX0 k f fd ["self"] sp
/-- a method whose last parameter, kw, has the default d -/
def HasMD (k : Nat) (m : Str) (ps : List Str) (n : Nat) (kw : Str) (d : V) (sp : Sp) : Prop :=
  ∃ f fd, Meth K C m f ∧ Binds K fd ps [] ∧ (∃ ds, Vals [d] ds ∧ Binds K fd ps ds) ∧ KBn K fd ps n [kw] (fun us ws => us ++ ws) (fun vs zs => vs ++ zs) ∧ FnOk P w K mg base CX0 k f fd ps sp
def DfM (m q : Str) (st : Stmt) : Prop := ∃ f fd, Meth K C m f ∧ Fun K m q st f fd
def DfI (q : Str) (st : Stmt) : Prop := ∃ f fd, Mk K C f ∧ Fun K "__init__" q st f fd
def DfMD (m q : Str) (st : Stmt) (d : V) : Prop := ∃ f fd, Meth K C m f ∧ FunD K m q (defArgs st) (defBody st) (defScope st) [d] [] f fd
end
section
variable {P : Program} {w : World} {K : PySem.W.Frag} {mg : Str → Option Value} {base : Heap} {C : Addr}
theorem hasM_of {m q : Str} {st : Stmt} {ps N : List Str} {k : Nat} {sp : Sp} (D : DfM K C m q st) (S : FnScope N ps (defScope st))
    (hb : ∀ (kV doc pm : Value) (an : Option Addr) (cdv ct : Value) (us : List Value), us.length = ps.length → bindArgs (PySem.W.fnOf m q (defArgs st) (defBody st) (defScope st) .none kV doc pm an cdv ct) ⟨us, []⟩ = pure (ps.zip us))
    (len : ∀ vs H Q E, sp vs H Q E → vs.length = ps.length)
    (body : ∀ (f : Addr) (cdv : Value) (A : Around) (outer : List Env) (s : Shared) (H : Hp) (vs : List V) (Q : VK) (E : XK), Room k (A.deeper (envOfC q (defScope st) s.heap.objs.size f cdv)) → sp vs H Q E →
      ∃ t, PSs (cxOf CX0 P w K mg base N q (defScope st) f cdv A outer s H E).nox (defBody st) t ∧ t { nx := fun _ H' => Q .non H', rt := Q } (start N vs) H) :
    HasM P w K mg base C (k + 1) m ps sp := by
  obtain ⟨f, fd, g, F⟩ := D
  exact ⟨f, fd, g, F.binds hb, F.ok S len fun cdv A outer s H vs Q E hr h => body f cdv A outer s H vs Q E hr h⟩
theorem hasI_of {q : Str} {st : Stmt} {N : List Str} {k : Nat} {sp : Sp} (D : DfI K C q st) (S : FnScope N ["self"] (defScope st))
    (hb : ∀ (kV doc pm : Value) (an : Option Addr) (cdv ct : Value) (us : List Value), us.length = (["self"] : List Str).length → bindArgs (PySem.W.fnOf "__init__" q (defArgs st) (defBody st) (defScope st) .none kV doc pm an cdv ct) ⟨us, []⟩ = pure ((["self"] : List Str).zip us))
    (len : ∀ vs H Q E, sp vs H Q E → vs.length = (["self"] : List Str).length)
    (body : ∀ (f : Addr) (cdv : Value) (A : Around) (outer : List Env) (s : Shared) (H : Hp) (vs : List V) (Q : VK) (E : XK), Room k (A.deeper (envOfC q (defScope st) s.heap.objs.size f cdv)) → sp vs H Q E →
      ∃ t, PSs (cxOf CX0 P w K mg base N q (defScope st) f cdv A outer s H E).nox (defBody st) t ∧ t { nx := fun _ H' => Q .non H', rt := Q } (start N vs) H) :
    HasI P w K mg base C (k + 1) sp := by
  obtain ⟨f, fd, g, F⟩ := D
  exact ⟨f, fd, g, F.binds hb, F.ok S len fun cdv A outer s H vs Q E hr h => body f cdv A outer s H vs Q E hr h⟩
theorem hasM_ofD {m q kw : Str} {st : Stmt} {ps N : List Str} {k n : Nat} {d : V} {sp : Sp} (D : DfMD K C m q st d) (S : FnScope N ps (defScope st)) (hpn : ps.length = n + 1)
    (hb : ∀ (T : Addr) (kV doc pm : Value) (an : Option Addr) (cdv ct : Value) (us its : List Value), us.length = n + 1 → its.length = 1 →
      ∃ z, bindArgs (PySem.W.fnOf m q (defArgs st) (defBody st) (defScope st) (.ref T) kV doc pm an cdv ct) ⟨us, []⟩ = seqItems? (.ref T) >>= z ∧ z (some its.toArray) = pure (ps.zip us))
    (hb1 : ∀ (T : Addr) (kV doc pm : Value) (an : Option Addr) (cdv ct : Value) (us its : List Value), us.length = n → its.length = 1 →
      ∃ z, bindArgs (PySem.W.fnOf m q (defArgs st) (defBody st) (defScope st) (.ref T) kV doc pm an cdv ct) ⟨us, []⟩ = seqItems? (.ref T) >>= z ∧ z (some its.toArray) = pure (ps.zip (us ++ its)))
    (hb2 : ∀ (T : Addr) (kV doc pm : Value) (an : Option Addr) (cdv ct : Value) (us its : List Value) (v : Value), us.length = n → its.length = 1 →
      ∃ z, bindArgs (PySem.W.fnOf m q (defArgs st) (defBody st) (defScope st) (.ref T) kV doc pm an cdv ct) ⟨us, [(kw, v)]⟩ = seqItems? (.ref T) >>= z ∧ z (some its.toArray) = pure (ps.zip (us ++ [v])))
    (len : ∀ vs H Q E, sp vs H Q E → vs.length = ps.length)
    (body : ∀ (f : Addr) (cdv : Value) (A : Around) (outer : List Env) (s : Shared) (H : Hp) (vs : List V) (Q : VK) (E : XK), Room k (A.deeper (envOfC q (defScope st) s.heap.objs.size f cdv)) → sp vs H Q E →
      ∃ t, PSs (cxOf CX0 P w K mg base N q (defScope st) f cdv A outer s H E).nox (defBody st) t ∧ t { nx := fun _ H' => Q .non H', rt := Q } (start N vs) H) :
    HasMD P w K mg base C (k + 1) m ps n kw d sp := by
  obtain ⟨f, fd, g, F⟩ := D
  have B0 : Binds K fd ps [] := by
    obtain ⟨ds, v, b⟩ := F.binds1 (n + 1) 1 (ps := ps) (by intro z; cases z) (by rw [hpn]; rfl) fun T kV doc pm an cdv ct us its h1 h2 => by
      obtain ⟨z, e1, e2⟩ := hb T kV doc pm an cdv ct us its h1 h2
      refine ⟨z, e1, ?_⟩
      have h3 : its.length ≤ 1 := Nat.le_of_eq h2
      rw [e2, List.drop_of_length_le h3, List.append_nil]
    cases v
    exact b
  have B1 : ∃ ds, Vals [d] ds ∧ Binds K fd ps ds := by
    obtain ⟨ds, v, b⟩ := F.binds1 n 0 (ps := ps) (by intro z; cases z) (by rw [hpn]; rfl) fun T kV doc pm an cdv ct us its h1 h2 => by
      obtain ⟨z, e1, e2⟩ := hb1 T kV doc pm an cdv ct us its h1 h2
      exact ⟨z, e1, by rw [e2, List.drop_zero]⟩
    exact ⟨ds, v, b⟩
  have B2 : KBn K fd ps n [kw] (fun us ws => us ++ ws) (fun vs zs => vs ++ zs) := by
    refine ⟨fun s us ws X l1 l2 => ?_, fun r1 r2 => r1.append r2⟩
    obtain ⟨oc, od, dV, kV, doc, pm, an, cdv, ct, osl, rfl, lk, hcd, hD, _⟩ := F.ex
    rcases hD with ⟨z, _⟩ | ⟨_, T, o, its, j, rfl, lT, oT, rT⟩
    · cases z
    · match ws, l2 with
      | [v], _ =>
        obtain ⟨z, e1, e2⟩ := hb2 T kV doc pm an cdv ct us its v l1 rT.length.symm
        refine BindsTo.of_looks fun M => ?_
        show PySem.W.Looks M s.heap (bindArgs _ ⟨us, [(kw, v)]⟩) _
        rw [e1]
        exact looks_items X lT oT (.of_pure e2)
  refine ⟨f, fd, g, B0, B1, B2, F.ok S len fun cdv A outer s H vs Q E hr h => ?_⟩
  obtain ⟨t, p, q⟩ := body f cdv A outer s H vs Q E hr h
  exact ⟨t, p.nox, q⟩
end
section
variable {X : Cx} {C : Addr} {k n : Nat} {m kw : Str} {ps : List Str} {sp : Sp} {d : V} {o e : Expr} {es : List Expr} {ta : TE} {t : TA} {p pos apos : Pos}
theorem pe_methO {pl : Sem Bool} (he : PE X o ta) (c : Cls X.K C) (G : HasM X.prog X.w X.K X.mg X.base C k m ps sp) (hr : Room k X.A) (ha : PA X (e :: es) t)
    (hst : starEach (e :: es) X.env = (false, eval e X.env) :: starEach es X.env := by rfl) (hpl : (backTo pos (starEach es X.env)).any (·.1) = false := by rfl)
    (ht : eval (.Call (.Attribute o m apos) (e :: es) [] pos) X.env = (do
      let ov ← eval o X.env
      standAt apos.atName
      let (f, first) ← holding [ov] (getMethod ov m pl)
      callWith pos f first (backTo pos (starEach (e :: es) X.env)) (backToKw pos (keywordEach [] X.env))) := by rfl) :
    PE X (.Call (.Attribute o m apos) (e :: es) [] pos) (tMeth C m sp [] E0 ta t) := by
  obtain ⟨f, fd, hm, hb, F⟩ := G
  exact pe_meth he c hm F hr hb .nil pass0 ha hst hpl ht
theorem pe_methFO {pl : Sem Bool} (he : PE X o ta) (c : Cls X.K C) (G : HasMD X.prog X.w X.K X.mg X.base C k m ps n kw d sp) (hr : Room k X.A) (ha : PA X (e :: es) t)
    (hst : starEach (e :: es) X.env = (false, eval e X.env) :: starEach es X.env := by rfl) (hpl : (backTo pos (starEach es X.env)).any (·.1) = false := by rfl)
    (ht : eval (.Call (.Attribute o m apos) (e :: es) [] pos) X.env = (do
      let ov ← eval o X.env
      standAt apos.atName
      let (f, first) ← holding [ov] (getMethod ov m pl)
      callWith pos f first (backTo pos (starEach (e :: es) X.env)) (backToKw pos (keywordEach [] X.env))) := by rfl) :
    PE X (.Call (.Attribute o m apos) (e :: es) [] pos) (tMeth C m sp [] E0 ta t) := by
  obtain ⟨f, fd, hm, hb, _, _, F⟩ := G
  exact pe_meth he c hm F hr hb .nil pass0 ha hst hpl ht
theorem pe_methDO {pl : Sem Bool} (he : PE X o ta) (c : Cls X.K C) (G : HasMD X.prog X.w X.K X.mg X.base C k m ps n kw d sp) (hr : Room k X.A) (ha : PA X (e :: es) t)
    (hst : starEach (e :: es) X.env = (false, eval e X.env) :: starEach es X.env := by rfl) (hpl : (backTo pos (starEach es X.env)).any (·.1) = false := by rfl)
    (ht : eval (.Call (.Attribute o m apos) (e :: es) [] pos) X.env = (do
      let ov ← eval o X.env
      standAt apos.atName
      let (f, first) ← holding [ov] (getMethod ov m pl)
      callWith pos f first (backTo pos (starEach (e :: es) X.env)) (backToKw pos (keywordEach [] X.env))) := by rfl) :
    PE X (.Call (.Attribute o m apos) (e :: es) [] pos) (tMeth C m sp [d] E0 ta t) := by
  obtain ⟨f, fd, hm, _, ⟨ds, v, b⟩, _, F⟩ := G
  exact pe_meth he c hm F hr b v pass0 ha hst hpl ht
theorem pe_meth0O {pl : Sem Bool} (he : PE X o ta) (c : Cls X.K C) (G : HasM X.prog X.w X.K X.mg X.base C k m ps sp) (hr : Room k X.A)
    (ht : eval (.Call (.Attribute o m apos) [] [] pos) X.env = (do
      let ov ← eval o X.env
      standAt apos.atName
      let (f, first) ← holding [ov] (getMethod ov m pl)
      callWith pos f first (backTo pos (starEach [] X.env)) (backToKw pos (keywordEach [] X.env))) := by rfl) :
    PE X (.Call (.Attribute o m apos) [] [] pos) (tMeth C m sp [] E0 ta tNil) := by
  obtain ⟨f, fd, hm, hb, F⟩ := G
  exact pe_meth0 he c hm F hr hb .nil pass0 ht
theorem pe_makeO {x : Str} (hm : X.mg x = some (.ref C)) (G : HasI X.prog X.w X.K X.mg X.base C k sp) (hr : Room (k + 1) X.A) (hg : Gl X x) (hdb : (x == ("__debug__" : Str)) = false := by decide) :
    PE X (.Call (.Name x p) [] [] pos) (tMake C sp [] E0 tNil) := by
  obtain ⟨f, fd, M, hb, F⟩ := G
  exact pe_make0 M F hr hg hm hb .nil pass0 hdb
theorem pe_call0H {x : Str} (G : Has X.prog X.w X.K X.mg X.base k x ps sp) (hr : Room k X.A) (hg : Gl X x) (hdb : (x == ("__debug__" : Str)) = false := by decide) :
    PE X (.Call (.Name x p) [] [] pos) (tCall sp [] E0 tNil) := by
  obtain ⟨f, fd, g, kp, b, F⟩ := G
  exact pe_call0 F hr hg g kp b .nil pass0 hdb
end
/-! ### a station -/
def fl6 (st ra ar pa bl ps : V) : List (Str × V) := putF "past" ps (putF "blocks" bl (putF "paired" pa (putF "arrived" ar (putF "ranges" ra (putF "state" st [])))))
theorem putF_other {f g : Str} {v x : V} {r : List (Str × V)} (h : ¬ g = f) : putF f v ((g, x) :: r) = (g, x) :: putF f v r := if_neg h
theorem putF_hit {f : Str} {v x : V} {r : List (Str × V)} : putF f v ((f, x) :: r) = (f, v) :: r := if_pos rfl
theorem fl6_eq (st ra ar pa bl ps : V) : fl6 st ra ar pa bl ps = ([("state", st), ("ranges", ra), ("arrived", ar), ("paired", pa), ("blocks", bl), ("past", ps)] : List (Str × V)) := by
  unfold fl6
  have e1 : putF "ranges" ra (putF "state" st []) = [(("state" : Str), st), ("ranges", ra)] := putF_other (by decide +kernel)
  have e2 : putF "arrived" ar [(("state" : Str), st), ("ranges", ra)] = [(("state" : Str), st), ("ranges", ra), ("arrived", ar)] := by
    rw [putF_other (by decide +kernel), putF_other (by decide +kernel)]
    rfl
  have e3 : putF "paired" pa [(("state" : Str), st), ("ranges", ra), ("arrived", ar)] = [(("state" : Str), st), ("ranges", ra), ("arrived", ar), ("paired", pa)] := by
    rw [putF_other (by decide +kernel), putF_other (by decide +kernel), putF_other (by decide +kernel)]
    rfl
  have e4 : putF "blocks" bl [(("state" : Str), st), ("ranges", ra), ("arrived", ar), ("paired", pa)] = [(("state" : Str), st), ("ranges", ra), ("arrived", ar), ("paired", pa), ("blocks", bl)] := by
    rw [putF_other (by decide +kernel), putF_other (by decide +kernel), putF_other (by decide +kernel), putF_other (by decide +kernel)]
    rfl
  rw [e1, e2, e3, e4, putF_other (by decide +kernel), putF_other (by decide +kernel), putF_other (by decide +kernel), putF_other (by decide +kernel), putF_other (by decide +kernel)]
  rfl
theorem fl6_len (st ra ar pa bl ps : V) : (fl6 st ra ar pa bl ps).length < 1000 := by
  rw [fl6_eq]
  show 6 < 1000
  decide
theorem fl6_state (st ra ar pa bl ps : V) : (fl6 st ra ar pa bl ps).lookup ("state" : Str) = some st := by
  unfold fl6
  rw [lookup_putF, if_neg (by decide +kernel), lookup_putF, if_neg (by decide +kernel), lookup_putF, if_neg (by decide +kernel), lookup_putF, if_neg (by decide +kernel), lookup_putF, if_neg (by decide +kernel), lookup_putF, if_pos rfl]
theorem fl6_ranges (st ra ar pa bl ps : V) : (fl6 st ra ar pa bl ps).lookup ("ranges" : Str) = some ra := by
  unfold fl6
  rw [lookup_putF, if_neg (by decide +kernel), lookup_putF, if_neg (by decide +kernel), lookup_putF, if_neg (by decide +kernel), lookup_putF, if_neg (by decide +kernel), lookup_putF, if_pos rfl]
theorem fl6_arrived (st ra ar pa bl ps : V) : (fl6 st ra ar pa bl ps).lookup ("arrived" : Str) = some ar := by
  unfold fl6
  rw [lookup_putF, if_neg (by decide +kernel), lookup_putF, if_neg (by decide +kernel), lookup_putF, if_neg (by decide +kernel), lookup_putF, if_pos rfl]
theorem fl6_paired (st ra ar pa bl ps : V) : (fl6 st ra ar pa bl ps).lookup ("paired" : Str) = some pa := by
  unfold fl6
  rw [lookup_putF, if_neg (by decide +kernel), lookup_putF, if_neg (by decide +kernel), lookup_putF, if_pos rfl]
theorem fl6_blocks (st ra ar pa bl ps : V) : (fl6 st ra ar pa bl ps).lookup ("blocks" : Str) = some bl := by
  unfold fl6
  rw [lookup_putF, if_neg (by decide +kernel), lookup_putF, if_pos rfl]
theorem fl6_past (st ra ar pa bl ps : V) : (fl6 st ra ar pa bl ps).lookup ("past" : Str) = some ps := by
  unfold fl6
  rw [lookup_putF, if_pos rfl]
/-- no attribute of its own by another name -/
def NotF (m : Str) : Prop := ¬ m = "state" ∧ ¬ m = "ranges" ∧ ¬ m = "arrived" ∧ ¬ m = "paired" ∧ ¬ m = "blocks" ∧ ¬ m = "past"
theorem fl6_no {m : Str} (h : NotF m) (st ra ar pa bl ps : V) : (fl6 st ra ar pa bl ps).lookup m = none := by
  obtain ⟨h1, h2, h3, h4, h5, h6⟩ := h
  unfold fl6
  rw [lookup_putF, if_neg h6, lookup_putF, if_neg h5, lookup_putF, if_neg h4, lookup_putF, if_neg h3, lookup_putF, if_neg h2, lookup_putF, if_neg h1]
  rfl
theorem put_state {v st ra ar pa bl ps : V} : putF "state" v (fl6 st ra ar pa bl ps) = fl6 v ra ar pa bl ps := by
  rw [fl6_eq, fl6_eq, putF_hit]
theorem put_ranges {v st ra ar pa bl ps : V} : putF "ranges" v (fl6 st ra ar pa bl ps) = fl6 st v ar pa bl ps := by
  rw [fl6_eq, fl6_eq, putF_other (by decide +kernel), putF_hit]
theorem put_arrived {v st ra ar pa bl ps : V} : putF "arrived" v (fl6 st ra ar pa bl ps) = fl6 st ra v pa bl ps := by
  rw [fl6_eq, fl6_eq, putF_other (by decide +kernel), putF_other (by decide +kernel), putF_hit]
theorem put_paired {v st ra ar pa bl ps : V} : putF "paired" v (fl6 st ra ar pa bl ps) = fl6 st ra ar v bl ps := by
  rw [fl6_eq, fl6_eq, putF_other (by decide +kernel), putF_other (by decide +kernel), putF_other (by decide +kernel), putF_hit]
theorem put_blocks {v st ra ar pa bl ps : V} : putF "blocks" v (fl6 st ra ar pa bl ps) = fl6 st ra ar pa v ps := by
  rw [fl6_eq, fl6_eq, putF_other (by decide +kernel), putF_other (by decide +kernel), putF_other (by decide +kernel), putF_other (by decide +kernel), putF_hit]
end UP

set_option Elab.async false
set_option linter.all false
set_option maxRecDepth 100000
set_option maxHeartbeats 4000000
set_option pp.maxSteps 300
namespace UP
open PySem PySem.Spec PyProof.Rows L2
structure Sta where
  st : Option Run
  R : List Rg
  n : Int
  m : Int
  B : List Blk
abbrev Op := Str × Key × Int
def OpV (H : Hp) (v : V) (o : Op) : Prop := ∃ t, v = .ref t ∧ H t = some (.tup [.str o.1, kV o.2.1, .int o.2.2])
def PastV (H : Hp) (v : V) (o : Op) : Prop := ∃ t u b, v = .ref t ∧ H t = some (.tup [u, b]) ∧ OpV H u o
/-- tuples are kept -/
def Tk (H H' : Hp) : Prop := ∀ b xs, H b = some (.tup xs) → H' b = some (.tup xs)
theorem stk {H H' : Hp} (s : Same H H') : Tk H H' := fun b xs e => s _ _ e
theorem Tk.trans {H H1 H2 : Hp} (a : Tk H H1) (b : Tk H1 H2) : Tk H H2 := fun c xs e => b _ _ (a _ _ e)
theorem PV.tk {H H' : Hp} {v : V} {p : Rg} (k : Tk H H') (h : PV H v p) : PV H' v p := by
  obtain ⟨t, e, ht⟩ := h
  exact ⟨t, e, k _ _ ht⟩
theorem BV.tk {H H' : Hp} {v : V} {p : Blk} (k : Tk H H') (h : BV H v p) : BV H' v p := by
  obtain ⟨t, e, ht⟩ := h
  exact ⟨t, e, k _ _ ht⟩
theorem StV.tk {H H' : Hp} {v : V} {st : Option Run} (k : Tk H H') (h : StV H v st) : StV H' v st := by
  cases st with
  | none => exact h
  | some r =>
    obtain ⟨t, e, ht⟩ := h
    exact ⟨t, e, k _ _ ht⟩
theorem OpV.tk {H H' : Hp} {v : V} {o : Op} (k : Tk H H') (h : OpV H v o) : OpV H' v o := by
  obtain ⟨t, e, ht⟩ := h
  exact ⟨t, e, k _ _ ht⟩
theorem PastV.tk {H H' : Hp} {v : V} {o : Op} (k : Tk H H') (h : PastV H v o) : PastV H' v o := by
  obtain ⟨t, u, b, e, ht, ho⟩ := h
  exact ⟨t, u, b, e, k _ _ ht, ho.tk k⟩
theorem Rngs.tk {H H' : Hp} {a : Addr} {R : List Rg} (k : Tk H H') (c : ∀ o, H a = some o → H' a = some o) (h : Rngs H a R) : Rngs H' a R := by
  obtain ⟨xs, e, p⟩ := h
  exact ⟨xs, c _ e, Paired.imp (fun _ _ z => z.tk k) p⟩
theorem Blks.tk {H H' : Hp} {a : Addr} {R : List Blk} (k : Tk H H') (c : ∀ o, H a = some o → H' a = some o) (h : Blks H a R) : Blks H' a R := by
  obtain ⟨xs, e, p⟩ := h
  exact ⟨xs, c _ e, Paired.imp (fun _ _ z => z.tk k) p⟩
def Pst (H : Hp) (a : Addr) (ops : List Op) : Prop := ∃ xs, H a = some (.lst xs) ∧ Paired (PastV H) xs ops
theorem Pst.tk {H H' : Hp} {a : Addr} {R : List Op} (k : Tk H H') (c : ∀ o, H a = some o → H' a = some o) (h : Pst H a R) : Pst H' a R := by
  obtain ⟨xs, e, p⟩ := h
  exact ⟨xs, c _ e, Paired.imp (fun _ _ z => z.tk k) p⟩
theorem tk_but {H H' : Hp} {p : Addr} {o : HO} (hp : H p = some o) (no : ∀ xs, o ≠ .tup xs) (b : But p H H') : Tk H H' := fun c xs e => b _ _ (ne_of e hp (fun z => no xs z.symm)) e
theorem But.at {H H' : Hp} {p a : Addr} (b : But p H H') (n : a ≠ p) : ∀ o, H a = some o → H' a = some o := fun o e => b _ _ n e
/-- a station: its object, its list of operations, its ranges, its blocks -/
structure Stn (C : Addr) (H : Hp) (p ap ar ab : Addr) (S : Sta) (ops : List Op) : Prop where
  ob : ∃ dx v, H p = some (.ins C dx (fl6 v (.ref ar) (.int S.n) (.int S.m) (.ref ab) (.ref ap))) ∧ StV H v S.st
  rg : Rngs H ar S.R
  bl : Blks H ab S.B
  ps : Pst H ap ops
  n1 : ap ≠ ar
  n2 : ap ≠ ab
theorem Stn.keep {C : Addr} {H H' : Hp} {p ap ar ab : Addr} {S : Sta} {ops : List Op} (z : Stn C H p ap ar ab S ops) (k : Tk H H') (k1 : ∀ o, H p = some o → H' p = some o) (k2 : ∀ o, H ap = some o → H' ap = some o) (k3 : ∀ o, H ar = some o → H' ar = some o) (k4 : ∀ o, H ab = some o → H' ab = some o) : Stn C H' p ap ar ab S ops := by
  obtain ⟨⟨dx, v, h1, h2⟩, h3, h4, h5, h6, h7⟩ := z
  exact ⟨⟨dx, v, k1 _ h1, h2.tk k⟩, h3.tk k k3, h4.tk k k4, h5.tk k k2, h6, h7⟩
theorem Stn.same {C : Addr} {H H' : Hp} {p ap ar ab : Addr} {S : Sta} {ops : List Op} (z : Stn C H p ap ar ab S ops) (s : Same H H') : Stn C H' p ap ar ab S ops := z.keep (stk s) (fun _ e => s _ _ e) (fun _ e => s _ _ e) (fun _ e => s _ _ e) (fun _ e => s _ _ e)
/-- all but two objects are kept -/
def Fr (p ap : Addr) (H H' : Hp) : Prop := ∀ b o, b ≠ p → b ≠ ap → H b = some o → H' b = some o
theorem Fr.of {p ap : Addr} {H H' : Hp} (s : Same H H') : Fr p ap H H' := fun b o _ _ e => s _ _ e
theorem Fr.but1 {p ap : Addr} {H H' : Hp} (s : But p H H') : Fr p ap H H' := fun b o n _ e => s _ _ n e
theorem Fr.but2 {p ap : Addr} {H H' : Hp} (s : But ap H H') : Fr p ap H H' := fun b o _ n e => s _ _ n e
theorem Fr.trans {p ap : Addr} {H H1 H2 : Hp} (a : Fr p ap H H1) (b : Fr p ap H1 H2) : Fr p ap H H2 := fun c o n m e => b _ _ n m (a _ _ n m e)
def arrS (S : Sta) (k : Str) (c : Int) : Sta := ⟨stepR S.st k c, rarR S.R S.n c (leavR S.st k c), S.n + c, S.m + leavR S.st k c, S.B ++ brR S.R S.n (leavR S.st k c)⟩
def givS (S : Sta) (i c : Int) (k : Str) : Sta := ⟨withR k (numR S.st - c), ofR S.R i ++ wfR (wfR S.R i) c, S.n, S.m, S.B⟩
/-- the class, as the top has made it -/
structure ClsT (K : PySem.W.Frag) (mg : Str → Option Value) (C : Addr) : Prop where
  cl : Cls K C
  n1 : NoAttr K C "state"
  n2 : NoAttr K C "ranges"
  n3 : NoAttr K C "arrived"
  n4 : NoAttr K C "paired"
  n5 : NoAttr K C "blocks"
  n6 : NoAttr K C "past"
  mkS : mg "Station" = some (.ref C)
theorem nf_remember : NotF "remember" := ⟨by decide +kernel, by decide +kernel, by decide +kernel, by decide +kernel, by decide +kernel, by decide +kernel⟩
section
variable {P : Program} {w : World} {K : PySem.W.Frag} {mg : Str → Option Value} {base : Heap} {C : Addr}
/-! Station.__init__: slots 0:self -/
abbrev s_Station___init__ : Stmt := inClass (topS 47) 0
theorem sc_Station___init__ : FnScope ["self"] ["self"] (defScope s_Station___init__) := ⟨rfl, rfl, rfl, by decide +kernel, rfl, by decide +kernel, by decide +kernel⟩
def sp_Station_init (C : Addr) : Sp := fun vs H Q _ => ∃ (p dx : Addr), vs = [.ref p] ∧ H p = some (.ins C dx []) ∧ ∀ H' ap ar ab, But p H H' → H ap = none → H ar = none → H ab = none → Stn C H' p ap ar ab ⟨none, [], 0, 0, []⟩ [] → Q .non H'
theorem ok_Station___init__ (D : DfI K C "Station.__init__" s_Station___init__) (TS : ClsT K mg C) : HasI P w K mg base C 1 (sp_Station_init C) := by
  refine hasI_of D sc_Station___init__ (fun _ _ _ _ _ _ us hl => match us, hl with | [_], _ => rfl) (fun vs H Q E h => ?_) (fun f cdv A outer s₀ H vs Q E hr h => ?_)
  · obtain ⟨_, _, rfl, _⟩ := h
    rfl
  · obtain ⟨p, dx, rfl, hp, q⟩ := h
    refine ⟨_, (pss_cons (ps_fld (pv 0) pe_non rfl)
    (pss_cons (ps_fld (pv 0) (pe_lst pa_nil) rfl)
    (pss_cons (ps_fld (pv 0) pe_int rfl)
    (pss_cons (ps_fld (pv 0) pe_int rfl)
    (pss_cons (ps_fld (pv 0) (pe_lst pa_nil) rfl)
    (pss_one (ps_fld (pv 0) (pe_lst pa_nil) rfl))))))), ?_⟩
    have ls : ∀ {f : Str} {v : V} {fs : List (Str × V)} {j : Nat}, fs.length ≤ j → (putF f v fs).length ≤ j + 1 := fun h => Nat.le_trans (length_putF _ _ _) (Nat.add_le_add_right h 1)
    have l1 : (putF "state" V.non []).length ≤ 1 := ls (Nat.le_refl 0)
    refine ⟨_, rfl, p, C, dx, [], rfl, hp, TS.cl, TS.n1, (by show 0 < 1000; decide), ?_⟩
    have h1 : (upd H p (.ins C dx (putF "state" V.non []))) p = some (.ins C dx (putF "state" V.non [])) := upd_same
    have b1 : But p H (upd H p (.ins C dx (putF "state" V.non []))) := but_upd
    generalize upd H p (.ins C dx (putF "state" V.non [])) = H1 at *
    refine ⟨Nat.zero_le _, fun ar nr => ?_⟩
    have s2 := same_upd (o := .lst []) nr
    have hr2 : (upd H1 ar (.lst [])) ar = some (.lst []) := upd_same
    generalize upd H1 ar (.lst []) = H2 at *
    have l2 : (putF "ranges" (V.ref ar) (putF "state" V.non [])).length ≤ 2 := ls l1
    refine ⟨_, rfl, p, C, dx, _, rfl, s2 _ _ h1, TS.cl, TS.n2, by omega, ?_⟩
    have pr : ar ≠ p := (ne_of_none h1 nr).symm
    have h3 : (upd H2 p (.ins C dx (putF "ranges" (V.ref ar) (putF "state" V.non [])))) p = some (.ins C dx (putF "ranges" (V.ref ar) (putF "state" V.non []))) := upd_same
    have b3 : But p H2 (upd H2 p (.ins C dx (putF "ranges" (V.ref ar) (putF "state" V.non [])))) := but_upd
    generalize upd H2 p (.ins C dx (putF "ranges" (V.ref ar) (putF "state" V.non []))) = H3 at *
    have l3 : (putF "arrived" (V.int 0) (putF "ranges" (V.ref ar) (putF "state" V.non []))).length ≤ 3 := ls l2
    refine ⟨_, rfl, p, C, dx, _, rfl, h3, TS.cl, TS.n3, by omega, ?_⟩
    have h4 : (upd H3 p (.ins C dx (putF "arrived" (V.int 0) (putF "ranges" (V.ref ar) (putF "state" V.non []))))) p = some (.ins C dx (putF "arrived" (V.int 0) (putF "ranges" (V.ref ar) (putF "state" V.non [])))) := upd_same
    have b4 : But p H3 (upd H3 p (.ins C dx (putF "arrived" (V.int 0) (putF "ranges" (V.ref ar) (putF "state" V.non []))))) := but_upd
    generalize upd H3 p (.ins C dx (putF "arrived" (V.int 0) (putF "ranges" (V.ref ar) (putF "state" V.non [])))) = H4 at *
    have l4 : (putF "paired" (V.int 0) (putF "arrived" (V.int 0) (putF "ranges" (V.ref ar) (putF "state" V.non [])))).length ≤ 4 := ls l3
    refine ⟨_, rfl, p, C, dx, _, rfl, h4, TS.cl, TS.n4, by omega, ?_⟩
    have h5 : (upd H4 p (.ins C dx (putF "paired" (V.int 0) (putF "arrived" (V.int 0) (putF "ranges" (V.ref ar) (putF "state" V.non [])))))) p = some (.ins C dx (putF "paired" (V.int 0) (putF "arrived" (V.int 0) (putF "ranges" (V.ref ar) (putF "state" V.non []))))) := upd_same
    have b5 : But p H4 (upd H4 p (.ins C dx (putF "paired" (V.int 0) (putF "arrived" (V.int 0) (putF "ranges" (V.ref ar) (putF "state" V.non [])))))) := but_upd
    generalize upd H4 p (.ins C dx (putF "paired" (V.int 0) (putF "arrived" (V.int 0) (putF "ranges" (V.ref ar) (putF "state" V.non []))))) = H5 at *
    refine ⟨Nat.zero_le _, fun ab nb => ?_⟩
    have s6 := same_upd (o := .lst []) nb
    have hb6 : (upd H5 ab (.lst [])) ab = some (.lst []) := upd_same
    generalize upd H5 ab (.lst []) = H6 at *
    have pb : ab ≠ p := (ne_of_none h5 nb).symm
    have l5 : (putF "blocks" (V.ref ab) (putF "paired" (V.int 0) (putF "arrived" (V.int 0) (putF "ranges" (V.ref ar) (putF "state" V.non []))))).length ≤ 5 := ls l4
    refine ⟨_, rfl, p, C, dx, _, rfl, s6 _ _ h5, TS.cl, TS.n5, by omega, ?_⟩
    have h7 : (upd H6 p (.ins C dx (putF "blocks" (V.ref ab) (putF "paired" (V.int 0) (putF "arrived" (V.int 0) (putF "ranges" (V.ref ar) (putF "state" V.non []))))))) p = some (.ins C dx (putF "blocks" (V.ref ab) (putF "paired" (V.int 0) (putF "arrived" (V.int 0) (putF "ranges" (V.ref ar) (putF "state" V.non [])))))) := upd_same
    have b7 : But p H6 (upd H6 p (.ins C dx (putF "blocks" (V.ref ab) (putF "paired" (V.int 0) (putF "arrived" (V.int 0) (putF "ranges" (V.ref ar) (putF "state" V.non []))))))) := but_upd
    generalize upd H6 p (.ins C dx (putF "blocks" (V.ref ab) (putF "paired" (V.int 0) (putF "arrived" (V.int 0) (putF "ranges" (V.ref ar) (putF "state" V.non [])))))) = H7 at *
    refine ⟨Nat.zero_le _, fun ap na => ?_⟩
    have s8 := same_upd (o := .lst []) na
    have ha8 : (upd H7 ap (.lst [])) ap = some (.lst []) := upd_same
    generalize upd H7 ap (.lst []) = H8 at *
    have pa : ap ≠ p := (ne_of_none h7 na).symm
    refine ⟨_, rfl, p, C, dx, _, rfl, s8 _ _ h7, TS.cl, TS.n6, by omega, ?_⟩
    have B7 : But p H H7 := b1.trans ((Same.but s2).trans (b3.trans (b4.trans (b5.trans ((Same.but s6).trans b7)))))
    have r7 : H7 ar = some (.lst []) := b7 _ _ pr (s6 _ _ (b5 _ _ pr (b4 _ _ pr (b3 _ _ pr hr2))))
    have q7 : H7 ab = some (.lst []) := b7 _ _ pb hb6
    have fr : ∀ {H0 : Hp} {x : Addr}, But p H H0 → H0 x = none → x ≠ p → H x = none := fun {H0 x} b e n => by
      cases z : H x with
      | none => rfl
      | some o =>
        rw [b _ _ n z] at e
        cases e
    refine q _ ap ar ab ((B7.trans (Same.but s8)).trans but_upd) (fr B7 na pa) (fr b1 nr pr) (fr (b1.trans ((Same.but s2).trans (b3.trans (b4.trans b5)))) nb pb)
      ⟨⟨dx, .non, upd_same, rfl⟩, ⟨[], but_upd _ _ pr (s8 _ _ r7), .nil⟩, ⟨[], but_upd _ _ pb (s8 _ _ q7), .nil⟩, ⟨[], but_upd _ _ pa ha8, .nil⟩, ?_, ?_⟩
    · exact (ne_of_none r7 na).symm
    · exact (ne_of_none q7 na).symm
/-! Station.remember: slots 0:self 1:operation 2:before -/
abbrev s_Station_remember : Stmt := inClass (topS 47) 3
theorem sc_Station_remember : FnScope ["self", "operation", "before"] ["self", "operation"] (defScope s_Station_remember) := ⟨rfl, rfl, rfl, by decide +kernel, rfl, by decide +kernel, by decide +kernel⟩
end
end UP

set_option Elab.async false
set_option linter.all false
set_option maxRecDepth 100000
set_option maxHeartbeats 4000000
set_option pp.maxSteps 300
namespace UP
open PySem PySem.Spec PyProof.Rows L2
theorem num_le {st : Option Run} (h : PosO st) : 0 ≤ numR st := by
  cases st with
  | none => exact Int.le_refl _
  | some r =>
    have := h r rfl
    show 0 ≤ r.2
    omega
section
variable {P : Program} {w : World} {K : PySem.W.Frag} {mg : Str → Option Value} {base : Heap} {C : Addr}
/-! Station.arrive: slots 0:self 1:kind 2:count 3:leaving -/
abbrev s_Station_arrive : Stmt := inClass (topS 47) 4
theorem sc_Station_arrive : FnScope ["self", "kind", "count", "leaving"] ["self", "kind", "count"] (defScope s_Station_arrive) := ⟨rfl, rfl, rfl, by decide +kernel, rfl, by decide +kernel, by decide +kernel⟩
/-! Station.give_up: slots 0:self 1:index 2:count 3:waiting 4:later -/
abbrev s_Station_give_up : Stmt := inClass (topS 47) 5
theorem sc_Station_give_up : FnScope ["self", "index", "count", "waiting", "later"] ["self", "index", "count"] (defScope s_Station_give_up) := ⟨rfl, rfl, rfl, by decide +kernel, rfl, by decide +kernel, by decide +kernel⟩
/-! Station.current_state: slots 0:self -/
abbrev s_Station_current_state : Stmt := inClass (topS 47) 7
theorem sc_Station_current_state : FnScope ["self"] ["self"] (defScope s_Station_current_state) := ⟨rfl, rfl, rfl, by decide +kernel, rfl, by decide +kernel, by decide +kernel⟩
def sp_Station_current_state (C : Addr) : Sp := fun vs H Q _ => ∃ (p ap ar ab : Addr) (S : Sta) (ops : List Op), vs = [.ref p] ∧ Stn C H p ap ar ab S ops ∧ ∀ v, StV H v S.st → Q v H
theorem ok_Station_current_state (D : DfM K C "current_state" "Station.current_state" s_Station_current_state) (TS : ClsT K mg C) : HasM P w K mg base C 1 "current_state" ["self"] (sp_Station_current_state C) := by
  refine hasM_of D sc_Station_current_state (fun _ _ _ _ _ _ us hl => match us, hl with | [_], _ => rfl) (fun vs H Q E h => ?_) (fun f cdv A outer s₀ H vs Q E hr h => ?_)
  · obtain ⟨_, _, _, _, _, _, rfl, _⟩ := h
    rfl
  · obtain ⟨p, ap, ar, ab, S, ops, rfl, z, q⟩ := h
    obtain ⟨⟨dx, v, hp, hv⟩, _⟩ := z
    refine ⟨_, (pss_one (ps_ret (pe_fld (pv 0) rfl))), ?_⟩
    exact ⟨_, rfl, p, C, dx, _, _, rfl, hp, TS.cl, TS.n1, fl6_state .., q _ hv⟩
/-! Station.waiting_positions: slots 0:self -/
abbrev s_Station_waiting_positions : Stmt := inClass (topS 47) 8
theorem sc_Station_waiting_positions : FnScope ["self"] ["self"] (defScope s_Station_waiting_positions) := ⟨rfl, rfl, rfl, by decide +kernel, rfl, by decide +kernel, by decide +kernel⟩
def sp_Station_waiting_positions (C : Addr) : Sp := fun vs H Q _ => ∃ (p ap ar ab : Addr) (S : Sta) (ops : List Op), vs = [.ref p] ∧ Stn C H p ap ar ab S ops ∧ ∀ H' l, Same H H' → H l = none → Rngs H' l S.R → Q (.ref l) H'
theorem ok_Station_waiting_positions (D : DfM K C "waiting_positions" "Station.waiting_positions" s_Station_waiting_positions) (T : Tx mg) (TS : ClsT K mg C) : HasM P w K mg base C 1 "waiting_positions" ["self"] (sp_Station_waiting_positions C) := by
  refine hasM_of D sc_Station_waiting_positions (fun _ _ _ _ _ _ us hl => match us, hl with | [_], _ => rfl) (fun vs H Q E h => ?_) (fun f cdv A outer s₀ H vs Q E hr h => ?_)
  · obtain ⟨_, _, _, _, _, _, rfl, _⟩ := h
    rfl
  · obtain ⟨p, ap, ar, ab, S, ops, rfl, z, q⟩ := h
    obtain ⟨⟨dx, v, hp, hv⟩, ⟨xs, hx, hxp⟩, _⟩ := z
    refine ⟨_, (pss_one (ps_ret (pe_callTy call_list_of (by rfl) T.n_list (by decide +kernel) (pa_cons (pe_fld (pv 0) rfl) pa_nil)))), ?_⟩
    exact ⟨_, rfl, p, C, dx, _, _, rfl, hp, TS.cl, TS.n2, fl6_ranges .., ar, xs, rfl, .inl (.of hx), fun l nl => q _ l (same_upd nl) nl ⟨xs, upd_same, pvs_same (same_upd nl) hxp⟩⟩
/-! Station.arrival_count: slots 0:self -/
abbrev s_Station_arrival_count : Stmt := inClass (topS 47) 9
theorem sc_Station_arrival_count : FnScope ["self"] ["self"] (defScope s_Station_arrival_count) := ⟨rfl, rfl, rfl, by decide +kernel, rfl, by decide +kernel, by decide +kernel⟩
def sp_Station_arrival_count (C : Addr) : Sp := fun vs H Q _ => ∃ (p ap ar ab : Addr) (S : Sta) (ops : List Op), vs = [.ref p] ∧ Stn C H p ap ar ab S ops ∧ Q (.int S.n) H
theorem ok_Station_arrival_count (D : DfM K C "arrival_count" "Station.arrival_count" s_Station_arrival_count) (TS : ClsT K mg C) : HasM P w K mg base C 1 "arrival_count" ["self"] (sp_Station_arrival_count C) := by
  refine hasM_of D sc_Station_arrival_count (fun _ _ _ _ _ _ us hl => match us, hl with | [_], _ => rfl) (fun vs H Q E h => ?_) (fun f cdv A outer s₀ H vs Q E hr h => ?_)
  · obtain ⟨_, _, _, _, _, _, rfl, _⟩ := h
    rfl
  · obtain ⟨p, ap, ar, ab, S, ops, rfl, z, q⟩ := h
    obtain ⟨⟨dx, v, hp, hv⟩, _⟩ := z
    refine ⟨_, (pss_one (ps_ret (pe_fld (pv 0) rfl))), ?_⟩
    exact ⟨_, rfl, p, C, dx, _, _, rfl, hp, TS.cl, TS.n3, fl6_arrived .., q⟩
/-! Station.pair_total: slots 0:self -/
abbrev s_Station_pair_total : Stmt := inClass (topS 47) 10
theorem sc_Station_pair_total : FnScope ["self"] ["self"] (defScope s_Station_pair_total) := ⟨rfl, rfl, rfl, by decide +kernel, rfl, by decide +kernel, by decide +kernel⟩
def sp_Station_pair_total (C : Addr) : Sp := fun vs H Q _ => ∃ (p ap ar ab : Addr) (S : Sta) (ops : List Op), vs = [.ref p] ∧ Stn C H p ap ar ab S ops ∧ Q (.int S.m) H
theorem ok_Station_pair_total (D : DfM K C "pair_total" "Station.pair_total" s_Station_pair_total) (TS : ClsT K mg C) : HasM P w K mg base C 1 "pair_total" ["self"] (sp_Station_pair_total C) := by
  refine hasM_of D sc_Station_pair_total (fun _ _ _ _ _ _ us hl => match us, hl with | [_], _ => rfl) (fun vs H Q E h => ?_) (fun f cdv A outer s₀ H vs Q E hr h => ?_)
  · obtain ⟨_, _, _, _, _, _, rfl, _⟩ := h
    rfl
  · obtain ⟨p, ap, ar, ab, S, ops, rfl, z, q⟩ := h
    obtain ⟨⟨dx, v, hp, hv⟩, _⟩ := z
    refine ⟨_, (pss_one (ps_ret (pe_fld (pv 0) rfl))), ?_⟩
    exact ⟨_, rfl, p, C, dx, _, _, rfl, hp, TS.cl, TS.n4, fl6_paired .., q⟩
/-! Station.give_up_count: slots 0:self -/
abbrev s_Station_give_up_count : Stmt := inClass (topS 47) 11
theorem sc_Station_give_up_count : FnScope ["self"] ["self"] (defScope s_Station_give_up_count) := ⟨rfl, rfl, rfl, by decide +kernel, rfl, by decide +kernel, by decide +kernel⟩
def sp_Station_give_up_count (C : Addr) : Sp := fun vs H Q _ => ∃ (p ap ar ab : Addr) (S : Sta) (ops : List Op), vs = [.ref p] ∧ Stn C H p ap ar ab S ops ∧ Q (.int (S.n - 2 * S.m - numR S.st)) H
theorem ok_Station_give_up_count (D : DfM K C "give_up_count" "Station.give_up_count" s_Station_give_up_count) (TS : ClsT K mg C) (G_waiting_number : Has P w K mg base 1 "waiting_number" ["state"] sp_waiting_number) : HasM P w K mg base C 2 "give_up_count" ["self"] (sp_Station_give_up_count C) := by
  refine hasM_of D sc_Station_give_up_count (fun _ _ _ _ _ _ us hl => match us, hl with | [_], _ => rfl) (fun vs H Q E h => ?_) (fun f cdv A outer s₀ H vs Q E hr h => ?_)
  · obtain ⟨_, _, _, _, _, _, rfl, _⟩ := h
    rfl
  · obtain ⟨p, ap, ar, ab, S, ops, rfl, z, q⟩ := h
    obtain ⟨⟨dx, v, hp, hv⟩, _⟩ := z
    refine ⟨_, (pss_one (ps_ret (pe_op op_sub (pe_op op_sub (pe_fld (pv 0) rfl) (pe_op op_mul pe_int (pe_fld (pv 0) rfl))) (pe_callH G_waiting_number (hr.mono (by omega)) (by rfl) (pa_cons (pe_fld (pv 0) rfl) pa_nil))))), ?_⟩
    exact ⟨_, rfl, p, C, dx, _, _, rfl, hp, TS.cl, TS.n3, fl6_arrived .., _, rfl, p, C, dx, _, _, rfl, hp, TS.cl, TS.n4, fl6_paired .., _, _, rfl, rfl, .inl ⟨by decide, by decide⟩, _, _, rfl, rfl, _, rfl, p, C, dx, _, _, rfl, hp, TS.cl, TS.n1, fl6_state .., v, S.st, rfl, hv, _, _, rfl, rfl, q⟩
/-! Station.partner_at: slots 0:self 1:position -/
abbrev s_Station_partner_at : Stmt := inClass (topS 47) 12
theorem sc_Station_partner_at : FnScope ["self", "position"] ["self", "position"] (defScope s_Station_partner_at) := ⟨rfl, rfl, rfl, by decide +kernel, rfl, by decide +kernel, by decide +kernel⟩
def sp_Station_partner_at (C : Addr) : Sp := fun vs H Q _ => ∃ (p ap ar ab : Addr) (S : Sta) (ops : List Op) (i : Int), vs = [.ref p, .int i] ∧ Stn C H p ap ar ab S ops ∧ 0 ≤ i ∧ i < S.n ∧ Q (oI (pgR S.B i)) H
theorem ok_Station_partner_at (D : DfM K C "partner_at" "Station.partner_at" s_Station_partner_at) (TS : ClsT K mg C) (G_is_within : Has P w K mg base 2 "is_within" ["value", "low", "high"] sp_is_within) (G_partner_in : Has P w K mg base 1 "partner_in" ["blocks", "position"] sp_partner_in) : HasM P w K mg base C 3 "partner_at" ["self", "position"] (sp_Station_partner_at C) := by
  refine hasM_of D sc_Station_partner_at (fun _ _ _ _ _ _ us hl => match us, hl with | [_, _], _ => rfl) (fun vs H Q E h => ?_) (fun f cdv A outer s₀ H vs Q E hr h => ?_)
  · obtain ⟨_, _, _, _, _, _, _, rfl, _⟩ := h
    rfl
  · obtain ⟨p, ap, ar, ab, S, ops, i, rfl, z, i0, i1, q⟩ := h
    obtain ⟨⟨dx, v, hp, hv⟩, _, hB, _⟩ := z
    refine ⟨_, (pss_cons (ps_if (pt_not (pt_val (pe_callH G_is_within (hr.mono (by omega)) (by rfl) (pa_cons (pv 1) (pa_cons pe_int (pa_cons (pe_op op_sub (pe_fld (pv 0) rfl) pe_int) pa_nil)))))) (pss_one ps_never) pss_nil)
    (pss_one (ps_ret (pe_callH G_partner_in (hr.mono (by omega)) (by rfl) (pa_cons (pe_fld (pv 0) rfl) (pa_cons (pv 1) pa_nil)))))), ?_⟩
    refine ⟨_, rfl, _, rfl, p, C, dx, _, _, rfl, hp, TS.cl, TS.n3, fl6_arrived .., _, _, rfl, rfl, i, 0, _, rfl, _, rfl, iteN ?_ ?_⟩
    · rw [decide_eq_true ⟨i0, by omega⟩]
      rfl
    exact ⟨_, rfl, p, C, dx, _, _, rfl, hp, TS.cl, TS.n5, fl6_blocks .., _, rfl, ab, S.B, i, rfl, hB, q⟩
end
end UP

set_option Elab.async false
set_option linter.all false
set_option maxRecDepth 100000
set_option maxHeartbeats 4000000
set_option pp.maxSteps 300
namespace UP
open PySem PySem.Spec PyProof.Rows L2
/-! ### items one by one at a station -/
structure Mod where
  k : Str
  q : List Int
  P : List Pr
  c : Int
  g : Int
def oneM (M : Mod) (k : Str) : Mod := if M.q = [] ∨ M.k = k then ⟨k, M.q ++ [M.c], M.P, M.c + 1, M.g⟩ else ⟨M.k, M.q.drop 1, M.P ++ zpL (M.q.take 1) M.c, M.c + 1, M.g⟩
def arrM (M : Mod) (k : Str) : Nat → Mod
  | 0 => M
  | n + 1 => oneM (arrM M k n) k
def levM (M : Mod) (i n : Nat) : Mod := ⟨M.k, M.q.take i ++ M.q.drop (i + n), M.P, M.c, M.g + n⟩
theorem arr_c (M : Mod) (k : Str) : ∀ n : Nat, (arrM M k n).c = M.c + n
  | 0 => by
    show M.c = M.c + ((0 : Nat) : Int)
    omega
  | n + 1 => by
    have := arr_c M k n
    show (oneM (arrM M k n) k).c = _
    unfold oneM
    split
    · show (arrM M k n).c + 1 = _
      omega
    · show (arrM M k n).c + 1 = _
      omega
theorem arr_g (M : Mod) (k : Str) : ∀ n : Nat, (arrM M k n).g = M.g
  | 0 => rfl
  | n + 1 => by
    show (oneM (arrM M k n) k).g = _
    unfold oneM
    split <;> exact arr_g M k n
/-- the same kind, or nobody: all wait -/
theorem arr_same {M : Mod} {k : Str} (h : M.q = [] ∨ M.k = k) : ∀ n : Nat, (arrM M k n).q = M.q ++ posL M.c n ∧ (arrM M k n).P = M.P ∧ (arrM M k n).k = if n = 0 then M.k else k
  | 0 => ⟨(List.append_nil _).symm, rfl, rfl⟩
  | n + 1 => by
    obtain ⟨h1, h2, h3⟩ := arr_same h n
    have c : (arrM M k n).q = [] ∨ (arrM M k n).k = k := by
      by_cases n0 : n = 0
      · subst n0
        exact h
      · exact .inr (by rw [h3, if_neg n0])
    have e : arrM M k (n + 1) = ⟨k, (arrM M k n).q ++ [(arrM M k n).c], (arrM M k n).P, (arrM M k n).c + 1, (arrM M k n).g⟩ := if_pos c
    rw [e]
    refine ⟨?_, h2, by rw [if_neg (by omega)]⟩
    show (arrM M k n).q ++ [(arrM M k n).c] = _
    rw [h1, arr_c, posL_app n 1, List.append_assoc]
    rfl
theorem zp_take {q : List Int} {n : Nat} {x c : Int} (h : q[n]? = some x) : zpL (q.take (n + 1)) c = zpL (q.take n) c ++ [(x, c + n)] := by
  rw [take_snoc h, zpL_app]
  have : (q.take n).length = n := by
    have := (List.getElem?_eq_some_iff.mp h).1
    rw [List.length_take]
    omega
  rw [this]
  rfl
/-- another kind: pairs leave, what is left over waits -/
theorem arr_other {M : Mod} {k : Str} (h : ¬ (M.q = [] ∨ M.k = k)) : ∀ n : Nat, (arrM M k n).q = M.q.drop n ++ posL (M.c + M.q.length) (n - M.q.length) ∧ (arrM M k n).P = M.P ++ zpL (M.q.take n) M.c ∧ (arrM M k n).k = if M.q.length < n then k else M.k
  | 0 => by
    refine ⟨?_, ?_, ?_⟩
    · rw [Nat.zero_sub]
      exact (List.append_nil _).symm
    · exact (List.append_nil _).symm
    · rw [if_neg (by omega)]
      rfl
  | n + 1 => by
    obtain ⟨h1, h2, h3⟩ := arr_other h n
    have hc := arr_c M k n
    have hk : ¬ M.k = k := fun z => h (.inr z)
    by_cases c : n < M.q.length
    · obtain ⟨x, ex⟩ : ∃ x, M.q[n]? = some x := ⟨_, List.getElem?_eq_getElem c⟩
      have eq : (arrM M k n).q = x :: M.q.drop (n + 1) := by
        rw [h1, show n - M.q.length = 0 by omega, drop_at ex]
        exact List.append_nil _
      have ek : (arrM M k n).k = M.k := by rw [h3, if_neg (by omega)]
      have e : arrM M k (n + 1) = ⟨(arrM M k n).k, (arrM M k n).q.drop 1, (arrM M k n).P ++ zpL ((arrM M k n).q.take 1) (arrM M k n).c, (arrM M k n).c + 1, (arrM M k n).g⟩ := if_neg (by
        rintro (z | z)
        · rw [eq] at z
          cases z
        · exact hk (by rw [← ek]; exact z))
      rw [e]
      refine ⟨?_, ?_, ?_⟩
      · show (arrM M k n).q.drop 1 = _
        rw [eq, show n + 1 - M.q.length = 0 by omega]
        exact (List.append_nil _).symm
      · show (arrM M k n).P ++ zpL ((arrM M k n).q.take 1) (arrM M k n).c = _
        rw [h2, eq, hc, zp_take ex, List.append_assoc]
        rfl
      · show (arrM M k n).k = _
        rw [ek, if_neg (by omega)]
    · have e : arrM M k (n + 1) = ⟨k, (arrM M k n).q ++ [(arrM M k n).c], (arrM M k n).P, (arrM M k n).c + 1, (arrM M k n).g⟩ := if_pos (by
        by_cases c2 : n = M.q.length
        · refine .inl ?_
          rw [h1, List.drop_of_length_le (by omega), show n - M.q.length = 0 by omega]
          rfl
        · exact .inr (by rw [h3, if_pos (by omega)]))
      rw [e]
      refine ⟨?_, ?_, ?_⟩
      · show (arrM M k n).q ++ [(arrM M k n).c] = _
        rw [h1, hc, List.drop_of_length_le (by omega), List.drop_of_length_le (by omega), show n + 1 - M.q.length = (n - M.q.length) + 1 by omega, posL_app (n - M.q.length) 1, List.nil_append, List.nil_append, show M.c + (M.q.length : Int) + ((n - M.q.length : Nat) : Int) = M.c + n by omega]
        rfl
      · show (arrM M k n).P = _
        rw [h2, List.take_of_length_le (by omega), List.take_of_length_le (by omega)]
      · show k = _
        rw [if_pos (by omega)]
/-! ### each position stands once -/
structure MOk (M : Mod) : Prop where
  u : U M.P
  qn : M.q.Nodup
  qb : ∀ x ∈ M.q, 0 ≤ x ∧ x < M.c
  pb : ∀ p ∈ M.P, (0 ≤ p.1 ∧ p.1 < M.c) ∧ 0 ≤ p.2 ∧ p.2 < M.c
  qp : ∀ x ∈ M.q, ∀ p ∈ M.P, p.1 ≠ x ∧ p.2 ≠ x
  c0 : 0 ≤ M.c
theorem MOk.one {M : Mod} (h : MOk M) (k : Str) : MOk (oneM M k) := by
  obtain ⟨u, qn, qb, pb, qp, c0⟩ := h
  unfold oneM
  split
  · refine ⟨u, ?_, fun x hx => ?_, fun p hp => ?_, fun x hx p hp => ?_, by show 0 ≤ M.c + 1; omega⟩
    · show (M.q ++ [M.c]).Nodup
      refine List.nodup_append.mpr ⟨qn, List.nodup_cons.mpr ⟨(by simp), List.nodup_nil⟩, fun a ha b hb => ?_⟩
      rw [List.mem_singleton.mp hb]
      have := qb a ha
      omega
    · show 0 ≤ x ∧ x < M.c + 1
      rcases List.mem_append.mp hx with z | z
      · have := qb x z
        omega
      · rw [List.mem_singleton.mp z]
        omega
    · have := pb p hp
      show (0 ≤ p.1 ∧ p.1 < M.c + 1) ∧ 0 ≤ p.2 ∧ p.2 < M.c + 1
      omega
    · rcases List.mem_append.mp hx with z | z
      · exact qp x z p hp
      · rw [List.mem_singleton.mp z]
        have := pb p hp
        omega
  · rename_i hn
    cases eq : M.q with
    | nil => exact absurd (.inl eq) hn
    | cons x t =>
      rw [eq] at qn qb qp
      have hx := qb x (List.mem_cons_self ..)
      have xt := (List.nodup_cons.mp qn).1
      have mP : ∀ p ∈ M.P ++ zpL ((x :: t).take 1) M.c, p ∈ M.P ∨ p = (x, M.c) := fun p hp => by
        rcases List.mem_append.mp hp with z | z
        · exact .inl z
        · exact .inr (List.mem_singleton.mp z)
      have qx := qp x (List.mem_cons_self ..)
      refine ⟨⟨fun a ha b hb e => ?_, fun a ha b hb e => ?_, fun a ha b hb e => ?_⟩, (List.nodup_cons.mp qn).2, fun y hy => ?_, fun p hp => ?_, fun y hy p hp => ?_, by show 0 ≤ M.c + 1; omega⟩
      · rcases mP a ha with z | z <;> rcases mP b hb with y | y
        · exact u.fst a z b y e
        · rw [y] at e
          exact absurd e (qx a z).1
        · rw [z] at e
          exact absurd e.symm (qx b y).1
        · rw [z, y]
      · rcases mP a ha with z | z <;> rcases mP b hb with y | y
        · exact u.snd a z b y e
        · rw [y] at e
          have := pb a z
          have e : a.2 = M.c := e
          omega
        · rw [z] at e
          have := pb b y
          have e : M.c = b.2 := e
          omega
        · rw [z, y]
      · rcases mP a ha with z | z <;> rcases mP b hb with y | y
        · exact u.dis a z b y e
        · rw [y] at e
          have := pb a z
          have e : a.1 = M.c := e
          omega
        · rw [z] at e
          exact (qx b y).2 e.symm
        · rw [z, y] at e
          have e : x = M.c := e
          omega
      · have := qb y (List.mem_cons_of_mem _ hy)
        show 0 ≤ y ∧ y < M.c + 1
        omega
      · show (0 ≤ p.1 ∧ p.1 < M.c + 1) ∧ 0 ≤ p.2 ∧ p.2 < M.c + 1
        rcases mP p hp with z | z
        · have := pb p z
          omega
        · rw [z]
          show (0 ≤ x ∧ x < M.c + 1) ∧ 0 ≤ M.c ∧ M.c < M.c + 1
          omega
      · have hy : y ∈ t := hy
        have b := qb y (List.mem_cons_of_mem _ hy)
        rcases mP p hp with z | z
        · exact qp y (List.mem_cons_of_mem _ hy) p z
        · rw [z]
          refine ⟨fun e => ?_, ?_⟩
          · have e : x = y := e
            rw [e] at xt
            exact xt hy
          · show M.c ≠ y
            omega
theorem MOk.arr {M : Mod} (h : MOk M) (k : Str) : ∀ n, MOk (arrM M k n)
  | 0 => h
  | n + 1 => (MOk.arr h k n).one k
theorem mem_lev {q : List Int} {i n : Nat} {x : Int} (h : x ∈ q.take i ++ q.drop (i + n)) : x ∈ q := by
  rcases List.mem_append.mp h with z | z
  · exact List.mem_of_mem_take z
  · exact List.mem_of_mem_drop z
theorem MOk.lev {M : Mod} (h : MOk M) (i n : Nat) : MOk (levM M i n) := by
  obtain ⟨u, qn, qb, pb, qp, c0⟩ := h
  refine ⟨u, ?_, fun x hx => qb x (mem_lev hx), pb, fun x hx => qp x (mem_lev hx), c0⟩
  show (M.q.take i ++ M.q.drop (i + n)).Nodup
  have sub : (M.q.take i ++ M.q.drop (i + n)).Sublist M.q := by
    have h1 : (M.q.drop (i + n)).Sublist (M.q.drop i) := by
      rw [← List.drop_drop]
      exact List.drop_sublist _ _
    have h2 := List.Sublist.append (List.Sublist.refl (M.q.take i)) h1
    rw [List.take_append_drop] at h2
    exact h2
  exact sub.nodup qn
/-! ### the station and its items -/
structure MR (M : Mod) (S : Sta) : Prop where
  st : S.st = if M.q = [] then none else some (M.k, (M.q.length : Int))
  fl : flR S.R = M.q
  gd : Gd S.R M.c
  n : S.n = M.c
  m : S.m = M.P.length
  fb : flB S.B = M.P
  pb : PosB S.B
  tot : M.c = 2 * (M.P.length : Int) + (M.q.length : Int) + M.g
  ok : MOk M
theorem Gd.snocR {b : Int} {p : Rg} : ∀ {R : List Rg}, Gd (R ++ [p]) b → Gd R b ∧ p.1 ≤ p.2
  | [], g => ⟨True.intro, g.1⟩
  | [q], g => ⟨⟨g.1, g.2.1, (fun x h => by cases h), True.intro⟩, g.2.2.2.1⟩
  | q :: r :: t, g => by
    obtain ⟨h1, h2⟩ := Gd.snocR (R := r :: t) g.2.2.2
    exact ⟨⟨g.1, g.2.1, (fun x h => g.2.2.1 x h), h1⟩, h2⟩
theorem fl_ad {b f e : Int} : ∀ {W : List Rg}, Gd W b → b ≤ f → f ≤ e → flR (adR W f e) = flR W ++ posL f (e - f + 1).toNat ∧ Gd (adR W f e) (e + 1) := by
  intro W g h1 h2
  rcases List.eq_nil_or_concat W with e0 | ⟨W0, y, e0⟩
  · subst e0
    refine ⟨?_, ?_⟩
    · show flP (f, e) ++ [] = [] ++ _
      rw [List.append_nil, List.nil_append]
      rfl
    · exact Gd.snoc (R := []) (b := e + 1) (p := (f, e)) True.intro h2 (by show e < e + 1; omega) (fun l h => by cases h)
  · rw [List.concat_eq_append] at e0
    subst e0
    have gl := Gd.last g y List.getLast?_concat
    have gap := Gd.gap g
    have ead : adR (W0 ++ [y]) f e = if y.2 + 1 = f then W0 ++ [(y.1, e)] else (W0 ++ [y]) ++ [(f, e)] := by
      unfold adR
      rw [List.getLast?_concat]
      show (if y.2 + 1 = f then _ else _) = _
      rw [List.dropLast_concat]
    have g0 : Gd W0 b ∧ y.1 ≤ y.2 := Gd.snocR g
    rw [ead]
    split
    · rename_i hy
      refine ⟨?_, Gd.snoc (p := (y.1, e)) (g0.1.mono (by omega)) (by show y.1 ≤ e; omega) (by show e < e + 1; omega) (fun l hl => gap l hl)⟩
      rw [flR_app, flR_app, List.append_assoc]
      congr 1
      show flP (y.1, e) ++ [] = (flP y ++ []) ++ posL f (e - f + 1).toNat
      rw [List.append_nil, List.append_nil]
      unfold flP
      have e1 : (e - y.1 + 1).toNat = (y.2 - y.1 + 1).toNat + (e - f + 1).toNat := by omega
      show posL y.1 (e - y.1 + 1).toNat = _
      rw [e1, posL_app, show y.1 + ((y.2 - y.1 + 1).toNat : Int) = f by omega]
    · rename_i hy
      refine ⟨?_, Gd.snoc (p := (f, e)) (g.mono (by omega)) h2 (by show e < e + 1; omega) (fun l hl => ?_)⟩
      · rw [flR_app]
        congr 1
        show flP (f, e) ++ [] = _
        rw [List.append_nil]
        rfl
      · rw [List.getLast?_concat] at hl
        cases hl
        show y.2 + 1 < f
        omega
theorem step_none {k : Str} {c : Int} (h : 1 ≤ c) : stepR none k c = some (k, c) := rfl
theorem len_posL (a : Int) (n : Nat) : (posL a n).length = n := posL_len n a
/-- arrivals -/
theorem MR.arr {M : Mod} {S : Sta} (h : MR M S) (k : Str) {n : Nat} (n1 : 1 ≤ n) : MR (arrM M k n) (arrS S k n) ∧ leavR S.st k n = ((arrM M k n).P.length : Int) - M.P.length := by
  obtain ⟨st, fl, gd, hn, hm, fb, pb, tot, ok⟩ := h
  have hc := arr_c M k n
  have hg := arr_g M k n
  have ok' := ok.arr k n
  by_cases c : M.q = [] ∨ M.k = k
  · obtain ⟨q1, q2, q3⟩ := arr_same c n
    rw [if_neg (by omega)] at q3
    have lv : leavR S.st k n = 0 := by
      rw [st]
      split
      · rfl
      · rename_i z
        have : M.k = k := by
          rcases c with c | c
          · exact absurd c z
          · exact c
        exact if_pos this
    have hw : wfR S.R 0 = S.R := wf_zero gd
    have er : rarR S.R S.n n 0 = adR S.R M.c (M.c + n - 1) := by
      unfold rarR
      rw [if_pos (by omega), hw, hn, Int.add_zero]
    obtain ⟨a1, a2⟩ := fl_ad (e := M.c + n - 1) gd (Int.le_refl _) (by omega)
    have fb0 : flB (brR S.R S.n 0) = [] := by
      rw [fl_br gd (Int.le_refl _)]
      rfl
    refine ⟨⟨?_, ?_, ?_, ?_, ?_, ?_, ?_, ?_, ok'⟩, by rw [lv, q2]; omega⟩
    · show stepR S.st k n = _
      have ne : ¬ (arrM M k n).q = [] := fun z => by
        have := congrArg List.length z
        rw [q1, List.length_append, len_posL] at this
        have : M.q.length + n = 0 := this
        omega
      rw [if_neg ne, q3, q1, List.length_append, len_posL, st]
      split
      · rename_i z
        rw [z]
        show stepR none k n = some (k, ((0 + n : Nat) : Int))
        rw [Nat.zero_add]
        exact step_none (by omega)
      · rename_i z
        have e : M.k = k := by
          rcases c with c | c
          · exact absurd c z
          · exact c
        rw [step_same (r := (M.k, (M.q.length : Int))) e]
        rfl
    · show flR (rarR S.R S.n n (leavR S.st k n)) = _
      rw [lv, er, a1, fl, q1, show (M.c + (n : Int) - 1 - M.c + 1).toNat = n by omega]
    · show Gd (rarR S.R S.n n (leavR S.st k n)) _
      rw [lv, er, hc]
      exact a2.mono (by omega)
    · show S.n + n = _
      rw [hn, hc]
    · show S.m + leavR S.st k n = _
      rw [lv, hm, q2, Int.add_zero]
    · show flB (S.B ++ brR S.R S.n (leavR S.st k n)) = _
      rw [lv, flB_app, fb, fb0, q2, List.append_nil]
    · intro x hx
      rcases List.mem_append.mp hx with z | z
      · exact pb x z
      · exact pos_brR _ _ _ x z
    · rw [hc, hg, q1, q2, List.length_append, len_posL]
      omega
  · obtain ⟨q1, q2, q3⟩ := arr_other c n
    have qne : ¬ M.q = [] := fun z => c (.inl z)
    have kne : M.k ≠ k := fun z => c (.inr z)
    have l1 : 1 ≤ M.q.length := by
      cases e : M.q with
      | nil => exact absurd e qne
      | cons x t =>
        show 1 ≤ t.length + 1
        omega
    rw [if_neg qne] at st
    obtain ⟨l, el⟩ : ∃ l : Nat, l = min M.q.length n := ⟨_, rfl⟩
    have lv : leavR S.st k n = l := by
      rw [st]
      show (if M.k = k then (0 : Int) else if (n : Int) < M.q.length then n else M.q.length) = l
      rw [if_neg kne]
      split <;> omega
    have pl : (arrM M k n).P.length = M.P.length + l := by
      rw [q2, List.length_append, zpL_len, List.length_take]
      omega
    have wfl : flR (wfR S.R l) = M.q.drop l := by
      rw [wf_flat gd (by omega), fl, Int.toNat_natCast]
    have wgd : Gd (wfR S.R l) M.c := wf_good gd (by omega)
    have fbl : flB (brR S.R S.n l) = zpL (M.q.take n) M.c := by
      rw [fl_br gd (by omega), fl, hn, Int.toNat_natCast]
      congr 1
      by_cases c2 : n ≤ M.q.length
      · rw [show l = n by omega]
      · rw [List.take_of_length_le (by omega), List.take_of_length_le (by omega)]
    refine ⟨⟨?_, ?_, ?_, ?_, ?_, ?_, ?_, ?_, ok'⟩, by rw [lv, pl]; omega⟩
    · show stepR S.st k n = _
      rw [st, step_other (r := (M.k, (M.q.length : Int))) kne, q1, q3]
      show (if 0 < (M.q.length : Int) - n then some (M.k, (M.q.length : Int) - n) else if (M.q.length : Int) - n = 0 then none else some (k, -((M.q.length : Int) - n))) = _
      by_cases c2 : n < M.q.length
      · rw [if_pos (show 0 < (M.q.length : Int) - n by omega), show n - M.q.length = 0 by omega]
        have ne : ¬ M.q.drop n ++ posL (M.c + M.q.length) 0 = [] := fun z => by
          have := congrArg List.length z
          rw [List.length_append, List.length_drop] at this
          have : M.q.length - n + 0 = 0 := this
          omega
        rw [if_neg ne, if_neg (show ¬ M.q.length < n by omega), List.length_append, List.length_drop]
        congr 2
        show (M.q.length : Int) - n = ((M.q.length - n + 0 : Nat) : Int)
        omega
      · rw [if_neg (show ¬ 0 < (M.q.length : Int) - n by omega)]
        by_cases c3 : n = M.q.length
        · rw [if_pos (show (M.q.length : Int) - n = 0 by omega), show n - M.q.length = 0 by omega, List.drop_of_length_le (by omega), if_pos (show ([] : List Int) ++ posL (M.c + M.q.length) 0 = [] from rfl)]
        · rw [if_neg (show ¬ (M.q.length : Int) - n = 0 by omega), List.drop_of_length_le (by omega), List.nil_append]
          have ne : ¬ posL (M.c + M.q.length) (n - M.q.length) = [] := fun z => by
            have := congrArg List.length z
            rw [len_posL] at this
            have : n - M.q.length = 0 := this
            omega
          rw [if_neg ne, if_pos (show M.q.length < n by omega), len_posL]
          congr 2
          omega
    · show flR (rarR S.R S.n n (leavR S.st k n)) = _
      rw [lv, q1]
      unfold rarR
      by_cases c2 : n ≤ M.q.length
      · rw [if_neg (by omega), wfl, show l = n by omega, show n - M.q.length = 0 by omega]
        exact (List.append_nil _).symm
      · rw [if_pos (by omega), hn]
        have a1 := (fl_ad (f := M.c + l) (e := M.c + n - 1) wgd (by omega) (by omega)).1
        rw [a1, wfl, List.drop_of_length_le (by omega), List.drop_of_length_le (by omega), List.nil_append, List.nil_append, show (M.c + (n : Int) - 1 - (M.c + l) + 1).toNat = n - M.q.length by omega, show M.c + (l : Int) = M.c + M.q.length by omega]
    · show Gd (rarR S.R S.n n (leavR S.st k n)) _
      rw [lv, hc]
      unfold rarR
      by_cases c2 : n ≤ M.q.length
      · rw [if_neg (by omega)]
        exact wgd.mono (by omega)
      · rw [if_pos (by omega), hn]
        exact (fl_ad (f := M.c + l) (e := M.c + n - 1) wgd (by omega) (by omega)).2.mono (by omega)
    · show S.n + n = _
      rw [hn, hc]
    · show S.m + leavR S.st k n = _
      rw [lv, hm, pl]
      omega
    · show flB (S.B ++ brR S.R S.n (leavR S.st k n)) = _
      rw [lv, flB_app, fb, fbl, q2]
    · intro x hx
      rcases List.mem_append.mp hx with z | z
      · exact pb x z
      · exact pos_brR _ _ _ x z
    · rw [hc, hg, pl, q1, List.length_append, len_posL, List.length_drop]
      omega
/-! ### items that give up -/
theorem of_flat {b : Int} : ∀ {R : List Rg} {n : Int}, Gd R b → 0 ≤ n → flR (ofR R n) = (flR R).take n.toNat
  | [], n, _, _ => by
    show [] = ([] : List Int).take _
    rw [List.take_nil]
  | p :: t, n, g, h => by
    obtain ⟨r1, r2, r3, r4⟩ := rm_le g.1 h
    have lp : (flP p).length = (p.2 - p.1 + 1).toNat := posL_len _ _
    show flR (ofP p n ++ ofR t (n - rmR p n)) = _
    rw [flR_app, flR_cons, take_app, lp, of_flat g.2.2.2 (by omega)]
    have e1 : flR (ofP p n) = (flP p).take n.toNat := by
      unfold ofP
      by_cases c : 0 < rmR p n
      · rw [if_pos c]
        show flP (p.1, p.1 + rmR p n - 1) ++ [] = _
        rw [List.append_nil]
        unfold flP
        show posL p.1 (p.1 + rmR p n - 1 - p.1 + 1).toNat = _
        rw [show (p.1 + rmR p n - 1 - p.1 + 1).toNat = (rmR p n).toNat by omega]
        by_cases c2 : rmR p n < p.2 - p.1 + 1
        · rw [posL_take _ _ _ (by have := r4 c2; omega), r4 c2]
        · rw [List.take_of_length_le (by rw [posL_len]; omega), show (rmR p n).toNat = (p.2 - p.1 + 1).toNat by omega]
      · rw [if_neg c]
        have n0 : n = 0 := by
          by_cases c2 : rmR p n < p.2 - p.1 + 1
          · have := r4 c2
            omega
          · have := g.1
            omega
        rw [n0]
        rfl
    rw [e1]
    congr 1
    by_cases c2 : rmR p n < p.2 - p.1 + 1
    · have := r4 c2
      rw [show (n - rmR p n).toNat = 0 by omega, show n.toNat - (p.2 - p.1 + 1).toNat = 0 by omega]
    · rw [show (n - rmR p n).toNat = n.toNat - (p.2 - p.1 + 1).toNat by omega]
/-- the first ranges, and what follows them at a distance -/
theorem of_good {b : Int} : ∀ {R : List Rg} {n : Int}, Gd R b → 0 ≤ n → Gd (ofR R n) b ∧ ∀ x, (ofR R n).head? = some x → ∀ y, R.head? = some y → x.1 = y.1
  | [], n, _, _ => ⟨True.intro, fun x h => by cases h⟩
  | p :: t, n, g, h => by
    obtain ⟨r1, r2, r3, r4⟩ := rm_le g.1 h
    obtain ⟨ih1, ih2⟩ := of_good (n := n - rmR p n) g.2.2.2 (by omega)
    show Gd (ofP p n ++ ofR t (n - rmR p n)) b ∧ ∀ x, (ofP p n ++ ofR t (n - rmR p n)).head? = some x → ∀ y, (p :: t).head? = some y → x.1 = y.1
    unfold ofP
    by_cases c : 0 < rmR p n
    · rw [if_pos c]
      have hb := g.2.1
      refine ⟨⟨by show p.1 ≤ p.1 + rmR p n - 1; omega, by show p.1 + rmR p n - 1 < b; omega, fun x hx => ?_, ih1⟩, fun x hx y hy => ?_⟩
      · have hx : (ofR t (n - rmR p n)).head? = some x := hx
        show p.1 + rmR p n - 1 + 1 < x.1
        cases t with
        | nil => cases hx
        | cons y u =>
          have e := ih2 x hx y rfl
          have g2 := g.2.2.1 y rfl
          rw [e]
          omega
      · cases hx
        cases hy
        rfl
    · rw [if_neg c]
      have n0 : n = 0 := by
        by_cases c2 : rmR p n < p.2 - p.1 + 1
        · have := r4 c2
          omega
        · have := g.1
          omega
      have e0 : ofR t (n - rmR p n) = [] := by
        have e : n - rmR p n = 0 := by omega
        rw [e]
        have z : ∀ l : List Rg, (∀ q ∈ l, q.1 ≤ q.2) → ofR l 0 = [] := by
          intro l
          induction l with
          | nil => intro _; rfl
          | cons a u ih =>
            intro k
            have ka := k a (List.mem_cons_self ..)
            have ra : rmR a 0 = 0 := by
              unfold rmR
              rw [if_neg (by omega)]
            show ofP a 0 ++ ofR u (0 - rmR a 0) = []
            unfold ofP
            rw [ra, if_neg (by omega), Int.sub_zero, ih fun q hq => k q (List.mem_cons_of_mem _ hq)]
            rfl
        have all : ∀ l : List Rg, Gd l b → ∀ q ∈ l, q.1 ≤ q.2 := by
          intro l
          induction l with
          | nil => intro _ q hq; cases hq
          | cons a u ih =>
            intro gl q hq
            rcases List.mem_cons.mp hq with y | y
            · rw [y]
              exact gl.1
            · exact ih gl.2.2.2 q y
        exact z t (all t g.2.2.2)
      rw [e0]
      exact ⟨True.intro, fun x hx => by cases hx⟩
/-- two good lists of ranges, one behind the other -/
theorem gd_cat {b : Int} : ∀ {A B : List Rg}, Gd A b → Gd B b → (∀ x y, A.getLast? = some x → B.head? = some y → x.2 + 1 < y.1) → Gd (A ++ B) b
  | [], _, _, h, _ => h
  | [p], B, g, h, k => ⟨g.1, g.2.1, fun x hx => k p x rfl hx, h⟩
  | p :: r :: t, B, g, h, k => ⟨g.1, g.2.1, fun x hx => g.2.2.1 x hx, gd_cat (A := r :: t) g.2.2.2 h fun x y hx hy => k x y (by rw [List.getLast?_cons_cons]; exact hx) hy⟩
theorem fl_last {b : Int} {A : List Rg} (g : Gd A b) {x : Rg} (h : A.getLast? = some x) : (flR A).getLast? = some x.2 := by
  rcases List.eq_nil_or_concat A with e0 | ⟨W0, y, e0⟩
  · rw [e0] at h
    cases h
  · rw [List.concat_eq_append] at e0
    subst e0
    rw [List.getLast?_concat] at h
    have ex : y = x := Option.some.inj h
    rw [← ex]
    have hy := (Gd.snocR g).2
    rw [flR_app]
    show (flR W0 ++ (flP y ++ [])).getLast? = _
    rw [List.append_nil]
    unfold flP
    obtain ⟨j, ej⟩ : ∃ j : Nat, (y.2 - y.1 + 1).toNat = j + 1 := ⟨(y.2 - y.1).toNat, by omega⟩
    rw [ej, posL_app j 1, ← List.append_assoc]
    show (_ ++ [y.1 + (j : Int)]).getLast? = _
    rw [List.getLast?_concat]
    congr 1
    omega
theorem fl_head {b : Int} {A : List Rg} (g : Gd A b) {x : Rg} (h : A.head? = some x) : (flR A).head? = some x.1 := by
  cases A with
  | nil => cases h
  | cons p t =>
    have ex : p = x := Option.some.inj h
    rw [← ex]
    show (flP p ++ flR t).head? = _
    unfold flP
    obtain ⟨j, ej⟩ : ∃ j : Nat, (p.2 - p.1 + 1).toNat = j + 1 := ⟨(p.2 - p.1).toNat, by have := g.1; omega⟩
    rw [ej]
    rfl
/-- the positions of good ranges ascend -/
theorem fl_asc {b : Int} : ∀ {R : List Rg}, Gd R b → (flR R).Pairwise (· < ·)
  | [], _ => List.Pairwise.nil
  | p :: t, g => by
    show (flP p ++ flR t).Pairwise (· < ·)
    refine List.pairwise_append.mpr ⟨?_, fl_asc g.2.2.2, fun x hx y hy => ?_⟩
    · have gen : ∀ (n : Nat) (a : Int), (posL a n).Pairwise (· < ·) := by
        intro n
        induction n with
        | zero => intro a; exact List.Pairwise.nil
        | succ n ih =>
          intro a
          refine List.pairwise_cons.mpr ⟨fun y hy => ?_, ih (a + 1)⟩
          have := posL_ge n (a + 1) y hy
          omega
      exact gen _ _
    · have hx := posL_ge _ _ x hx
      have lo : ∀ {R : List Rg} {lo : Int}, Gd R b → (∀ z, R.head? = some z → lo < z.1) → ∀ y ∈ flR R, lo < y := by
        intro R
        induction R with
        | nil => intro lo _ _ y hy; cases hy
        | cons q u ih =>
          intro lo gq hz y hy
          have hq := hz q rfl
          rcases List.mem_append.mp (show y ∈ flP q ++ flR u from hy) with z | z
          · have := posL_ge _ _ y z
            omega
          · exact ih (lo := lo) gq.2.2.2 (fun x hx => by have := gq.2.2.1 x hx; have := gq.1; omega) y z
      have hp := g.1
      have := lo (lo := p.2 + 1) g.2.2.2 (fun z hz => g.2.2.1 z hz) y hy
      omega
theorem MR.lev {M : Mod} {S : Sta} (h : MR M S) {i n : Nat} (n1 : 1 ≤ n) (l : i + n ≤ M.q.length) : MR (levM M i n) (givS S i n M.k) ∧ numR S.st = M.q.length ∧ S.st = some (M.k, numR S.st) ∧ ∃ x z, M.q[i]? = some x ∧ (wfR S.R i).head? = some z ∧ z.1 = x := by
  obtain ⟨st, fl, gd, hn, hm, fb, pb, tot, ok⟩ := h
  have qne : ¬ M.q = [] := fun z => by
    rw [z] at l
    have : i + n ≤ 0 := l
    omega
  rw [if_neg qne] at st
  have nu : numR S.st = M.q.length := by
    rw [st]
    rfl
  have w1 : flR (wfR S.R i) = M.q.drop i := by
    rw [wf_flat gd (by omega), fl, Int.toNat_natCast]
  have g1 : Gd (wfR S.R i) M.c := wf_good gd (by omega)
  have w2 : flR (wfR (wfR S.R i) n) = M.q.drop (i + n) := by
    rw [wf_flat g1 (by omega), w1, List.drop_drop, Int.toNat_natCast]
  have g2 : Gd (wfR (wfR S.R i) n) M.c := wf_good g1 (by omega)
  have o1 : flR (ofR S.R i) = M.q.take i := by
    rw [of_flat gd (by omega), fl, Int.toNat_natCast]
  have g0 := (of_good (n := (i : Int)) gd (by omega)).1
  obtain ⟨x, ex⟩ : ∃ x, M.q[i]? = some x := ⟨_, List.getElem?_eq_getElem (by omega)⟩
  have asc := fl_asc gd
  rw [fl] at asc
  refine ⟨⟨?_, ?_, ?_, hn, hm, fb, pb, ?_, ok.lev i n⟩, nu, by rw [nu]; exact st, x, ?_⟩
  · show withR M.k (numR S.st - n) = if M.q.take i ++ M.q.drop (i + n) = [] then none else some (M.k, ((M.q.take i ++ M.q.drop (i + n)).length : Int))
    have ll : (M.q.take i ++ M.q.drop (i + n)).length = M.q.length - n := by
      rw [List.length_append, List.length_take, List.length_drop]
      omega
    rw [nu, ll]
    unfold withR
    by_cases c : M.q.length = n
    · rw [if_pos (by omega), if_pos (List.length_eq_zero_iff.mp (by omega))]
    · rw [if_neg (by omega), if_neg (fun z => by have := congrArg List.length z; rw [ll] at this; have : M.q.length - n = 0 := this; omega)]
      congr 2
      omega
  · show flR (ofR S.R i ++ wfR (wfR S.R i) n) = M.q.take i ++ M.q.drop (i + n)
    rw [flR_app, o1, w2]
  · show Gd (ofR S.R i ++ wfR (wfR S.R i) n) M.c
    refine gd_cat g0 g2 fun a b ha hb => ?_
    have la := fl_last g0 ha
    have hb2 := fl_head g2 hb
    rw [o1] at la
    rw [w2] at hb2
    -- at least one position lies between them
    have i0 : 0 < i := by
      by_cases c : i = 0
      · subst c
        cases la
      · omega
    have ea : M.q[i - 1]? = some a.2 := by
      rw [List.getLast?_eq_getElem?, List.length_take, List.getElem?_take] at la
      rw [show min i M.q.length - 1 = i - 1 by omega, if_pos (by omega)] at la
      exact la
    have eb : M.q[i + n]? = some b.1 := by
      rw [List.head?_drop] at hb2
      exact hb2
    obtain ⟨la1, la2⟩ := List.getElem?_eq_some_iff.mp ea
    obtain ⟨lb1, lb2⟩ := List.getElem?_eq_some_iff.mp eb
    obtain ⟨lx1, lx2⟩ := List.getElem?_eq_some_iff.mp ex
    have h1 := List.pairwise_iff_getElem.mp asc (i - 1) i la1 lx1 (by omega)
    have h2 := List.pairwise_iff_getElem.mp asc i (i + n) lx1 lb1 (by omega)
    rw [la2, lx2] at h1
    rw [lx2, lb2] at h2
    omega
  · show M.c = 2 * (M.P.length : Int) + ((M.q.take i ++ M.q.drop (i + n)).length : Int) + (M.g + n)
    rw [List.length_append, List.length_take, List.length_drop]
    omega
  · cases ez : wfR S.R i with
    | nil =>
      rw [ez] at w1
      have : M.q.drop i = [] := w1.symm
      have := congrArg List.length this
      rw [List.length_drop] at this
      have : M.q.length - i = 0 := this
      omega
    | cons z t =>
      refine ⟨z, ex, rfl, ?_⟩
      have hz := fl_head g1 (x := z) (by rw [ez]; rfl)
      rw [w1, List.head?_drop, ex] at hz
      exact (Option.some.inj hz).symm
end UP

set_option Elab.async false
set_option linter.all false
set_option maxRecDepth 100000
set_option maxHeartbeats 4000000
set_option pp.maxSteps 300
namespace UP
open PySem PySem.Spec PyProof.Rows L2
/-! ### all counts multiplied -/
def scS (t : Int) (S : Sta) : Sta := ⟨scO t S.st, scP t S.R, S.n * t, S.m * t, scB t S.B⟩
theorem scP_app (t : Int) (A B : List Rg) : scP t (A ++ B) = scP t A ++ scP t B := List.map_append ..
theorem scB_app (t : Int) (A B : List Blk) : scB t (A ++ B) = scB t A ++ scB t B := List.map_append ..
theorem ad_sc {t : Int} (ht : 0 < t) (R : List Rg) (f l : Int) : adR (scP t R) (f * t) (l * t + t - 1) = scP t (adR R f l) := by
  unfold adR
  have eg : (scP t R).getLast? = R.getLast?.map fun p => (p.1 * t, p.2 * t + t - 1) := by
    unfold scP
    rw [List.getLast?_map]
  rw [eg]
  cases R.getLast? with
  | none =>
    show scP t R ++ [(f * t, l * t + t - 1)] = scP t (R ++ [(f, l)])
    rw [scP_app]
    rfl
  | some z =>
    show (if z.2 * t + t - 1 + 1 = f * t then (scP t R).dropLast ++ [(z.1 * t, l * t + t - 1)] else scP t R ++ [(f * t, l * t + t - 1)]) = scP t (if z.2 + 1 = f then R.dropLast ++ [(z.1, l)] else R ++ [(f, l)])
    have e : (z.2 + 1) * t = z.2 * t + t := by rw [Int.add_mul, Int.one_mul]
    have iff : z.2 * t + t - 1 + 1 = f * t ↔ z.2 + 1 = f := by
      rw [show z.2 * t + t - 1 + 1 = (z.2 + 1) * t by omega]
      exact eq_sc ht
    by_cases g : z.2 + 1 = f
    · rw [if_pos g, if_pos (iff.mpr g), scP_app]
      congr 1
      unfold scP
      rw [List.map_dropLast]
    · rw [if_neg g, if_neg (fun y => g (iff.mp y)), scP_app]
      rfl
theorem rar_sc {t : Int} (ht : 0 < t) (R : List Rg) (b c n : Int) : rarR (scP t R) (b * t) (c * t) (n * t) = scP t (rarR R b c n) := by
  unfold rarR
  rw [wfR_sc ht]
  by_cases g : n < c
  · rw [if_pos g, if_pos ((lt_sc ht).mpr g), ← ad_sc ht, ← Int.add_mul]
    congr 1
    rw [Int.sub_mul, Int.add_mul, Int.one_mul]
    omega
  · rw [if_neg g, if_neg (fun y => g ((lt_sc ht).mp y))]
theorem arr_sc {t : Int} (ht : 0 < t) (S : Sta) (k : Str) (c : Int) : arrS (scS t S) k (c * t) = scS t (arrS S k c) := by
  unfold arrS scS
  dsimp only
  rw [leav_sc ht, step_sc ht, rar_sc ht, brR_sc ht, scB_app, Int.add_mul, Int.add_mul]
theorem ofP_sc {p : Rg} {n t : Int} (ht : 0 < t) : ofP (p.1 * t, p.2 * t + t - 1) (n * t) = scP t (ofP p n) := by
  unfold ofP
  rw [rm_sc ht]
  by_cases g : 0 < rmR p n
  · rw [if_pos g, if_pos ((pos_sc ht).mpr g)]
    show [(p.1 * t, p.1 * t + rmR p n * t - 1)] = [(p.1 * t, (p.1 + rmR p n - 1) * t + t - 1)]
    rw [Int.sub_mul, Int.add_mul, Int.one_mul]
    congr 2
    omega
  · rw [if_neg g, if_neg (fun y => g ((pos_sc ht).mp y))]
    rfl
theorem ofR_sc {t : Int} (ht : 0 < t) : ∀ (R : List Rg) (n : Int), ofR (scP t R) (n * t) = scP t (ofR R n)
  | [], _ => rfl
  | p :: u, n => by
    show ofP (p.1 * t, p.2 * t + t - 1) (n * t) ++ ofR (scP t u) (n * t - rmR (p.1 * t, p.2 * t + t - 1) (n * t)) = scP t (ofP p n ++ ofR u (n - rmR p n))
    rw [ofP_sc ht, rm_sc ht, ← Int.sub_mul, ofR_sc ht u, scP_app]
theorem num_sc (t : Int) (st : Option Run) : numR (scO t st) = numR st * t := by
  cases st with
  | none =>
    show (0 : Int) = 0 * t
    rw [Int.zero_mul]
  | some r => rfl
theorem with_sc {t : Int} (ht : 0 < t) (k : Str) (n : Int) : withR k (n * t) = scO t (withR k n) := by
  unfold withR
  by_cases g : n = 0
  · rw [if_pos g, if_pos (by rw [g, Int.zero_mul])]
    rfl
  · rw [if_neg g, if_neg (fun y => g ((eq_sc (b := 0) ht).mp (by rw [Int.zero_mul]; exact y)))]
    rfl
theorem giv_sc {t : Int} (ht : 0 < t) (S : Sta) (i c : Int) (k : Str) : givS (scS t S) (i * t) (c * t) k = scS t (givS S i c k) := by
  unfold givS scS
  dsimp only
  rw [num_sc, ← Int.sub_mul, with_sc ht, ofR_sc ht, wfR_sc ht, wfR_sc ht, scP_app]
theorem pg_sc {t : Int} (ht : 0 < t) {a r : Int} (r0 : 0 ≤ r) (r1 : r < t) : ∀ (B : List Blk), pgR (scB t B) (a * t + r) = (pgR B a).map fun y => y * t + r
  | [] => rfl
  | x :: u => by
    have le : ∀ z : Int, z * t ≤ a * t + r ↔ z ≤ a := fun z => by
      have e : (a + 1) * t = a * t + t := by rw [Int.add_mul, Int.one_mul]
      have h1 := lt_sc (a := z) (b := a + 1) ht
      have h2 := le_sc (a := z) (b := a) ht
      rw [e] at h1
      constructor
      · intro h
        have := h1.mp (by omega)
        omega
      · intro h
        have := h2.mpr h
        omega
    have lt : ∀ z : Int, a * t + r < z * t ↔ a < z := fun z => by
      have := le z
      constructor
      · intro h
        by_cases c : a < z
        · exact c
        · have := this.mpr (by omega)
          omega
      · intro h
        by_cases c : a * t + r < z * t
        · exact c
        · have := this.mp (by omega)
          omega
    show (if x.1 * t ≤ a * t + r ∧ a * t + r < x.1 * t + x.2.2 * t then some (x.2.1 * t + (a * t + r) - x.1 * t) else if x.2.1 * t ≤ a * t + r ∧ a * t + r < x.2.1 * t + x.2.2 * t then some (x.1 * t + (a * t + r) - x.2.1 * t) else pgR (scB t u) (a * t + r)) = (if x.1 ≤ a ∧ a < x.1 + x.2.2 then some (x.2.1 + a - x.1) else if x.2.1 ≤ a ∧ a < x.2.1 + x.2.2 then some (x.1 + a - x.2.1) else pgR u a).map _
    rw [← Int.add_mul, ← Int.add_mul]
    by_cases c1 : x.1 ≤ a ∧ a < x.1 + x.2.2
    · rw [if_pos c1, if_pos ⟨(le _).mpr c1.1, (lt _).mpr c1.2⟩]
      show some _ = some ((x.2.1 + a - x.1) * t + r)
      rw [Int.sub_mul, Int.add_mul]
      congr 1
      omega
    · rw [if_neg c1, if_neg (fun y => c1 ⟨(le _).mp y.1, (lt _).mp y.2⟩)]
      by_cases c2 : x.2.1 ≤ a ∧ a < x.2.1 + x.2.2
      · rw [if_pos c2, if_pos ⟨(le _).mpr c2.1, (lt _).mpr c2.2⟩]
        show some _ = some ((x.1 + a - x.2.1) * t + r)
        rw [Int.sub_mul, Int.add_mul]
        congr 1
        omega
      · rw [if_neg c2, if_neg (fun y => c2 ⟨(le _).mp y.1, (lt _).mp y.2⟩)]
        exact pg_sc ht r0 r1 u
/-! ### the mates as a dict -/
def mateK (P : List Pr) : List (Key × V) := P.flatMap fun p => [(Sum.inl p.2, V.int p.1), (Sum.inl p.1, V.int p.2)]
theorem mate_len : ∀ P : List Pr, (mateK P).length = 2 * P.length
  | [] => rfl
  | p :: t => by
    show (mateK t).length + 1 + 1 = 2 * (t.length + 1)
    rw [mate_len t]
    omega
theorem mate_app (P Q : List Pr) : mateK (P ++ Q) = mateK P ++ mateK Q := List.flatMap_append ..
theorem mate_none {a : Int} : ∀ {P : List Pr}, (∀ p ∈ P, p.1 ≠ a ∧ p.2 ≠ a) → valV (mateK P) (Sum.inl a) = none
  | [], _ => rfl
  | p :: t, h => by
    obtain ⟨h1, h2⟩ := h p (List.mem_cons_self ..)
    show valV ((Sum.inl p.2, V.int p.1) :: (Sum.inl p.1, V.int p.2) :: mateK t) (Sum.inl a) = none
    rw [valV_neg (fun e => h2 (Sum.inl.inj e)), valV_neg (fun e => h1 (Sum.inl.inj e))]
    exact mate_none fun q hq => h q (List.mem_cons_of_mem _ hq)
theorem mate_val {a b : Int} : ∀ {P : List Pr}, U P → ((a, b) ∈ P ∨ (b, a) ∈ P) → valV (mateK P) (Sum.inl a) = some (.int b)
  | [], _, h => by rcases h with h | h <;> cases h
  | p :: t, u, h => by
    have ut : U t := ⟨fun x hx y hy => u.fst x (List.mem_cons_of_mem _ hx) y (List.mem_cons_of_mem _ hy), fun x hx y hy => u.snd x (List.mem_cons_of_mem _ hx) y (List.mem_cons_of_mem _ hy), fun x hx y hy => u.dis x (List.mem_cons_of_mem _ hx) y (List.mem_cons_of_mem _ hy)⟩
    have m0 : p ∈ p :: t := List.mem_cons_self ..
    show valV ((Sum.inl p.2, V.int p.1) :: (Sum.inl p.1, V.int p.2) :: mateK t) (Sum.inl a) = _
    by_cases c1 : p.2 = a
    · rw [valV_pos (by show Sum.inl p.2 = Sum.inl a; rw [c1])]
      show some (V.int p.1) = some (V.int b)
      rcases h with h | h
      · exact absurd c1.symm (u.dis _ h _ m0)
      · have e := u.snd _ h _ m0 c1.symm
        rw [← e]
    · rw [valV_neg (fun e => c1 (Sum.inl.inj e))]
      by_cases c2 : p.1 = a
      · rw [valV_pos (by show Sum.inl p.1 = Sum.inl a; rw [c2])]
        show some (V.int p.2) = some (V.int b)
        rcases h with h | h
        · have e := u.fst _ h _ m0 c2.symm
          rw [← e]
        · exact absurd c2 (u.dis _ m0 _ h)
      · rw [valV_neg (fun e => c2 (Sum.inl.inj e))]
        refine mate_val ut ?_
        rcases h with h | h
        · rcases List.mem_cons.mp h with e | e
          · exact absurd (by rw [← e]) c2
          · exact .inl e
        · rcases List.mem_cons.mp h with e | e
          · exact absurd (by rw [← e]) c1
          · exact .inr e
/-- the partner by the blocks is the mate of the dict -/
theorem MR.mate {M : Mod} {S : Sta} (h : MR M S) (a : Int) : valV (mateK M.P) (Sum.inl a) = (pgR S.B a).map V.int := by
  have u := h.ok.u
  by_cases c : ∃ b, (a, b) ∈ M.P ∨ (b, a) ∈ M.P
  · obtain ⟨b, hb⟩ := c
    rw [mate_val u hb]
    have u' := u
    rw [← h.fb] at u'
    rcases hb with z | z
    · rw [← h.fb] at z
      rw [pg_first S.B (a, b) h.pb u' z]
      rfl
    · rw [← h.fb] at z
      rw [pg_second S.B (b, a) h.pb u' z]
      rfl
  · have no : ∀ p ∈ M.P, p.1 ≠ a ∧ p.2 ≠ a := fun p hp => ⟨fun e => c ⟨p.2, .inl (by rw [← e]; exact hp)⟩, fun e => c ⟨p.1, .inr (by rw [← e]; exact hp)⟩⟩
    rw [mate_none no, pg_none S.B a h.pb (by rw [h.fb]; exact no)]
    rfl
/-- ranges of the waiting items -/
theorem MR.rg {M : Mod} {S : Sta} (h : MR M S) : S.R = rgR 1 M.q := by
  have := rg_flat S.R [] h.gd (fun l p hl => by cases hl)
  rw [h.fl] at this
  exact this.symm
end UP

set_option Elab.async false
set_option linter.all false
set_option maxRecDepth 100000
set_option maxHeartbeats 4000000
set_option pp.maxSteps 300
namespace UP
open PySem PySem.Spec PyProof.Rows L2
/-! ### an attribute as one of several targets -/
def gFld (K : PySem.W.Frag) (ta : TE) (f : Str) : TG := fun y σ H Q => ta σ H fun x H2 => ∃ a C dx fs, x = .ref a ∧ H2 a = some (.ins C dx fs) ∧ Cls K C ∧ NoAttr K C f ∧ fs.length < 1000 ∧ Q σ (upd H2 a (.ins C dx (putF f y fs)))
theorem pg_fld {X : Cx} {o : Expr} {ta : TE} {f : Str} {pos : Pos} (ho : PE X o ta) : PG X (.Attribute o f pos) (gFld X.K ta f) := by
  refine ⟨fun pins s σ H v u Q I r h => ?_⟩
  rw [assign_Attribute]
  refine wpAny_bind (wpAny_holding (thn (ho.run pins s σ H _ I h) fun ov s1 ⟨x, H1, I1, rx, a, C, dx, fs, ex, ea, c, n, l, q⟩ => ?_))
  subst ex
  obtain rfl : ov = Value.ref a := rx
  refine wpAny_bind (wpAny_standAt (wpAny_bind (wpAny_holding (setattr_ok I1 ea c n l r fun s3 I3 => ?_))))
  exact wpAny_release ⟨σ, _, I3, q⟩
end UP

set_option Elab.async false
set_option linter.all false
set_option maxRecDepth 100000
set_option maxHeartbeats 4000000
set_option pp.maxSteps 300
namespace UP
open PySem PySem.Spec PyProof.Rows L2
/-! ### a station that keeps what it was before each operation -/
structure Ent where
  o : Op
  S : Sta
  ar : Addr
  ab : Addr
def EntV (H : Hp) (v : V) (e : Ent) : Prop := ∃ t u tb v', v = .ref t ∧ H t = some (.tup [u, .ref tb]) ∧ OpV H u e.o ∧ H tb = some (.tup [v', .ref e.ar, .int e.S.n, .int e.S.m, .ref e.ab]) ∧ StV H v' e.S.st ∧ Rngs H e.ar e.S.R ∧ Blks H e.ab e.S.B
theorem EntV.keep {H H' : Hp} {v : V} {e : Ent} (k : Tk H H') (c1 : ∀ o, H e.ar = some o → H' e.ar = some o) (c2 : ∀ o, H e.ab = some o → H' e.ab = some o) (h : EntV H v e) : EntV H' v e := by
  obtain ⟨t, u, tb, v', rfl, ht, ho, hb, hv, hr, hl⟩ := h
  exact ⟨t, u, tb, v', rfl, k _ _ ht, ho.tk k, k _ _ hb, hv.tk k, hr.tk k c1, hl.tk k c2⟩
theorem EntV.past {H : Hp} {v : V} {e : Ent} (h : EntV H v e) : PastV H v e.o := by
  obtain ⟨t, u, tb, v', rfl, ht, ho, _⟩ := h
  exact ⟨t, u, .ref tb, rfl, ht, ho⟩
theorem ents_keep {H H' : Hp} (k : Tk H H') : ∀ {xs : List V} {es : List Ent}, (∀ e ∈ es, (∀ o, H e.ar = some o → H' e.ar = some o) ∧ ∀ o, H e.ab = some o → H' e.ab = some o) → Paired (EntV H) xs es → Paired (EntV H') xs es
  | [], [], _, _ => .nil
  | _ :: _, e :: _, c, .cons h t => .cons (h.keep k (c e (List.mem_cons_self ..)).1 (c e (List.mem_cons_self ..)).2) (ents_keep k (fun x hx => c x (List.mem_cons_of_mem _ hx)) t)
theorem ents_past {H : Hp} : ∀ {xs : List V} {es : List Ent}, Paired (EntV H) xs es → Paired (PastV H) xs (es.map (·.o))
  | [], [], _ => .nil
  | _ :: _, _ :: _, .cons h t => .cons h.past (ents_past t)
structure StnH (C : Addr) (H : Hp) (p ap ar ab : Addr) (S : Sta) (es : List Ent) : Prop where
  ob : ∃ dx v, H p = some (.ins C dx (fl6 v (.ref ar) (.int S.n) (.int S.m) (.ref ab) (.ref ap))) ∧ StV H v S.st
  rg : Rngs H ar S.R
  bl : Blks H ab S.B
  ps : ∃ xs, H ap = some (.lst xs) ∧ Paired (EntV H) xs es
  n1 : ap ≠ ar
  n2 : ap ≠ ab
  ne : ∀ e ∈ es, ap ≠ e.ar ∧ ap ≠ e.ab
theorem StnH.stn {C : Addr} {H : Hp} {p ap ar ab : Addr} {S : Sta} {es : List Ent} (z : StnH C H p ap ar ab S es) : Stn C H p ap ar ab S (es.map (·.o)) := by
  obtain ⟨xs, h, hp⟩ := z.ps
  exact ⟨z.ob, z.rg, z.bl, ⟨xs, h, ents_past hp⟩, z.n1, z.n2⟩
theorem StnH.keep {C : Addr} {H H' : Hp} {p ap ar ab : Addr} {S : Sta} {es : List Ent} (z : StnH C H p ap ar ab S es) (k : Tk H H') (k1 : ∀ o, H p = some o → H' p = some o) (k2 : ∀ o, H ap = some o → H' ap = some o) (k3 : ∀ o, H ar = some o → H' ar = some o) (k4 : ∀ o, H ab = some o → H' ab = some o)
    (k5 : ∀ e ∈ es, (∀ o, H e.ar = some o → H' e.ar = some o) ∧ ∀ o, H e.ab = some o → H' e.ab = some o) : StnH C H' p ap ar ab S es := by
  obtain ⟨⟨dx, v, h1, h2⟩, h3, h4, ⟨xs, h5, h5p⟩, h6, h7, h8⟩ := z
  exact ⟨⟨dx, v, k1 _ h1, h2.tk k⟩, h3.tk k k3, h4.tk k k4, ⟨xs, k2 _ h5, ents_keep k k5 h5p⟩, h6, h7, h8⟩
end UP

set_option Elab.async false
set_option linter.all false
set_option maxRecDepth 100000
set_option maxHeartbeats 4000000
set_option pp.maxSteps 300
namespace UP
open PySem PySem.Spec PyProof.Rows L2
section
variable {P : Program} {w : World} {K : PySem.W.Frag} {mg : Str → Option Value} {base : Heap} {C : Addr}

def sp_Station_remember (C : Addr) : Sp := fun vs H Q _ => ∃ (p ap ar ab : Addr) (S : Sta) (es : List Ent) (u : V) (o : Op), vs = [.ref p, u] ∧ StnH C H p ap ar ab S es ∧ OpV H u o ∧ es.length ≤ 100000 ∧ ∀ H', But ap H H' → StnH C H' p ap ar ab S (es ++ [⟨o, S, ar, ab⟩]) → Q .non H'
theorem ok_Station_remember (D : DfM K C "remember" "Station.remember" s_Station_remember) (TS : ClsT K mg C) : HasM P w K mg base C 1 "remember" ["self", "operation"] (sp_Station_remember C) := by
  refine hasM_of D sc_Station_remember (fun _ _ _ _ _ _ us hl => match us, hl with | [_, _], _ => rfl) (fun vs H Q E h => ?_) (fun f cdv A outer s₀ H vs Q E hr h => ?_)
  · obtain ⟨_, _, _, _, _, _, _, _, rfl, _⟩ := h
    rfl
  · obtain ⟨p, ap, ar, ab, S, es, u, o, rfl, z, hu, lo, q⟩ := h
    obtain ⟨⟨dx, v, hp, hv⟩, hR, hB, ⟨xs, hx, hxs⟩, n1, n2, ne⟩ := id z
    have lx : xs.length = es.length := Paired.len hxs
    refine ⟨_, (pss_cons (ps_set (i := 2) sc_Station_remember.nd rfl (by first | exact Or.inl rfl | exact Or.inr rfl) (pe_tup (pa_cons (pe_fld (pv 0) rfl) (pa_cons (pe_fld (pv 0) rfl) (pa_cons (pe_fld (pv 0) rfl) (pa_cons (pe_fld (pv 0) rfl) (pa_cons (pe_fld (pv 0) rfl) pa_nil)))))))
    (pss_one (ps_expr (pe_bm PySem.F.plainAttrs_list PySem.F.slot_list_append PySem.F.type_list_append mt_append (pe_fld (pv 0) rfl) (pa_cons (pe_tup (pa_cons (pv 1) (pa_cons (pv 2) pa_nil))) pa_nil))))), ?_⟩
    refine ⟨_, rfl, p, C, dx, _, _, rfl, hp, TS.cl, TS.n1, fl6_state .., _, rfl, p, C, dx, _, _, rfl, hp, TS.cl, TS.n2, fl6_ranges .., _, rfl, p, C, dx, _, _, rfl, hp, TS.cl, TS.n3, fl6_arrived .., _, rfl, p, C, dx, _, _, rfl, hp, TS.cl, TS.n4, fl6_paired .., _, rfl, p, C, dx, _, _, rfl, hp, TS.cl, TS.n5, fl6_blocks .., (by show 5 ≤ sizeLine; decide), fun t nt => ?_⟩
    have s1 := same_upd (o := .tup [v, .ref ar, .int S.n, .int S.m, .ref ab]) nt
    have ht : (upd H t (.tup [v, .ref ar, .int S.n, .int S.m, .ref ab])) t = some (.tup [v, .ref ar, .int S.n, .int S.m, .ref ab]) := upd_same
    generalize upd H t (.tup [v, .ref ar, .int S.n, .int S.m, .ref ab]) = H1 at *
    refine ⟨_, rfl, p, C, dx, _, _, rfl, s1 _ _ hp, TS.cl, TS.n6, fl6_past .., .inl ⟨rfl, _, SqL.of (s1 _ _ hx)⟩, _, rfl, _, rfl, (by show 2 ≤ sizeLine; decide), fun t2 nt2 => ?_⟩
    have s12 := same_upd (o := .tup [u, .ref t]) nt2
    have s2 := s1.trans s12
    have ht2 : (upd H1 t2 (.tup [u, .ref t])) t2 = some (.tup [u, .ref t]) := upd_same
    refine ⟨ap, _, _, rfl, rfl, s2 _ _ hx, small (by omega), ?_⟩
    generalize upd H1 t2 (.tup [u, .ref t]) = H2 at *
    have b3 : But ap H2 (upd H2 ap (.lst (xs ++ [.ref t2]))) := but_upd
    have hx3 : (upd H2 ap (.lst (xs ++ [.ref t2]))) ap = some (.lst (xs ++ [.ref t2])) := upd_same
    generalize upd H2 ap (.lst (xs ++ [.ref t2])) = H3 at *
    have k3 := tk_but (s2 _ _ hx) (by intro _ z; cases z) b3
    have kk : Tk H H3 := (stk s2).trans k3
    have at3 : ∀ {x : Addr}, ap ≠ x → ∀ o, H x = some o → H3 x = some o := fun {x} n o e => b3 _ _ n.symm (s2 _ _ e)
    have pa : p ≠ ap := ne_of hp hx (by intro z; cases z)
    refine q _ ((Same.but s2).trans b3) ⟨⟨dx, v, b3 _ _ pa (s2 _ _ hp), hv.tk kk⟩, hR.tk kk (at3 n1), hB.tk kk (at3 n2), ⟨_, hx3, Paired.app (ents_keep kk (fun e he => ⟨at3 (ne e he).1, at3 (ne e he).2⟩) hxs) (.cons ⟨t2, u, t, v, rfl, k3 _ _ ht2, hu.tk kk, k3 _ _ (s12 _ _ ht), hv.tk kk, hR.tk kk (at3 n1), hB.tk kk (at3 n2)⟩ .nil)⟩, n1, n2, fun e he => ?_⟩
    rcases List.mem_append.mp he with h | h
    · exact ne e h
    · rw [List.mem_singleton.mp h]
      exact ⟨n1, n2⟩
end
end UP

set_option Elab.async false
set_option linter.all false
set_option maxRecDepth 100000
set_option maxHeartbeats 4000000
set_option pp.maxSteps 300
namespace UP
open PySem PySem.Spec PyProof.Rows L2
/-- the list of what was -/
def PstH (H : Hp) (a : Addr) (es : List Ent) : Prop := ∃ xs, H a = some (.lst xs) ∧ Paired (EntV H) xs es
theorem ents_lst {H : Hp} : ∀ {xs : List V} {es : List Ent}, Paired (EntV H) xs es → ∀ e ∈ es, (∃ l, H e.ar = some (.lst l)) ∧ ∃ l, H e.ab = some (.lst l)
  | [], [], _, _, h => by cases h
  | _ :: _, e :: t, .cons h1 h2, x, hx => by
    rcases List.mem_cons.mp hx with z | z
    · rw [z]
      obtain ⟨_, _, _, _, _, _, _, _, _, ⟨l1, hr, _⟩, l2, hl, _⟩ := h1
      exact ⟨⟨l1, hr⟩, l2, hl⟩
    · exact ents_lst h2 x z
theorem PstH.same {H H' : Hp} {a : Addr} {es : List Ent} (h : PstH H a es) (s : Same H H') : PstH H' a es := by
  obtain ⟨xs, hx, p⟩ := h
  exact ⟨xs, s _ _ hx, ents_keep (stk s) (fun e _ => ⟨fun o z => s _ _ z, fun o z => s _ _ z⟩) p⟩
theorem PstH.ins {H H' : Hp} {a p C dx : Addr} {fs : List (Str × V)} {es : List Ent} (h : PstH H a es) (hp : H p = some (.ins C dx fs)) (b : But p H H') : PstH H' a es := by
  obtain ⟨xs, hx, px⟩ := h
  refine ⟨xs, b _ _ (ne_of hx hp (by intro z; cases z)) hx, ents_keep (tk_but hp (by intro _ z; cases z) b) (fun e he => ?_) px⟩
  obtain ⟨⟨l1, h1⟩, l2, h2⟩ := ents_lst px e he
  exact ⟨b.at (ne_of h1 hp (by intro z; cases z)), b.at (ne_of h2 hp (by intro z; cases z))⟩
theorem StnH.same {C : Addr} {H H' : Hp} {p ap ar ab : Addr} {S : Sta} {es : List Ent} (z : StnH C H p ap ar ab S es) (s : Same H H') : StnH C H' p ap ar ab S es :=
  z.keep (stk s) (fun _ e => s _ _ e) (fun _ e => s _ _ e) (fun _ e => s _ _ e) (fun _ e => s _ _ e) (fun e _ => ⟨fun _ y => s _ _ y, fun _ y => s _ _ y⟩)
theorem put_past {v st ra ar pa bl ps : V} : putF "past" v (fl6 st ra ar pa bl ps) = fl6 st ra ar pa bl v := by
  rw [fl6_eq, fl6_eq, putF_other (by decide +kernel), putF_other (by decide +kernel), putF_other (by decide +kernel), putF_other (by decide +kernel), putF_other (by decide +kernel), putF_hit]
section
variable {P : Program} {w : World} {K : PySem.W.Frag} {mg : Str → Option Value} {base : Heap} {C : Addr}
def sp_Station_arrive (C : Addr) : Sp := fun vs H Q _ => ∃ (p ap ar ab : Addr) (S : Sta) (es : List Ent) (k : Str) (c : Int), vs = [.ref p, .str k, .int c] ∧ StnH C H p ap ar ab S es ∧ KindOk k ∧ 1 ≤ c ∧ c ≤ 1000000000000000000000000000000 ∧ S.R.length ≤ 50000 ∧ S.B.length ≤ 500000 ∧ es.length ≤ 50000 ∧
  ∀ H' ar' ab', Fr p ap H H' → H ar' = none → H ab' = none → StnH C H' p ap ar' ab' (arrS S k c) (es ++ [⟨(("arrive" : Str), .inr k, c), S, ar, ab⟩]) → Q (.int (leavR S.st k c)) H'
theorem ok_Station_arrive (D : DfMD K C "arrive" "Station.arrive" s_Station_arrive (.int 1)) (T : Tx mg) (TS : ClsT K mg C) (G_check_kind : Has P w K mg base 2 "check_kind" ["kind"] sp_check_kind) (G_is_within : Has P w K mg base 2 "is_within" ["value", "low", "high"] sp_is_within)
    (G_Station_remember : HasM P w K mg base C 1 "remember" ["self", "operation"] (sp_Station_remember C)) (G_leaving_number : Has P w K mg base 1 "leaving_number" ["state", "kind", "count"] sp_leaving_number) (G_blocks_of_run : Has P w K mg base 1 "blocks_of_run" ["ranges", "start", "leaving"] sp_blocks_of_run)
    (G_ranges_after_run : Has P w K mg base 2 "ranges_after_run" ["ranges", "start", "count", "leaving"] sp_ranges_after_run) (G_state_after_run : Has P w K mg base 2 "state_after_run" ["state", "kind", "count"] sp_state_after_run) :
    HasMD P w K mg base C 3 "arrive" ["self", "kind", "count"] 2 "count" (.int 1) (sp_Station_arrive C) := by
  refine hasM_ofD D sc_Station_arrive rfl (fun _ _ _ _ _ _ _ us its hl h1 => match us, hl, its, h1 with | [_, _, _], _, [_], _ => ⟨_, rfl, rfl⟩) (fun _ _ _ _ _ _ _ us its hl h1 => match us, hl, its, h1 with | [_, _], _, [_], _ => ⟨_, rfl, rfl⟩) (fun _ _ _ _ _ _ _ us its v hl h1 => match us, hl, its, h1 with | [_, _], _, [_], _ => ⟨_, rfl, rfl⟩) (fun vs H Q E h => ?_) (fun f cdv A outer s₀ H vs Q E hr h => ?_)
  · obtain ⟨_, _, _, _, _, _, _, _, rfl, _⟩ := h
    rfl
  · obtain ⟨p, ap, ar, ab, S, es, k, c, rfl, z, kk, c1, c2, lR, lB, lO, q⟩ := h
    refine ⟨_, (pss_cons (ps_expr (pe_callH G_check_kind (hr.mono (by omega)) (by rfl) (pa_cons (pv 1) pa_nil)))
    (pss_cons (ps_if (pt_not (pt_val (pe_callH G_is_within (hr.mono (by omega)) (by rfl) (pa_cons (pv 2) (pa_cons pe_int (pa_cons (pe_glI T.c_MAX_COUNT (by rfl)) pa_nil)))))) (pss_one ps_never) pss_nil)
    (pss_cons (ps_expr (pe_methO (pv 0) TS.cl G_Station_remember (hr.mono (by omega)) (pa_cons (pe_tup (pa_cons pe_str (pa_cons (pv 1) (pa_cons (pv 2) pa_nil)))) pa_nil)))
    (pss_cons (ps_set (i := 3) sc_Station_arrive.nd rfl (by first | exact Or.inl rfl | exact Or.inr rfl) (pe_callH G_leaving_number (hr.mono (by omega)) (by rfl) (pa_cons (pe_fld (pv 0) rfl) (pa_cons (pv 1) (pa_cons (pv 2) pa_nil)))))
    (pss_cons (ps_fld (pv 0) (pe_op op_cat (pe_fld (pv 0) rfl) (pe_callH G_blocks_of_run (hr.mono (by omega)) (by rfl) (pa_cons (pe_fld (pv 0) rfl) (pa_cons (pe_fld (pv 0) rfl) (pa_cons (pv 3) pa_nil))))) rfl)
    (pss_cons (ps_fld (pv 0) (pe_callH G_ranges_after_run (hr.mono (by omega)) (by rfl) (pa_cons (pe_fld (pv 0) rfl) (pa_cons (pe_fld (pv 0) rfl) (pa_cons (pv 2) (pa_cons (pv 3) pa_nil))))) rfl)
    (pss_cons (ps_fld (pv 0) (pe_callH G_state_after_run (hr.mono (by omega)) (by rfl) (pa_cons (pe_fld (pv 0) rfl) (pa_cons (pv 1) (pa_cons (pv 2) pa_nil)))) rfl)
    (pss_cons (ps_fldaug (pv 0) (pv 2) in_add)
    (pss_cons (ps_fldaug (pv 0) (pv 3) in_add)
    (pss_one (ps_ret (pv 3)))))))))))), ?_⟩
    refine ⟨_, rfl, k, rfl, kk, fun H1 s1 => ?_⟩
    refine ⟨_, rfl, c, 1, _, rfl, _, rfl, iteN ?_ ?_⟩
    · rw [decide_eq_true ⟨c1, c2⟩]
      rfl
    have z1 := z.same s1
    obtain ⟨⟨dx, v, hp, hv⟩, hR, hB, _, _, _, _⟩ := id z1
    refine ⟨_, rfl, p, dx, _, rfl, hp, fl6_no nf_remember .., _, rfl, _, rfl, (by show 3 ≤ sizeLine; decide), fun t nt => ?_⟩
    have s2 := same_upd (o := .tup [.str "arrive", .str k, .int c]) nt
    refine ⟨p, ap, ar, ab, S, es, .ref t, (("arrive" : Str), .inr k, c), rfl, z1.same s2, ⟨t, rfl, upd_same⟩, by omega, fun H3 b3 z3 => ?_⟩
    have F3 : Fr p ap H H3 := (Fr.of s1).trans ((Fr.of s2).trans (Fr.but2 b3))
    clear z1 hp hv hR hB s2 nt b3 s1
    obtain ⟨⟨dx, v, hp, hv⟩, hR, hB, hP, n1, n2, ne3⟩ := id z3
    replace hP : PstH H3 ap _ := hP
    -- leaving
    refine ⟨_, rfl, p, C, dx, _, _, rfl, hp, TS.cl, TS.n1, fl6_state .., _, rfl, _, rfl, v, S.st, k, c, rfl, hv, ?_⟩
    -- blocks
    obtain ⟨bs, hbs, hbp⟩ := id hB
    have lb : bs.length = S.B.length := Paired.len hbp
    refine ⟨_, rfl, p, C, dx, _, _, rfl, hp, TS.cl, TS.n5, fl6_blocks .., _, rfl, p, C, dx, _, _, rfl, hp, TS.cl, TS.n2, fl6_ranges .., _, rfl, p, C, dx, _, _, rfl, hp, TS.cl, TS.n3, fl6_arrived .., _, rfl, ar, S.R, S.n, _, rfl, hR, by omega, fun H4 a4 s4 n4 ⟨b4, h4, h4p⟩ => ?_⟩
    have l4 : b4.length ≤ 50000 := by
      rw [Paired.len h4p]
      exact Nat.le_trans (brR_len _ _ _) lR
    refine ⟨ab, a4, bs, b4, rfl, rfl, s4 _ _ hbs, h4, Nat.le_of_lt (small (by omega)), fun ab' nb => ?_⟩
    have s5 := same_upd (o := .lst (bs ++ b4)) nb
    have hb5 : (upd H4 ab' (.lst (bs ++ b4))) ab' = some (.lst (bs ++ b4)) := upd_same
    have hbp5 : Paired (BV (upd H4 ab' (.lst (bs ++ b4)))) (bs ++ b4) (S.B ++ brR S.R S.n (leavR S.st k c)) := Paired.app (bvs_same (s4.trans s5) hbp) (bvs_same s5 h4p)
    generalize upd H4 ab' (.lst (bs ++ b4)) = H5 at *
    have s45 := s4.trans s5
    have nb3 : H3 ab' = none := s4.free nb
    have pab : ab' ≠ p := (ne_of_none (s4 _ _ hp) nb).symm
    refine ⟨_, rfl, p, C, dx, _, rfl, s45 _ _ hp, TS.cl, TS.n5, fl6_len .., ?_⟩
    rw [put_blocks]
    have hp6 : (upd H5 p (.ins C dx (fl6 v (.ref ar) (.int S.n) (.int S.m) (.ref ab') (.ref ap)))) p = some (.ins C dx (fl6 v (.ref ar) (.int S.n) (.int S.m) (.ref ab') (.ref ap))) := upd_same
    have b6 : But p H5 (upd H5 p (.ins C dx (fl6 v (.ref ar) (.int S.n) (.int S.m) (.ref ab') (.ref ap)))) := but_upd
    generalize upd H5 p (.ins C dx (fl6 v (.ref ar) (.int S.n) (.int S.m) (.ref ab') (.ref ap))) = H6 at *
    have k6 := tk_but (s45 _ _ hp) (by intro _ y; cases y) b6
    have pa : ap ≠ p := by
      obtain ⟨xs, e, _⟩ := hP
      exact ne_of e hp (by intro y; cases y)
    have pr : ar ≠ p := by
      obtain ⟨xs, e, _⟩ := hR
      exact ne_of e hp (by intro y; cases y)
    have hR6 := (hR.same s45).tk k6 (b6.at pr)
    have hB6 : Blks H6 ab' (S.B ++ brR S.R S.n (leavR S.st k c)) := Blks.tk k6 (b6.at pab) ⟨_, hb5, hbp5⟩
    have hP6 := (hP.same s45).ins (s45 _ _ hp) b6
    have hv6 := (hv.same s45).tk k6
    have F6 : Fr p ap H3 H6 := (Fr.of s45).trans (Fr.but1 b6)
    clear k6 b6 hbp5 hb5 s5 s45 h4p h4 s4 n4 l4 hbp hbs z3
    -- ranges
    refine ⟨_, rfl, p, C, dx, _, _, rfl, hp6, TS.cl, TS.n2, fl6_ranges .., _, rfl, p, C, dx, _, _, rfl, hp6, TS.cl, TS.n3, fl6_arrived .., _, rfl, _, rfl, ar, S.R, S.n, c, _, rfl, hR6, by omega, fun H7 ar' s7 nr h7 => ?_⟩
    have pr' : ar' ≠ p := (ne_of_none hp6 nr).symm
    refine ⟨_, rfl, p, C, dx, _, rfl, s7 _ _ hp6, TS.cl, TS.n2, fl6_len .., ?_⟩
    rw [put_ranges]
    have hp8 : (upd H7 p (.ins C dx (fl6 v (.ref ar') (.int S.n) (.int S.m) (.ref ab') (.ref ap)))) p = some (.ins C dx (fl6 v (.ref ar') (.int S.n) (.int S.m) (.ref ab') (.ref ap))) := upd_same
    have b8 : But p H7 (upd H7 p (.ins C dx (fl6 v (.ref ar') (.int S.n) (.int S.m) (.ref ab') (.ref ap)))) := but_upd
    generalize upd H7 p (.ins C dx (fl6 v (.ref ar') (.int S.n) (.int S.m) (.ref ab') (.ref ap))) = H8 at *
    have k8 := tk_but (s7 _ _ hp6) (by intro _ y; cases y) b8
    have hR8 := h7.tk k8 (b8.at pr')
    have hB8 := (hB6.same s7).tk k8 (b8.at pab)
    have hP8 := (hP6.same s7).ins (s7 _ _ hp6) b8
    have hv8 := (hv6.same s7).tk k8
    have F8 : Fr p ap H6 H8 := (Fr.of s7).trans (Fr.but1 b8)
    clear k8 b8 s7 h7
    -- state
    refine ⟨_, rfl, p, C, dx, _, _, rfl, hp8, TS.cl, TS.n1, fl6_state .., _, rfl, _, rfl, v, S.st, k, c, rfl, hv8, c1, fun H9 v' s9 h9 => ?_⟩
    refine ⟨_, rfl, p, C, dx, _, rfl, s9 _ _ hp8, TS.cl, TS.n1, fl6_len .., ?_⟩
    rw [put_state]
    have hp10 : (upd H9 p (.ins C dx (fl6 v' (.ref ar') (.int S.n) (.int S.m) (.ref ab') (.ref ap)))) p = some (.ins C dx (fl6 v' (.ref ar') (.int S.n) (.int S.m) (.ref ab') (.ref ap))) := upd_same
    have b10 : But p H9 (upd H9 p (.ins C dx (fl6 v' (.ref ar') (.int S.n) (.int S.m) (.ref ab') (.ref ap)))) := but_upd
    generalize upd H9 p (.ins C dx (fl6 v' (.ref ar') (.int S.n) (.int S.m) (.ref ab') (.ref ap))) = H10 at *
    have k10 := tk_but (s9 _ _ hp8) (by intro _ y; cases y) b10
    have hR10 := (hR8.same s9).tk k10 (b10.at pr')
    have hB10 := (hB8.same s9).tk k10 (b10.at pab)
    have hP10 := (hP8.same s9).ins (s9 _ _ hp8) b10
    have hv10 := h9.tk k10
    have F10 : Fr p ap H8 H10 := (Fr.of s9).trans (Fr.but1 b10)
    clear k10 b10 s9 h9
    -- arrived, paired
    refine ⟨_, rfl, p, C, dx, _, _, rfl, hp10, TS.cl, TS.n3, fl6_arrived .., _, rfl, _, _, rfl, rfl, dx, _, hp10, fl6_len .., ?_⟩
    rw [put_arrived]
    refine ⟨_, rfl, p, C, dx, _, _, rfl, upd_same, TS.cl, TS.n4, fl6_paired .., _, rfl, _, _, rfl, rfl, dx, _, upd_same, fl6_len .., ?_⟩
    rw [put_paired, upd_upd]
    have b12 : But p H10 (upd H10 p (.ins C dx (fl6 v' (.ref ar') (.int (S.n + c)) (.int (S.m + leavR S.st k c)) (.ref ab') (.ref ap)))) := but_upd
    have k12 := tk_but hp10 (by intro _ y; cases y) b12
    have fr : ∀ {Ha Hb : Hp} {x : Addr}, Fr p ap Ha Hb → Hb x = none → x ≠ p → x ≠ ap → Ha x = none := fun {Ha Hb x} b e n m => by
      cases y : Ha x with
      | none => rfl
      | some o =>
        rw [b _ _ n m y] at e
        cases e
    have aab : ap ≠ ab' := by
      obtain ⟨xs, e, _⟩ := hP
      exact ne_of_none e nb3
    have aar : ap ≠ ar' := by
      obtain ⟨xs, e, _⟩ := hP6
      exact ne_of_none e nr
    refine ⟨_, rfl, q _ ar' ab' (F3.trans (F6.trans (F8.trans (F10.trans (Fr.but1 b12))))) (fr (F3.trans F6) nr pr' aar.symm) (fr F3 nb3 pab aab.symm) ⟨⟨dx, v', upd_same, hv10.tk k12⟩, hR10.tk k12 (b12.at pr'), hB10.tk k12 (b12.at pab), hP10.ins hp10 b12, aar, aab, ne3⟩⟩
def sp_Station_give_up (C : Addr) : Sp := fun vs H Q _ => ∃ (p ap ar ab : Addr) (S : Sta) (es : List Ent) (k : Str) (i c : Int) (z : Rg), vs = [.ref p, .int i, .int c] ∧ StnH C H p ap ar ab S es ∧ S.st = some (k, numR S.st) ∧ 0 ≤ i ∧ 1 ≤ c ∧ i + c ≤ numR S.st ∧ (wfR S.R i).head? = some z ∧ S.R.length ≤ 50000 ∧ es.length ≤ 50000 ∧
  ∀ H' ar', Fr p ap H H' → H ar' = none → StnH C H' p ap ar' ab (givS S i c k) (es ++ [⟨(("give_up" : Str), .inl i, c), S, ar, ab⟩]) → Q (.int z.1) H'
theorem ok_Station_give_up (D : DfMD K C "give_up" "Station.give_up" s_Station_give_up (.int 1)) (T : Tx mg) (TS : ClsT K mg C) (G_waiting_number : Has P w K mg base 1 "waiting_number" ["state"] sp_waiting_number) (G_is_within : Has P w K mg base 2 "is_within" ["value", "low", "high"] sp_is_within)
    (G_Station_remember : HasM P w K mg base C 1 "remember" ["self", "operation"] (sp_Station_remember C)) (G_without_first : Has P w K mg base 1 "without_first" ["ranges", "number"] sp_without_first) (G_only_first : Has P w K mg base 1 "only_first" ["ranges", "number"] sp_only_first) (G_state_with : Has P w K mg base 1 "state_with" ["kind", "number"] sp_state_with) :
    HasMD P w K mg base C 3 "give_up" ["self", "index", "count"] 2 "count" (.int 1) (sp_Station_give_up C) := by
  refine hasM_ofD D sc_Station_give_up rfl (fun _ _ _ _ _ _ _ us its hl h1 => match us, hl, its, h1 with | [_, _, _], _, [_], _ => ⟨_, rfl, rfl⟩) (fun _ _ _ _ _ _ _ us its hl h1 => match us, hl, its, h1 with | [_, _], _, [_], _ => ⟨_, rfl, rfl⟩) (fun _ _ _ _ _ _ _ us its v hl h1 => match us, hl, its, h1 with | [_, _], _, [_], _ => ⟨_, rfl, rfl⟩) (fun vs H Q E h => ?_) (fun f cdv A outer s₀ H vs Q E hr h => ?_)
  · obtain ⟨_, _, _, _, _, _, _, _, _, _, rfl, _⟩ := h
    rfl
  · obtain ⟨p, ap, ar, ab, S, es, k, i, c, zr, rfl, z, est, i0, c1, ic, ez, lR, lO, q⟩ := h
    obtain ⟨⟨dx, v, hp, hv⟩, hR, hB, hP, n1, n2, ne0⟩ := id z
    refine ⟨_, (pss_cons (ps_set (i := 3) sc_Station_give_up.nd rfl (by first | exact Or.inl rfl | exact Or.inr rfl) (pe_callH G_waiting_number (hr.mono (by omega)) (by rfl) (pa_cons (pe_fld (pv 0) rfl) pa_nil)))
    (pss_cons (ps_if (PW.pt (pw_or (pt_not (pt_val (pe_callH G_is_within (hr.mono (by omega)) (by rfl) (pa_cons (pv 1) (pa_cons pe_int (pa_cons (pe_op op_sub (pv 3) pe_int) pa_nil)))))) (pw_or1 (pt_not (pt_val (pe_callH G_is_within (hr.mono (by omega)) (by rfl) (pa_cons (pv 2) (pa_cons pe_int (pa_cons (pe_op op_sub (pv 3) (pv 1)) pa_nil))))))))) (pss_one ps_never) pss_nil)
    (pss_cons (ps_expr (pe_methO (pv 0) TS.cl G_Station_remember (hr.mono (by omega)) (pa_cons (pe_tup (pa_cons pe_str (pa_cons (pv 1) (pa_cons (pv 2) pa_nil)))) pa_nil)))
    (pss_cons (ps_set (i := 4) sc_Station_give_up.nd rfl (by first | exact Or.inl rfl | exact Or.inr rfl) (pe_callH G_without_first (hr.mono (by omega)) (by rfl) (pa_cons (pe_fld (pv 0) rfl) (pa_cons (pv 1) pa_nil))))
    (pss_cons (ps_fld (pv 0) (pe_op op_cat (pe_callH G_only_first (hr.mono (by omega)) (by rfl) (pa_cons (pe_fld (pv 0) rfl) (pa_cons (pv 1) pa_nil))) (pe_callH G_without_first (hr.mono (by omega)) (by rfl) (pa_cons (pv 4) (pa_cons (pv 2) pa_nil)))) rfl)
    (pss_cons (ps_fld (pv 0) (pe_callH G_state_with (hr.mono (by omega)) (by rfl) (pa_cons (pe_ix ix_tup (pe_fld (pv 0) rfl) pe_int (fun _ _ => rfl)) (pa_cons (pe_op op_sub (pv 3) (pv 2)) pa_nil))) rfl)
    (pss_one (ps_ret (pe_ix ix_tup (pe_ix ix_list (pv 4) pe_int (fun _ _ => rfl)) pe_int (fun _ _ => rfl)))))))))), ?_⟩
    refine ⟨_, rfl, p, C, dx, _, _, rfl, hp, TS.cl, TS.n1, fl6_state .., v, S.st, rfl, hv, ?_⟩
    refine ⟨_, rfl, _, rfl, _, _, rfl, rfl, i, 0, _, rfl, _, rfl, iteN ?_ ?_⟩
    · rw [decide_eq_true ⟨i0, by omega⟩]
      rfl
    refine ⟨_, rfl, _, rfl, _, rfl, _, _, rfl, rfl, c, 1, _, rfl, _, rfl, iteN ?_ ?_⟩
    · rw [decide_eq_true ⟨c1, by omega⟩]
      rfl
    refine ⟨_, rfl, p, dx, _, rfl, hp, fl6_no nf_remember .., _, rfl, _, rfl, (by show 3 ≤ sizeLine; decide), fun t nt => ?_⟩
    have s2 := same_upd (o := .tup [.str "give_up", .int i, .int c]) nt
    refine ⟨p, ap, ar, ab, S, es, .ref t, (("give_up" : Str), .inl i, c), rfl, z.same s2, ⟨t, rfl, upd_same⟩, by omega, fun H3 b3 z3 => ?_⟩
    have F3 : Fr p ap H H3 := (Fr.of s2).trans (Fr.but2 b3)
    clear hp hv hR hB s2 nt b3 hP
    obtain ⟨⟨dx, v, hp, hv⟩, hR, hB, hP, n1, n2, ne3⟩ := id z3
    replace hP : PstH H3 ap _ := hP
    have pa : ap ≠ p := by
      obtain ⟨xs, e, _⟩ := hP
      exact ne_of e hp (by intro y; cases y)
    have pb : ab ≠ p := by
      obtain ⟨xs, e, _⟩ := hB
      exact ne_of e hp (by intro y; cases y)
    -- later
    refine ⟨_, rfl, p, C, dx, _, _, rfl, hp, TS.cl, TS.n2, fl6_ranges .., _, rfl, ar, S.R, i, rfl, hR, by omega, fun H4 a4 s4 n4 h4 => ?_⟩
    -- ranges
    refine ⟨_, rfl, p, C, dx, _, _, rfl, s4 _ _ hp, TS.cl, TS.n2, fl6_ranges .., _, rfl, ar, S.R, i, rfl, hR.same s4, by omega, fun H5 a5 s5 n5 ⟨b5, h5, h5p⟩ => ?_⟩
    refine ⟨_, rfl, _, rfl, a4, _, c, rfl, h4.same s5, Nat.le_trans (wfR_len _ _) (by omega), fun H6 a6 s6 n6 ⟨b6, h6, h6p⟩ => ?_⟩
    have l5 : b5.length ≤ 50000 := by
      rw [Paired.len h5p]
      exact Nat.le_trans (ofR_len _ _) lR
    have l6 : b6.length ≤ 50000 := by
      rw [Paired.len h6p]
      exact Nat.le_trans (wfR_len _ _) (Nat.le_trans (wfR_len _ _) lR)
    refine ⟨a5, a6, b5, b6, rfl, rfl, s6 _ _ h5, h6, Nat.le_of_lt (small (by omega)), fun ar' nr => ?_⟩
    have s7 := same_upd (o := .lst (b5 ++ b6)) nr
    have hr7 : (upd H6 ar' (.lst (b5 ++ b6))) ar' = some (.lst (b5 ++ b6)) := upd_same
    have hrp7 : Paired (PV (upd H6 ar' (.lst (b5 ++ b6)))) (b5 ++ b6) (ofR S.R i ++ wfR (wfR S.R i) c) := Paired.app (pvs_same (s6.trans s7) h5p) (pvs_same s7 h6p)
    generalize upd H6 ar' (.lst (b5 ++ b6)) = H7 at *
    have s47 := s4.trans (s5.trans (s6.trans s7))
    have pr' : ar' ≠ p := (ne_of_none ((s4.trans (s5.trans s6)) _ _ hp) nr).symm
    have nr3 : H3 ar' = none := (s4.trans (s5.trans s6)).free nr
    refine ⟨_, rfl, p, C, dx, _, rfl, s47 _ _ hp, TS.cl, TS.n2, fl6_len .., ?_⟩
    rw [put_ranges]
    have hp8 : (upd H7 p (.ins C dx (fl6 v (.ref ar') (.int S.n) (.int S.m) (.ref ab) (.ref ap)))) p = some (.ins C dx (fl6 v (.ref ar') (.int S.n) (.int S.m) (.ref ab) (.ref ap))) := upd_same
    have b8 : But p H7 (upd H7 p (.ins C dx (fl6 v (.ref ar') (.int S.n) (.int S.m) (.ref ab) (.ref ap)))) := but_upd
    generalize upd H7 p (.ins C dx (fl6 v (.ref ar') (.int S.n) (.int S.m) (.ref ab) (.ref ap))) = H8 at *
    have k8 := tk_but (s47 _ _ hp) (by intro _ y; cases y) b8
    have p4 : a4 ≠ p := (ne_of_none hp n4).symm
    have hR8 : Rngs H8 ar' (ofR S.R i ++ wfR (wfR S.R i) c) := Rngs.tk k8 (b8.at pr') ⟨_, hr7, hrp7⟩
    have hL8 := (h4.same (s5.trans (s6.trans s7))).tk k8 (b8.at p4)
    have hB8 := (hB.same s47).tk k8 (b8.at pb)
    have hP8 := (hP.same s47).ins (s47 _ _ hp) b8
    have hv8 := (hv.same s47).tk k8
    have F8 : Fr p ap H3 H8 := (Fr.of s47).trans (Fr.but1 b8)
    clear hrp7 hr7 s47 s4 s5 s6 s7 h5p h6p h5 h6 h4 b8 k8
    -- state
    have hv8' := hv8
    rw [est] at hv8'
    obtain ⟨tv, ev, htv⟩ := hv8'
    refine ⟨_, rfl, p, C, dx, _, _, rfl, hp8, TS.cl, TS.n1, fl6_state .., tv, _, 0, _, ev, rfl, .of htv, at0, _, rfl, _, rfl, _, _, rfl, rfl, k, _, rfl, fun H9 v' s9 h9 => ?_⟩
    refine ⟨_, rfl, p, C, dx, _, rfl, s9 _ _ hp8, TS.cl, TS.n1, fl6_len .., ?_⟩
    rw [put_state]
    have b10 : But p H9 (upd H9 p (.ins C dx (fl6 v' (.ref ar') (.int S.n) (.int S.m) (.ref ab) (.ref ap)))) := but_upd
    have hp10 : (upd H9 p (.ins C dx (fl6 v' (.ref ar') (.int S.n) (.int S.m) (.ref ab) (.ref ap)))) p = some (.ins C dx (fl6 v' (.ref ar') (.int S.n) (.int S.m) (.ref ab) (.ref ap))) := upd_same
    generalize upd H9 p (.ins C dx (fl6 v' (.ref ar') (.int S.n) (.int S.m) (.ref ab) (.ref ap))) = H10 at *
    have k10 := tk_but (s9 _ _ hp8) (by intro _ y; cases y) b10
    obtain ⟨ls, hls, hlp⟩ := (hL8.same s9).tk k10 (b10.at p4)
    have eh : ∃ x t, ls = x :: t ∧ PV H10 x zr := by
      generalize wfR S.R i = W at *
      cases hlp with
      | nil => cases ez
      | cons hx _ =>
        cases ez
        exact ⟨_, _, rfl, hx⟩
    obtain ⟨x, lt, rfl, ⟨tx, rfl, htx⟩⟩ := eh
    have fr : ∀ {Ha Hb : Hp} {x : Addr}, Fr p ap Ha Hb → Hb x = none → x ≠ p → x ≠ ap → Ha x = none := fun {Ha Hb x} b e n m => by
      cases y : Ha x with
      | none => rfl
      | some o =>
        rw [b _ _ n m y] at e
        cases e
    have aar : ap ≠ ar' := by
      obtain ⟨xs, e, _⟩ := hP
      exact ne_of_none e nr3
    refine ⟨_, rfl, a4, _, 0, _, rfl, rfl, .of hls, atI_ofB (Int.le_refl _) rfl, tx, _, 0, _, rfl, rfl, .of htx, at0, ?_⟩
    exact q _ ar' (F3.trans (F8.trans ((Fr.of s9).trans (Fr.but1 b10)))) (fr F3 nr3 pr' aar.symm) ⟨⟨dx, v', hp10, h9.tk k10⟩, (hR8.same s9).tk k10 (b10.at pr'), (hB8.same s9).tk k10 (b10.at pb), (hP8.same s9).ins (s9 _ _ hp8) b10, aar, n2, ne3⟩
/-! Station.undo: slots 0:self 1:operation 2:before -/
abbrev s_Station_undo : Stmt := inClass (topS 47) 6
theorem sc_Station_undo : FnScope ["self", "operation", "before"] ["self"] (defScope s_Station_undo) := ⟨rfl, rfl, rfl, by decide +kernel, rfl, by decide +kernel, by decide +kernel⟩
def sp_Station_undo (C : Addr) : Sp := fun vs H Q _ => ∃ (p ap ar ab : Addr) (S : Sta) (es : List Ent) (e : Ent), vs = [.ref p] ∧ StnH C H p ap ar ab S (es ++ [e]) ∧ ∀ H', Fr p ap H H' → StnH C H' p ap e.ar e.ab e.S es → Q .non H'
theorem ok_Station_undo (D : DfM K C "undo" "Station.undo" s_Station_undo) (T : Tx mg) (TS : ClsT K mg C) : HasM P w K mg base C 1 "undo" ["self"] (sp_Station_undo C) := by
  refine hasM_of D sc_Station_undo (fun _ _ _ _ _ _ us hl => match us, hl with | [_], _ => rfl) (fun vs H Q E h => ?_) (fun f cdv A outer s₀ H vs Q E hr h => ?_)
  · obtain ⟨_, _, _, _, _, _, _, rfl, _⟩ := h
    rfl
  · obtain ⟨p, ap, ar, ab, S, es, e, rfl, z, q⟩ := h
    obtain ⟨⟨dx, v, hp, hv⟩, hR, hB, ⟨xs, hx, hxp⟩, n1, n2, ne⟩ := id z
    obtain ⟨ys, y, rfl, hy, he⟩ := paired_snocR es e hxp
    refine ⟨_, (pss_cons (ps_if (pt_cmpR op_eq (pe_callB call_len_seq (by rfl) T.n_len (by decide +kernel) (pa_cons (pe_fld (pv 0) rfl) pa_nil)) pe_int (nomark _)) (pss_one ps_never) pss_nil)
    (pss_cons (ps_asg (pe_bm0 PySem.F.plainAttrs_list PySem.F.slot_list_pop PySem.F.type_list_pop mt_pop (pe_fld (pv 0) rfl)) (pg_tup rfl (pgs_cons (pg_name (i := 1) sc_Station_undo.nd rfl (by first | exact Or.inl rfl | exact Or.inr rfl)) (pgs_cons (pg_name (i := 2) sc_Station_undo.nd rfl (by first | exact Or.inl rfl | exact Or.inr rfl)) pgs_nil))))
    (pss_one (ps_asg (pv 2) (pg_tup rfl (pgs_cons (pg_fld (pv 0)) (pgs_cons (pg_fld (pv 0)) (pgs_cons (pg_fld (pv 0)) (pgs_cons (pg_fld (pv 0)) (pgs_cons (pg_fld (pv 0)) pgs_nil)))))))))), ?_⟩
    refine ⟨_, rfl, p, C, dx, _, _, rfl, hp, TS.cl, TS.n6, fl6_past .., ap, _, rfl, .inl (.of hx), rfl, _, rfl, iteN (decide_eq_false (fun z => ?_)) ?_⟩
    · have z := V.int.inj z
      rw [List.length_append] at z
      have z : ((ys.length + 1 : Nat) : Int) = 0 := z
      omega
    refine ⟨_, rfl, p, C, dx, _, _, rfl, hp, TS.cl, TS.n6, fl6_past .., .inl ⟨rfl, _, SqL.of hx⟩, ap, ys ++ [y], y, rfl, rfl, hx, (by simp), ?_⟩
    have b1 : But ap H (upd H ap (.lst (ys ++ [y]).dropLast)) := but_upd
    have hx1 : (upd H ap (.lst (ys ++ [y]).dropLast)) ap = some (.lst ys) := by rw [upd_same, List.dropLast_concat]
    generalize upd H ap (.lst (ys ++ [y]).dropLast) = H1 at *
    have k1 : Tk H H1 := tk_but hx (by intro _ z; cases z) b1
    have pa : p ≠ ap := ne_of hp hx (by intro z; cases z)
    have hp1 := b1 _ _ pa hp
    have hne := ne e (List.mem_append.mpr (.inr (List.mem_singleton.mpr rfl)))
    have hy1 := ents_keep k1 (fun x hx => ⟨b1.at (ne x (List.mem_append.mpr (.inl hx))).1.symm, b1.at (ne x (List.mem_append.mpr (.inl hx))).2.symm⟩) hy
    have he1 := he.keep k1 (b1.at hne.1.symm) (b1.at hne.2.symm)
    obtain ⟨t, u, tb, v', rfl, ht, ho, hb, hv', hr', hl'⟩ := he1
    refine ⟨t, _, rfl, .of ht, rfl, _, _, rfl, _, _, rfl, rfl, ?_⟩
    refine ⟨_, rfl, tb, _, rfl, .of hb, rfl, _, _, rfl, _, rfl, p, C, dx, _, rfl, hp1, TS.cl, TS.n1, fl6_len .., ?_⟩
    rw [put_state]
    refine ⟨_, _, rfl, _, rfl, p, C, dx, _, rfl, upd_same, TS.cl, TS.n2, fl6_len .., ?_⟩
    rw [put_ranges, upd_upd]
    refine ⟨_, _, rfl, _, rfl, p, C, dx, _, rfl, upd_same, TS.cl, TS.n3, fl6_len .., ?_⟩
    rw [put_arrived, upd_upd]
    refine ⟨_, _, rfl, _, rfl, p, C, dx, _, rfl, upd_same, TS.cl, TS.n4, fl6_len .., ?_⟩
    rw [put_paired, upd_upd]
    refine ⟨_, _, rfl, _, rfl, p, C, dx, _, rfl, upd_same, TS.cl, TS.n5, fl6_len .., ?_⟩
    rw [put_blocks, upd_upd]
    have b2 : But p H1 (upd H1 p (.ins C dx (fl6 v' (.ref e.ar) (.int e.S.n) (.int e.S.m) (.ref e.ab) (.ref ap)))) := but_upd
    have k2 := tk_but hp1 (by intro _ z; cases z) b2
    have rb : ∀ {x : Addr} {l : List V}, H1 x = some (.lst l) → x ≠ p := fun {x l} e => ne_of e hp1 (by intro z; cases z)
    obtain ⟨lr, hlr, hlrp⟩ := id hr'
    obtain ⟨ll, hll, hllp⟩ := id hl'
    refine ⟨rfl, q _ ((Fr.but2 b1).trans (Fr.but1 b2)) ⟨⟨dx, v', upd_same, hv'.tk k2⟩, hr'.tk k2 (b2.at (rb hlr)), hl'.tk k2 (b2.at (rb hll)), ?_, hne.1, hne.2, fun x hx => ne x (List.mem_append.mpr (.inl hx))⟩⟩
    exact PstH.ins ⟨ys, hx1, hy1⟩ hp1 b2
/-! Station.duplicate: slots 0:self 1:twin -/
abbrev s_Station_duplicate : Stmt := inClass (topS 47) 14
theorem sc_Station_duplicate : FnScope ["self", "twin"] ["self"] (defScope s_Station_duplicate) := ⟨rfl, rfl, rfl, by decide +kernel, rfl, by decide +kernel, by decide +kernel⟩
def sp_Station_duplicate (C : Addr) : Sp := fun vs H Q _ => ∃ (p ap ar ab : Addr) (S : Sta) (es : List Ent), vs = [.ref p] ∧ StnH C H p ap ar ab S es ∧ ∀ H' p' ap', Same H H' → H p' = none → H ap' = none → p' ≠ ap' → StnH C H' p' ap' ar ab S es → Q (.ref p') H'
theorem ok_Station_duplicate (D : DfM K C "duplicate" "Station.duplicate" s_Station_duplicate) (T : Tx mg) (TS : ClsT K mg C) (G_Station___init__ : HasI P w K mg base C 1 (sp_Station_init C)) : HasM P w K mg base C 3 "duplicate" ["self"] (sp_Station_duplicate C) := by
  refine hasM_of D sc_Station_duplicate (fun _ _ _ _ _ _ us hl => match us, hl with | [_], _ => rfl) (fun vs H Q E h => ?_) (fun f cdv A outer s₀ H vs Q E hr h => ?_)
  · obtain ⟨_, _, _, _, _, _, rfl, _⟩ := h
    rfl
  · obtain ⟨p, ap, ar, ab, S, es, rfl, z, q⟩ := h
    refine ⟨_, (pss_cons (ps_set (i := 1) sc_Station_duplicate.nd rfl (by first | exact Or.inl rfl | exact Or.inr rfl) (pe_makeO TS.mkS G_Station___init__ (hr.mono (by omega)) (by rfl)))
    (pss_cons (ps_fld (pv 1) (pe_fld (pv 0) rfl) rfl)
    (pss_cons (ps_fld (pv 1) (pe_fld (pv 0) rfl) rfl)
    (pss_cons (ps_fld (pv 1) (pe_fld (pv 0) rfl) rfl)
    (pss_cons (ps_fld (pv 1) (pe_fld (pv 0) rfl) rfl)
    (pss_cons (ps_fld (pv 1) (pe_fld (pv 0) rfl) rfl)
    (pss_cons (ps_fld (pv 1) (pe_callTy call_list_of (by rfl) T.n_list (by decide +kernel) (pa_cons (pe_fld (pv 0) rfl) pa_nil)) rfl)
    (pss_one (ps_ret (pv 1)))))))))), ?_⟩
    refine fun p' dx' np nd nx => ⟨p', dx', rfl, upd_same, fun H6 ap0 ar0 ab0 b6 nap nar nab zs6 => ⟨rfl, ?_⟩⟩
    have s5 : Same H (upd (upd H dx' (.own p')) p' (.ins C dx' [])) := fun b o e => by
      rw [upd_ne (ne_of_none e np), upd_ne (ne_of_none e nd)]
      exact e
    have s6 : Same H H6 := fun b o e => b6 _ _ (ne_of_none e np) (s5 _ _ e)
    obtain ⟨⟨dx2, v2, hp2, hv2⟩, _⟩ := id zs6
    obtain ⟨⟨dx, v, hp, hv⟩, hR, hB, ⟨xs, hx, hxp⟩, n1, n2, ne⟩ := id (z.same s6)
    have npp : p ≠ p' := by
      obtain ⟨⟨_, _, h, _⟩, _⟩ := z
      exact ne_of_none h np
    have rd : ∀ o : HO, (upd H6 p' o) p = some (.ins C dx (fl6 v (.ref ar) (.int S.n) (.int S.m) (.ref ab) (.ref ap))) := fun o => by
      rw [upd_ne npp]
      exact hp
    refine ⟨_, rfl, p, C, dx, _, _, rfl, hp, TS.cl, TS.n1, fl6_state .., _, rfl, p', C, dx2, _, rfl, hp2, TS.cl, TS.n1, fl6_len .., ?_⟩
    rw [put_state]
    refine ⟨_, rfl, p, C, dx, _, _, rfl, rd _, TS.cl, TS.n2, fl6_ranges .., _, rfl, p', C, dx2, _, rfl, upd_same, TS.cl, TS.n2, fl6_len .., ?_⟩
    rw [put_ranges, upd_upd]
    refine ⟨_, rfl, p, C, dx, _, _, rfl, rd _, TS.cl, TS.n3, fl6_arrived .., _, rfl, p', C, dx2, _, rfl, upd_same, TS.cl, TS.n3, fl6_len .., ?_⟩
    rw [put_arrived, upd_upd]
    refine ⟨_, rfl, p, C, dx, _, _, rfl, rd _, TS.cl, TS.n4, fl6_paired .., _, rfl, p', C, dx2, _, rfl, upd_same, TS.cl, TS.n4, fl6_len .., ?_⟩
    rw [put_paired, upd_upd]
    refine ⟨_, rfl, p, C, dx, _, _, rfl, rd _, TS.cl, TS.n5, fl6_blocks .., _, rfl, p', C, dx2, _, rfl, upd_same, TS.cl, TS.n5, fl6_len .., ?_⟩
    rw [put_blocks, upd_upd]
    have nxp : ap ≠ p' := ne_of hx hp2 (by intro z; cases z)
    have b7 : But p' H6 (upd H6 p' (.ins C dx2 (fl6 v (.ref ar) (.int S.n) (.int S.m) (.ref ab) (.ref ap0)))) := but_upd
    have hp7 : (upd H6 p' (.ins C dx2 (fl6 v (.ref ar) (.int S.n) (.int S.m) (.ref ab) (.ref ap0)))) p' = some (.ins C dx2 (fl6 v (.ref ar) (.int S.n) (.int S.m) (.ref ab) (.ref ap0))) := upd_same
    generalize upd H6 p' (.ins C dx2 (fl6 v (.ref ar) (.int S.n) (.int S.m) (.ref ab) (.ref ap0))) = H7 at *
    refine ⟨_, rfl, p, C, dx, _, _, rfl, b7 _ _ npp hp, TS.cl, TS.n6, fl6_past .., ap, _, rfl, .inl (.of (b7 _ _ nxp hx)), fun l nl => ?_⟩
    have s8 := same_upd (o := .lst xs) nl
    have hl8 : (upd H7 l (.lst xs)) l = some (.lst xs) := upd_same
    generalize upd H7 l (.lst xs) = H8 at *
    refine ⟨_, rfl, p', C, dx2, _, rfl, s8 _ _ hp7, TS.cl, TS.n6, fl6_len .., ?_⟩
    rw [put_past]
    have b9 : But p' H8 (upd H8 p' (.ins C dx2 (fl6 v (.ref ar) (.int S.n) (.int S.m) (.ref ab) (.ref l)))) := but_upd
    have hp9 : (upd H8 p' (.ins C dx2 (fl6 v (.ref ar) (.int S.n) (.int S.m) (.ref ab) (.ref l)))) p' = some (.ins C dx2 (fl6 v (.ref ar) (.int S.n) (.int S.m) (.ref ab) (.ref l))) := upd_same
    generalize upd H8 p' (.ins C dx2 (fl6 v (.ref ar) (.int S.n) (.int S.m) (.ref ab) (.ref l))) = H9 at *
    have sf : Same H H9 := fun b o e => b9 _ _ (ne_of_none e np) (s8 _ _ (b7 _ _ (ne_of_none e np) (s6 _ _ e)))
    have npl : l ≠ p' := (ne_of_none hp7 nl).symm
    have nlH : H l = none := by
      cases e : H l with
      | none => rfl
      | some o =>
        rw [b7 _ _ npl (s6 _ _ e)] at nl
        cases nl
    obtain ⟨⟨_, v3, hp3, hv3⟩, hR9, hB9, ⟨xs3, hx3, hxp3⟩, _⟩ := id (z.same sf)
    have ev : v3 = v ∧ xs3 = xs := by
      obtain ⟨⟨_, v4, hp4, _⟩, _, _, ⟨xs4, hx4, _⟩, _⟩ := id z
      have e1 := s6 _ _ hp4
      have e2 := sf _ _ hp4
      rw [hp] at e1
      rw [hp3] at e2
      have e3 := s6 _ _ hx4
      have e4 := sf _ _ hx4
      rw [hx] at e3
      rw [hx3] at e4
      cases e3
      cases e4
      have e5 := e1.symm.trans (Eq.refl _)
      have q1 := (HO.ins.inj (Option.some.inj e1)).2.2
      have q2 := (HO.ins.inj (Option.some.inj e2)).2.2
      have f1 := congrArg (fun l => l.lookup ("state" : Str)) q1
      have f2 := congrArg (fun l => l.lookup ("state" : Str)) q2
      simp only [fl6_state, Option.some.injEq] at f1 f2
      exact ⟨f2.trans f1.symm, rfl⟩
    obtain ⟨rfl, rfl⟩ := ev
    refine ⟨_, rfl, q _ p' l sf np nlH npl.symm ⟨⟨dx2, _, hp9, hv3⟩, hR9, hB9, ⟨_, b9 _ _ npl hl8, hxp3⟩, ?_, ?_, fun e he => ?_⟩⟩
    · obtain ⟨_, h, _⟩ := hR
      exact (ne_of_none (b7 _ _ (ne_of h hp2 (by intro z; cases z)) h) nl).symm
    · obtain ⟨_, h, _⟩ := hB
      exact (ne_of_none (b7 _ _ (ne_of h hp2 (by intro z; cases z)) h) nl).symm
    · obtain ⟨⟨l1, h1⟩, l2, h2⟩ := ents_lst hxp e he
      exact ⟨(ne_of_none (b7 _ _ (ne_of h1 hp2 (by intro z; cases z)) h1) nl).symm, (ne_of_none (b7 _ _ (ne_of h2 hp2 (by intro z; cases z)) h2) nl).symm⟩
end
end UP

set_option Elab.async false
set_option linter.all false
set_option maxRecDepth 100000
set_option maxHeartbeats 4000000
set_option pp.maxSteps 600
namespace UP
open PySem PySem.Spec PyProof.Rows L2
/-! ### methods that may raise -/
def HasMX (P : Program) (w : World) (K : PySem.W.Frag) (mg : Str → Option Value) (base : Heap) (C : Addr) (k : Nat) (m : Str) (ps : List Str) (sp : Sp) : Prop := ∃ f fd, Meth K C m f ∧ Binds K fd ps [] ∧ FnOk P w K mg base (L2.CX P w) k f fd ps sp
/-- the class x of errors stands at C -/
structure Ex (K : PySem.W.Frag) (mg : Str → Option Value) (x : Str) (C : Addr) : Prop where
  g : mg x = some (.ref C)
  x : PySem.W.excIn K C [.type "ValueError", .type "Exception", .type "BaseException", .type "object"] "ValueError.__new__" = true
  k : PySem.W.keepIn K (.ref C) = true
  b : PySem.W.subIn K (.ref C) (.type "BaseException") = some true
  t : PySem.W.typeIn K (.ref C) = some (.type "type")
  em : PySem.W.exmOne K (.ref C) (.ref C) = some true
section
variable {P : Program} {w : World} {K : PySem.W.Frag} {mg : Str → Option Value} {base : Heap} {C : Addr}
theorem hasMX_of {m q : Str} {st : Stmt} {ps N : List Str} {k : Nat} {sp : Sp} (D : DfM K C m q st) (S : FnScope N ps (defScope st))
    (hb : ∀ (kV doc pm : Value) (an : Option Addr) (cdv ct : Value) (us : List Value), us.length = ps.length → bindArgs (PySem.W.fnOf m q (defArgs st) (defBody st) (defScope st) .none kV doc pm an cdv ct) ⟨us, []⟩ = pure (ps.zip us))
    (len : ∀ vs H Q E, sp vs H Q E → vs.length = ps.length)
    (body : ∀ (f : Addr) (cdv : Value) (A : Around) (outer : List Env) (s : Shared) (H : Hp) (vs : List V) (Q : VK) (E : XK), Room k (A.deeper (envOfC q (defScope st) s.heap.objs.size f cdv)) → sp vs H Q E →
      ∃ t, PSs (cxOf (L2.CX P w) P w K mg base N q (defScope st) f cdv A outer s H E) (defBody st) t ∧ t { nx := fun _ H' => Q .non H', rt := Q } (start N vs) H) :
    HasMX P w K mg base C (k + 1) m ps sp := by
  obtain ⟨f, fd, g, F⟩ := D
  exact ⟨f, fd, g, F.binds hb, F.okX S len fun cdv A outer s H vs Q E hr h => body f cdv A outer s H vs Q E hr h⟩
end
section
variable {P : Program} {w : World} {K : PySem.W.Frag} {mg : Str → Option Value} {base : Heap} {C : Addr}
/-- undo with nothing to undo -/
def sp_Station_undoX (C CN : Addr) : Sp := fun vs H _ E => ∃ (p ap ar ab : Addr) (S : Sta), vs = [.ref p] ∧ Stn C H p ap ar ab S [] ∧ ∀ H', Same H H' → E (.ref CN) none H'
theorem has_undoX {CN : Addr} (D : DfM K C "undo" "Station.undo" s_Station_undo) (T : Tx mg) (TS : ClsT K mg C) (X1 : Ex K mg "NothingToUndo" CN) : HasMX P w K mg base C 1 "undo" ["self"] (sp_Station_undoX C CN) := by
  refine hasMX_of D sc_Station_undo (fun _ _ _ _ _ _ us hl => match us, hl with | [_], _ => rfl) (fun vs H Q E h => ?_) (fun f cdv A outer s₀ H vs Q E hr h => ?_)
  · obtain ⟨_, _, _, _, _, rfl, _⟩ := h
    rfl
  · obtain ⟨p, ap, ar, ab, S, rfl, z, qe⟩ := h
    obtain ⟨⟨dx, v, hp, hv⟩, hR, hB, ⟨xs, hx, hxp⟩, n1, n2⟩ := z
    cases hxp
    refine ⟨_, (pss_cons (ps_if (pt_cmpR op_eq (pe_callB call_len_seq (by rfl) T.n_len (by decide +kernel) (pa_cons (pe_fld (pv 0) rfl) pa_nil)) pe_int (nomark _)) (pss_one (ps_raise rfl (takes_of rfl rfl rfl rfl) (pmk_own PySem.F.excBase_ValueError X1.x X1.g X1.k (raises_own X1.b X1.t) (by exact rfl)))) pss_nil)
    (pss_cons (ps_asg (pe_bm0 PySem.F.plainAttrs_list PySem.F.slot_list_pop PySem.F.type_list_pop mt_pop (pe_fld (pv 0) rfl)) (pg_tup rfl (pgs_cons (pg_name (i := 1) sc_Station_undo.nd rfl (by first | exact Or.inl rfl | exact Or.inr rfl)) (pgs_cons (pg_name (i := 2) sc_Station_undo.nd rfl (by first | exact Or.inl rfl | exact Or.inr rfl)) pgs_nil))))
    (pss_one (ps_asg (pv 2) (pg_tup rfl (pgs_cons (pg_fld (pv 0)) (pgs_cons (pg_fld (pv 0)) (pgs_cons (pg_fld (pv 0)) (pgs_cons (pg_fld (pv 0)) (pgs_cons (pg_fld (pv 0)) pgs_nil)))))))))), ?_⟩
    refine ⟨_, rfl, p, C, dx, _, _, rfl, hp, TS.cl, TS.n6, fl6_past .., ap, _, rfl, .inl (.of hx), rfl, _, rfl, iteP rfl (qe _ (Same.refl _))⟩
end
end UP

set_option Elab.async false
set_option linter.all false
set_option maxRecDepth 100000
set_option maxHeartbeats 4000000
set_option pp.maxSteps 300
namespace UP
open PySem PySem.Spec PyProof.Rows L2
/-! ### == and != by an own __eq__, with both answers -/
namespace OwnCmp
open PySem.W
theorem ne_bind (self : Value) : bindSpecial (.builtin "object.__ne__") self = pure (.builtin "object.__ne__", [self]) := F.cmp_object.ne.bind self
section
variable {prog : Program} {w : World} {A : Around} {E : Value → Shared → Prop} {s : Shared} {K : PySem.W.Frag} {x C L f : Addr} {h₀ : Heap} {m : Str → Option Value} {ox : Obj} {od : Option Obj} {b tb : Value}
theorem ifBound_ne {Q : Option Value → Shared → Prop} (X : K.In s.heap) (I : InstAt s.heap x ox C od) (hs : findIn K (.ref C) "__ne__" = some (some (.builtin "object.__ne__")))
    (h : wpAny (model prog w) A (call (.builtin "object.__ne__") [.ref x, b]) (fun v => Q (some v)) E s) : wpAny (model prog w) A (callSpecialIfBound? (.ref x) "__ne__" [b]) Q E s := by
  simp only [callSpecialIfBound?, bindSpecialIfBound?]
  refine wpAny_holding (wpAny_bind (wpAny_bind (wpAny_bind (I.type.here ((looks_findIn X hs).here ?_)))))
  simp only [ne_bind]
  refine wpAny_bind (wpAny_askSetting (wpAny_ite ?_))
  have fin : wpAny (model prog w) A (call (.builtin "object.__ne__") ([.ref x] ++ [b]) >>= fun v => pure (some v)) Q E s := wpAny_bind (wpAny_mono h (fun v s' h' => wpAny_pure h') fun _ _ h' => h')
  split
  · exact wpAny_bind (wpAny_pure (wpAny_pure fin))
  · exact wpAny_tryCatch (wpAny_bind (wpAny_pure (wpAny_pure fin)))
theorem ne_entry (hu : A.units < cLine) (X : K.In s.heap) (I : InstAt s.heap x ox C od) (hs : findIn K (.ref C) "__eq__" = some (some (.ref f))) (hf : isFn K (.ref f) = true) {Q : Fin → Shared → Prop}
    (hcall : wpAny (model prog w) A (call (.ref f) [.ref x, b]) (fun v s' => ∃ r, v = .bool r ∧ Q (.done (.ret (.bool (!r)))) s') E s) :
    wpAny (model prog w) A (Builtin.«object.__ne__» ⟨[.ref x, b], []⟩) Q E s := by
  unfold Builtin.«object.__ne__»
  repeat (first
    | with_reducible refine wpAny_cRoomFor hu ?_
    | (refine wpAny_bind (m := callSpecialIfBound? (.ref x) (Str.ofString "__eq__") [b])
        (ifBound_K X I hs hf (wpAny_mono hcall (fun r s' hr => by
          obtain ⟨b, rfl, hq⟩ := hr
          repeat (first | exact hq | exact wpAny_pure hq | exact wpAny_truthy_bool hq | (refine wpAny_bind (m := truthy (.bool _)) (wpAny_truthy_bool ?_)) | wp_step)) fun _ _ e => e)))
    | wp_step)
theorem cmp_ne {Q : Value → Shared → Prop} (hu : A.units + 1 < cLine) (Fm : PyProof.Rows.Fr h₀ L s.heap m) (X₀ : K.In h₀) (I : InstAt s.heap x ox C od) (hb : Looks (model prog w) s.heap (typeOf b) tb) (hn : notFirst K C tb = true)
    (hne : findIn K (.ref C) "__ne__" = some (some (.builtin "object.__ne__"))) (hs : findIn K (.ref C) "__eq__" = some (some (.ref f))) (hf : isFn K (.ref f) = true) (hm : mroIn K C (.type "object") = some true)
    (h : wpAny (model prog w) A.in1 (call (.ref f) [.ref x, b]) (fun v s' => ∃ r, v = .bool r ∧ Q (.bool (!r)) s') E s) : wpAny (model prog w) A (richCompare .NotEq (.ref x) b) Q E s := by
  have X := X₀.keeps Fm.keep
  have one : wpAny (model prog w) A (tryCompare (.ref x) "__ne__" b) (fun r s' => ∃ v, r = some v ∧ Q v s') E s := by
    unfold tryCompare
    refine wpAny_bind (ifBound_ne X I hne (wpAny_call (codeAny_call_builtin F.cmp_object.ne.plain F.cmpEntry_ne
      (check_slot F.cmpKind_ne F.cmpSplit_ne (I.type.andThen (looks_mroIn X hm)) (F.cmpArgs_ne _ _) (ne_entry (A := A.in1) (by have := hu; show A.units + 1 < cLine; omega) X I hs hf (wpAny_mono h (fun v s' hv => ?_) fun _ _ e => e))))))
    obtain ⟨r, rfl, hq⟩ := hv
    first | exact ⟨r, rfl, wpAny_pure ⟨_, rfl, hq⟩⟩ | exact ⟨r, rfl, wpAny_pure (wpAny_pure ⟨_, rfl, hq⟩)⟩ | exact ⟨r, rfl, ⟨_, rfl, hq⟩⟩
  unfold richCompare
  simp only [oneThing_ref]
  refine wpAny_holding (wpAny_bind (wpAny_cRoomFor (by omega) ?_))
  refine wpAny_bind (I.type.here (wpAny_bind (hb.here ?_)))
  split
  · rename_i q
    have e : subIn K tb (.ref C) = some false := by
      rcases Bool.or_eq_true_iff.mp hn with e | e
      · rw [beq_iff_eq.mp e] at q; simp at q
      · exact beq_iff_eq.mp e
    refine wpAny_bind ((looks_subIn X e).here ?_)
    simp only [Bool.false_eq_true, if_false]
    refine wpAny_bind (wpAny_mono one (fun r s' z => ?_) fun _ _ e => e)
    obtain ⟨v, rfl, hq⟩ := z
    exact wpAny_pure hq
  · refine wpAny_bind (wpAny_pure ?_)
    simp only [Bool.false_eq_true, if_false]
    refine wpAny_bind (wpAny_mono one (fun r s' z => ?_) fun _ _ e => e)
    obtain ⟨v, rfl, hq⟩ := z
    exact wpAny_pure hq
end
end OwnCmp
/-- what == and isinstance ask of the class, besides -/
structure CmpC (K : PySem.W.Frag) (C : Addr) : Prop where
  ca : PySem.W.findIn K (.ref C) "__class__" = some (some (.builtin "object.__class__"))
  cn : PySem.W.specialIn K (.builtin "object.__class__") "__get__" = some (some (.builtin "getset_descriptor.__get__"))
  ct : PySem.W.takesIn K (.builtin "object.__class__") = some true
  cm : PySem.W.mroIn K C (.type "object") = some true
  ne : PySem.W.findIn K (.ref C) "__ne__" = some (some (.builtin "object.__ne__"))
  ki : PySem.W.kitOne K (.type "int") (.ref C) = some false
  kb : PySem.W.kitOne K (.type "bool") (.ref C) = some false
  ks : PySem.W.kitOne K (.type "str") (.ref C) = some false
  kl : PySem.W.kitOne K (.type "list") (.ref C) = some false
  kt : PySem.W.kitOne K (.type "tuple") (.ref C) = some false
  kn : PySem.W.kitOne K (.type "NoneType") (.ref C) = some false
  fi : PySem.W.notFirst K C (.type "int") = true
  fb : PySem.W.notFirst K C (.type "bool") = true
  fs : PySem.W.notFirst K C (.type "str") = true
  fl : PySem.W.notFirst K C (.type "list") = true
  ft : PySem.W.notFirst K C (.type "tuple") = true
  fn : PySem.W.notFirst K C (.type "NoneType") = true
theorem kit_self {K : PySem.W.Frag} {C : Addr} : PySem.W.kitOne K (.ref C) (.ref C) = some true := if_pos (by simp)
theorem nf_self {K : PySem.W.Frag} {C : Addr} : PySem.W.notFirst K C (.ref C) = true := by
  unfold PySem.W.notFirst
  simp
section
variable {X : Cx} {C : Addr} {k : Nat} {ps : List Str} {sp : Sp}
def rOwnC (K : PySem.W.Frag) (C : Addr) (sp : Sp) : R2 := fun x y H Q => ∃ (a dx : Addr) (fs : List (Str × V)) (t : Value), x = .ref a ∧ H a = some (.ins C dx fs) ∧ TyX K H y t ∧ PySem.W.notFirst K C t = true ∧ sp [x, y] H Q E0
def rNotC (K : PySem.W.Frag) (C : Addr) (sp : Sp) : R2 := fun x y H Q => ∃ (a dx : Addr) (fs : List (Str × V)) (t : Value), x = .ref a ∧ H a = some (.ins C dx fs) ∧ TyX K H y t ∧ PySem.W.notFirst K C t = true ∧ sp [x, y] H (fun v H' => ∃ b, v = .bl b ∧ Q (.bl (!b)) H') E0
theorem op_eqO (G : HasM X.prog X.w X.K X.mg X.base C k "__eq__" ps sp) (hr : Room (k + 1) X.A) : OpR X (compareOp .Eq) (rOwnC X.K C sp) := by
  intro pins s σ H x y v u Q I rx ry h
  obtain ⟨f, fd, hm, hb, F⟩ := G
  obtain ⟨a, dx, fs, t, rfl, ha, ty, hn, q⟩ := h
  cases (show v = Value.ref a from rx)
  obtain ⟨mA, J, _⟩ := ins_get I.hok ha
  obtain ⟨od, J, _⟩ := J.look
  obtain ⟨m, hF⟩ := I.fr
  obtain ⟨PP, Z, hp, _⟩ := kit_of I ry ty
  have hl := F.len _ _ _ _ q
  show wpAny (model X.prog X.w) X.A (richCompare .Eq (.ref a) u) (EP X pins σ Q) X.xe s
  refine PySem.W.cmp_K (op := .Eq) hr.units0 hF I.ok.mod.kin J (Z.ty _ _ I.kIn hp) hn hm.at_ hm.fn ?_
  have e0 : Env0 X.prog X.w X.K X.mg X.base X.A X.stack s H := by
    have e := I.env0
    exact ⟨e.frames, e.mod, e.bs, e.bsz, e.funs, e.frf, e.hok, e.bare⟩
  refine wpAny_call (codeAny_mono (F.run X.A X.stack s H ⟨[.ref a, u], []⟩ [.ref a, u] [.ref a, y] _ E0 (hr.mono (Nat.le_succ _)) e0 (by
    have := hb s [.ref a, u] I.kIn (by simpa using hl)
    simpa using this) (.cons rfl (.cons ry .nil)) q) fun r s' hq => ?_)
  cases r with
  | error e => exact pass0 pins σ H s e s' I hq
  | ok fl =>
    cases fl with
    | ret w =>
      obtain ⟨z, H', I', rz, q2⟩ := I.after hq
      exact SlX.cmpback rz ⟨z, H', I', rz, q2⟩
    | next => exact False.elim hq
    | brk => exact False.elim hq
    | cont => exact False.elim hq
theorem op_neO (cc : CmpC X.K C) (G : HasM X.prog X.w X.K X.mg X.base C k "__eq__" ps sp) (hr : Room (k + 1) X.A) : OpR X (compareOp .NotEq) (rNotC X.K C sp) := by
  intro pins s σ H x y v u Q I rx ry h
  obtain ⟨f, fd, hm, hb, F⟩ := G
  obtain ⟨a, dx, fs, t, rfl, ha, ty, hn, q⟩ := h
  cases (show v = Value.ref a from rx)
  obtain ⟨mA, J, _⟩ := ins_get I.hok ha
  obtain ⟨od, J, _⟩ := J.look
  obtain ⟨m, hF⟩ := I.fr
  obtain ⟨PP, Z, hp, _⟩ := kit_of I ry ty
  have hl := F.len _ _ _ _ q
  show wpAny (model X.prog X.w) X.A (richCompare .NotEq (.ref a) u) (EP X pins σ Q) X.xe s
  refine OwnCmp.cmp_ne (by have := hr.units; omega) hF I.ok.mod.kin J (Z.ty _ _ I.kIn hp) hn cc.ne hm.at_ hm.fn cc.cm ?_
  have e0 : Env0 X.prog X.w X.K X.mg X.base X.A.in1 X.stack s H := by
    have e := I.env0
    exact ⟨e.frames, e.mod, e.bs, e.bsz, e.funs, e.frf, e.hok, e.bare⟩
  refine wpAny_call (codeAny_mono (F.run X.A.in1 X.stack s H ⟨[.ref a, u], []⟩ [.ref a, u] [.ref a, y] _ E0 hr.in1 e0 (by
    have := hb s [.ref a, u] I.kIn (by simpa using hl)
    simpa using this) (.cons rfl (.cons ry .nil)) q) fun r s' hq => ?_)
  cases r with
  | error e => exact pass0 pins σ H s e s' I hq
  | ok fl =>
    cases fl with
    | ret w =>
      obtain ⟨z, H', I', rz, b, ez, q2⟩ := I.after hq
      subst ez
      cases rz
      exact ⟨b, rfl, .bl (!b), H', I', rfl, q2⟩
    | next => exact False.elim hq
    | brk => exact False.elim hq
    | cont => exact False.elim hq
end
end UP

set_option Elab.async false
set_option linter.all false
set_option maxRecDepth 100000
set_option maxHeartbeats 4000000
set_option pp.maxSteps 300
namespace UP
open PySem PySem.Spec PyProof.Rows L2
/-! ### stations as data, and their == -/
theorem can_pv : ∀ (rs : List Rg), PyData.canLayAll0 (rs.map fun p => .tuple [.int p.1, .int p.2]) = true
  | [] => by simp [PyData.canLayAll0]
  | r :: t => by
    simp only [List.map_cons, PyData.canLayAll0, can_pv t]
    simp [PyData.canLay0, PyData.canLayAll0]
theorem depth_pv : ∀ (rs : List Rg), PyData.depthAll (rs.map fun p => .tuple [.int p.1, .int p.2]) ≤ 1
  | [] => by simp [PyData.depthAll]
  | r :: t => by
    simp only [List.map_cons, PyData.depthAll]
    refine Nat.max_le.mpr ⟨?_, depth_pv t⟩
    simp [PyData.depth, PyData.depthAll]
def dPv (p : Rg) : PyData := .tuple [.int p.1, .int p.2]
theorem shaped_pv (rs : List Rg) : SeqAt.shaped (.list (rs.map dPv)) = true := by
  unfold SeqAt.shaped
  rw [PyData.canLay0, show PyData.canLayAll0 (rs.map dPv) = true from can_pv rs, PyData.depth]
  have : PyData.depthAll (rs.map dPv) ≤ 1 := depth_pv rs
  exact decide_eq_true (by omega)
theorem dp_pv {K : PySem.W.Frag} {H : Hp} : ∀ {xs : List V} {rs : List Rg}, Paired (PV H) xs rs → DpAll K H xs (rs.map dPv)
  | _, _, .nil => .nil
  | _, _, .cons ⟨t, e, h⟩ r => by
    subst e
    exact .cons (.tup (.of h) (.cons (.int _) (.cons (.int _) .nil))) (dp_pv r)
def dOs : Option Run → PyData
  | none => .none
  | some r => .tuple [.str r.1, .int r.2]
theorem dp_os {K : PySem.W.Frag} {H : Hp} {v : V} {st : Option Run} (h : StV H v st) : Dp K H v (dOs st) := by
  cases st with
  | none =>
    cases h
    exact .non
  | some r =>
    obtain ⟨t, rfl, ht⟩ := h
    exact .tup (.of ht) (.cons (.str _) (.cons (.int _) .nil))
theorem put_pastW {v st ra ar pa bl ps : V} : putF "past" v (fl6 st ra ar pa bl ps) = fl6 st ra ar pa bl v := by
  rw [fl6_eq, fl6_eq, putF_other (by decide +kernel), putF_other (by decide +kernel), putF_other (by decide +kernel), putF_other (by decide +kernel), putF_other (by decide +kernel), putF_hit]
def KSt (st : Option Run) : Prop := ∀ r, st = some r → KindOk r.1
theorem shaped_os {st : Option Run} (h : KSt st) : SeqAt.shaped (dOs st) = true := by
  cases st with
  | none => decide +kernel
  | some r =>
    unfold SeqAt.shaped dOs
    simp [PyData.canLay0, PyData.canLayAll0, PyData.depth, PyData.depthAll, (h r rfl).str]
theorem eqv_pv1 (a b : Rg) : PyData.eqv (dPv a) (dPv b) = decide (a = b) := by
  unfold dPv
  rw [PyData.eqv, PyData.eqvAll, PyData.eqvAll, PyData.eqvAll, PyData.eqv, PyData.eqv, Bool.and_true, Bool.beq_eq_decide_eq, Bool.beq_eq_decide_eq, ← Bool.decide_and]
  exact decide_eq_decide.mpr ⟨fun h => Prod.ext h.1 h.2, fun h => by rw [h]; exact ⟨rfl, rfl⟩⟩
theorem eqv_pvd : ∀ l m : List Rg, PyData.eqvAll (l.map dPv) (m.map dPv) = decide (l = m)
  | [], [] => by
    rw [List.map_nil, PyData.eqvAll]
    rfl
  | [], b :: m => by
    rw [List.map_nil, List.map_cons, PyData.eqvAll]
    exact (decide_eq_false (by intro h; cases h)).symm
  | a :: l, [] => by
    rw [List.map_nil, List.map_cons, PyData.eqvAll]
    exact (decide_eq_false (by intro h; cases h)).symm
  | a :: l, b :: m => by
    rw [List.map_cons, List.map_cons, PyData.eqvAll, eqv_pvd l m, eqv_pv1, ← Bool.decide_and]
    exact decide_eq_decide.mpr (by rw [List.cons.injEq])
theorem eqv_os (s t : Option Run) : PyData.eqv (dOs s) (dOs t) = decide (s = t) := by
  cases s with
  | none =>
    cases t with
    | none =>
      rw [show dOs none = PyData.none from rfl, PyData.eqv]
      rfl
    | some r =>
      rw [show dOs none = PyData.none from rfl, show dOs (some r) = .tuple [.str r.1, .int r.2] from rfl, PyData.eqv]
      exact (decide_eq_false (by intro h; cases h)).symm
  | some q =>
    cases t with
    | none =>
      rw [show dOs none = PyData.none from rfl, show dOs (some q) = .tuple [.str q.1, .int q.2] from rfl, PyData.eqv]
      exact (decide_eq_false (by intro h; cases h)).symm
    | some r =>
      rw [show dOs (some q) = .tuple [.str q.1, .int q.2] from rfl, show dOs (some r) = .tuple [.str r.1, .int r.2] from rfl, PyData.eqv, PyData.eqvAll, PyData.eqvAll, PyData.eqvAll, PyData.eqv, PyData.eqv, Bool.and_true, Bool.beq_eq_decide_eq, Bool.beq_eq_decide_eq, ← Bool.decide_and]
      exact decide_eq_decide.mpr ⟨fun h => by rw [Option.some.injEq]; exact Prod.ext h.1 h.2, fun h => by cases h; exact ⟨rfl, rfl⟩⟩
def SEq (S T : Sta) : Prop := S.st = T.st ∧ S.R = T.R ∧ S.n = T.n ∧ S.m = T.m
instance (S T : Sta) : Decidable (SEq S T) := by unfold SEq; infer_instance
/-- a list of operations -/
def Opl (H : Hp) (a : Addr) (ops : List Op) : Prop := ∃ xs, H a = some (.lst xs) ∧ Paired (OpV H) xs ops
theorem Opl.tk {H H' : Hp} {a : Addr} {R : List Op} (k : Tk H H') (c : ∀ o, H a = some o → H' a = some o) (h : Opl H a R) : Opl H' a R := by
  obtain ⟨xs, e, p⟩ := h
  exact ⟨xs, c _ e, Paired.imp (fun _ _ z => z.tk k) p⟩
theorem Opl.same {H H' : Hp} {a : Addr} {R : List Op} (s : Same H H') (h : Opl H a R) : Opl H' a R := h.tk (stk s) (fun o e => s _ _ e)
section
variable {P : Program} {w : World} {K : PySem.W.Frag} {mg : Str → Option Value} {base : Heap} {C : Addr}
/-! Station.operations_done: slots 0:self 1:operation 2:before -/
abbrev s_Station_operations_done : Stmt := inClass (topS 47) 13
theorem sc_Station_operations_done : FnScope ["self", "operation", "before"] ["self"] (defScope s_Station_operations_done) := ⟨rfl, rfl, rfl, by decide +kernel, rfl, by decide +kernel, by decide +kernel⟩
def sp_Station_operations_done (C : Addr) : Sp := fun vs H Q _ => ∃ (p ap ar ab : Addr) (S : Sta) (ops : List Op), vs = [.ref p] ∧ Stn C H p ap ar ab S ops ∧ ops.length ≤ 50000 ∧ ∀ H' l, Same H H' → H l = none → Opl H' l ops → Q (.ref l) H'
theorem ok_Station_operations_done (D : DfM K C "operations_done" "Station.operations_done" s_Station_operations_done) (TS : ClsT K mg C) : HasM P w K mg base C 1 "operations_done" ["self"] (sp_Station_operations_done C) := by
  refine hasM_of D sc_Station_operations_done (fun _ _ _ _ _ _ us hl => match us, hl with | [_], _ => rfl) (fun vs H Q E h => ?_) (fun f cdv A outer s₀ H vs Q E hr h => ?_)
  · obtain ⟨_, _, _, _, _, _, rfl, _⟩ := h
    rfl
  · obtain ⟨p, ap, ar, ab, S, ops, rfl, z, lo, q⟩ := h
    obtain ⟨⟨dx, v, hp, hv⟩, _, _, ⟨xs, hx, hxp⟩, _⟩ := z
    have lx : xs.length = ops.length := Paired.len hxp
    refine ⟨_, (pss_one (ps_ret (pe_lc (own := [("operation", 1), ("before", 2)]) rfl sc_Station_operations_done.nd (pi_list (pe_fld (pv 0) rfl)) (blkOk_by (N := ["self", "operation", "before"]) (sc := defScope s_Station_operations_done) (by decide +kernel)) (fun _ _ _ _ _ => (pg_tupK (K := K) (n := 2) rfl rfl (pgs_cons (pg_name (i := 1) sc_Station_operations_done.nd rfl (by first | exact Or.inl rfl | exact Or.inr rfl)) (pgs_cons (pg_name (i := 2) sc_Station_operations_done.nd rfl (by first | exact Or.inl rfl | exact Or.inr rfl)) pgs_nil)))) (fun _ _ _ _ _ => pts_nil) (fun _ _ _ _ _ => (pv 1))))), ?_⟩
    refine ⟨_, rfl, p, C, dx, _, _, rfl, hp, TS.cl, TS.n6, fl6_past .., ap, rfl, ⟨xs, .of hx⟩, fun L nL => lc_list (K := K) (a := ap) (xs := xs) (fun i H' => Same H H' ∧ ∃ ys, H' L = some (.lst ys) ∧ Paired (OpV H') ys (ops.take i)) ⟨same_upd nL, [], upd_same, .nil⟩ (fun i H' _ hP => .of (hP.1 _ _ hx)) (fun i x H3 ex hP => ?_) (fun H3 hP => ?_)⟩
    · obtain ⟨s3, ys, hL, hy⟩ := hP
      obtain ⟨o, er, hr1⟩ := Paired.at hxp ex
      obtain ⟨t, u, b, rfl, ht, hu⟩ := PastV.tk (stk s3) hr1
      have li : i < xs.length := (List.getElem?_eq_some_iff.mp ex).1
      refine ⟨t, _, rfl, .of ht, rfl, _, _, rfl, _, _, rfl, rfl, rfl, yesT ?_⟩
      have tk := tk_but hL (by intro _ y; cases y) (but_upd (o := .lst (ys ++ [u])))
      refine ⟨_, rfl, _, hL, ?_, same_grow nL s3, _, upd_same, ?_⟩
      · have := Paired.len hy
        rw [List.length_take] at this
        exact small (by omega)
      · rw [take_snoc er]
        exact Paired.app (Paired.imp (fun _ _ z => z.tk tk) hy) (.cons (hu.tk tk) .nil)
    obtain ⟨s3, ys, hL, hy⟩ := hP
    rw [lx, List.take_length] at hy
    exact q _ L s3 nL ⟨ys, hL, hy⟩
/-! Station.__eq__: slots 0:self 1:other -/
abbrev s_Station___eq__ : Stmt := inClass (topS 47) 1
theorem sc_Station___eq__ : FnScope ["self", "other"] ["self", "other"] (defScope s_Station___eq__) := ⟨rfl, rfl, rfl, by decide +kernel, rfl, by decide +kernel, by decide +kernel⟩
def sp_Station_eq (K : PySem.W.Frag) (C : Addr) : Sp := fun vs H Q _ => ∃ (p ap ar ab : Addr) (S : Sta) (ops : List Op) (y : V), vs = [.ref p, y] ∧ Stn C H p ap ar ab S ops ∧ KSt S.st ∧
  ((∃ (q aq ar' ab' : Addr) (T : Sta) (opt : List Op), y = .ref q ∧ Stn C H q aq ar' ab' T opt ∧ KSt T.st ∧ Q (.bl (decide (SEq S T))) H) ∨ ∃ t, TyX K H y t ∧ PySem.W.kitOne K t (.ref C) = some false ∧ Q (.bl false) H)
theorem ok_Station___eq__ (D : DfM K C "__eq__" "Station.__eq__" s_Station___eq__) (T : Tx mg) (TS : ClsT K mg C) (cc : CmpC K C) : HasM P w K mg base C 1 "__eq__" ["self", "other"] (sp_Station_eq K C) := by
  refine hasM_of D sc_Station___eq__ (fun _ _ _ _ _ _ us hl => match us, hl with | [_, _], _ => rfl) (fun vs H Q E h => ?_) (fun f cdv A outer s₀ H vs Q E hr h => ?_)
  · obtain ⟨_, _, _, _, _, _, _, rfl, _⟩ := h
    rfl
  · obtain ⟨p, ap, ar, ab, S, ops, y, rfl, z, ks, h⟩ := h
    refine ⟨_, (pss_one (ps_ret (pe_and (pe_callB call_isi (by rfl) T.n_isinstance (by decide +kernel) (pa_cons (pv 1) (pa_cons (pe_glob (v := .ref C) (by rfl) TS.mkS rfl) pa_nil))) (pe_and (pe_cmpR (op_eqD hr.units) (pe_fld (pv 0) rfl) (pe_fld (pv 1) rfl) (nomark _)) (pe_and (pe_cmpR (op_eqD hr.units) (pe_fld (pv 0) rfl) (pe_fld (pv 1) rfl) (nomark _)) (pe_and (pe_cmpR op_eq (pe_fld (pv 0) rfl) (pe_fld (pv 1) rfl) (nomark _)) (pe_one (pe_cmpR op_eq (pe_fld (pv 0) rfl) (pe_fld (pv 1) rfl) (nomark _))))))))), ?_⟩
    rcases h with ⟨q, aq, ar', ab', T', opt, rfl, z', ks', h⟩ | ⟨t, ty, kt, h⟩
    · obtain ⟨⟨dx, v, hp, hv⟩, ⟨xs, hx, hxp⟩, _⟩ := z
      obtain ⟨⟨dx', v', hp', hv'⟩, ⟨xs', hx', hxp'⟩, _⟩ := z'
      refine ⟨_, rfl, _, _, _, _, true, rfl, .own C, .base (.ins hp' TS.cl cc.ca cc.cn cc.ct cc.cm), kit_self, true, rfl, ?_⟩
      rw [if_pos rfl]
      refine ⟨_, rfl, p, C, dx, _, _, rfl, hp, TS.cl, TS.n1, fl6_state .., _, rfl, q, C, dx', _, _, rfl, hp', TS.cl, TS.n1, fl6_state .., _, _, dp_os hv, dp_os hv', shaped_os ks, shaped_os ks', _, rfl, ?_⟩
      rw [eqv_os]
      by_cases c1 : S.st = T'.st
      · rw [decide_eq_true c1, if_pos rfl]
        refine ⟨_, rfl, p, C, dx, _, _, rfl, hp, TS.cl, TS.n2, fl6_ranges .., _, rfl, q, C, dx', _, _, rfl, hp', TS.cl, TS.n2, fl6_ranges .., _, _, .lst (.of hx) (dp_pv hxp), .lst (.of hx') (dp_pv hxp'), shaped_pv _, shaped_pv _, _, rfl, ?_⟩
        rw [PyData.eqv, eqv_pvd]
        by_cases c2 : S.R = T'.R
        · rw [decide_eq_true c2, if_pos rfl]
          refine ⟨_, rfl, p, C, dx, _, _, rfl, hp, TS.cl, TS.n3, fl6_arrived .., _, rfl, q, C, dx', _, _, rfl, hp', TS.cl, TS.n3, fl6_arrived .., rfl, _, rfl, ?_⟩
          by_cases c3 : S.n = T'.n
          · rw [if_pos (decide_eq_true (by rw [c3]))]
            refine ⟨_, rfl, p, C, dx, _, _, rfl, hp, TS.cl, TS.n4, fl6_paired .., _, rfl, q, C, dx', _, _, rfl, hp', TS.cl, TS.n4, fl6_paired .., rfl, ?_⟩
            by_cases c4 : S.m = T'.m
            · rw [decide_eq_true (show SEq S T' from ⟨c1, c2, c3, c4⟩)] at h
              rw [decide_eq_true (by rw [c4])]
              exact h
            · rw [decide_eq_false (fun z : SEq S T' => c4 z.2.2.2)] at h
              rw [decide_eq_false (fun z => c4 (V.int.inj z))]
              exact h
          · rw [if_neg (by rw [decide_eq_false (fun z => c3 (V.int.inj z))]; exact Bool.false_ne_true)]
            rw [decide_eq_false (fun z : SEq S T' => c3 z.2.2.1)] at h
            exact h
        · rw [decide_eq_false c2, if_neg Bool.false_ne_true]
          rw [decide_eq_false (fun z : SEq S T' => c2 z.2.1)] at h
          exact h
      · rw [decide_eq_false c1, if_neg Bool.false_ne_true]
        rw [decide_eq_false (fun z : SEq S T' => c1 z.1)] at h
        exact h
    · refine ⟨_, rfl, _, _, _, _, false, rfl, .own C, ty, kt, false, rfl, ?_⟩
      rw [if_neg Bool.false_ne_true]
      exact h
end
end UP

set_option Elab.async false
set_option linter.all false
set_option maxRecDepth 100000
set_option maxHeartbeats 4000000
set_option pp.maxSteps 300
namespace UP
open PySem PySem.Spec PyProof.Rows L2
/-! ### a method called with a keyword; len by an own __len__ -/
def tMethN (C : Addr) (m : Str) (n j : Nat) (sp : Sp) (gV : List V → List V → List V) (E : XK) (ta : TE) (t tk : TA) : TE := fun σ H Q => ta σ H fun x H1 => ∃ a dx fs, x = .ref a ∧ H1 a = some (.ins C dx fs) ∧ fs.lookup m = none ∧
  t σ H1 fun vs H2 => tk σ H2 fun zs H3 => vs.length + 1 = n ∧ zs.length = j ∧ sp (gV (x :: vs) zs) H3 Q E
section
variable {X : Cx} {C : Addr} {k n : Nat} {m kw : Str} {ps : List Str} {sp : Sp} {d : V} {o e : Expr} {es : List Expr} {kws : List Keyword} {ta : TE} {t tk : TA} {p pos apos : Pos}
theorem pe_methNO {pl : Sem Bool} (he : PE X o ta) (c : Cls X.K C) (G : HasMD X.prog X.w X.K X.mg X.base C k m ps n kw d sp) (hr : Room k X.A) (ha : PA X (e :: es) t) (hkw : PK X kws tk)
    (hall : (backToKw pos (keywordEach kws X.env)).all (·.1.isSome) = true := by rfl) (hks : (backToKw pos (keywordEach kws X.env)).filterMap (·.1) = [kw] := by rfl)
    (hst : starEach (e :: es) X.env = (false, eval e X.env) :: starEach es X.env := by rfl)
    (hpl : ((backTo pos (starEach (e :: es) X.env)).any (·.1) || (backToKw pos (keywordEach kws X.env)).any (·.1.isNone)) = false := by rfl)
    (ht : eval (.Call (.Attribute o m apos) (e :: es) kws pos) X.env = (do
      let ov ← eval o X.env
      standAt apos.atName
      let (f, first) ← holding [ov] (getMethod ov m pl)
      callWith pos f first (backTo pos (starEach (e :: es) X.env)) (backToKw pos (keywordEach kws X.env))) := by rfl) :
    PE X (.Call (.Attribute o m apos) (e :: es) kws pos) (tMethN C m n 1 sp (fun vs zs => vs ++ zs) E0 ta t tk) := by
  obtain ⟨f, fd, hm, _, _, hb, F⟩ := G
  refine ⟨fun pins s σ H Q I h => ?_⟩
  refine PySem.W.methodCall_KW (pl := pl) (thn (he.run pins s σ H _ I h) fun u s1 ⟨x, H1, I1, rx, a, dx, fs, ex, ea, l, q⟩ => ?_) ht
  subst ex
  obtain rfl : u = Value.ref a := rx
  refine getmeth_ok I1 ea c hm l ?_
  refine PySem.W.callWith_KW (first := [.ref a]) (h₀ := X.base) I.ok.mod.kin hm.kp hall (thn (ha.run pos pins s1 σ H1 _ I1 q) fun us s2 ⟨vs, H2, I2, r, q2⟩ => ?_) hpl hst
  refine thn (hkw.run pos pins s2 σ H2 _ I2 q2) fun ws s3 ⟨zs, H3, I3, rz, l1, l2, q3⟩ => ⟨I3.kIn, ?_⟩
  rw [hks]
  exact run_fnN (us := .ref a :: us) (vs := .ref a :: vs) (ks := [kw]) F hr hb pass0 I3 (.cons rfl r) rz l1 l2 q3
theorem call_lenO (G : HasM X.prog X.w X.K X.mg X.base C k "__len__" ["self"] sp) (hr : Room (k + 1) X.A) :
    CallR X (.builtin "len") (fun xs H Q => ∃ (a dx : Addr) (fs : List (Str × V)), xs = [.ref a] ∧ H a = some (.ins C dx fs) ∧ sp [.ref a] H (fun v H' => ∃ j : Nat, v = .int j ∧ (j : Int) < 2 ^ 62 ∧ Q (.int j) H') E0) := by
  intro pins s σ H xs us Q I r h
  obtain ⟨f, fd, hm, hb, F⟩ := G
  obtain ⟨a, dx, fs, rfl, ha, q⟩ := h
  obtain ⟨u, rfl, ru⟩ := vals1 r
  cases ru
  obtain ⟨mA, J, _⟩ := ins_get I.hok ha
  obtain ⟨od, J, _⟩ := J.look
  obtain ⟨m, hF⟩ := I.fr
  refine PySem.W.len_K hF I.ok.mod.kin J hm.at_ hm.fn ?_
  have e0 : Env0 X.prog X.w X.K X.mg X.base X.A.in1 X.stack s H := by
    have e := I.env0
    exact ⟨e.frames, e.mod, e.bs, e.bsz, e.funs, e.frf, e.hok, e.bare⟩
  have hl := F.len _ _ _ _ q
  refine wpAny_call (codeAny_mono (F.run X.A.in1 X.stack s H ⟨[.ref a], []⟩ [.ref a] [.ref a] _ E0 hr.in1 e0 (by
    have := hb s [.ref a] I.kIn (by simpa using hl)
    simpa using this) (.cons rfl .nil) q) fun r s' hq => ?_)
  cases r with
  | error e => exact pass0 pins σ H s e s' I hq
  | ok fl =>
    cases fl with
    | ret w =>
      obtain ⟨z, H', I', rz, j, ez, l2, q2⟩ := I.after hq
      subst ez
      obtain ⟨tk, rfl⟩ := rz
      refine ⟨⟨?_, ?_⟩, .int j, H', I'.tok _, ⟨_, rfl⟩, q2⟩
      · omega
      · omega
    | next => exact False.elim hq
    | brk => exact False.elim hq
    | cont => exact False.elim hq
end
end UP

set_option Elab.async false
set_option linter.all false
set_option maxRecDepth 100000
set_option maxHeartbeats 4000000
set_option pp.maxSteps 300
namespace UP
open PySem PySem.Spec PyProof.Rows L2
/-! ### a station and the sequence of its arrivals -/
theorem mr0 : MR ⟨"", [], [], 0, 0⟩ ⟨none, [], 0, 0, []⟩ := ⟨rfl, rfl, True.intro, rfl, rfl, rfl, (fun x h => by cases h), rfl, ⟨⟨(fun p h => by cases h), (fun p h => by cases h), (fun p h => by cases h)⟩, List.nodup_nil, (fun x h => by cases h), (fun x h => by cases h), (fun x h => by cases h), Int.le_refl _⟩⟩
theorem arrM_add (M : Mod) (k : Str) (a : Nat) : ∀ b : Nat, arrM (arrM M k a) k b = arrM M k (a + b)
  | 0 => rfl
  | b + 1 => by
    show oneM (arrM (arrM M k a) k b) k = oneM (arrM M k (a + b)) k
    rw [arrM_add M k a b]
theorem MR.seq {M : Mod} {S T : Sta} (h : MR M S) (g : MR M T) : SEq S T := ⟨by rw [h.st, g.st], by rw [h.rg, g.rg], by rw [h.n, g.n], by rw [h.m, g.m]⟩
/-- all that waits is of an allowed kind -/
def KM (M : Mod) : Prop := M.q ≠ [] → KindOk M.k
theorem KM.one {M : Mod} {k : Str} (h : KM M) (kk : KindOk k) : KM (oneM M k) := by
  unfold oneM
  split
  · exact fun _ => kk
  · rename_i hn
    exact fun _ => h fun z => hn (.inl z)
theorem KM.arr {M : Mod} {k : Str} (h : KM M) (kk : KindOk k) : ∀ n, KM (arrM M k n)
  | 0 => h
  | n + 1 => (KM.arr h kk n).one kk
theorem KM.lev {M : Mod} (h : KM M) (i n : Nat) : KM (levM M i n) := fun z => h fun e => z (by
  show M.q.take i ++ M.q.drop (i + n) = []
  rw [e, List.take_nil, List.drop_nil]
  rfl)
theorem MR.kst {M : Mod} {S : Sta} (h : MR M S) (k : KM M) : KSt S.st := by
  intro r hr
  rw [h.st] at hr
  split at hr
  · cases hr
  · rename_i z
    cases hr
    exact k z
def m0 : Mod := ⟨"", [], [], 0, 0⟩
def mdR (rs : List Run) : Mod := rs.foldl (fun M r => arrM M r.1 r.2.toNat) m0
theorem mdR_snoc (rs : List Run) (r : Run) : mdR (rs ++ [r]) = arrM (mdR rs) r.1 r.2.toNat := by
  unfold mdR
  rw [List.foldl_append]
  rfl
structure WM (M : Mod) (ws : List Run) (n : Nat) (P : List Pr) : Prop where
  q : M.q = psW ws
  k : ∀ x ∈ ws, x.1 = M.k
  c : M.c = n
  p : M.P = P
theorem WM.one {M : Mod} {ws : List Run} {n : Nat} {P : List Pr} (h : WM M ws n P) (k : Str) : WM (oneM M k) (plS ws k n) (n + 1) (P ++ plP ws k n) := by
  obtain ⟨hq, hk, hc, hp⟩ := h
  cases ws with
  | nil =>
    have e : oneM M k = ⟨k, M.q ++ [M.c], M.P, M.c + 1, M.g⟩ := if_pos (.inl hq)
    rw [e]
    refine ⟨?_, fun x hx => ?_, ?_, ?_⟩
    · show M.q ++ [M.c] = [(n : Int)]
      rw [hq, hc]
      rfl
    · rw [List.mem_singleton.mp (show x ∈ [(k, (n : Int))] from hx)]
    · show M.c + 1 = ((n + 1 : Nat) : Int)
      omega
    · show M.P = P ++ []
      rw [hp, List.append_nil]
  | cons r t =>
    have hr := hk r (List.mem_cons_self ..)
    by_cases e : r.1 = k
    · have e1 : oneM M k = ⟨k, M.q ++ [M.c], M.P, M.c + 1, M.g⟩ := if_pos (.inr (by rw [← hr]; exact e))
      have e2 : plS (r :: t) k n = (r :: t) ++ [(k, (n : Int))] := if_pos e
      have e3 : plP (r :: t) k n = [] := if_pos e
      rw [e1, e2, e3]
      refine ⟨?_, fun x hx => ?_, ?_, ?_⟩
      · show M.q ++ [M.c] = psW ((r :: t) ++ [(k, (n : Int))])
        rw [hq, hc]
        unfold psW
        rw [List.map_append]
        rfl
      · rcases List.mem_append.mp hx with z | z
        · show x.1 = k
          rw [hk x z, ← hr]
          exact e
        · rw [List.mem_singleton.mp z]
      · show M.c + 1 = ((n + 1 : Nat) : Int)
        omega
      · show M.P = P ++ []
        rw [hp, List.append_nil]
    · have e1 : oneM M k = ⟨M.k, M.q.drop 1, M.P ++ zpL (M.q.take 1) M.c, M.c + 1, M.g⟩ := if_neg (by
        rintro (z | z)
        · rw [hq] at z
          cases z
        · exact e (hr.trans z))
      have e2 : plS (r :: t) k n = t := if_neg e
      have e3 : plP (r :: t) k n = [(r.2, (n : Int))] := if_neg e
      rw [e1, e2, e3]
      refine ⟨?_, fun x hx => hk x (List.mem_cons_of_mem _ hx), ?_, ?_⟩
      · show M.q.drop 1 = psW t
        rw [hq]
        rfl
      · show M.c + 1 = ((n + 1 : Nat) : Int)
        omega
      · show M.P ++ zpL (M.q.take 1) M.c = P ++ [(r.2, (n : Int))]
        rw [hp, hq, hc]
        rfl
theorem WM.arr {M : Mod} {ws : List Run} {n : Nat} {P : List Pr} (h : WM M ws n P) (k : Str) : ∀ c : Nat, WM (arrM M k c) (plA ws n (List.replicate c k)) (n + c) (P ++ psR ws n (List.replicate c k))
  | 0 => by
    show WM M ws n (P ++ [])
    rw [List.append_nil]
    exact h
  | c + 1 => by
    have ih := (WM.arr h k c).one k
    rw [List.replicate_succ', plA_app, psR_app, List.length_replicate, ← List.append_assoc]
    have e : ∀ (ws : List Run) (m : Nat), psR ws m [k] = plP ws k m := fun ws m => List.append_nil _
    rw [e]
    exact ih
theorem WM.runs : ∀ (rs : List Run) {M : Mod} {ws : List Run} {n : Nat} {P : List Pr}, WM M ws n P → WM (rs.foldl (fun M r => arrM M r.1 r.2.toNat) M) (plA ws n (itR rs)) (n + (itR rs).length) (P ++ psR ws n (itR rs))
  | [], M, ws, n, P, h => by
    show WM M ws n (P ++ [])
    rw [List.append_nil]
    exact h
  | r :: t, M, ws, n, P, h => by
    have ih := WM.runs t (h.arr r.1 r.2.toNat)
    have e : itR (r :: t) = List.replicate r.2.toNat r.1 ++ itR t := rfl
    rw [e, plA_app, psR_app, List.length_append, List.length_replicate, ← List.append_assoc, ← Nat.add_assoc]
    exact ih
theorem wm_runs (rs : List Run) : WM (mdR rs) (plA [] 0 (itR rs)) (itR rs).length (psR [] 0 (itR rs)) := by
  have := WM.runs rs (M := m0) (ws := []) (n := 0) (P := []) ⟨rfl, (fun x h => by cases h), rfl, rfl⟩
  rw [Nat.zero_add, List.nil_append] at this
  exact this
theorem scR_one (rs : List Run) : scR 1 rs = rs := by
  unfold scR
  have : (fun r : Run => (r.1, r.2 * 1)) = id := by
    funext r
    rw [Int.mul_one]
    rfl
  rw [this, List.map_id]
structure Agr (S : Sta) (rs : List Run) : Prop where
  n : S.n = lenR rs
  st : S.st = stR rs none
  R : S.R = waR (cutR 0 (lenR rs) 0 rs) none 0 []
  m : S.m = pcR rs (lenR rs)
  b : ∀ i, pgR S.B i = pgR (blR rs) i
theorem pg_same {B C : List Blk} (hB : PosB B) (hC : PosB C) (e : flB B = flB C) (u : U (flB B)) (i : Int) : pgR B i = pgR C i := by
  have uC : U (flB C) := by
    rw [← e]
    exact u
  by_cases h1 : ∃ p ∈ flB B, p.1 = i
  · obtain ⟨p, hp, em⟩ := h1
    rw [← em, pg_first B p hB u hp, pg_first C p hC uC (by rw [← e]; exact hp)]
  · by_cases h2 : ∃ p ∈ flB B, p.2 = i
    · obtain ⟨p, hp, em⟩ := h2
      rw [← em, pg_second B p hB u hp, pg_second C p hC uC (by rw [← e]; exact hp)]
    · have no : ∀ p ∈ flB B, p.1 ≠ i ∧ p.2 ≠ i := fun p hp => ⟨fun z => h1 ⟨p, hp, z⟩, fun z => h2 ⟨p, hp, z⟩⟩
      rw [pg_none B i hB no, pg_none C i hC (by rw [← e]; exact no)]
theorem MR.agr {S : Sta} {rs : List Run} (h : MR (mdR rs) S) (k : ∀ r ∈ rs, 1 ≤ r.2) (a : Alt rs) : Agr S rs := by
  obtain ⟨wq, wk, wc, wp⟩ := wm_runs rs
  have el := len_it rs k
  refine ⟨?_, ?_, ?_, ?_, fun i => ?_⟩
  · rw [h.n, wc, el]
  · rw [at_end pos_none k, h.st]
    show _ = toldR (plA [] 0 (itR rs))
    cases ew : plA [] 0 (itR rs) with
    | nil =>
      rw [ew] at wq
      rw [if_pos (show (mdR rs).q = [] from wq)]
      rfl
    | cons r t =>
      rw [ew] at wq wk
      rw [if_neg (by rw [wq]; intro z; cases z), wq, ← wk r (List.mem_cons_self ..)]
      show some (r.1, ((psW (r :: t)).length : Int)) = some (r.1, ((r :: t).length : Int))
      unfold psW
      rw [List.length_map]
  · have w := whole_wa (t := 1) (m := (itR rs).length) (by decide) k a
    rw [Int.mul_one, scR_one, List.take_length, el] at w
    rw [h.rg, wq, w]
  · have w := pc_at (m := (itR rs).length) k (Nat.le_refl _)
    rw [List.take_length, el] at w
    rw [h.m, wp, w]
  · obtain ⟨w1, w2⟩ := whole_pairs k a
    refine pg_same h.pb w2 (by rw [h.fb, wp, w1]) ?_ i
    rw [h.fb]
    exact h.ok.u
/-- the partner's partner -/
theorem MR.back {M : Mod} {S : Sta} (h : MR M S) {i j : Int} (e : pgR S.B i = some j) : pgR S.B j = some i ∧ 0 ≤ j ∧ j < S.n := by
  have u : U (flB S.B) := by
    rw [h.fb]
    exact h.ok.u
  have bd : ∀ p ∈ flB S.B, (0 ≤ p.1 ∧ p.1 < S.n) ∧ 0 ≤ p.2 ∧ p.2 < S.n := by
    rw [h.fb, h.n]
    exact h.ok.pb
  by_cases h1 : ∃ p ∈ flB S.B, p.1 = i
  · obtain ⟨p, hp, em⟩ := h1
    rw [← em, pg_first S.B p h.pb u hp] at e
    have e := Option.some.inj e
    rw [← e, pg_second S.B p h.pb u hp, em]
    exact ⟨rfl, (bd p hp).2⟩
  · by_cases h2 : ∃ p ∈ flB S.B, p.2 = i
    · obtain ⟨p, hp, em⟩ := h2
      rw [← em, pg_second S.B p h.pb u hp] at e
      have e := Option.some.inj e
      rw [← e, pg_first S.B p h.pb u hp, em]
      exact ⟨rfl, (bd p hp).1⟩
    · have no : ∀ p ∈ flB S.B, p.1 ≠ i ∧ p.2 ≠ i := fun p hp => ⟨fun z => h1 ⟨p, hp, z⟩, fun z => h2 ⟨p, hp, z⟩⟩
      rw [pg_none S.B i h.pb no] at e
      cases e
end UP

set_option Elab.async false
set_option linter.all false
set_option maxRecDepth 100000
set_option maxHeartbeats 4000000
set_option pp.maxSteps 600
namespace UP
open PySem PySem.Spec PyProof.Rows L2
/-! ### a method that may raise, in a try -/
def tMethZ (C : Addr) (m : Str) (sp : Sp) (E : L2.St → XK) (ta : TE) : TE := fun σ H Q => ta σ H fun x H1 => ∃ a dx fs, x = .ref a ∧ H1 a = some (.ins C dx fs) ∧ fs.lookup m = none ∧ sp [x] H1 Q (E σ)
section
variable {X : Cx} {C : Addr} {k : Nat} {m : Str} {ps : List Str} {sp : Sp} {E : L2.St → XK} {o : Expr} {ta : TE} {pos apos : Pos}
theorem pe_methZ {pl : Sem Bool} (he : PE X o ta) (c : Cls X.K C) (G : HasMX X.prog X.w X.K X.mg X.base C k m ps sp) (hr : Room k X.A) (hx : ∀ σ, PassesAt (L2.CX X.prog X.w) X σ (E σ))
    (ht : eval (.Call (.Attribute o m apos) [] [] pos) X.env = (do
      let ov ← eval o X.env
      standAt apos.atName
      let (f, first) ← holding [ov] (getMethod ov m pl)
      callWith pos f first (backTo pos (starEach [] X.env)) (backToKw pos (keywordEach [] X.env))) := by rfl) :
    PE X (.Call (.Attribute o m apos) [] [] pos) (tMethZ C m sp E ta) := by
  obtain ⟨f, fd, hm, hb, F⟩ := G
  constructor
  intro pins s σ H Q I h
  refine PySem.W.methodCall_KW (pl := pl) (thn (he.run pins s σ H _ I h) fun u s1 hh => ?_) ht
  obtain ⟨x, H1, I1, rx, a, dx, fs, ex, ea, l, q⟩ := hh
  subst ex
  cases (show u = Value.ref a from rx)
  exact getmeth_ok I1 ea c hm l (PySem.W.callWith_K0 (first := [.ref a]) I1.kIn hm.kp (run_fnS (us := [.ref a]) (vs := [.ref a]) F hr hb (hx σ) I1 (.cons rfl .nil) q))
end
theorem nf_undo : NotF "undo" := ⟨by decide +kernel, by decide +kernel, by decide +kernel, by decide +kernel, by decide +kernel, by decide +kernel⟩
theorem nf_current_state : NotF "current_state" := ⟨by decide +kernel, by decide +kernel, by decide +kernel, by decide +kernel, by decide +kernel, by decide +kernel⟩
theorem nf_waiting_positions : NotF "waiting_positions" := ⟨by decide +kernel, by decide +kernel, by decide +kernel, by decide +kernel, by decide +kernel, by decide +kernel⟩
theorem nf_arrival_count : NotF "arrival_count" := ⟨by decide +kernel, by decide +kernel, by decide +kernel, by decide +kernel, by decide +kernel, by decide +kernel⟩
theorem nf_pair_total : NotF "pair_total" := ⟨by decide +kernel, by decide +kernel, by decide +kernel, by decide +kernel, by decide +kernel, by decide +kernel⟩
theorem nf_give_up_count : NotF "give_up_count" := ⟨by decide +kernel, by decide +kernel, by decide +kernel, by decide +kernel, by decide +kernel, by decide +kernel⟩
theorem nf_partner_at : NotF "partner_at" := ⟨by decide +kernel, by decide +kernel, by decide +kernel, by decide +kernel, by decide +kernel, by decide +kernel⟩
theorem nf_arrive : NotF "arrive" := ⟨by decide +kernel, by decide +kernel, by decide +kernel, by decide +kernel, by decide +kernel, by decide +kernel⟩
theorem nf_give_up : NotF "give_up" := ⟨by decide +kernel, by decide +kernel, by decide +kernel, by decide +kernel, by decide +kernel, by decide +kernel⟩
theorem nf_duplicate : NotF "duplicate" := ⟨by decide +kernel, by decide +kernel, by decide +kernel, by decide +kernel, by decide +kernel, by decide +kernel⟩
theorem nf_operations_done : NotF "operations_done" := ⟨by decide +kernel, by decide +kernel, by decide +kernel, by decide +kernel, by decide +kernel, by decide +kernel⟩
theorem nf_len : NotF "__len__" := ⟨by decide +kernel, by decide +kernel, by decide +kernel, by decide +kernel, by decide +kernel, by decide +kernel⟩
theorem Stn.at {C : Addr} {H : Hp} {p ap ar ab : Addr} {S : Sta} {ops : List Op} (z : Stn C H p ap ar ab S ops) {m : Str} (nf : NotF m) : ∃ dx fs, H p = some (.ins C dx fs) ∧ fs.lookup m = none := by
  obtain ⟨⟨dx, v, h, _⟩, _⟩ := z
  exact ⟨dx, _, h, fl6_no nf ..⟩
/-! ### operations as data -/
def dK : Key → PyData
  | .inl i => .int i
  | .inr k => .str k
def dOp (o : Op) : PyData := .tuple [.str o.1, dK o.2.1, .int o.2.2]
/-- an arrival of an allowed kind -/
def ArO (o : Op) : Prop := ∃ (k : Str) (n : Nat), o = (("arrive" : Str), .inr k, (n : Int)) ∧ KindOk k ∧ 1 ≤ n ∧ n ≤ 10000000000000000000000000000
theorem can_op : ∀ (os : List Op), (∀ o ∈ os, ArO o) → PyData.canLayAll0 (os.map dOp) = true
  | [], _ => by simp [PyData.canLayAll0]
  | o :: t, h => by
    obtain ⟨k, n, rfl, kk, _⟩ := h o (List.mem_cons_self ..)
    simp only [List.map_cons, PyData.canLayAll0, can_op t fun x hx => h x (List.mem_cons_of_mem _ hx)]
    simp [dOp, dK, PyData.canLay0, PyData.canLayAll0, kk.str, (show KindOk "arrive" by decide +kernel).str]
theorem depth_op : ∀ (os : List Op), (∀ o ∈ os, ArO o) → PyData.depthAll (os.map dOp) ≤ 1
  | [], _ => by simp [PyData.depthAll]
  | o :: t, h => by
    obtain ⟨k, n, rfl, kk, _⟩ := h o (List.mem_cons_self ..)
    simp only [List.map_cons, PyData.depthAll]
    refine Nat.max_le.mpr ⟨?_, depth_op t fun x hx => h x (List.mem_cons_of_mem _ hx)⟩
    simp [dOp, dK, PyData.depth, PyData.depthAll]
theorem shaped_op {os : List Op} (h : ∀ o ∈ os, ArO o) : SeqAt.shaped (.list (os.map dOp)) = true := by
  unfold SeqAt.shaped
  rw [PyData.canLay0, can_op os h, PyData.depth]
  have := depth_op os h
  exact decide_eq_true (by omega)
theorem dp_op {K : PySem.W.Frag} {H : Hp} : ∀ {xs : List V} {os : List Op}, (∀ o ∈ os, ArO o) → Paired (OpV H) xs os → DpAll K H xs (os.map dOp)
  | _, _, _, .nil => .nil
  | _, o :: t, h, .cons ⟨u, e, hu⟩ r => by
    subst e
    obtain ⟨k, n, rfl, kk, _⟩ := h o (List.mem_cons_self ..)
    exact .cons (.tup (.of hu) (.cons (.str _) (.cons (.str _) (.cons (.int _) .nil)))) (dp_op (fun x hx => h x (List.mem_cons_of_mem _ hx)) r)
theorem eqv_op1 {o : Op} (h : ArO o) : PyData.eqv (dOp o) (dOp o) = true := by
  obtain ⟨k, n, rfl, kk, _⟩ := h
  unfold dOp dK
  dsimp only
  rw [PyData.eqv, PyData.eqvAll, PyData.eqvAll, PyData.eqvAll, PyData.eqvAll, PyData.eqv, PyData.eqv, PyData.eqv]
  simp
theorem eqv_ops : ∀ {l : List Op}, (∀ o ∈ l, ArO o) → PyData.eqvAll (l.map dOp) (l.map dOp) = true
  | [], _ => by
    rw [List.map_nil, PyData.eqvAll]
  | a :: l, h => by
    rw [List.map_cons, PyData.eqvAll, eqv_op1 (h a (List.mem_cons_self ..)), eqv_ops fun x hx => h x (List.mem_cons_of_mem _ hx)]
    rfl
/-! ### the sequence of all arrivals -/
def kOp (o : Op) : Str := match o.2.1 with
  | .inr k => k
  | .inl _ => ""
def snR (rs : List Run) (k : Str) (c : Int) : List Run := match rs.getLast? with
  | some r => if r.1 = k then rs.dropLast ++ [(k, r.2 + c)] else rs ++ [(k, c)]
  | none => rs ++ [(k, c)]
def joR (os : List Op) : List Run := os.foldl (fun rs o => snR rs (kOp o) o.2.2) []
theorem joR_snoc (os : List Op) (o : Op) : joR (os ++ [o]) = snR (joR os) (kOp o) o.2.2 := by
  unfold joR
  rw [List.foldl_append]
  rfl
def mdO (os : List Op) : Mod := os.foldl (fun M o => arrM M (kOp o) o.2.2.toNat) m0
theorem mdO_snoc (os : List Op) (o : Op) : mdO (os ++ [o]) = arrM (mdO os) (kOp o) o.2.2.toNat := by
  unfold mdO
  rw [List.foldl_append]
  rfl
theorem mdO_snocA (os : List Op) (k : Str) (n : Nat) : mdO (os ++ [(("arrive" : Str), .inr k, (n : Int))]) = arrM (mdO os) k n := mdO_snoc ..
theorem alt_kinds {rs hs : List Run} (h : hs.map (·.1) = rs.map (·.1)) (a : Alt rs) : Alt hs := by
  intro i x y hx hy
  have e : ∀ j : Nat, (hs[j]?).map (fun r : Run => r.1) = (rs[j]?).map (fun r : Run => r.1) := fun j => by
    have := congrArg (fun l : List Str => l[j]?) h
    simp only [List.getElem?_map] at this
    exact this
  have e1 := e i
  have e2 := e (i + 1)
  rw [hx] at e1
  rw [hy] at e2
  cases hx' : rs[i]? with
  | none =>
    rw [hx'] at e1
    cases e1
  | some u =>
    cases hy' : rs[i + 1]? with
    | none =>
      rw [hy'] at e2
      cases e2
    | some v =>
      rw [hx'] at e1
      rw [hy'] at e2
      have e1 : x.1 = u.1 := Option.some.inj e1
      have e2 : y.1 = v.1 := Option.some.inj e2
      rw [e1, e2]
      exact a i u v hx' hy'
structure JoOk (os : List Op) (rs : List Run) : Prop where
  md : mdR rs = mdO os
  ok : ∀ r ∈ rs, KindOk r.1 ∧ 1 ≤ r.2
  tot : ∀ r ∈ rs, r.2 ≤ 10000000000000000000000000000 * os.length
  alt : Alt rs
  len : rs.length ≤ os.length
theorem snR_ok {os : List Op} {rs : List Run} (h : JoOk os rs) {o : Op} (ho : ArO o) : JoOk (os ++ [o]) (snR rs (kOp o) o.2.2) := by
  obtain ⟨k, n, rfl, kk, n1, n2⟩ := ho
  obtain ⟨md, ok, tot, alt, len⟩ := h
  have el : (os ++ [(("arrive" : Str), (Sum.inr k : Key), (n : Int))]).length = os.length + 1 := by rw [List.length_append]; rfl
  show JoOk _ (snR rs k (n : Int))
  unfold snR
  rcases List.eq_nil_or_concat rs with e | ⟨t, r, e⟩
  · rw [e] at md ⊢
    refine ⟨?_, fun r hr => ?_, fun r hr => ?_, ?_, ?_⟩
    · rw [mdO_snocA, ← md]
      exact mdR_snoc [] (k, (n : Int))
    · rw [List.mem_singleton.mp (show r ∈ [(k, (n : Int))] from hr)]
      exact ⟨kk, by show (1 : Int) ≤ n; omega⟩
    · rw [List.mem_singleton.mp (show r ∈ [(k, (n : Int))] from hr), el]
      show (n : Int) ≤ _
      omega
    · intro i x y hx hy
      simp at hy
    · rw [el]
      show 1 ≤ os.length + 1
      omega
  · rw [List.concat_eq_append] at e
    rw [e] at md ok tot alt len ⊢
    rw [List.getLast?_concat]
    dsimp only
    have hr0 := ok r (List.mem_append.mpr (.inr (List.mem_singleton.mpr rfl)))
    have ht0 := tot r (List.mem_append.mpr (.inr (List.mem_singleton.mpr rfl)))
    by_cases c : r.1 = k
    · rw [if_pos c, List.dropLast_concat]
      rw [mdR_snoc] at md
      refine ⟨?_, fun x hx => ?_, fun x hx => ?_, ?_, ?_⟩
      · rw [mdO_snocA, ← md, mdR_snoc]
        show arrM (mdR t) k (r.2 + n).toNat = _
        rw [c, arrM_add]
        congr 1
        omega
      · rcases List.mem_append.mp hx with z | z
        · exact ok x (List.mem_append.mpr (.inl z))
        · rw [List.mem_singleton.mp z]
          exact ⟨kk, by show 1 ≤ r.2 + (n : Int); omega⟩
      · rw [el]
        rcases List.mem_append.mp hx with z | z
        · have := tot x (List.mem_append.mpr (.inl z))
          omega
        · rw [List.mem_singleton.mp z]
          show r.2 + (n : Int) ≤ _
          omega
      · refine alt_kinds ?_ alt
        rw [List.map_append, List.map_append]
        show _ ++ [k] = _ ++ [r.1]
        rw [c]
      · rw [el]
        rw [List.length_append] at len ⊢
        have : ([r] : List Run).length = 1 := rfl
        show t.length + 1 ≤ _
        omega
    · rw [if_neg c]
      refine ⟨?_, fun x hx => ?_, fun x hx => ?_, ?_, ?_⟩
      · rw [mdO_snocA, ← md]
        exact mdR_snoc (t ++ [r]) (k, (n : Int))
      · rcases List.mem_append.mp hx with z | z
        · exact ok x z
        · rw [List.mem_singleton.mp z]
          exact ⟨kk, by show (1 : Int) ≤ n; omega⟩
      · rw [el]
        rcases List.mem_append.mp hx with z | z
        · have := tot x z
          omega
        · rw [List.mem_singleton.mp z]
          show (n : Int) ≤ _
          omega
      · refine alt_snoc alt fun y hy => ?_
        rw [List.length_append] at hy
        rw [show t.length + ([r] : List Run).length - 1 = t.length from rfl, List.getElem?_concat_length] at hy
        cases hy
        exact c
      · rw [el, List.length_append]
        show (t ++ [r]).length + 1 ≤ _
        omega
theorem snocI {α : Type} {P : List α → Prop} (h0 : P []) (hs : ∀ t x, P t → P (t ++ [x])) (l : List α) : P l := by
  have k : ∀ r : List α, P r.reverse := fun r => by
    induction r with
    | nil => exact h0
    | cons x t ih =>
      rw [List.reverse_cons]
      exact hs _ _ ih
  have h := k l.reverse
  rw [List.reverse_reverse] at h
  exact h
theorem jo_ok : ∀ {os : List Op}, (∀ o ∈ os, ArO o) → JoOk os (joR os) := by
  intro os
  refine snocI (P := fun os => (∀ o ∈ os, ArO o) → JoOk os (joR os)) ?_ (fun t o ih => ?_) os
  · exact fun _ => ⟨rfl, (fun r h => by cases h), (fun r h => by cases h), (fun i x y h => by simp [joR] at h), Nat.le_refl _⟩
  · intro h
    rw [joR_snoc]
    exact snR_ok (ih fun x hx => h x (List.mem_append.mpr (.inl hx))) (h o (List.mem_append.mpr (.inr (List.mem_singleton.mpr rfl))))
section
variable {P : Program} {w : World} {K : PySem.W.Frag} {mg : Str → Option Value} {base : Heap} {C CN : Addr}
/-! _law_refused: slots 0:station -/
abbrev s_law_refused : Stmt := topS 54
theorem sc_law_refused : FnScope ["station"] ["station"] (defScope s_law_refused) := ⟨rfl, rfl, rfl, by decide +kernel, rfl, by decide +kernel, by decide +kernel⟩
def sp_law_refused (C : Addr) : Sp := fun vs H Q _ => ∃ (p ap ar ab : Addr) (S : Sta), vs = [.ref p] ∧ Stn C H p ap ar ab S [] ∧ ∀ H', Same H H' → Q (.bl true) H'
theorem ok_law_refused (D : Df K mg "_law_refused" s_law_refused) (TS : ClsT K mg C) (X1 : Ex K mg "NothingToUndo" CN) (G_Station_undoX : HasMX P w K mg base C 1 "undo" ["self"] (sp_Station_undoX C CN)) : Has P w K mg base 2 "_law_refused" ["station"] (sp_law_refused C) := by
  refine has_of D sc_law_refused (fun _ _ _ _ _ _ us hl => match us, hl with | [_], _ => rfl) (fun vs H Q E h => ?_) (fun f cdv A outer s₀ H vs Q E hr h => ?_)
  · obtain ⟨_, _, _, _, _, rfl, _⟩ := h
    rfl
  · obtain ⟨p, ap, ar, ab, S, rfl, z, q⟩ := h
    refine ⟨_, pss_cons (ps_try_only (Wout := fun _ _ _ _ => False) (ts := fun _ _ _ => tRet (tC (.bl true))) (tb := fun W => tDrop (tMethZ C "undo" (sp_Station_undoX C CN) (WE W) (tVar 0))) rfl rfl ⟨rfl, by decide, .inl X1.g⟩ takes0 (fun W pn xe tk _ => pss_one (ps_expr (pe_methZ (pv 0) TS.cl G_Station_undoX (hr.mono (by omega)) (fun σ => passAt tk σ)))) (fun a oe cls d pn _ _ => pss_one (ps_ret pe_bl)))
      (pss_one (ps_ret pe_bl)), ?_⟩
    obtain ⟨dx1, fs1, hp1, lk1⟩ := z.at nf_undo
    exact ⟨_, rfl, p, dx1, fs1, rfl, hp1, lk1, p, ap, ar, ab, S, rfl, z, fun H' s => ⟨true, X1.em, fun _ a _ => q H' s, fun z => by cases z⟩⟩
/-! _law_runs: slots 0:history 1:found 2:name 3:kind 4:count -/
abbrev s_law_runs : Stmt := topS 52
theorem sc_law_runs : FnScope ["history", "found", "name", "kind", "count"] ["history"] (defScope s_law_runs) := ⟨rfl, rfl, rfl, by decide +kernel, rfl, by decide +kernel, by decide +kernel⟩
def sp_law_runs : Sp := fun vs H Q _ => ∃ (a : Addr) (os : List Op), vs = [.ref a] ∧ Opl H a os ∧ (∀ o ∈ os, ArO o) ∧ os.length ≤ 1000 ∧ ∀ H' L, Same H H' → H L = none → Runs H' L (joR os) → Q (.ref L) H'
theorem ok_law_runs (D : Df K mg "_law_runs" s_law_runs) : Has P w K mg base 1 "_law_runs" ["history"] sp_law_runs := by
  refine has_of D sc_law_runs (fun _ _ _ _ _ _ us hl => match us, hl with | [_], _ => rfl) (fun vs H Q E h => ?_) (fun f cdv A outer s₀ H vs Q E hr h => ?_)
  · obtain ⟨_, _, rfl, _⟩ := h
    rfl
  · obtain ⟨a, os, rfl, ⟨xs, hx, hxp⟩, aro, l4, q⟩ := h
    have lx : xs.length = os.length := Paired.len hxp
    refine ⟨_, (pss_cons (ps_set (i := 1) sc_law_runs.nd rfl (by first | exact Or.inl rfl | exact Or.inr rfl) (pe_lst pa_nil))
    (pss_cons (ps_for PassesOwn.never rfl (pi_list (pv 0)) (pg_tup rfl (pgs_cons (pg_name (i := 2) sc_law_runs.nd rfl (by first | exact Or.inl rfl | exact Or.inr rfl)) (pgs_cons (pg_name (i := 3) sc_law_runs.nd rfl (by first | exact Or.inl rfl | exact Or.inr rfl)) (pgs_cons (pg_name (i := 4) sc_law_runs.nd rfl (by first | exact Or.inl rfl | exact Or.inr rfl)) pgs_nil))))
      (pss_one (ps_if (PW.pt (pw_and (pt_cmpR (op_neD hr.units) (pv 1) (pe_lst pa_nil) (nomark _)) (pw_and1 (pt_cmpR op_eq (pe_ix ix_tup (pe_ix ix_list (pv 1) (pe_un un_neg pe_int) (fun _ _ => rfl)) pe_int (fun _ _ => rfl)) (pv 3) (nomark _))))) (pss_one (ps_asg (pe_tup (pa_cons (pv 3) (pa_cons (pe_op op_add (pe_ix ix_tup (pe_ix ix_list (pv 1) (pe_un un_neg pe_int) (fun _ _ => rfl)) pe_int (fun _ _ => rfl)) (pv 4)) pa_nil))) (pg_sub (pv 1) (pe_un un_neg pe_int) set_list))) (pss_one (ps_expr (pe_bm PySem.F.plainAttrs_list PySem.F.slot_list_append PySem.F.type_list_append mt_append (pv 1) (pa_cons (pe_tup (pa_cons (pv 3) (pa_cons (pv 4) pa_nil))) pa_nil)))))))
    (pss_one (ps_ret (pv 1))))), ?_⟩
    refine ⟨Nat.zero_le _, fun L nL => ?_⟩
    refine ⟨_, rfl, a, rfl, ⟨xs, .of (same_upd nL _ _ hx)⟩, for_list (K := K) (a := a) (xs := xs) (fun i σ H' => ∃ y2 y3 y4, σ = [some (.ref a), some (.ref L), y2, y3, y4] ∧ Same H H' ∧ Runs H' L (joR (os.take i)))
      ⟨_, _, _, rfl, same_upd nL, [], upd_same, .nil⟩ (fun i σ H' _ hP => ?_) (fun i x σ H' ex hP => ?_) (fun σ H' hP => ?_)⟩
    · obtain ⟨_, _, _, _, s, _⟩ := hP
      exact .of (s _ _ hx)
    · obtain ⟨y2, y3, y4, rfl, s1, ⟨ys, hL, hy⟩⟩ := hP
      obtain ⟨o, eo, ho⟩ := Paired.at hxp ex
      have hi : i < xs.length := (List.getElem?_eq_some_iff.mp ex).1
      have ok := jo_ok (os := os.take i) fun o ho => aro o (List.mem_of_mem_take ho)
      have ly : ys.length ≤ 1000 := by
        rw [Paired.len hy]
        have := ok.len
        rw [List.length_take] at this
        omega
      obtain ⟨t, rfl, ht⟩ := ho.tk (stk s1)
      obtain ⟨k, n, eo', kk, n1, n2⟩ := aro o (List.mem_of_getElem? eo)
      subst eo'
      have es : joR (os.take (i + 1)) = snR (joR (os.take i)) k (n : Int) := by
        rw [take_snoc eo]
        exact joR_snoc ..
      rw [es]
      refine ⟨t, _, rfl, .of ht, rfl, _, _, rfl, _, _, rfl, _, _, rfl, rfl, ?_⟩
      generalize hrs : joR (os.take i) = rs at *
      have okR : ∀ r ∈ rs, KindOk r.1 := fun r h => (ok.ok r h).1
      have aL : a ≠ L := ne_of_none hx nL
      have fin : ∀ (e u : Addr) (xs' : List V), H' e = none → (upd H' e (.lst [])) u = none → Same H (upd (upd (upd H' e (.lst [])) u (.tup xs')) L (.lst (ys ++ [.ref u]))) := fun e u xs' ne nu b o eb => by
        rw [upd_ne (ne_of_none eb nL)]
        exact same_upd nu _ _ (same_upd ne _ _ (s1 _ _ eb))
      refine ⟨_, rfl, Nat.zero_le _, fun e ne => ?_⟩
      have se := same_upd (o := .lst []) ne
      have he := upd_same (H := H') (a := e) (o := .lst [])
      refine ⟨.list (rs.map dRun), .list [], .lst (.of (se _ _ hL)) (dp_all (prs_same se hy)), .lst (.of he) .nil, shaped_runs okR, shaped_nil, _, rfl, ?_⟩
      rw [eqv_nil]
      rcases List.eq_nil_or_concat rs with e0 | ⟨R0, l, e0⟩
      · subst e0
        cases hy
        refine iteN rfl ?_
        refine ⟨_, rfl, .inl ⟨rfl, _, SqL.of (se _ _ hL)⟩, _, rfl, _, rfl, (by show 2 ≤ sizeLine; decide), fun u nu => ⟨L, _, _, rfl, rfl, same_upd nu _ _ (se _ _ hL), (by show 0 < sizeLine; decide), ?_⟩⟩
        exact ⟨_, _, _, rfl, fin e u _ ne nu, _, upd_same, .cons (RunV.grow (same_upd nu _ _ (se _ _ hL)) ⟨u, rfl, upd_same⟩) .nil⟩
      · rw [List.concat_eq_append] at e0
        subst e0
        have ne0 : (R0 ++ [l]).isEmpty = false := by cases R0 <;> rfl
        obtain ⟨ys0, y, rfl, hy0, ⟨tl, rfl, htl⟩⟩ := paired_snocR R0 l hy
        have exl : atI (ys0 ++ [V.ref tl]) (-1) = some (.ref tl) := atI_last _ _
        refine iteP (by rw [ne0]; rfl) ?_
        refine ⟨_, rfl, 1, rfl, L, _, -1, _, rfl, rfl, .of (se _ _ hL), exl, tl, _, 0, _, rfl, rfl, .of (se _ _ htl), at0, _, rfl, rfl, _, rfl, ite2 (fun e1 => ?_) (fun e1 => ?_)⟩
        · have e1 : l.1 = k := V.str.inj (of_decide_eq_true e1)
          have er : snR (R0 ++ [l]) k n = R0 ++ [(k, l.2 + n)] := by
            unfold snR
            rw [List.getLast?_concat, List.dropLast_concat]
            exact if_pos e1
          refine ⟨_, rfl, _, rfl, 1, rfl, L, _, -1, _, rfl, rfl, .of (se _ _ hL), exl, tl, _, 1, _, rfl, rfl, .of (se _ _ htl), at1, _, rfl, _, _, rfl, rfl, (by show 2 ≤ sizeLine; decide), fun u nu => ⟨_, rfl, 1, rfl, L, _, -1, ys0.length, rfl, rfl, same_upd nu _ _ (se _ _ hL), ?_, ?_⟩⟩
          · rw [List.length_append]
            exact ixN_lastX
          · rw [set_lastX, er]
            refine ⟨_, _, _, rfl, fun b o eb => ?_, _, upd_same, Paired.app (prs_grow (same_upd nu _ _ (se _ _ hL)) (prs_same (se.trans (same_upd nu)) hy0)) (.cons (RunV.grow (same_upd nu _ _ (se _ _ hL)) ⟨u, rfl, upd_same⟩) .nil)⟩
            rw [upd_ne (ne_of_none eb nL)]
            exact same_upd nu _ _ (se _ _ (s1 _ _ eb))
        · have e1 : ¬ l.1 = k := fun z => e1 (decide_eq_true (by rw [z]; rfl))
          have er : snR (R0 ++ [l]) k n = (R0 ++ [l]) ++ [(k, (n : Int))] := by
            unfold snR
            rw [List.getLast?_concat]
            exact if_neg e1
          refine ⟨_, rfl, .inl ⟨rfl, _, SqL.of (se _ _ hL)⟩, _, rfl, _, rfl, (by show 2 ≤ sizeLine; decide), fun u nu => ⟨L, _, _, rfl, rfl, same_upd nu _ _ (se _ _ hL), small (by omega), ?_⟩⟩
          rw [er]
          exact ⟨_, _, _, rfl, fin e u _ ne nu, _, upd_same, Paired.app (prs_grow (same_upd nu _ _ (se _ _ hL)) (prs_same (se.trans (same_upd nu)) hy)) (.cons (RunV.grow (same_upd nu _ _ (se _ _ hL)) ⟨u, rfl, upd_same⟩) .nil)⟩
    · obtain ⟨y2, y3, y4, rfl, s1, hL⟩ := hP
      rw [lx, List.take_length] at hL
      exact ⟨_, rfl, q _ L s1 nL hL⟩
end
end UP

set_option Elab.async false
set_option linter.all false
set_option maxRecDepth 100000
set_option maxHeartbeats 4000000
set_option pp.maxSteps 1200
namespace UP
open PySem PySem.Spec PyProof.Rows L2
theorem kst_step {st : Option Run} {k : Str} {c : Int} (h : KSt st) (kk : KindOk k) : KSt (stepR st k c) := by
  intro r hr
  cases st with
  | none =>
    cases hr
    exact kk
  | some s =>
    have := h s rfl
    unfold stepR at hr
    dsimp only at hr
    repeat' split at hr
    all_goals first | (cases hr; first | exact kk | exact this) | cases hr
theorem kst_runs : ∀ (rs : List Run) {st : Option Run}, KSt st → (∀ r ∈ rs, KindOk r.1) → KSt (stR rs st)
  | [], _, h, _ => h
  | r :: t, st, h, k => by
    rw [stR_cons]
    exact kst_runs t (kst_step h (k r (List.mem_cons_self ..))) fun x hx => k x (List.mem_cons_of_mem _ hx)
/-- a station and its arrivals -/
structure AL (os : List Op) (S : Sta) : Prop where
  ar : ∀ o ∈ os, ArO o
  mr : MR (mdO os) S
  lR : S.R.length ≤ os.length
  lB : S.B.length ≤ 40 * os.length
theorem AL.step {os : List Op} {S : Sta} (h : AL os S) (l : os.length ≤ 40) {k : Str} {n : Nat} (kk : KindOk k) (n1 : 1 ≤ n) (n2 : n ≤ 10000000000000000000000000000) : AL (os ++ [(("arrive" : Str), .inr k, (n : Int))]) (arrS S k n) := by
  obtain ⟨ar, mr, lR, lB⟩ := h
  have el : (os ++ [(("arrive" : Str), (Sum.inr k : Key), (n : Int))]).length = os.length + 1 := by rw [List.length_append]; rfl
  refine ⟨fun o ho => ?_, ?_, ?_, ?_⟩
  · rcases List.mem_append.mp ho with z | z
    · exact ar o z
    · rw [List.mem_singleton.mp z]
      exact ⟨k, n, rfl, kk, n1, n2⟩
  · rw [mdO_snocA]
    exact (mr.arr k n1).1
  · rw [el]
    have : (arrS S k n).R.length ≤ S.R.length + 1 := rarR_len ..
    omega
  · rw [el]
    have : (arrS S k n).B.length = S.B.length + (brR S.R S.n (leavR S.st k n)).length := List.length_append ..
    have := brR_len S.R S.n (leavR S.st k n)
    omega
theorem AL.nil : AL [] ⟨none, [], 0, 0, []⟩ := ⟨fun o h => (by cases h), mr0, Nat.le_refl _, Nat.le_refl _⟩
theorem mdO_g : ∀ os : List Op, (mdO os).g = 0 := by
  intro os
  unfold mdO
  have gen : ∀ (os : List Op) (M : Mod), (os.foldl (fun M o => arrM M (kOp o) o.2.2.toNat) M).g = M.g := by
    intro os
    induction os with
    | nil => intro M; rfl
    | cons r t ih => intro M; exact (ih _).trans (arr_g _ _ _)
  exact gen os m0
theorem km0 : KM m0 := fun h => absurd rfl h
theorem kmO : ∀ (os : List Op), (∀ o ∈ os, ArO o) → KM (mdO os) := by
  intro os h
  unfold mdO
  have gen : ∀ (os : List Op) (M : Mod), (∀ o ∈ os, ArO o) → KM M → KM (os.foldl (fun M o => arrM M (kOp o) o.2.2.toNat) M) := by
    intro os
    induction os with
    | nil => intro M _ k; exact k
    | cons r t ih =>
      intro M h k
      obtain ⟨kd, n, rfl, kk, _⟩ := h r (List.mem_cons_self ..)
      exact ih _ (fun x hx => h x (List.mem_cons_of_mem _ hx)) (k.arr kk _)
  exact gen os m0 h km0
theorem mdO_c : ∀ (os : List Op), (∀ o ∈ os, ArO o) → (mdO os).c ≤ 10000000000000000000000000000 * os.length := by
  intro os
  refine snocI (P := fun os => (∀ o ∈ os, ArO o) → (mdO os).c ≤ 10000000000000000000000000000 * os.length) (fun _ => Int.le_refl _) (fun t o ih => ?_) os
  · intro h
    obtain ⟨kd, n, rfl, kk, n1, n2⟩ := h o (List.mem_append.mpr (.inr (List.mem_singleton.mpr rfl)))
    have := ih fun x hx => h x (List.mem_append.mpr (.inl hx))
    rw [mdO_snocA, arr_c, List.length_append]
    show (mdO t).c + (n : Int) ≤ 10000000000000000000000000000 * ((t.length + 1 : Nat) : Int)
    omega
theorem seq_jo {os : List Op} (h : ∀ o ∈ os, ArO o) (l : os.length ≤ 40) : SeqOk (joR os) := by
  have j := jo_ok h
  refine ⟨Nat.le_trans j.len (by omega), fun r hr => ⟨(j.ok r hr).1, (j.ok r hr).2, ?_⟩, j.alt⟩
  have := j.tot r hr
  show r.2 ≤ 1000000000000000000000000000000
  omega
theorem AL.agr {os : List Op} {S : Sta} (h : AL os S) : Agr S (joR os) := by
  have j := jo_ok h.ar
  exact MR.agr (by rw [j.md]; exact h.mr) (fun r hr => (j.ok r hr).2) j.alt
theorem Opl.butM {H H' : Hp} {st a : Addr} {os : List Op} (z : SM H st) (b : But st H H') (n : a ≠ st) (h : Opl H a os) : Opl H' a os := by
  obtain ⟨d, c, hs, _⟩ := z
  exact h.tk (tk_but hs (by intro _ y; cases y) b) (b.at n)
theorem Stn.butM {C : Addr} {H H' : Hp} {st q aq r b : Addr} {T : Sta} {opt : List Op} (z : SM H st) (f : But st H H') (g : Stn C H q aq r b T opt) (h : q ≠ st ∧ aq ≠ st ∧ r ≠ st ∧ b ≠ st) : Stn C H' q aq r b T opt := by
  obtain ⟨_, _, hb, _⟩ := z
  exact g.keep (tk_but hb (by intro _ y; cases y) f) (f.at h.1) (f.at h.2.1) (f.at h.2.2.1) (f.at h.2.2.2)
theorem wideM {n : Int} (h0 : 0 ≤ n) (h : n ≤ 1000000000000000000000000000000000000000000000000000000000000) : n.natAbs < 2 ^ 8000 :=
  Nat.lt_of_lt_of_le (show n.natAbs < 2 ^ 200 by
    have : (2 : Nat) ^ 200 = 1606938044258990275541962092341162602522202993782792835301376 := by decide +kernel
    omega) (Nat.pow_le_pow_right (by decide) (by decide))
section
variable {P : Program} {w : World} {K : PySem.W.Frag} {mg : Str → Option Value} {base : Heap} {C : Addr}
/-! Station.__len__: slots 0:self -/
abbrev s_Station___len__ : Stmt := inClass (topS 47) 2
theorem sc_Station___len__ : FnScope ["self"] ["self"] (defScope s_Station___len__) := ⟨rfl, rfl, rfl, by decide +kernel, rfl, by decide +kernel, by decide +kernel⟩
def sp_Station_len (C : Addr) : Sp := fun vs H Q _ => ∃ (p ap ar ab : Addr) (S : Sta) (ops : List Op), vs = [.ref p] ∧ Stn C H p ap ar ab S ops ∧ Q (.int ops.length) H
theorem ok_Station___len__ (D : DfM K C "__len__" "Station.__len__" s_Station___len__) (T : Tx mg) (TS : ClsT K mg C) : HasM P w K mg base C 1 "__len__" ["self"] (sp_Station_len C) := by
  refine hasM_of D sc_Station___len__ (fun _ _ _ _ _ _ us hl => match us, hl with | [_], _ => rfl) (fun vs H Q E h => ?_) (fun f cdv A outer s₀ H vs Q E hr h => ?_)
  · obtain ⟨_, _, _, _, _, _, rfl, _⟩ := h
    rfl
  · obtain ⟨p, ap, ar, ab, S, ops, rfl, z, q⟩ := h
    obtain ⟨⟨dx, v, hp, hv⟩, _, _, ⟨xs, hx, hxp⟩, _⟩ := z
    rw [← Paired.len hxp] at q
    refine ⟨_, (pss_one (ps_ret (pe_callB call_len_seq (by rfl) T.n_len (by decide +kernel) (pa_cons (pe_fld (pv 0) rfl) pa_nil)))), ?_⟩
    exact ⟨_, rfl, p, C, dx, _, _, rfl, hp, TS.cl, TS.n6, fl6_past .., ap, xs, rfl, .inl (.of hx), q⟩
/-! _law_agrees: slots 0:stream 1:station 2:history 3:sequence 4:size 5:position -/
abbrev s_law_agrees : Stmt := topS 53
theorem sc_law_agrees : FnScope ["stream", "station", "history", "sequence", "size", "position"] ["stream", "station", "history"] (defScope s_law_agrees) := ⟨rfl, rfl, rfl, by decide +kernel, rfl, by decide +kernel, by decide +kernel⟩
def sp_law_agrees (C : Addr) : Sp := fun vs H Q _ => ∃ (st p ap ar ab hl : Addr) (S : Sta) (ops : List Op), vs = [.ref st, .ref p, .ref hl] ∧ SM H st ∧ p ≠ st ∧ ap ≠ st ∧ ar ≠ st ∧ ab ≠ st ∧ hl ≠ st ∧ Stn C H p ap ar ab S ops ∧ Opl H hl ops ∧ AL ops S ∧ ops.length ≤ 40 ∧
  ∀ H', But st H H' → SM H' st → Q (.bl true) H'
theorem ok_law_agrees (D : Df K mg "_law_agrees" s_law_agrees) (T : Tx mg) (TS : ClsT K mg C) (G_law_draw : Has P w K mg base 1 "_law_draw" ["stream", "many"] sp_law_draw) (G_law_runs : Has P w K mg base 1 "_law_runs" ["history"] sp_law_runs) (G_law_length : Has P w K mg base 1 "_law_length" ["sequence"] sp_law_length)
    (G_Station_operations_done : HasM P w K mg base C 1 "operations_done" ["self"] (sp_Station_operations_done C)) (G_Station___len__ : HasM P w K mg base C 1 "__len__" ["self"] (sp_Station_len C)) (G_Station_give_up_count : HasM P w K mg base C 2 "give_up_count" ["self"] (sp_Station_give_up_count C))
    (G_Station_arrival_count : HasM P w K mg base C 1 "arrival_count" ["self"] (sp_Station_arrival_count C)) (G_Station_current_state : HasM P w K mg base C 1 "current_state" ["self"] (sp_Station_current_state C)) (G_Station_waiting_positions : HasM P w K mg base C 1 "waiting_positions" ["self"] (sp_Station_waiting_positions C))
    (G_Station_pair_total : HasM P w K mg base C 1 "pair_total" ["self"] (sp_Station_pair_total C)) (G_Station_partner_at : HasM P w K mg base C 3 "partner_at" ["self", "position"] (sp_Station_partner_at C)) (G_state_after : HasD P w K mg base 6 "state_after" ["sequence", "state"] 1 "state" sp_state_after)
    (G_waiting_at : Has P w K mg base 6 "waiting_at" ["sequence", "moment"] sp_waiting_at) (G_pair_count : HasD P w K mg base 6 "pair_count" ["sequence", "moment"] 1 "moment" sp_pair_count) (G_partner_of : Has P w K mg base 6 "partner_of" ["sequence", "position"] sp_partner_of) :
    Has P w K mg base 7 "_law_agrees" ["stream", "station", "history"] (sp_law_agrees C) := by
  refine has_of D sc_law_agrees (fun _ _ _ _ _ _ us hl => match us, hl with | [_, _, _], _ => rfl) (fun vs H Q E h => ?_) (fun f cdv A outer s₀ H vs Q E hr h => ?_)
  · obtain ⟨_, _, _, _, _, _, _, _, rfl, _⟩ := h
    rfl
  · obtain ⟨st, p, ap, ar, ab, hl, S, ops, rfl, zm, q1, q2, q3, q4, q5, zs, hO, al, l40, qq⟩ := h
    have ok := seq_jo al.ar l40
    have ag := al.agr
    have g0 := mdO_g ops
    have tot := al.mr.tot
    have mn := al.mr.n
    have mm := al.mr.m
    have mst := al.mr.st
    have nLe := mdO_c ops al.ar
    have c0 := al.mr.ok.c0
    have km := kmO ops al.ar
    have ks := al.mr.kst km
    have lRs := (jo_ok al.ar).len
    generalize hrs : joR ops = rs at *
    refine ⟨_, (pss_cons (ps_set (i := 3) sc_law_agrees.nd rfl (by first | exact Or.inl rfl | exact Or.inr rfl) (pe_callH G_law_runs (hr.mono (by omega)) (by rfl) (pa_cons (pv 2) pa_nil)))
    (pss_cons (ps_set (i := 4) sc_law_agrees.nd rfl (by first | exact Or.inl rfl | exact Or.inr rfl) (pe_callH G_law_length (hr.mono (by omega)) (by rfl) (pa_cons (pv 3) pa_nil)))
    (pss_cons (ps_if (PW.pt (pw_or (pt_cmpR (op_neD hr.units) (pe_meth0O (pv 1) TS.cl G_Station_operations_done (hr.mono (by omega))) (pv 2) (nomark _)) (pw_or (pt_cmpR op_ne ((pe_callB (call_lenO G_Station___len__ (hr.mono (by omega))) (by rfl) T.n_len (by decide +kernel) (pa_cons (pv 1) pa_nil))) (pe_callB call_len_seq (by rfl) T.n_len (by decide +kernel) (pa_cons (pv 2) pa_nil)) (nomark _)) (pw_or1 (pt_cmpR op_ne (pe_meth0O (pv 1) TS.cl G_Station_arrival_count (hr.mono (by omega))) (pv 4) (nomark _)))))) (pss_one (ps_ret pe_bl)) pss_nil)
    (pss_cons (ps_if (PW.pt (pw_or (pt_cmpR (op_neD hr.units) (pe_meth0O (pv 1) TS.cl G_Station_current_state (hr.mono (by omega))) (pe_callDH G_state_after (hr.mono (by omega)) (by rfl) (pa_cons (pv 3) pa_nil)) (nomark _)) (pw_or1 (pt_cmpR (op_neD hr.units) (pe_meth0O (pv 1) TS.cl G_Station_waiting_positions (hr.mono (by omega))) (pe_callH G_waiting_at (hr.mono (by omega)) (by rfl) (pa_cons (pv 3) (pa_cons (pv 4) pa_nil))) (nomark _))))) (pss_one (ps_ret pe_bl)) pss_nil)
    (pss_cons (ps_if (PW.pt (pw_or (pt_cmpR op_ne (pe_meth0O (pv 1) TS.cl G_Station_pair_total (hr.mono (by omega))) (pe_callDH G_pair_count (hr.mono (by omega)) (by rfl) (pa_cons (pv 3) pa_nil)) (nomark _)) (pw_or1 (pt_cmpR op_ne (pe_meth0O (pv 1) TS.cl G_Station_give_up_count (hr.mono (by omega))) pe_int (nomark _))))) (pss_one (ps_ret pe_bl)) pss_nil)
    (pss_cons (ps_if (pt_cmpR op_eq (pv 4) pe_int (nomark _)) (pss_one (ps_ret pe_bl)) pss_nil)
    (pss_cons (ps_set (i := 5) sc_law_agrees.nd rfl (by first | exact Or.inl rfl | exact Or.inr rfl) (pe_callH G_law_draw (hr.mono (by omega)) (by rfl) (pa_cons (pv 0) (pa_cons (pv 4) pa_nil))))
    (pss_one (ps_ret (pe_cmpR op_eq (pe_methO (pv 1) TS.cl G_Station_partner_at (hr.mono (by omega)) (pa_cons (pv 5) pa_nil)) (pe_callH G_partner_of (hr.mono (by omega)) (by rfl) (pa_cons (pv 3) (pa_cons (pv 5) pa_nil))) (nomark _))))))))))), ?_⟩
    refine ⟨_, rfl, hl, ops, rfl, hO, al.ar, by omega, fun H1 L s1 nL hR => ?_⟩
    rw [hrs] at hR
    refine ⟨_, rfl, L, rs, rfl, hR, by omega, fun H2 s2 => ?_⟩
    have s12 := s1.trans s2
    have zs2 := zs.same s12
    have hO2 := hO.same s12
    have hR2 := hR.same s2
    have zm2 := zm.same s12
    have mLen : lenR rs = S.n := ag.n.symm
    clear s1 s2 hR hO zs
    rw [mLen]
    -- what was done
    obtain ⟨dx1, fs1, hp1, lk1⟩ := zs2.at nf_operations_done
    refine ⟨_, rfl, p, dx1, fs1, rfl, hp1, lk1, p, ap, ar, ab, S, ops, rfl, zs2, by omega, fun H3 l3 s3 n3 h3 => ?_⟩
    obtain ⟨x3, hx3, hp3⟩ := h3
    obtain ⟨x2, hx2, hp2⟩ := hO2.same s3
    refine ⟨_, rfl, .list (ops.map dOp), .list (ops.map dOp), .lst (.of hx3) (dp_op al.ar hp3), .lst (.of hx2) (dp_op al.ar hp2), shaped_op al.ar, shaped_op al.ar, _, rfl, iteN (by rw [PyData.eqv, eqv_ops al.ar]; rfl) ?_⟩
    have zs3 := zs2.same s3
    have hR3 := hR2.same s3
    have zm3 := zm2.same s3
    have sA := s12.trans s3
    have lx2 : x2.length = ops.length := Paired.len hp2
    clear zs2 hR2 hx3 hp3 hp1 lk1 s12 zm2 hO2 s3
    obtain ⟨dx1, fs1, hp1, lk1⟩ := zs3.at nf_len
    refine ⟨_, rfl, p, dx1, fs1, rfl, hp1, p, ap, ar, ab, S, ops, rfl, zs3, ops.length, rfl, by omega, _, rfl, hl, x2, rfl, .inl (.of hx2), rfl, _, rfl, iteN (by rw [lx2, decide_eq_true rfl]; rfl) ?_⟩
    obtain ⟨dx1, fs1, hp1, lk1⟩ := zs3.at nf_arrival_count
    refine ⟨_, rfl, p, dx1, fs1, rfl, hp1, lk1, p, ap, ar, ab, S, ops, rfl, zs3, _, rfl, rfl, _, rfl, iteN (by rw [decide_eq_true rfl]; rfl) ?_⟩
    -- the state
    obtain ⟨dx1, fs1, hp1, lk1⟩ := zs3.at nf_current_state
    refine ⟨_, rfl, p, dx1, fs1, rfl, hp1, lk1, p, ap, ar, ab, S, ops, rfl, zs3, fun v hv => ⟨_, rfl, .ref L, rs, .non, none, rfl, hR3.dress, ok, rfl, (by intro r h; cases h), fun H4 v4 s4 h4 => ?_⟩⟩
    rw [← ag.st] at h4
    refine ⟨dOs S.st, dOs S.st, dp_os (hv.same s4), dp_os h4, shaped_os ks, shaped_os ks, _, rfl, iteN (by rw [eqv_os, decide_eq_true rfl]; rfl) ?_⟩
    have zs4 := zs3.same s4
    have hR4 := hR3.same s4
    have zm4 := zm3.same s4
    have sB := sA.trans s4
    clear hv h4 zs3 hR3 zm3 hp1 lk1 sA s4
    -- who waits
    obtain ⟨dx1, fs1, hp1, lk1⟩ := zs4.at nf_waiting_positions
    refine ⟨_, rfl, p, dx1, fs1, rfl, hp1, lk1, p, ap, ar, ab, S, ops, rfl, zs4, fun H5 l5 s5 n5 h5 => ⟨_, rfl, _, rfl, .ref L, rs, S.n, rfl, (hR4.same s5).dress, ok, by omega, by rw [mLen]; exact Int.le_refl _, fun H6 l6 s6 n6 h6 => ?_⟩⟩
    rw [← mLen, ← ag.R] at h6
    obtain ⟨xs5, hx5, hp5⟩ := h5.same s6
    obtain ⟨xs6, hx6, hp6⟩ := h6
    refine ⟨.list (S.R.map dPv), .list (S.R.map dPv), .lst (.of hx5) (dp_pv hp5), .lst (.of hx6) (dp_pv hp6), shaped_pv _, shaped_pv _, _, rfl, iteN (by rw [PyData.eqv, eqv_pvd, decide_eq_true rfl]; rfl) ?_⟩
    have s56 := s5.trans s6
    have zs6 := zs4.same s56
    have hR6 := hR4.same s56
    have zm6 := zm4.same s56
    have sC := sB.trans s56
    clear hx5 hp5 hx6 hp6 h5 zs4 hR4 zm4 hp1 lk1 sB s56 s5 s6
    -- the numbers
    obtain ⟨dx1, fs1, hp1, lk1⟩ := zs6.at nf_pair_total
    refine ⟨_, rfl, p, dx1, fs1, rfl, hp1, lk1, p, ap, ar, ab, S, ops, rfl, zs6, _, rfl, .ref L, rs, .non, lenR rs, rfl, hR6.dress, ok, .inl ⟨rfl, rfl⟩, by omega, Int.le_refl _, fun H7 s7 => ?_⟩
    rw [← ag.m]
    refine ⟨rfl, _, rfl, iteN (by rw [decide_eq_true rfl]; rfl) ?_⟩
    have zs7 := zs6.same s7
    obtain ⟨dx1, fs1, hp1, lk1⟩ := zs7.at nf_give_up_count
    have eg : S.n - 2 * S.m - numR S.st = 0 := by
      have : numR S.st = ((mdO ops).q.length : Int) := by
        rw [mst]
        split
        · rename_i e
          rw [e]
          rfl
        · rfl
      omega
    refine ⟨_, rfl, p, dx1, fs1, rfl, hp1, lk1, p, ap, ar, ab, S, ops, rfl, zs7, ?_⟩
    rw [eg]
    refine ⟨rfl, _, rfl, iteN (by decide) ?_⟩
    have sD := sC.trans s7
    have hR7 := hR6.same s7
    have zm7 := zm6.same s7
    clear zs6 hR6 zm6 hp1 lk1 sC s7
    refine ⟨_, rfl, rfl, _, rfl, ite2 (fun e => qq _ (Same.but sD) zm7) (fun e => ?_)⟩
    · have e : S.n ≠ 0 := fun z => e (by rw [z]; rfl)
      refine ⟨_, rfl, _, rfl, st, S.n, rfl, zm7, by omega, wideM (by omega) (by omega), fun H8 r8 b8 z8 r80 r81 => ?_⟩
      have zs8 := Stn.butM zm7 b8 zs7 ⟨q1, q2, q3, q4⟩
      have hR8 := Runs.butM zm7 b8 hR7
      obtain ⟨dx1, fs1, hp1, lk1⟩ := zs8.at nf_partner_at
      refine ⟨_, rfl, p, dx1, fs1, rfl, hp1, lk1, _, rfl, p, ap, ar, ab, S, ops, r8, rfl, zs8, r80, r81, ?_⟩
      refine ⟨_, rfl, _, rfl, .ref L, rs, r8, rfl, hR8.dress, ok, r80, (by rw [mLen]; exact r81), fun H9 s9 => ?_⟩
      rw [← ag.b r8]
      refine ⟨(by cases pgR S.B r8 <;> rfl), ?_⟩
      rw [decide_eq_true rfl]
      exact qq _ ((Same.but sD).trans (b8.trans (Same.but s9))) (z8.same s9)
end
end UP

set_option Elab.async false
set_option linter.all false
set_option maxRecDepth 100000
set_option maxHeartbeats 4000000
set_option pp.maxSteps 1200
namespace UP
open PySem PySem.Spec PyProof.Rows L2
theorem abcd_at {r : Int} (r0 : 0 ≤ r) (r1 : r < 4) : ∃ c, atI (("abcd" : Str).cps.toList) r = some c ∧ KindOk ⟨#[c]⟩ := by
  rcases (show r = 0 ∨ r = 1 ∨ r = 2 ∨ r = 3 by omega) with e | e | e | e
  · rw [e]
    exact ⟨97, by decide +kernel, by decide +kernel⟩
  · rw [e]
    exact ⟨98, by decide +kernel, by decide +kernel⟩
  · rw [e]
    exact ⟨99, by decide +kernel, by decide +kernel⟩
  · rw [e]
    exact ⟨100, by decide +kernel, by decide +kernel⟩
theorem eqv_nilO (os : List Op) : PyData.eqv (.list (os.map dOp)) (.list []) = os.isEmpty := by
  rw [PyData.eqv]
  cases os with
  | nil =>
    rw [List.map_nil, PyData.eqvAll]
    rfl
  | cons a t =>
    rw [List.map_cons, PyData.eqvAll]
    rfl
/-! ### all but some objects are kept -/
def Kp (D : List Addr) (H H' : Hp) : Prop := ∀ b o, b ∉ D → H b = some o → H' b = some o
theorem Kp.of {D : List Addr} {H H' : Hp} (s : Same H H') : Kp D H H' := fun b o _ e => s _ _ e
theorem Kp.trans {D : List Addr} {H H1 H2 : Hp} (a : Kp D H H1) (b : Kp D H1 H2) : Kp D H H2 := fun x o n e => b _ _ n (a _ _ n e)
theorem Kp.more {D D' : List Addr} {H H' : Hp} (a : Kp D H H') (s : ∀ x ∈ D, x ∈ D') : Kp D' H H' := fun x o n e => a _ _ (fun z => n (s _ z)) e
theorem Kp.at {D : List Addr} {H H' : Hp} {x : Addr} (a : Kp D H H') (n : x ∉ D) : ∀ o, H x = some o → H' x = some o := fun o e => a _ _ n e
theorem Kp.but {D : List Addr} {H H' : Hp} {x : Addr} (b : But x H H') (m : x ∈ D) : Kp D H H' := fun y o n e => b _ _ (fun z => n (z ▸ m)) e
theorem Kp.fr {D : List Addr} {H H' : Hp} {x y : Addr} (b : Fr x y H H') (m : x ∈ D) (m2 : y ∈ D) : Kp D H H' := fun z o n e => b _ _ (fun q => n (q ▸ m)) (fun q => n (q ▸ m2)) e
def Liv (H : Hp) (L : List Addr) : Prop := ∀ x ∈ L, ∃ o, H x = some o ∧ ∀ xs, o ≠ .tup xs
theorem Liv.not {H : Hp} {L : List Addr} {x : Addr} (l : Liv H L) (e : H x = none) : x ∉ L := fun m => by
  obtain ⟨o, h, _⟩ := l x m
  rw [h] at e
  cases e
theorem Liv.same {H H' : Hp} {L : List Addr} (l : Liv H L) (s : Same H H') : Liv H' L := fun x m => by
  obtain ⟨o, h, n⟩ := l x m
  exact ⟨o, s _ _ h, n⟩
theorem Liv.tk {H H' : Hp} {L D : List Addr} (l : Liv H L) (k : Kp D H H') (s : ∀ x ∈ D, x ∈ L) : Tk H H' := fun b xs e => k _ _ (fun m => by
  obtain ⟨o, h, n⟩ := l b (s _ m)
  rw [e] at h
  cases h
  exact n xs rfl) e
/-- a station, its past and the list of what was done -/
structure Wks (C : Addr) (H : Hp) (st p ap ar ab hl : Addr) (S : Sta) (es : List Ent) (os : List Op) : Prop where
  z : StnH C H p ap ar ab S es
  h : Opl H hl os
  eo : es.map (·.o) = os
  al : AL os S
  lv : ∀ (i : Nat) (e : Ent), es[i]? = some e → AL (os.take i) e.S
  oR : ar ∉ [st, p, ap, hl] ∧ ab ∉ [st, p, ap, hl]
  oE : ∀ e ∈ es, e.ar ∉ [st, p, ap, hl] ∧ e.ab ∉ [st, p, ap, hl]
  nd : p ≠ st ∧ ap ≠ st ∧ hl ≠ st ∧ hl ≠ p ∧ hl ≠ ap ∧ ap ≠ p
theorem SM.liv {H : Hp} {st : Addr} (z : SM H st) : ∃ o, H st = some o ∧ ∀ xs, o ≠ .tup xs := by
  obtain ⟨_, _, e, _⟩ := z
  exact ⟨_, e, by intro _ y; cases y⟩
section
variable {C : Addr} {H H' : Hp} {st p ap ar ab hl : Addr} {S : Sta} {es : List Ent} {os : List Op}
theorem StnH.liv (z : StnH C H p ap ar ab S es) : (∃ o, H p = some o ∧ ∀ xs, o ≠ .tup xs) ∧ ∃ o, H ap = some o ∧ ∀ xs, o ≠ .tup xs := by
  obtain ⟨⟨_, _, h1, _⟩, _, _, ⟨_, h2, _⟩, _⟩ := z
  exact ⟨⟨_, h1, by intro _ y; cases y⟩, ⟨_, h2, by intro _ y; cases y⟩⟩
theorem Wks.liv (zm : SM H st) (w : Wks C H st p ap ar ab hl S es os) : Liv H [st, p, ap, hl] := fun x hx => by
  simp only [List.mem_cons, List.not_mem_nil, or_false] at hx
  rcases hx with e | e | e | e
  · rw [e]
    exact zm.liv
  · rw [e]
    exact w.z.liv.1
  · rw [e]
    exact w.z.liv.2
  · rw [e]
    obtain ⟨_, h, _⟩ := w.h
    exact ⟨_, h, by intro _ y; cases y⟩
theorem n4a {x a b c d : Addr} (h : x ∉ [a, b, c, d]) : x ≠ a ∧ x ≠ b ∧ x ≠ c ∧ x ≠ d := by
  simp only [List.mem_cons, List.not_mem_nil, or_false, not_or] at h
  exact h
theorem n4b {x a b c d : Addr} (h1 : x ≠ a) (h2 : x ≠ b) (h3 : x ≠ c) (h4 : x ≠ d) : x ∉ [a, b, c, d] := by
  simp only [List.mem_cons, List.not_mem_nil, or_false, not_or]
  exact ⟨h1, h2, h3, h4⟩
theorem Wks.same (w : Wks C H st p ap ar ab hl S es os) (s : Same H H') : Wks C H' st p ap ar ab hl S es os := ⟨w.z.same s, w.h.same s, w.eo, w.al, w.lv, w.oR, w.oE, w.nd⟩
/-- one of the four objects changes -/
theorem Wks.keep {x : Addr} {o : HO} (w : Wks C H st p ap ar ab hl S es os) (hx : H x = some o) (no : ∀ xs, o ≠ .tup xs) (b : But x H H') (m : x = st) : Wks C H' st p ap ar ab hl S es os := by
  obtain ⟨n1, n2, n3, _, _, _⟩ := id w.nd
  subst m
  have tk := tk_but hx no b
  exact ⟨w.z.keep tk (b.at n1) (b.at n2) (b.at (n4a w.oR.1).1) (b.at (n4a w.oR.2).1) (fun e he => ⟨b.at (n4a (w.oE e he).1).1, b.at (n4a (w.oE e he).2).1⟩), w.h.tk tk (b.at n3), w.eo, w.al, w.lv, w.oR, w.oE, w.nd⟩
theorem Wks.butM (w : Wks C H st p ap ar ab hl S es os) (z : SM H st) (b : But st H H') : Wks C H' st p ap ar ab hl S es os := by
  obtain ⟨_, _, hs, _⟩ := z
  exact w.keep hs (by intro _ y; cases y) b rfl
theorem Wks.stn (w : Wks C H st p ap ar ab hl S es os) : Stn C H p ap ar ab S os := by
  have := w.z.stn
  rw [w.eo] at this
  exact this
theorem Wks.len (w : Wks C H st p ap ar ab hl S es os) : es.length = os.length := by rw [← w.eo, List.length_map]
/-- an arrival, put down in the list -/
theorem Wks.arr {H1 H2 : Hp} {ar' ab' : Addr} {k : Str} {n : Nat} {xs : List V} {u : Addr} (zm : SM H st) (w : Wks C H st p ap ar ab hl S es os) (l : os.length ≤ 40) (kk : KindOk k) (n1 : 1 ≤ n) (n2 : n ≤ 10000000000000000000000000000) (fr : Fr p ap H H1) (na : H ar' = none) (nb : H ab' = none)
    (z1 : StnH C H1 p ap ar' ab' (arrS S k n) (es ++ [⟨(("arrive" : Str), .inr k, (n : Int)), S, ar, ab⟩])) (hx : H1 hl = some (.lst xs)) (nu : H1 u = none) (e : H2 = upd (upd H1 u (.tup [.str "arrive", .str k, .int n])) hl (.lst (xs ++ [.ref u]))) :
    Kp [st, p, ap, hl] H H2 ∧ SM H2 st ∧ Wks C H2 st p ap ar' ab' hl (arrS S k n) (es ++ [⟨(("arrive" : Str), .inr k, (n : Int)), S, ar, ab⟩]) (os ++ [(("arrive" : Str), .inr k, (n : Int))]) := by
  have lv := w.liv zm
  obtain ⟨d1, d2, d3, d4, d5, d6⟩ := id w.nd
  obtain ⟨ys, hy, hyp⟩ := id w.h
  have k1 : Kp [p, ap] H H1 := Kp.fr fr (by simp) (by simp)
  have tk1 := lv.tk k1 (by intro x hx; simp only [List.mem_cons, List.not_mem_nil, or_false] at hx ⊢; rcases hx with e | e <;> simp [e])
  have hy1 := fr _ _ d4 d5 hy
  rw [hx] at hy1
  cases hy1
  have s2 := same_upd (o := .tup [.str "arrive", .str k, .int n]) nu
  have hu2 : (upd H1 u (.tup [.str "arrive", .str k, .int n])) u = some (.tup [.str "arrive", .str k, .int n]) := upd_same
  have z2 := z1.same s2
  have hx2 := s2 _ _ hx
  have hy2 := Paired.imp (fun _ _ y => OpV.tk ((tk1.trans (stk s2))) y) hyp
  have zm2 : SM (upd H1 u (.tup [.str "arrive", .str k, .int n])) st := by
    obtain ⟨d, c, hs, r⟩ := zm
    exact ⟨d, c, s2 _ _ (fr _ _ d1.symm d2.symm hs), r⟩
  have k2 : Kp [p, ap] H (upd H1 u (.tup [.str "arrive", .str k, .int n])) := k1.trans (Kp.of s2)
  generalize upd H1 u (.tup [.str "arrive", .str k, .int n]) = H3 at *
  have b3 : But hl H3 H2 := by
    rw [e]
    exact but_upd
  have hx3 : H2 hl = some (.lst (xs ++ [.ref u])) := by rw [e, upd_same]
  have tk3 := tk_but hx2 (by intro _ y; cases y) b3
  have n1' := lv.not na
  have n2' := lv.not nb
  have oE' : ∀ e ∈ es ++ [(⟨(("arrive" : Str), .inr k, (n : Int)), S, ar, ab⟩ : Ent)], e.ar ∉ [st, p, ap, hl] ∧ e.ab ∉ [st, p, ap, hl] := fun x hx => by
    rcases List.mem_append.mp hx with h | h
    · exact w.oE x h
    · rw [List.mem_singleton.mp h]
      exact w.oR
  refine ⟨?_, ?_, ⟨z2.keep tk3 (b3.at d4.symm) (b3.at d5.symm) (b3.at (n4a n1').2.2.2) (b3.at (n4a n2').2.2.2) (fun x hx => ⟨b3.at (n4a (oE' x hx).1).2.2.2, b3.at (n4a (oE' x hx).2).2.2.2⟩), ⟨_, hx3, ?_⟩, ?_, w.al.step l kk n1 n2, fun i x hi => ?_, ⟨n1', n2'⟩, oE', w.nd⟩⟩
  · exact (k2.more (by intro x hx; simp only [List.mem_cons, List.not_mem_nil, or_false] at hx ⊢; rcases hx with e | e <;> simp [e])).trans (Kp.but b3 (by simp))
  · obtain ⟨d, c, hs, r⟩ := zm2
    exact ⟨d, c, b3 _ _ d3.symm hs, r⟩
  · exact Paired.app (Paired.imp (fun _ _ y => y.tk tk3) hy2) (.cons ⟨u, rfl, tk3 _ _ hu2⟩ .nil)
  · rw [List.map_append, w.eo]
    rfl
  · have le := w.len
    by_cases c : i < es.length
    · rw [List.getElem?_append_left c] at hi
      have := w.lv i x hi
      rw [List.take_append_of_le_length (by omega)]
      exact this
    · have hi' := (List.getElem?_eq_some_iff.mp hi).1
      rw [List.length_append] at hi'
      have hi' : i < es.length + 1 := hi'
      have ei : i = es.length := by omega
      rw [ei, List.getElem?_concat_length] at hi
      cases hi
      rw [ei, le, List.take_left' rfl]
      exact w.al
/-- the last operation is taken back -/
theorem Wks.und {H1 H2 : Hp} {xs : List V} {y : V} {e : Ent} {es' : List Ent} {os' : List Op} {o : Op} (zm : SM H st) (w : Wks C H st p ap ar ab hl S (es' ++ [e]) (os' ++ [o])) (hx : H hl = some (.lst (xs ++ [y]))) (e1 : H1 = upd H hl (.lst xs)) (fr : Fr p ap H1 H2) (z2 : StnH C H2 p ap e.ar e.ab e.S es') :
    Kp [st, p, ap, hl] H H2 ∧ SM H2 st ∧ Wks C H2 st p ap e.ar e.ab hl e.S es' os' := by
  have lv := w.liv zm
  obtain ⟨d1, d2, d3, d4, d5, d6⟩ := id w.nd
  obtain ⟨ys, hy, hyp⟩ := id w.h
  have b1 : But hl H H1 := by
    rw [e1]
    exact but_upd
  have hx1 : H1 hl = some (.lst xs) := by rw [e1, upd_same]
  have k2 : Kp [st, p, ap, hl] H H2 := (Kp.but b1 (by simp)).trans (Kp.fr fr (by simp) (by simp))
  have tk := lv.tk k2 (fun _ h => h)
  rw [hx] at hy
  cases hy
  obtain ⟨ys0, y0, ey, hy0, _⟩ := paired_snocR os' o hyp
  have ey := (List.append_inj' ey rfl).1
  subst ey
  have eo := w.eo
  rw [List.map_append] at eo
  have eo := (List.append_inj' eo rfl).1
  have le : es'.length = os'.length := by rw [← eo, List.length_map]
  refine ⟨k2, ?_, ⟨z2, ⟨xs, fr _ _ d4 d5 hx1, Paired.imp (fun _ _ y => y.tk tk) hy0⟩, eo, ?_, fun i x hi => ?_, w.oE e (List.mem_append.mpr (.inr (List.mem_singleton.mpr rfl))), fun x hx => w.oE x (List.mem_append.mpr (.inl hx)), w.nd⟩⟩
  · obtain ⟨d, c, hs, r⟩ := zm
    exact ⟨d, c, fr _ _ d1.symm d2.symm (b1 _ _ d3.symm hs), r⟩
  · have := w.lv es'.length e List.getElem?_concat_length
    rw [le, List.take_left' rfl] at this
    exact this
  · have hi' := (List.getElem?_eq_some_iff.mp hi).1
    have := w.lv i x (by rw [List.getElem?_append_left hi']; exact hi)
    rw [List.take_append_of_le_length (by omega)] at this
    exact this
end
section
variable {P : Program} {w : World} {K : PySem.W.Frag} {mg : Str → Option Value} {base : Heap} {C : Addr}
/-! _law_step: slots 0:stream 1:station 2:history 3:scale 4:kind 5:letter 6:count 7:before 8:pairs -/
abbrev s_law_step : Stmt := topS 55
theorem sc_law_step : FnScope ["stream", "station", "history", "scale", "kind", "letter", "count", "before", "pairs"] ["stream", "station", "history", "scale"] (defScope s_law_step) := ⟨rfl, rfl, rfl, by decide +kernel, rfl, by decide +kernel, by decide +kernel⟩
def sp_law_step (C : Addr) : Sp := fun vs H Q _ => ∃ (st p ap ar ab hl : Addr) (S : Sta) (es : List Ent) (os : List Op) (g : Int), vs = [.ref st, .ref p, .ref hl, .int g] ∧ SM H st ∧ Wks C H st p ap ar ab hl S es os ∧ 1 ≤ g ∧ g ≤ 10000000000000000000000000000 ∧ os.length ≤ 39 ∧
  ∀ H' ar' ab' S' es' os', Kp [st, p, ap, hl] H H' → SM H' st → Wks C H' st p ap ar' ab' hl S' es' os' → os'.length ≤ os.length + 1 → Q (.bl true) H'
theorem ok_law_step (D : Df K mg "_law_step" s_law_step) (T : Tx mg) (TS : ClsT K mg C) (G_law_draw : Has P w K mg base 1 "_law_draw" ["stream", "many"] sp_law_draw) (G_law_refused : Has P w K mg base 2 "_law_refused" ["station"] (sp_law_refused C)) (G_Station_pair_total : HasM P w K mg base C 1 "pair_total" ["self"] (sp_Station_pair_total C))
    (G_Station_arrive : HasMD P w K mg base C 3 "arrive" ["self", "kind", "count"] 2 "count" (.int 1) (sp_Station_arrive C)) (G_Station_undo : HasM P w K mg base C 1 "undo" ["self"] (sp_Station_undo C)) : Has P w K mg base 4 "_law_step" ["stream", "station", "history", "scale"] (sp_law_step C) := by
  refine has_of D sc_law_step (fun _ _ _ _ _ _ us hl => match us, hl with | [_, _, _, _], _ => rfl) (fun vs H Q E h => ?_) (fun f cdv A outer s₀ H vs Q E hr h => ?_)
  · obtain ⟨_, _, _, _, _, _, _, _, _, _, rfl, _⟩ := h
    rfl
  · obtain ⟨st, p, ap, ar, ab, hl, S, es, os, g, rfl, zm, w0, g1, g2, l39, qq⟩ := h
    have lRS := w0.al.lR
    have lBS := w0.al.lB
    have leS := w0.len
    refine ⟨_, (pss_cons (ps_set (i := 4) sc_law_step.nd rfl (by first | exact Or.inl rfl | exact Or.inr rfl) (pe_callH G_law_draw (hr.mono (by omega)) (by rfl) (pa_cons (pv 0) (pa_cons pe_int pa_nil))))
    (pss_cons (ps_if (pt_cmpR op_lt (pv 4) pe_int (nomark _)) (pss_cons (ps_set (i := 5) sc_law_step.nd rfl (by first | exact Or.inl rfl | exact Or.inr rfl) (pe_ix ix_str pe_str (pe_callH G_law_draw (hr.mono (by omega)) (by rfl) (pa_cons (pv 0) (pa_cons pe_int pa_nil))) (fun _ _ => rfl)))
    (pss_cons (ps_set (i := 6) sc_law_step.nd rfl (by first | exact Or.inl rfl | exact Or.inr rfl) (pe_op op_add pe_int (pe_callH G_law_draw (hr.mono (by omega)) (by rfl) (pa_cons (pv 0) (pa_cons (pv 3) pa_nil)))))
    (pss_cons (ps_set (i := 7) sc_law_step.nd rfl (by first | exact Or.inl rfl | exact Or.inr rfl) (pe_meth0O (pv 1) TS.cl G_Station_pair_total (hr.mono (by omega))))
    (pss_cons (ps_set (i := 8) sc_law_step.nd rfl (by first | exact Or.inl rfl | exact Or.inr rfl) (pe_methFO (pv 1) TS.cl G_Station_arrive (hr.mono (by omega)) (pa_cons (pv 5) (pa_cons (pv 6) pa_nil))))
    (pss_cons (ps_expr (pe_bm PySem.F.plainAttrs_list PySem.F.slot_list_append PySem.F.type_list_append mt_append (pv 2) (pa_cons (pe_tup (pa_cons pe_str (pa_cons (pv 5) (pa_cons (pv 6) pa_nil)))) pa_nil)))
    (pss_one (ps_ret (pe_cmpR op_eq (pe_meth0O (pv 1) TS.cl G_Station_pair_total (hr.mono (by omega))) (pe_op op_add (pv 7) (pv 8)) (nomark _))))))))) pss_nil)
    (pss_cons (ps_if (pt_cmpR (op_eqD hr.units) (pv 2) (pe_lst pa_nil) (nomark _)) (pss_one (ps_ret (pe_callH G_law_refused (hr.mono (by omega)) (by rfl) (pa_cons (pv 1) pa_nil)))) pss_nil)
    (pss_cons (ps_expr (pe_bm0 PySem.F.plainAttrs_list PySem.F.slot_list_pop PySem.F.type_list_pop mt_pop (pv 2)))
    (pss_one (ps_ret (pe_cmpR op_isN (pe_meth0O (pv 1) TS.cl G_Station_undo (hr.mono (by omega))) pe_non (nomark _)))))))), ?_⟩
    refine ⟨_, rfl, st, 4, rfl, zm, by decide, by decide, fun H1 r1 b1 z1 r10 r11 => ?_⟩
    have w1 := w0.butM zm b1
    have k1 : Kp [st, p, ap, hl] H H1 := Kp.but b1 (by simp)
    clear w0 b1
    refine ⟨_, rfl, _, _, rfl, rfl, _, rfl, ite2 (fun _ => ?_) (fun _ => ?_)⟩
    · refine ⟨_, rfl, st, 4, rfl, z1, by decide, by decide, fun H2 r2 b2 z2 r20 r21 => ?_⟩
      obtain ⟨c, hc, kk⟩ := abcd_at r20 r21
      refine ⟨_, r2, c, rfl, rfl, (by decide +kernel), hc, ?_⟩
      have w2 := w1.butM z1 b2
      have k2 := k1.trans (Kp.but (D := [st, p, ap, hl]) b2 (by simp))
      clear b2 w1 k1 hc
      refine ⟨_, rfl, _, rfl, st, g, rfl, z2, g1, wideM (by omega) (by omega), fun H3 r3 b3 z3 r30 r31 => ⟨_, _, rfl, rfl, ?_⟩⟩
      have w3 := w2.butM z2 b3
      have k3 := k2.trans (Kp.but (D := [st, p, ap, hl]) b3 (by simp))
      clear b3 w2 k2
      obtain ⟨n, en⟩ : ∃ n : Nat, 1 + r3 = (n : Int) := ⟨(1 + r3).toNat, by omega⟩
      obtain ⟨dx1, fs1, hp1, lk1⟩ := w3.stn.at nf_pair_total
      refine ⟨_, rfl, p, dx1, fs1, rfl, hp1, lk1, p, ap, ar, ab, S, os, rfl, w3.stn, ?_⟩
      obtain ⟨dx1, fs1, hp1, lk1⟩ := w3.stn.at nf_arrive
      refine ⟨_, rfl, p, dx1, fs1, rfl, hp1, lk1, _, rfl, _, rfl, p, ap, ar, ab, S, es, ⟨#[c]⟩, 1 + r3, rfl, w3.z, kk, by omega, by omega, by omega, by omega, by omega, fun H4 ar' ab' fr na nb z4 => ?_⟩
      obtain ⟨xs, hx, hxp⟩ := id w3.h
      obtain ⟨d1, d2, d3, d4, d5, d6⟩ := id w3.nd
      have hx4 := fr _ _ d4 d5 hx
      have lx : xs.length = os.length := Paired.len hxp
      refine ⟨_, rfl, .inl ⟨rfl, _, SqL.of hx4⟩, _, rfl, _, rfl, (by show 3 ≤ sizeLine; decide), fun u nu => ⟨hl, _, _, rfl, rfl, same_upd nu _ _ hx4, small (by omega), ?_⟩⟩
      rw [en] at z4
      rw [show ((fun i j => V.int (i + j)) 1 r3 : V) = V.int n from congrArg V.int en]
      obtain ⟨k5, zm5, w5⟩ := w3.arr z3 (by omega) kk (by omega) (by omega) fr na nb z4 hx4 nu rfl
      obtain ⟨dx1, fs1, hp1, lk1⟩ := w5.stn.at nf_pair_total
      refine ⟨_, rfl, p, dx1, fs1, rfl, hp1, lk1, p, ap, ar', ab', _, _, rfl, w5.stn, _, rfl, _, rfl, _, _, rfl, rfl, ?_⟩
      refine ⟨rfl, ?_⟩
      show Q (V.bl (decide (V.int (arrS S ⟨#[c]⟩ n).m = V.int (S.m + leavR S.st ⟨#[c]⟩ (1 + r3))))) _
      rw [en, decide_eq_true (show V.int (arrS S ⟨#[c]⟩ n).m = V.int (S.m + leavR S.st ⟨#[c]⟩ n) from rfl)]
      exact qq _ _ _ _ _ _ (k3.trans k5) zm5 w5 (by rw [List.length_append]; exact Nat.le_refl _)
    · obtain ⟨xs, hx, hxp⟩ := id w1.h
      refine ⟨_, rfl, Nat.zero_le _, fun e ne => ?_⟩
      have se := same_upd (o := .lst []) ne
      have he := upd_same (H := H1) (a := e) (o := .lst [])
      refine ⟨.list (os.map dOp), .list [], .lst (.of (se _ _ hx)) (dp_op w1.al.ar (Paired.imp (fun _ _ y => y.tk (stk se)) hxp)), .lst (.of he) .nil, shaped_op w1.al.ar, shaped_nil, _, rfl, ?_⟩
      rw [eqv_nilO]
      have w2 := w1.same se
      have z2 := z1.same se
      have hx2 := se _ _ hx
      have k2 := k1.trans (Kp.of (D := [st, p, ap, hl]) se)
      clear w1 z1 hx k1 he se ne
      generalize upd H1 e (.lst []) = H2 at *
      rcases List.eq_nil_or_concat os with e0 | ⟨os', o, e0⟩
      · subst e0
        refine iteP rfl ⟨_, rfl, p, ap, ar, ab, S, rfl, w2.stn, fun H3 s3 => ?_⟩
        exact qq _ _ _ _ _ _ (k2.trans (Kp.of s3)) (z2.same s3) (w2.same s3) (Nat.le_succ _)
      · rw [List.concat_eq_append] at e0
        subst e0
        rcases List.eq_nil_or_concat es with e0 | ⟨es', en, e0⟩
        · rw [e0, List.length_append] at leS
          exact absurd leS.symm (Nat.succ_ne_zero _)
        · rw [List.concat_eq_append] at e0
          subst e0
          obtain ⟨ys, y, rfl, _, _⟩ := paired_snocR os' o hxp
          have nE : (os' ++ [o]).isEmpty = false := by cases os' <;> rfl
          refine iteN nE ⟨_, rfl, .inl ⟨rfl, _, SqL.of hx2⟩, hl, ys ++ [y], y, rfl, rfl, hx2, (by simp), ?_⟩
          obtain ⟨d1, d2, d3, d4, d5, d6⟩ := id w2.nd
          have b3 : But hl H2 (upd H2 hl (.lst (ys ++ [y]).dropLast)) := but_upd
          have ed : (ys ++ [y]).dropLast = ys := List.dropLast_concat
          have tk3 := tk_but hx2 (by intro _ y; cases y) b3
          have z3 : StnH C (upd H2 hl (.lst (ys ++ [y]).dropLast)) p ap ar ab S (es' ++ [en]) := w2.z.keep tk3 (b3.at d4.symm) (b3.at d5.symm) (b3.at (n4a w2.oR.1).2.2.2) (b3.at (n4a w2.oR.2).2.2.2) (fun x hx => ⟨b3.at (n4a (w2.oE x hx).1).2.2.2, b3.at (n4a (w2.oE x hx).2).2.2.2⟩)
          obtain ⟨dx1, fs1, hp1, lk1⟩ := z3.stn.at nf_undo
          refine ⟨_, rfl, p, dx1, fs1, rfl, hp1, lk1, p, ap, ar, ab, S, es', en, rfl, z3, fun H4 fr z4 => ?_⟩
          obtain ⟨k5, zm5, w5⟩ := w2.und z2 hx2 (by rw [ed]) fr z4
          refine ⟨rfl, ?_⟩
          rw [decide_eq_true (show V.non = V.non from rfl)]
          exact qq _ _ _ _ _ _ (k2.trans k5) zm5 w5 (by rw [List.length_append]; omega)
end
end UP

set_option Elab.async false
set_option linter.all false
set_option maxRecDepth 100000
set_option maxHeartbeats 4000000
set_option pp.maxSteps 1200
/-! ### list(range(a, b)) with bounds of any size -/
namespace UP.BigRg
open PySem
section
variable {pr : Program} {wd : World} {ar : Around} {ex : Value → Shared → Prop} {z : Shared}
theorem ext_long {RR : Result → Shared → Prop} {rg : Addr} {lo hi stp : Int} {t1 t2 t3 : Tok} {m : Nat} (hh : ar.handled = none) (isr : IsRange z.heap rg lo hi stp t1 t2 t3) (big : Builtin.Range.small lo hi stp = false) (sz : Builtin.Range.rangeSize lo hi stp = m) (fits : m ≤ 2 ^ 24)
    (L : Addr) (out : Value) (cap : Nat) (atL : z.heap.get? L = some { cls := .type "list", data := .seq #[] cap })
    (fin : ∀ g tk items cap', (∀ x ob, x ≠ L → z.heap.get? x = some ob → g.get? x = some ob) → g.get? L = some { cls := .type "list", dict := none, data := .seq items cap', slots := #[] } → ItemsOf (fun j v => ∃ t, v = .int (lo + j * stp) t) items m → RR (.ok (.ret out)) { z with heap := g, toks := tk }) :
    wpAny (model pr wd) ar.in1 (Builtin.List.listExtendWith (.ref L) (.ref rg) out) (fun f y => match f with | .done e => RR (.ok e) y | .again cd => cd.quiet = true ∧ codeAny (model pr wd) ar cd RR y) (fun e y => RR (.error e) y) z := by
  have Lr : L ≠ rg := fun e => by
    rw [e, isr] at atL
    simp at atL
  have Llt : L < z.heap.objs.size := Heap.lt_size atL
  have LI : L ≠ z.heap.objs.size := Nat.ne_of_lt Llt
  have Lf : L ∉ [z.heap.objs.size] := fun k => LI (List.mem_singleton.mp k)
  have WW := (Walks.longrange (prog := pr) (w := wd) (A := ar.in1) hh z.heap.objs.size lo stp m).toS
  have go : ∀ (g : Heap) (cp tk : Nat), IsLongIter g z.heap.objs.size (lo + ((0 : Nat) : Int) * stp) ((m : Int) - ((0 : Nat) : Int)) stp → (∀ x ob, x ≠ L → z.heap.get? x = some ob → g.get? x = some ob) →
      g.get? L = some { cls := .type "list", data := .seq #[] cp } → codeAny (model pr wd) ar (.builtin "list.extend.loop" ⟨[.ref L, .ref z.heap.objs.size, out], []⟩) RR { z with heap := g, toks := tk } := by
    intro g cp tk atI keep atL1
    refine codeAny_extend_loopS WW (by rw [sizeLine_eq]; omega) L Lf out m 0 _ #[] cp rfl (Nat.zero_le _) atI atL1 (ItemsOf.nil _) fun y items cap' mv atL' its => ?_
    rw [Moved.eq_with mv]
    refine fin y.heap y.toks items cap' (fun x ob nx e => mv.heap x ob (fun mem => ?_) (keep x ob nx e)) atL' its
    rcases List.mem_cons.mp mem with q | mem
    · exact nx q
    · exact absurd (Heap.lt_size e) (by rw [List.mem_singleton.mp mem]; exact Nat.lt_irrefl _)
  unfold Builtin.List.listExtendWith
  refine wpAny_bind (wpAny_typeOf (T := "range") ⟨_, isr, rfl⟩ ?_)
  have c1 : Builtin.List.listSameRef (.ref L) (.ref rg) = false := by simp [Builtin.List.listSameRef, Lr]
  have c2 : (Value.type "range" == Value.type "list") = false := by decide
  have c3 : (Value.type "range" == Value.type "tuple") = false := by decide
  simp only [c1, c2, c3, Bool.or_false, Bool.false_eq_true, if_false]
  refine wpAny_bind (wpAny_pyIter_longrange isr big ?_)
  refine wpAny_bind (wpAny_holding (wpAny_hint_range (n := m) (Heap.get?_push_of_some _ isr) sz fits ?_))
  have at1 : IsLongIter (z.heap.push { cls := .type "longrange_iterator", data := .fields #[rawInt lo, rawInt (Builtin.Range.rangeSize lo hi stp), rawInt stp] }) z.heap.objs.size (lo + ((0 : Nat) : Int) * stp) ((m : Int) - ((0 : Nat) : Int)) stp := by
    show IsLongIter _ _ _ _ _
    rw [sz]
    simpa using Heap.get?_push_size _ rfl
  have L1 := Heap.get?_push_of_some { cls := .type "longrange_iterator", data := .fields #[rawInt lo, rawInt (Builtin.Range.rangeSize lo hi stp), rawInt stp] } atL
  refine wpAny_ite_split (fun _ => ?_) (fun _ => wpAny_pure ⟨plainId_quiet F.plain_extend_loop _, go _ cap _ at1 (fun x ob _ e => Heap.get?_push_of_some _ e) L1⟩)
  refine wpAny_bind (wpAny_rule ?_)
  refine wpAny_bind ?_
  show wpAny _ _ (updateSeq L (·.push .none) >>= fun _ => updateSeq L (·.pop)) _ _ _
  refine wpAny_bind (wpAny_updateSeq L1 rfl ?_)
  have L2 := Heap.get?_update_self (Obj.mapSeq (·.push Value.none)) L1 rfl
  refine wpAny_updateSeq (hz := by seq_fits) L2 rfl ?_
  have L3 := Heap.get?_update_self (Obj.mapSeq (·.pop)) L2 rfl
  refine wpAny_pure ⟨plainId_quiet F.plain_extend_loop _, go _ _ _ ?_ (fun x ob nx e => ?_) L3⟩
  · exact (Heap.get?_update_other _ _ LI).trans ((Heap.get?_update_other _ _ LI).trans at1)
  · exact (Heap.get?_update_other _ _ (Ne.symm nx)).trans ((Heap.get?_update_other _ _ (Ne.symm nx)).trans (Heap.get?_push_of_some _ e))
theorem init_long {RR : Result → Shared → Prop} {rg : Addr} {lo hi stp : Int} {t1 t2 t3 : Tok} {m : Nat} (hh : ar.handled = none) (isr : IsRange z.heap rg lo hi stp t1 t2 t3) (big : Builtin.Range.small lo hi stp = false) (sz : Builtin.Range.rangeSize lo hi stp = m) (fits : m ≤ 2 ^ 24)
    (L : Addr) (atL : z.heap.get? L = some { cls := .type "list", data := .seq #[] })
    (fin : ∀ g tk items cap', (∀ x ob, x ≠ L → z.heap.get? x = some ob → g.get? x = some ob) → g.get? L = some { cls := .type "list", dict := none, data := .seq items cap', slots := #[] } → ItemsOf (fun j v => ∃ t, v = .int (lo + j * stp) t) items m → RR (.ok (.ret .none)) { z with heap := g, toks := tk }) :
    wpAny (model pr wd) ar.in1 (Builtin.«list.__init__» ⟨[.ref L, .ref rg], []⟩) (fun f y => match f with | .done e => RR (.ok e) y | .again cd => cd.quiet = true ∧ codeAny (model pr wd) ar cd RR y) (fun e y => RR (.error e) y) z := by
  have Lr : L ≠ rg := fun e => by
    rw [e, isr] at atL
    simp at atL
  show wpAny _ _ (do let was ← Builtin.List.listItems (.ref L); Builtin.List.listUpdate (.ref L) (fun _ => #[]); letGo was.toList.reverse; Builtin.List.listExtendWith (.ref L) (.ref rg) .none) _ _ z
  refine wpAny_bind ?_
  unfold Builtin.List.listItems
  refine wpAny_bind (wpAny_seqItems atL rfl (wpAny_pure ?_))
  show wpAny _ _ (updateSeq L (fun _ => #[]) >>= fun _ => letGo (#[] : Array Value).toList.reverse >>= fun _ => Builtin.List.listExtendWith (.ref L) (.ref rg) .none) _ _ z
  refine wpAny_bind (wpAny_updateSeq atL rfl ?_)
  have L2 := Heap.get?_update_self (Obj.mapSeq (fun _ => (#[] : Array Value))) atL rfl
  have oth : ∀ x ob, x ≠ L → z.heap.get? x = some ob → (z.heap.update L (Obj.mapSeq (fun _ => (#[] : Array Value)))).get? x = some ob := fun x ob nx e => (Heap.get?_update_other _ _ (Ne.symm nx)).trans e
  refine wpAny_bind (wpAny_letGo ?_)
  refine ext_long hh (oth rg _ (Ne.symm Lr) isr) big sz fits L .none _ L2 fun g tk items cap' keep atL' its => ?_
  exact fin g tk items cap' (fun x ob nx e => keep x ob nx (oth x ob nx e)) atL' its
theorem call_long {QQ : Value → Shared → Prop} {rg : Addr} {lo hi stp : Int} {t1 t2 t3 : Tok} {m : Nat} (hh : ar.handled = none) (isr : IsRange z.heap rg lo hi stp t1 t2 t3) (big : Builtin.Range.small lo hi stp = false) (sz : Builtin.Range.rangeSize lo hi stp = m) (fits : m ≤ 2 ^ 24)
    (fin : ∀ g tk items cap', (∀ x ob, z.heap.get? x = some ob → g.get? x = some ob) → g.get? z.heap.objs.size = some { cls := .type "list", dict := none, data := .seq items cap', slots := #[] } → ItemsOf (fun j v => ∃ t, v = .int (lo + j * stp) t) items m → QQ (.ref z.heap.objs.size) { z with heap := g, toks := tk }) :
    wpAny (model pr wd) ar (call (.type "list") [.ref rg]) QQ ex z := by
  refine callType_codes (Q₁ := fun ob y => ob = .ref z.heap.objs.size ∧ y = { z with heap := z.heap.push { cls := .type "list", data := .seq #[] } }) F.called_list (F.typeCall_list_1 _) F.entry_list_init (code_list_new _ ⟨rfl, rfl⟩) fun ob y hy => ?_
  obtain ⟨rfl, rfl⟩ := hy
  have at0 : (z.heap.push { cls := .type "list", data := .seq #[] }).get? z.heap.objs.size = some { cls := .type "list", data := .seq #[] } := Heap.get?_push_size _ rfl
  refine ⟨⟨_, at0, rfl⟩, F.args_list_init_2 _ _, init_long (ar := ar.in1) hh (Heap.get?_push_of_some _ isr) big sz fits _ at0 fun g tk items cap' keep atL its => ?_⟩
  exact ⟨rfl, fin g tk items cap' (fun x ob e => keep x ob (Nat.ne_of_lt (Heap.lt_size e)) (Heap.get?_push_of_some _ e)) atL its⟩
end
end UP.BigRg
namespace UP
open PySem PySem.Spec PyProof.Rows L2
def tLstRgB (te : L2.St → Hp → (Int → Int → Hp → Prop) → Prop) : TE := fun σ H Q => te σ H fun i j H1 => (j - i).toNat ≤ 2 ^ 24 ∧ ∀ q, H1 q = none → Q (.ref q) (upd H1 q (.lst (rgV i j)))
section
variable {X : Cx} {e : Expr} {te : L2.St → Hp → (Int → Int → Hp → Prop) → Prop}
theorem pe_listRgB {p pos : Pos} (calm : X.calm = true) (hg : Gl X "list") (hm : X.mg "list" = none) (hp : PRg X e te) (na : starEach [e] X.env = (false, eval e X.env) :: starEach [] X.env := by rfl) : PE X (.Call (.Name "list" p) [e] [] pos) (tLstRgB te) := by
  constructor
  intro pins s σ H Q I h
  refine Call_ (ld_blt I hg hm boot_list (PyProof.Rows.callWith_type1 (args_cons (thn (hp pins s σ H _ I h) fun x s1 ⟨r, i, j, t, u, v, H1, ex, isr, I1, ok, q⟩ => args_nil ?_) na) na))
  subst ex
  have new : ∀ (g : Heap) (tk : Tok) (items : Array Value) (cap : Nat), (∀ b o, s1.heap.get? b = some o → g.get? b = some o) → g.get? s1.heap.objs.size = some { cls := .type "list", dict := none, data := .seq items cap, slots := #[] } → ItemsOf (fun k v => ∃ t, v = .int (i + k * 1) t) items (j - i).toNat →
      EP X pins σ Q (.ref s1.heap.objs.size) { s1 with heap := g, toks := tk } := fun g tk items cap keep atL its => by
    refine ⟨.ref s1.heap.objs.size, upd H1 s1.heap.objs.size (.lst (rgV i j)), I1.laid keep (Nat.le_refl _) (show ObjOk X.prog X.w _ _ _ (.lst (rgV i j)) from ⟨?_, items.toList, cap, vals_rg its, ?_⟩), rfl, q _ (I1.hok.fresh (Nat.le_refl _))⟩
    · rw [rgV_length, sizeLine_eq]
      omega
    · rw [Array.toArray_toList]
      exact atL
  cases sm : Builtin.Range.small i j 1 with
  | true => exact call_list_range (n := (j - i).toNat) (I1.ok.hd calm) isr sm (rangeSize_nat i j) ok new
  | false => exact BigRg.call_long (m := (j - i).toNat) (I1.ok.hd calm) isr sm (rangeSize_nat i j) ok new
end
end UP

set_option Elab.async false
set_option linter.all false
set_option maxRecDepth 100000
set_option maxHeartbeats 4000000
set_option pp.maxSteps 1200
namespace UP
open PySem PySem.Spec PyProof.Rows L2
theorem cutTk (xs : List V) (n : Nat) : cutV xs none (some (n : Int)) = xs.take n := by
  have e : HT.sIx xs.length xs.length (some (n : Int)) = min n xs.length := HT.sIx_nat xs.length xs.length n
  unfold cutV
  rw [e, HT.sIx_none, List.drop_zero, Nat.sub_zero]
  by_cases h : n ≤ xs.length
  · rw [Nat.min_eq_left h]
  · rw [Nat.min_eq_right (by omega), List.take_length, List.take_of_length_le (by omega)]
theorem cutDr (xs : List V) (n : Nat) : cutV xs (some (n : Int)) none = xs.drop n := by
  have e : HT.sIx xs.length 0 (some (n : Int)) = min n xs.length := HT.sIx_nat xs.length 0 n
  unfold cutV
  rw [e, HT.sIx_none]
  by_cases h : n ≤ xs.length
  · rw [Nat.min_eq_left h, List.take_of_length_le (by rw [List.length_drop]; exact Nat.le_refl _)]
  · rw [Nat.min_eq_right (by omega), Nat.sub_self, List.take_zero, List.drop_of_length_le (by omega)]
theorem posL_range (a : Int) : ∀ n : Nat, posL a n = (List.range n).map fun k : Nat => a + (k : Int)
  | 0 => rfl
  | n + 1 => by
    rw [posL_app n 1, posL_range a n, List.range_succ, List.map_append]
    rfl
theorem rgV_pos (i j : Int) : rgV i j = (posL i (j - i).toNat).map V.int := by
  unfold rgV
  rw [posL_range, List.map_map]
  rfl
/-- the first of a range's positions -/
def trP (p : Rg) : List Int := (flP p).take 41
def trR (R : List Rg) : List Int := R.flatMap trP
theorem tr_len : ∀ R : List Rg, (trR R).length ≤ 41 * R.length
  | [] => Nat.le_refl _
  | p :: t => by
    have ih := tr_len t
    show (trP p ++ trR t).length ≤ 41 * (t.length + 1)
    rw [List.length_append]
    have : (trP p).length ≤ 41 := by
      unfold trP
      rw [List.length_take]
      omega
    omega
theorem tr_snoc (R : List Rg) (p : Rg) : trR (R ++ [p]) = trR R ++ trP p := by
  unfold trR
  rw [List.flatMap_append]
  show _ ++ (trP p ++ []) = _
  rw [List.append_nil]
theorem tr_take : ∀ (R : List Rg) (n : Nat), n ≤ 41 → (trR R).take n = (flR R).take n
  | [], _, _ => rfl
  | p :: t, n, h => by
    show (trP p ++ trR t).take n = (flP p ++ flR t).take n
    rw [List.take_append, List.take_append, tr_take t _ (by omega)]
    have e1 : (trP p).take n = (flP p).take n := by
      unfold trP
      rw [List.take_take, Nat.min_eq_left h]
    rw [e1]
    congr 1
    have lp : (trP p).length = min 41 (flP p).length := List.length_take ..
    by_cases c : (flP p).length ≤ 41
    · rw [lp, Nat.min_eq_right c]
    · rw [lp, Nat.min_eq_left (by omega), show n - 41 = 0 by omega, show n - (flP p).length = 0 by omega]
theorem tr_eq (p : Rg) : trP p = posL p.1 ((if p.1 + 40 < p.2 then p.1 + 40 else p.2) + 1 - p.1).toNat := by
  unfold trP flP
  by_cases c : p.1 + 40 < p.2
  · rw [if_pos c]
    obtain ⟨m, hm⟩ : ∃ m, (p.2 - p.1 + 1).toNat = 41 + m := ⟨(p.2 - p.1 + 1).toNat - 41, by omega⟩
    rw [hm, posL_app, List.take_append_of_le_length (by rw [posL_len]; exact Nat.le_refl _), List.take_of_length_le (by rw [posL_len]; exact Nat.le_refl _), show (p.1 + 40 + 1 - p.1).toNat = 41 by omega]
  · rw [if_neg c, List.take_of_length_le (by rw [posL_len]; omega)]
    congr 1
    omega
theorem int_at {l : List Int} {i : Nat} {x : Int} (h : l[i]? = some x) : atI (l.map V.int) (i : Int) = some (.int x) := atI_ofB (Int.natCast_nonneg i) (by rw [Int.toNat_natCast, List.getElem?_map, h]; rfl)
theorem can_int : ∀ (ns : List Int), PyData.canLayAll0 (ns.map PyData.int) = true
  | [] => by simp [PyData.canLayAll0]
  | r :: t => by
    simp only [List.map_cons, PyData.canLayAll0, can_int t]
    simp [PyData.canLay0]
theorem depth_int : ∀ (ns : List Int), PyData.depthAll (ns.map PyData.int) = 0
  | [] => by simp [PyData.depthAll]
  | r :: t => by
    simp only [List.map_cons, PyData.depthAll, depth_int t]
    simp [PyData.depth]
theorem shaped_intL (ns : List Int) : SeqAt.shaped (.list (ns.map PyData.int)) = true := by
  unfold SeqAt.shaped
  rw [PyData.canLay0, can_int ns, PyData.depth, depth_int ns]
  decide
theorem dp_intL {K : PySem.W.Frag} {H : Hp} : ∀ (ns : List Int), DpAll K H (ns.map V.int) (ns.map PyData.int)
  | [] => .nil
  | n :: t => .cons (.int n) (dp_intL t)
theorem eqv_intL : ∀ (l : List Int), PyData.eqvAll (l.map PyData.int) (l.map PyData.int) = true
  | [] => by
    rw [List.map_nil, PyData.eqvAll]
  | a :: l => by
    rw [List.map_cons, PyData.eqvAll, eqv_intL l, PyData.eqv]
    simp
theorem Stn.alive {C : Addr} {H : Hp} {p ap ar ab : Addr} {S : Sta} {ops : List Op} (z : Stn C H p ap ar ab S ops) {x : Addr} (h : H x = none) : p ≠ x ∧ ap ≠ x ∧ ar ≠ x ∧ ab ≠ x := by
  obtain ⟨⟨_, _, h1, _⟩, ⟨_, h2, _⟩, ⟨_, h3, _⟩, ⟨_, h4, _⟩, _⟩ := z
  exact ⟨ne_of_none h1 h, ne_of_none h4 h, ne_of_none h2 h, ne_of_none h3 h⟩
theorem StnH.butM {C : Addr} {H H' : Hp} {st p ap ar ab : Addr} {S : Sta} {es : List Ent} (zm : SM H st) (b : But st H H') (w : StnH C H p ap ar ab S es) (n1 : p ≠ st) (n2 : ap ≠ st) (n3 : ar ≠ st) (n4 : ab ≠ st) (n5 : ∀ e ∈ es, e.ar ≠ st ∧ e.ab ≠ st) : StnH C H' p ap ar ab S es := by
  obtain ⟨_, _, hs, _⟩ := zm
  exact w.keep (tk_but hs (by intro _ y; cases y) b) (b.at n1) (b.at n2) (b.at n3) (b.at n4) (fun e he => ⟨b.at (n5 e he).1, b.at (n5 e he).2⟩)
theorem SM.fr {H H' : Hp} {st p ap : Addr} (z : SM H st) (f : Fr p ap H H') (n1 : p ≠ st) (n2 : ap ≠ st) : SM H' st := by
  obtain ⟨d, s, hs, r⟩ := z
  exact ⟨d, s, f _ _ n1.symm n2.symm hs, r⟩
/-- nobody who waits has a partner -/
theorem MR.no_mate {M : Mod} {S : Sta} (h : MR M S) {x : Int} (hx : x ∈ M.q) : pgR S.B x = none := by
  refine pg_none S.B x h.pb ?_
  rw [h.fb]
  exact h.ok.qp x hx
/-- what is left in front and behind -/
theorem gone_cut {α : Type} (q : List α) {i c : Nat} (h : i + c ≤ 12) :
    ((q.take 40).take i ++ (q.take 40).drop (i + c)).take 20 = (q.take i ++ q.drop (i + c)).take 20 := by
  rw [List.take_take, Nat.min_eq_left (by omega), List.drop_take]
  rw [List.take_append, List.take_append]
  congr 1
  by_cases l : i ≤ q.length
  · rw [List.take_take, Nat.min_eq_left]
    rw [List.length_take, Nat.min_eq_left l]
    omega
  · rw [List.drop_of_length_le (by omega), List.take_nil]
theorem take_lens {α : Type} (q : List α) : (q.take 40).take (q.take 20).length = q.take 20 := by
  rw [List.take_take, List.length_take]
  by_cases l : 20 ≤ q.length
  · rw [Nat.min_eq_left (a := 20) (b := q.length) l]
    rfl
  · rw [Nat.min_eq_right (a := 20) (b := q.length) (by omega), Nat.min_eq_left (by omega), List.take_length, List.take_of_length_le (by omega)]
section
variable {P : Program} {w : World} {K : PySem.W.Frag} {mg : Str → Option Value} {base : Heap} {C : Addr}
/-! _law_positions: slots 0:ranges 1:found 2:first 3:last -/
abbrev s_law_positions : Stmt := topS 56
theorem sc_law_positions : FnScope ["ranges", "found", "first", "last"] ["ranges"] (defScope s_law_positions) := ⟨rfl, rfl, rfl, by decide +kernel, rfl, by decide +kernel, by decide +kernel⟩
def sp_law_positions : Sp := fun vs H Q _ => ∃ (a : Addr) (R : List Rg), vs = [.ref a] ∧ Rngs H a R ∧ R.length ≤ 1000 ∧ ∀ H' L, Same H H' → H L = none → H' L = some (.lst (((flR R).take 40).map V.int)) → Q (.ref L) H'
theorem ok_law_positions (D : Df K mg "_law_positions" s_law_positions) (T : Tx mg) : Has P w K mg base 1 "_law_positions" ["ranges"] sp_law_positions := by
  refine has_of D sc_law_positions (fun _ _ _ _ _ _ us hl => match us, hl with | [_], _ => rfl) (fun vs H Q E h => ?_) (fun f cdv A outer s₀ H vs Q E hr h => ?_)
  · obtain ⟨_, _, rfl, _⟩ := h
    rfl
  · obtain ⟨a, R, rfl, ⟨xs, hx, hxp⟩, l100, q⟩ := h
    have lx : xs.length = R.length := Paired.len hxp
    refine ⟨_, (pss_cons (ps_set (i := 1) sc_law_positions.nd rfl (by first | exact Or.inl rfl | exact Or.inr rfl) (pe_lst pa_nil))
    (pss_cons (ps_for PassesOwn.never rfl (pi_list (pv 0)) (pg_tup rfl (pgs_cons (pg_name (i := 2) sc_law_positions.nd rfl (by first | exact Or.inl rfl | exact Or.inr rfl)) (pgs_cons (pg_name (i := 3) sc_law_positions.nd rfl (by first | exact Or.inl rfl | exact Or.inr rfl)) pgs_nil)))
      (pss_one (ps_set (i := 1) sc_law_positions.nd rfl (by first | exact Or.inl rfl | exact Or.inr rfl) (pe_op op_cat (pv 1) ((pe_listRgB rfl (by rfl) T.n_list (prg_2 (by rfl) T.n_range (pv 2) (pe_op op_add (pe_callB (call_min2 rfl) (by rfl) T.n_min (by decide +kernel) (pa_cons (pv 3) (pa_cons (pe_op op_add (pv 2) pe_int) pa_nil))) pe_int))))))))
    (pss_one (ps_ret (pe_slice sl_list (pv 1) po_none (po_some pe_int)))))), ?_⟩
    refine ⟨Nat.zero_le _, fun L0 nL0 => ?_⟩
    refine ⟨_, rfl, a, rfl, ⟨xs, .of (same_upd nL0 _ _ hx)⟩, for_list (K := K) (a := a) (xs := xs) (fun i σ H' => ∃ L y2 y3, σ = [some (.ref a), some (.ref L), y2, y3] ∧ Same H H' ∧ H' L = some (.lst ((trR (R.take i)).map V.int)))
      ⟨_, _, _, rfl, same_upd nL0, upd_same⟩ (fun i σ H' _ hP => ?_) (fun i x σ H' ex hP => ?_) (fun σ H' hP => ?_)⟩
    · obtain ⟨_, _, _, _, s, _⟩ := hP
      exact .of (s _ _ hx)
    · obtain ⟨L, y2, y3, rfl, s1, hL⟩ := hP
      obtain ⟨p, ep, hp⟩ := Paired.at hxp ex
      obtain ⟨t, rfl, ht⟩ := hp.tk (stk s1)
      have hi : i < xs.length := (List.getElem?_eq_some_iff.mp ex).1
      refine ⟨t, _, rfl, .of ht, rfl, _, _, rfl, _, _, rfl, rfl, ?_⟩
      refine ⟨_, rfl, _, rfl, _, rfl, _, rfl, _, _, rfl, rfl, _, _, rfl, _, _, rfl, rfl, _, _, rfl, rfl, ?_, fun l1 n1 => ?_⟩
      · show ((if p.1 + 40 < p.2 then p.1 + 40 else p.2) + 1 - p.1).toNat ≤ 2 ^ 24
        split <;> omega
      have s2 := same_upd (o := .lst (rgV p.1 ((if p.1 + 40 < p.2 then p.1 + 40 else p.2) + 1))) n1
      have h2 := upd_same (H := H') (a := l1) (o := .lst (rgV p.1 ((if p.1 + 40 < p.2 then p.1 + 40 else p.2) + 1)))
      have et : trR (R.take (i + 1)) = trR (R.take i) ++ trP p := by rw [take_snoc ep, tr_snoc]
      have l1 := tr_len (R.take i)
      rw [List.length_take] at l1
      refine ⟨L, _, _, _, rfl, rfl, s2 _ _ hL, h2, ?_, fun l3 n3 => ⟨_, _, _, rfl, s1.trans (s2.trans (same_upd n3)), ?_⟩⟩
      · rw [rgV_length, List.length_map]
        refine Nat.le_of_lt (small ?_)
        have : ((if p.1 + 40 < p.2 then p.1 + 40 else p.2) + 1 - p.1).toNat ≤ 41 := by split <;> omega
        omega
      · rw [upd_same, et, tr_eq, List.map_append, rgV_pos]
    · obtain ⟨L, y2, y3, rfl, s1, hL⟩ := hP
      rw [lx, List.take_length] at hL
      refine ⟨_, rfl, 40, rfl, L, _, rfl, .of hL, fun l nl => q _ l (s1.trans (same_upd nl)) (s1.free nl) ?_⟩
      rw [upd_same]
      show some (HO.lst (cutV _ none (some ((40 : Nat) : Int)))) = _
      rw [cutTk, ← List.map_take, tr_take R 40 (by decide)]
/-! _law_gives_up: slots 0:stream 1:station 2:state 3:many 4:index 5:count 6:before 7:after 8:due 9:left -/
abbrev s_law_gives_up : Stmt := topS 57
theorem sc_law_gives_up : FnScope ["stream", "station", "state", "many", "index", "count", "before", "after", "due", "left"] ["stream", "station"] (defScope s_law_gives_up) := ⟨rfl, rfl, rfl, by decide +kernel, rfl, by decide +kernel, by decide +kernel⟩
def sp_law_gives_up (C : Addr) : Sp := fun vs H Q _ => ∃ (st p ap ar ab : Addr) (S : Sta) (es : List Ent) (M : Mod), vs = [.ref st, .ref p] ∧ SM H st ∧ StnH C H p ap ar ab S es ∧ MR M S ∧ KM M ∧ M.g = 0 ∧ M.c ≤ 10000000000000000000000000000000000000000 ∧ S.R.length ≤ 90 ∧ es.length ≤ 100 ∧ p ≠ st ∧ ap ≠ st ∧ ar ≠ st ∧ ab ≠ st ∧ (∀ e ∈ es, e.ar ≠ st ∧ e.ab ≠ st) ∧
  ∀ H', Kp [st, p, ap] H H' → SM H' st → StnH C H' p ap ar ab S es → Q (.bl true) H'
theorem ok_law_gives_up (D : Df K mg "_law_gives_up" s_law_gives_up) (T : Tx mg) (TS : ClsT K mg C) (G_law_draw : Has P w K mg base 1 "_law_draw" ["stream", "many"] sp_law_draw) (G_law_positions : Has P w K mg base 1 "_law_positions" ["ranges"] sp_law_positions)
    (G_Station_current_state : HasM P w K mg base C 1 "current_state" ["self"] (sp_Station_current_state C)) (G_Station_waiting_positions : HasM P w K mg base C 1 "waiting_positions" ["self"] (sp_Station_waiting_positions C)) (G_Station_give_up_count : HasM P w K mg base C 2 "give_up_count" ["self"] (sp_Station_give_up_count C))
    (G_Station_partner_at : HasM P w K mg base C 3 "partner_at" ["self", "position"] (sp_Station_partner_at C)) (G_Station_give_up : HasMD P w K mg base C 3 "give_up" ["self", "index", "count"] 2 "count" (.int 1) (sp_Station_give_up C)) (G_Station_undo : HasM P w K mg base C 1 "undo" ["self"] (sp_Station_undo C)) :
    Has P w K mg base 4 "_law_gives_up" ["stream", "station"] (sp_law_gives_up C) := by
  refine has_of D sc_law_gives_up (fun _ _ _ _ _ _ us hl => match us, hl with | [_, _], _ => rfl) (fun vs H Q E h => ?_) (fun f cdv A outer s₀ H vs Q E hr h => ?_)
  · obtain ⟨_, _, _, _, _, _, _, _, rfl, _⟩ := h
    rfl
  · obtain ⟨st, p, ap, ar, ab, S, es, M, rfl, zm, z, mr, km, mg0, lc, lR, lE, q1, q2, q3, q4, q5, qq⟩ := h
    have tot := mr.tot
    have mn := mr.n
    have mm := mr.m
    have ks := mr.kst km
    have c0 := mr.ok.c0
    have enum : numR S.st = (M.q.length : Int) := by
      rw [mr.st]
      split
      · rename_i e
        rw [e]
        rfl
      · rfl
    refine ⟨_, (pss_cons (ps_set (i := 2) sc_law_gives_up.nd rfl (by first | exact Or.inl rfl | exact Or.inr rfl) (pe_meth0O (pv 1) TS.cl G_Station_current_state (hr.mono (by omega))))
    (pss_cons (ps_if (pt_cmpR op_isN (pv 2) pe_non (nomark _)) (pss_one (ps_ret pe_bl)) pss_nil)
    (pss_cons (ps_set (i := 3) sc_law_gives_up.nd rfl (by first | exact Or.inl rfl | exact Or.inr rfl) (pe_callB (call_min2 rfl) (by rfl) T.n_min (by decide +kernel) (pa_cons (pe_ix ix_tup (pv 2) pe_int (fun _ _ => rfl)) (pa_cons pe_int pa_nil))))
    (pss_cons (ps_set (i := 4) sc_law_gives_up.nd rfl (by first | exact Or.inl rfl | exact Or.inr rfl) (pe_callH G_law_draw (hr.mono (by omega)) (by rfl) (pa_cons (pv 0) (pa_cons (pv 3) pa_nil))))
    (pss_cons (ps_set (i := 5) sc_law_gives_up.nd rfl (by first | exact Or.inl rfl | exact Or.inr rfl) (pe_op op_add pe_int (pe_callH G_law_draw (hr.mono (by omega)) (by rfl) (pa_cons (pv 0) (pa_cons (pe_op op_sub (pv 3) (pv 4)) pa_nil)))))
    (pss_cons (ps_set (i := 6) sc_law_gives_up.nd rfl (by first | exact Or.inl rfl | exact Or.inr rfl) (pe_callH G_law_positions (hr.mono (by omega)) (by rfl) (pa_cons (pe_meth0O (pv 1) TS.cl G_Station_waiting_positions (hr.mono (by omega))) pa_nil)))
    (pss_cons (ps_if (PW.pt (pw_or (pt_cmpR op_ne (pe_methFO (pv 1) TS.cl G_Station_give_up (hr.mono (by omega)) (pa_cons (pv 4) (pa_cons (pv 5) pa_nil))) (pe_ix ix_list (pv 6) (pv 4) (fun _ _ => rfl)) (nomark _)) (pw_or1 (pt_cmpR op_ne (pe_meth0O (pv 1) TS.cl G_Station_give_up_count (hr.mono (by omega))) (pv 5) (nomark _))))) (pss_one (ps_ret pe_bl)) pss_nil)
    (pss_cons (ps_set (i := 7) sc_law_gives_up.nd rfl (by first | exact Or.inl rfl | exact Or.inr rfl) (pe_callH G_law_positions (hr.mono (by omega)) (by rfl) (pa_cons (pe_meth0O (pv 1) TS.cl G_Station_waiting_positions (hr.mono (by omega))) pa_nil)))
    (pss_cons (ps_set (i := 8) sc_law_gives_up.nd rfl (by first | exact Or.inl rfl | exact Or.inr rfl) (pe_slice sl_list (pe_op op_cat (pe_slice sl_list (pv 6) po_none (po_some (pv 4))) (pe_slice sl_list (pv 6) (po_some (pe_op op_add (pv 4) (pv 5))) po_none)) po_none (po_some pe_int)))
    (pss_cons (ps_if (PW.pt (pw_or (pt_cmpR (op_neD hr.units) (pe_slice sl_list (pv 7) po_none (po_some (pe_callB call_len_seq (by rfl) T.n_len (by decide +kernel) (pa_cons (pv 8) pa_nil)))) (pv 8) (nomark _)) (pw_or1 (pt_cmpR op_notN (pe_methO (pv 1) TS.cl G_Station_partner_at (hr.mono (by omega)) (pa_cons (pe_ix ix_list (pv 6) (pv 4) (fun _ _ => rfl)) pa_nil)) pe_non (nomark _))))) (pss_one (ps_ret pe_bl)) pss_nil)
    (pss_cons (ps_set (i := 9) sc_law_gives_up.nd rfl (by first | exact Or.inl rfl | exact Or.inr rfl) (pe_op op_sub (pe_ix ix_tup (pv 2) pe_int (fun _ _ => rfl)) (pv 5)))
    (C8.pss_cut (ps_if (pt_cmpR (op_neD hr.units) (pe_meth0O (pv 1) TS.cl G_Station_current_state (hr.mono (by omega))) (pe_ifExp (pt_cmpR op_eq (pv 9) pe_int (nomark _)) pe_non (pe_tup (pa_cons (pe_ix ix_tup (pv 2) pe_int (fun _ _ => rfl)) (pa_cons (pv 9) pa_nil)))) (nomark _)) (pss_one (ps_ret pe_bl)) pss_nil)
    (pss_cons (ps_expr (pe_meth0O (pv 1) TS.cl G_Station_undo (hr.mono (by omega))))
    (pss_one (ps_ret (pe_and (pe_cmpR (op_eqD hr.units) (pe_callH G_law_positions (hr.mono (by omega)) (by rfl) (pa_cons (pe_meth0O (pv 1) TS.cl G_Station_waiting_positions (hr.mono (by omega))) pa_nil)) (pv 6) (nomark _)) (pe_one (pe_cmpR op_eq (pe_meth0O (pv 1) TS.cl G_Station_give_up_count (hr.mono (by omega))) pe_int (nomark _))))))))))))))))))), ?_⟩
    obtain ⟨dx1, fs1, hp1, lk1⟩ := z.stn.at nf_current_state
    refine ⟨_, rfl, p, dx1, fs1, rfl, hp1, lk1, p, ap, ar, ab, S, _, rfl, z.stn, fun v hv => ?_⟩
    have est := mr.st
    rw [est] at hv
    by_cases eq : M.q = []
    · rw [if_pos eq] at hv
      cases hv
      refine ⟨_, rfl, rfl, _, rfl, iteP rfl ?_⟩
      exact qq _ (Kp.of (Same.refl _)) zm z
    rw [if_neg eq] at hv est
    obtain ⟨t, rfl, ht⟩ := hv
    have ql : 1 ≤ M.q.length := by
      cases h : M.q with
      | nil => exact absurd h eq
      | cons _ _ => exact Nat.succ_le_succ (Nat.zero_le _)
    refine ⟨_, rfl, rfl, _, rfl, iteN rfl ?_⟩
    refine ⟨_, rfl, t, _, 1, _, rfl, rfl, .of ht, rfl, _, _, rfl, ?_⟩
    obtain ⟨m, em, m1, m2, m3⟩ : ∃ m : Nat, (if (12 : Int) < (M.q.length : Int) then (12 : Int) else (M.q.length : Int)) = (m : Int) ∧ 1 ≤ m ∧ m ≤ 12 ∧ m ≤ M.q.length := by
      by_cases c : (12 : Int) < (M.q.length : Int)
      · exact ⟨12, if_pos c, by omega, by omega, by omega⟩
      · exact ⟨M.q.length, if_neg c, by omega, by omega, by omega⟩
    rw [em]
    refine ⟨_, rfl, _, rfl, st, m, rfl, zm, by omega, wideM (by omega) (by omega), fun H1 i1 b1 z1 i10 i11 => ?_⟩
    obtain ⟨i, rfl⟩ : ∃ i : Nat, i1 = (i : Int) := ⟨i1.toNat, by omega⟩
    have w1 := z.butM zm b1 q1 q2 q3 q4 q5
    refine ⟨_, rfl, _, rfl, _, rfl, _, _, rfl, rfl, st, (m : Int) - (i : Int), rfl, z1, by omega, wideM (by omega) (by omega), fun H2 c2 b2 z2 c20 c21 => ⟨_, _, rfl, rfl, ?_⟩⟩
    have w2 := w1.butM z1 b2 q1 q2 q3 q4 q5
    have k2 : Kp [st, p, ap] H H2 := (Kp.but b1 (by simp)).trans (Kp.but b2 (by simp))
    obtain ⟨c, ec⟩ : ∃ c : Nat, 1 + c2 = (c : Int) := ⟨(1 + c2).toNat, by omega⟩
    rw [show ((fun i j => V.int (i + j)) 1 c2 : V) = V.int c from congrArg V.int ec]
    have ht2 := b2 _ _ (by
      obtain ⟨_, _, hs, _⟩ := z1
      have := b1 _ _ (by
        obtain ⟨_, _, hs, _⟩ := zm
        exact ne_of ht hs (by intro y; cases y)) ht
      exact ne_of this hs (by intro y; cases y)) (b1 _ _ (by
        obtain ⟨_, _, hs, _⟩ := zm
        exact ne_of ht hs (by intro y; cases y)) ht)
    have c1 : 1 ≤ c := by omega
    have ic : i + c ≤ m := by omega
    clear w1 z b1 b2 z1 zm ht
    -- before
    obtain ⟨dx1, fs1, hp1, lk1⟩ := w2.stn.at nf_waiting_positions
    refine ⟨_, rfl, p, dx1, fs1, rfl, hp1, lk1, p, ap, ar, ab, S, _, rfl, w2.stn, fun H3 l3 s3 n3 h3 => ⟨l3, S.R, rfl, h3, by omega, fun H4 lb s4 n4 hb => ?_⟩⟩
    rw [mr.fl] at hb
    have s34 := s3.trans s4
    have w4 := w2.same s34
    have z4 := z2.same s34
    have k4 : Kp [st, p, ap] H H4 := k2.trans (Kp.of s34)
    have ht4 := s34 _ _ ht2
    have nb : lb ≠ st ∧ lb ≠ p ∧ lb ≠ ap := by
      obtain ⟨_, _, hs, _⟩ := z2.same s3
      have := (w2.same s3).stn.alive n4
      exact ⟨(ne_of_none hs n4).symm, this.1.symm, this.2.1.symm⟩
    clear w2 z2 k2 ht2 s34 s3 s4 n4 h3 n3
    -- some give up
    obtain ⟨m5, nu, est5, x, zr, ex, hz, ez⟩ := mr.lev (i := i) (n := c) c1 (by omega)
    have exb : (M.q.take 40)[i]? = some x := by rw [List.getElem?_take_of_lt (by omega), ex]
    obtain ⟨dx1, fs1, hp1, lk1⟩ := w4.stn.at nf_give_up
    refine ⟨_, rfl, p, dx1, fs1, rfl, hp1, lk1, _, rfl, _, rfl, p, ap, ar, ab, S, es, M.k, i, c, zr, rfl, w4, est5, by omega, by omega, by omega, hz, by omega, by omega, fun H5 ar5 f5 n5 w5 => ?_⟩
    have hb5 := f5 _ _ nb.2.1 nb.2.2 hb
    refine ⟨_, rfl, _, rfl, lb, _, _, _, rfl, rfl, .of hb5, int_at exb, rfl, _, rfl, iteN (by rw [ez, decide_eq_true rfl]; rfl) ?_⟩
    have z5 := z4.fr f5 q1 q2
    have ht5 : H5 t = some (.tup [.str M.k, .int (M.q.length : Int)]) := f5 _ _ (by
      obtain ⟨⟨_, _, h, _⟩, _⟩ := id w4
      exact ne_of ht4 h (by intro y; cases y)) (by
      obtain ⟨_, _, _, ⟨_, h, _⟩, _⟩ := id w4
      exact ne_of ht4 h (by intro y; cases y)) ht4
    have k5 : Kp [st, p, ap] H H5 := k4.trans (Kp.fr f5 (by simp) (by simp))
    have ar5st : ar5 ≠ st := by
      obtain ⟨_, _, hs, _⟩ := z4
      exact (ne_of_none hs n5).symm
    have en5 : numR (givS S i c M.k).st = (M.q.length : Int) - c := by
      show numR (withR M.k (numR S.st - c)) = _
      rw [enum]
      unfold withR
      split
      · rename_i e
        show (0 : Int) = _
        omega
      · rfl
    obtain ⟨dx1, fs1, hp1, lk1⟩ := w5.stn.at nf_give_up_count
    refine ⟨_, rfl, p, dx1, fs1, rfl, hp1, lk1, p, ap, ar5, ab, _, _, rfl, w5.stn, ?_⟩
    rw [en5]
    have eG : (givS S i c M.k).n - 2 * (givS S i c M.k).m - ((M.q.length : Int) - c) = (c : Int) := by
      show S.n - 2 * S.m - ((M.q.length : Int) - c) = c
      omega
    rw [eG]
    refine ⟨_, rfl, rfl, _, rfl, iteN (by rw [decide_eq_true rfl]; rfl) ?_⟩
    -- after
    obtain ⟨dx1, fs1, hp1, lk1⟩ := w5.stn.at nf_waiting_positions
    refine ⟨_, rfl, p, dx1, fs1, rfl, hp1, lk1, p, ap, ar5, ab, _, _, rfl, w5.stn, fun H6 l6 s6 n6 h6 => ⟨l6, _, rfl, h6, ?_, fun H7 la s7 n7 ha => ?_⟩⟩
    · show (ofR S.R i ++ wfR (wfR S.R i) c).length ≤ 1000
      rw [List.length_append]
      have := ofR_len S.R (i : Int)
      have := wfR_len S.R (i : Int)
      have := wfR_len (wfR S.R (i : Int)) (c : Int)
      omega
    rw [show flR (givS S i c M.k).R = M.q.take i ++ M.q.drop (i + c) from m5.fl] at ha
    have s67 := s6.trans s7
    have w7 := w5.same s67
    have z7 := z5.same s67
    have k7 : Kp [st, p, ap] H H7 := k5.trans (Kp.of s67)
    have hb7 := s67 _ _ hb5
    have ht7 := s67 _ _ ht5
    clear w5 z5 k5 hb5 ht5 s67 s6 s7 n7 h6 n6
    -- what is due
    refine ⟨_, rfl, _, rfl, _, rfl, lb, _, rfl, .of hb7, fun l8 n8 => ?_⟩
    have s8 := same_upd (o := .lst (cutV ((M.q.take 40).map V.int) none (some (i : Int)))) n8
    have h8 := upd_same (H := H7) (a := l8) (o := .lst (cutV ((M.q.take 40).map V.int) none (some (i : Int))))
    rw [cutTk, ← List.map_take] at s8 h8
    rw [cutTk, ← List.map_take]
    generalize upd H7 l8 (.lst (((M.q.take 40).take i).map V.int)) = H8 at *
    refine ⟨_, rfl, _, rfl, _, rfl, _, _, rfl, rfl, _, rfl, lb, _, rfl, .of (s8 _ _ hb7), fun l9 n9 => ?_⟩
    have s9 := same_upd (o := .lst (cutV ((M.q.take 40).map V.int) (some (((i + c : Nat)) : Int)) none)) n9
    have h9 := upd_same (H := H8) (a := l9) (o := .lst (cutV ((M.q.take 40).map V.int) (some (((i + c : Nat)) : Int)) none))
    rw [show (i : Int) + (c : Int) = ((i + c : Nat) : Int) by omega]
    rw [cutDr, ← List.map_drop] at s9 h9
    rw [cutDr, ← List.map_drop]
    generalize upd H8 l9 (.lst (((M.q.take 40).drop (i + c)).map V.int)) = H9 at *
    refine ⟨l8, l9, _, _, rfl, rfl, s9 _ _ h8, h9, ?_, fun l10 n10 => ?_⟩
    · rw [List.length_map, List.length_map, List.length_take, List.length_drop, List.length_take]
      exact Nat.le_of_lt (small (by omega))
    rw [← List.map_append]
    have s10 := same_upd (o := .lst (((M.q.take 40).take i ++ (M.q.take 40).drop (i + c)).map V.int)) n10
    have h10 := upd_same (H := H9) (a := l10) (o := .lst (((M.q.take 40).take i ++ (M.q.take 40).drop (i + c)).map V.int))
    generalize upd H9 l10 (.lst (((M.q.take 40).take i ++ (M.q.take 40).drop (i + c)).map V.int)) = H10 at *
    refine ⟨20, rfl, l10, _, rfl, .of h10, fun ld nd => ?_⟩
    rw [show cutV (((M.q.take 40).take i ++ (M.q.take 40).drop (i + c)).map V.int) none (some 20) = ((M.q.take i ++ M.q.drop (i + c)).take 20).map V.int by
      rw [show (some (20 : Int)) = some ((20 : Nat) : Int) from rfl, cutTk, ← List.map_take, gone_cut M.q (by omega)]]
    have s11 := same_upd (o := .lst (((M.q.take i ++ M.q.drop (i + c)).take 20).map V.int)) nd
    have h11 := upd_same (H := H10) (a := ld) (o := .lst (((M.q.take i ++ M.q.drop (i + c)).take 20).map V.int))
    generalize upd H10 ld (.lst (((M.q.take i ++ M.q.drop (i + c)).take 20).map V.int)) = H11 at *
    have sA := s8.trans (s9.trans (s10.trans s11))
    have w11 := w7.same sA
    have z11 := z7.same sA
    have k11 : Kp [st, p, ap] H H11 := k7.trans (Kp.of sA)
    have hb11 := sA _ _ hb7
    have ht11 := sA _ _ ht7
    have ha11 := sA _ _ ha
    clear w7 z7 k7 hb7 ht7 ha sA s8 s9 s10 s11 h8 h9 h10 n8 n9 n10 nd
    refine ⟨_, rfl, _, rfl, ld, _, rfl, .inl (.of h11), _, rfl, la, _, rfl, .of ha11, fun ls ns => ?_⟩
    have eC : cutV (((M.q.take i ++ M.q.drop (i + c)).take 40).map V.int) none (some (((((M.q.take i ++ M.q.drop (i + c)).take 20).map V.int).length : Nat) : Int)) = ((M.q.take i ++ M.q.drop (i + c)).take 20).map V.int := by
      rw [cutTk, List.length_map, ← List.map_take, take_lens]
    have ss := same_upd (o := .lst (((M.q.take i ++ M.q.drop (i + c)).take 20).map V.int)) ns
    have hs := upd_same (H := H11) (a := ls) (o := .lst (((M.q.take i ++ M.q.drop (i + c)).take 20).map V.int))
    rw [eC]
    refine ⟨_, rfl, .list (((M.q.take i ++ M.q.drop (i + c)).take 20).map PyData.int), .list (((M.q.take i ++ M.q.drop (i + c)).take 20).map PyData.int), .lst (.of hs) (dp_intL _), .lst (.of (ss _ _ h11)) (dp_intL _), shaped_intL _, shaped_intL _, _, rfl, iteN (by rw [PyData.eqv, eqv_intL]; rfl) ?_⟩
    generalize upd H11 ls (.lst (((M.q.take i ++ M.q.drop (i + c)).take 20).map V.int)) = H12 at *
    have w12 := w11.same ss
    have z12 := z11.same ss
    have k12 : Kp [st, p, ap] H H12 := k11.trans (Kp.of ss)
    have hb12 := ss _ _ hb11
    have ht12 := ss _ _ ht11
    clear w11 z11 k11 hb11 ht11 ss h11 ha11 eC hs ns
    have mx : x ∈ M.q := List.mem_of_getElem? ex
    have xb := mr.ok.qb x mx
    obtain ⟨dx1, fs1, hp1, lk1⟩ := w12.stn.at nf_partner_at
    refine ⟨_, rfl, p, dx1, fs1, rfl, hp1, lk1, _, rfl, _, rfl, lb, _, _, _, rfl, rfl, .of hb12, int_at exb, p, ap, ar5, ab, _, _, x, rfl, w12.stn, xb.1, ?_, ?_⟩
    · show x < S.n
      omega
    rw [show pgR (givS S i c M.k).B x = none from mr.no_mate mx]
    refine ⟨rfl, _, rfl, iteN (by decide) ?_⟩
    -- the number that is left
    refine ⟨_, rfl, t, _, 1, _, rfl, rfl, .of ht12, rfl, _, rfl, _, _, rfl, rfl, ?_⟩
    refine ⟨fun σ' H' => Same H12 H' ∧ ∃ y8 y9, σ' = [some (V.ref st), some (V.ref p), some (V.ref t), some (V.int m), some (V.int i), some (V.int c), some (V.ref lb), some (V.ref la), y8, y9], ?_, fun σ' H13 hM => ?_⟩
    · obtain ⟨dx1, fs1, hp1, lk1⟩ := w12.stn.at nf_current_state
      refine ⟨_, rfl, p, dx1, fs1, rfl, hp1, lk1, p, ap, ar5, ab, _, _, rfl, w12.stn, fun v hv => ?_⟩
      have eS : (givS S i c M.k).st = withR M.k ((M.q.length : Int) - c) := by
        show withR M.k (numR S.st - c) = _
        rw [enum]
      rw [eS] at hv
      have kst : KSt (withR M.k ((M.q.length : Int) - c)) := by
        intro r hr
        unfold withR at hr
        split at hr
        · cases hr
        · cases hr
          exact km eq
      by_cases e0 : (M.q.length : Int) - c = 0
      · have e1 : withR M.k ((M.q.length : Int) - c) = none := if_pos e0
        rw [e1] at hv
        cases hv
        refine ⟨_, rfl, rfl, _, rfl, iteP (decide_eq_true (congrArg V.int e0)) ?_⟩
        exact ⟨dOs none, dOs none, .non, .non, by decide +kernel, by decide +kernel, _, rfl, iteN (by rw [eqv_os, decide_eq_true rfl]; rfl) ⟨Same.refl _, _, _, rfl⟩⟩
      · have e1 : withR M.k ((M.q.length : Int) - c) = some (M.k, (M.q.length : Int) - c) := if_neg e0
        rw [e1] at hv kst
        refine ⟨_, rfl, rfl, _, rfl, iteN (decide_eq_false fun z => e0 (V.int.inj z)) ?_⟩
        refine ⟨_, rfl, t, _, 0, _, rfl, rfl, .of ht12, rfl, _, rfl, (by show 2 ≤ sizeLine; decide), fun u nu => ?_⟩
        have su := same_upd (o := .tup [.str M.k, .int ((M.q.length : Int) - c)]) nu
        have hu : StV (upd H12 u (.tup [.str M.k, .int ((M.q.length : Int) - c)])) (.ref u) (some (M.k, (M.q.length : Int) - c)) := ⟨u, rfl, upd_same⟩
        exact ⟨dOs (some (M.k, (M.q.length : Int) - c)), dOs (some (M.k, (M.q.length : Int) - c)), dp_os (hv.same su), dp_os hu, shaped_os kst, shaped_os kst, _, rfl, iteN (by rw [eqv_os, decide_eq_true rfl]; rfl) ⟨su, _, _, rfl⟩⟩
    · obtain ⟨s13, y8, y9, rfl⟩ := hM
      have w13 := w12.same s13
      have z13 := z12.same s13
      have k13 : Kp [st, p, ap] H H13 := k12.trans (Kp.of s13)
      have hb13 := s13 _ _ hb12
      clear w12 z12 k12 hb12 ht12 s13
      obtain ⟨dx1, fs1, hp1, lk1⟩ := w13.stn.at nf_undo
      refine ⟨_, rfl, p, dx1, fs1, rfl, hp1, lk1, p, ap, ar5, ab, _, es, _, rfl, w13, fun H14 f14 w14 => ?_⟩
      have z14 := z13.fr f14 q1 q2
      have k14 : Kp [st, p, ap] H H14 := k13.trans (Kp.fr f14 (by simp) (by simp))
      have hb14 := f14 _ _ nb.2.1 nb.2.2 hb13
      have w14 : StnH C H14 p ap ar ab S es := w14
      obtain ⟨dx1, fs1, hp1, lk1⟩ := w14.stn.at nf_waiting_positions
      refine ⟨_, rfl, p, dx1, fs1, rfl, hp1, lk1, p, ap, ar, ab, S, _, rfl, w14.stn, fun H15 l15 s15 n15 h15 => ⟨l15, S.R, rfl, h15, by omega, fun H16 l16 s16 n16 h16 => ?_⟩⟩
      rw [mr.fl] at h16
      have s1516 := s15.trans s16
      refine ⟨_, rfl, .list ((M.q.take 40).map PyData.int), .list ((M.q.take 40).map PyData.int), .lst (.of h16) (dp_intL _), .lst (.of (s1516 _ _ hb14)) (dp_intL _), shaped_intL _, shaped_intL _, _, rfl, ?_⟩
      rw [PyData.eqv, eqv_intL]
      have w16 := w14.same s1516
      obtain ⟨dx1, fs1, hp1, lk1⟩ := w16.stn.at nf_give_up_count
      refine iteT ⟨_, rfl, p, dx1, fs1, rfl, hp1, lk1, p, ap, ar, ab, S, _, rfl, w16.stn, ?_⟩
      refine ⟨rfl, ?_⟩
      rw [show S.n - 2 * S.m - numR S.st = 0 by omega]
      exact qq _ (k14.trans (Kp.of s1516)) (z14.same s1516) w16
end
end UP

set_option Elab.async false
set_option linter.all false
set_option maxRecDepth 100000
set_option maxHeartbeats 4000000
set_option pp.maxSteps 1200
namespace UP
open PySem PySem.Spec PyProof.Rows L2
section
variable {K : PySem.W.Frag} {C : Addr} {H : Hp} {p ap ar ab q aq ar' ab' : Addr} {S T : Sta} {ops opt : List Op} {mg : Str → Option Value}
theorem eq_sta {Q : VK} (TS : ClsT K mg C) (cc : CmpC K C) (z : Stn C H p ap ar ab S ops) (z' : Stn C H q aq ar' ab' T opt) (k : KSt S.st) (k' : KSt T.st) (h : Q (.bl (decide (SEq S T))) H) : rOwnC K C (sp_Station_eq K C) (.ref p) (.ref q) H Q := by
  obtain ⟨⟨dx, v, hp, _⟩, _⟩ := id z
  obtain ⟨⟨dx', v', hp', _⟩, _⟩ := id z'
  exact ⟨p, dx, _, _, rfl, hp, .base (.ins hp' TS.cl cc.ca cc.cn cc.ct cc.cm), nf_self, p, ap, ar, ab, S, ops, _, rfl, z, k, .inl ⟨q, aq, ar', ab', T, opt, rfl, z', k', h⟩⟩
theorem ne_sta {Q : VK} (TS : ClsT K mg C) (cc : CmpC K C) (z : Stn C H p ap ar ab S ops) (z' : Stn C H q aq ar' ab' T opt) (k : KSt S.st) (k' : KSt T.st) (h : Q (.bl (!decide (SEq S T))) H) : rNotC K C (sp_Station_eq K C) (.ref p) (.ref q) H Q := by
  obtain ⟨⟨dx, v, hp, _⟩, _⟩ := id z
  obtain ⟨⟨dx', v', hp', _⟩, _⟩ := id z'
  exact ⟨p, dx, _, _, rfl, hp, .base (.ins hp' TS.cl cc.ca cc.cn cc.ct cc.cm), nf_self, p, ap, ar, ab, S, ops, _, rfl, z, k, .inl ⟨q, aq, ar', ab', T, opt, rfl, z', k', _, rfl, h⟩⟩
theorem eq_oth {Q : VK} {y : V} {t : Value} (z : Stn C H p ap ar ab S ops) (k : KSt S.st) (ty : TyX K H y t) (kt : PySem.W.kitOne K t (.ref C) = some false) (nt : PySem.W.notFirst K C t = true) (h : Q (.bl false) H) : rOwnC K C (sp_Station_eq K C) (.ref p) y H Q := by
  obtain ⟨⟨dx, v, hp, _⟩, _⟩ := id z
  exact ⟨p, dx, _, _, rfl, hp, ty, nt, p, ap, ar, ab, S, ops, _, rfl, z, k, .inr ⟨t, ty, kt, h⟩⟩
theorem ne_oth {Q : VK} {y : V} {t : Value} (z : Stn C H p ap ar ab S ops) (k : KSt S.st) (ty : TyX K H y t) (kt : PySem.W.kitOne K t (.ref C) = some false) (nt : PySem.W.notFirst K C t = true) (h : Q (.bl true) H) : rNotC K C (sp_Station_eq K C) (.ref p) y H Q := by
  obtain ⟨⟨dx, v, hp, _⟩, _⟩ := id z
  exact ⟨p, dx, _, _, rfl, hp, ty, nt, p, ap, ar, ab, S, ops, _, rfl, z, k, .inr ⟨t, ty, kt, _, rfl, h⟩⟩
end
/-- a new station -/
theorem new_ok {C : Addr} {H H6 : Hp} {qa dx ap ar ab : Addr} (np : H qa = none) (nd : H dx = none) (b : But qa (upd (upd H dx (.own qa)) qa (.ins C dx [])) H6) (na : (upd (upd H dx (.own qa)) qa (.ins C dx [])) ap = none) (nr : (upd (upd H dx (.own qa)) qa (.ins C dx [])) ar = none) (nb : (upd (upd H dx (.own qa)) qa (.ins C dx [])) ab = none) :
    Same H H6 ∧ H ap = none ∧ H ar = none ∧ H ab = none ∧ qa ≠ ap ∧ qa ≠ ar ∧ qa ≠ ab := by
  have s5 : Same H (upd (upd H dx (.own qa)) qa (.ins C dx [])) := fun b o e => by
    rw [upd_ne (ne_of_none e np), upd_ne (ne_of_none e nd)]
    exact e
  have f : ∀ {x : Addr}, (upd (upd H dx (.own qa)) qa (.ins C dx [])) x = none → H x = none := fun {x} e => by
    cases y : H x with
    | none => rfl
    | some o =>
      rw [s5 _ _ y] at e
      cases e
  have g : ∀ {x : Addr}, (upd (upd H dx (.own qa)) qa (.ins C dx [])) x = none → qa ≠ x := fun {x} e z => by
    rw [← z, upd_same] at e
    cases e
  exact ⟨fun c o e => b _ _ (ne_of_none e np) (s5 _ _ e), f na, f nr, f nb, g na, g nr, g nb⟩
theorem Stn.h0 {C : Addr} {H : Hp} {p ap ar ab : Addr} {S : Sta} (z : Stn C H p ap ar ab S []) : StnH C H p ap ar ab S [] := by
  obtain ⟨h1, h2, h3, ⟨xs, h4, h4p⟩, h5, h6⟩ := z
  cases h4p
  exact ⟨h1, h2, h3, ⟨[], h4, .nil⟩, h5, h6, fun e he => by cases he⟩
/-- a copy and its list -/
def Cps (C : Addr) (H : Hp) (L : List Addr) (c : Addr) : Prop := c ∉ L ∧ (H c = some (.lst []) ∨ ∃ (t q aq rq bq kl : Addr) (T : Sta) (ops : List Op), H c = some (.lst [.ref t]) ∧ H t = some (.tup [.ref q, .ref kl]) ∧ Stn C H q aq rq bq T ops ∧ Opl H kl ops ∧ AL ops T ∧ ops.length ≤ 40 ∧ q ∉ L ∧ aq ∉ L ∧ rq ∉ L ∧ bq ∉ L ∧ kl ∉ L)
theorem Cps.kp {C : Addr} {H H' : Hp} {L : List Addr} {c : Addr} (z : Cps C H L c) (l : Liv H L) (k : Kp L H H') : Cps C H' L c := by
  obtain ⟨nc, h⟩ := z
  refine ⟨nc, ?_⟩
  have tk := l.tk k (fun _ h => h)
  rcases h with h | ⟨t, q, aq, rq, bq, kl, T, ops, h1, h2, h3, h4, h5, h6, n1, n2, n3, n4, n5⟩
  · exact .inl (k _ _ nc h)
  · exact .inr ⟨t, q, aq, rq, bq, kl, T, ops, k _ _ nc h1, tk _ _ h2, h3.keep tk (k.at n1) (k.at n2) (k.at n3) (k.at n4), h4.tk tk (k.at n5), h5, h6, n1, n2, n3, n4, n5⟩
/-- the other station -/
structure Oth (C : Addr) (Hc H : Hp) (q a r t : Addr) (S : Sta) (es : List Ent) (os : List Op) : Prop where
  z : StnH C H q a r t S es
  eo : es.map (·.o) = os
  al : AL os S
  n : Hc q = none ∧ Hc a = none ∧ Hc r = none ∧ Hc t = none
  ne : ∀ e ∈ es, Hc e.ar = none ∧ Hc e.ab = none
section
variable {C : Addr} {Hc H H' : Hp} {q a r t : Addr} {S : Sta} {es : List Ent} {os : List Op}
theorem Oth.stn (w : Oth C Hc H q a r t S es os) : Stn C H q a r t S os := by
  have := w.z.stn
  rw [w.eo] at this
  exact this
theorem Oth.same (w : Oth C Hc H q a r t S es os) (s : Same H H') : Oth C Hc H' q a r t S es os := ⟨w.z.same s, w.eo, w.al, w.n, w.ne⟩
theorem Oth.kp {L : List Addr} (w : Oth C Hc H q a r t S es os) (l : Liv Hc L) (s : Same Hc H) (k : Kp L H H') : Oth C Hc H' q a r t S es os := by
  have nL : ∀ {x : Addr}, Hc x = none → x ∉ L := fun e => l.not e
  have tk := (l.same s).tk k (fun _ h => h)
  exact ⟨w.z.keep tk (k.at (nL w.n.1)) (k.at (nL w.n.2.1)) (k.at (nL w.n.2.2.1)) (k.at (nL w.n.2.2.2)) (fun e he => ⟨k.at (nL (w.ne e he).1), k.at (nL (w.ne e he).2)⟩), w.eo, w.al, w.n, w.ne⟩
theorem Oth.arr {k : Str} {n : Nat} {r' t' : Addr} (w : Oth C Hc H q a r t S es os) (s : Same Hc H) (l : os.length ≤ 40) (kk : KindOk k) (n1 : 1 ≤ n) (n2 : n ≤ 10000000000000000000000000000) (na : H r' = none) (nb : H t' = none) (z : StnH C H' q a r' t' (arrS S k n) (es ++ [⟨(("arrive" : Str), .inr k, (n : Int)), S, r, t⟩])) :
    Oth C Hc H' q a r' t' (arrS S k n) (es ++ [⟨(("arrive" : Str), .inr k, (n : Int)), S, r, t⟩]) (os ++ [(("arrive" : Str), .inr k, (n : Int))]) := by
  refine ⟨z, ?_, w.al.step l kk n1 n2, ⟨w.n.1, w.n.2.1, s.free na, s.free nb⟩, fun e he => ?_⟩
  · rw [List.map_append, w.eo]
    rfl
  · rcases List.mem_append.mp he with h | h
    · exact w.ne e h
    · rw [List.mem_singleton.mp h]
      exact w.n.2.2
theorem Oth.sm (w : Oth C Hc H q a r t S es os) (s : Same Hc H) (f : Fr q a H H') : Same Hc H' := fun b o e => f _ _ (ne_of_none e w.n.1) (ne_of_none e w.n.2.1) (s _ _ e)
theorem Oth.len (w : Oth C Hc H q a r t S es os) : es.length = os.length := by rw [← w.eo, List.length_map]
end
theorem p28 : (10 : Int) ^ ((28 : Int).toNat) = 10000000000000000000000000000 := by decide +kernel
section
variable {P : Program} {w : World} {K : PySem.W.Frag} {mg : Str → Option Value} {base : Heap} {C : Addr}
/-! _law_holds: slots 0:stream 1:most 2:station 3:history 4:scale 5:copies 6:turn 7:other 8:copied 9:kept 10:name 11:kind 12:count -/
abbrev s_law_holds : Stmt := topS 58
theorem sc_law_holds : FnScope ["stream", "most", "station", "history", "scale", "copies", "turn", "other", "copied", "kept", "name", "kind", "count"] ["stream", "most"] (defScope s_law_holds) := ⟨rfl, rfl, rfl, by decide +kernel, rfl, by decide +kernel, by decide +kernel⟩
def sp_law_holds (C : Addr) : Sp := fun vs H Q _ => ∃ (st : Addr) (n : Nat), vs = [.ref st, .int n] ∧ SM H st ∧ 1 ≤ n ∧ n ≤ 30 ∧ ∀ H', But st H H' → Q (.bl true) H'
theorem ok_law_holds (D : Df K mg "_law_holds" s_law_holds) (T : Tx mg) (TS : ClsT K mg C) (cc : CmpC K C) (G_law_draw : Has P w K mg base 1 "_law_draw" ["stream", "many"] sp_law_draw) (G_law_step : Has P w K mg base 4 "_law_step" ["stream", "station", "history", "scale"] (sp_law_step C))
    (G_law_agrees : Has P w K mg base 7 "_law_agrees" ["stream", "station", "history"] (sp_law_agrees C)) (G_law_gives_up : Has P w K mg base 4 "_law_gives_up" ["stream", "station"] (sp_law_gives_up C)) (G_Station___init__ : HasI P w K mg base C 1 (sp_Station_init C))
    (G_Station_duplicate : HasM P w K mg base C 3 "duplicate" ["self"] (sp_Station_duplicate C)) (G_Station___eq__ : HasM P w K mg base C 1 "__eq__" ["self", "other"] (sp_Station_eq K C)) (G_Station_arrive : HasMD P w K mg base C 3 "arrive" ["self", "kind", "count"] 2 "count" (.int 1) (sp_Station_arrive C)) :
    Has P w K mg base 8 "_law_holds" ["stream", "most"] (sp_law_holds C) := by
  refine has_of D sc_law_holds (fun _ _ _ _ _ _ us hl => match us, hl with | [_, _], _ => rfl) (fun vs H Q E h => ?_) (fun f cdv A outer s₀ H vs Q E hr h => ?_)
  · obtain ⟨_, _, rfl, _⟩ := h
    rfl
  · obtain ⟨st, n, rfl, zm, n1, n30, qq⟩ := h
    refine ⟨_, (pss_cons (ps_set (i := 2) sc_law_holds.nd rfl (by first | exact Or.inl rfl | exact Or.inr rfl) (pe_makeO TS.mkS G_Station___init__ (hr.mono (by omega)) (by rfl)))
    (pss_cons (ps_set (i := 3) sc_law_holds.nd rfl (by first | exact Or.inl rfl | exact Or.inr rfl) (pe_lst pa_nil))
    (pss_cons (ps_set (i := 4) sc_law_holds.nd rfl (by first | exact Or.inl rfl | exact Or.inr rfl) (pe_ix ix_list (pe_lst (pa_cons pe_int (pa_cons pe_int (pa_cons (pe_op op_pow pe_int pe_int) pa_nil)))) (pe_callH G_law_draw (hr.mono (by omega)) (by rfl) (pa_cons (pv 0) (pa_cons pe_int pa_nil))) (fun _ _ => rfl)))
    (pss_cons (ps_set (i := 5) sc_law_holds.nd rfl (by first | exact Or.inl rfl | exact Or.inr rfl) (pe_lst pa_nil))
    (pss_cons (ps_for PassesOwn.never rfl (pi_range1 (by rfl) T.n_range (pa_cons (pe_callH G_law_draw (hr.mono (by omega)) (by rfl) (pa_cons (pv 0) (pa_cons (pv 1) pa_nil))) pa_nil)) (pg_name (i := 6) sc_law_holds.nd rfl (by first | exact Or.inl rfl | exact Or.inr rfl))
      (C8.pss_cut (ps_if (pt_cmpR op_eq (pe_callH G_law_draw (hr.mono (by omega)) (by rfl) (pa_cons (pv 0) (pa_cons pe_int pa_nil))) pe_int (nomark _)) (pss_one (ps_set (i := 5) sc_law_holds.nd rfl (by first | exact Or.inl rfl | exact Or.inr rfl) (pe_lst (pa_cons (pe_tup (pa_cons (pe_meth0O (pv 2) TS.cl G_Station_duplicate (hr.mono (by omega))) (pa_cons (pe_callTy call_list_of (by rfl) T.n_list (by decide +kernel) (pa_cons (pv 3) pa_nil)) pa_nil))) pa_nil)))) pss_nil)
    (pss_one (ps_if (PW.pt (pw_or (pt_not (pt_val (pe_callH G_law_step (hr.mono (by omega)) (by rfl) (pa_cons (pv 0) (pa_cons (pv 2) (pa_cons (pv 3) (pa_cons (pv 4) pa_nil))))))) (pw_or1 (pt_not (pt_val (pe_callH G_law_agrees (hr.mono (by omega)) (by rfl) (pa_cons (pv 0) (pa_cons (pv 2) (pa_cons (pv 3) pa_nil))))))))) (pss_one (ps_ret pe_bl)) pss_nil))))
    (pss_cons (ps_for PassesOwn.never rfl (pi_list (pv 5)) (pg_tup rfl (pgs_cons (pg_name (i := 8) sc_law_holds.nd rfl (by first | exact Or.inl rfl | exact Or.inr rfl)) (pgs_cons (pg_name (i := 9) sc_law_holds.nd rfl (by first | exact Or.inl rfl | exact Or.inr rfl)) pgs_nil)))
      (pss_one (ps_if (pt_not (pt_val (pe_callH G_law_agrees (hr.mono (by omega)) (by rfl) (pa_cons (pv 0) (pa_cons (pv 8) (pa_cons (pv 9) pa_nil)))))) (pss_one (ps_ret pe_bl)) pss_nil)))
    (pss_cons (ps_set (i := 7) sc_law_holds.nd rfl (by first | exact Or.inl rfl | exact Or.inr rfl) (pe_makeO TS.mkS G_Station___init__ (hr.mono (by omega)) (by rfl)))
    (pss_cons (ps_for PassesOwn.never rfl (pi_list (pv 3)) (pg_tup rfl (pgs_cons (pg_name (i := 10) sc_law_holds.nd rfl (by first | exact Or.inl rfl | exact Or.inr rfl)) (pgs_cons (pg_name (i := 11) sc_law_holds.nd rfl (by first | exact Or.inl rfl | exact Or.inr rfl)) (pgs_cons (pg_name (i := 12) sc_law_holds.nd rfl (by first | exact Or.inl rfl | exact Or.inr rfl)) pgs_nil))))
      (pss_one (ps_expr (pe_methFO (pv 7) TS.cl G_Station_arrive (hr.mono (by omega)) (pa_cons (pv 11) (pa_cons (pv 12) pa_nil))))))
    (pss_cons (ps_if (PW.pt (pw_or (pt_not (pt_cmpR (op_eqO G_Station___eq__ (hr.mono (by omega))) (pv 7) (pv 2) (nomark _))) (pw_or (pt_not (pt_val (pe_callH G_law_gives_up (hr.mono (by omega)) (by rfl) (pa_cons (pv 0) (pa_cons (pv 2) pa_nil))))) (pw_or1 (pt_not (pt_cmpR (op_eqO G_Station___eq__ (hr.mono (by omega))) (pv 7) (pv 2) (nomark _))))))) (pss_one (ps_ret pe_bl)) pss_nil)
    (pss_cons (ps_expr (pe_methFO (pv 7) TS.cl G_Station_arrive (hr.mono (by omega)) (pa_cons pe_str (pa_cons pe_int pa_nil))))
    (pss_one (ps_ret (pe_not (pe_cmpR (op_eqO G_Station___eq__ (hr.mono (by omega))) (pv 7) (pv 2) (nomark _))))))))))))))), ?_⟩
    refine fun p dx' np nd nx => ⟨p, dx', rfl, upd_same, fun H1 ap ar ab b1 nap nar nab zs1 => ⟨rfl, ?_⟩⟩
    obtain ⟨s1, nap, nar, nab, pap, par, pab⟩ := new_ok np nd b1 nap nar nab
    refine ⟨Nat.zero_le _, fun hl nhl => ?_⟩
    have s2 := same_upd (o := .lst []) nhl
    have h2 := upd_same (H := H1) (a := hl) (o := .lst [])
    have nhl0 : H hl = none := s1.free nhl
    have al1 := zs1.alive nhl
    generalize upd H1 hl (.lst []) = H2 at *
    have zm2 := (zm.same s1).same s2
    have ne : ∀ {x : Addr}, H x = none → x ≠ st := fun e => by
      obtain ⟨_, _, hs, _⟩ := zm
      exact (ne_of_none hs e).symm
    have apar : ap ≠ ar := zs1.n1
    have apab : ap ≠ ab := zs1.n2
    have w2 : Wks C H2 st p ap ar ab hl ⟨none, [], 0, 0, []⟩ [] [] := ⟨zs1.h0.same s2, ⟨[], h2, .nil⟩, rfl, AL.nil, (fun i e h => by simp at h), ⟨n4b (ne nar) par.symm apar.symm al1.2.2.1, n4b (ne nab) pab.symm apab.symm al1.2.2.2⟩, (fun e he => by cases he), ⟨ne np, ne nap, ne nhl0, al1.1.symm, al1.2.1.symm, pap.symm⟩⟩
    have B2 : But st H H2 := Same.but (s1.trans s2)
    clear zs1 s1 s2 h2 b1 al1 apar apab par pab
    -- the greatest count
    refine ⟨_, _, rfl, rfl, ⟨by decide, by decide, by decide⟩, (by show 3 ≤ sizeLine; decide), fun l nl => ?_⟩
    have sl := same_upd (o := .lst [.int 3, .int 40, .int ((10 : Int) ^ ((28 : Int).toNat))]) nl
    have hl3 := upd_same (H := H2) (a := l) (o := .lst [.int 3, .int 40, .int ((10 : Int) ^ ((28 : Int).toNat))])
    refine ⟨_, rfl, st, 3, rfl, zm2.same sl, by decide, by decide, fun H4 r4 b4 z4 r40 r41 => ?_⟩
    have hl4 := b4 _ _ (SM.ne zm2 nl) hl3
    have w4 := (w2.same sl).butM (zm2.same sl) b4
    have B4 : But st H H4 := B2.trans ((Same.but sl).trans b4)
    obtain ⟨g, hg, g1, g2⟩ : ∃ g : Int, atI [V.int 3, V.int 40, V.int ((10 : Int) ^ ((28 : Int).toNat))] r4 = some (.int g) ∧ 1 ≤ g ∧ g ≤ 10000000000000000000000000000 := by
      rcases (show r4 = 0 ∨ r4 = 1 ∨ r4 = 2 by omega) with er | er | er
      · rw [er]
        exact ⟨3, rfl, by decide, by decide⟩
      · rw [er]
        exact ⟨40, rfl, by decide, by decide⟩
      · rw [er]
        exact ⟨_, rfl, by rw [p28]; decide, by rw [p28]; decide⟩
    refine ⟨l, _, r4, _, rfl, rfl, .of hl4, hg, ?_⟩
    clear hl4 hl3 sl b4 w2 zm2 B2 hg
    refine ⟨Nat.zero_le _, fun c0 nc0 => ?_⟩
    have s5 := same_upd (o := .lst []) nc0
    have h5 := upd_same (H := H4) (a := c0) (o := .lst [])
    have cp5 : Cps C (upd H4 c0 (.lst [])) [st, p, ap, hl] c0 := ⟨(w4.liv z4).not nc0, .inl h5⟩
    generalize upd H4 c0 (.lst []) = H5 at *
    have w5 := w4.same s5
    have z5 := z4.same s5
    have B5 := B4.trans (Same.but s5)
    clear w4 z4 B4 s5 h5 nc0
    refine ⟨_, rfl, _, rfl, st, n, rfl, z5, by omega, wideM (by omega) (by omega), fun H6 m6 b6 z6 m60 m61 => ?_⟩
    have w6 := w5.butM z5 b6
    have cp6 := cp5.kp (w5.liv z5) (Kp.but b6 (by simp))
    have B6 := B5.trans b6
    clear w5 z5 cp5 B5 b6
    have hb : ∀ {Ha Hb : Hp}, But st H Ha → Kp [st, p, ap, hl] Ha Hb → But st H Hb := fun {Ha Hb} b k x o nx e => k _ _ (n4b nx (ne_of_none e np) (ne_of_none e nap) (ne_of_none e nhl0)) (b _ _ nx e)
    refine ⟨m6, rfl, by omega, by omega, for_range (lo := 0) (n := m6.toNat) (fun i σ H' => ∃ (ar ab c : Addr) (S : Sta) (es : List Ent) (os : List Op) (y6 : Option V), σ = [some (.ref st), some (.int n), some (.ref p), some (.ref hl), some (.int g), some (.ref c), y6, none, none, none, none, none, none] ∧ But st H H' ∧ SM H' st ∧ Wks C H' st p ap ar ab hl S es os ∧ os.length ≤ i ∧ Cps C H' [st, p, ap, hl] c)
      ⟨ar, ab, c0, _, _, _, _, rfl, B6, z6, w6, Nat.le_refl _, cp6⟩ (fun i σ H7 hi hP => ?_) (fun σ H7 hP => ?_)⟩
    · obtain ⟨ar, ab, c, S, es, os, y6, rfl, B7, z7, w7, lo, cp7⟩ := hP
      have hi : i < m6.toNat := hi
      refine ⟨fun σ' H' => ∃ c : Addr, σ' = [some (.ref st), some (.int n), some (.ref p), some (.ref hl), some (.int g), some (.ref c), some (.int (0 + i)), none, none, none, none, none, none] ∧ But st H H' ∧ SM H' st ∧ Wks C H' st p ap ar ab hl S es os ∧ Cps C H' [st, p, ap, hl] c, ?_, fun σ' H8 hM => ?_⟩
      · refine ⟨_, rfl, st, 4, rfl, z7, by decide, by decide, fun H8 r8 b8 z8 r80 r81 => ?_⟩
        have w8 := w7.butM z7 b8
        have B8 := B7.trans b8
        refine ⟨rfl, _, rfl, ite2 (fun _ => ?_) (fun _ => ?_)⟩
        · obtain ⟨dx1, fs1, hp1, lk1⟩ := w8.stn.at nf_duplicate
          obtain ⟨xs, hx, hxp⟩ := id w8.h
          refine ⟨_, rfl, p, dx1, fs1, rfl, hp1, lk1, p, ap, ar, ab, S, es, rfl, w8.z, fun H9 q aq s9 nq naq qaq z9 => ⟨_, rfl, hl, _, rfl, .inl (.of (s9 _ _ hx)), fun kl nkl => ⟨(by show 2 ≤ sizeLine; decide), fun t nt => ⟨(by show 1 ≤ sizeLine; decide), fun c nc => ?_⟩⟩⟩⟩
          have lv8 := w8.liv z8
          have s10 := same_upd (o := .lst xs) nkl
          have h10 := upd_same (H := H9) (a := kl) (o := .lst xs)
          generalize upd H9 kl (.lst xs) = H10 at *
          have s11 := same_upd (o := .tup [.ref q, .ref kl]) nt
          have h11 := upd_same (H := H10) (a := t) (o := .tup [.ref q, .ref kl])
          generalize upd H10 t (.tup [.ref q, .ref kl]) = H11 at *
          have s12 := same_upd (o := .lst [.ref t]) nc
          have h12 := upd_same (H := H11) (a := c) (o := .lst [.ref t])
          generalize upd H11 c (.lst [.ref t]) = H12 at *
          have sA := s9.trans (s10.trans (s11.trans s12))
          have z9n := (z9.same (s10.trans (s11.trans s12))).stn
          rw [w8.eo] at z9n
          exact ⟨c, rfl, B8.trans (Same.but sA), z8.same sA, w8.same sA, lv8.not ((s9.trans (s10.trans s11)).free nc), .inr ⟨t, q, aq, ar, ab, kl, S, os, h12, s12 _ _ h11, z9n, ⟨xs, (s11.trans s12) _ _ h10, Paired.imp (fun _ _ y => y.tk (stk sA)) hxp⟩, w8.al, by omega, lv8.not nq, lv8.not naq, w8.oR.1, w8.oR.2, lv8.not (s9.free nkl)⟩⟩
        · exact ⟨c, rfl, B8, z8, w8, cp7.kp (w7.liv z7) (Kp.but b8 (by simp))⟩
      · obtain ⟨c, rfl, B8, z8, w8, cp8⟩ := hM
        refine ⟨_, rfl, _, rfl, _, rfl, _, rfl, st, p, ap, ar, ab, hl, S, es, os, g, rfl, z8, w8, g1, g2, by omega, fun H9 ar9 ab9 S9 es9 os9 k9 z9 w9 l9 => ⟨_, rfl, iteN rfl ?_⟩⟩
        have cp9 := cp8.kp (w8.liv z8) k9
        have B9 := hb B8 k9
        obtain ⟨d1, d2, d3, d4, d5, d6⟩ := id w9.nd
        refine ⟨_, rfl, _, rfl, _, rfl, st, p, ap, ar9, ab9, hl, S9, os9, rfl, z9, d1, d2, (n4a w9.oR.1).1, (n4a w9.oR.2).1, d3, w9.stn, w9.h, w9.al, by omega, fun H10 b10 z10 => ⟨_, rfl, iteN rfl ?_⟩⟩
        exact ⟨ar9, ab9, c, S9, es9, os9, _, rfl, B9.trans b10, z10, w9.butM z9 b10, by omega, cp9.kp (w9.liv z9) (Kp.but b10 (by simp))⟩
    · obtain ⟨ar, ab, c, S, es, os, y6, rfl, B7, z7, w7, lo, ncL, cp7⟩ := hP
      have l30 : os.length ≤ 30 := by omega
      obtain ⟨ncs, _⟩ := n4a ncL
      -- the copies
      obtain ⟨xs, hc, hcp⟩ : ∃ xs, H7 c = some (.lst xs) ∧ ∀ (j : Nat) (x : V), xs[j]? = some x → ∃ (t q aq rq bq kl : Addr) (T : Sta) (ops : List Op), x = .ref t ∧ H7 t = some (.tup [.ref q, .ref kl]) ∧ Stn C H7 q aq rq bq T ops ∧ Opl H7 kl ops ∧ AL ops T ∧ ops.length ≤ 40 ∧ q ≠ st ∧ aq ≠ st ∧ rq ≠ st ∧ bq ≠ st ∧ kl ≠ st := by
        rcases cp7 with h | ⟨t, q, aq, rq, bq, kl, T, ops, h1, h2, h3, h4, h5, h6, m1, m2, m3, m4, m5⟩
        · exact ⟨[], h, fun j x h => by simp at h⟩
        · refine ⟨_, h1, fun j x h => ?_⟩
          have hj := (List.getElem?_eq_some_iff.mp h).1
          have hj : j < 1 := hj
          have : j = 0 := by omega
          subst this
          cases h
          exact ⟨t, q, aq, rq, bq, kl, T, ops, rfl, h2, h3, h4, h5, h6, (n4a m1).1, (n4a m2).1, (n4a m3).1, (n4a m4).1, (n4a m5).1⟩
      refine ⟨_, rfl, c, rfl, ⟨xs, .of hc⟩, for_list (K := K) (a := c) (xs := xs) (fun j σ H' => ∃ y8 y9, σ = [some (.ref st), some (.int n), some (.ref p), some (.ref hl), some (.int g), some (.ref c), y6, none, y8, y9, none, none, none] ∧ But st H7 H' ∧ SM H' st)
        ⟨_, _, rfl, But.refl, z7⟩ (fun j σ H8 _ hP => ?_) (fun j x σ H8 ex hP => ?_) (fun σ H8 hP => ?_)⟩
      · obtain ⟨_, _, _, b, _⟩ := hP
        exact .of (b _ _ ncs hc)
      · obtain ⟨y8, y9, rfl, b8, z8⟩ := hP
        obtain ⟨t, q, aq, rq, bq, kl, T, ops, rfl, ht, hs, ho, al, lo4, m1, m2, m3, m4, m5⟩ := hcp j x ex
        have ht8 := b8 _ _ (by
          obtain ⟨_, _, h, _⟩ := z7
          exact ne_of ht h (by intro y; cases y)) ht
        refine ⟨t, _, rfl, .of ht8, rfl, _, _, rfl, _, _, rfl, rfl, ?_⟩
        refine ⟨_, rfl, _, rfl, _, rfl, st, q, aq, rq, bq, kl, T, ops, rfl, z8, m1, m2, m3, m4, m5, Stn.butM z7 b8 hs ⟨m1, m2, m3, m4⟩, Opl.butM z7 b8 m5 ho, al, lo4, fun H9 b9 z9 => ⟨_, rfl, iteN rfl ?_⟩⟩
        exact ⟨_, _, rfl, b8.trans b9, z9⟩
      · obtain ⟨y8, y9, rfl, b8, z8⟩ := hP
        have w8 := w7.butM z7 b8
        have B8 := B7.trans b8
        clear w7 z7 B7 b8 hcp hc xs
        have lv8 := w8.liv z8
        -- another station
        refine fun q dx' np8 nd8 nx8 => ⟨q, dx', rfl, upd_same, fun H9 aq rq bq b9 naq nrq nbq zq => ⟨rfl, ?_⟩⟩
        obtain ⟨s9, naq, nrq, nbq, _, _, _⟩ := new_ok np8 nd8 b9 naq nrq nbq
        have o9 : Oth C H8 H9 q aq rq bq ⟨none, [], 0, 0, []⟩ [] [] := ⟨zq.h0, rfl, AL.nil, ⟨np8, naq, nrq, nbq⟩, fun e he => by cases he⟩
        obtain ⟨xs, hx, hxp⟩ := id w8.h
        have lx : xs.length = os.length := Paired.len hxp
        clear zq b9 nrq nbq nx8 nd8
        refine ⟨_, rfl, hl, rfl, ⟨xs, .of (s9 _ _ hx)⟩, for_list (K := K) (a := hl) (xs := xs) (fun j σ H' => ∃ (r t : Addr) (T : Sta) (eq : List Ent) (y10 y11 y12 : Option V), σ = [some (.ref st), some (.int n), some (.ref p), some (.ref hl), some (.int g), some (.ref c), y6, some (.ref q), y8, y9, y10, y11, y12] ∧ Same H8 H' ∧ Oth C H8 H' q aq r t T eq (os.take j))
          ⟨rq, bq, _, _, _, _, _, rfl, s9, o9⟩ (fun j σ H' _ hP => ?_) (fun j x σ H' ex hP => ?_) (fun σ H' hP => ?_)⟩
        · obtain ⟨_, _, _, _, _, _, _, _, s, _⟩ := hP
          exact .of (s _ _ hx)
        · obtain ⟨r, t, T, eq, y10, y11, y12, rfl, s, o⟩ := hP
          obtain ⟨op, eo, hop⟩ := Paired.at hxp ex
          obtain ⟨u, rfl, hu⟩ := hop.tk (stk s)
          have hj : j < xs.length := (List.getElem?_eq_some_iff.mp ex).1
          obtain ⟨k, m, rfl, kk, m1, m2⟩ := w8.al.ar op (List.mem_of_getElem? eo)
          refine ⟨u, _, rfl, .of hu, rfl, _, _, rfl, _, _, rfl, _, _, rfl, rfl, ?_⟩
          obtain ⟨dx1, fs1, hp1, lk1⟩ := o.stn.at nf_arrive
          have lT := o.al.lR
          have lB := o.al.lB
          have lE := o.len
          rw [List.length_take] at lT lB lE
          refine ⟨_, rfl, q, dx1, fs1, rfl, hp1, lk1, _, rfl, _, rfl, q, aq, r, t, T, eq, k, m, rfl, o.z, kk, by omega, by omega, by omega, by omega, by omega, fun H'' r' t' f na nb z' => ?_⟩
          have o' := o.arr s (by rw [List.length_take]; omega) kk m1 m2 na nb z'
          rw [← take_snoc eo] at o'
          exact ⟨r', t', _, _, _, _, _, rfl, o.sm s f, o'⟩
        · obtain ⟨r, t, T, eq, y10, y11, y12, rfl, s, o⟩ := hP
          rw [lx, List.take_length] at o
          have w9 := w8.same s
          have z9 := z8.same s
          have B9 := B8.trans (Same.but s)
          have km := kmO os w8.al.ar
          have k1 := w8.al.mr.kst km
          have k2 := o.al.mr.kst km
          have se : SEq T S := o.al.mr.seq w8.al.mr
          have mc := mdO_c os w8.al.ar
          have lR := w8.al.lR
          have lE := w8.len
          obtain ⟨d1, d2, d3, d4, d5, d6⟩ := id w8.nd
          refine ⟨_, rfl, _, rfl, eq_sta TS cc o.stn w9.stn k2 k1 ⟨_, rfl, ?_⟩⟩
          rw [decide_eq_true se]
          refine iteN rfl ?_
          refine ⟨_, rfl, _, rfl, st, p, ap, ar, ab, S, es, mdO os, rfl, z9, w9.z, w9.al.mr, km, mdO_g os, by omega, by omega, by omega, d1, d2, (n4a w9.oR.1).1, (n4a w9.oR.2).1, fun e he => ⟨(n4a (w9.oE e he).1).1, (n4a (w9.oE e he).2).1⟩, fun H10 k10 z10 w10 => ⟨_, rfl, iteN rfl ?_⟩⟩
          have k10' : Kp [st, p, ap, hl] H' H10 := k10.more (by intro x hx; simp only [List.mem_cons, List.not_mem_nil, or_false] at hx ⊢; rcases hx with e | e | e <;> simp [e])
          have o10 := o.kp lv8 s k10'
          have st10 : Stn C H10 p ap ar ab S os := by
            have := w10.stn
            rw [w9.eo] at this
            exact this
          refine ⟨_, rfl, _, rfl, eq_sta TS cc o10.stn st10 k2 k1 ⟨_, rfl, ?_⟩⟩
          rw [decide_eq_true se]
          refine iteN rfl ?_
          obtain ⟨dx1, fs1, hp1, lk1⟩ := o10.stn.at nf_arrive
          have lT := o10.al.lR
          have lB := o10.al.lB
          have lE2 := o10.len
          refine ⟨_, rfl, q, dx1, fs1, rfl, hp1, lk1, ?_⟩
          dsimp only [tCons, tC, tNil]
          show sp_Station_arrive C [V.ref q, .str "e", .int 1] H10 _ _
          refine ⟨q, aq, r, t, T, eq, "e", 1, rfl, o10.z, by decide +kernel, by decide, by decide, by omega, by omega, by omega, fun H11 r' t' f na nb z' => ?_⟩
          have sS : Same H8 H10 → False ∨ True := fun _ => .inr True.intro
          have al11 := o10.al.step (by omega) (show KindOk "e" by decide +kernel) (Nat.le_refl 1) (by decide)
          have k11 := al11.mr.kst (kmO _ al11.ar)
          have z'' : Stn C H11 q aq r' t' (arrS T "e" ((1 : Nat) : Int)) _ := z'.stn
          have nq : ∀ {x : Addr} {o : HO}, H8 x = some o → x ≠ q ∧ x ≠ aq := fun e => ⟨ne_of_none e np8, ne_of_none e naq⟩
          have apt : (p ≠ q ∧ p ≠ aq) ∧ (ap ≠ q ∧ ap ≠ aq) ∧ (ar ≠ q ∧ ar ≠ aq) ∧ (ab ≠ q ∧ ab ≠ aq) := by
            obtain ⟨⟨_, _, e1, _⟩, ⟨_, e2, _⟩, ⟨_, e3, _⟩, ⟨_, e4, _⟩, _⟩ := w8.stn
            exact ⟨nq e1, nq e4, nq e2, nq e3⟩
          have st11 : Stn C H11 p ap ar ab S os := by
            obtain ⟨⟨_, _, e1, _⟩, _, _, ⟨_, e4, _⟩, _⟩ := id o10.stn
            have tk : Tk H10 H11 := fun b xs e => f _ _ (ne_of e e1 (by intro y; cases y)) (ne_of e e4 (by intro y; cases y)) e
            exact st10.keep tk (fun o e => f _ _ apt.1.1 apt.1.2 e) (fun o e => f _ _ apt.2.1.1 apt.2.1.2 e) (fun o e => f _ _ apt.2.2.1.1 apt.2.2.1.2 e) (fun o e => f _ _ apt.2.2.2.1 apt.2.2.2.2 e)
          refine ⟨_, rfl, _, rfl, eq_sta TS cc z'' st11 k11 k1 ⟨_, rfl, ?_⟩⟩
          have nse : ¬ SEq (arrS T "e" ((1 : Nat) : Int)) S := fun z => by
            have e1 : T.n + ((1 : Nat) : Int) = S.n := z.2.2.1
            have e2 : T.n = S.n := se.2.2.1
            omega
          rw [decide_eq_false nse]
          exact qq _ fun x o nx e => f _ _ (nq (B8 x o nx e)).1 (nq (B8 x o nx e)).2 (hb B9 k10' x o nx e)
end
end UP

set_option Elab.async false
set_option linter.all false
set_option maxRecDepth 100000
set_option maxHeartbeats 4000000
set_option pp.maxSteps 1200
namespace UP
open PySem PySem.Spec PyProof.Rows L2
theorem cut_mem {xs : List V} {lo hi : Option Int} {x : V} (h : x ∈ cutV xs lo hi) : x ∈ xs := by
  unfold cutV at h
  exact List.mem_of_mem_drop (List.mem_of_mem_take h)
section
variable {P : Program} {w : World} {K : PySem.W.Frag} {mg : Str → Option Value} {base : Heap}
/-! law: slots 0:script 1:cells 2:k 3:cell -/
abbrev s_law : Stmt := topS 59
theorem sc_law : FnScope ["script", "cells", "k", "cell"] ["script"] (defScope s_law) := ⟨rfl, rfl, rfl, by decide +kernel, rfl, by decide +kernel, by decide +kernel⟩
def sp_law (K : PySem.W.Frag) : Sp := fun vs H Q _ => ∃ (a : Addr) (ns : List Int), vs = [.ref a] ∧ SqL K H a (ns.map V.int) ∧ ns.length ≤ 63 ∧ ∀ H', Q (.bl true) H'
theorem fn_law {f : Addr} {fd : FuncData} {C : Addr} (F : Fun K "law" "law" s_law f fd) (T : Tx mg)
    (G_law_stream : Has P w K mg base 1 "_law_stream" ["cell", "k"] sp_law_stream) (G_law_holds : Has P w K mg base 8 "_law_holds" ["stream", "most"] (sp_law_holds C)) :
    FnC P w K mg base f fd ["script"] (sp_law K) := by
  refine fnC_of F sc_law (fun vs H Q E h => ?_) (fun cdv outer s H vs Q E hr h => ?_)
  · obtain ⟨_, _, rfl, _⟩ := h
    rfl
  · obtain ⟨a, ns, rfl, hS, l63, q⟩ := h
    have hr := Room.deeper (show Room (9 + 1) callerA from ⟨rfl, by decide, by decide⟩) (envOfC "law" (defScope s_law) s.heap.objs.size f cdv)
    refine ⟨_, (pss_cons (ps_set (i := 1) sc_law.nd rfl (by first | exact Or.inl rfl | exact Or.inr rfl) (pe_slice sl_list (pe_op op_cat (pe_slice sl_list (pv 0) po_none (po_some pe_int)) (pe_lst (pa_cons pe_int pa_nil))) po_none (po_some (pe_callB (call_max2 rfl) (by rfl) T.n_max (by decide +kernel) (pa_cons pe_int (pa_cons (pe_callB (call_min2 rfl) (by rfl) T.n_min (by decide +kernel) (pa_cons pe_int (pa_cons (pe_callB call_len_seq (by rfl) T.n_len (by decide +kernel) (pa_cons (pv 0) pa_nil)) pa_nil))) pa_nil))))))
    (pss_cons (ps_for PassesOwn.never rfl (pi_enum (by rfl) T.n_enumerate (pa_cons (pv 1) pa_nil)) (pg_tup rfl (pgs_cons (pg_name (i := 2) sc_law.nd rfl (by first | exact Or.inl rfl | exact Or.inr rfl)) (pgs_cons (pg_name (i := 3) sc_law.nd rfl (by first | exact Or.inl rfl | exact Or.inr rfl)) pgs_nil)))
      (pss_one (ps_if (pt_not (pt_val (pe_callH G_law_holds (hr.mono (by omega)) (by rfl) (pa_cons (pe_callH G_law_stream (hr.mono (by omega)) (by rfl) (pa_cons (pv 3) (pa_cons (pv 2) pa_nil))) (pa_cons (pe_ix ix_list (pe_lst (pa_cons pe_int (pa_cons pe_int pa_nil))) (pe_callTy call_int1 (by rfl) T.n_int (by decide +kernel) (pa_cons (pe_cmpR op_gt (pv 2) pe_int (nomark _)) pa_nil)) (fun _ _ => rfl)) pa_nil))))) (pss_one (ps_ret pe_bl)) pss_nil)))
    (pss_one (ps_ret pe_bl)))), ?_⟩
    refine ⟨_, rfl, 4, rfl, a, _, rfl, hS, fun c nc => ?_⟩
    have sc := same_upd (o := .lst (cutV (ns.map V.int) none (some 4))) nc
    refine ⟨(by show 1 ≤ sizeLine; decide), fun z nz => ?_⟩
    have sz := same_upd (o := .lst [.int 0]) nz
    have l1 := cutV_length (ns.map V.int) none (some 4)
    rw [List.length_map] at l1
    refine ⟨c, z, _, _, rfl, rfl, sz _ _ upd_same, upd_same, small (by omega), fun p np => ?_⟩
    have sp := same_upd (o := .lst (cutV (ns.map V.int) none (some 4) ++ [.int 0])) np
    refine ⟨_, rfl, a, _, rfl, .inl ((sc.trans (sz.trans sp)).seq hS), _, _, rfl, _, _, rfl, _, rfl, p, _, rfl, .of upd_same, fun d nd => ?_⟩
    generalize hcs : cutV (cutV (ns.map V.int) none (some 4) ++ [.int 0]) none (some _) = cs at *
    have len : cs.length ≤ 64 := by
      rw [← hcs]
      refine Nat.le_trans (cutV_length _ _ _) ?_
      rw [List.length_append, List.length_singleton]
      omega
    have itg : ∀ x ∈ cs, ∃ n, x = V.int n := by
      intro x hx
      rw [← hcs] at hx
      have := cut_mem hx
      rcases List.mem_append.mp this with h | h
      · obtain ⟨n, _, e⟩ := List.mem_map.mp (cut_mem h)
        exact ⟨n, e.symm⟩
      · exact ⟨0, List.mem_singleton.mp h⟩
    clear hcs
    refine ⟨_, rfl, d, cs, rfl, .of upd_same, for_it (walk_enum (xs := cs)) (fun i σ H' => ∃ y2 y3, σ = [some (.ref a), some (.ref d), y2, y3] ∧ H' d = some (.lst cs)) ⟨_, _, rfl, upd_same⟩ (fun i σ H' _ hP => ?_) (fun i x σ H1 H2 hi hP y => ?_) (fun σ H1 hP => ?_)⟩
    · obtain ⟨_, _, _, hd⟩ := hP
      exact .of hd
    · obtain ⟨y2, y3, rfl, hd⟩ := hP
      obtain ⟨t, x1, x2, rfl, nt, rfl, g1, g2⟩ := y
      cases g1
      have g2 : cs[i]? = some x2 := g2
      obtain ⟨c0, rfl⟩ := itg x2 (List.mem_of_getElem? g2)
      have st := same_upd (o := .tup [.int (i : Nat), .int c0]) nt
      refine ⟨t, _, rfl, .of upd_same, rfl, _, _, rfl, _, _, rfl, rfl, ?_⟩
      refine ⟨_, rfl, _, rfl, c0, i, rfl, by omega, fun H3 p3 s3 n3 z3 => ⟨(by show 2 ≤ sizeLine; decide), fun l nl => ?_⟩⟩
      have sl := same_upd (o := .lst [.int 25, .int 10]) nl
      have hl := upd_same (H := H3) (a := l) (o := .lst [.int 25, .int 10])
      generalize upd H3 l (.lst [.int 25, .int 10]) = H4 at *
      have fin : ∀ H', But p3 H4 H' → H' d = some (.lst cs) := fun H' b => b _ _ (ne_of_none (st _ _ hd) n3) (sl _ _ (s3 _ _ (st _ _ hd)))
      refine ⟨_, rfl, _, _, rfl, rfl, .inr ⟨_, rfl, l, _, _, _, rfl, rfl, .of hl, (show _ = some (V.int (((if (0 : Int) < (i : Nat) then 10 else 25 : Nat)) : Int)) from ?_), p3, _, rfl, z3.same sl, ?_, ?_, fun H5 b5 => ⟨_, rfl, iteN rfl ?_⟩⟩⟩
      · by_cases c : (0 : Int) < (i : Nat)
        · rw [if_pos c]
          show atI _ (if decide ((0 : Int) < (i : Nat)) = true then 1 else 0) = _
          rw [if_pos (decide_eq_true c)]
          rfl
        · rw [if_neg c]
          show atI _ (if decide ((0 : Int) < (i : Nat)) = true then 1 else 0) = _
          rw [if_neg (by rw [decide_eq_false c]; decide)]
          rfl
      · split <;> decide
      · split <;> decide
      · exact ⟨_, _, rfl, fin _ b5⟩
    · obtain ⟨y2, y3, rfl, hd⟩ := hP
      exact q _
end
end UP

set_option Elab.async false
set_option linter.all false
set_option maxRecDepth 100000
set_option maxHeartbeats 4000000
namespace UP
open PySem PySem.Spec PyProof.Rows L2
section
variable {K : PySem.W.Frag} {h : Heap} {mg : Str → Option Value}
theorem df_mk {x : Str} {st : Stmt} {f : Addr} {od an : Option Addr} {sl : Array (Option Value)} {oc kV dc pm cd ct : Value} (X : K.In h) (G : h.Ns mainGlobals mg) (a : PySem.W.nsIn K mainGlobals x = some (some (.ref f)))
    (l : K.lookup f = some ⟨oc, od, .func (PySem.W.fnOf x x (defArgs st) (defBody st) (defScope st) .none kV dc pm an cd ct), sl⟩) (c : PySem.W.codeIn K cd x = true) (k : PySem.W.keepIn K (.ref f) = true) : Df K mg x st :=
  ⟨f, _, PySem.W.mg_of X G a, fun_mk l c k⟩
theorem dfd_mk {x : Str} {st : Stmt} {f T : Addr} {od an od2 : Option Addr} {sl sl2 : Array (Option Value)} {n2 : Nat} {oc kV dc pm cd ct oc2 : Value} (X : K.In h) (G : h.Ns mainGlobals mg) (a : PySem.W.nsIn K mainGlobals x = some (some (.ref f)))
    (l : K.lookup f = some ⟨oc, od, .func (PySem.W.fnOf x x (defArgs st) (defBody st) (defScope st) (.ref T) kV dc pm an cd ct), sl⟩) (t : K.lookup T = some ⟨oc2, od2, .seq #[.none] n2, sl2⟩) (c : PySem.W.codeIn K cd x = true) (k : PySem.W.keepIn K (.ref f) = true) : DfD K mg x st [.non] :=
  ⟨f, _, PySem.W.mg_of X G a, ⟨⟨oc, od, _, kV, dc, pm, an, cd, ct, sl, rfl, l, c, .inr ⟨(by intro z; cases z), T, _, [.none], n2, rfl, t, rfl, .cons rfl .nil⟩, .inl rfl⟩, k⟩⟩
theorem cst_mk {x : Str} {i : Int} {t : Tok} (X : K.In h) (G : h.Ns mainGlobals mg) (a : PySem.W.nsIn K mainGlobals x = some (some (.int i t))) : ∃ t, mg x = some (.int i t) := ⟨t, PySem.W.mg_of X G a⟩
def StaF (K : PySem.W.Frag) (mg : Str → Option Value) : Prop := ∃ C, ClsT K mg C ∧ CmpC K C ∧ DfI K C "Station.__init__" s_Station___init__ ∧ DfM K C "current_state" "Station.current_state" s_Station_current_state ∧ DfM K C "waiting_positions" "Station.waiting_positions" s_Station_waiting_positions ∧ DfM K C "arrival_count" "Station.arrival_count" s_Station_arrival_count ∧ DfM K C "pair_total" "Station.pair_total" s_Station_pair_total ∧ DfM K C "give_up_count" "Station.give_up_count" s_Station_give_up_count ∧ DfM K C "partner_at" "Station.partner_at" s_Station_partner_at ∧ DfM K C "remember" "Station.remember" s_Station_remember ∧ DfMD K C "arrive" "Station.arrive" s_Station_arrive (.int 1) ∧ DfMD K C "give_up" "Station.give_up" s_Station_give_up (.int 1) ∧ DfM K C "undo" "Station.undo" s_Station_undo ∧ DfM K C "duplicate" "Station.duplicate" s_Station_duplicate ∧ DfM K C "operations_done" "Station.operations_done" s_Station_operations_done ∧ DfM K C "__eq__" "Station.__eq__" s_Station___eq__ ∧ DfM K C "__len__" "Station.__len__" s_Station___len__
theorem kit_not {K : PySem.W.Frag} {C : Addr} {T : String} (h1 : PySem.W.hasDictIn K C = true) (h2 : PySem.W.typeIn K (.ref C) = some (.type "type")) (h3 : PySem.W.notFirst K C (.type T) = true) : PySem.W.kitOne K (.type T) (.ref C) = some false := by
  have ne : (Value.type T == Value.ref C) = false := by simp
  obtain ⟨cd, hc, _⟩ := PySem.W.any_some (show (PySem.W.clsIn K C).any _ = true from h1)
  unfold PySem.W.kitOne
  rw [if_neg (by rw [ne]; decide)]
  show (if ((PySem.W.clsIn K C).isSome && PySem.W.typeIn K (.ref C) == some (.type "type")) = true then PySem.W.subIn K (.type T) (.ref C) else none) = some false
  rw [if_pos (by rw [hc, h2]; simp)]
  unfold PySem.W.notFirst at h3
  rw [ne, Bool.false_or] at h3
  exact beq_iff_eq.mp h3
theorem sta_mk {C : Addr} {f0 : Addr} {od0 an0 : Option Addr} {sl0 : Array (Option Value)} {oc0 kV0 dc0 pm0 cd0 ct0 : Value} {f1 : Addr} {od1 an1 : Option Addr} {sl1 : Array (Option Value)} {oc1 kV1 dc1 pm1 cd1 ct1 : Value} {f2 : Addr} {od2 an2 : Option Addr} {sl2 : Array (Option Value)} {oc2 kV2 dc2 pm2 cd2 ct2 : Value} {f3 : Addr} {od3 an3 : Option Addr} {sl3 : Array (Option Value)} {oc3 kV3 dc3 pm3 cd3 ct3 : Value} {f4 : Addr} {od4 an4 : Option Addr} {sl4 : Array (Option Value)} {oc4 kV4 dc4 pm4 cd4 ct4 : Value} {f5 : Addr} {od5 an5 : Option Addr} {sl5 : Array (Option Value)} {oc5 kV5 dc5 pm5 cd5 ct5 : Value} {f6 : Addr} {od6 an6 : Option Addr} {sl6 : Array (Option Value)} {oc6 kV6 dc6 pm6 cd6 ct6 : Value} {f7 : Addr} {od7 an7 : Option Addr} {sl7 : Array (Option Value)} {oc7 kV7 dc7 pm7 cd7 ct7 : Value} {f8 : Addr} {od8 an8 : Option Addr} {sl8 : Array (Option Value)} {oc8 kV8 dc8 pm8 cd8 ct8 : Value} {T8 : Addr} {oe8 : Option Addr} {sm8 : Array (Option Value)} {n8 : Nat} {ob8 : Value} {tk8 : Tok} {f9 : Addr} {od9 an9 : Option Addr} {sl9 : Array (Option Value)} {oc9 kV9 dc9 pm9 cd9 ct9 : Value} {T9 : Addr} {oe9 : Option Addr} {sm9 : Array (Option Value)} {n9 : Nat} {ob9 : Value} {tk9 : Tok} {f10 : Addr} {od10 an10 : Option Addr} {sl10 : Array (Option Value)} {oc10 kV10 dc10 pm10 cd10 ct10 : Value} {f11 : Addr} {od11 an11 : Option Addr} {sl11 : Array (Option Value)} {oc11 kV11 dc11 pm11 cd11 ct11 : Value} {f12 : Addr} {od12 an12 : Option Addr} {sl12 : Array (Option Value)} {oc12 kV12 dc12 pm12 cd12 ct12 : Value} {f13 : Addr} {od13 an13 : Option Addr} {sl13 : Array (Option Value)} {oc13 kV13 dc13 pm13 cd13 ct13 : Value} {f14 : Addr} {od14 an14 : Option Addr} {sl14 : Array (Option Value)} {oc14 kV14 dc14 pm14 cd14 ct14 : Value} (X : K.In h) (G : h.Ns mainGlobals mg) (aC : PySem.W.nsIn K mainGlobals "Station" = some (some (.ref C)))
    (pg : PySem.W.plainGet K C Str.empty = true) (hd : PySem.W.hasDictIn K C = true) (po : PySem.W.plainOver K C = true) (sa : PySem.W.findIn K (.ref C) "__setattr__" = some (some (.builtin "object.__setattr__"))) (mk : PySem.W.makesIn K C = true) (kc : PySem.W.keepIn K (.ref C) = true)
    (z0 : PySem.W.findIn K (.ref C) "state" = some none)
    (z1 : PySem.W.findIn K (.ref C) "ranges" = some none)
    (z2 : PySem.W.findIn K (.ref C) "arrived" = some none)
    (z3 : PySem.W.findIn K (.ref C) "paired" = some none)
    (z4 : PySem.W.findIn K (.ref C) "blocks" = some none)
    (z5 : PySem.W.findIn K (.ref C) "past" = some none)
    (wca : PySem.W.findIn K (.ref C) "__class__" = some (some (.builtin "object.__class__")))
    (wcn : PySem.W.specialIn K (.builtin "object.__class__") "__get__" = some (some (.builtin "getset_descriptor.__get__")))
    (wct : PySem.W.takesIn K (.builtin "object.__class__") = some true)
    (wcm : PySem.W.mroIn K C (.type "object") = some true)
    (wne : PySem.W.findIn K (.ref C) "__ne__" = some (some (.builtin "object.__ne__")))
    (wty : PySem.W.typeIn K (.ref C) = some (.type "type"))
    (wfi : PySem.W.notFirst K C (.type "int") = true)
    (wfb : PySem.W.notFirst K C (.type "bool") = true)
    (wfs : PySem.W.notFirst K C (.type "str") = true)
    (wfl : PySem.W.notFirst K C (.type "list") = true)
    (wft : PySem.W.notFirst K C (.type "tuple") = true)
    (wfn : PySem.W.notFirst K C (.type "NoneType") = true)
    (a0 : PySem.W.findIn K (.ref C) "__init__" = some (some (.ref f0))) (i0 : PySem.W.isFn K (.ref f0) = true) (l0 : K.lookup f0 = some ⟨oc0, od0, .func (PySem.W.fnOf "__init__" "Station.__init__" (defArgs s_Station___init__) (defBody s_Station___init__) (defScope s_Station___init__) .none kV0 dc0 pm0 an0 cd0 ct0), sl0⟩) (c0 : PySem.W.codeIn K cd0 "Station.__init__" = true) (k0 : PySem.W.keepIn K (.ref f0) = true)
    (a1 : PySem.W.findIn K (.ref C) "current_state" = some (some (.ref f1))) (i1 : PySem.W.isFn K (.ref f1) = true) (l1 : K.lookup f1 = some ⟨oc1, od1, .func (PySem.W.fnOf "current_state" "Station.current_state" (defArgs s_Station_current_state) (defBody s_Station_current_state) (defScope s_Station_current_state) .none kV1 dc1 pm1 an1 cd1 ct1), sl1⟩) (c1 : PySem.W.codeIn K cd1 "Station.current_state" = true) (k1 : PySem.W.keepIn K (.ref f1) = true)
    (a2 : PySem.W.findIn K (.ref C) "waiting_positions" = some (some (.ref f2))) (i2 : PySem.W.isFn K (.ref f2) = true) (l2 : K.lookup f2 = some ⟨oc2, od2, .func (PySem.W.fnOf "waiting_positions" "Station.waiting_positions" (defArgs s_Station_waiting_positions) (defBody s_Station_waiting_positions) (defScope s_Station_waiting_positions) .none kV2 dc2 pm2 an2 cd2 ct2), sl2⟩) (c2 : PySem.W.codeIn K cd2 "Station.waiting_positions" = true) (k2 : PySem.W.keepIn K (.ref f2) = true)
    (a3 : PySem.W.findIn K (.ref C) "arrival_count" = some (some (.ref f3))) (i3 : PySem.W.isFn K (.ref f3) = true) (l3 : K.lookup f3 = some ⟨oc3, od3, .func (PySem.W.fnOf "arrival_count" "Station.arrival_count" (defArgs s_Station_arrival_count) (defBody s_Station_arrival_count) (defScope s_Station_arrival_count) .none kV3 dc3 pm3 an3 cd3 ct3), sl3⟩) (c3 : PySem.W.codeIn K cd3 "Station.arrival_count" = true) (k3 : PySem.W.keepIn K (.ref f3) = true)
    (a4 : PySem.W.findIn K (.ref C) "pair_total" = some (some (.ref f4))) (i4 : PySem.W.isFn K (.ref f4) = true) (l4 : K.lookup f4 = some ⟨oc4, od4, .func (PySem.W.fnOf "pair_total" "Station.pair_total" (defArgs s_Station_pair_total) (defBody s_Station_pair_total) (defScope s_Station_pair_total) .none kV4 dc4 pm4 an4 cd4 ct4), sl4⟩) (c4 : PySem.W.codeIn K cd4 "Station.pair_total" = true) (k4 : PySem.W.keepIn K (.ref f4) = true)
    (a5 : PySem.W.findIn K (.ref C) "give_up_count" = some (some (.ref f5))) (i5 : PySem.W.isFn K (.ref f5) = true) (l5 : K.lookup f5 = some ⟨oc5, od5, .func (PySem.W.fnOf "give_up_count" "Station.give_up_count" (defArgs s_Station_give_up_count) (defBody s_Station_give_up_count) (defScope s_Station_give_up_count) .none kV5 dc5 pm5 an5 cd5 ct5), sl5⟩) (c5 : PySem.W.codeIn K cd5 "Station.give_up_count" = true) (k5 : PySem.W.keepIn K (.ref f5) = true)
    (a6 : PySem.W.findIn K (.ref C) "partner_at" = some (some (.ref f6))) (i6 : PySem.W.isFn K (.ref f6) = true) (l6 : K.lookup f6 = some ⟨oc6, od6, .func (PySem.W.fnOf "partner_at" "Station.partner_at" (defArgs s_Station_partner_at) (defBody s_Station_partner_at) (defScope s_Station_partner_at) .none kV6 dc6 pm6 an6 cd6 ct6), sl6⟩) (c6 : PySem.W.codeIn K cd6 "Station.partner_at" = true) (k6 : PySem.W.keepIn K (.ref f6) = true)
    (a7 : PySem.W.findIn K (.ref C) "remember" = some (some (.ref f7))) (i7 : PySem.W.isFn K (.ref f7) = true) (l7 : K.lookup f7 = some ⟨oc7, od7, .func (PySem.W.fnOf "remember" "Station.remember" (defArgs s_Station_remember) (defBody s_Station_remember) (defScope s_Station_remember) .none kV7 dc7 pm7 an7 cd7 ct7), sl7⟩) (c7 : PySem.W.codeIn K cd7 "Station.remember" = true) (k7 : PySem.W.keepIn K (.ref f7) = true)
    (a8 : PySem.W.findIn K (.ref C) "arrive" = some (some (.ref f8))) (i8 : PySem.W.isFn K (.ref f8) = true) (l8 : K.lookup f8 = some ⟨oc8, od8, .func (PySem.W.fnOf "arrive" "Station.arrive" (defArgs s_Station_arrive) (defBody s_Station_arrive) (defScope s_Station_arrive) (.ref T8) kV8 dc8 pm8 an8 cd8 ct8), sl8⟩) (c8 : PySem.W.codeIn K cd8 "Station.arrive" = true) (k8 : PySem.W.keepIn K (.ref f8) = true)
    (t8 : K.lookup T8 = some ⟨ob8, oe8, .seq #[.int 1 tk8] n8, sm8⟩)
    (a9 : PySem.W.findIn K (.ref C) "give_up" = some (some (.ref f9))) (i9 : PySem.W.isFn K (.ref f9) = true) (l9 : K.lookup f9 = some ⟨oc9, od9, .func (PySem.W.fnOf "give_up" "Station.give_up" (defArgs s_Station_give_up) (defBody s_Station_give_up) (defScope s_Station_give_up) (.ref T9) kV9 dc9 pm9 an9 cd9 ct9), sl9⟩) (c9 : PySem.W.codeIn K cd9 "Station.give_up" = true) (k9 : PySem.W.keepIn K (.ref f9) = true)
    (t9 : K.lookup T9 = some ⟨ob9, oe9, .seq #[.int 1 tk9] n9, sm9⟩)
    (a10 : PySem.W.findIn K (.ref C) "undo" = some (some (.ref f10))) (i10 : PySem.W.isFn K (.ref f10) = true) (l10 : K.lookup f10 = some ⟨oc10, od10, .func (PySem.W.fnOf "undo" "Station.undo" (defArgs s_Station_undo) (defBody s_Station_undo) (defScope s_Station_undo) .none kV10 dc10 pm10 an10 cd10 ct10), sl10⟩) (c10 : PySem.W.codeIn K cd10 "Station.undo" = true) (k10 : PySem.W.keepIn K (.ref f10) = true)
    (a11 : PySem.W.findIn K (.ref C) "duplicate" = some (some (.ref f11))) (i11 : PySem.W.isFn K (.ref f11) = true) (l11 : K.lookup f11 = some ⟨oc11, od11, .func (PySem.W.fnOf "duplicate" "Station.duplicate" (defArgs s_Station_duplicate) (defBody s_Station_duplicate) (defScope s_Station_duplicate) .none kV11 dc11 pm11 an11 cd11 ct11), sl11⟩) (c11 : PySem.W.codeIn K cd11 "Station.duplicate" = true) (k11 : PySem.W.keepIn K (.ref f11) = true)
    (a12 : PySem.W.findIn K (.ref C) "operations_done" = some (some (.ref f12))) (i12 : PySem.W.isFn K (.ref f12) = true) (l12 : K.lookup f12 = some ⟨oc12, od12, .func (PySem.W.fnOf "operations_done" "Station.operations_done" (defArgs s_Station_operations_done) (defBody s_Station_operations_done) (defScope s_Station_operations_done) .none kV12 dc12 pm12 an12 cd12 ct12), sl12⟩) (c12 : PySem.W.codeIn K cd12 "Station.operations_done" = true) (k12 : PySem.W.keepIn K (.ref f12) = true)
    (a13 : PySem.W.findIn K (.ref C) "__eq__" = some (some (.ref f13))) (i13 : PySem.W.isFn K (.ref f13) = true) (l13 : K.lookup f13 = some ⟨oc13, od13, .func (PySem.W.fnOf "__eq__" "Station.__eq__" (defArgs s_Station___eq__) (defBody s_Station___eq__) (defScope s_Station___eq__) .none kV13 dc13 pm13 an13 cd13 ct13), sl13⟩) (c13 : PySem.W.codeIn K cd13 "Station.__eq__" = true) (k13 : PySem.W.keepIn K (.ref f13) = true)
    (a14 : PySem.W.findIn K (.ref C) "__len__" = some (some (.ref f14))) (i14 : PySem.W.isFn K (.ref f14) = true) (l14 : K.lookup f14 = some ⟨oc14, od14, .func (PySem.W.fnOf "__len__" "Station.__len__" (defArgs s_Station___len__) (defBody s_Station___len__) (defScope s_Station___len__) .none kV14 dc14 pm14 an14 cd14 ct14), sl14⟩) (c14 : PySem.W.codeIn K cd14 "Station.__len__" = true) (k14 : PySem.W.keepIn K (.ref f14) = true) : StaF K mg :=
  ⟨C, ⟨⟨pg, hd, po, sa⟩, z0, z1, z2, z3, z4, z5, PySem.W.mg_of X G aC⟩, ⟨wca, wcn, wct, wcm, wne, kit_not hd wty wfi, kit_not hd wty wfb, kit_not hd wty wfs, kit_not hd wty wfl, kit_not hd wty wft, kit_not hd wty wfn, wfi, wfb, wfs, wfl, wft, wfn⟩, ⟨f0, _, ⟨mk, a0, i0, kc⟩, fun_mk l0 c0 k0⟩, ⟨f1, _, ⟨a1, i1, k1⟩, fun_mk l1 c1 k1⟩, ⟨f2, _, ⟨a2, i2, k2⟩, fun_mk l2 c2 k2⟩, ⟨f3, _, ⟨a3, i3, k3⟩, fun_mk l3 c3 k3⟩, ⟨f4, _, ⟨a4, i4, k4⟩, fun_mk l4 c4 k4⟩, ⟨f5, _, ⟨a5, i5, k5⟩, fun_mk l5 c5 k5⟩, ⟨f6, _, ⟨a6, i6, k6⟩, fun_mk l6 c6 k6⟩, ⟨f7, _, ⟨a7, i7, k7⟩, fun_mk l7 c7 k7⟩, ⟨f8, _, ⟨a8, i8, k8⟩, ⟨⟨oc8, od8, _, kV8, dc8, pm8, an8, cd8, ct8, sl8, rfl, l8, c8, .inr ⟨(by intro z; cases z), T8, _, [.int 1 tk8], n8, rfl, t8, rfl, .cons ⟨tk8, rfl⟩ .nil⟩, .inl rfl⟩, k8⟩⟩, ⟨f9, _, ⟨a9, i9, k9⟩, ⟨⟨oc9, od9, _, kV9, dc9, pm9, an9, cd9, ct9, sl9, rfl, l9, c9, .inr ⟨(by intro z; cases z), T9, _, [.int 1 tk9], n9, rfl, t9, rfl, .cons ⟨tk9, rfl⟩ .nil⟩, .inl rfl⟩, k9⟩⟩, ⟨f10, _, ⟨a10, i10, k10⟩, fun_mk l10 c10 k10⟩, ⟨f11, _, ⟨a11, i11, k11⟩, fun_mk l11 c11 k11⟩, ⟨f12, _, ⟨a12, i12, k12⟩, fun_mk l12 c12 k12⟩, ⟨f13, _, ⟨a13, i13, k13⟩, fun_mk l13 c13 k13⟩, ⟨f14, _, ⟨a14, i14, k14⟩, fun_mk l14 c14 k14⟩⟩
theorem ex_mk {x : Str} {D : Addr} (X : K.In h) (G : h.Ns mainGlobals mg) (a : PySem.W.nsIn K mainGlobals x = some (some (.ref D))) (c : PySem.W.excIn K D [.type "ValueError", .type "Exception", .type "BaseException", .type "object"] "ValueError.__new__" = true) (k : PySem.W.keepIn K (.ref D) = true) (bs : PySem.W.subIn K (.ref D) (.type "BaseException") = some true) (t : PySem.W.typeIn K (.ref D) = some (.type "type")) (m : PySem.W.exmOne K (.ref D) (.ref D) = some true) : ∃ C, Ex K mg x C := ⟨D, PySem.W.mg_of X G a, c, k, bs, t, m⟩
end
/-- all that the top has written -/
structure Top (K : PySem.W.Frag) (mg : Str → Option Value) : Prop where
  T : Tx mg
  d_is_whole : Df K mg "is_whole" s_is_whole
  d_is_within : Df K mg "is_within" s_is_within
  d_is_listed : Df K mg "is_listed" s_is_listed
  d_is_couple : Df K mg "is_couple" s_is_couple
  d_is_kind : Df K mg "is_kind" s_is_kind
  d_is_run : Df K mg "is_run" s_is_run
  d_is_sequence : Df K mg "is_sequence" s_is_sequence
  d_is_state : Df K mg "is_state" s_is_state
  d_checked_runs : Df K mg "checked_runs" s_checked_runs
  d_check_kind : Df K mg "check_kind" s_check_kind
  d_check_position : Df K mg "check_position" s_check_position
  d_checked_state : Df K mg "checked_state" s_checked_state
  d_length_of : Df K mg "length_of" s_length_of
  d_cut : Df K mg "cut" s_cut
  d_waiting_number : Df K mg "waiting_number" s_waiting_number
  d_state_with : Df K mg "state_with" s_state_with
  d_leaving_number : Df K mg "leaving_number" s_leaving_number
  d_state_after_run : Df K mg "state_after_run" s_state_after_run
  d_state_after_runs : Df K mg "state_after_runs" s_state_after_runs
  d_check_moment : Df K mg "check_moment" s_check_moment
  d_add_range : Df K mg "add_range" s_add_range
  d_only_first : Df K mg "only_first" s_only_first
  d_without_first : Df K mg "without_first" s_without_first
  d_ranges_after_run : Df K mg "ranges_after_run" s_ranges_after_run
  d_state_after : DfD K mg "state_after" s_state_after [.non]
  d_waiting_at : Df K mg "waiting_at" s_waiting_at
  d_blocks_of_run : Df K mg "blocks_of_run" s_blocks_of_run
  d_add_block : Df K mg "add_block" s_add_block
  d_blocks_of : Df K mg "blocks_of" s_blocks_of
  d_partner_in : Df K mg "partner_in" s_partner_in
  d_partner_of : Df K mg "partner_of" s_partner_of
  d_pair_count : DfD K mg "pair_count" s_pair_count [.non]
  d_law_stream : Df K mg "_law_stream" s_law_stream
  d_law_draw : Df K mg "_law_draw" s_law_draw
  d_law_length : Df K mg "_law_length" s_law_length
  d_law_runs : Df K mg "_law_runs" s_law_runs
  d_law_agrees : Df K mg "_law_agrees" s_law_agrees
  d_law_refused : Df K mg "_law_refused" s_law_refused
  d_law_step : Df K mg "_law_step" s_law_step
  d_law_positions : Df K mg "_law_positions" s_law_positions
  d_law_gives_up : Df K mg "_law_gives_up" s_law_gives_up
  d_law_holds : Df K mg "_law_holds" s_law_holds
  sta : StaF K mg
  x_NothingToUndo : ∃ C, Ex K mg "NothingToUndo" C
theorem Top.law {P : Program} {w : World} {K : PySem.W.Frag} {mg : Str → Option Value} (Y : Top K mg) {f : Addr} {fd : FuncData} (F : Fun K "law" "law" s_law f fd) (base : Heap) : FnC P w K mg base f fd ["script"] (sp_law K) := by
  have T := Y.T
  obtain ⟨C, TS, cc, D___init__, D_current_state, D_waiting_positions, D_arrival_count, D_pair_total, D_give_up_count, D_partner_at, D_remember, D_arrive, D_give_up, D_undo, D_duplicate, D_operations_done, D___eq__, D___len__⟩ := Y.sta
  obtain ⟨CX_NothingToUndo, X_NothingToUndo⟩ := Y.x_NothingToUndo
  have g_is_whole := ok_is_whole (P := P) (w := w) (base := base) Y.d_is_whole T
  have g_is_within := ok_is_within (P := P) (w := w) (base := base) Y.d_is_within g_is_whole
  have g_is_listed := ok_is_listed (P := P) (w := w) (base := base) Y.d_is_listed T
  have g_is_couple := ok_is_couple (P := P) (w := w) (base := base) Y.d_is_couple T
  have g_is_kind := ok_is_kind (P := P) (w := w) (base := base) Y.d_is_kind T
  have g_is_run := ok_is_run (P := P) (w := w) (base := base) Y.d_is_run T g_is_couple g_is_kind g_is_within
  have g_is_state := ok_is_state (P := P) (w := w) (base := base) Y.d_is_state T g_is_couple g_is_kind g_is_whole
  have g_is_sequence := ok_is_sequence (P := P) (w := w) (base := base) Y.d_is_sequence T g_is_listed g_is_run
  have g_checked_runs := ok_checked_runs (P := P) (w := w) (base := base) Y.d_checked_runs T g_is_sequence
  have g_checked_state := ok_checked_state (P := P) (w := w) (base := base) Y.d_checked_state T g_is_state
  have g_length_of := ok_length_of (P := P) (w := w) (base := base) Y.d_length_of T
  have g_cut := ok_cut (P := P) (w := w) (base := base) Y.d_cut T
  have g_waiting_number := ok_waiting_number (P := P) (w := w) (base := base) Y.d_waiting_number
  have g_leaving_number := ok_leaving_number (P := P) (w := w) (base := base) Y.d_leaving_number T
  have g_state_with := ok_state_with (P := P) (w := w) (base := base) Y.d_state_with
  have g_state_after_run := ok_state_after_run (P := P) (w := w) (base := base) Y.d_state_after_run g_waiting_number g_state_with
  have g_state_after_runs := ok_state_after_runs (P := P) (w := w) (base := base) Y.d_state_after_runs g_state_after_run
  have g_check_moment := ok_check_moment (P := P) (w := w) (base := base) Y.d_check_moment g_is_within g_length_of
  have g_check_position := ok_check_position (P := P) (w := w) (base := base) Y.d_check_position g_is_within g_length_of
  have g_state_after := ok_state_after (P := P) (w := w) (base := base) Y.d_state_after g_checked_runs g_checked_state g_state_after_runs
  have g_without_first := ok_without_first (P := P) (w := w) (base := base) Y.d_without_first T
  have g_add_range := ok_add_range (P := P) (w := w) (base := base) Y.d_add_range
  have g_ranges_after_run := ok_ranges_after_run (P := P) (w := w) (base := base) Y.d_ranges_after_run g_without_first g_add_range
  have g_waiting_at := ok_waiting_at (P := P) (w := w) (base := base) Y.d_waiting_at g_checked_runs g_check_moment g_cut g_leaving_number g_ranges_after_run g_state_after_run
  have g_blocks_of_run := ok_blocks_of_run (P := P) (w := w) (base := base) Y.d_blocks_of_run T
  have g_add_block := ok_add_block (P := P) (w := w) (base := base) Y.d_add_block
  have g_blocks_of := ok_blocks_of (P := P) (w := w) (base := base) Y.d_blocks_of g_leaving_number g_blocks_of_run g_add_block g_ranges_after_run g_state_after_run
  have g_partner_in := ok_partner_in (P := P) (w := w) (base := base) Y.d_partner_in
  have g_partner_of := ok_partner_of (P := P) (w := w) (base := base) Y.d_partner_of g_checked_runs g_check_position g_blocks_of g_partner_in
  have g_pair_count := ok_pair_count (P := P) (w := w) (base := base) Y.d_pair_count g_checked_runs g_length_of g_check_moment g_cut g_state_after_runs g_waiting_number
  have g_law_stream := ok_law_stream (P := P) (w := w) (base := base) Y.d_law_stream T
  have g_law_draw := ok_law_draw (P := P) (w := w) (base := base) Y.d_law_draw T
  have g_law_length := ok_law_length (P := P) (w := w) (base := base) Y.d_law_length T
  have g_check_kind := ok_check_kind (P := P) (w := w) (base := base) Y.d_check_kind g_is_kind
  have g_only_first := ok_only_first (P := P) (w := w) (base := base) Y.d_only_first T
  have g_Station___init__ := ok_Station___init__ (P := P) (w := w) (base := base) D___init__ TS
  have g_Station_current_state := ok_Station_current_state (P := P) (w := w) (base := base) D_current_state TS
  have g_Station_waiting_positions := ok_Station_waiting_positions (P := P) (w := w) (base := base) D_waiting_positions T TS
  have g_Station_arrival_count := ok_Station_arrival_count (P := P) (w := w) (base := base) D_arrival_count TS
  have g_Station_pair_total := ok_Station_pair_total (P := P) (w := w) (base := base) D_pair_total TS
  have g_Station_give_up_count := ok_Station_give_up_count (P := P) (w := w) (base := base) D_give_up_count TS g_waiting_number
  have g_Station_partner_at := ok_Station_partner_at (P := P) (w := w) (base := base) D_partner_at TS g_is_within g_partner_in
  have g_Station_remember := ok_Station_remember (P := P) (w := w) (base := base) D_remember TS
  have g_Station_arrive := ok_Station_arrive (P := P) (w := w) (base := base) D_arrive T TS g_check_kind g_is_within g_Station_remember g_leaving_number g_blocks_of_run g_ranges_after_run g_state_after_run
  have g_Station_give_up := ok_Station_give_up (P := P) (w := w) (base := base) D_give_up T TS g_waiting_number g_is_within g_Station_remember g_without_first g_only_first g_state_with
  have g_Station_undo := ok_Station_undo (P := P) (w := w) (base := base) D_undo T TS
  have g_Station_duplicate := ok_Station_duplicate (P := P) (w := w) (base := base) D_duplicate T TS g_Station___init__
  have g_Station_undoX := has_undoX (P := P) (w := w) (base := base) D_undo T TS X_NothingToUndo
  have g_Station_operations_done := ok_Station_operations_done (P := P) (w := w) (base := base) D_operations_done TS
  have g_Station___eq__ := ok_Station___eq__ (P := P) (w := w) (base := base) D___eq__ T TS cc
  have g_law_refused := ok_law_refused (P := P) (w := w) (base := base) Y.d_law_refused TS X_NothingToUndo g_Station_undoX
  have g_law_runs := ok_law_runs (P := P) (w := w) (base := base) Y.d_law_runs
  have g_Station___len__ := ok_Station___len__ (P := P) (w := w) (base := base) D___len__ T TS
  have g_law_agrees := ok_law_agrees (P := P) (w := w) (base := base) Y.d_law_agrees T TS g_law_draw g_law_runs g_law_length g_Station_operations_done g_Station___len__ g_Station_give_up_count g_Station_arrival_count g_Station_current_state g_Station_waiting_positions g_Station_pair_total g_Station_partner_at g_state_after g_waiting_at g_pair_count g_partner_of
  have g_law_step := ok_law_step (P := P) (w := w) (base := base) Y.d_law_step T TS g_law_draw g_law_refused g_Station_pair_total g_Station_arrive g_Station_undo
  have g_law_positions := ok_law_positions (P := P) (w := w) (base := base) Y.d_law_positions T
  have g_law_gives_up := ok_law_gives_up (P := P) (w := w) (base := base) Y.d_law_gives_up T TS g_law_draw g_law_positions g_Station_current_state g_Station_waiting_positions g_Station_give_up_count g_Station_partner_at g_Station_give_up g_Station_undo
  have g_law_holds := ok_law_holds (P := P) (w := w) (base := base) Y.d_law_holds T TS cc g_law_draw g_law_step g_law_agrees g_law_gives_up g_Station___init__ g_Station_duplicate g_Station___eq__ g_Station_arrive
  exact fn_law F T g_law_stream g_law_holds
theorem all_mk {P : Program} {w : World} {K : PySem.W.Frag} {h : Heap} {mg : Str → Option Value} {fa f : Addr} {od an : Option Addr} {sl : Array (Option Value)} {oc kV dc pm cd ct : Value} (X : K.In h) (G : h.Ns mainGlobals mg) (hfa : mg "law" = some (.ref fa)) (a : PySem.W.nsIn K mainGlobals "law" = some (some (.ref f)))
    (l : K.lookup f = some ⟨oc, od, .func (PySem.W.fnOf "law" "law" (defArgs s_law) (defBody s_law) (defScope s_law) .none kV dc pm an cd ct), sl⟩) (c : PySem.W.codeIn K cd "law" = true) (k : PySem.W.keepIn K (.ref f) = true) (Y : Top K mg) :
    ∃ fd : FuncData, (∀ (s : Shared) (v : Value), BindsTo s fd ⟨[v], []⟩ [("script", v)]) ∧ ∀ base : Heap, K.In base → base.Ns mainGlobals mg → FnC P w K mg base fa fd ["script"] (sp_law K) := by
  have e := hfa.symm.trans (PySem.W.mg_of X G a)
  cases e
  exact ⟨_, fun s v => .of_eq rfl, fun base _ _ => Y.law (fun_mk (st := s_law) l c k) base⟩
end UP
open PySem PySem.W PyProof.Rows
set_option maxHeartbeats 0 in
theorem PySem.Challenge.cw_unlikepairs_k65_whole_stations_holds : PySem.Challenge.rw_unlikepairs_k65_whole_stations.Holds := by
  w_on; o_law; k_head; (case hw => w_witness2)
  k_fill
  refine UP.walkC (l := PySem.Challenge.rw_unlikepairs_k65_whole_stations) (n := 63) (x := "script") (sp := fun w => UP.sp_law _) rfl (by decide) rfl (fun w h Y => PySem.W.kIn_of Y) ?F (fun _ _ a ns hl hS => ⟨a, ns, rfl, hS, hl, fun _ => rfl⟩)
  case F =>
    intro w mg fa h KX G hmg
    refine' UP.all_mk KX G hmg ?a ?l ?c ?k ?Y
    (case a => k_is); (case l => k_is); (case c => k_is); (case k => k_is)
    case Y =>
      constructor
      · constructor
        · refine' PySem.W.mg_none_of KX G ?z; (case z => k_is)
        · refine' PySem.W.mg_none_of KX G ?z; (case z => k_is)
        · refine' PySem.W.mg_none_of KX G ?z; (case z => k_is)
        · refine' PySem.W.mg_none_of KX G ?z; (case z => k_is)
        · refine' PySem.W.mg_none_of KX G ?z; (case z => k_is)
        · refine' PySem.W.mg_none_of KX G ?z; (case z => k_is)
        · refine' PySem.W.mg_none_of KX G ?z; (case z => k_is)
        · refine' PySem.W.mg_none_of KX G ?z; (case z => k_is)
        · refine' PySem.W.mg_none_of KX G ?z; (case z => k_is)
        · refine' PySem.W.mg_none_of KX G ?z; (case z => k_is)
        · refine' PySem.W.mg_none_of KX G ?z; (case z => k_is)
        · refine' PySem.W.mg_none_of KX G ?z; (case z => k_is)
        · refine' PySem.W.mg_none_of KX G ?z; (case z => k_is)
        · refine' PySem.W.mg_none_of KX G ?z; (case z => k_is)
        · refine' PySem.W.mg_none_of KX G ?z; (case z => k_is)
        · refine' PySem.W.mg_none_of KX G ?z; (case z => k_is)
        · refine' PySem.W.mg_none_of KX G ?z; (case z => k_is)
        · refine' PySem.W.mg_none_of KX G ?z; (case z => k_is)
        · refine' PySem.W.mg_none_of KX G ?z; (case z => k_is)
        · refine' PySem.W.mg_none_of KX G ?z; (case z => k_is)
        · refine' PySem.W.mg_none_of KX G ?z; (case z => k_is)
        · refine' UP.cst_mk KX G ?z; (case z => k_is)
        · refine' UP.cst_mk KX G ?z; (case z => k_is)
        · refine' UP.cst_mk KX G ?z; (case z => k_is)
      · refine' UP.df_mk KX G ?a ?l ?c ?k; (case a => k_is); (case l => k_is); (case c => k_is); (case k => k_is)
      · refine' UP.df_mk KX G ?a ?l ?c ?k; (case a => k_is); (case l => k_is); (case c => k_is); (case k => k_is)
      · refine' UP.df_mk KX G ?a ?l ?c ?k; (case a => k_is); (case l => k_is); (case c => k_is); (case k => k_is)
      · refine' UP.df_mk KX G ?a ?l ?c ?k; (case a => k_is); (case l => k_is); (case c => k_is); (case k => k_is)
      · refine' UP.df_mk KX G ?a ?l ?c ?k; (case a => k_is); (case l => k_is); (case c => k_is); (case k => k_is)
      · refine' UP.df_mk KX G ?a ?l ?c ?k; (case a => k_is); (case l => k_is); (case c => k_is); (case k => k_is)
      · refine' UP.df_mk KX G ?a ?l ?c ?k; (case a => k_is); (case l => k_is); (case c => k_is); (case k => k_is)
      · refine' UP.df_mk KX G ?a ?l ?c ?k; (case a => k_is); (case l => k_is); (case c => k_is); (case k => k_is)
      · refine' UP.df_mk KX G ?a ?l ?c ?k; (case a => k_is); (case l => k_is); (case c => k_is); (case k => k_is)
      · refine' UP.df_mk KX G ?a ?l ?c ?k; (case a => k_is); (case l => k_is); (case c => k_is); (case k => k_is)
      · refine' UP.df_mk KX G ?a ?l ?c ?k; (case a => k_is); (case l => k_is); (case c => k_is); (case k => k_is)
      · refine' UP.df_mk KX G ?a ?l ?c ?k; (case a => k_is); (case l => k_is); (case c => k_is); (case k => k_is)
      · refine' UP.df_mk KX G ?a ?l ?c ?k; (case a => k_is); (case l => k_is); (case c => k_is); (case k => k_is)
      · refine' UP.df_mk KX G ?a ?l ?c ?k; (case a => k_is); (case l => k_is); (case c => k_is); (case k => k_is)
      · refine' UP.df_mk KX G ?a ?l ?c ?k; (case a => k_is); (case l => k_is); (case c => k_is); (case k => k_is)
      · refine' UP.df_mk KX G ?a ?l ?c ?k; (case a => k_is); (case l => k_is); (case c => k_is); (case k => k_is)
      · refine' UP.df_mk KX G ?a ?l ?c ?k; (case a => k_is); (case l => k_is); (case c => k_is); (case k => k_is)
      · refine' UP.df_mk KX G ?a ?l ?c ?k; (case a => k_is); (case l => k_is); (case c => k_is); (case k => k_is)
      · refine' UP.df_mk KX G ?a ?l ?c ?k; (case a => k_is); (case l => k_is); (case c => k_is); (case k => k_is)
      · refine' UP.df_mk KX G ?a ?l ?c ?k; (case a => k_is); (case l => k_is); (case c => k_is); (case k => k_is)
      · refine' UP.df_mk KX G ?a ?l ?c ?k; (case a => k_is); (case l => k_is); (case c => k_is); (case k => k_is)
      · refine' UP.df_mk KX G ?a ?l ?c ?k; (case a => k_is); (case l => k_is); (case c => k_is); (case k => k_is)
      · refine' UP.df_mk KX G ?a ?l ?c ?k; (case a => k_is); (case l => k_is); (case c => k_is); (case k => k_is)
      · refine' UP.df_mk KX G ?a ?l ?c ?k; (case a => k_is); (case l => k_is); (case c => k_is); (case k => k_is)
      · refine' UP.dfd_mk KX G ?a ?l ?t ?c ?k; (case a => k_is); (case l => k_is); (case t => k_is); (case c => k_is); (case k => k_is)
      · refine' UP.df_mk KX G ?a ?l ?c ?k; (case a => k_is); (case l => k_is); (case c => k_is); (case k => k_is)
      · refine' UP.df_mk KX G ?a ?l ?c ?k; (case a => k_is); (case l => k_is); (case c => k_is); (case k => k_is)
      · refine' UP.df_mk KX G ?a ?l ?c ?k; (case a => k_is); (case l => k_is); (case c => k_is); (case k => k_is)
      · refine' UP.df_mk KX G ?a ?l ?c ?k; (case a => k_is); (case l => k_is); (case c => k_is); (case k => k_is)
      · refine' UP.df_mk KX G ?a ?l ?c ?k; (case a => k_is); (case l => k_is); (case c => k_is); (case k => k_is)
      · refine' UP.df_mk KX G ?a ?l ?c ?k; (case a => k_is); (case l => k_is); (case c => k_is); (case k => k_is)
      · refine' UP.dfd_mk KX G ?a ?l ?t ?c ?k; (case a => k_is); (case l => k_is); (case t => k_is); (case c => k_is); (case k => k_is)
      · refine' UP.df_mk KX G ?a ?l ?c ?k; (case a => k_is); (case l => k_is); (case c => k_is); (case k => k_is)
      · refine' UP.df_mk KX G ?a ?l ?c ?k; (case a => k_is); (case l => k_is); (case c => k_is); (case k => k_is)
      · refine' UP.df_mk KX G ?a ?l ?c ?k; (case a => k_is); (case l => k_is); (case c => k_is); (case k => k_is)
      · refine' UP.df_mk KX G ?a ?l ?c ?k; (case a => k_is); (case l => k_is); (case c => k_is); (case k => k_is)
      · refine' UP.df_mk KX G ?a ?l ?c ?k; (case a => k_is); (case l => k_is); (case c => k_is); (case k => k_is)
      · refine' UP.df_mk KX G ?a ?l ?c ?k; (case a => k_is); (case l => k_is); (case c => k_is); (case k => k_is)
      · refine' UP.df_mk KX G ?a ?l ?c ?k; (case a => k_is); (case l => k_is); (case c => k_is); (case k => k_is)
      · refine' UP.df_mk KX G ?a ?l ?c ?k; (case a => k_is); (case l => k_is); (case c => k_is); (case k => k_is)
      · refine' UP.df_mk KX G ?a ?l ?c ?k; (case a => k_is); (case l => k_is); (case c => k_is); (case k => k_is)
      · refine' UP.df_mk KX G ?a ?l ?c ?k; (case a => k_is); (case l => k_is); (case c => k_is); (case k => k_is)
      · refine' UP.sta_mk KX G ?aC ?pg ?hd ?po ?sa ?mk ?kc ?z0 ?z1 ?z2 ?z3 ?z4 ?z5 ?wca ?wcn ?wct ?wcm ?wne ?wty ?wfi ?wfb ?wfs ?wfl ?wft ?wfn ?a0 ?i0 ?l0 ?c0 ?k0 ?a1 ?i1 ?l1 ?c1 ?k1 ?a2 ?i2 ?l2 ?c2 ?k2 ?a3 ?i3 ?l3 ?c3 ?k3 ?a4 ?i4 ?l4 ?c4 ?k4 ?a5 ?i5 ?l5 ?c5 ?k5 ?a6 ?i6 ?l6 ?c6 ?k6 ?a7 ?i7 ?l7 ?c7 ?k7 ?a8 ?i8 ?l8 ?t8 ?c8 ?k8 ?a9 ?i9 ?l9 ?t9 ?c9 ?k9 ?a10 ?i10 ?l10 ?c10 ?k10 ?a11 ?i11 ?l11 ?c11 ?k11 ?a12 ?i12 ?l12 ?c12 ?k12 ?a13 ?i13 ?l13 ?c13 ?k13 ?a14 ?i14 ?l14 ?c14 ?k14
        (case aC => k_is)
        (case pg => k_is)
        (case hd => k_is)
        (case po => k_is)
        (case sa => k_is)
        (case mk => k_is)
        (case kc => k_is)
        (case z0 => k_is)
        (case z1 => k_is)
        (case z2 => k_is)
        (case z3 => k_is)
        (case z4 => k_is)
        (case z5 => k_is)
        (case wca => k_is)
        (case wcn => k_is)
        (case wct => k_is)
        (case wcm => k_is)
        (case wne => k_is)
        (case wty => k_is)
        (case wfi => k_is)
        (case wfb => k_is)
        (case wfs => k_is)
        (case wfl => k_is)
        (case wft => k_is)
        (case wfn => k_is)
        (case a0 => k_is)
        (case i0 => k_is)
        (case l0 => k_is)
        (case c0 => k_is)
        (case k0 => k_is)
        (case a1 => k_is)
        (case i1 => k_is)
        (case l1 => k_is)
        (case c1 => k_is)
        (case k1 => k_is)
        (case a2 => k_is)
        (case i2 => k_is)
        (case l2 => k_is)
        (case c2 => k_is)
        (case k2 => k_is)
        (case a3 => k_is)
        (case i3 => k_is)
        (case l3 => k_is)
        (case c3 => k_is)
        (case k3 => k_is)
        (case a4 => k_is)
        (case i4 => k_is)
        (case l4 => k_is)
        (case c4 => k_is)
        (case k4 => k_is)
        (case a5 => k_is)
        (case i5 => k_is)
        (case l5 => k_is)
        (case c5 => k_is)
        (case k5 => k_is)
        (case a6 => k_is)
        (case i6 => k_is)
        (case l6 => k_is)
        (case c6 => k_is)
        (case k6 => k_is)
        (case a7 => k_is)
        (case i7 => k_is)
        (case l7 => k_is)
        (case c7 => k_is)
        (case k7 => k_is)
        (case a8 => k_is)
        (case i8 => k_is)
        (case l8 => k_is)
        (case t8 => k_is)
        (case c8 => k_is)
        (case k8 => k_is)
        (case a9 => k_is)
        (case i9 => k_is)
        (case l9 => k_is)
        (case t9 => k_is)
        (case c9 => k_is)
        (case k9 => k_is)
        (case a10 => k_is)
        (case i10 => k_is)
        (case l10 => k_is)
        (case c10 => k_is)
        (case k10 => k_is)
        (case a11 => k_is)
        (case i11 => k_is)
        (case l11 => k_is)
        (case c11 => k_is)
        (case k11 => k_is)
        (case a12 => k_is)
        (case i12 => k_is)
        (case l12 => k_is)
        (case c12 => k_is)
        (case k12 => k_is)
        (case a13 => k_is)
        (case i13 => k_is)
        (case l13 => k_is)
        (case c13 => k_is)
        (case k13 => k_is)
        (case a14 => k_is)
        (case i14 => k_is)
        (case l14 => k_is)
        (case c14 => k_is)
        (case k14 => k_is)
      · refine' UP.ex_mk KX G ?a ?c ?k ?bs ?t ?m; (case a => k_is); (case c => first | k_exc | k_is); (case k => k_is); (case bs => k_is); (case t => k_is); (case m => kts_exm)
