import PyProof.Rows.All
import Wide.All
import OpenK.AllK
import Wide.FinOn
import HandS.ForMost
import HandS.EndBits
import HandS.Wide
import HandS.WideMore
import HandS.WideBits
import HandS.Style
import HandS.Flow
import HandS.Gcd
import HandS.FStrTup
import HandS.Zip
import HandS.Conv
import HandS.Deep
import HandS.IsInst
import HandS.Codes
import PySem.Challenge.RW_etaparts_k13_whole_ratios_reckoned
set_option Elab.async false
set_option linter.all false
set_option maxRecDepth 100000
set_option maxHeartbeats 4000000
namespace EP
open PySem PySem.Spec PyProof.Rows L2
/-! ### a def's promise where no text of data is being written: only there repr of data is known -/
section
variable {P : Program} {w : World} {K : PySem.W.Frag} {mg : Str → Option Value} {base : Heap}
structure GOk (P : Program) (w : World) (K : PySem.W.Frag) (mg : Str → Option Value) (base : Heap) (n : Nat)
    (fn : Addr) (rec : FuncData) (pars : List Str) (pr : Sp) : Prop where
  arity : ∀ vals hp want ex, pr vals hp want ex → vals.length = pars.length
  go : ∀ (ar : Around) (stk : List Env) (st : Shared) (hp : Hp) (raw : List Value) (vals : List V) (want : VK),
    ar.guards = some [] → Room n ar → Env0 P w K mg base ar stk st hp →
    BindsTo st rec ⟨raw, []⟩ (pars.zip raw) → Vals vals raw → pr vals hp want E0 →
    codeAny (model P w) ar (.call (.ref fn) ⟨raw, []⟩) (CR CX0 stk P w hp st want E0) st

theorem gok {nm qual : Str} {txt : Stmt} {fn : Addr} {rec : FuncData} {N pars : List Str} {n : Nat} {pr : Sp}
    (F : Fun K nm qual txt fn rec) (S : FnScope N pars (defScope txt))
    (arity : ∀ vals hp want ex, pr vals hp want ex → vals.length = pars.length)
    (body : ∀ (cdv : Value) (ar : Around) (stk : List Env) (st : Shared) (hp : Hp) (vals : List V) (want : VK),
      ar.guards = some [] →
      Room n (ar.deeper (envOfC qual (defScope txt) st.heap.objs.size fn cdv)) → pr vals hp want E0 →
      ∃ t, PSs (cxOf CX0 P w K mg base N qual (defScope txt) fn cdv ar stk st hp E0).nox (defBody txt) t ∧
        t { nx := fun _ h2 => want .non h2, rt := want } (start N vals) hp) :
    GOk P w K mg base (n + 1) fn rec pars pr := by
  obtain ⟨cl, od, kv, dc, pm, an, cdv, ct, sl, rfl, lk, hc⟩ := F.ex
  refine ⟨arity, ?_⟩
  intro ar stk st hp raw vals want hg room env bnd rel hpr
  have nArgs := arity vals hp want E0 hpr
  have inK : K.In st.heap := env.mod.kin.keeps (fun b o q => (env.bs b o q).1)
  have noLim : st.heap.NoLimit := env.mod.nolimit.keeps (fun b o q => (env.bs b o q).1)
  refine codeAny_call_function (Room.depth room) (inK fn _ lk) rfl S.co S.gen rfl (PySem.W.codeRec_of inK hc) ?_
  refine bnd _ _ _ _ ?_
  refine wpAny_newFunctionEnv_cells S.kind ?_ ?_
  · rintro ⟨x, u⟩ hx
    cases S.par x (List.of_mem_zip hx).1 with
    | inl q => exact Or.inl q
    | inr q => exact Or.inr ⟨q, PySem.W.cellsFrom_some _ _ _ (Or.inl q)⟩
  · intro ev hev st1 inCall
    subst hev
    refine ⟨noLim.keeps inCall.toInCall.keep, codeAny_func ?_⟩
    obtain ⟨t, walk, read⟩ := body cdv ar stk st hp vals want hg (room.deeper _) hpr
    have I0 := inv_start (CX := CX0) (E := E0) S room.hd env nArgs rel inCall
    have fin : ∀ {σ2 : L2.St} {h2 : Hp} {v : V} {u : Value} {s2 : Shared},
        Inv (cxOf CX0 P w K mg base N qual (defScope txt) fn cdv ar stk st hp E0) [] σ2 h2 s2 → RelV v u → want v h2 →
        CE stk P w hp st want u s2 := by
      intro σ2 h2 v u s2 J rv q
      exact ⟨v, h2, J.os, J.bare, J.base, J.hok, rv, q⟩
    refine wpAny_mono (walk.nox.run [] st1 _ hp _ I0 read) ?_ (fun _ _ z => z)
    intro fl s2 end_
    cases fl with
    | ret u => obtain ⟨v, σ2, h2, J, rv, q⟩ := end_; exact fin J rv q
    | next => obtain ⟨σ2, h2, J, q⟩ := end_; exact fin (v := V.non) (u := Value.none) J rfl q
    | brk => obtain ⟨_, _, _, z⟩ := end_; exact z.elim
    | cont => obtain ⟨_, _, _, z⟩ := end_; exact z.elim
end
section
variable {X : Cx} {n : Nat} {fn : Addr} {rec : FuncData} {pars : List Str} {pr : Sp} {x : Str} {p pos : Pos} {e : Expr} {es : List Expr} {t : TA}
/-- a call of such a def from a body of which the same is known -/
theorem pe_gcall (hg : X.A.guards = some []) (F : GOk X.prog X.w X.K X.mg X.base n fn rec pars pr) (room : Room n X.A)
    (hgl : Gl X x) (hm : X.mg x = some (.ref fn)) (hk : PySem.W.keepIn X.K (.ref fn) = true) (bnd : Binds X.K rec pars [])
    (args : PA X (e :: es) t) (hdb : (x == ("__debug__" : Str)) = false := by decide)
    (he : starEach (e :: es) X.env = (false, eval e X.env) :: starEach es X.env := by rfl)
    (hpl : (backTo pos (starEach es X.env)).any (·.1) = false := by rfl) :
    PE X (.Call (.Name x p) (e :: es) [] pos) (tCall pr [] E0 t) := by
  constructor
  intro pins st σ hp want I h
  refine wpAny_Call_Name_kw (ld_glob I hgl hm ?_ hdb)
  refine PySem.W.callWith_K (h₀ := X.base) I.ok.mod.kin hk ?_ he hpl
  refine thn (args.run pos pins st σ hp _ I h) ?_
  rintro us s1 ⟨vs, h1, I1, rel, q⟩
  refine ⟨I1.kIn, ?_⟩
  rw [List.append_nil] at q
  have nArgs : us.length = pars.length := by rw [← rel.length]; exact F.arity _ _ _ _ q
  have b1 := bnd s1 us I1.kIn (by rw [List.append_nil]; exact nArgs)
  rw [List.append_nil] at b1
  refine wpAny_call (codeAny_mono (F.go X.A X.stack s1 h1 us vs want hg room I1.env0 b1 rel q) ?_)
  intro r s2 hr
  cases r with
  | error ex => exact hr.elim
  | ok fl =>
    cases fl with
    | ret u => exact I1.after hr
    | next => exact hr.elim
    | brk => exact hr.elim
    | cont => exact hr.elim
/-- f(a=.., b=..): keywords alone -/
theorem pe_kcall {CX : CXT} {ks : List Str} {g : List Value → List Value → List Value} {gV : List V → List V → List V} {E : XK} {kws : List Keyword} {tk : TA}
    (F : FnOk X.prog X.w X.K X.mg X.base CX n fn rec pars pr) (room : Room n X.A) (hgl : Gl X x) (hm : X.mg x = some (.ref fn))
    (hk : PySem.W.keepIn X.K (.ref fn) = true) (hb : KBinds X.K rec pars ks g gV) (hx : Passes CX X E) (hkw : PK X kws tk)
    (hall : (backToKw pos (keywordEach kws X.env)).all (·.1.isSome) = true := by rfl)
    (hks : (backToKw pos (keywordEach kws X.env)).filterMap (·.1) = ks := by rfl)
    (hdb : (x == ("__debug__" : Str)) = false := by decide)
    (hpl : ((backTo pos (starEach [] X.env)).any (·.1) || (backToKw pos (keywordEach kws X.env)).any (·.1.isNone)) = false := by rfl) :
    PE X (.Call (.Name x p) [] kws pos) (tCallK pr gV E tNil tk) := by
  constructor
  intro pins st σ hp want I h
  refine wpAny_Call_Name_kw (ld_glob I hgl hm ?_ hdb)
  refine PySem.W.callWith_KW0 (h₀ := X.base) I.ok.mod.kin hk hall ?_ hpl
  refine thn (hkw.run pos pins st σ hp _ I h) ?_
  rintro ws s2 ⟨zs, h2, I2, rz, q2⟩
  refine ⟨I2.kIn, ?_⟩
  rw [hks]
  exact run_fnk F room hb hx I2 .nil rz q2
/-- repr of data -/
theorem call_reprD (hg : X.A.guards = some []) (hu : X.A.units + 66 < cLine) :
    CallR X (.builtin "repr") (fun xs hp want => ∃ a d, xs = [.ref a] ∧ Dp X.K hp (.ref a) d ∧ d.showable = true ∧ d.hasDict = false ∧
      d.depth ≤ 64 ∧ d.shown.length ≤ sizeLine ∧ want (.str d.shown) hp) := by
  intro pins st σ hp xs us want I r h
  obtain ⟨a, d, rfl, hd, h1, h2, h3, h4, q⟩ := h
  obtain ⟨u, rfl, rv⟩ := vals1 r
  obtain rfl : u = .ref a := rv
  obtain ⟨as, rd⟩ := Dp.reads I d _ _ hd rfl
  refine repr_of_reads' rd h1 (fun z => ?_) hg (by omega) (fun _ _ z => z) (fun h2 u tk hk => ?_) h4
  · rw [h2] at z; cases z
  · exact ⟨.str _, hp, I.kept hk, ⟨_, rfl⟩, q⟩
end
/-! ### the law's end -/
theorem law_run {P : Program} {w : World} {K : PySem.W.Frag} {mg mb : Str → Option Value} {n : Nat} {fn at_ : Addr} {rec : FuncData} {x : Str} {pr : Sp} {st : Shared} {raw : List Value} {ns : List Int}
    (inK : K.In st.heap) (glob : st.heap.Ns mainGlobals mg) (blt : st.heap.Ns builtinsNs mb) (bltIs : ∀ y : Str, y ≠ "__name__" → mb y = bootBuiltins y)
    (noLim : st.heap.NoLimit) (gens : st.gens = #[]) (obj : st.heap.get? at_ = some { cls := .type "list", data := .seq raw.toArray })
    (nums : IntsAre raw ns) (few : ns.length ≤ sizeLine) (room : Room n callerA)
    (F : ∀ base : Heap, K.In base → base.Ns mainGlobals mg → GOk P w K mg base n fn rec [x] pr)
    (bnd : ∀ (s : Shared) (u : Value), BindsTo s rec ⟨[u], []⟩ [(x, u)])
    (told : ∀ hp : Hp, Only hp → SqL K hp at_ (ns.map V.int) → pr [.ref at_] hp (fun v _ => v = .bl true) E0) :
    codeAny (model P w) callerA (.call (.ref fn) ⟨[.ref at_], []⟩)
      (fun r s2 => r = .ok (.ret (.bool true)) ∧ PySem.OldK st.heap s2.heap ∧ s2.os = st.os ∧ AllBare s2.gens) st := by
  have rel := vals_ints nums
  have nRaw := nums.length
  suffices main : ∀ hp : Hp, Only hp → SqL K hp at_ (ns.map V.int) → HOk P w hp st.heap → (∀ b, hp b ≠ none → b = at_) →
      (hp at_ ≠ none → K.lookup at_ = none) →
      codeAny (model P w) callerA (.call (.ref fn) ⟨[.ref at_], []⟩)
        (fun r s2 => r = .ok (.ret (.bool true)) ∧ PySem.OldK st.heap s2.heap ∧ s2.os = st.os ∧ AllBare s2.gens) st by
    cases hk : K.lookup at_ with
    | some o =>
      have same := inK at_ o hk
      rw [obj] at same
      cases same
      refine main (fun _ => none) (fun _ => Or.inl rfl) (Or.inr ⟨_, raw.toArray, _, hk, rfl, rfl, rfl, ?_, ?_⟩) ?_ ?_ ?_
      · rw [List.size_toArray, nRaw]; exact few
      · simpa using rel
      · intro b u z
        have z2 : (none : Option HO) = some u := z
        cases z2
      · intro b z; exact absurd rfl z
      · intro z; exact absurd rfl z
    | none =>
      refine main (fun b => if b = at_ then some (.frz { cls := .type "list", data := .seq raw.toArray } (.lst (ns.map V.int))) else none) ?_ (Or.inl (Or.inr ⟨_, if_pos rfl⟩)) ?_ ?_ (fun _ => hk)
      · intro b
        by_cases hb : b = at_
        · exact Or.inr ⟨_, _, if_pos hb⟩
        · exact Or.inl (if_neg hb)
      · intro b u z
        by_cases hb : b = at_
        · have z2 := (if_pos hb).symm.trans z
          cases z2
          subst hb
          exact ⟨obj, by rw [List.length_map]; exact few, raw, _, rel, obj⟩
        · have z2 := (if_neg hb).symm.trans z
          cases z2
      · intro b z
        by_cases hb : b = at_
        · exact hb
        · exact absurd (if_neg hb) z
  intro hp only sq ok alone notK
  have un1 : ∀ {b : Addr} {o : Obj}, st.heap.get? b = some o → (∀ vs n, o.data ≠ .seq vs n) → hp b = none := by
    intro b o q d
    cases hb : hp b with
    | none => rfl
    | some u =>
      have e1 := alone b (by rw [hb]; simp)
      subst e1
      rw [obj] at q
      cases q
      exact absurd rfl (d _ _)
  have hid : ∀ {b : Addr} {o : Obj}, st.heap.get? b = some o → hp b = none → (hidT st.heap hp).get? b = some o := fun q z => hidT_get q z
  have ns1 : ∀ {b : Addr} {m : Str → Option Value}, st.heap.Ns b m → (hidT st.heap hp).Ns b m := by
    rintro b m ⟨o, es, ep, q, d, r⟩
    exact ⟨o, es, ep, hid q (un1 q (by intro vs k z; rw [d] at z; cases z)), d, r⟩
  have inK1 : K.In (hidT st.heap hp) := by
    intro b o q
    refine hid (inK b o q) ?_
    cases hb : hp b with
    | none => rfl
    | some u =>
      have e1 := alone b (by rw [hb]; simp)
      subst e1
      have z := notK (by rw [hb]; simp)
      rw [q] at z
      cases z
  have mod1 : Mod K mg (hidT st.heap hp) := by
    refine ⟨inK1, ns1 glob, ⟨mb, ns1 blt, bltIs⟩, ?_⟩
    obtain ⟨mc, a1, a2⟩ := noLim
    exact ⟨mc, ns1 a1, a2⟩
  have env1 : Env0 P w K mg (hidT st.heap hp) callerA [] st hp := by
    refine ⟨rfl, mod1, fun b o q => of_hidT q, Nat.le_of_eq (hidT_size _ _), trivial, ?_, ok, .of_eq gens⟩
    intro b hb
    cases (show b ∈ ([] : List Addr) from hb)
  refine codeAny_mono ((F _ inK1 (ns1 glob)).go callerA [] st hp [.ref at_] [.ref at_] _ rfl room env1 (bnd st (.ref at_)) (.cons rfl .nil) (told hp only sq)) ?_
  intro r s2 h
  cases r with
  | error ex => exact h.elim
  | ok fl =>
    cases fl with
    | next => exact h.elim
    | brk => exact h.elim
    | cont => exact h.elim
    | ret u =>
      obtain ⟨v, h2, os, bare, un, ok2, rv, q⟩ := h
      have q2 : v = .bl true := q
      subst q2
      obtain rfl : u = Value.bool true := rv
      refine ⟨rfl, PySem.OldK.of_keep ?_, os, bare⟩
      intro b o z
      cases hb : hp b with
      | none => exact un.keep b o z hb (by intro y; cases (show b ∈ ([] : List Addr) from y)) (by simp)
      | some u =>
        rcases only b with y | ⟨ob, xs, y⟩
        · rw [hb] at y; cases y
        · have y2 := un.frzs b ob _ y
          obtain ⟨e1, _⟩ := ok b _ y
          obtain ⟨e2, _⟩ := ok2 b _ y2
          rw [z] at e1
          cases e1
          exact e2
theorem walk_run {l : PySem.W.OpenLaw} {most n : Nat} {q : Program} {loose : List Str} {XP : (Str → Option Value) → Heap → Prop} {YP : World → Heap → Prop} {d : PySem.DefRec} {K : PySem.Params → PySem.W.Frag} {pr : World → Sp} {x : Str}
    (hn : l.most = some most) (few : most ≤ sizeLine) (hdf : d.params.defaults = []) (room : Room n callerA)
    (hY : ∀ (w : World) (h : Heap), YP w h → (K w.params).In h)
    (F : ∀ (w : World) (mg : Str → Option Value) (fa : Addr) (h : Heap), (K w.params).In h → h.Ns mainGlobals mg → mg d.name = some (.ref fa) →
      ∃ fd : FuncData, (∀ (s : Shared) (u : Value), BindsTo s fd ⟨[u], []⟩ [(x, u)]) ∧
        ∀ base : Heap, (K w.params).In base → base.Ns mainGlobals mg → GOk l.prog w (K w.params) mg base n fa fd [x] (pr w))
    (told : ∀ (w : World) (hp : Hp) (a : Addr) (ns : List Int), ns.length ≤ most → (∀ z ∈ ns, Builtin.Int.intBits z ≤ 1048576) → Only hp →
      SqL (K w.params) hp a (ns.map V.int) → pr w [.ref a] hp (fun v _ => v = .bl true) E0) :
    PySem.W.WalkO q loose XP YP l.row.toRowW d [] (fun f vs => PySem.call f vs) := by
  refine Att.attach_callB hn hdf ?_
  intro w s0 st mg mb fa o pm cd doc a raw ns G Y ho hd hcd hmg obj nums nfew bits gens
  have inK := hY w _ Y
  obtain ⟨fd, b, hF⟩ := F w mg fa _ inK G.T.g hmg
  exact law_run inK G.T.g G.T.b G.T.builtins G.T.nolimit gens obj nums (Nat.le_trans nfew few) room hF b (fun hp o1 sq => told w hp a ns nfew bits o1 sq)
end EP

namespace EP
open PySem PySem.Spec PyProof.Rows L2
/-! ### heaps that grow -/
def Kp (H H' : Hp) : Prop := ∀ a o, H a = some o → H' a = some o
theorem Kp.refl (H : Hp) : Kp H H := fun _ _ h => h
theorem Kp.trans {H H1 H2 : Hp} (a : Kp H H1) (b : Kp H1 H2) : Kp H H2 := fun x o h => b x o (a x o h)
theorem Kp.new {H : Hp} {p : Addr} {o : HO} (h : H p = none) : Kp H (upd H p o) := fun b x e => by
  rw [upd_ne (ne_of_none e h)]; exact e
theorem Kp.rd {H H' : Hp} {a : Addr} {u : HO} (k : Kp H H') (h : Rd H a u) : Rd H' a u := by
  cases h with
  | inl h => exact .inl (k _ _ h)
  | inr h => obtain ⟨o, h⟩ := h; exact .inr ⟨o, k _ _ h⟩
theorem Kp.sq {K : PySem.W.Frag} {H H' : Hp} {a : Addr} {xs : List V} (k : Kp H H') (h : SqL K H a xs) : SqL K H' a xs := by
  cases h with
  | inl h => exact .inl (k.rd h)
  | inr h => exact .inr h
theorem Kp.st {K : PySem.W.Frag} {H H' : Hp} {a : Addr} {xs : List V} (k : Kp H H') (h : SqT K H a xs) : SqT K H' a xs := by
  cases h with
  | inl h => exact .inl (k.rd h)
  | inr h => exact .inr h
theorem Kp.free {H H' : Hp} {p : Addr} (k : Kp H H') (h : H' p = none) : H p = none := by
  cases q : H p with
  | none => rfl
  | some o => rw [k p o q] at h; cases h
mutual
theorem Kp.dp {K : PySem.W.Frag} {H H' : Hp} (k : Kp H H') : ∀ (d : PyData) (v : V), Dp K H v d → Dp K H' v d
  | .none, _, h => by cases h; exact .non
  | .bool b, _, h => by cases h; exact .bl b
  | .int i, _, h => by cases h; exact .int i
  | .str x, _, h => by cases h; exact .str x
  | .list ds, _, h => by cases h with | lst hs ha => exact .lst (k.sq hs) (Kp.dpAll k ds _ ha)
  | .tuple ds, _, h => by cases h with | tup hs ha => exact .tup (k.st hs) (Kp.dpAll k ds _ ha)
  | .dict _, _, h => by cases h
theorem Kp.dpAll {K : PySem.W.Frag} {H H' : Hp} (k : Kp H H') : ∀ (ds : List PyData) (vs : List V), DpAll K H vs ds → DpAll K H' vs ds
  | [], _, h => by cases h; exact .nil
  | d :: ds, _, h => by cases h with | cons h1 h2 => exact .cons (Kp.dp k d _ h1) (Kp.dpAll k ds _ h2)
end
/-- all but the object at a stands -/
def Bt (a : Addr) (H H' : Hp) : Prop := ∀ b o, b ≠ a → H b = some o → H' b = some o
theorem Bt.refl (a : Addr) (H : Hp) : Bt a H H := fun _ _ _ h => h
theorem Bt.trans {a : Addr} {H H1 H2 : Hp} (x : Bt a H H1) (y : Bt a H1 H2) : Bt a H H2 := fun b o n h => y b o n (x b o n h)
theorem Kp.bt {a : Addr} {H H' : Hp} (k : Kp H H') : Bt a H H' := fun b o _ h => k b o h
theorem Bt.upd {a : Addr} {H : Hp} {o : HO} : Bt a H (upd H a o) := fun b x n e => by rw [upd_ne n]; exact e
theorem Bt.rd {a b : Addr} {H H' : Hp} {u : HO} (k : Bt a H H') (n : b ≠ a) (h : Rd H b u) : Rd H' b u := by
  cases h with
  | inl h => exact .inl (k _ _ n h)
  | inr h => obtain ⟨o, h⟩ := h; exact .inr ⟨o, k _ _ n h⟩
theorem Bt.sq {K : PySem.W.Frag} {a b : Addr} {H H' : Hp} {xs : List V} (k : Bt a H H') (n : b ≠ a) (h : SqL K H b xs) : SqL K H' b xs := by
  cases h with
  | inl h => exact .inl (k.rd n h)
  | inr h => exact .inr h
theorem sqL {K : PySem.W.Frag} {H : Hp} {a : Addr} {xs : List V} (h : H a = some (.lst xs)) : SqL K H a xs := .inl (.inl h)
theorem sqT {K : PySem.W.Frag} {H : Hp} {a : Addr} {xs : List V} (h : H a = some (.tup xs)) : SqT K H a xs := .inl (.inl h)
theorem szOk {n : Nat} (h : n ≤ 100000) : n ≤ sizeLine := Nat.le_trans h (by decide)
theorem szLt {n : Nat} (h : n < 100000) : n < sizeLine := Nat.lt_of_lt_of_le h (by decide)
theorem un66 {k : Nat} {A : Around} (r : Room k A) : A.units + 66 < cLine := by have := r.un; omega
/-! ### data -/
theorem dpInts {K : PySem.W.Frag} {H : Hp} : ∀ ns : List Int, DpAll K H (ns.map V.int) (ns.map PyData.int)
  | [] => .nil
  | n :: r => .cons (.int n) (dpInts r)
theorem dpIntList {K : PySem.W.Frag} {H : Hp} {a : Addr} {ns : List Int} (h : SqL K H a (ns.map V.int)) : Dp K H (.ref a) (.list (ns.map PyData.int)) := .lst h (dpInts ns)
theorem dpIntTup {K : PySem.W.Frag} {H : Hp} {a : Addr} {ns : List Int} (h : SqT K H a (ns.map V.int)) : Dp K H (.ref a) (.tuple (ns.map PyData.int)) := .tup h (dpInts ns)
mutual
/-- numbers, truths, None, lists and tuples of such, of at most f levels, that can be written out -/
def okD : Nat → PyData → Bool
  | _, .none => true
  | _, .bool _ => true
  | _, .int i => decide (i.natAbs.log2 < 1900)
  | 0, _ => false
  | f + 1, .list xs => okAll f xs
  | f + 1, .tuple xs => okAll f xs
  | _, _ => false
def okAll : Nat → List PyData → Bool
  | _, [] => true
  | f, x :: xs => okD f x && okAll f xs
end
mutual
def nodes : PyData → Nat
  | .list xs => nodesAll xs + 1
  | .tuple xs => nodesAll xs + 1
  | _ => 1
def nodesAll : List PyData → Nat
  | [] => 0
  | x :: xs => nodes x + nodesAll xs
end
theorem piledC (t : Str) (ts : List Str) : piled (t :: ts) = (t.length + 2) + piled ts := by simp [piled]
theorem textFromLe : ∀ (ts : List Str) (k : Nat) (acc : Str), (textFrom k acc ts).length ≤ acc.length + piled ts
  | [], k, acc => by show acc.length ≤ _; omega
  | t :: r, k, acc => by
    have h := textFromLe r (k + 1) (acc ++ (if k > 0 then ", " else "" : String) ++ t)
    have e : (acc ++ (if k > 0 then ", " else "" : String) ++ t).length = acc.length + (if k > 0 then 2 else 0) + t.length := by
      rw [strLen_append, strLen_append]
      split <;> rfl
    rw [e] at h
    rw [piledC]
    show (textFrom (k + 1) _ r).length ≤ _
    have : (if k > 0 then 2 else 0 : Nat) ≤ 2 := by split <;> omega
    omega
theorem listTextLe (ts : List Str) : (listText ts).length ≤ piled ts + 2 := by
  unfold listText
  rw [strLen_append]
  have h := textFromLe ts 0 "["
  have e1 : ((("[" : String) : Str)).length = 1 := rfl
  have e2 : ((("]" : String) : Str)).length = 1 := rfl
  rw [e1] at h
  rw [e2]
  omega
theorem intTextLe {i : Int} (h : i.natAbs.log2 < 1900) : (Str.ofString (toString i)).length ≤ 1901 := by
  have h1 := int_text_length_le (a := i) (k := 1900) (by decide) h
  rw [PySem.ofString_length]
  omega
mutual
theorem shownLe : ∀ (f : Nat) (d : PyData), okD f d = true → d.shown.length + 2 ≤ 2004 * nodes d
  | _, .none, _ => by decide
  | _, .bool b, _ => by cases b <;> decide
  | _, .int i, h => by
    have h1 : i.natAbs.log2 < 1900 := by simpa [okD] using h
    have h2 := intTextLe h1
    show (Str.ofString (toString i)).length + 2 ≤ 2004 * 1
    omega
  | 0, .str _, h => by simp [okD] at h
  | 0, .list _, h => by simp [okD] at h
  | 0, .tuple _, h => by simp [okD] at h
  | 0, .dict _, h => by simp [okD] at h
  | f + 1, .str _, h => by simp [okD] at h
  | f + 1, .dict _, h => by simp [okD] at h
  | f + 1, .list xs, h => by
    have h1 : okAll f xs = true := by simpa [okD] using h
    have h2 := shownAllLe f xs h1
    have h3 := listTextLe (PyData.shownAll xs)
    show (listText (PyData.shownAll xs)).length + 2 ≤ 2004 * (nodesAll xs + 1)
    omega
  | f + 1, .tuple xs, h => by
    have h1 : okAll f xs = true := by simpa [okD] using h
    have h2 := shownAllLe f xs h1
    have h3 := fmt_text (PyData.shownAll xs)
    show (tupleText (PyData.shownAll xs)).length + 2 ≤ 2004 * (nodesAll xs + 1)
    omega
theorem shownAllLe : ∀ (f : Nat) (xs : List PyData), okAll f xs = true → piled (PyData.shownAll xs) ≤ 2004 * nodesAll xs
  | _, [], _ => by decide
  | f, x :: xs, h => by
    have h1 : okD f x = true ∧ okAll f xs = true := by simpa [okAll] using h
    have h2 := shownLe f x h1.1
    have h3 := shownAllLe f xs h1.2
    show piled (PyData.shown x :: PyData.shownAll xs) ≤ 2004 * (nodes x + nodesAll xs)
    rw [piledC]
    omega
end
mutual
theorem okD_show : ∀ (f : Nat) (d : PyData), okD f d = true → d.showable = true ∧ d.hasDict = false ∧ d.depth ≤ f
  | f, .none, _ => ⟨rfl, rfl, Nat.zero_le _⟩
  | f, .bool b, _ => ⟨rfl, rfl, Nat.zero_le _⟩
  | f, .int i, h => by
    have h1 : i.natAbs.log2 < 1900 := by simpa [okD] using h
    refine ⟨?_, rfl, Nat.zero_le _⟩
    show decide (i.natAbs.log2 < 1920) = true
    exact decide_eq_true (by omega)
  | 0, .str _, h => by simp [okD] at h
  | 0, .list _, h => by simp [okD] at h
  | 0, .tuple _, h => by simp [okD] at h
  | 0, .dict _, h => by simp [okD] at h
  | f + 1, .str _, h => by simp [okD] at h
  | f + 1, .dict _, h => by simp [okD] at h
  | f + 1, .list xs, h => by
    have h1 : okAll f xs = true := by simpa [okD] using h
    obtain ⟨a, b, c⟩ := okAll_show f xs h1
    refine ⟨a, b, ?_⟩
    show PyData.depthAll xs + 1 ≤ f + 1
    omega
  | f + 1, .tuple xs, h => by
    have h1 : okAll f xs = true := by simpa [okD] using h
    obtain ⟨a, b, c⟩ := okAll_show f xs h1
    refine ⟨a, b, ?_⟩
    show PyData.depthAll xs + 1 ≤ f + 1
    omega
theorem okAll_show : ∀ (f : Nat) (xs : List PyData), okAll f xs = true → PyData.showableAll xs = true ∧ PyData.hasDictAll xs = false ∧ PyData.depthAll xs ≤ f
  | f, [], _ => ⟨rfl, rfl, Nat.zero_le _⟩
  | f, x :: xs, h => by
    have h1 : okD f x = true ∧ okAll f xs = true := by simpa [okAll] using h
    obtain ⟨a, b, c⟩ := okD_show f x h1.1
    obtain ⟨a2, b2, c2⟩ := okAll_show f xs h1.2
    refine ⟨?_, ?_, ?_⟩
    · show (PyData.showable x && PyData.showableAll xs) = true
      rw [a, a2]; rfl
    · show (PyData.hasDict x || PyData.hasDictAll xs) = false
      rw [b, b2]; rfl
    · show max (PyData.depth x) (PyData.depthAll xs) ≤ f
      omega
end
mutual
theorem okD_lay : ∀ (f : Nat) (d : PyData), okD f d = true → d.canLay0 = true
  | f, .none, _ => by simp [PyData.canLay0]
  | f, .bool b, _ => by simp [PyData.canLay0]
  | f, .int i, h => by simp [PyData.canLay0]
  | 0, .str _, h => by simp [okD] at h
  | 0, .list _, h => by simp [okD] at h
  | 0, .tuple _, h => by simp [okD] at h
  | 0, .dict _, h => by simp [okD] at h
  | f + 1, .str _, h => by simp [okD] at h
  | f + 1, .dict _, h => by simp [okD] at h
  | f + 1, .list xs, h => by
    have h1 : okAll f xs = true := by simpa [okD] using h
    have h2 := okAll_lay f xs h1
    simp only [PyData.canLay0]; exact h2
  | f + 1, .tuple xs, h => by
    have h1 : okAll f xs = true := by simpa [okD] using h
    have h2 := okAll_lay f xs h1
    simp only [PyData.canLay0]; exact h2
theorem okAll_lay : ∀ (f : Nat) (xs : List PyData), okAll f xs = true → PyData.canLayAll0 xs = true
  | f, [], _ => by simp [PyData.canLayAll0]
  | f, x :: xs, h => by
    have h1 : okD f x = true ∧ okAll f xs = true := by simpa [okAll] using h
    simp only [PyData.canLayAll0, okD_lay f x h1.1, okAll_lay f xs h1.2, Bool.and_self]
end
theorem okD_shaped {f : Nat} {d : PyData} (h : okD f d = true) (hf : f ≤ 64) : SeqAt.shaped d = true := by
  have h1 := okD_lay f d h
  obtain ⟨_, _, h2⟩ := okD_show f d h
  show (d.canLay0 && decide (d.depth ≤ 64)) = true
  rw [Bool.and_eq_true]
  exact ⟨h1, decide_eq_true (by omega)⟩
/-- repr of small data -/
def rRep (K : PySem.W.Frag) : List V → Hp → VK → Prop := fun xs H Q => ∃ a d, xs = [.ref a] ∧ Dp K H (.ref a) d ∧ okD 8 d = true ∧ nodes d ≤ 4000 ∧ Q (.str d.shown) H
theorem call_rep {X : Cx} (hg : X.A.guards = some []) (hu : X.A.units + 66 < cLine) : CallR X (.builtin "repr") (rRep X.K) := by
  intro pins s σ H xs us Q I r h
  obtain ⟨a, d, e, hd, h1, h2, q⟩ := h
  obtain ⟨h3, h4, h5⟩ := okD_show 8 d h1
  have h6 := shownLe 8 d h1
  refine call_reprD hg hu pins s σ H xs us Q I r ⟨a, d, e, hd, h3, h4, by omega, ?_, q⟩
  rw [sizeLine_eq]
  omega
theorem okInts {f : Nat} : ∀ {ns : List Int}, (∀ n ∈ ns, n.natAbs.log2 < 1900) → okAll f (ns.map PyData.int) = true
  | [], _ => rfl
  | n :: r, h => by
    show (okD f (.int n) && okAll f (r.map PyData.int)) = true
    rw [okInts fun m hm => h m (List.mem_cons_of_mem _ hm), Bool.and_true]
    cases f <;> exact decide_eq_true (h n List.mem_cons_self)
theorem nodesInts : ∀ ns : List Int, nodesAll (ns.map PyData.int) = ns.length
  | [] => rfl
  | n :: r => by
    show nodes (.int n) + nodesAll (r.map PyData.int) = r.length + 1
    rw [nodesInts r]
    show 1 + r.length = r.length + 1
    omega
theorem nodesL (ns : List Int) (h : ns.length ≤ 3000) : nodes (.list (ns.map PyData.int)) ≤ 4000 := by
  show nodesAll (ns.map PyData.int) + 1 ≤ 4000
  rw [nodesInts]; omega
theorem nodesT (ns : List Int) (h : ns.length ≤ 3000) : nodes (.tuple (ns.map PyData.int)) ≤ 4000 := by
  show nodesAll (ns.map PyData.int) + 1 ≤ 4000
  rw [nodesInts]; omega
theorem shortInt {n : Int} (h : -(2 ^ 200) < n ∧ n < 2 ^ 200) : n.natAbs.log2 < 1900 := by
  have h0 : n.natAbs < 2 ^ 200 := by omega
  have h1 : n.natAbs < 2 ^ 1900 := Nat.lt_of_lt_of_le h0 (Nat.pow_le_pow_right (by decide) (by decide))
  by_cases z : n.natAbs = 0
  · rw [z]; decide
  · exact (Nat.log2_lt z).mpr h1
/-! ### great numbers -/
def CDivX (_ j : Int) : Prop := j ≠ 0 ∧ j.natAbs < 2 ^ 8000
theorem log2Lt {n k : Nat} (hk : 0 < k) (h : n < 2 ^ k) : n.log2 < k := by
  by_cases z : n = 0
  · rw [z]; simpa using hk
  · exact (Nat.log2_lt z).mpr h
theorem op_fdivX {X : Cx} : OpR X (binaryOp .FloorDiv) (rI CDivX fun i j => .int (i.fdiv j)) := opI fun i j _ _ _ _ _ hc q => by
  refine floordiv_int hc.1 q (.inl (PyProof.noPylong_of_log2 ?_))
  have := log2Lt (show 0 < 8000 by decide) hc.2
  omega
def CPowX (i j : Int) : Prop := 0 ≤ j ∧ (Builtin.Int.intBits i : Int) * j ≤ 2 ^ 27
theorem op_powX {X : Cx} : OpR X (binaryOp .Pow) (rI CPowX fun i j => .int (i ^ j.toNat)) := opI fun _ _ _ _ _ _ _ hc q => pow_int hc.1 hc.2 q
/-- the bound on how many digits a number has -/
theorem beyond {n : Int} (h : -(2 ^ 250) < n ∧ n < 2 ^ 250) : (if n < 0 then -n else n) < ((10 : Int) ^ (50 : Int).toNat) ^ (8 : Int).toNat := by
  have e : (2 : Int) ^ 250 ≤ ((10 : Int) ^ (50 : Int).toNat) ^ (8 : Int).toNat := by decide +kernel
  refine Int.lt_of_lt_of_le ?_ e
  split <;> omega
end EP

namespace K13
open PySem PySem.Spec PyProof.Rows L2 EP

/-- the law's pot: a list of two ints, neither below 0, the second below 2 ^ 31 -/
def Pot (H : Hp) (a : Addr) : Prop := ∃ p0 p1 : Int, H a = some (.lst [.int p0, .int p1]) ∧ 0 ≤ p0 ∧ 0 ≤ p1 ∧ p1 < 2147483648
theorem Pot.kp {H H' : Hp} {a : Addr} (p : Pot H a) (k : Kp H H') : Pot H' a := by
  obtain ⟨p0, p1, e, h⟩ := p
  exact ⟨p0, p1, k _ _ e, h⟩
theorem Pot.ne {H : Hp} {a l : Addr} (p : Pot H a) (n : H l = none) : l ≠ a := fun z => by
  obtain ⟨_, _, e, _⟩ := p
  rw [z, e] at n
  cases n
def spPot (K : PySem.W.Frag) : Sp := fun vs H Q _ => ∃ (a : Addr) (ns : List Int), vs = [.ref a, .int 0] ∧ SqL K H a (ns.map V.int) ∧ ns.length ≤ 63 ∧ ∀ p H', H p = none → Kp H H' → Pot H' p → Q (.ref p) H'
def spDraw : Sp := fun vs H Q _ => ∃ (a : Addr) (m : Int), vs = [.ref a, .int m] ∧ Pot H a ∧ 0 < m ∧ m < 1073741824 ∧ ∀ d H', 0 ≤ d → d < m → Bt a H H' → Pot H' a → Q (.int d) H'
def spPick (K : PySem.W.Frag) : Sp := fun vs H Q _ => ∃ (a b : Addr) (xs : List V), vs = [.ref a, .ref b] ∧ Pot H a ∧ b ≠ a ∧ SqL K H b xs ∧ 0 < xs.length ∧ xs.length ≤ 1000 ∧ ∀ x H', x ∈ xs → Bt a H H' → Pot H' a → Q x H'

/-! ### least terms -/
def gN (n u : Int) : Int := ((Nat.gcd n.natAbs u.natAbs : Nat) : Int)
def prt (n u : Int) : Int := if u < 0 then -(gN n u) else gN n u
def lowN (n u : Int) : Int := n.fdiv (prt n u)
def lowU (n u : Int) : Int := u.fdiv (prt n u)
def CoP (a b : Int) : Prop := Nat.gcd a.natAbs b.natAbs = 1
theorem gN_pos {n u : Int} (h : u ≠ 0) : 0 < gN n u := by
  have : 0 < Nat.gcd n.natAbs u.natAbs := Nat.gcd_pos_of_pos_right _ (by omega)
  show (0 : Int) < ((Nat.gcd n.natAbs u.natAbs : Nat) : Int)
  omega
theorem prt_ne {n u : Int} (h : u ≠ 0) : prt n u ≠ 0 := by
  have := gN_pos (n := n) h
  unfold prt
  split <;> omega
theorem prt_dvd_n (n u : Int) : prt n u ∣ n := by
  have h : gN n u ∣ n := by
    have := Nat.gcd_dvd_left n.natAbs u.natAbs
    exact Int.ofNat_dvd_left.mpr this
  unfold prt
  split
  · exact Int.neg_dvd.mpr h
  · exact h
theorem prt_dvd_u (n u : Int) : prt n u ∣ u := by
  have h : gN n u ∣ u := by
    have := Nat.gcd_dvd_right n.natAbs u.natAbs
    exact Int.ofNat_dvd_left.mpr this
  unfold prt
  split
  · exact Int.neg_dvd.mpr h
  · exact h
theorem lowN_mul (n u : Int) : lowN n u * prt n u = n := Int.fdiv_mul_cancel (prt_dvd_n n u)
theorem lowU_mul (n u : Int) : lowU n u * prt n u = u := Int.fdiv_mul_cancel (prt_dvd_u n u)
theorem lowU_pos {n u : Int} (h : u ≠ 0) : 0 < lowU n u := by
  have e := lowU_mul n u
  have g := gN_pos (n := n) h
  unfold prt at e
  split at e
  · rename_i c
    refine Int.lt_of_not_ge fun z => ?_
    have : 0 ≤ lowU n u * -gN n u := by
      have := Int.mul_nonneg (show 0 ≤ -lowU n u by omega) (show 0 ≤ gN n u by omega)
      rw [Int.neg_mul] at this
      rw [Int.mul_neg]
      exact this
    omega
  · rename_i c
    refine Int.lt_of_not_ge fun z => ?_
    have : 0 ≤ -lowU n u * gN n u := Int.mul_nonneg (by omega) (by omega)
    rw [Int.neg_mul] at this
    omega
theorem prt_abs (n u : Int) : (prt n u).natAbs = Nat.gcd n.natAbs u.natAbs := by
  unfold prt gN
  split
  · rw [Int.natAbs_neg]; rfl
  · rfl
theorem low_cop {n u : Int} (h : u ≠ 0) : CoP (lowN n u) (lowU n u) := by
  have e1 : (lowN n u).natAbs * Nat.gcd n.natAbs u.natAbs = n.natAbs := by
    rw [← prt_abs, ← Int.natAbs_mul, lowN_mul]
  have e2 : (lowU n u).natAbs * Nat.gcd n.natAbs u.natAbs = u.natAbs := by
    rw [← prt_abs, ← Int.natAbs_mul, lowU_mul]
  have g : 0 < Nat.gcd n.natAbs u.natAbs := Nat.gcd_pos_of_pos_right _ (by omega)
  have h3 := Nat.gcd_mul_right (lowN n u).natAbs (Nat.gcd n.natAbs u.natAbs) (lowU n u).natAbs
  rw [e1, e2] at h3
  unfold CoP
  exact Nat.eq_of_mul_eq_mul_right g (by rw [← h3, Nat.one_mul])
theorem low_cross (n u : Int) : n * lowU n u = u * lowN n u := by
  have e1 := lowN_mul n u
  have e2 := lowU_mul n u
  calc n * lowU n u = (lowN n u * prt n u) * lowU n u := by rw [e1]
    _ = (lowU n u * prt n u) * lowN n u := by simp only [Int.mul_assoc, Int.mul_comm, Int.mul_left_comm]
    _ = u * lowN n u := by rw [e2]
theorem low_uniq {x y a b : Int} (hy : y ≠ 0) (hb : 0 < b) (hc : CoP a b) (e : x * b = y * a) : lowN x y = a ∧ lowU x y = b := by
  have d1 : b.natAbs ∣ y.natAbs := by
    have h1 : b.natAbs ∣ y.natAbs * a.natAbs := by
      rw [← Int.natAbs_mul, ← e, Int.natAbs_mul]
      exact Nat.dvd_mul_left _ _
    exact Nat.Coprime.dvd_of_dvd_mul_right (show Nat.Coprime b.natAbs a.natAbs from (Nat.gcd_comm _ _).trans hc) h1
  obtain ⟨t, rfl⟩ := Int.natAbs_dvd_natAbs.mp d1
  have ex : x = t * a := by
    have h2 : b * x = b * (t * a) := by rw [Int.mul_comm b x, e, Int.mul_assoc]
    exact Int.eq_of_mul_eq_mul_left (by omega) h2
  subst ex
  have t0 : t ≠ 0 := fun z => hy (by rw [z, Int.mul_zero])
  have g : gN (t * a) (b * t) = (t.natAbs : Int) := by
    unfold gN
    rw [Int.natAbs_mul, Int.natAbs_mul, Nat.mul_comm b.natAbs, Nat.gcd_mul_left, show Nat.gcd a.natAbs b.natAbs = 1 from hc, Nat.mul_one]
  have p : prt (t * a) (b * t) = t := by
    unfold prt
    rw [g]
    by_cases s : t < 0
    · rw [if_pos (Int.mul_neg_of_pos_of_neg hb s)]
      omega
    · rw [if_neg (fun z => by
        have := Int.mul_nonneg (show 0 ≤ b by omega) (show 0 ≤ t by omega)
        omega)]
      omega
  unfold lowN lowU
  rw [p]
  exact ⟨Int.mul_fdiv_cancel_left a t0, Int.mul_fdiv_cancel b t0⟩
theorem absLe {a g n : Int} (hg : g ≠ 0) (e : a * g = n) : a.natAbs ≤ n.natAbs := by
  rw [← e, Int.natAbs_mul]
  exact Nat.le_mul_of_pos_right _ (by omega)
theorem lowN_le {n u : Int} (h : u ≠ 0) : (lowN n u).natAbs ≤ n.natAbs := absLe (prt_ne h) (lowN_mul n u)
theorem lowU_le {n u : Int} (h : u ≠ 0) : (lowU n u).natAbs ≤ u.natAbs := absLe (prt_ne h) (lowU_mul n u)
theorem absMul {a b : Int} {x y : Nat} (ha : a.natAbs < 2 ^ x) (hb : b.natAbs < 2 ^ y) : (a * b).natAbs < 2 ^ (x + y) := by
  rw [Int.natAbs_mul, Nat.pow_add]
  exact Nat.mul_lt_mul'' ha hb
theorem absAdd {a b : Int} {x : Nat} (ha : a.natAbs < 2 ^ x) (hb : b.natAbs < 2 ^ x) : (a + b).natAbs < 2 ^ (x + 1) := by
  rw [Nat.pow_succ]; omega
theorem absSub {a b : Int} {x : Nat} (ha : a.natAbs < 2 ^ x) (hb : b.natAbs < 2 ^ x) : (a - b).natAbs < 2 ^ (x + 1) := by
  rw [Nat.pow_succ]; omega
theorem absUp {a : Int} {x y : Nat} (h : x ≤ y) (ha : a.natAbs < 2 ^ x) : a.natAbs < 2 ^ y := Nat.lt_of_lt_of_le ha (Nat.pow_le_pow_right (by decide) h)
theorem abs250 {a : Int} {x : Nat} (ha : a.natAbs < 2 ^ x) (h : x ≤ 200 := by decide) : -(2 ^ 250) < a ∧ a < 2 ^ 250 := by
  have h1 := absUp (show x ≤ 250 by omega) ha
  omega
theorem abs200 {a : Int} {x : Nat} (ha : a.natAbs < 2 ^ x) (h : x ≤ 200 := by decide) : -(2 ^ 200) < a ∧ a < 2 ^ 200 := by
  have h1 := absUp h ha
  omega
theorem back_less {a b c d N U : Int} (hd : 1 ≤ d) (hb : 1 ≤ b) (hU : 0 < U) (hc : CoP a b) (x : (a * d + c * b) * U = (b * d) * N) : lowN (N * d - c * U) (U * d) = a ∧ lowU (N * d - c * U) (U * d) = b := by
  have pos := Int.mul_pos hU (show 0 < d by omega)
  refine low_uniq (by omega) (by omega) hc ?_
  have e1 : N * d * b = (a * d + c * b) * U := by rw [x]; simp only [Int.mul_comm, Int.mul_left_comm]
  rw [Int.sub_mul, e1, Int.add_mul]
  have e2 : c * U * b = c * b * U := by simp only [Int.mul_assoc, Int.mul_comm, Int.mul_left_comm]
  have e3 : U * d * a = a * d * U := by simp only [Int.mul_comm, Int.mul_left_comm]
  rw [e2, e3]; omega
theorem back_times {a b c d N U : Int} (hd : 1 ≤ d) (hb : 1 ≤ b) (hU : 0 < U) (hc : CoP a b) (x : (a * d) * U = (b * c) * N) : lowN (N * c) (U * d) = a ∧ lowU (N * c) (U * d) = b := by
  have pos := Int.mul_pos hU (show 0 < d by omega)
  refine low_uniq (by omega) (by omega) hc ?_
  have e1 : N * c * b = b * c * N := by simp only [Int.mul_comm, Int.mul_left_comm]
  have e3 : U * d * a = a * d * U := by simp only [Int.mul_comm, Int.mul_left_comm]
  rw [e1, e3, x]

def Rt (H : Hp) (p : Addr) (a b : Int) : Prop := H p = some (.tup [.int a, .int b])
def topS (i : Nat) : Stmt := PySem.Challenge.pw_etaparts_k13_whole_ratios_reckoned.main.body.getD i (.Pass ⟨0, 0, 0, 0⟩)
abbrev s_is_integer : Stmt := topS 10
theorem sc_is_integer : FnScope ["value"] ["value"] (defScope s_is_integer) := ⟨rfl, rfl, rfl, by decide +kernel, rfl, by decide +kernel, by decide +kernel⟩
abbrev s_is_pair : Stmt := topS 11
theorem sc_is_pair : FnScope ["value"] ["value"] (defScope s_is_pair) := ⟨rfl, rfl, rfl, by decide +kernel, rfl, by decide +kernel, by decide +kernel⟩
abbrev s_check_integer : Stmt := topS 12
theorem sc_check_integer : FnScope ["number"] ["number"] (defScope s_check_integer) := ⟨rfl, rfl, rfl, by decide +kernel, rfl, by decide +kernel, by decide +kernel⟩
abbrev s_check_digits : Stmt := topS 13
theorem sc_check_digits : FnScope ["numbers", "least_beyond", "number"] ["numbers"] (defScope s_check_digits) := ⟨rfl, rfl, rfl, by decide +kernel, rfl, by decide +kernel, by decide +kernel⟩
abbrev s_is_ratio : Stmt := topS 15
theorem sc_is_ratio : FnScope ["value"] ["value"] (defScope s_is_ratio) := ⟨rfl, rfl, rfl, by decide +kernel, rfl, by decide +kernel, by decide +kernel⟩
abbrev s_check_ratio : Stmt := topS 16
theorem sc_check_ratio : FnScope ["ratio"] ["ratio"] (defScope s_check_ratio) := ⟨rfl, rfl, rfl, by decide +kernel, rfl, by decide +kernel, by decide +kernel⟩
abbrev s_reduced : Stmt := topS 17
theorem sc_reduced : FnScope ["number", "under", "shared", "ratio"] ["number", "under"] (defScope s_reduced) := ⟨rfl, rfl, rfl, by decide +kernel, rfl, by decide +kernel, by decide +kernel⟩
abbrev s_ratio_of : Stmt := topS 18
theorem sc_ratio_of : FnScope ["first", "second"] ["first", "second"] (defScope s_ratio_of) := ⟨rfl, rfl, rfl, by decide +kernel, rfl, by decide +kernel, by decide +kernel⟩
abbrev s_added : Stmt := topS 19
theorem sc_added : FnScope ["one", "other"] ["one", "other"] (defScope s_added) := ⟨rfl, rfl, rfl, by decide +kernel, rfl, by decide +kernel, by decide +kernel⟩
abbrev s_less : Stmt := topS 20
theorem sc_less : FnScope ["one", "other"] ["one", "other"] (defScope s_less) := ⟨rfl, rfl, rfl, by decide +kernel, rfl, by decide +kernel, by decide +kernel⟩
abbrev s_times : Stmt := topS 21
theorem sc_times : FnScope ["one", "other"] ["one", "other"] (defScope s_times) := ⟨rfl, rfl, rfl, by decide +kernel, rfl, by decide +kernel, by decide +kernel⟩
abbrev s_divided : Stmt := topS 22
theorem sc_divided : FnScope ["one", "other"] ["one", "other"] (defScope s_divided) := ⟨rfl, rfl, rfl, by decide +kernel, rfl, by decide +kernel, by decide +kernel⟩
abbrev s_compared : Stmt := topS 23
theorem sc_compared : FnScope ["one", "other", "left", "right"] ["one", "other"] (defScope s_compared) := ⟨rfl, rfl, rfl, by decide +kernel, rfl, by decide +kernel, by decide +kernel⟩
abbrev s_law_pot : Stmt := topS 25
theorem sc_law_pot : FnScope ["script", "k", "cell"] ["script", "k"] (defScope s_law_pot) := ⟨rfl, rfl, rfl, by decide +kernel, rfl, by decide +kernel, by decide +kernel⟩
abbrev s_law_draw : Stmt := topS 26
theorem sc_law_draw : FnScope ["pot", "many", "digit"] ["pot", "many"] (defScope s_law_draw) := ⟨rfl, rfl, rfl, by decide +kernel, rfl, by decide +kernel, by decide +kernel⟩
abbrev s_law_pick : Stmt := topS 27
theorem sc_law_pick : FnScope ["pot", "some"] ["pot", "some"] (defScope s_law_pick) := ⟨rfl, rfl, rfl, by decide +kernel, rfl, by decide +kernel, by decide +kernel⟩
abbrev s_law_gcd : Stmt := topS 28
theorem sc_law_gcd : FnScope ["one", "other"] ["one", "other"] (defScope s_law_gcd) := ⟨rfl, rfl, rfl, by decide +kernel, rfl, by decide +kernel, by decide +kernel⟩
abbrev s_law_low : Stmt := topS 29
theorem sc_law_low : FnScope ["number", "under", "part"] ["number", "under"] (defScope s_law_low) := ⟨rfl, rfl, rfl, by decide +kernel, rfl, by decide +kernel, by decide +kernel⟩
abbrev s_law_ratio : Stmt := topS 30
theorem sc_law_ratio : FnScope ["pot", "wide", "number"] ["pot"] (defScope s_law_ratio) := ⟨rfl, rfl, rfl, by decide +kernel, rfl, by decide +kernel, by decide +kernel⟩
abbrev s_law_pair_right : Stmt := topS 31
theorem sc_law_pair_right : FnScope ["one", "other", "a", "b", "c", "d", "due", "gap", "sign", "told", "value"] ["one", "other"] (defScope s_law_pair_right) := ⟨rfl, rfl, rfl, by decide +kernel, rfl, by decide +kernel, by decide +kernel⟩
abbrev s_law_right : Stmt := topS 32
theorem sc_law_right : FnScope ["pot", "turn", "one", "other", "first", "second"] ["pot"] (defScope s_law_right) := ⟨rfl, rfl, rfl, by decide +kernel, rfl, by decide +kernel, by decide +kernel⟩
abbrev s_law : Stmt := topS 33
theorem sc_law : FnScope ["script"] ["script"] (defScope s_law) := ⟨rfl, rfl, rfl, by decide +kernel, rfl, by decide +kernel, by decide +kernel⟩
structure Tx (K : PySem.W.Frag) (mg : Str → Option Value) where
  f_is_integer : Addr
  fd_is_integer : FuncData
  F_is_integer : Fun K "is_integer" "is_integer" s_is_integer f_is_integer fd_is_integer
  m_is_integer : mg "is_integer" = some (.ref f_is_integer)
  b_is_integer : Binds K fd_is_integer ["value"] []
  f_is_pair : Addr
  fd_is_pair : FuncData
  F_is_pair : Fun K "is_pair" "is_pair" s_is_pair f_is_pair fd_is_pair
  m_is_pair : mg "is_pair" = some (.ref f_is_pair)
  b_is_pair : Binds K fd_is_pair ["value"] []
  f_check_integer : Addr
  fd_check_integer : FuncData
  F_check_integer : Fun K "check_integer" "check_integer" s_check_integer f_check_integer fd_check_integer
  m_check_integer : mg "check_integer" = some (.ref f_check_integer)
  b_check_integer : Binds K fd_check_integer ["number"] []
  f_check_digits : Addr
  fd_check_digits : FuncData
  F_check_digits : Fun K "check_digits" "check_digits" s_check_digits f_check_digits fd_check_digits
  m_check_digits : mg "check_digits" = some (.ref f_check_digits)
  b_check_digits : Binds K fd_check_digits ["numbers"] []
  f_is_ratio : Addr
  fd_is_ratio : FuncData
  F_is_ratio : Fun K "is_ratio" "is_ratio" s_is_ratio f_is_ratio fd_is_ratio
  m_is_ratio : mg "is_ratio" = some (.ref f_is_ratio)
  b_is_ratio : Binds K fd_is_ratio ["value"] []
  f_check_ratio : Addr
  fd_check_ratio : FuncData
  F_check_ratio : Fun K "check_ratio" "check_ratio" s_check_ratio f_check_ratio fd_check_ratio
  m_check_ratio : mg "check_ratio" = some (.ref f_check_ratio)
  b_check_ratio : Binds K fd_check_ratio ["ratio"] []
  f_reduced : Addr
  fd_reduced : FuncData
  F_reduced : Fun K "reduced" "reduced" s_reduced f_reduced fd_reduced
  m_reduced : mg "reduced" = some (.ref f_reduced)
  b_reduced : Binds K fd_reduced ["number", "under"] []
  f_ratio_of : Addr
  fd_ratio_of : FuncData
  F_ratio_of : Fun K "ratio_of" "ratio_of" s_ratio_of f_ratio_of fd_ratio_of
  m_ratio_of : mg "ratio_of" = some (.ref f_ratio_of)
  b_ratio_of : Binds K fd_ratio_of ["first", "second"] []
  f_added : Addr
  fd_added : FuncData
  F_added : Fun K "added" "added" s_added f_added fd_added
  m_added : mg "added" = some (.ref f_added)
  b_added : Binds K fd_added ["one", "other"] []
  f_less : Addr
  fd_less : FuncData
  F_less : Fun K "less" "less" s_less f_less fd_less
  m_less : mg "less" = some (.ref f_less)
  b_less : Binds K fd_less ["one", "other"] []
  f_times : Addr
  fd_times : FuncData
  F_times : Fun K "times" "times" s_times f_times fd_times
  m_times : mg "times" = some (.ref f_times)
  b_times : Binds K fd_times ["one", "other"] []
  f_divided : Addr
  fd_divided : FuncData
  F_divided : Fun K "divided" "divided" s_divided f_divided fd_divided
  m_divided : mg "divided" = some (.ref f_divided)
  b_divided : Binds K fd_divided ["one", "other"] []
  f_compared : Addr
  fd_compared : FuncData
  F_compared : Fun K "compared" "compared" s_compared f_compared fd_compared
  m_compared : mg "compared" = some (.ref f_compared)
  b_compared : Binds K fd_compared ["one", "other"] []
  f_law_pot : Addr
  fd_law_pot : FuncData
  F_law_pot : Fun K "_law_pot" "_law_pot" s_law_pot f_law_pot fd_law_pot
  m_law_pot : mg "_law_pot" = some (.ref f_law_pot)
  b_law_pot : Binds K fd_law_pot ["script", "k"] []
  f_law_draw : Addr
  fd_law_draw : FuncData
  F_law_draw : Fun K "_law_draw" "_law_draw" s_law_draw f_law_draw fd_law_draw
  m_law_draw : mg "_law_draw" = some (.ref f_law_draw)
  b_law_draw : Binds K fd_law_draw ["pot", "many"] []
  f_law_pick : Addr
  fd_law_pick : FuncData
  F_law_pick : Fun K "_law_pick" "_law_pick" s_law_pick f_law_pick fd_law_pick
  m_law_pick : mg "_law_pick" = some (.ref f_law_pick)
  b_law_pick : Binds K fd_law_pick ["pot", "some"] []
  f_law_gcd : Addr
  fd_law_gcd : FuncData
  F_law_gcd : Fun K "_law_gcd" "_law_gcd" s_law_gcd f_law_gcd fd_law_gcd
  m_law_gcd : mg "_law_gcd" = some (.ref f_law_gcd)
  b_law_gcd : Binds K fd_law_gcd ["one", "other"] []
  f_law_low : Addr
  fd_law_low : FuncData
  F_law_low : Fun K "_law_low" "_law_low" s_law_low f_law_low fd_law_low
  m_law_low : mg "_law_low" = some (.ref f_law_low)
  b_law_low : Binds K fd_law_low ["number", "under"] []
  f_law_ratio : Addr
  fd_law_ratio : FuncData
  F_law_ratio : Fun K "_law_ratio" "_law_ratio" s_law_ratio f_law_ratio fd_law_ratio
  m_law_ratio : mg "_law_ratio" = some (.ref f_law_ratio)
  b_law_ratio : Binds K fd_law_ratio ["pot"] []
  f_law_pair_right : Addr
  fd_law_pair_right : FuncData
  F_law_pair_right : Fun K "_law_pair_right" "_law_pair_right" s_law_pair_right f_law_pair_right fd_law_pair_right
  m_law_pair_right : mg "_law_pair_right" = some (.ref f_law_pair_right)
  b_law_pair_right : Binds K fd_law_pair_right ["one", "other"] []
  f_law_right : Addr
  fd_law_right : FuncData
  F_law_right : Fun K "_law_right" "_law_right" s_law_right f_law_right fd_law_right
  m_law_right : mg "_law_right" = some (.ref f_law_right)
  b_law_right : Binds K fd_law_right ["pot"] []
  f_law : Addr
  fd_law : FuncData
  F_law : Fun K "law" "law" s_law f_law fd_law
  m_law : mg "law" = some (.ref f_law)
  b_law : Binds K fd_law ["script"] []
  kb_times_0 : KBinds K fd_times ["one", "other"] ["other", "one"] (fun us ws => match us, ws with | [], [ws0, ws1] => [ws1, ws0] | _, _ => []) (fun us ws => match us, ws with | [], [ws0, ws1] => [ws1, ws0] | _, _ => [])
  kb_less_1 : KBinds K fd_less ["one", "other"] ["other", "one"] (fun us ws => match us, ws with | [], [ws0, ws1] => [ws1, ws0] | _, _ => []) (fun us ws => match us, ws with | [], [ws0, ws1] => [ws1, ws0] | _, _ => [])
  kb_added_2 : KBinds K fd_added ["one", "other"] ["other", "one"] (fun us ws => match us, ws with | [], [ws0, ws1] => [ws1, ws0] | _, _ => []) (fun us ws => match us, ws with | [], [ws0, ws1] => [ws1, ws0] | _, _ => [])
  kb_compared_3 : KBinds K fd_compared ["one", "other"] ["other", "one"] (fun us ws => match us, ws with | [], [ws0, ws1] => [ws1, ws0] | _, _ => []) (fun us ws => match us, ws with | [], [ws0, ws1] => [ws1, ws0] | _, _ => [])
  kb_divided_4 : KBinds K fd_divided ["one", "other"] ["other", "one"] (fun us ws => match us, ws with | [], [ws0, ws1] => [ws1, ws0] | _, _ => []) (fun us ws => match us, ws with | [], [ws0, ws1] => [ws1, ws0] | _, _ => [])
  kb_ratio_of_5 : KBinds K fd_ratio_of ["first", "second"] ["second", "first"] (fun us ws => match us, ws with | [], [ws0, ws1] => [ws1, ws0] | _, _ => []) (fun us ws => match us, ws with | [], [ws0, ws1] => [ws1, ws0] | _, _ => [])
  z_abs : mg "abs" = none
  z_all : mg "all" = none
  z_any : mg "any" = none
  z_bool : mg "bool" = none
  z_divmod : mg "divmod" = none
  z_int : mg "int" = none
  z_isinstance : mg "isinstance" = none
  z_len : mg "len" = none
  z_max : mg "max" = none
  z_range : mg "range" = none
  z_repr : mg "repr" = none
  z_tuple : mg "tuple" = none
  m_gcd : mg "gcd" = some (.builtin "math.gcd")
section
variable {P : Program} {w : World} {K : PySem.W.Frag} {mg : Str → Option Value} {base : Heap}

theorem ok_law_draw (T : Tx K mg) : FnOk P w K mg base CX0 1 T.f_law_draw T.fd_law_draw ["pot", "many"] spDraw := by
  refine T.F_law_draw.ok sc_law_draw (fun vs H Q E h => ?_) (fun cdv A outer s H vs Q E hr h => ?_)
  · obtain ⟨a, m, rfl, _⟩ := h
    rfl
  · obtain ⟨a, m, rfl, ⟨p0, p1, hp, h0, h1, h2⟩, m0, m1, q⟩ := h
    refine ⟨_, (pss_cons (ps_if (pt_cmpR op_gt (pe_ix ix_list (pv 0) pe_int (fun _ _ => rfl)) pe_int (nomark _)) (pss_cons (ps_asg (pe_callB call_divmod (by rfl) T.z_divmod (by decide +kernel) (pa_cons (pe_ix ix_list (pv 0) pe_int (fun _ _ => rfl)) (pa_cons (pv 1) pa_nil))) (pg_tup rfl (pgs_cons (pg_sub (pv 0) pe_int set_list) (pgs_cons (pg_name (i := 2) sc_law_draw.nd rfl (.inl rfl)) pgs_nil))))
  (pss_one (ps_ret (pv 2)))) pss_nil)
  (pss_cons (ps_asg (pe_op op_mod (pe_callTy call_int1 (by rfl) T.z_int (by decide +kernel) (pa_cons (pe_op op_add (pe_op op_mul (pe_ix ix_list (pv 0) pe_int (fun _ _ => rfl)) pe_int) pe_int) pa_nil)) pe_int) (pg_sub (pv 0) pe_int set_list))
  (pss_one (ps_ret (pe_op op_mod (pe_callTy call_int1 (by rfl) T.z_int (by decide +kernel) (pa_cons (pe_op op_fdiv (pe_op op_mod (pe_callTy call_int1 (by rfl) T.z_int (by decide +kernel) (pa_cons (pe_op op_mul (pe_ix ix_list (pv 0) pe_int (fun _ _ => rfl)) (pe_ix ix_list (pv 0) pe_int (fun _ _ => rfl))) pa_nil)) pe_int) pe_int) pa_nil)) (pv 1)))))), ?_⟩
    -- if pot[0] > 0
    refine ⟨.ref a, rfl, a, _, 0, .int p0, rfl, rfl, sqL hp, rfl, p0, 0, rfl, rfl, _, rfl, ite2 (fun c => ?_) (fun c => ?_)⟩
    · refine ⟨.ref a, rfl, a, _, 0, .int p0, rfl, rfl, sqL hp, rfl, .int m, rfl, p0, m, rfl, ⟨m0, m1⟩, fun t nt => ?_⟩
      have nta : a ≠ t := ne_of_none hp nt
      have hp1 : (upd H t (.tup [.int (p0 / m), .int (p0 % m)])) a = some (.lst [.int p0, .int p1]) := by rw [upd_ne nta]; exact hp
      refine ⟨t, _, rfl, sqT upd_same, rfl, .int (p0 / m), _, rfl, ?_⟩
      refine ⟨.ref a, rfl, a, _, 0, 0, rfl, rfl, hp1, rfl, ?_⟩
      refine ⟨.int (p0 % m), _, rfl, rfl, ?_⟩
      refine ⟨_, rfl, ?_⟩
      refine q (p0 % m) _ (Int.emod_nonneg _ (by omega)) (Int.emod_lt_of_pos _ m0) ?_ ?_
      · exact (Kp.new nt).bt.trans Bt.upd
      · exact ⟨p0 / m, p1, upd_same, Int.ediv_nonneg h0 (by omega), h1, h2⟩
    · -- pot[1] is turned on
      refine ⟨.ref a, rfl, a, _, 1, .int p1, rfl, rfl, sqL hp, rfl, p1, _, rfl, rfl, .inl ⟨by omega, by omega⟩, _, _, rfl, rfl, .inl ⟨_, rfl, _, _, rfl, rfl, (show (0 : Int) < 2147483587 by decide), ?_⟩⟩
      have b0 := Int.emod_nonneg (p1 * 39373 + 1321) (show (2147483587 : Int) ≠ 0 by decide)
      have b1 := Int.emod_lt_of_pos (p1 * 39373 + 1321) (show (0 : Int) < 2147483587 by decide)
      refine ⟨.ref a, rfl, a, _, 1, 1, rfl, rfl, hp, rfl, ?_⟩
      have hp2 : (upd H a (.lst [.int p0, .int ((p1 * 39373 + 1321) % 2147483587)])) a = some (.lst [.int p0, .int ((p1 * 39373 + 1321) % 2147483587)]) := upd_same
      refine ⟨.ref a, rfl, a, _, 1, _, rfl, rfl, sqL hp2, rfl, .ref a, rfl, a, _, 1, _, rfl, rfl, sqL hp2, rfl, _, _, rfl, rfl, .inl ⟨by omega, by omega⟩, .inl ⟨_, rfl, _, _, rfl, rfl, (show (0 : Int) < 2147483563 by decide), ?_⟩⟩
      refine ⟨_, _, rfl, rfl, ⟨by decide, by decide⟩, .inl ⟨_, rfl, .int m, rfl, _, m, rfl, rfl, m0, ?_⟩⟩
      exact q _ _ (Int.emod_nonneg _ (by omega)) (Int.emod_lt_of_pos _ m0) Bt.upd ⟨p0, _, upd_same, h0, b0, by omega⟩

theorem ok_law_pot (T : Tx K mg) : FnOk P w K mg base CX0 1 T.f_law_pot T.fd_law_pot ["script", "k"] (spPot K) := by
  refine T.F_law_pot.ok sc_law_pot (fun vs H Q E h => ?_) (fun cdv A outer s H vs Q E hr h => ?_)
  · obtain ⟨a, ns, rfl, _⟩ := h
    rfl
  · obtain ⟨a, ns, rfl, hS, hl, q⟩ := h
    refine ⟨_, (pss_cons (ps_set (i := 2) sc_law_pot.nd rfl (.inl rfl) (pe_op op_add (pe_op op_mul pe_int (pv 1)) pe_int))
  (pss_cons (ps_if (pt_cmpR op_lt (pv 1) (pe_callB call_len_seq (by rfl) T.z_len (by decide +kernel) (pa_cons (pv 0) pa_nil)) (nomark _)) (pss_one (ps_set (i := 2) sc_law_pot.nd rfl (.inl rfl) (pe_callB call_abs (by rfl) T.z_abs (by decide +kernel) (pa_cons (pe_ix ix_list (pv 0) (pv 1) (fun _ _ => rfl)) pa_nil)))) pss_nil)
  (pss_one (ps_ret (pe_lst (pa_cons (pe_callB (call_max2 rfl) (by rfl) T.z_max (by decide +kernel) (pa_cons pe_int (pa_cons (pe_op op_sub (pv 2) (pe_op op_pow pe_int pe_int)) pa_nil))) (pa_cons (pe_op op_add (pe_op op_mod (pe_callTy call_int1 (by rfl) T.z_int (by decide +kernel) (pa_cons (pe_op op_add (pe_op op_add (pe_op op_mul (pe_op op_mod (pe_callTy call_int1 (by rfl) T.z_int (by decide +kernel) (pa_cons (pv 2) pa_nil)) pe_int) pe_int) (pe_op op_mul pe_int (pv 1))) pe_int) pa_nil)) pe_int) pe_int) pa_nil))))))), ?_⟩
    refine ⟨.int 0, rfl, 1523, 0, rfl, rfl, .inl ⟨by decide, by decide⟩, _, _, rfl, rfl, ?_⟩
    refine ⟨.int 0, rfl, .ref a, rfl, a, _, rfl, .inl hS, 0, _, rfl, rfl, _, rfl, ite2 (fun c => ?_) (fun c => ?_)⟩
    obtain ⟨x, r, rfl⟩ : ∃ x r, ns = x :: r := by
      cases ns with
      | nil => cases c
      | cons x r => exact ⟨x, r, rfl⟩
    refine ⟨.ref a, rfl, .int 0, rfl, a, _, 0, .int x, rfl, rfl, hS, atI_nat (j := 0) rfl, _, rfl, ?_⟩
    all_goals
      refine ⟨_, rfl, 10, 18, rfl, rfl, ⟨by decide, by decide, by decide⟩, _, _, rfl, rfl, _, _, rfl, ?_⟩
      refine ⟨_, rfl, .inl ⟨_, rfl, _, _, rfl, rfl, (show (0 : Int) < 2147483549 by decide), ?_⟩⟩
    all_goals
      have e0 : ∀ z : Int, 0 ≤ z % 2147483549 := fun z => Int.emod_nonneg z (by decide)
      have e1 : ∀ z : Int, z % 2147483549 < 2147483549 := fun z => Int.emod_lt_of_pos z (by decide)
      refine ⟨_, _, rfl, rfl, .inl ⟨Int.lt_of_lt_of_le (by decide) (e0 _), Int.lt_trans (e1 _) (by decide)⟩, ?_⟩
    all_goals
      refine ⟨.int 0, rfl, _, _, rfl, rfl, .inl ⟨by decide, by decide⟩, _, _, rfl, rfl, _, _, rfl, rfl, .inl ⟨_, rfl, _, _, rfl, rfl, (show (0 : Int) < 2147483563 by decide), ?_⟩⟩
    all_goals
      have f0 : ∀ z : Int, 0 ≤ z % 2147483563 := fun z => Int.emod_nonneg z (by decide)
      have f1 : ∀ z : Int, z % 2147483563 < 2147483563 := fun z => Int.emod_lt_of_pos z (by decide)
      refine ⟨_, _, rfl, rfl, szOk (show 2 ≤ 100000 by decide), fun p hp => q p _ hp (Kp.new hp) ⟨_, _, upd_same, ?_, Int.add_nonneg (f0 _) (by decide), ?_⟩⟩
    all_goals first
      | exact Int.lt_of_lt_of_le (Int.add_lt_add_right (f1 _) 1) (by decide)
      | (split <;> omega)

theorem ok_law_pick (T : Tx K mg) : FnOk P w K mg base CX0 2 T.f_law_pick T.fd_law_pick ["pot", "some"] (spPick K) := by
  have G_law_draw := ok_law_draw (P := P) (w := w) (base := base) T
  refine T.F_law_pick.ok sc_law_pick (fun vs H Q E h => ?_) (fun cdv A outer s H vs Q E hr h => ?_)
  · obtain ⟨a, b, xs, rfl, _⟩ := h
    rfl
  · obtain ⟨a, b, xs, rfl, hp, nb, hS, l0, l1, q⟩ := h
    refine ⟨_, (pss_one (ps_ret (pe_ix ix_list (pv 1) (pe_call G_law_draw (hr.mono (by decide)) (by rfl) T.m_law_draw T.F_law_draw.kp T.b_law_draw .nil pass0 (pa_cons (pv 0) (pa_cons (pe_callB call_len_seq (by rfl) T.z_len (by decide +kernel) (pa_cons (pv 1) pa_nil)) pa_nil))) (fun _ _ => rfl)))), ?_⟩
    refine ⟨.ref b, rfl, .ref a, rfl, .ref b, rfl, b, xs, rfl, .inl hS, ?_⟩
    refine ⟨a, _, rfl, hp, by omega, by omega, fun d H1 d0 d1 k p1 => ?_⟩
    have hd : d.toNat < xs.length := by omega
    have ed : d = ((d.toNat : Nat) : Int) := by omega
    rw [ed]
    refine ⟨b, xs, _, xs[d.toNat], rfl, rfl, k.sq nb hS, atI_nat (List.getElem?_eq_getElem hd), ?_⟩
    exact q _ _ (List.getElem_mem hd) k p1

def spIsInteger : Sp := fun vs H Q _ => ∃ i : Int, vs = [.int i] ∧ Q (.bl true) H
theorem ok_is_integer (T : Tx K mg) : FnOk P w K mg base CX0 1 T.f_is_integer T.fd_is_integer ["value"] spIsInteger := by
  refine T.F_is_integer.ok sc_is_integer (fun vs H Q E h => ?_) (fun cdv A outer s H vs Q E hr h => ?_)
  · obtain ⟨i, rfl, _⟩ := h
    rfl
  · obtain ⟨i, rfl, q⟩ := h
    refine ⟨_, (pss_one (ps_ret (pe_and (pe_callB call_isi (by rfl) T.z_isinstance (by decide +kernel) (pa_cons (pv 0) (pa_cons (pe_bltn (v := .ty "int") (by rfl) T.z_int (by decide +kernel) rfl) pa_nil))) (pe_one (pe_not (pe_callB call_isi (by rfl) T.z_isinstance (by decide +kernel) (pa_cons (pv 0) (pa_cons (pe_bltn (v := .ty "bool") (by rfl) T.z_bool (by decide +kernel) rfl) pa_nil)))))))), ?_⟩
    refine ⟨.int i, rfl, _, _, .type "int", .type "int", true, rfl, .ty _, .base (.int i), kit_ty (by decide +kernel), true, rfl, ?_⟩
    exact ⟨.int i, rfl, _, _, .type "int", .type "bool", false, rfl, .ty _, .base (.int i), kit_ty (by decide +kernel), false, rfl, q⟩

def spCheckInteger : Sp := fun vs H Q _ => ∃ i : Int, vs = [.int i] ∧ Q .non H
theorem ok_check_integer (T : Tx K mg) : FnOk P w K mg base CX0 2 T.f_check_integer T.fd_check_integer ["number"] spCheckInteger := by
  have G_is_integer := ok_is_integer (P := P) (w := w) (base := base) T
  refine T.F_check_integer.ok sc_check_integer (fun vs H Q E h => ?_) (fun cdv A outer s H vs Q E hr h => ?_)
  · obtain ⟨i, rfl, _⟩ := h
    rfl
  · obtain ⟨i, rfl, q⟩ := h
    refine ⟨_, (pss_one (ps_if (pt_not (pt_val (pe_call G_is_integer (hr.mono (by decide)) (by rfl) T.m_is_integer T.F_is_integer.kp T.b_is_integer .nil pass0 (pa_cons (pv 0) pa_nil)))) (pss_one ps_never) pss_nil)), ?_⟩
    exact ⟨.int i, rfl, i, rfl, true, rfl, q⟩

def spIsPair : Sp := fun vs H Q _ => ∃ (p : Addr) (a b : Int), vs = [.ref p] ∧ Rt H p a b ∧ Q (.bl true) H
theorem ok_is_pair (T : Tx K mg) : FnOk P w K mg base CX0 1 T.f_is_pair T.fd_is_pair ["value"] spIsPair := by
  refine T.F_is_pair.ok sc_is_pair (fun vs H Q E h => ?_) (fun cdv A outer s H vs Q E hr h => ?_)
  · obtain ⟨p, a, b, rfl, _⟩ := h
    rfl
  · obtain ⟨p, a, b, rfl, hp, q⟩ := h
    refine ⟨_, (pss_one (ps_ret (pe_and (pe_callB call_isi (by rfl) T.z_isinstance (by decide +kernel) (pa_cons (pv 0) (pa_cons (pe_bltn (v := .ty "tuple") (by rfl) T.z_tuple (by decide +kernel) rfl) pa_nil))) (pe_one (pe_cmpR op_eq (pe_callB call_len_seq (by rfl) T.z_len (by decide +kernel) (pa_cons (pv 0) pa_nil)) pe_int (nomark _)))))), ?_⟩
    refine ⟨.ref p, rfl, _, _, .type "tuple", .type "tuple", true, rfl, .ty _, .base (.tup hp), kit_ty (by decide +kernel), true, rfl, ?_⟩
    exact ⟨.ref p, rfl, p, _, rfl, .inr (sqT hp), rfl, q⟩

def spIsRatio : Sp := fun vs H Q _ => ∃ (p : Addr) (a b : Int), vs = [.ref p] ∧ Rt H p a b ∧ 1 ≤ b ∧ CoP a b ∧ Q (.bl true) H
theorem ok_is_ratio (T : Tx K mg) : FnOk P w K mg base CX0 2 T.f_is_ratio T.fd_is_ratio ["value"] spIsRatio := by
  have G_is_integer := ok_is_integer (P := P) (w := w) (base := base) T
  have G_is_pair := ok_is_pair (P := P) (w := w) (base := base) T
  refine T.F_is_ratio.ok sc_is_ratio (fun vs H Q E h => ?_) (fun cdv A outer s H vs Q E hr h => ?_)
  · obtain ⟨p, a, b, rfl, _⟩ := h
    rfl
  · obtain ⟨p, a, b, rfl, hp, hb, hc, q⟩ := h
    refine ⟨_, (pss_cons (ps_if (PW.pt (pw_or (pt_not (pt_val (pe_call G_is_pair (hr.mono (by decide)) (by rfl) T.m_is_pair T.F_is_pair.kp T.b_is_pair .nil pass0 (pa_cons (pv 0) pa_nil)))) (pw_or (pt_not (pt_val (pe_call G_is_integer (hr.mono (by decide)) (by rfl) T.m_is_integer T.F_is_integer.kp T.b_is_integer .nil pass0 (pa_cons (pe_ix ix_tup (pv 0) pe_int (fun _ _ => rfl)) pa_nil)))) (pw_or1 (pt_not (pt_val (pe_call G_is_integer (hr.mono (by decide)) (by rfl) T.m_is_integer T.F_is_integer.kp T.b_is_integer .nil pass0 (pa_cons (pe_ix ix_tup (pv 0) pe_int (fun _ _ => rfl)) pa_nil)))))))) (pss_one (ps_ret pe_bl)) pss_nil)
  (pss_one (ps_ret (pe_and (pe_cmpR op_ge (pe_ix ix_tup (pv 0) pe_int (fun _ _ => rfl)) pe_int (nomark _)) (pe_one (pe_cmpR op_eq (pe_callBfun cr_gcd (by rfl) T.m_gcd (pa_cons (pe_ix ix_tup (pv 0) pe_int (fun _ _ => rfl)) (pa_cons (pe_ix ix_tup (pv 0) pe_int (fun _ _ => rfl)) pa_nil))) pe_int (nomark _))))))), ?_⟩
    refine ⟨.ref p, rfl, p, a, b, rfl, hp, true, rfl, ?_⟩
    refine ⟨.ref p, rfl, p, _, 0, .int a, rfl, rfl, sqT hp, rfl, a, rfl, true, rfl, ?_⟩
    refine ⟨.ref p, rfl, p, _, 1, .int b, rfl, rfl, sqT hp, rfl, b, rfl, true, rfl, ?_⟩
    refine ⟨.ref p, rfl, p, _, 1, .int b, rfl, rfl, sqT hp, rfl, b, 1, rfl, rfl, true, by simp [hb], ?_⟩
    refine ⟨.ref p, rfl, p, _, 0, .int a, rfl, rfl, sqT hp, rfl, .ref p, rfl, p, _, 1, .int b, rfl, rfl, sqT hp, rfl, a, b, rfl, rfl, ?_⟩
    rw [show Nat.gcd a.natAbs b.natAbs = 1 from hc]
    exact q

def spCheckRatio : Sp := fun vs H Q _ => ∃ (p : Addr) (a b : Int), vs = [.ref p] ∧ Rt H p a b ∧ 1 ≤ b ∧ CoP a b ∧ Q .non H
theorem ok_check_ratio (T : Tx K mg) : FnOk P w K mg base CX0 3 T.f_check_ratio T.fd_check_ratio ["ratio"] spCheckRatio := by
  have G_is_ratio := ok_is_ratio (P := P) (w := w) (base := base) T
  refine T.F_check_ratio.ok sc_check_ratio (fun vs H Q E h => ?_) (fun cdv A outer s H vs Q E hr h => ?_)
  · obtain ⟨p, a, b, rfl, _⟩ := h
    rfl
  · obtain ⟨p, a, b, rfl, hp, hb, hc, q⟩ := h
    refine ⟨_, (pss_one (ps_if (pt_not (pt_val (pe_call G_is_ratio (hr.mono (by decide)) (by rfl) T.m_is_ratio T.F_is_ratio.kp T.b_is_ratio .nil pass0 (pa_cons (pv 0) pa_nil)))) (pss_one ps_never) pss_nil)), ?_⟩
    exact ⟨.ref p, rfl, p, a, b, rfl, hp, hb, hc, true, rfl, q⟩

def spCheckDigits : Sp := fun vs H Q _ => ∃ (p : Addr) (xs : List Int), vs = [.ref p] ∧ H p = some (.tup (xs.map V.int)) ∧ xs.length ≤ 1000 ∧ (∀ x ∈ xs, -(2 ^ 250) < x ∧ x < 2 ^ 250) ∧ ∀ H', Kp H H' → Q .non H'
theorem ok_check_digits (T : Tx K mg) : FnOk P w K mg base CX0 1 T.f_check_digits T.fd_check_digits ["numbers"] spCheckDigits := by
  refine T.F_check_digits.ok sc_check_digits (fun vs H Q E h => ?_) (fun cdv A outer s H vs Q E hr h => ?_)
  · obtain ⟨p, xs, rfl, _⟩ := h
    rfl
  · obtain ⟨p, xs, rfl, hp, hl, hx, q⟩ := h
    refine ⟨_, (pss_cons (ps_set (i := 1) sc_check_digits.nd rfl (.inr rfl) (pe_op op_powX (pe_op op_powX pe_int pe_int) pe_int))
  (pss_one (ps_if (pt_val (pe_callB (cr_any rfl) (by rfl) T.z_any (by decide +kernel) (pa_cons (pe_lc (own := [("number", 2)]) (g := gName 2) (tt := tYes) (by rfl) sc_check_digits.nd (pi_tup (pv 0)) (blkOk_by (own := [("number", 2)]) (N := ["numbers", "least_beyond", "number"]) (sc := defScope s_check_digits) (by decide +kernel)) (fun _ _ _ _ _ => pg_name (i := 2) sc_check_digits.nd rfl (.inl rfl)) (fun _ _ _ _ _ => pts_nil) (fun _ _ _ _ _ => (pe_cmpR op_ge (pe_callB call_abs (by rfl) T.z_abs (by decide +kernel) (pa_cons (pv 2) pa_nil)) (pv 1) (nomark _)))) pa_nil))) (pss_one ps_never) pss_nil))), ?_⟩
    refine ⟨10, 50, rfl, rfl, ⟨by decide, by decide +kernel⟩, _, 8, rfl, rfl, ⟨by decide, by decide +kernel⟩, ?_⟩
    refine ⟨.ref p, rfl, p, rfl, ⟨_, sqT hp⟩, fun D hD => ?_⟩
    refine lc_tup (K := K) (a := p) (xs := xs.map V.int) (fun i H2 => H2 D = some (.lst ((List.replicate i false).map V.bl)) ∧ Kp H H2) ⟨upd_same, Kp.new hD⟩ (fun i H2 _ h2 => h2.2.st (sqT hp)) ?_ ?_
    · rintro i y H2 hi ⟨e2, k2⟩
      obtain ⟨x, hxi, rfl⟩ : ∃ x, xs[i]? = some x ∧ y = V.int x := by
        rw [List.getElem?_map] at hi
        cases e : xs[i]? with
        | none => rw [e] at hi; cases hi
        | some x => rw [e] at hi; exact ⟨x, rfl, (Option.some.inj hi).symm⟩
      have hm : x ∈ xs := List.mem_of_getElem? hxi
      have hlt : i < xs.length := (List.getElem?_eq_some_iff.mp hxi).1
      have hb := beyond (hx x hm)
      refine ⟨rfl, ?_⟩
      refine ⟨.int x, rfl, x, rfl, _, rfl, _, _, rfl, rfl, ?_⟩
      refine ⟨_, e2, szLt (by rw [List.length_map, List.length_replicate]; omega), ?_, ?_⟩
      · rw [upd_same, List.replicate_succ', List.map_append]
        refine congrArg (fun z => some (HO.lst (_ ++ [V.bl z]))) (decide_eq_false ?_)
        exact Int.not_le.mpr hb
      · intro b u z
        rw [upd_ne (ne_of_none z hD)]
        exact k2 b u z
    · rintro H2 ⟨e2, k2⟩
      refine ⟨D, _, rfl, sqL e2, false, ?_, ?_⟩
      · have : (List.replicate (xs.map V.int).length false).any id = false := by simp
        rw [this]
      · exact q H2 k2

def spReduced : Sp := fun vs H Q _ => ∃ n u : Int, vs = [.int n, .int u] ∧ u ≠ 0 ∧ n.natAbs < 2 ^ 200 ∧ u.natAbs < 2 ^ 200 ∧ ∀ p H', H p = none → Kp H H' → Rt H' p (lowN n u) (lowU n u) → Q (.ref p) H'
theorem ok_reduced (T : Tx K mg) : FnOk P w K mg base CX0 2 T.f_reduced T.fd_reduced ["number", "under"] spReduced := by
  have G_check_digits := ok_check_digits (P := P) (w := w) (base := base) T
  refine T.F_reduced.ok sc_reduced (fun vs H Q E h => ?_) (fun cdv A outer s H vs Q E hr h => ?_)
  · obtain ⟨n, u, rfl, _⟩ := h
    rfl
  · obtain ⟨n, u, rfl, hu, n1, u1, q⟩ := h
    refine ⟨_, (pss_cons (ps_set (i := 2) sc_reduced.nd rfl (.inl rfl) (pe_callBfun cr_gcd (by rfl) T.m_gcd (pa_cons (pv 0) (pa_cons (pv 1) pa_nil))))
  (C8.pss_cut (ps_if (pt_cmpR op_lt (pv 1) pe_int (nomark _)) (pss_one (ps_set (i := 2) sc_reduced.nd rfl (.inl rfl) (pe_un un_neg (pv 2)))) pss_nil)
  (pss_cons (ps_set (i := 3) sc_reduced.nd rfl (.inl rfl) (pe_tup (pa_cons (pe_op op_fdivX (pv 0) (pv 2)) (pa_cons (pe_op op_fdivX (pv 1) (pv 2)) pa_nil))))
  (pss_cons (ps_expr (pe_call G_check_digits (hr.mono (by decide)) (by rfl) T.m_check_digits T.F_check_digits.kp T.b_check_digits .nil pass0 (pa_cons (pv 3) pa_nil)))
  (pss_one (ps_ret (pv 3))))))), ?_⟩
    have pn := prt_ne (n := n) hu
    have pa : (prt n u).natAbs < 2 ^ 8000 := by
      rw [prt_abs]
      have : Nat.gcd n.natAbs u.natAbs ≤ u.natAbs := Nat.gcd_le_right _ (by omega)
      exact Nat.lt_of_le_of_lt this (Nat.lt_of_lt_of_le u1 (Nat.pow_le_pow_right (by decide) (by decide)))
    refine ⟨.int n, rfl, .int u, rfl, n, u, rfl, ?_⟩
    refine ⟨fun σ H3 => σ = [some (.int n), some (.int u), some (.int (prt n u)), none] ∧ H3 = H, ?_, ?_⟩
    · refine ⟨.int u, rfl, u, 0, rfl, rfl, _, rfl, ite2 (fun c => ?_) (fun c => ?_)⟩
      · have c1 : u < 0 := of_decide_eq_true c
        refine ⟨_, rfl, _, rfl, ?_, rfl⟩
        unfold prt gN
        rw [if_pos c1]
        rfl
      · have c1 : ¬ u < 0 := fun z => c (decide_eq_true z)
        refine ⟨?_, rfl⟩
        unfold prt gN
        rw [if_neg c1]
        rfl
    · rintro σ H3 ⟨rfl, rfl⟩
      refine ⟨.int n, rfl, .int (prt n u), rfl, n, _, rfl, rfl, ⟨pn, pa⟩, .int u, rfl, .int (prt n u), rfl, u, _, rfl, rfl, ⟨pn, pa⟩, szOk (show 2 ≤ 100000 by decide), fun t nt => ?_⟩
      have b1 := abs250 (Nat.lt_of_le_of_lt (lowN_le (n := n) hu) n1)
      have b2 := abs250 (Nat.lt_of_le_of_lt (lowU_le (n := n) hu) u1)
      refine ⟨.ref t, rfl, t, [lowN n u, lowU n u], rfl, upd_same, (show 2 ≤ 1000 by decide), ?_, fun H4 k4 => ?_⟩
      · intro x hx
        simp only [List.mem_cons, List.not_mem_nil, or_false] at hx
        rcases hx with e | e <;> rw [e] <;> assumption
      · exact ⟨.ref t, rfl, q t H4 nt ((Kp.new nt).trans k4) (k4 _ _ upd_same)⟩

end
end K13

namespace K13
open PySem PySem.Spec PyProof.Rows L2 EP
section
variable {P : Program} {w : World} {K : PySem.W.Frag} {mg : Str → Option Value} {base : Heap}

/-- a ratio of numbers of at most 90 bits -/
structure Gd (a b : Int) : Prop where
  pos : 1 ≤ b
  cop : CoP a b
  na : a.natAbs < 2 ^ 90
  nb : b.natAbs < 2 ^ 90
def spOp (X Y : Int → Int → Int → Int → Int) : Sp := fun vs H Q _ => ∃ (p r : Addr) (a b c d : Int), vs = [.ref p, .ref r] ∧ Rt H p a b ∧ Rt H r c d ∧ Gd a b ∧ Gd c d ∧ Y a b c d ≠ 0 ∧
  ∀ t H', H t = none → Kp H H' → Rt H' t (lowN (X a b c d) (Y a b c d)) (lowU (X a b c d) (Y a b c d)) → Q (.ref t) H'
theorem wm {a b : Int} (ha : a.natAbs < 2 ^ 90) (hb : b.natAbs < 2 ^ 90) : CMulW a b := wide_mul ha hb (by decide) (by decide) (by decide)
theorem mulPos {a b : Int} (ha : 1 ≤ a) (hb : 1 ≤ b) : a * b ≠ 0 := by
  have := Int.mul_pos (show 0 < a by omega) (show 0 < b by omega)
  omega

theorem ok_added (T : Tx K mg) : FnOk P w K mg base CX0 4 T.f_added T.fd_added ["one", "other"] (spOp (fun a b c d => a * d + c * b) (fun a b c d => b * d)) := by
  have G_check_ratio := ok_check_ratio (P := P) (w := w) (base := base) T
  have G_reduced := ok_reduced (P := P) (w := w) (base := base) T
  refine T.F_added.ok sc_added (fun vs H Q E h => ?_) (fun cdv A outer s H vs Q E hr h => ?_)
  · obtain ⟨p, r, a, b, c, d, rfl, _⟩ := h
    rfl
  · obtain ⟨p, r, a, b, c, d, rfl, hp, ho, g1, g2, hY, q⟩ := h
    have hY : b * d ≠ 0 := hY
    refine ⟨_, (pss_cons (ps_expr (pe_call G_check_ratio (hr.mono (by decide)) (by rfl) T.m_check_ratio T.F_check_ratio.kp T.b_check_ratio .nil pass0 (pa_cons (pv 0) pa_nil)))
  (pss_cons (ps_expr (pe_call G_check_ratio (hr.mono (by decide)) (by rfl) T.m_check_ratio T.F_check_ratio.kp T.b_check_ratio .nil pass0 (pa_cons (pv 1) pa_nil)))
  (pss_one (ps_ret (pe_call G_reduced (hr.mono (by decide)) (by rfl) T.m_reduced T.F_reduced.kp T.b_reduced .nil pass0 (pa_cons (pe_op op_add (pe_op op_mulW (pe_ix ix_tup (pv 0) pe_int (fun _ _ => rfl)) (pe_ix ix_tup (pv 1) pe_int (fun _ _ => rfl))) (pe_op op_mulW (pe_ix ix_tup (pv 1) pe_int (fun _ _ => rfl)) (pe_ix ix_tup (pv 0) pe_int (fun _ _ => rfl)))) (pa_cons (pe_op op_mulW (pe_ix ix_tup (pv 0) pe_int (fun _ _ => rfl)) (pe_ix ix_tup (pv 1) pe_int (fun _ _ => rfl))) pa_nil))))))), ?_⟩
    refine ⟨.ref p, rfl, p, a, b, rfl, hp, g1.pos, g1.cop, ?_⟩
    refine ⟨.ref r, rfl, r, c, d, rfl, ho, g2.pos, g2.cop, ?_⟩
    refine ⟨.ref p, rfl, p, _, 0, .int a, rfl, rfl, sqT hp, rfl, .ref r, rfl, r, _, 1, .int d, rfl, rfl, sqT ho, rfl, a, d, rfl, rfl, wm g1.na g2.nb, .ref r, rfl, r, _, 0, .int c, rfl, rfl, sqT ho, rfl, .ref p, rfl, p, _, 1, .int b, rfl, rfl, sqT hp, rfl, c, b, rfl, rfl, wm g2.na g1.nb, _, _, rfl, rfl, .ref p, rfl, p, _, 1, .int b, rfl, rfl, sqT hp, rfl, .ref r, rfl, r, _, 1, .int d, rfl, rfl, sqT ho, rfl, b, d, rfl, rfl, wm g1.nb g2.nb, ?_⟩
    exact ⟨_, _, rfl, hY, absUp (by decide) (absAdd (absMul g1.na g2.nb) (absMul g2.na g1.nb)), absUp (by decide) (absMul g1.nb g2.nb), fun t H' nt kt et => q t H' nt kt et⟩

theorem ok_less (T : Tx K mg) : FnOk P w K mg base CX0 4 T.f_less T.fd_less ["one", "other"] (spOp (fun a b c d => a * d - c * b) (fun a b c d => b * d)) := by
  have G_check_ratio := ok_check_ratio (P := P) (w := w) (base := base) T
  have G_reduced := ok_reduced (P := P) (w := w) (base := base) T
  refine T.F_less.ok sc_less (fun vs H Q E h => ?_) (fun cdv A outer s H vs Q E hr h => ?_)
  · obtain ⟨p, r, a, b, c, d, rfl, _⟩ := h
    rfl
  · obtain ⟨p, r, a, b, c, d, rfl, hp, ho, g1, g2, hY, q⟩ := h
    have hY : b * d ≠ 0 := hY
    refine ⟨_, (pss_cons (ps_expr (pe_call G_check_ratio (hr.mono (by decide)) (by rfl) T.m_check_ratio T.F_check_ratio.kp T.b_check_ratio .nil pass0 (pa_cons (pv 0) pa_nil)))
  (pss_cons (ps_expr (pe_call G_check_ratio (hr.mono (by decide)) (by rfl) T.m_check_ratio T.F_check_ratio.kp T.b_check_ratio .nil pass0 (pa_cons (pv 1) pa_nil)))
  (pss_one (ps_ret (pe_call G_reduced (hr.mono (by decide)) (by rfl) T.m_reduced T.F_reduced.kp T.b_reduced .nil pass0 (pa_cons (pe_op op_sub (pe_op op_mulW (pe_ix ix_tup (pv 0) pe_int (fun _ _ => rfl)) (pe_ix ix_tup (pv 1) pe_int (fun _ _ => rfl))) (pe_op op_mulW (pe_ix ix_tup (pv 1) pe_int (fun _ _ => rfl)) (pe_ix ix_tup (pv 0) pe_int (fun _ _ => rfl)))) (pa_cons (pe_op op_mulW (pe_ix ix_tup (pv 0) pe_int (fun _ _ => rfl)) (pe_ix ix_tup (pv 1) pe_int (fun _ _ => rfl))) pa_nil))))))), ?_⟩
    refine ⟨.ref p, rfl, p, a, b, rfl, hp, g1.pos, g1.cop, ?_⟩
    refine ⟨.ref r, rfl, r, c, d, rfl, ho, g2.pos, g2.cop, ?_⟩
    refine ⟨.ref p, rfl, p, _, 0, .int a, rfl, rfl, sqT hp, rfl, .ref r, rfl, r, _, 1, .int d, rfl, rfl, sqT ho, rfl, a, d, rfl, rfl, wm g1.na g2.nb, .ref r, rfl, r, _, 0, .int c, rfl, rfl, sqT ho, rfl, .ref p, rfl, p, _, 1, .int b, rfl, rfl, sqT hp, rfl, c, b, rfl, rfl, wm g2.na g1.nb, _, _, rfl, rfl, .ref p, rfl, p, _, 1, .int b, rfl, rfl, sqT hp, rfl, .ref r, rfl, r, _, 1, .int d, rfl, rfl, sqT ho, rfl, b, d, rfl, rfl, wm g1.nb g2.nb, ?_⟩
    exact ⟨_, _, rfl, hY, absUp (by decide) (absSub (absMul g1.na g2.nb) (absMul g2.na g1.nb)), absUp (by decide) (absMul g1.nb g2.nb), fun t H' nt kt et => q t H' nt kt et⟩

theorem ok_times (T : Tx K mg) : FnOk P w K mg base CX0 4 T.f_times T.fd_times ["one", "other"] (spOp (fun a b c d => a * c) (fun a b c d => b * d)) := by
  have G_check_ratio := ok_check_ratio (P := P) (w := w) (base := base) T
  have G_reduced := ok_reduced (P := P) (w := w) (base := base) T
  refine T.F_times.ok sc_times (fun vs H Q E h => ?_) (fun cdv A outer s H vs Q E hr h => ?_)
  · obtain ⟨p, r, a, b, c, d, rfl, _⟩ := h
    rfl
  · obtain ⟨p, r, a, b, c, d, rfl, hp, ho, g1, g2, hY, q⟩ := h
    have hY : b * d ≠ 0 := hY
    refine ⟨_, (pss_cons (ps_expr (pe_call G_check_ratio (hr.mono (by decide)) (by rfl) T.m_check_ratio T.F_check_ratio.kp T.b_check_ratio .nil pass0 (pa_cons (pv 0) pa_nil)))
  (pss_cons (ps_expr (pe_call G_check_ratio (hr.mono (by decide)) (by rfl) T.m_check_ratio T.F_check_ratio.kp T.b_check_ratio .nil pass0 (pa_cons (pv 1) pa_nil)))
  (pss_one (ps_ret (pe_call G_reduced (hr.mono (by decide)) (by rfl) T.m_reduced T.F_reduced.kp T.b_reduced .nil pass0 (pa_cons (pe_op op_mulW (pe_ix ix_tup (pv 0) pe_int (fun _ _ => rfl)) (pe_ix ix_tup (pv 1) pe_int (fun _ _ => rfl))) (pa_cons (pe_op op_mulW (pe_ix ix_tup (pv 0) pe_int (fun _ _ => rfl)) (pe_ix ix_tup (pv 1) pe_int (fun _ _ => rfl))) pa_nil))))))), ?_⟩
    refine ⟨.ref p, rfl, p, a, b, rfl, hp, g1.pos, g1.cop, ?_⟩
    refine ⟨.ref r, rfl, r, c, d, rfl, ho, g2.pos, g2.cop, ?_⟩
    refine ⟨.ref p, rfl, p, _, 0, .int a, rfl, rfl, sqT hp, rfl, .ref r, rfl, r, _, 0, .int c, rfl, rfl, sqT ho, rfl, a, c, rfl, rfl, wm g1.na g2.na, .ref p, rfl, p, _, 1, .int b, rfl, rfl, sqT hp, rfl, .ref r, rfl, r, _, 1, .int d, rfl, rfl, sqT ho, rfl, b, d, rfl, rfl, wm g1.nb g2.nb, ?_⟩
    exact ⟨_, _, rfl, hY, absUp (by decide) (absMul g1.na g2.na), absUp (by decide) (absMul g1.nb g2.nb), fun t H' nt kt et => q t H' nt kt et⟩

theorem ok_divided (T : Tx K mg) : FnOk P w K mg base CX0 4 T.f_divided T.fd_divided ["one", "other"] (spOp (fun a b c d => a * d) (fun a b c d => b * c)) := by
  have G_check_ratio := ok_check_ratio (P := P) (w := w) (base := base) T
  have G_reduced := ok_reduced (P := P) (w := w) (base := base) T
  refine T.F_divided.ok sc_divided (fun vs H Q E h => ?_) (fun cdv A outer s H vs Q E hr h => ?_)
  · obtain ⟨p, r, a, b, c, d, rfl, _⟩ := h
    rfl
  · obtain ⟨p, r, a, b, c, d, rfl, hp, ho, g1, g2, hY, q⟩ := h
    have hY : b * c ≠ 0 := hY
    refine ⟨_, (pss_cons (ps_expr (pe_call G_check_ratio (hr.mono (by decide)) (by rfl) T.m_check_ratio T.F_check_ratio.kp T.b_check_ratio .nil pass0 (pa_cons (pv 0) pa_nil)))
  (pss_cons (ps_expr (pe_call G_check_ratio (hr.mono (by decide)) (by rfl) T.m_check_ratio T.F_check_ratio.kp T.b_check_ratio .nil pass0 (pa_cons (pv 1) pa_nil)))
  (pss_cons (ps_if (pt_cmpR op_eq (pe_ix ix_tup (pv 1) pe_int (fun _ _ => rfl)) pe_int (nomark _)) (pss_one ps_never) pss_nil)
  (pss_one (ps_ret (pe_call G_reduced (hr.mono (by decide)) (by rfl) T.m_reduced T.F_reduced.kp T.b_reduced .nil pass0 (pa_cons (pe_op op_mulW (pe_ix ix_tup (pv 0) pe_int (fun _ _ => rfl)) (pe_ix ix_tup (pv 1) pe_int (fun _ _ => rfl))) (pa_cons (pe_op op_mulW (pe_ix ix_tup (pv 0) pe_int (fun _ _ => rfl)) (pe_ix ix_tup (pv 1) pe_int (fun _ _ => rfl))) pa_nil)))))))), ?_⟩
    refine ⟨.ref p, rfl, p, a, b, rfl, hp, g1.pos, g1.cop, ?_⟩
    refine ⟨.ref r, rfl, r, c, d, rfl, ho, g2.pos, g2.cop, ?_⟩
    have c0 : c ≠ 0 := fun z => hY (by rw [z, Int.mul_zero])
    refine ⟨.ref r, rfl, r, _, 0, .int c, rfl, rfl, sqT ho, rfl, rfl, false, by simp [c0], ?_⟩
    refine ⟨.ref p, rfl, p, _, 0, .int a, rfl, rfl, sqT hp, rfl, .ref r, rfl, r, _, 1, .int d, rfl, rfl, sqT ho, rfl, a, d, rfl, rfl, wm g1.na g2.nb, .ref p, rfl, p, _, 1, .int b, rfl, rfl, sqT hp, rfl, .ref r, rfl, r, _, 0, .int c, rfl, rfl, sqT ho, rfl, b, c, rfl, rfl, wm g1.nb g2.na, ?_⟩
    exact ⟨_, _, rfl, hY, absUp (by decide) (absMul g1.na g2.nb), absUp (by decide) (absMul g1.nb g2.na), fun t H' nt kt et => q t H' nt kt et⟩

def cmpv (a b c d : Int) : Int := if a * d = c * b then 0 else if c * b < a * d then 1 else -1
def spCompared : Sp := fun vs H Q _ => ∃ (p r : Addr) (a b c d : Int), vs = [.ref p, .ref r] ∧ Rt H p a b ∧ Rt H r c d ∧ Gd a b ∧ Gd c d ∧ Q (.int (cmpv a b c d)) H
theorem ok_compared (T : Tx K mg) : FnOk P w K mg base CX0 4 T.f_compared T.fd_compared ["one", "other"] spCompared := by
  have G_check_ratio := ok_check_ratio (P := P) (w := w) (base := base) T
  refine T.F_compared.ok sc_compared (fun vs H Q E h => ?_) (fun cdv A outer s H vs Q E hr h => ?_)
  · obtain ⟨p, r, a, b, c, d, rfl, _⟩ := h
    rfl
  · obtain ⟨p, r, a, b, c, d, rfl, hp, ho, g1, g2, q⟩ := h
    refine ⟨_, (pss_cons (ps_expr (pe_call G_check_ratio (hr.mono (by decide)) (by rfl) T.m_check_ratio T.F_check_ratio.kp T.b_check_ratio .nil pass0 (pa_cons (pv 0) pa_nil)))
  (pss_cons (ps_expr (pe_call G_check_ratio (hr.mono (by decide)) (by rfl) T.m_check_ratio T.F_check_ratio.kp T.b_check_ratio .nil pass0 (pa_cons (pv 1) pa_nil)))
  (pss_cons (ps_set (i := 2) sc_compared.nd rfl (.inl rfl) (pe_op op_mulW (pe_ix ix_tup (pv 0) pe_int (fun _ _ => rfl)) (pe_ix ix_tup (pv 1) pe_int (fun _ _ => rfl))))
  (pss_cons (ps_set (i := 3) sc_compared.nd rfl (.inl rfl) (pe_op op_mulW (pe_ix ix_tup (pv 1) pe_int (fun _ _ => rfl)) (pe_ix ix_tup (pv 0) pe_int (fun _ _ => rfl))))
  (pss_cons (ps_if (pt_cmpR op_eq (pv 2) (pv 3) (nomark _)) (pss_one (ps_ret pe_int)) pss_nil)
  (pss_one (ps_ret (pe_ifExp (pt_cmpR op_gt (pv 2) (pv 3) (nomark _)) pe_int (pe_un un_neg pe_int))))))))), ?_⟩
    refine ⟨.ref p, rfl, p, a, b, rfl, hp, g1.pos, g1.cop, ?_⟩
    refine ⟨.ref r, rfl, r, c, d, rfl, ho, g2.pos, g2.cop, ?_⟩
    refine ⟨.ref p, rfl, p, _, 0, .int a, rfl, rfl, sqT hp, rfl, .ref r, rfl, r, _, 1, .int d, rfl, rfl, sqT ho, rfl, a, d, rfl, rfl, wm g1.na g2.nb, .ref r, rfl, r, _, 0, .int c, rfl, rfl, sqT ho, rfl, .ref p, rfl, p, _, 1, .int b, rfl, rfl, sqT hp, rfl, c, b, rfl, rfl, wm g2.na g1.nb, ?_⟩
    refine ⟨.int (a * d), rfl, .int (c * b), rfl, rfl, _, rfl, ite2 (fun e => ?_) (fun e => ?_)⟩
    · have e1 : a * d = c * b := V.int.inj (of_decide_eq_true e)
      have ev : cmpv a b c d = 0 := by unfold cmpv; rw [if_pos e1]
      rw [ev] at q
      exact q
    · have e1 : ¬ a * d = c * b := fun z => e (decide_eq_true (congrArg V.int z))
      refine ⟨.int (a * d), rfl, .int (c * b), rfl, _, _, rfl, rfl, _, rfl, ite2 (fun f => ?_) (fun f => ?_)⟩
      · have f1 : c * b < a * d := of_decide_eq_true f
        have ev : cmpv a b c d = 1 := by unfold cmpv; rw [if_neg e1, if_pos f1]
        rw [ev] at q
        exact q
      · have f1 : ¬ c * b < a * d := fun z => f (decide_eq_true z)
        have ev : cmpv a b c d = -1 := by unfold cmpv; rw [if_neg e1, if_neg f1]
        rw [ev] at q
        exact ⟨1, rfl, q⟩

def spRatioOf : Sp := fun vs H Q _ => ∃ n u : Int, vs = [.int n, .int u] ∧ u ≠ 0 ∧ n.natAbs < 2 ^ 200 ∧ u.natAbs < 2 ^ 200 ∧ ∀ p H', H p = none → Kp H H' → Rt H' p (lowN n u) (lowU n u) → Q (.ref p) H'
theorem ok_ratio_of (T : Tx K mg) : FnOk P w K mg base CX0 3 T.f_ratio_of T.fd_ratio_of ["first", "second"] spRatioOf := by
  have G_check_integer := ok_check_integer (P := P) (w := w) (base := base) T
  have G_reduced := ok_reduced (P := P) (w := w) (base := base) T
  refine T.F_ratio_of.ok sc_ratio_of (fun vs H Q E h => ?_) (fun cdv A outer s H vs Q E hr h => ?_)
  · obtain ⟨n, u, rfl, _⟩ := h
    rfl
  · obtain ⟨n, u, rfl, hu, n1, u1, q⟩ := h
    refine ⟨_, (pss_cons (ps_expr (pe_call G_check_integer (hr.mono (by decide)) (by rfl) T.m_check_integer T.F_check_integer.kp T.b_check_integer .nil pass0 (pa_cons (pv 0) pa_nil)))
  (pss_cons (ps_expr (pe_call G_check_integer (hr.mono (by decide)) (by rfl) T.m_check_integer T.F_check_integer.kp T.b_check_integer .nil pass0 (pa_cons (pv 1) pa_nil)))
  (pss_cons (ps_if (pt_cmpR op_eq (pv 1) pe_int (nomark _)) (pss_one ps_never) pss_nil)
  (pss_one (ps_ret (pe_call G_reduced (hr.mono (by decide)) (by rfl) T.m_reduced T.F_reduced.kp T.b_reduced .nil pass0 (pa_cons (pv 0) (pa_cons (pv 1) pa_nil)))))))), ?_⟩
    refine ⟨.int n, rfl, n, rfl, .int u, rfl, u, rfl, ?_⟩
    refine ⟨.int u, rfl, rfl, false, by simp [hu], ?_⟩
    exact ⟨.int n, rfl, .int u, rfl, n, u, rfl, hu, n1, u1, q⟩

def spLawGcd : Sp := fun vs H Q _ => ∃ n u : Int, vs = [.int n, .int u] ∧ Q (.int (gN n u)) H
theorem ok_law_gcd (T : Tx K mg) : FnOk P w K mg base CX0 1 T.f_law_gcd T.fd_law_gcd ["one", "other"] spLawGcd := by
  refine T.F_law_gcd.ok sc_law_gcd (fun vs H Q E h => ?_) (fun cdv A outer s H vs Q E hr h => ?_)
  · obtain ⟨n, u, rfl, _⟩ := h
    rfl
  · obtain ⟨n, u, rfl, q⟩ := h
    refine ⟨_, (pss_cons (ps_par (i := 0) (j := 1) rfl sc_law_gcd.nd rfl rfl (by decide) rfl rfl (pa_cons (pe_callB call_abs (by rfl) T.z_abs (by decide +kernel) (pa_cons (pv 0) pa_nil)) (pa_cons (pe_callB call_abs (by rfl) T.z_abs (by decide +kernel) (pa_cons (pv 1) pa_nil)) pa_nil)) (by rfl))
  (pss_cons (ps_while PassesOwn.never (pt_cmpR op_gt (pv 1) pe_int (nomark _)) (pss_one (ps_par (i := 0) (j := 1) rfl sc_law_gcd.nd rfl rfl (by decide) rfl rfl (pa_cons (pv 1) (pa_cons (pe_op op_mod (pv 0) (pv 1)) pa_nil)) (by rfl))))
  (pss_one (ps_ret (pv 0))))), ?_⟩
    refine ⟨.int n, rfl, n, rfl, .int u, rfl, u, rfl, _, _, rfl, ?_⟩
    have an : ∀ z : Int, (if z < 0 then -z else z) = (z.natAbs : Int) := fun z => by split <;> omega
    rw [an, an]
    refine ⟨fun m σ H3 => ∃ x y : Nat, σ = [some (.int x), some (.int y)] ∧ y = m ∧ Nat.gcd x y = Nat.gcd n.natAbs u.natAbs ∧ H3 = H, ⟨u.natAbs, n.natAbs, u.natAbs, rfl, rfl, rfl, rfl⟩, ?_⟩
    rintro m σ H3 ⟨x, y, rfl, rfl, e, rfl⟩
    refine ⟨.int y, rfl, y, 0, rfl, rfl, _, rfl, ite2 (fun c => ?_) (fun c => ?_)⟩
    · have c1 : 0 < y := by
        have : (0 : Int) < y := of_decide_eq_true c
        omega
      refine ⟨fun σ' H' => ∃ x' y' : Nat, σ' = [some (.int x'), some (.int y')] ∧ y' < y ∧ Nat.gcd x' y' = Nat.gcd n.natAbs u.natAbs ∧ H' = H3, fun σ' H' ⟨x', y', e1, e2, e3, e4⟩ => ⟨y', e2, x', y', e1, rfl, e3, e4⟩, ?_⟩
      refine ⟨.int y, rfl, .int x, rfl, .int y, rfl, x, y, rfl, rfl, (show (0 : Int) < y by omega), _, _, rfl, ?_⟩
      refine ⟨y, x % y, rfl, Nat.mod_lt _ c1, ?_, rfl⟩
      rw [← e, Nat.gcd_comm x y, Nat.gcd_rec y x, Nat.gcd_comm]
    · have c1 : y = 0 := by
        have : ¬ (0 : Int) < y := fun z => c (decide_eq_true z)
        omega
      subst c1
      refine ⟨.int x, rfl, ?_⟩
      have ex : (x : Int) = gN n u := by
        unfold gN
        rw [← e, Nat.gcd_zero_right]
      rw [ex]
      exact q

def spLow : Sp := fun vs H Q _ => ∃ n u : Int, vs = [.int n, .int u] ∧ u ≠ 0 ∧ u.natAbs < 2 ^ 200 ∧ ∀ p H', H p = none → Kp H H' → Rt H' p (lowN n u) (lowU n u) → Q (.ref p) H'
theorem ok_law_low (T : Tx K mg) : FnOk P w K mg base CX0 2 T.f_law_low T.fd_law_low ["number", "under"] spLow := by
  have G_law_gcd := ok_law_gcd (P := P) (w := w) (base := base) T
  refine T.F_law_low.ok sc_law_low (fun vs H Q E h => ?_) (fun cdv A outer s H vs Q E hr h => ?_)
  · obtain ⟨n, u, rfl, _⟩ := h
    rfl
  · obtain ⟨n, u, rfl, hu, u1, q⟩ := h
    refine ⟨_, (pss_cons (ps_set (i := 2) sc_law_low.nd rfl (.inl rfl) (pe_call G_law_gcd (hr.mono (by decide)) (by rfl) T.m_law_gcd T.F_law_gcd.kp T.b_law_gcd .nil pass0 (pa_cons (pv 0) (pa_cons (pv 1) pa_nil))))
  (C8.pss_cut (ps_set (i := 2) sc_law_low.nd rfl (.inl rfl) (pe_ifExp (pt_cmpR op_gt (pv 1) pe_int (nomark _)) (pv 2) (pe_op op_sub pe_int (pv 2))))
  (pss_one (ps_ret (pe_tup (pa_cons (pe_op op_fdivX (pv 0) (pv 2)) (pa_cons (pe_op op_fdivX (pv 1) (pv 2)) pa_nil))))))), ?_⟩
    have pn := prt_ne (n := n) hu
    have pa : (prt n u).natAbs < 2 ^ 8000 := by
      rw [prt_abs]
      have : Nat.gcd n.natAbs u.natAbs ≤ u.natAbs := Nat.gcd_le_right _ (by omega)
      exact Nat.lt_of_le_of_lt this (Nat.lt_of_lt_of_le u1 (Nat.pow_le_pow_right (by decide) (by decide)))
    refine ⟨.int n, rfl, .int u, rfl, n, u, rfl, ?_⟩
    refine ⟨fun σ H3 => σ = [some (.int n), some (.int u), some (.int (prt n u))] ∧ H3 = H, ?_, ?_⟩
    · refine ⟨.int u, rfl, u, 0, rfl, rfl, _, rfl, ite2 (fun c => ?_) (fun c => ?_)⟩
      · have c1 : 0 < u := of_decide_eq_true c
        refine ⟨_, rfl, ?_, rfl⟩
        unfold prt
        rw [if_neg (by omega)]
        rfl
      · have c1 : ¬ 0 < u := fun z => c (decide_eq_true z)
        refine ⟨_, rfl, _, _, rfl, rfl, ?_, rfl⟩
        unfold prt
        rw [if_pos (by omega), ← Int.zero_sub]
        rfl
    · rintro σ H3 ⟨rfl, rfl⟩
      refine ⟨.int n, rfl, .int (prt n u), rfl, n, _, rfl, rfl, ⟨pn, pa⟩, .int u, rfl, .int (prt n u), rfl, u, _, rfl, rfl, ⟨pn, pa⟩, szOk (show 2 ≤ 100000 by decide), fun t nt => ?_⟩
      exact q t _ nt (Kp.new nt) upd_same

def spLawRatio : Sp := fun vs H Q _ => ∃ a : Addr, vs = [.ref a] ∧ Pot H a ∧ ∀ p n u H', p ≠ a → Bt a H H' → Pot H' a → Rt H' p n u → Gd n u → H p = none → n.natAbs < 2 ^ 41 → u.natAbs < 2 ^ 41 → Q (.ref p) H'
def widths : List Int := [3, 9, 50, 10 ^ 4, 10 ^ 12]
theorem ok_law_ratio (T : Tx K mg) : FnOk P w K mg base CX0 3 T.f_law_ratio T.fd_law_ratio ["pot"] spLawRatio := by
  have G_law_draw := ok_law_draw (P := P) (w := w) (base := base) T
  have G_law_pick := ok_law_pick (P := P) (w := w) (base := base) T
  have G_law_low := ok_law_low (P := P) (w := w) (base := base) T
  refine T.F_law_ratio.ok sc_law_ratio (fun vs H Q E h => ?_) (fun cdv A outer s H vs Q E hr h => ?_)
  · obtain ⟨a, rfl, _⟩ := h
    rfl
  · obtain ⟨a, rfl, hp, q⟩ := h
    refine ⟨_, (pss_cons (ps_set (i := 1) sc_law_ratio.nd rfl (.inl rfl) (pe_call G_law_pick (hr.mono (by decide)) (by rfl) T.m_law_pick T.F_law_pick.kp T.b_law_pick .nil pass0 (pa_cons (pv 0) (pa_cons (pe_lst (pa_cons pe_int (pa_cons pe_int (pa_cons pe_int (pa_cons (pe_op op_pow pe_int pe_int) (pa_cons (pe_op op_pow pe_int pe_int) pa_nil)))))) pa_nil))))
  (pss_cons (ps_set (i := 2) sc_law_ratio.nd rfl (.inl rfl) (pe_op op_fdiv (pe_op op_mul (pe_op op_sub (pe_call G_law_draw (hr.mono (by decide)) (by rfl) T.m_law_draw T.F_law_draw.kp T.b_law_draw .nil pass0 (pa_cons (pv 0) (pa_cons (pe_op op_add (pe_op op_mul pe_int pe_int) pe_int) pa_nil))) pe_int) (pv 1)) pe_int))
  (pss_one (ps_ret (pe_call G_law_low (hr.mono (by decide)) (by rfl) T.m_law_low T.F_law_low.kp T.b_law_low .nil pass0 (pa_cons (pv 2) (pa_cons (pe_op op_add pe_int (pe_op op_fdiv (pe_op op_mul (pe_call G_law_draw (hr.mono (by decide)) (by rfl) T.m_law_draw T.F_law_draw.kp T.b_law_draw .nil pass0 (pa_cons (pv 0) (pa_cons pe_int pa_nil))) (pv 1)) pe_int)) pa_nil))))))), ?_⟩
    refine ⟨.ref a, rfl, 10, 4, rfl, rfl, ⟨by decide, by decide, by decide⟩, 10, 12, rfl, rfl, ⟨by decide, by decide, by decide⟩, szOk (show 5 ≤ 100000 by decide), fun l nl => ?_⟩
    have hp1 := hp.kp (Kp.new (o := .lst (widths.map V.int)) nl)
    refine ⟨a, l, widths.map V.int, rfl, hp1, hp.ne nl, sqL upd_same, by decide, by decide, fun x H1 hx b1 p1 => ?_⟩
    obtain ⟨v, hv, rfl⟩ := List.mem_map.mp hx
    have hv2 : 3 ≤ v ∧ v ≤ 1000000000000 := (show ∀ v ∈ widths, 3 ≤ v ∧ v ≤ 1000000000000 by decide) v hv
    refine ⟨.ref a, rfl, 2, 9973, rfl, rfl, .inl ⟨by decide, by decide⟩, _, _, rfl, rfl, a, _, rfl, p1, by decide, by decide, fun d H2 d0 d1 b2 p2 => ?_⟩
    have d2 : d < 19947 := d1
    refine ⟨_, _, rfl, rfl, .int v, rfl, _, v, rfl, rfl, .inl ⟨by omega, by omega⟩, _, _, rfl, rfl, ⟨by decide, by decide⟩, ?_⟩
    have m1 := Int.mul_le_mul_of_nonneg_right (show d - 9973 ≤ 9973 by omega) (show 0 ≤ v by omega)
    have m2 := Int.mul_le_mul_of_nonneg_right (show -9973 ≤ d - 9973 by omega) (show 0 ≤ v by omega)
    refine ⟨.int ((d - 9973) * v / 9973), rfl, .ref a, rfl, a, 9973, rfl, p2, by decide, by decide, fun e H3 e0 e1 b3 p3 => ?_⟩
    have m3 := Int.mul_le_mul_of_nonneg_right (show e ≤ 9973 by omega) (show 0 ≤ v by omega)
    have m4 := Int.mul_nonneg e0 (show 0 ≤ v by omega)
    refine ⟨.int v, rfl, e, v, rfl, rfl, .inl ⟨by omega, by omega⟩, _, _, rfl, rfl, ⟨by decide, by decide⟩, 1, _, rfl, rfl, ?_⟩
    have n0 : ((d - 9973) * v / 9973).natAbs < 2 ^ 41 := by
      generalize (d - 9973) * v = m at m1 m2
      omega
    have u0 : 1 ≤ 1 + e * v / 9973 := by
      generalize e * v = m at m3 m4
      omega
    have u1 : (1 + e * v / 9973).natAbs < 2 ^ 41 := by
      generalize e * v = m at m3 m4
      omega
    generalize (d - 9973) * v / 9973 = n at n0
    have un : 1 + e * v / 9973 ≠ 0 := by omega
    refine ⟨n, 1 + e * v / 9973, rfl, un, absUp (by decide) u1, fun t H4 nt k4 rt => ?_⟩
    have l1 := Nat.lt_of_le_of_lt (lowN_le (n := n) un) n0
    have l2 := Nat.lt_of_le_of_lt (lowU_le (n := n) un) u1
    have lp := lowU_pos (n := n) un
    have bt : Bt a H H3 := (((Kp.new nl).bt.trans b1).trans b2).trans b3
    have nh : H t = none := by
      by_cases z : t = a
      · exact absurd z (p3.ne nt)
      · cases hq : H t with
        | none => rfl
        | some o => rw [bt t o z hq] at nt; cases nt
    exact q t _ _ H4 (p3.ne nt) (bt.trans k4.bt) (p3.kp k4) rt ⟨by omega, low_cop un, absUp (by decide) l1, absUp (by decide) l2⟩ nh l1 l2

end
end K13

namespace K13
open PySem PySem.Spec PyProof.Rows L2 EP
section
variable {P : Program} {w : World} {K : PySem.W.Frag} {mg : Str → Option Value} {base : Heap}

theorem dpR {K : PySem.W.Frag} {H : Hp} {t : Addr} {n u : Int} (h : Rt H t n u) : Dp K H (.ref t) (.tuple [.int n, .int u]) := .tup (xs := [.int n, .int u]) (sqT h) (.cons (.int n) (.cons (.int u) .nil))
theorem okR {n u : Int} {f : Nat} (hn : n.natAbs < 2 ^ 200) (hu : u.natAbs < 2 ^ 200) : okD (f + 1) (.tuple [.int n, .int u]) = true := by
  have h1 : n.natAbs.log2 < 1900 := shortInt (by omega)
  have h2 : u.natAbs.log2 < 1900 := shortInt (by omega)
  simp [okD, okAll, h1, h2]
def d3 (n1 u1 n2 u2 n3 u3 : Int) : PyData := .list [.tuple [.int n1, .int u1], .tuple [.int n2, .int u2], .tuple [.int n3, .int u3]]
theorem ok3 {n1 u1 n2 u2 n3 u3 : Int} (a1 : n1.natAbs < 2 ^ 200) (b1 : u1.natAbs < 2 ^ 200) (a2 : n2.natAbs < 2 ^ 200) (b2 : u2.natAbs < 2 ^ 200) (a3 : n3.natAbs < 2 ^ 200) (b3 : u3.natAbs < 2 ^ 200) : okD 8 (d3 n1 u1 n2 u2 n3 u3) = true := by
  have e1 := okR (f := 6) a1 b1
  have e2 := okR (f := 6) a2 b2
  have e3 := okR (f := 6) a3 b3
  show (okD 7 _ && (okD 7 _ && (okD 7 _ && true))) = true
  rw [e1, e2, e3]; rfl
theorem dp3 {K : PySem.W.Frag} {H : Hp} {l t1 t2 t3 : Addr} {n1 u1 n2 u2 n3 u3 : Int} (h : H l = some (.lst [.ref t1, .ref t2, .ref t3])) (h1 : Rt H t1 n1 u1) (h2 : Rt H t2 n2 u2) (h3 : Rt H t3 n3 u3) :
    Dp K H (.ref l) (d3 n1 u1 n2 u2 n3 u3) := .lst (xs := [.ref t1, .ref t2, .ref t3]) (sqL h) (.cons (dpR h1) (.cons (dpR h2) (.cons (dpR h3) .nil)))
def spPairRight : Sp := fun vs H Q _ => ∃ (p r : Addr) (a b c d : Int), vs = [.ref p, .ref r] ∧ Rt H p a b ∧ Rt H r c d ∧ Gd a b ∧ Gd c d ∧ a.natAbs < 2 ^ 41 ∧ b.natAbs < 2 ^ 41 ∧ c.natAbs < 2 ^ 41 ∧ d.natAbs < 2 ^ 41 ∧ ∀ H', Kp H H' → Q (.bl true) H'
theorem ok_law_pair_right (T : Tx K mg) : GOk P w K mg base 5 T.f_law_pair_right T.fd_law_pair_right ["one", "other"] spPairRight := by
  have G_law_low := ok_law_low (P := P) (w := w) (base := base) T
  have G_added := ok_added (P := P) (w := w) (base := base) T
  have G_less := ok_less (P := P) (w := w) (base := base) T
  have G_times := ok_times (P := P) (w := w) (base := base) T
  have G_divided := ok_divided (P := P) (w := w) (base := base) T
  have G_compared := ok_compared (P := P) (w := w) (base := base) T
  have G_is_ratio := ok_is_ratio (P := P) (w := w) (base := base) T
  refine gok T.F_law_pair_right sc_law_pair_right (fun vs H Q E h => ?_) (fun cdv A outer s H vs Q hg hr h => ?_)
  · obtain ⟨p, r, a, b, c, d, rfl, _⟩ := h
    rfl
  · obtain ⟨p, r, a, b, c, d, rfl, hp, ho, g1, g2, a41, b41, c41, d41, q⟩ := h
    refine ⟨_, (pss_cons (ps_asg (pe_tup (pa_cons (pe_ix ix_tup (pv 0) pe_int (fun _ _ => rfl)) (pa_cons (pe_ix ix_tup (pv 0) pe_int (fun _ _ => rfl)) (pa_cons (pe_ix ix_tup (pv 1) pe_int (fun _ _ => rfl)) (pa_cons (pe_ix ix_tup (pv 1) pe_int (fun _ _ => rfl)) pa_nil))))) (pg_tup rfl (pgs_cons (pg_name (i := 2) sc_law_pair_right.nd rfl (.inl rfl)) (pgs_cons (pg_name (i := 3) sc_law_pair_right.nd rfl (.inl rfl)) (pgs_cons (pg_name (i := 4) sc_law_pair_right.nd rfl (.inl rfl)) (pgs_cons (pg_name (i := 5) sc_law_pair_right.nd rfl (.inl rfl)) pgs_nil))))))
  (pss_cons (ps_set (i := 6) sc_law_pair_right.nd rfl (.inl rfl) (pe_lst (pa_cons (pe_call G_law_low (hr.mono (by decide)) (by rfl) T.m_law_low T.F_law_low.kp T.b_law_low .nil pass0 (pa_cons (pe_op op_add (pe_op op_mulW (pv 2) (pv 5)) (pe_op op_mulW (pv 4) (pv 3))) (pa_cons (pe_op op_mulW (pv 3) (pv 5)) pa_nil))) (pa_cons (pe_call G_law_low (hr.mono (by decide)) (by rfl) T.m_law_low T.F_law_low.kp T.b_law_low .nil pass0 (pa_cons (pe_op op_sub (pe_op op_mulW (pv 2) (pv 5)) (pe_op op_mulW (pv 4) (pv 3))) (pa_cons (pe_op op_mulW (pv 3) (pv 5)) pa_nil))) (pa_cons (pe_call G_law_low (hr.mono (by decide)) (by rfl) T.m_law_low T.F_law_low.kp T.b_law_low .nil pass0 (pa_cons (pe_op op_mulW (pv 2) (pv 4)) (pa_cons (pe_op op_mulW (pv 3) (pv 5)) pa_nil))) pa_nil)))))
  (pss_cons (ps_if (pt_cmpR op_ne (pe_callB (call_rep (by exact hg) (un66 hr)) (by rfl) T.z_repr (by decide +kernel) (pa_cons (pe_lst (pa_cons (pe_call G_added (hr.mono (by decide)) (by rfl) T.m_added T.F_added.kp T.b_added .nil pass0 (pa_cons (pv 0) (pa_cons (pv 1) pa_nil))) (pa_cons (pe_call G_less (hr.mono (by decide)) (by rfl) T.m_less T.F_less.kp T.b_less .nil pass0 (pa_cons (pv 0) (pa_cons (pv 1) pa_nil))) (pa_cons (pe_call G_times (hr.mono (by decide)) (by rfl) T.m_times T.F_times.kp T.b_times .nil pass0 (pa_cons (pv 0) (pa_cons (pv 1) pa_nil))) pa_nil)))) pa_nil)) (pe_callB (call_rep (by exact hg) (un66 hr)) (by rfl) T.z_repr (by decide +kernel) (pa_cons (pv 6) pa_nil)) (nomark _)) (pss_one (ps_ret pe_bl)) pss_nil)
  (pss_cons (ps_if (pt_cmpR op_ne (pe_callB (call_rep (by exact hg) (un66 hr)) (by rfl) T.z_repr (by decide +kernel) (pa_cons (pe_lst (pa_cons (pe_kcall G_added (hr.mono (by decide)) (by rfl) T.m_added T.F_added.kp T.kb_added_2 pass0 (pk_cons (pv 0) (pk_cons (pv 1) pk_nil))) (pa_cons (pe_kcall G_less (hr.mono (by decide)) (by rfl) T.m_less T.F_less.kp T.kb_less_1 pass0 (pk_cons (pv 1) (pk_cons (pv 0) pk_nil))) (pa_cons (pe_kcall G_times (hr.mono (by decide)) (by rfl) T.m_times T.F_times.kp T.kb_times_0 pass0 (pk_cons (pv 0) (pk_cons (pv 1) pk_nil))) pa_nil)))) pa_nil)) (pe_callB (call_rep (by exact hg) (un66 hr)) (by rfl) T.z_repr (by decide +kernel) (pa_cons (pv 6) pa_nil)) (nomark _)) (pss_one (ps_ret pe_bl)) pss_nil)
  (pss_cons (ps_set (i := 7) sc_law_pair_right.nd rfl (.inl rfl) (pe_op op_sub (pe_op op_mulW (pv 2) (pv 5)) (pe_op op_mulW (pv 4) (pv 3))))
  (C8.pss_cut (ps_set (i := 8) sc_law_pair_right.nd rfl (.inl rfl) (pe_ifExp (pt_cmpR op_gt (pv 7) pe_int (nomark _)) pe_int (pe_ifExp (pt_cmpR op_eq (pv 7) pe_int (nomark _)) pe_int (pe_un un_neg pe_int))))
  (pss_cons (ps_if (pt_cmpR op_ne (pe_callB (call_rep (by exact hg) (un66 hr)) (by rfl) T.z_repr (by decide +kernel) (pa_cons (pe_lst (pa_cons (pe_call G_compared (hr.mono (by decide)) (by rfl) T.m_compared T.F_compared.kp T.b_compared .nil pass0 (pa_cons (pv 0) (pa_cons (pv 1) pa_nil))) (pa_cons (pe_kcall G_compared (hr.mono (by decide)) (by rfl) T.m_compared T.F_compared.kp T.kb_compared_3 pass0 (pk_cons (pv 0) (pk_cons (pv 1) pk_nil))) pa_nil))) pa_nil)) (pe_callB (call_rep (by exact hg) (un66 hr)) (by rfl) T.z_repr (by decide +kernel) (pa_cons (pe_lst (pa_cons (pv 8) (pa_cons (pe_op op_sub pe_int (pv 8)) pa_nil))) pa_nil)) (nomark _)) (pss_one (ps_ret pe_bl)) pss_nil)
  (pss_cons (ps_if (PW.pt (pw_or (pt_cmpR (op_neD hr.units) (pe_call G_less (hr.mono (by decide)) (by rfl) T.m_less T.F_less.kp T.b_less .nil pass0 (pa_cons (pe_ix ix_list (pv 6) pe_int (fun _ _ => rfl)) (pa_cons (pv 1) pa_nil))) (pv 0) (nomark _)) (pw_or1 (pt_not (pt_val (pe_callB (cr_all rfl) (by rfl) T.z_all (by decide +kernel) (pa_cons (pe_lc (own := [("value", 10)]) (g := gName 10) (tt := tYes) (by rfl) sc_law_pair_right.nd (pi_list (pv 6)) (blkOk_by (own := [("value", 10)]) (N := ["one", "other", "a", "b", "c", "d", "due", "gap", "sign", "told", "value"]) (sc := defScope s_law_pair_right) (by decide +kernel)) (fun _ _ _ _ _ => pg_name (i := 10) sc_law_pair_right.nd rfl (.inl rfl)) (fun _ _ _ _ _ => pts_nil) (fun _ _ _ _ _ => (pe_cmpR op_isBl (pe_call G_is_ratio (hr.mono (by decide)) (by rfl) T.m_is_ratio T.F_is_ratio.kp T.b_is_ratio .nil pass0 (pa_cons (pv 10) pa_nil)) pe_bl (nomark _)))) pa_nil))))))) (pss_one (ps_ret pe_bl)) pss_nil)
  (pss_cons (ps_if (pt_cmpR op_eq (pv 4) pe_int (nomark _)) (pss_one (ps_ret pe_bl)) pss_nil)
  (pss_cons (ps_set (i := 9) sc_law_pair_right.nd rfl (.inl rfl) (pe_call G_divided (hr.mono (by decide)) (by rfl) T.m_divided T.F_divided.kp T.b_divided .nil pass0 (pa_cons (pv 0) (pa_cons (pv 1) pa_nil))))
  (pss_one (ps_ret (pe_and (pe_cmpR (op_eqD hr.units) (pv 9) (pe_call G_law_low (hr.mono (by decide)) (by rfl) T.m_law_low T.F_law_low.kp T.b_law_low .nil pass0 (pa_cons (pe_op op_mulW (pv 2) (pv 5)) (pa_cons (pe_op op_mulW (pv 3) (pv 4)) pa_nil))) (nomark _)) (pe_and (pe_cmpR (op_eqD hr.units) (pe_call G_times (hr.mono (by decide)) (by rfl) T.m_times T.F_times.kp T.b_times .nil pass0 (pa_cons (pv 9) (pa_cons (pv 1) pa_nil))) (pv 0) (nomark _)) (pe_one (pe_cmpR (op_eqD hr.units) (pe_kcall G_divided (hr.mono (by decide)) (by rfl) T.m_divided T.F_divided.kp T.kb_divided_4 pass0 (pk_cons (pv 1) (pk_cons (pv 0) pk_nil))) (pv 9) (nomark _))))))))))))))))), ?_⟩
    refine ⟨.ref p, rfl, p, _, 0, .int a, rfl, rfl, sqT hp, rfl, .ref p, rfl, p, _, 1, .int b, rfl, rfl, sqT hp, rfl, .ref r, rfl, r, _, 0, .int c, rfl, rfl, sqT ho, rfl, .ref r, rfl, r, _, 1, .int d, rfl, rfl, sqT ho, rfl, szOk (show 4 ≤ 100000 by decide), fun t0 nt0 => ?_⟩
    refine ⟨t0, _, rfl, sqT upd_same, rfl, _, _, rfl, _, _, rfl, _, _, rfl, _, _, rfl, rfl, ?_⟩
    have k0 : Kp H (upd H t0 (.tup [.int a, .int b, .int c, .int d])) := Kp.new nt0
    generalize upd H t0 (.tup [.int a, .int b, .int c, .int d]) = H1 at k0 ⊢
    -- due
    have bd0 : b * d ≠ 0 := mulPos g1.pos g2.pos
    have sX : (a * d + c * b).natAbs < 2 ^ 83 := absAdd (absMul a41 d41) (absMul c41 b41)
    have sZ : (a * d - c * b).natAbs < 2 ^ 83 := absSub (absMul a41 d41) (absMul c41 b41)
    have sW : (a * c).natAbs < 2 ^ 82 := absMul a41 c41
    have sY : (b * d).natAbs < 2 ^ 82 := absMul b41 d41
    refine ⟨.int a, rfl, .int d, rfl, a, d, rfl, rfl, wm g1.na g2.nb, .int c, rfl, .int b, rfl, c, b, rfl, rfl, wm g2.na g1.nb, _, _, rfl, rfl, .int b, rfl, .int d, rfl, b, d, rfl, rfl, wm g1.nb g2.nb, _, _, rfl, bd0, absUp (by decide) sY, fun t1 H2 n1 k1 r1 => ?_⟩
    refine ⟨.int a, rfl, .int d, rfl, a, d, rfl, rfl, wm g1.na g2.nb, .int c, rfl, .int b, rfl, c, b, rfl, rfl, wm g2.na g1.nb, _, _, rfl, rfl, .int b, rfl, .int d, rfl, b, d, rfl, rfl, wm g1.nb g2.nb, _, _, rfl, bd0, absUp (by decide) sY, fun t2 H3 n2 k2 r2 => ?_⟩
    refine ⟨.int a, rfl, .int c, rfl, a, c, rfl, rfl, wm g1.na g2.na, .int b, rfl, .int d, rfl, b, d, rfl, rfl, wm g1.nb g2.nb, _, _, rfl, bd0, absUp (by decide) sY, fun t3 H4 n3 k3 r3 => ?_⟩
    refine ⟨szOk (show 3 ≤ 100000 by decide), fun l nl => ?_⟩
    have k4 : Kp H4 (upd H4 l (.lst [.ref t1, .ref t2, .ref t3])) := Kp.new nl
    have el : (upd H4 l (.lst [.ref t1, .ref t2, .ref t3])) l = some (.lst [.ref t1, .ref t2, .ref t3]) := upd_same
    generalize upd H4 l (.lst [.ref t1, .ref t2, .ref t3]) = H5 at k4 el ⊢
    have r1' := k4 _ _ (k3 _ _ (k2 _ _ r1))
    have r2' := k4 _ _ (k3 _ _ r2)
    have r3' := k4 _ _ r3
    have hp5 := k4 _ _ (k3 _ _ (k2 _ _ (k1 _ _ (k0 _ _ hp))))
    have ho5 := k4 _ _ (k3 _ _ (k2 _ _ (k1 _ _ (k0 _ _ ho))))
    have kk5 : Kp H H5 := (((k0.trans k1).trans k2).trans k3).trans k4
    have sn1 : (lowN (a * d + c * b) (b * d)).natAbs < 2 ^ 83 := Nat.lt_of_le_of_lt (lowN_le bd0) sX
    have su1 : (lowU (a * d + c * b) (b * d)).natAbs < 2 ^ 82 := Nat.lt_of_le_of_lt (lowU_le bd0) sY
    have sn2 : (lowN (a * d - c * b) (b * d)).natAbs < 2 ^ 83 := Nat.lt_of_le_of_lt (lowN_le bd0) sZ
    have su2 : (lowU (a * d - c * b) (b * d)).natAbs < 2 ^ 82 := Nat.lt_of_le_of_lt (lowU_le bd0) sY
    have sn3 : (lowN (a * c) (b * d)).natAbs < 2 ^ 82 := Nat.lt_of_le_of_lt (lowN_le bd0) sW
    have su3 : (lowU (a * c) (b * d)).natAbs < 2 ^ 82 := Nat.lt_of_le_of_lt (lowU_le bd0) sY
    have okA := ok3 (absUp (by decide) sn1) (absUp (by decide) su1) (absUp (by decide) sn2) (absUp (by decide) su2) (absUp (by decide) sn3) (absUp (by decide) su3)
    have p1 := lowU_pos (n := a * d + c * b) bd0
    have p2 := lowU_pos (n := a * d - c * b) bd0
    have p3 := lowU_pos (n := a * c) bd0
    have c1 := low_cop (n := a * d + c * b) bd0
    have c2 := low_cop (n := a * d - c * b) bd0
    have c3 := low_cop (n := a * c) bd0
    have x1 := low_cross (a * d + c * b) (b * d)
    have g10 : Gd (lowN (a * d + c * b) (b * d)) (lowU (a * d + c * b) (b * d)) := ⟨by omega, c1, absUp (by decide) sn1, absUp (by decide) su1⟩
    -- by place
    refine ⟨.ref p, rfl, .ref r, rfl, p, r, a, b, c, d, rfl, hp5, ho5, g1, g2, bd0, fun t4 H6 n4 k6 r4 => ?_⟩
    refine ⟨.ref p, rfl, .ref r, rfl, p, r, a, b, c, d, rfl, k6 _ _ hp5, k6 _ _ ho5, g1, g2, bd0, fun t5 H7 n5 k7 r5 => ?_⟩
    refine ⟨.ref p, rfl, .ref r, rfl, p, r, a, b, c, d, rfl, k7 _ _ (k6 _ _ hp5), k7 _ _ (k6 _ _ ho5), g1, g2, bd0, fun t6 H8 n6 k8 r6 => ?_⟩
    refine ⟨szOk (show 3 ≤ 100000 by decide), fun l2 nl2 => ?_⟩
    have k9 : Kp H8 (upd H8 l2 (.lst [.ref t4, .ref t5, .ref t6])) := Kp.new nl2
    have el2 : (upd H8 l2 (.lst [.ref t4, .ref t5, .ref t6])) l2 = some (.lst [.ref t4, .ref t5, .ref t6]) := upd_same
    generalize upd H8 l2 (.lst [.ref t4, .ref t5, .ref t6]) = H9 at k9 el2 ⊢
    have k59 : Kp H5 H9 := ((k6.trans k7).trans k8).trans k9
    refine ⟨l2, _, rfl, dp3 el2 (k9 _ _ (k8 _ _ (k7 _ _ r4))) (k9 _ _ (k8 _ _ r5)) (k9 _ _ r6), okA, (show 10 ≤ 4000 by decide), ?_⟩
    refine ⟨.ref l, rfl, l, _, rfl, dp3 (k59 _ _ el) (k59 _ _ r1') (k59 _ _ r2') (k59 _ _ r3'), okA, (show 10 ≤ 4000 by decide), rfl, false, by simp, ?_⟩
    -- by name
    have hp9 := k59 _ _ hp5
    have ho9 := k59 _ _ ho5
    have db0 : d * b ≠ 0 := by rw [Int.mul_comm]; exact bd0
    refine ⟨.ref p, rfl, .ref r, rfl, r, p, c, d, a, b, rfl, ho9, hp9, g2, g1, db0, fun t7 H10 n7 k10 r7 => ?_⟩
    refine ⟨.ref r, rfl, .ref p, rfl, p, r, a, b, c, d, rfl, k10 _ _ hp9, k10 _ _ ho9, g1, g2, bd0, fun t8 H11 n8 k11 r8 => ?_⟩
    refine ⟨.ref p, rfl, .ref r, rfl, r, p, c, d, a, b, rfl, k11 _ _ (k10 _ _ ho9), k11 _ _ (k10 _ _ hp9), g2, g1, db0, fun t9 H12 n9 k12 r9 => ?_⟩
    refine ⟨szOk (show 3 ≤ 100000 by decide), fun l3 nl3 => ?_⟩
    have k13 : Kp H12 (upd H12 l3 (.lst [.ref t7, .ref t8, .ref t9])) := Kp.new nl3
    have el3 : (upd H12 l3 (.lst [.ref t7, .ref t8, .ref t9])) l3 = some (.lst [.ref t7, .ref t8, .ref t9]) := upd_same
    generalize upd H12 l3 (.lst [.ref t7, .ref t8, .ref t9]) = H13 at k13 el3 ⊢
    have k913 : Kp H9 H13 := ((k10.trans k11).trans k12).trans k13
    have r7' : Rt H10 t7 (lowN (a * d + c * b) (b * d)) (lowU (a * d + c * b) (b * d)) := by
      rw [Int.add_comm (a * d), Int.mul_comm b d]; exact r7
    have r9' : Rt H12 t9 (lowN (a * c) (b * d)) (lowU (a * c) (b * d)) := by
      rw [Int.mul_comm a c, Int.mul_comm b d]; exact r9
    refine ⟨l3, _, rfl, dp3 el3 (k13 _ _ (k12 _ _ (k11 _ _ r7'))) (k13 _ _ (k12 _ _ r8)) (k13 _ _ r9'), okA, (show 10 ≤ 4000 by decide), ?_⟩
    refine ⟨.ref l, rfl, l, _, rfl, dp3 (k913 _ _ (k59 _ _ el)) (k913 _ _ (k59 _ _ r1')) (k913 _ _ (k59 _ _ r2')) (k913 _ _ (k59 _ _ r3')), okA, (show 10 ≤ 4000 by decide), rfl, false, by simp, ?_⟩
    have k513 := k59.trans k913
    have hp13 := k513 _ _ hp5
    have ho13 := k513 _ _ ho5
    -- gap, sign
    refine ⟨.int a, rfl, .int d, rfl, a, d, rfl, rfl, wm g1.na g2.nb, .int c, rfl, .int b, rfl, c, b, rfl, rfl, wm g2.na g1.nb, _, _, rfl, rfl, ?_⟩
    refine ⟨fun σ H14 => σ = [some (.ref p), some (.ref r), some (.int a), some (.int b), some (.int c), some (.int d), some (.ref l), some (.int (a * d - c * b)), some (.int (cmpv a b c d)), none, none] ∧ H14 = H13, ?_, ?_⟩
    · refine ⟨.int (a * d - c * b), rfl, _, 0, rfl, rfl, _, rfl, ite2 (fun e => ?_) (fun e => ?_)⟩
      · have e1 : 0 < a * d - c * b := of_decide_eq_true e
        have ev : cmpv a b c d = 1 := by unfold cmpv; rw [if_neg (by omega), if_pos (by omega)]
        rw [ev]
        exact ⟨rfl, rfl⟩
      · have e1 : ¬ 0 < a * d - c * b := fun z => e (decide_eq_true z)
        refine ⟨.int (a * d - c * b), rfl, rfl, _, rfl, ite2 (fun f => ?_) (fun f => ?_)⟩
        · have f1 : a * d - c * b = 0 := V.int.inj (of_decide_eq_true f)
          have ev : cmpv a b c d = 0 := by unfold cmpv; rw [if_pos (by omega)]
          rw [ev]
          exact ⟨rfl, rfl⟩
        · have f1 : ¬ a * d - c * b = 0 := fun z => f (decide_eq_true (congrArg V.int z))
          have ev : cmpv a b c d = -1 := by unfold cmpv; rw [if_neg (by omega), if_neg (by omega)]
          rw [ev]
          exact ⟨1, rfl, rfl, rfl⟩
    · rintro σ H14 ⟨rfl, rfl⟩
      have cv : cmpv c d a b = 0 - cmpv a b c d := by
        unfold cmpv
        by_cases z : a * d = c * b
        · rw [if_pos z, if_pos z.symm]; rfl
        · rw [if_neg z, if_neg (Ne.symm z)]
          by_cases y : c * b < a * d
          · rw [if_pos y, if_neg (by omega)]; rfl
          · rw [if_neg y, if_pos (by omega)]; rfl
      have cb : -1 ≤ cmpv a b c d ∧ cmpv a b c d ≤ 1 := by
        unfold cmpv
        split
        · decide
        · split <;> decide
      have okC : okD 8 (.list ([cmpv a b c d, 0 - cmpv a b c d].map PyData.int)) = true := by
        refine okInts (f := 7) fun n hn => shortInt ?_
        simp only [List.mem_cons, List.not_mem_nil, or_false] at hn
        omega
      refine ⟨.ref p, rfl, .ref r, rfl, p, r, a, b, c, d, rfl, hp13, ho13, g1, g2, ?_⟩
      refine ⟨.ref p, rfl, .ref r, rfl, r, p, c, d, a, b, rfl, ho13, hp13, g2, g1, szOk (show 2 ≤ 100000 by decide), fun l4 nl4 => ?_⟩
      rw [cv]
      refine ⟨l4, .list ([cmpv a b c d, 0 - cmpv a b c d].map PyData.int), rfl, dpIntList (sqL upd_same), okC, nodesL _ (by simp), ?_⟩
      refine ⟨.int (cmpv a b c d), rfl, .int (cmpv a b c d), rfl, 0, _, rfl, rfl, szOk (show 2 ≤ 100000 by decide), fun l5 nl5 => ?_⟩
      refine ⟨l5, .list ([cmpv a b c d, 0 - cmpv a b c d].map PyData.int), rfl, dpIntList (sqL upd_same), okC, nodesL _ (by simp), rfl, false, by simp, ?_⟩
      have k14 : Kp H14 (upd (upd H14 l4 (.lst [.int (cmpv a b c d), .int (0 - cmpv a b c d)])) l5 (.lst [.int (cmpv a b c d), .int (0 - cmpv a b c d)])) := (Kp.new nl4).trans (Kp.new nl5)
      generalize upd (upd H14 l4 (.lst [.int (cmpv a b c d), .int (0 - cmpv a b c d)])) l5 (.lst [.int (cmpv a b c d), .int (0 - cmpv a b c d)]) = H15 at k14 ⊢
      have k515 := k513.trans k14
      have el15 := k515 _ _ el
      have r115 := k515 _ _ r1'
      have r215 := k515 _ _ r2'
      have r315 := k515 _ _ r3'
      have hp15 := k515 _ _ hp5
      have ho15 := k515 _ _ ho5
      have U1d := Int.mul_pos p1 (show 0 < d by have := g2.pos; omega)
      have bk := back_less g2.pos g1.pos p1 g1.cop x1
      refine ⟨.ref l, rfl, l, _, 0, .ref t1, rfl, rfl, sqL el15, rfl, .ref r, rfl, t1, r, _, _, c, d, rfl, r115, ho15, g10, g2, (Int.ne_of_gt U1d), fun t10 H16 n10 k16 r10 => ?_⟩
      have r10' : Rt H16 t10 a b := by
        have z := r10
        rw [bk.1, bk.2] at z
        exact z
      have okab : okD 8 (.tuple [.int a, .int b]) = true := okR (absUp (by decide) a41) (absUp (by decide) b41)
      refine ⟨.ref p, rfl, _, _, dpR r10', dpR (k16 _ _ hp15), okD_shaped okab (by decide), okD_shaped okab (by decide), false, ?_, ?_⟩
      · rw [SeqAt.eqv_refl _ (okD_lay 8 _ okab)]; rfl
      refine ⟨.ref l, rfl, l, rfl, ⟨_, sqL (k16 _ _ el15)⟩, fun D hD => ?_⟩
      refine lc_list (K := K) (a := l) (xs := [.ref t1, .ref t2, .ref t3]) (fun i H2 => H2 D = some (.lst ((List.replicate i true).map V.bl)) ∧ Kp H16 H2) ⟨upd_same, Kp.new hD⟩ (fun i H2 _ h2 => h2.2.sq (sqL (k16 _ _ el15))) ?_ ?_
      · rintro i y H2' hi ⟨e2, k2'⟩
        have key : ∃ t n u, y = .ref t ∧ Rt H2' t n u ∧ 1 ≤ u ∧ CoP n u ∧ i < 3 := by
          match i, hi with
          | 0, hi => exact ⟨t1, _, _, (Option.some.inj hi).symm, k2' _ _ (k16 _ _ r115), by omega, c1, by omega⟩
          | 1, hi => exact ⟨t2, _, _, (Option.some.inj hi).symm, k2' _ _ (k16 _ _ r215), by omega, c2, by omega⟩
          | 2, hi => exact ⟨t3, _, _, (Option.some.inj hi).symm, k2' _ _ (k16 _ _ r315), by omega, c3, by omega⟩
          | i + 3, hi => cases hi
        obtain ⟨t, n, u, rfl, rt, hu, hcp, i3⟩ := key
        refine ⟨rfl, ?_⟩
        refine ⟨.ref t, rfl, t, n, u, rfl, rt, hu, hcp, true, true, rfl, rfl, ?_⟩
        refine ⟨_, e2, szLt (by rw [List.length_map, List.length_replicate]; omega), ?_, ?_⟩
        · rw [upd_same, List.replicate_succ', List.map_append]; rfl
        · intro b2 u2 z
          rw [upd_ne (ne_of_none z hD)]
          exact k2' b2 u2 z
      · rintro H17 ⟨e2, k17⟩
        have k517 := (k515.trans k16).trans k17
        refine ⟨D, List.replicate 3 true, rfl, sqL e2, true, rfl, ?_⟩
        -- c == 0
        refine ⟨.int c, rfl, rfl, _, rfl, ite2 (fun e => ?_) (fun e => ?_)⟩
        · exact q _ (kk5.trans k517)
        · have c0 : c ≠ 0 := fun z => e (decide_eq_true (congrArg V.int z))
          have bc0 : b * c ≠ 0 := Int.mul_ne_zero (by have := g1.pos; omega) c0
          have hp17 := k517 _ _ hp5
          have ho17 := k517 _ _ ho5
          have sA : (a * d).natAbs < 2 ^ 82 := absMul a41 d41
          have sB : (b * c).natAbs < 2 ^ 82 := absMul b41 c41
          refine ⟨.ref p, rfl, .ref r, rfl, p, r, a, b, c, d, rfl, hp17, ho17, g1, g2, bc0, fun t11 H18 n11 k18 r11 => ?_⟩
          have m1 := Nat.lt_of_le_of_lt (lowN_le (n := a * d) bc0) sA
          have m2 := Nat.lt_of_le_of_lt (lowU_le (n := a * d) bc0) sB
          have okT : okD 8 (.tuple [.int (lowN (a * d) (b * c)), .int (lowU (a * d) (b * c))]) = true := okR (absUp (by decide) m1) (absUp (by decide) m2)
          have up := lowU_pos (n := a * d) bc0
          have g11 : Gd (lowN (a * d) (b * c)) (lowU (a * d) (b * c)) := ⟨by omega, low_cop bc0, absUp (by decide) m1, absUp (by decide) m2⟩
          refine ⟨.ref t11, rfl, .int a, rfl, .int d, rfl, a, d, rfl, rfl, wm g1.na g2.nb, .int b, rfl, .int c, rfl, b, c, rfl, rfl, wm g1.nb g2.na, _, _, rfl, bc0, absUp (by decide) sB, fun t12 H19 n12 k19 r12 => ?_⟩
          refine ⟨_, _, dpR (k19 _ _ r11), dpR r12, okD_shaped okT (by decide), okD_shaped okT (by decide), true, ?_, ?_⟩
          · rw [SeqAt.eqv_refl _ (okD_lay 8 _ okT)]
          have k1719 := k18.trans k19
          have Ud := Int.mul_pos up (show 0 < d by have := g2.pos; omega)
          have bt := back_times g2.pos g1.pos up g1.cop (low_cross (a * d) (b * c))
          refine ⟨.ref t11, rfl, .ref r, rfl, t11, r, _, _, c, d, rfl, k19 _ _ r11, k1719 _ _ ho17, g11, g2, (Int.ne_of_gt Ud), fun t13 H20 n13 k20 r13 => ?_⟩
          have r13' : Rt H20 t13 a b := by
            have z := r13
            rw [bt.1, bt.2] at z
            exact z
          refine ⟨.ref p, rfl, _, _, dpR r13', dpR (k20 _ _ (k1719 _ _ hp17)), okD_shaped okab (by decide), okD_shaped okab (by decide), true, ?_, ?_⟩
          · rw [SeqAt.eqv_refl _ (okD_lay 8 _ okab)]
          have k1720 := k1719.trans k20
          refine ⟨.ref r, rfl, .ref p, rfl, p, r, a, b, c, d, rfl, k1720 _ _ hp17, k1720 _ _ ho17, g1, g2, bc0, fun t14 H21 n14 k21 r14 => ?_⟩
          refine ⟨.ref t11, rfl, _, _, dpR r14, dpR (k21 _ _ (k20 _ _ (k19 _ _ r11))), okD_shaped okT (by decide), okD_shaped okT (by decide), ?_⟩
          rw [SeqAt.eqv_refl _ (okD_lay 8 _ okT)]
          exact q _ (((kk5.trans k517).trans k1720).trans k21)

end
end K13

namespace K13
open PySem PySem.Spec PyProof.Rows L2 EP
section
variable {P : Program} {w : World} {K : PySem.W.Frag} {mg : Str → Option Value} {base : Heap}

def spRight : Sp := fun vs H Q _ => ∃ a : Addr, vs = [.ref a] ∧ Pot H a ∧ ∀ H', Q (.bl true) H'
theorem ok_law_right (T : Tx K mg) : GOk P w K mg base 6 T.f_law_right T.fd_law_right ["pot"] spRight := by
  have G_law_draw := ok_law_draw (P := P) (w := w) (base := base) T
  have G_law_ratio := ok_law_ratio (P := P) (w := w) (base := base) T
  have G_law_pair_right := ok_law_pair_right (P := P) (w := w) (base := base) T
  have G_ratio_of := ok_ratio_of (P := P) (w := w) (base := base) T
  have G_law_low := ok_law_low (P := P) (w := w) (base := base) T
  refine gok T.F_law_right sc_law_right (fun vs H Q E h => ?_) (fun cdv A outer s H vs Q hg hr h => ?_)
  · obtain ⟨a, rfl, _⟩ := h
    rfl
  · obtain ⟨a, rfl, hp, q⟩ := h
    refine ⟨_, (pss_cons (ps_for PassesOwn.never rfl (pi_range1 (by rfl) T.z_range (pa_cons pe_int pa_nil)) (pg_name (i := 1) sc_law_right.nd rfl (.inl rfl)) (pss_cons (ps_par (i := 2) (j := 3) rfl sc_law_right.nd rfl rfl (by decide) rfl rfl (pa_cons (pe_call G_law_ratio (hr.mono (by decide)) (by rfl) T.m_law_ratio T.F_law_ratio.kp T.b_law_ratio .nil pass0 (pa_cons (pv 0) pa_nil)) (pa_cons (pe_call G_law_ratio (hr.mono (by decide)) (by rfl) T.m_law_ratio T.F_law_ratio.kp T.b_law_ratio .nil pass0 (pa_cons (pv 0) pa_nil)) pa_nil)) (by rfl))
  (pss_cons (ps_if (PW.pt (pw_or (pt_not (pt_val (pe_gcall (by exact hg) G_law_pair_right (hr.mono (by decide)) (by rfl) T.m_law_pair_right T.F_law_pair_right.kp T.b_law_pair_right (pa_cons (pv 2) (pa_cons (pv 3) pa_nil))))) (pw_or1 (pt_not (pt_val (pe_gcall (by exact hg) G_law_pair_right (hr.mono (by decide)) (by rfl) T.m_law_pair_right T.F_law_pair_right.kp T.b_law_pair_right (pa_cons (pv 2) (pa_cons (pv 2) pa_nil)))))))) (pss_one (ps_ret pe_bl)) pss_nil)
  (pss_cons (ps_par (i := 4) (j := 5) rfl sc_law_right.nd rfl rfl (by decide) rfl rfl (pa_cons (pe_op op_sub (pe_call G_law_draw (hr.mono (by decide)) (by rfl) T.m_law_draw T.F_law_draw.kp T.b_law_draw .nil pass0 (pa_cons (pv 0) (pa_cons pe_int pa_nil))) pe_int) (pa_cons (pe_op op_mul (pe_op op_add pe_int (pe_call G_law_draw (hr.mono (by decide)) (by rfl) T.m_law_draw T.F_law_draw.kp T.b_law_draw .nil pass0 (pa_cons (pv 0) (pa_cons pe_int pa_nil)))) (pe_op op_sub pe_int (pe_op op_mul pe_int (pe_call G_law_draw (hr.mono (by decide)) (by rfl) T.m_law_draw T.F_law_draw.kp T.b_law_draw .nil pass0 (pa_cons (pv 0) (pa_cons pe_int pa_nil)))))) pa_nil)) (by rfl))
  (pss_cons (ps_if (pt_cmpR op_ne (pe_callB (call_rep (by exact hg) (un66 hr)) (by rfl) T.z_repr (by decide +kernel) (pa_cons (pe_lst (pa_cons (pe_call G_ratio_of (hr.mono (by decide)) (by rfl) T.m_ratio_of T.F_ratio_of.kp T.b_ratio_of .nil pass0 (pa_cons (pv 4) (pa_cons (pv 5) pa_nil))) (pa_cons (pe_kcall G_ratio_of (hr.mono (by decide)) (by rfl) T.m_ratio_of T.F_ratio_of.kp T.kb_ratio_of_5 pass0 (pk_cons (pv 5) (pk_cons (pv 4) pk_nil))) pa_nil))) pa_nil)) (pe_callB (call_rep (by exact hg) (un66 hr)) (by rfl) T.z_repr (by decide +kernel) (pa_cons (pe_op op_rep (pe_lst (pa_cons (pe_call G_law_low (hr.mono (by decide)) (by rfl) T.m_law_low T.F_law_low.kp T.b_law_low .nil pass0 (pa_cons (pv 4) (pa_cons (pv 5) pa_nil))) pa_nil)) pe_int) pa_nil)) (nomark _)) (pss_one (ps_ret pe_bl)) pss_nil)
  (pss_one (ps_if (pt_cmpR (op_neD hr.units) (pe_call G_ratio_of (hr.mono (by decide)) (by rfl) T.m_ratio_of T.F_ratio_of.kp T.b_ratio_of .nil pass0 (pa_cons (pe_op op_mul (pv 4) pe_int) (pa_cons (pe_op op_mul (pv 5) pe_int) pa_nil))) (pe_call G_law_low (hr.mono (by decide)) (by rfl) T.m_law_low T.F_law_low.kp T.b_law_low .nil pass0 (pa_cons (pv 4) (pa_cons (pv 5) pa_nil))) (nomark _)) (pss_one (ps_ret pe_bl)) pss_nil)))))))
  (pss_one (ps_ret pe_bl))), ?_⟩
    refine ⟨4, rfl, by decide, by decide, for_range (lo := 0) (n := 4) (fun i σ H2 => (∃ x1 x2 x3 x4 x5, σ = [some (.ref a), x1, x2, x3, x4, x5]) ∧ Pot H2 a) ⟨⟨_, _, _, _, _, rfl⟩, hp⟩ ?_ ?_⟩
    · rintro i σ H1 hi ⟨⟨x1, x2, x3, x4, x5, rfl⟩, p1⟩
      refine ⟨.ref a, rfl, a, rfl, p1, fun t1 n1 u1 H2 ne1 b2 p2 r1 g1 _ s1 s2 => ?_⟩
      refine ⟨.ref a, rfl, a, rfl, p2, fun t2 n2 u2 H3 ne2 b3 p3 r2 g2 _ s3 s4 => ?_⟩
      have r1' : Rt H3 t1 n1 u1 := b3 _ _ ne1 r1
      refine ⟨_, _, rfl, ?_⟩
      refine ⟨.ref t1, rfl, .ref t2, rfl, t1, t2, n1, u1, n2, u2, rfl, r1', r2, g1, g2, s1, s2, s3, s4, fun H4 k4 => ⟨true, rfl, ?_⟩⟩
      refine ⟨.ref t1, rfl, .ref t1, rfl, t1, t1, n1, u1, n1, u1, rfl, k4 _ _ r1', k4 _ _ r1', g1, g1, s1, s2, s1, s2, fun H5 k5 => ⟨true, rfl, ?_⟩⟩
      have p5 := (p3.kp k4).kp k5
      -- first, second
      refine ⟨.ref a, rfl, a, 2001, rfl, p5, by decide, by decide, fun d H6 d0 d1 b6 p6 => ?_⟩
      refine ⟨d, 1000, rfl, rfl, ?_⟩
      refine ⟨.ref a, rfl, a, 300, rfl, p6, by decide, by decide, fun e H7 e0 e1 b7 p7 => ?_⟩
      refine ⟨1, e, rfl, rfl, ?_⟩
      refine ⟨.ref a, rfl, a, 2, rfl, p7, by decide, by decide, fun f H8 f0 f1 b8 p8 => ?_⟩
      refine ⟨2, f, rfl, rfl, .inl ⟨by decide, by decide⟩, 1, _, rfl, rfl, _, _, rfl, rfl, .inl ⟨by omega, by omega⟩, _, _, rfl, ?_⟩
      obtain ⟨x, ex⟩ : ∃ x, x = d - 1000 := ⟨_, rfl⟩
      obtain ⟨y, ey⟩ : ∃ y, y = (1 + e) * (1 - 2 * f) := ⟨_, rfl⟩
      have hy : y ≠ 0 ∧ -300 ≤ y ∧ y ≤ 300 := by
        have hf : f = 0 ∨ f = 1 := by omega
        rcases hf with z | z <;> subst z <;> omega
      have sx : some (some (V.int (d - 1000))) = some (some (V.int x)) := by rw [ex]
      have sy : some (some (V.int ((1 + e) * (1 - 2 * f)))) = some (some (V.int y)) := by rw [ey]
      have bx : x.natAbs < 2 ^ 20 := by omega
      have bY : y.natAbs < 2 ^ 20 := by omega
      refine ⟨.int x, sx, .int y, sy, x, y, rfl, hy.1, absUp (by decide) bx, absUp (by decide) bY, fun t3 H9 m3 k9 r3 => ?_⟩
      refine ⟨.int y, sy, .int x, sx, x, y, rfl, hy.1, absUp (by decide) bx, absUp (by decide) bY, fun t4 H10 m4 k10 r4 => ?_⟩
      refine ⟨szOk (show 2 ≤ 100000 by decide), fun l nl => ?_⟩
      have k11 : Kp H10 (upd H10 l (.lst [.ref t3, .ref t4])) := Kp.new nl
      have el : (upd H10 l (.lst [.ref t3, .ref t4])) l = some (.lst [.ref t3, .ref t4]) := upd_same
      generalize upd H10 l (.lst [.ref t3, .ref t4]) = H11 at k11 el ⊢
      have w1 := Nat.lt_of_le_of_lt (lowN_le (n := x) hy.1) bx
      have w2 := Nat.lt_of_le_of_lt (lowU_le (n := x) hy.1) bY
      have okR1 : okD 7 (.tuple [.int (lowN x y), .int (lowU x y)]) = true := okR (absUp (by decide) w1) (absUp (by decide) w2)
      have okL : okD 8 (.list [.tuple [.int (lowN x y), .int (lowU x y)], .tuple [.int (lowN x y), .int (lowU x y)]]) = true := by
        show (okD 7 _ && (okD 7 _ && true)) = true
        rw [okR1]; rfl
      refine ⟨l, _, rfl, .lst (xs := [.ref t3, .ref t4]) (sqL el) (.cons (dpR (k11 _ _ (k10 _ _ r3))) (.cons (dpR (k11 _ _ r4)) .nil)), okL, (show 7 ≤ 4000 by decide), ?_⟩
      refine ⟨.int x, sx, .int y, sy, x, y, rfl, hy.1, absUp (by decide) bY, fun t5 H12 m5 k12 r5 => ?_⟩
      refine ⟨szOk (show 1 ≤ 100000 by decide), fun l2 nl2 => ?_⟩
      have k13 : Kp H12 (upd H12 l2 (.lst [.ref t5])) := Kp.new nl2
      have el2 : (upd H12 l2 (.lst [.ref t5])) l2 = some (.lst [.ref t5]) := upd_same
      generalize upd H12 l2 (.lst [.ref t5]) = H13 at k13 el2 ⊢
      refine ⟨l2, 2, _, rfl, rfl, el2, by decide, by decide, szOk (show 2 ≤ 100000 by decide), fun l3 nl3 => ?_⟩
      have k14 : Kp H13 (upd H13 l3 (.lst [.ref t5, .ref t5])) := Kp.new nl3
      have el3 : (upd H13 l3 (.lst [.ref t5, .ref t5])) l3 = some (.lst [.ref t5, .ref t5]) := upd_same
      have r5' := k14 _ _ (k13 _ _ r5)
      refine ⟨l3, _, rfl, .lst (xs := [.ref t5, .ref t5]) (sqL el3) (.cons (dpR r5') (.cons (dpR r5') .nil)), okL, (show 7 ≤ 4000 by decide), rfl, false, by simp, ?_⟩
      have p14 := (((((p8.kp k9).kp k10).kp k11).kp k12).kp k13).kp k14
      have k1214 := k13.trans k14
      refine ⟨.int x, sx, x, 6, rfl, rfl, .inl ⟨by omega, by omega⟩, .int y, sy, y, 6, rfl, rfl, .inl ⟨by omega, by omega⟩, _, _, rfl, (show y * 6 ≠ 0 by omega), absUp (x := 30) (by decide) (show (x * 6).natAbs < 2 ^ 30 by omega), absUp (x := 30) (by decide) (show (y * 6).natAbs < 2 ^ 30 by omega), fun t6 H15 m6 k15 r6 => ?_⟩
      refine ⟨.int x, sx, .int y, sy, x, y, rfl, hy.1, absUp (by decide) bY, fun t7 H16 m7 k16 r7 => ?_⟩
      have eu : lowN (x * 6) (y * 6) = lowN x y ∧ lowU (x * 6) (y * 6) = lowU x y := by
        refine low_uniq (by omega) (lowU_pos hy.1) (low_cop hy.1) ?_
        have z := low_cross x y
        calc x * 6 * lowU x y = (x * lowU x y) * 6 := by simp only [Int.mul_assoc, Int.mul_comm, Int.mul_left_comm]
          _ = y * 6 * lowN x y := by rw [z]; simp only [Int.mul_assoc, Int.mul_comm, Int.mul_left_comm]
      have r6' : Rt H15 t6 (lowN x y) (lowU x y) := by
        have z := r6
        rw [eu.1, eu.2] at z
        exact z
      refine ⟨_, _, dpR (k16 _ _ r6'), dpR r7, okD_shaped okR1 (by decide), okD_shaped okR1 (by decide), false, ?_, ?_⟩
      · rw [SeqAt.eqv_refl _ (okD_lay 7 _ okR1)]; rfl
      · exact ⟨⟨_, _, _, _, _, rfl⟩, (p14.kp k15).kp k16⟩
    · rintro σ H1 ⟨⟨x1, x2, x3, x4, x5, rfl⟩, p1⟩
      exact q _

end
end K13

namespace K13
open PySem PySem.Spec PyProof.Rows L2 EP
section
variable {P : Program} {w : World} {K : PySem.W.Frag} {mg : Str → Option Value} {base : Heap}

def spLaw (K : PySem.W.Frag) : Sp := fun vs H Q _ => ∃ (a : Addr) (ns : List Int), vs = [.ref a] ∧ SqL K H a (ns.map V.int) ∧ ns.length ≤ 63 ∧ ∀ H', Q (.bl true) H'
theorem ok_law (T : Tx K mg) : GOk P w K mg base 7 T.f_law T.fd_law ["script"] (spLaw K) := by
  have G_law_right := ok_law_right (P := P) (w := w) (base := base) T
  have G_law_pot := ok_law_pot (P := P) (w := w) (base := base) T
  refine gok T.F_law sc_law (fun vs H Q E h => ?_) (fun cdv A outer s H vs Q hg hr h => ?_)
  · obtain ⟨a, ns, rfl, _⟩ := h
    rfl
  · obtain ⟨a, ns, rfl, hS, hl, q⟩ := h
    refine ⟨_, (pss_one (ps_ret (pe_gcall (by exact hg) G_law_right (hr.mono (by decide)) (by rfl) T.m_law_right T.F_law_right.kp T.b_law_right (pa_cons (pe_call G_law_pot (hr.mono (by decide)) (by rfl) T.m_law_pot T.F_law_pot.kp T.b_law_pot .nil pass0 (pa_cons (pv 0) (pa_cons pe_int pa_nil))) pa_nil)))), ?_⟩
    exact ⟨.ref a, rfl, a, ns, rfl, hS, hl, fun p H1 np k1 p1 => ⟨p, rfl, p1, q⟩⟩
end
theorem all_mk {l : PySem.W.OpenLaw} {w : World} {K : PySem.W.Frag} {h : Heap} {mg : Str → Option Value} {fa f1 f2 f3 f4 f5 f6 f7 f8 f9 f10 f11 f12 f13 f14 f15 f16 f17 f18 f19 f20 f21 f22 : Addr} (X : K.In h) (G : h.Ns mainGlobals mg) (hfa : mg "law" = some (.ref fa))
    {od1 an1 : Option Addr} {sl1 : Array (Option Value)} {oc1 kV1 dc1 pm1 cd1 ct1 : Value}
    {od2 an2 : Option Addr} {sl2 : Array (Option Value)} {oc2 kV2 dc2 pm2 cd2 ct2 : Value}
    {od3 an3 : Option Addr} {sl3 : Array (Option Value)} {oc3 kV3 dc3 pm3 cd3 ct3 : Value}
    {od4 an4 : Option Addr} {sl4 : Array (Option Value)} {oc4 kV4 dc4 pm4 cd4 ct4 : Value}
    {od5 an5 : Option Addr} {sl5 : Array (Option Value)} {oc5 kV5 dc5 pm5 cd5 ct5 : Value}
    {od6 an6 : Option Addr} {sl6 : Array (Option Value)} {oc6 kV6 dc6 pm6 cd6 ct6 : Value}
    {od7 an7 : Option Addr} {sl7 : Array (Option Value)} {oc7 kV7 dc7 pm7 cd7 ct7 : Value}
    {od8 an8 : Option Addr} {sl8 : Array (Option Value)} {oc8 kV8 dc8 pm8 cd8 ct8 : Value}
    {od9 an9 : Option Addr} {sl9 : Array (Option Value)} {oc9 kV9 dc9 pm9 cd9 ct9 : Value}
    {od10 an10 : Option Addr} {sl10 : Array (Option Value)} {oc10 kV10 dc10 pm10 cd10 ct10 : Value}
    {od11 an11 : Option Addr} {sl11 : Array (Option Value)} {oc11 kV11 dc11 pm11 cd11 ct11 : Value}
    {od12 an12 : Option Addr} {sl12 : Array (Option Value)} {oc12 kV12 dc12 pm12 cd12 ct12 : Value}
    {od13 an13 : Option Addr} {sl13 : Array (Option Value)} {oc13 kV13 dc13 pm13 cd13 ct13 : Value}
    {od14 an14 : Option Addr} {sl14 : Array (Option Value)} {oc14 kV14 dc14 pm14 cd14 ct14 : Value}
    {od15 an15 : Option Addr} {sl15 : Array (Option Value)} {oc15 kV15 dc15 pm15 cd15 ct15 : Value}
    {od16 an16 : Option Addr} {sl16 : Array (Option Value)} {oc16 kV16 dc16 pm16 cd16 ct16 : Value}
    {od17 an17 : Option Addr} {sl17 : Array (Option Value)} {oc17 kV17 dc17 pm17 cd17 ct17 : Value}
    {od18 an18 : Option Addr} {sl18 : Array (Option Value)} {oc18 kV18 dc18 pm18 cd18 ct18 : Value}
    {od19 an19 : Option Addr} {sl19 : Array (Option Value)} {oc19 kV19 dc19 pm19 cd19 ct19 : Value}
    {od20 an20 : Option Addr} {sl20 : Array (Option Value)} {oc20 kV20 dc20 pm20 cd20 ct20 : Value}
    {od21 an21 : Option Addr} {sl21 : Array (Option Value)} {oc21 kV21 dc21 pm21 cd21 ct21 : Value}
    {od22 an22 : Option Addr} {sl22 : Array (Option Value)} {oc22 kV22 dc22 pm22 cd22 ct22 : Value}
    (a1 : PySem.W.nsIn K mainGlobals "is_integer" = some (some (.ref f1))) (l1 : K.lookup f1 = some ⟨oc1, od1, .func (PySem.W.fnOf "is_integer" "is_integer" (defArgs s_is_integer) (defBody s_is_integer) (defScope s_is_integer) .none kV1 dc1 pm1 an1 cd1 ct1), sl1⟩) (c1 : PySem.W.codeIn K cd1 "is_integer" = true) (k1 : PySem.W.keepIn K (.ref f1) = true)
    (a2 : PySem.W.nsIn K mainGlobals "is_pair" = some (some (.ref f2))) (l2 : K.lookup f2 = some ⟨oc2, od2, .func (PySem.W.fnOf "is_pair" "is_pair" (defArgs s_is_pair) (defBody s_is_pair) (defScope s_is_pair) .none kV2 dc2 pm2 an2 cd2 ct2), sl2⟩) (c2 : PySem.W.codeIn K cd2 "is_pair" = true) (k2 : PySem.W.keepIn K (.ref f2) = true)
    (a3 : PySem.W.nsIn K mainGlobals "check_integer" = some (some (.ref f3))) (l3 : K.lookup f3 = some ⟨oc3, od3, .func (PySem.W.fnOf "check_integer" "check_integer" (defArgs s_check_integer) (defBody s_check_integer) (defScope s_check_integer) .none kV3 dc3 pm3 an3 cd3 ct3), sl3⟩) (c3 : PySem.W.codeIn K cd3 "check_integer" = true) (k3 : PySem.W.keepIn K (.ref f3) = true)
    (a4 : PySem.W.nsIn K mainGlobals "check_digits" = some (some (.ref f4))) (l4 : K.lookup f4 = some ⟨oc4, od4, .func (PySem.W.fnOf "check_digits" "check_digits" (defArgs s_check_digits) (defBody s_check_digits) (defScope s_check_digits) .none kV4 dc4 pm4 an4 cd4 ct4), sl4⟩) (c4 : PySem.W.codeIn K cd4 "check_digits" = true) (k4 : PySem.W.keepIn K (.ref f4) = true)
    (a5 : PySem.W.nsIn K mainGlobals "is_ratio" = some (some (.ref f5))) (l5 : K.lookup f5 = some ⟨oc5, od5, .func (PySem.W.fnOf "is_ratio" "is_ratio" (defArgs s_is_ratio) (defBody s_is_ratio) (defScope s_is_ratio) .none kV5 dc5 pm5 an5 cd5 ct5), sl5⟩) (c5 : PySem.W.codeIn K cd5 "is_ratio" = true) (k5 : PySem.W.keepIn K (.ref f5) = true)
    (a6 : PySem.W.nsIn K mainGlobals "check_ratio" = some (some (.ref f6))) (l6 : K.lookup f6 = some ⟨oc6, od6, .func (PySem.W.fnOf "check_ratio" "check_ratio" (defArgs s_check_ratio) (defBody s_check_ratio) (defScope s_check_ratio) .none kV6 dc6 pm6 an6 cd6 ct6), sl6⟩) (c6 : PySem.W.codeIn K cd6 "check_ratio" = true) (k6 : PySem.W.keepIn K (.ref f6) = true)
    (a7 : PySem.W.nsIn K mainGlobals "reduced" = some (some (.ref f7))) (l7 : K.lookup f7 = some ⟨oc7, od7, .func (PySem.W.fnOf "reduced" "reduced" (defArgs s_reduced) (defBody s_reduced) (defScope s_reduced) .none kV7 dc7 pm7 an7 cd7 ct7), sl7⟩) (c7 : PySem.W.codeIn K cd7 "reduced" = true) (k7 : PySem.W.keepIn K (.ref f7) = true)
    (a8 : PySem.W.nsIn K mainGlobals "ratio_of" = some (some (.ref f8))) (l8 : K.lookup f8 = some ⟨oc8, od8, .func (PySem.W.fnOf "ratio_of" "ratio_of" (defArgs s_ratio_of) (defBody s_ratio_of) (defScope s_ratio_of) .none kV8 dc8 pm8 an8 cd8 ct8), sl8⟩) (c8 : PySem.W.codeIn K cd8 "ratio_of" = true) (k8 : PySem.W.keepIn K (.ref f8) = true)
    (a9 : PySem.W.nsIn K mainGlobals "added" = some (some (.ref f9))) (l9 : K.lookup f9 = some ⟨oc9, od9, .func (PySem.W.fnOf "added" "added" (defArgs s_added) (defBody s_added) (defScope s_added) .none kV9 dc9 pm9 an9 cd9 ct9), sl9⟩) (c9 : PySem.W.codeIn K cd9 "added" = true) (k9 : PySem.W.keepIn K (.ref f9) = true)
    (a10 : PySem.W.nsIn K mainGlobals "less" = some (some (.ref f10))) (l10 : K.lookup f10 = some ⟨oc10, od10, .func (PySem.W.fnOf "less" "less" (defArgs s_less) (defBody s_less) (defScope s_less) .none kV10 dc10 pm10 an10 cd10 ct10), sl10⟩) (c10 : PySem.W.codeIn K cd10 "less" = true) (k10 : PySem.W.keepIn K (.ref f10) = true)
    (a11 : PySem.W.nsIn K mainGlobals "times" = some (some (.ref f11))) (l11 : K.lookup f11 = some ⟨oc11, od11, .func (PySem.W.fnOf "times" "times" (defArgs s_times) (defBody s_times) (defScope s_times) .none kV11 dc11 pm11 an11 cd11 ct11), sl11⟩) (c11 : PySem.W.codeIn K cd11 "times" = true) (k11 : PySem.W.keepIn K (.ref f11) = true)
    (a12 : PySem.W.nsIn K mainGlobals "divided" = some (some (.ref f12))) (l12 : K.lookup f12 = some ⟨oc12, od12, .func (PySem.W.fnOf "divided" "divided" (defArgs s_divided) (defBody s_divided) (defScope s_divided) .none kV12 dc12 pm12 an12 cd12 ct12), sl12⟩) (c12 : PySem.W.codeIn K cd12 "divided" = true) (k12 : PySem.W.keepIn K (.ref f12) = true)
    (a13 : PySem.W.nsIn K mainGlobals "compared" = some (some (.ref f13))) (l13 : K.lookup f13 = some ⟨oc13, od13, .func (PySem.W.fnOf "compared" "compared" (defArgs s_compared) (defBody s_compared) (defScope s_compared) .none kV13 dc13 pm13 an13 cd13 ct13), sl13⟩) (c13 : PySem.W.codeIn K cd13 "compared" = true) (k13 : PySem.W.keepIn K (.ref f13) = true)
    (a14 : PySem.W.nsIn K mainGlobals "_law_pot" = some (some (.ref f14))) (l14 : K.lookup f14 = some ⟨oc14, od14, .func (PySem.W.fnOf "_law_pot" "_law_pot" (defArgs s_law_pot) (defBody s_law_pot) (defScope s_law_pot) .none kV14 dc14 pm14 an14 cd14 ct14), sl14⟩) (c14 : PySem.W.codeIn K cd14 "_law_pot" = true) (k14 : PySem.W.keepIn K (.ref f14) = true)
    (a15 : PySem.W.nsIn K mainGlobals "_law_draw" = some (some (.ref f15))) (l15 : K.lookup f15 = some ⟨oc15, od15, .func (PySem.W.fnOf "_law_draw" "_law_draw" (defArgs s_law_draw) (defBody s_law_draw) (defScope s_law_draw) .none kV15 dc15 pm15 an15 cd15 ct15), sl15⟩) (c15 : PySem.W.codeIn K cd15 "_law_draw" = true) (k15 : PySem.W.keepIn K (.ref f15) = true)
    (a16 : PySem.W.nsIn K mainGlobals "_law_pick" = some (some (.ref f16))) (l16 : K.lookup f16 = some ⟨oc16, od16, .func (PySem.W.fnOf "_law_pick" "_law_pick" (defArgs s_law_pick) (defBody s_law_pick) (defScope s_law_pick) .none kV16 dc16 pm16 an16 cd16 ct16), sl16⟩) (c16 : PySem.W.codeIn K cd16 "_law_pick" = true) (k16 : PySem.W.keepIn K (.ref f16) = true)
    (a17 : PySem.W.nsIn K mainGlobals "_law_gcd" = some (some (.ref f17))) (l17 : K.lookup f17 = some ⟨oc17, od17, .func (PySem.W.fnOf "_law_gcd" "_law_gcd" (defArgs s_law_gcd) (defBody s_law_gcd) (defScope s_law_gcd) .none kV17 dc17 pm17 an17 cd17 ct17), sl17⟩) (c17 : PySem.W.codeIn K cd17 "_law_gcd" = true) (k17 : PySem.W.keepIn K (.ref f17) = true)
    (a18 : PySem.W.nsIn K mainGlobals "_law_low" = some (some (.ref f18))) (l18 : K.lookup f18 = some ⟨oc18, od18, .func (PySem.W.fnOf "_law_low" "_law_low" (defArgs s_law_low) (defBody s_law_low) (defScope s_law_low) .none kV18 dc18 pm18 an18 cd18 ct18), sl18⟩) (c18 : PySem.W.codeIn K cd18 "_law_low" = true) (k18 : PySem.W.keepIn K (.ref f18) = true)
    (a19 : PySem.W.nsIn K mainGlobals "_law_ratio" = some (some (.ref f19))) (l19 : K.lookup f19 = some ⟨oc19, od19, .func (PySem.W.fnOf "_law_ratio" "_law_ratio" (defArgs s_law_ratio) (defBody s_law_ratio) (defScope s_law_ratio) .none kV19 dc19 pm19 an19 cd19 ct19), sl19⟩) (c19 : PySem.W.codeIn K cd19 "_law_ratio" = true) (k19 : PySem.W.keepIn K (.ref f19) = true)
    (a20 : PySem.W.nsIn K mainGlobals "_law_pair_right" = some (some (.ref f20))) (l20 : K.lookup f20 = some ⟨oc20, od20, .func (PySem.W.fnOf "_law_pair_right" "_law_pair_right" (defArgs s_law_pair_right) (defBody s_law_pair_right) (defScope s_law_pair_right) .none kV20 dc20 pm20 an20 cd20 ct20), sl20⟩) (c20 : PySem.W.codeIn K cd20 "_law_pair_right" = true) (k20 : PySem.W.keepIn K (.ref f20) = true)
    (a21 : PySem.W.nsIn K mainGlobals "_law_right" = some (some (.ref f21))) (l21 : K.lookup f21 = some ⟨oc21, od21, .func (PySem.W.fnOf "_law_right" "_law_right" (defArgs s_law_right) (defBody s_law_right) (defScope s_law_right) .none kV21 dc21 pm21 an21 cd21 ct21), sl21⟩) (c21 : PySem.W.codeIn K cd21 "_law_right" = true) (k21 : PySem.W.keepIn K (.ref f21) = true)
    (a22 : PySem.W.nsIn K mainGlobals "law" = some (some (.ref f22))) (l22 : K.lookup f22 = some ⟨oc22, od22, .func (PySem.W.fnOf "law" "law" (defArgs s_law) (defBody s_law) (defScope s_law) .none kV22 dc22 pm22 an22 cd22 ct22), sl22⟩) (c22 : PySem.W.codeIn K cd22 "law" = true) (k22 : PySem.W.keepIn K (.ref f22) = true)
    (z_abs : PySem.W.nsIn K mainGlobals "abs" = some none)
    (z_all : PySem.W.nsIn K mainGlobals "all" = some none)
    (z_any : PySem.W.nsIn K mainGlobals "any" = some none)
    (z_bool : PySem.W.nsIn K mainGlobals "bool" = some none)
    (z_divmod : PySem.W.nsIn K mainGlobals "divmod" = some none)
    (z_int : PySem.W.nsIn K mainGlobals "int" = some none)
    (z_isinstance : PySem.W.nsIn K mainGlobals "isinstance" = some none)
    (z_len : PySem.W.nsIn K mainGlobals "len" = some none)
    (z_max : PySem.W.nsIn K mainGlobals "max" = some none)
    (z_range : PySem.W.nsIn K mainGlobals "range" = some none)
    (z_repr : PySem.W.nsIn K mainGlobals "repr" = some none)
    (z_tuple : PySem.W.nsIn K mainGlobals "tuple" = some none)
    (zg : PySem.W.nsIn K mainGlobals "gcd" = some (some (.builtin "math.gcd")))
    : ∃ fd : FuncData, (∀ (s : Shared) (v : Value), BindsTo s fd ⟨[v], []⟩ [("script", v)]) ∧ ∀ base : Heap, K.In base → base.Ns mainGlobals mg → GOk l.prog w K mg base 7 fa fd ["script"] (spLaw K) := by
  have e := hfa.symm.trans (PySem.W.mg_of X G a22)
  cases e
  have F1 := fun_mk (st := s_is_integer) l1 c1 k1
  have b1 := F1.binds (ps := ["value"]) fun _ _ _ _ _ _ us hl => match us, hl with | [_], _ => rfl
  have F2 := fun_mk (st := s_is_pair) l2 c2 k2
  have b2 := F2.binds (ps := ["value"]) fun _ _ _ _ _ _ us hl => match us, hl with | [_], _ => rfl
  have F3 := fun_mk (st := s_check_integer) l3 c3 k3
  have b3 := F3.binds (ps := ["number"]) fun _ _ _ _ _ _ us hl => match us, hl with | [_], _ => rfl
  have F4 := fun_mk (st := s_check_digits) l4 c4 k4
  have b4 := F4.binds (ps := ["numbers"]) fun _ _ _ _ _ _ us hl => match us, hl with | [_], _ => rfl
  have F5 := fun_mk (st := s_is_ratio) l5 c5 k5
  have b5 := F5.binds (ps := ["value"]) fun _ _ _ _ _ _ us hl => match us, hl with | [_], _ => rfl
  have F6 := fun_mk (st := s_check_ratio) l6 c6 k6
  have b6 := F6.binds (ps := ["ratio"]) fun _ _ _ _ _ _ us hl => match us, hl with | [_], _ => rfl
  have F7 := fun_mk (st := s_reduced) l7 c7 k7
  have b7 := F7.binds (ps := ["number", "under"]) fun _ _ _ _ _ _ us hl => match us, hl with | [_, _], _ => rfl
  have F8 := fun_mk (st := s_ratio_of) l8 c8 k8
  have b8 := F8.binds (ps := ["first", "second"]) fun _ _ _ _ _ _ us hl => match us, hl with | [_, _], _ => rfl
  have F9 := fun_mk (st := s_added) l9 c9 k9
  have b9 := F9.binds (ps := ["one", "other"]) fun _ _ _ _ _ _ us hl => match us, hl with | [_, _], _ => rfl
  have F10 := fun_mk (st := s_less) l10 c10 k10
  have b10 := F10.binds (ps := ["one", "other"]) fun _ _ _ _ _ _ us hl => match us, hl with | [_, _], _ => rfl
  have F11 := fun_mk (st := s_times) l11 c11 k11
  have b11 := F11.binds (ps := ["one", "other"]) fun _ _ _ _ _ _ us hl => match us, hl with | [_, _], _ => rfl
  have F12 := fun_mk (st := s_divided) l12 c12 k12
  have b12 := F12.binds (ps := ["one", "other"]) fun _ _ _ _ _ _ us hl => match us, hl with | [_, _], _ => rfl
  have F13 := fun_mk (st := s_compared) l13 c13 k13
  have b13 := F13.binds (ps := ["one", "other"]) fun _ _ _ _ _ _ us hl => match us, hl with | [_, _], _ => rfl
  have F14 := fun_mk (st := s_law_pot) l14 c14 k14
  have b14 := F14.binds (ps := ["script", "k"]) fun _ _ _ _ _ _ us hl => match us, hl with | [_, _], _ => rfl
  have F15 := fun_mk (st := s_law_draw) l15 c15 k15
  have b15 := F15.binds (ps := ["pot", "many"]) fun _ _ _ _ _ _ us hl => match us, hl with | [_, _], _ => rfl
  have F16 := fun_mk (st := s_law_pick) l16 c16 k16
  have b16 := F16.binds (ps := ["pot", "some"]) fun _ _ _ _ _ _ us hl => match us, hl with | [_, _], _ => rfl
  have F17 := fun_mk (st := s_law_gcd) l17 c17 k17
  have b17 := F17.binds (ps := ["one", "other"]) fun _ _ _ _ _ _ us hl => match us, hl with | [_, _], _ => rfl
  have F18 := fun_mk (st := s_law_low) l18 c18 k18
  have b18 := F18.binds (ps := ["number", "under"]) fun _ _ _ _ _ _ us hl => match us, hl with | [_, _], _ => rfl
  have F19 := fun_mk (st := s_law_ratio) l19 c19 k19
  have b19 := F19.binds (ps := ["pot"]) fun _ _ _ _ _ _ us hl => match us, hl with | [_], _ => rfl
  have F20 := fun_mk (st := s_law_pair_right) l20 c20 k20
  have b20 := F20.binds (ps := ["one", "other"]) fun _ _ _ _ _ _ us hl => match us, hl with | [_, _], _ => rfl
  have F21 := fun_mk (st := s_law_right) l21 c21 k21
  have b21 := F21.binds (ps := ["pot"]) fun _ _ _ _ _ _ us hl => match us, hl with | [_], _ => rfl
  have F22 := fun_mk (st := s_law) l22 c22 k22
  have b22 := F22.binds (ps := ["script"]) fun _ _ _ _ _ _ us hl => match us, hl with | [_], _ => rfl
  have kb_kb_times_0 : KBinds K (PySem.W.fnOf "times" "times" (defArgs s_times) (defBody s_times) (defScope s_times) .none kV11 dc11 pm11 an11 cd11 ct11) ["one", "other"] ["other", "one"] (fun us ws => match us, ws with | [], [ws0, ws1] => [ws1, ws0] | _, _ => []) (fun us ws => match us, ws with | [], [ws0, ws1] => [ws1, ws0] | _, _ => []) := by
    refine ⟨fun s us ws _ hl => ?_, fun {vs us zs ws} r1 r2 => ?_⟩
    · match us, ws, hl with
      | [], [_, _], _ => exact .of_eq rfl
    · rcases r1 with _ | ⟨q0, r1⟩ <;> (try rcases r1 with _ | ⟨q1, r1⟩) <;> (try rcases r1 with _ | ⟨q2, r1⟩) <;> (try rcases r1 with _ | ⟨q3, r1⟩) <;> rcases r2 with _ | ⟨p0, r2⟩ <;> (try rcases r2 with _ | ⟨p1, r2⟩) <;> (try rcases r2 with _ | ⟨p2, r2⟩) <;> (try rcases r2 with _ | ⟨p3, r2⟩) <;> first | exact .nil | (repeat (first | exact .nil | refine .cons (by assumption) ?_))
  have kb_kb_less_1 : KBinds K (PySem.W.fnOf "less" "less" (defArgs s_less) (defBody s_less) (defScope s_less) .none kV10 dc10 pm10 an10 cd10 ct10) ["one", "other"] ["other", "one"] (fun us ws => match us, ws with | [], [ws0, ws1] => [ws1, ws0] | _, _ => []) (fun us ws => match us, ws with | [], [ws0, ws1] => [ws1, ws0] | _, _ => []) := by
    refine ⟨fun s us ws _ hl => ?_, fun {vs us zs ws} r1 r2 => ?_⟩
    · match us, ws, hl with
      | [], [_, _], _ => exact .of_eq rfl
    · rcases r1 with _ | ⟨q0, r1⟩ <;> (try rcases r1 with _ | ⟨q1, r1⟩) <;> (try rcases r1 with _ | ⟨q2, r1⟩) <;> (try rcases r1 with _ | ⟨q3, r1⟩) <;> rcases r2 with _ | ⟨p0, r2⟩ <;> (try rcases r2 with _ | ⟨p1, r2⟩) <;> (try rcases r2 with _ | ⟨p2, r2⟩) <;> (try rcases r2 with _ | ⟨p3, r2⟩) <;> first | exact .nil | (repeat (first | exact .nil | refine .cons (by assumption) ?_))
  have kb_kb_added_2 : KBinds K (PySem.W.fnOf "added" "added" (defArgs s_added) (defBody s_added) (defScope s_added) .none kV9 dc9 pm9 an9 cd9 ct9) ["one", "other"] ["other", "one"] (fun us ws => match us, ws with | [], [ws0, ws1] => [ws1, ws0] | _, _ => []) (fun us ws => match us, ws with | [], [ws0, ws1] => [ws1, ws0] | _, _ => []) := by
    refine ⟨fun s us ws _ hl => ?_, fun {vs us zs ws} r1 r2 => ?_⟩
    · match us, ws, hl with
      | [], [_, _], _ => exact .of_eq rfl
    · rcases r1 with _ | ⟨q0, r1⟩ <;> (try rcases r1 with _ | ⟨q1, r1⟩) <;> (try rcases r1 with _ | ⟨q2, r1⟩) <;> (try rcases r1 with _ | ⟨q3, r1⟩) <;> rcases r2 with _ | ⟨p0, r2⟩ <;> (try rcases r2 with _ | ⟨p1, r2⟩) <;> (try rcases r2 with _ | ⟨p2, r2⟩) <;> (try rcases r2 with _ | ⟨p3, r2⟩) <;> first | exact .nil | (repeat (first | exact .nil | refine .cons (by assumption) ?_))
  have kb_kb_compared_3 : KBinds K (PySem.W.fnOf "compared" "compared" (defArgs s_compared) (defBody s_compared) (defScope s_compared) .none kV13 dc13 pm13 an13 cd13 ct13) ["one", "other"] ["other", "one"] (fun us ws => match us, ws with | [], [ws0, ws1] => [ws1, ws0] | _, _ => []) (fun us ws => match us, ws with | [], [ws0, ws1] => [ws1, ws0] | _, _ => []) := by
    refine ⟨fun s us ws _ hl => ?_, fun {vs us zs ws} r1 r2 => ?_⟩
    · match us, ws, hl with
      | [], [_, _], _ => exact .of_eq rfl
    · rcases r1 with _ | ⟨q0, r1⟩ <;> (try rcases r1 with _ | ⟨q1, r1⟩) <;> (try rcases r1 with _ | ⟨q2, r1⟩) <;> (try rcases r1 with _ | ⟨q3, r1⟩) <;> rcases r2 with _ | ⟨p0, r2⟩ <;> (try rcases r2 with _ | ⟨p1, r2⟩) <;> (try rcases r2 with _ | ⟨p2, r2⟩) <;> (try rcases r2 with _ | ⟨p3, r2⟩) <;> first | exact .nil | (repeat (first | exact .nil | refine .cons (by assumption) ?_))
  have kb_kb_divided_4 : KBinds K (PySem.W.fnOf "divided" "divided" (defArgs s_divided) (defBody s_divided) (defScope s_divided) .none kV12 dc12 pm12 an12 cd12 ct12) ["one", "other"] ["other", "one"] (fun us ws => match us, ws with | [], [ws0, ws1] => [ws1, ws0] | _, _ => []) (fun us ws => match us, ws with | [], [ws0, ws1] => [ws1, ws0] | _, _ => []) := by
    refine ⟨fun s us ws _ hl => ?_, fun {vs us zs ws} r1 r2 => ?_⟩
    · match us, ws, hl with
      | [], [_, _], _ => exact .of_eq rfl
    · rcases r1 with _ | ⟨q0, r1⟩ <;> (try rcases r1 with _ | ⟨q1, r1⟩) <;> (try rcases r1 with _ | ⟨q2, r1⟩) <;> (try rcases r1 with _ | ⟨q3, r1⟩) <;> rcases r2 with _ | ⟨p0, r2⟩ <;> (try rcases r2 with _ | ⟨p1, r2⟩) <;> (try rcases r2 with _ | ⟨p2, r2⟩) <;> (try rcases r2 with _ | ⟨p3, r2⟩) <;> first | exact .nil | (repeat (first | exact .nil | refine .cons (by assumption) ?_))
  have kb_kb_ratio_of_5 : KBinds K (PySem.W.fnOf "ratio_of" "ratio_of" (defArgs s_ratio_of) (defBody s_ratio_of) (defScope s_ratio_of) .none kV8 dc8 pm8 an8 cd8 ct8) ["first", "second"] ["second", "first"] (fun us ws => match us, ws with | [], [ws0, ws1] => [ws1, ws0] | _, _ => []) (fun us ws => match us, ws with | [], [ws0, ws1] => [ws1, ws0] | _, _ => []) := by
    refine ⟨fun s us ws _ hl => ?_, fun {vs us zs ws} r1 r2 => ?_⟩
    · match us, ws, hl with
      | [], [_, _], _ => exact .of_eq rfl
    · rcases r1 with _ | ⟨q0, r1⟩ <;> (try rcases r1 with _ | ⟨q1, r1⟩) <;> (try rcases r1 with _ | ⟨q2, r1⟩) <;> (try rcases r1 with _ | ⟨q3, r1⟩) <;> rcases r2 with _ | ⟨p0, r2⟩ <;> (try rcases r2 with _ | ⟨p1, r2⟩) <;> (try rcases r2 with _ | ⟨p2, r2⟩) <;> (try rcases r2 with _ | ⟨p3, r2⟩) <;> first | exact .nil | (repeat (first | exact .nil | refine .cons (by assumption) ?_))
  let T : Tx K mg := { f_is_integer := f1, fd_is_integer := _, F_is_integer := F1, m_is_integer := PySem.W.mg_of X G a1, b_is_integer := b1, f_is_pair := f2, fd_is_pair := _, F_is_pair := F2, m_is_pair := PySem.W.mg_of X G a2, b_is_pair := b2, f_check_integer := f3, fd_check_integer := _, F_check_integer := F3, m_check_integer := PySem.W.mg_of X G a3, b_check_integer := b3, f_check_digits := f4, fd_check_digits := _, F_check_digits := F4, m_check_digits := PySem.W.mg_of X G a4, b_check_digits := b4, f_is_ratio := f5, fd_is_ratio := _, F_is_ratio := F5, m_is_ratio := PySem.W.mg_of X G a5, b_is_ratio := b5, f_check_ratio := f6, fd_check_ratio := _, F_check_ratio := F6, m_check_ratio := PySem.W.mg_of X G a6, b_check_ratio := b6, f_reduced := f7, fd_reduced := _, F_reduced := F7, m_reduced := PySem.W.mg_of X G a7, b_reduced := b7, f_ratio_of := f8, fd_ratio_of := _, F_ratio_of := F8, m_ratio_of := PySem.W.mg_of X G a8, b_ratio_of := b8, f_added := f9, fd_added := _, F_added := F9, m_added := PySem.W.mg_of X G a9, b_added := b9, f_less := f10, fd_less := _, F_less := F10, m_less := PySem.W.mg_of X G a10, b_less := b10, f_times := f11, fd_times := _, F_times := F11, m_times := PySem.W.mg_of X G a11, b_times := b11, f_divided := f12, fd_divided := _, F_divided := F12, m_divided := PySem.W.mg_of X G a12, b_divided := b12, f_compared := f13, fd_compared := _, F_compared := F13, m_compared := PySem.W.mg_of X G a13, b_compared := b13, f_law_pot := f14, fd_law_pot := _, F_law_pot := F14, m_law_pot := PySem.W.mg_of X G a14, b_law_pot := b14, f_law_draw := f15, fd_law_draw := _, F_law_draw := F15, m_law_draw := PySem.W.mg_of X G a15, b_law_draw := b15, f_law_pick := f16, fd_law_pick := _, F_law_pick := F16, m_law_pick := PySem.W.mg_of X G a16, b_law_pick := b16, f_law_gcd := f17, fd_law_gcd := _, F_law_gcd := F17, m_law_gcd := PySem.W.mg_of X G a17, b_law_gcd := b17, f_law_low := f18, fd_law_low := _, F_law_low := F18, m_law_low := PySem.W.mg_of X G a18, b_law_low := b18, f_law_ratio := f19, fd_law_ratio := _, F_law_ratio := F19, m_law_ratio := PySem.W.mg_of X G a19, b_law_ratio := b19, f_law_pair_right := f20, fd_law_pair_right := _, F_law_pair_right := F20, m_law_pair_right := PySem.W.mg_of X G a20, b_law_pair_right := b20, f_law_right := f21, fd_law_right := _, F_law_right := F21, m_law_right := PySem.W.mg_of X G a21, b_law_right := b21, f_law := fa, fd_law := _, F_law := F22, m_law := PySem.W.mg_of X G a22, b_law := b22, kb_times_0 := kb_kb_times_0, kb_less_1 := kb_kb_less_1, kb_added_2 := kb_kb_added_2, kb_compared_3 := kb_kb_compared_3, kb_divided_4 := kb_kb_divided_4, kb_ratio_of_5 := kb_kb_ratio_of_5, z_abs := PySem.W.mg_none_of X G z_abs, z_all := PySem.W.mg_none_of X G z_all, z_any := PySem.W.mg_none_of X G z_any, z_bool := PySem.W.mg_none_of X G z_bool, z_divmod := PySem.W.mg_none_of X G z_divmod, z_int := PySem.W.mg_none_of X G z_int, z_isinstance := PySem.W.mg_none_of X G z_isinstance, z_len := PySem.W.mg_none_of X G z_len, z_max := PySem.W.mg_none_of X G z_max, z_range := PySem.W.mg_none_of X G z_range, z_repr := PySem.W.mg_none_of X G z_repr, z_tuple := PySem.W.mg_none_of X G z_tuple, m_gcd := PySem.W.mg_of X G zg }
  exact ⟨T.fd_law, fun s v => .of_eq rfl, fun base _ _ => ok_law T⟩
end K13
open PySem PySem.W PyProof.Rows
set_option maxHeartbeats 0 in
theorem PySem.Challenge.cw_etaparts_k13_whole_ratios_reckoned_holds : PySem.Challenge.rw_etaparts_k13_whole_ratios_reckoned.Holds := by
  w_on; o_law; k_head; (case hw => w_witness2)
  k_fill
  refine EP.walk_run (l := PySem.Challenge.rw_etaparts_k13_whole_ratios_reckoned) (most := 63) (n := 7) (x := "script") (pr := fun w => K13.spLaw _) rfl (by decide) rfl ⟨rfl, by decide, by decide⟩ (fun w h Y => PySem.W.kIn_of Y) ?F (fun _ _ a ns hl _ _ hS => ⟨a, ns, rfl, hS, hl, fun _ => rfl⟩)
  case F =>
    intro w mg fa h KX G hmg
    refine' K13.all_mk KX G hmg ?a1 ?l1 ?c1 ?k1 ?a2 ?l2 ?c2 ?k2 ?a3 ?l3 ?c3 ?k3 ?a4 ?l4 ?c4 ?k4 ?a5 ?l5 ?c5 ?k5 ?a6 ?l6 ?c6 ?k6 ?a7 ?l7 ?c7 ?k7 ?a8 ?l8 ?c8 ?k8 ?a9 ?l9 ?c9 ?k9 ?a10 ?l10 ?c10 ?k10 ?a11 ?l11 ?c11 ?k11 ?a12 ?l12 ?c12 ?k12 ?a13 ?l13 ?c13 ?k13 ?a14 ?l14 ?c14 ?k14 ?a15 ?l15 ?c15 ?k15 ?a16 ?l16 ?c16 ?k16 ?a17 ?l17 ?c17 ?k17 ?a18 ?l18 ?c18 ?k18 ?a19 ?l19 ?c19 ?k19 ?a20 ?l20 ?c20 ?k20 ?a21 ?l21 ?c21 ?k21 ?a22 ?l22 ?c22 ?k22 ?z_abs ?z_all ?z_any ?z_bool ?z_divmod ?z_int ?z_isinstance ?z_len ?z_max ?z_range ?z_repr ?z_tuple ?zg
    (case a1 => k_is); (case l1 => k_is); (case c1 => k_is); (case k1 => k_is); (case a2 => k_is); (case l2 => k_is); (case c2 => k_is); (case k2 => k_is); (case a3 => k_is); (case l3 => k_is); (case c3 => k_is); (case k3 => k_is); (case a4 => k_is); (case l4 => k_is); (case c4 => k_is); (case k4 => k_is); (case a5 => k_is); (case l5 => k_is); (case c5 => k_is); (case k5 => k_is); (case a6 => k_is); (case l6 => k_is); (case c6 => k_is); (case k6 => k_is); (case a7 => k_is); (case l7 => k_is); (case c7 => k_is); (case k7 => k_is); (case a8 => k_is); (case l8 => k_is); (case c8 => k_is); (case k8 => k_is); (case a9 => k_is); (case l9 => k_is); (case c9 => k_is); (case k9 => k_is); (case a10 => k_is); (case l10 => k_is); (case c10 => k_is); (case k10 => k_is); (case a11 => k_is); (case l11 => k_is); (case c11 => k_is); (case k11 => k_is); (case a12 => k_is); (case l12 => k_is); (case c12 => k_is); (case k12 => k_is); (case a13 => k_is); (case l13 => k_is); (case c13 => k_is); (case k13 => k_is); (case a14 => k_is); (case l14 => k_is); (case c14 => k_is); (case k14 => k_is); (case a15 => k_is); (case l15 => k_is); (case c15 => k_is); (case k15 => k_is); (case a16 => k_is); (case l16 => k_is); (case c16 => k_is); (case k16 => k_is); (case a17 => k_is); (case l17 => k_is); (case c17 => k_is); (case k17 => k_is); (case a18 => k_is); (case l18 => k_is); (case c18 => k_is); (case k18 => k_is); (case a19 => k_is); (case l19 => k_is); (case c19 => k_is); (case k19 => k_is); (case a20 => k_is); (case l20 => k_is); (case c20 => k_is); (case k20 => k_is); (case a21 => k_is); (case l21 => k_is); (case c21 => k_is); (case k21 => k_is); (case a22 => k_is); (case l22 => k_is); (case c22 => k_is); (case k22 => k_is); (case z_abs => k_is); (case z_all => k_is); (case z_any => k_is); (case z_bool => k_is); (case z_divmod => k_is); (case z_int => k_is); (case z_isinstance => k_is); (case z_len => k_is); (case z_max => k_is); (case z_range => k_is); (case z_repr => k_is); (case z_tuple => k_is); (case zg => k_is)
