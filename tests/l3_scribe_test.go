package tests

import (
	"strconv"
	"strings"
	"testing"

	"loop.example/warp/impl"
)

// scribe writes a sound tree down as the rows of 3.1 allow, with blanks, SEPs and parentheses by chance,
// and notes the place of each node as 3.2 asks.
type scribe struct {
	d      *dice
	r      *reader
	state  *readState
	text   string
	tokens []impl.Token
}

func (s *scribe) put(words ...string) {
	for _, word := range words {
		s.gap(word)
		t := impl.Token{From: len(s.text), Line: 1 + strings.Count(s.text, "\n")}
		s.text += word
		t.To = len(s.text)
		s.tokens = append(s.tokens, t)
		s.state = s.r.next(s.state, impl.Scan(word).Tokens[0].Kind)
	}
}

// gap writes blanks, and at least one where two tokens could be read as others without.
func (s *scribe) gap(word string) {
	const alone = "(){}[],;\"\n"
	apart := s.text == "" || strings.Contains(alone, s.text[len(s.text)-1:]) || strings.Contains(alone, word[:1])
	some := []string{" ", " ", " ", "\t", "  ", "\r "}
	if !s.r.may(s.state, impl.TSep) {
		some = append(some, "\n", " -- r\n", "\n\n\t")
	}
	if !apart || s.d.roll(3) == 0 {
		s.text += some[s.d.roll(len(some))]
	}
}

func (s *scribe) sep() {
	s.text += []string{"", " "}[s.d.roll(2)] + []string{";", "\n", "-- r\n"}[s.d.roll(3)]
	s.state = s.r.next(s.state, impl.TSep)
}

func (s *scribe) stats(stats []twig) {
	for i := range stats {
		for range s.d.roll(4) - 2 {
			s.sep()
		}
		if i > 0 {
			s.sep()
		}
		s.stat(&stats[i])
	}
	for range s.d.roll(4) - 2 {
		s.sep()
	}
}

// noted gives a node the places of what write puts.
func (s *scribe) noted(x *twig, write func()) {
	first := len(s.tokens)
	write()
	x.From, x.To, x.Line = s.tokens[first].From, s.tokens[len(s.tokens)-1].To, s.tokens[first].Line
}

func (s *scribe) block(x *twig) {
	s.noted(x, func() {
		s.put("{")
		s.stats(x.below)
		s.put("}")
	})
}

func (s *scribe) list(n int, element func(i int)) {
	for i := range n {
		if i > 0 {
			s.put(",")
		}
		element(i)
	}
}

func (s *scribe) names(names []string) {
	s.list(len(names), func(i int) { s.put(names[i]) })
}

func (s *scribe) exprs(exprs []twig) {
	s.list(len(exprs), func(i int) { s.operand(&exprs[i], false) })
}

func (s *scribe) stat(x *twig) {
	if x.Kind == impl.SBlock {
		s.block(x)
		return
	}
	s.noted(x, func() { s.statement(x) })
}

func (s *scribe) statement(x *twig) {
	b := x.below
	switch x.Kind {
	case impl.SLet:
		s.put("let")
		s.names(x.Names)
		if len(b) > 0 {
			s.put("=")
		}
		s.exprs(b)
	case impl.SConst:
		s.put("const", x.Names[0], "=")
		s.exprs(b)
	case impl.SFn:
		s.put("fn", x.Names[0])
		s.noted(&b[0], func() { s.body(&b[0]) })
	case impl.SSet:
		s.list(int(x.Num), func(i int) { s.expr(&b[i]) })
		s.put("=")
		s.exprs(b[x.Num:])
	case impl.SDo:
		s.expr(&b[0])
	case impl.SDefer:
		s.put("defer")
		s.expr(&b[0])
	case impl.SIf:
		s.ifs("if", b)
	case impl.SWhile:
		s.put("while")
		s.operand(&b[0], false)
		s.block(&b[1])
	case impl.SFor:
		s.put("for", x.Names[0], "=")
		s.exprs(b[:len(b)-1])
		s.block(&b[len(b)-1])
	case impl.SEach:
		s.put("for")
		s.names(x.Names)
		s.put("in")
		s.operand(&b[0], false)
		s.block(&b[1])
	case impl.SBreak:
		s.put("break")
	case impl.SNext:
		s.put("next")
	case impl.SReturn:
		s.put("return")
		s.exprs(b)
	case impl.STry:
		s.put("try")
		s.block(&b[0])
		s.put("catch")
		s.names(x.Names)
		s.block(&b[1])
	case impl.SThrow:
		s.put("throw")
		s.operand(&b[0], false)
	}
}

func (s *scribe) ifs(word string, b []twig) {
	s.put(word)
	s.operand(&b[0], false)
	s.block(&b[1])
	if len(b) < 3 {
		return
	}
	if b[2].Kind == impl.SIf {
		s.noted(&b[2], func() { s.ifs("elif", b[2].below) })
	} else {
		s.put("else")
		s.block(&b[2])
	}
}

func (s *scribe) body(x *twig) {
	s.put("(")
	names := x.Names
	if x.Op == 1 {
		names = append(append([]string(nil), names...), "...")
	}
	s.names(names)
	s.put(")")
	s.block(&x.below[0])
}

// operand is an expression that parentheses may stand around without being a node.
func (s *scribe) operand(x *twig, must bool) {
	n := 0
	if must {
		n = 1
	}
	if x.Kind != impl.ECall && x.Kind != impl.ERest && s.d.roll(4) == 0 {
		n += 1 + s.d.roll(2)
	}
	for range n {
		s.put("(")
	}
	s.expr(x)
	for range n {
		s.put(")")
	}
}

func signOf(x twig) string {
	switch x.Kind {
	case impl.EAnd:
		return "and"
	case impl.EOr:
		return "or"
	case impl.EBinary:
		return fixed[impl.TBinary+x.Op]
	}
	return ""
}

// powerIn is the power of an expression that is an infix, and more than any for all others.
func powerIn(x twig) int {
	if sign := signOf(x); sign != "" {
		return powerOf(sign)
	}
	return 99
}

func (s *scribe) expr(x *twig) { s.noted(x, func() { s.expression(x) }) }

func (s *scribe) expression(x *twig) {
	b := x.below
	switch x.Kind {
	case impl.ENil, impl.ETrue, impl.EFalse, impl.ERest:
		s.put(map[int]string{impl.ENil: "nil", impl.ETrue: "true", impl.EFalse: "false", impl.ERest: "..."}[x.Kind])
	case impl.EInt:
		digits := strconv.FormatInt(x.Num, 10)
		if x.Num < 0 || s.d.roll(4) == 0 {
			digits = "0x" + strconv.FormatUint(uint64(x.Num), 16)
		}
		s.put(digits)
	case impl.EFlt, impl.EName:
		s.put(x.Text)
	case impl.EStr:
		s.put(impl.Quote(x.Text))
	case impl.EAnd, impl.EOr, impl.EBinary:
		p, left, right := powerIn(*x), powerIn(b[0]), powerIn(b[1])
		joins := signOf(*x) == ".."
		s.operand(&b[0], left < p || left == p && joins)
		s.put(signOf(*x))
		s.operand(&b[1], right < p || right == p && !joins)
	case impl.EUnary:
		s.put(map[int]string{impl.OpNeg: "-", impl.OpFlip: "~", impl.OpNot: "not", impl.OpLen: "#"}[x.Op])
		s.operand(&b[0], signOf(b[0]) != "")
	case impl.EIndex:
		s.base(&b[0])
		s.put("[")
		s.operand(&b[1], false)
		s.put("]")
	case impl.EField:
		s.base(&b[0])
		s.put(".", x.Text)
	case impl.ECall:
		s.base(&b[0])
		s.put("(")
		s.exprs(b[1:])
		s.put(")")
	case impl.ETable:
		s.table(b)
	case impl.EFn:
		s.put("fn")
		s.body(x)
	case impl.EOne:
		s.put("(")
		s.expr(&b[0])
		s.put(")")
	}
}

func (s *scribe) base(x *twig) {
	switch x.Kind {
	case impl.EName, impl.EIndex, impl.EField, impl.ECall, impl.EOne:
		s.operand(x, false)
	default:
		s.operand(x, true)
	}
}

func (s *scribe) table(entries []twig) {
	s.put("{")
	s.list(len(entries), func(i int) {
		x := &entries[i]
		s.noted(x, func() {
			switch x.Kind {
			case impl.NPair:
				s.put("[")
				s.operand(&x.below[0], false)
				s.put("]", "=")
			case impl.NNamed:
				s.put(".", x.Text, "=")
			}
			s.operand(&x.below[len(x.below)-1], false)
		})
	})
	if len(entries) > 0 && s.d.roll(2) == 0 {
		s.put(",")
	}
	s.put("}")
}

// vary gives the names, numbers and strings of a twig other contents.
func (d *dice) vary(x *twig) {
	names := []string{"a", "b", "_", "e", "el", "els", "elsewhere", "iff", "i", "andy", "o", "Nil", "x1", "e5", "x0f", strings.Repeat("n", 40)}
	switch x.Kind {
	case impl.EInt:
		x.Num = []int64{0, 1, 10, 1<<63 - 1, -1, -1 << 63, 255, 3000}[d.roll(8)]
	case impl.EFlt:
		x.Text = []string{"0.0", "1.5", "1e5", "0e-0", "1.25e+10", "9223372036854775808", "12345678901234567890", "1." + strings.Repeat("7", 38)}[d.roll(8)]
	case impl.EStr:
		x.Text = []string{"", "q", "\"", "\\", "\n", "--", "if", "\x00\xff", "a b", strings.Repeat("s", 4000)}[d.roll(10)]
	case impl.EName, impl.EField, impl.NNamed:
		x.Text = names[d.roll(len(names))]
	}
	for i := range x.Names {
		if i == 0 {
			x.Names = append([]string(nil), x.Names...)
		}
		x.Names[i] = names[d.roll(len(names))]
	}
	for i := range x.below {
		d.vary(&x.below[i])
	}
}

// inscribed is a text of chance with its tree.
func (d *dice) inscribed() (string, impl.Tree) {
	root := kind(impl.SBlock)
	for range d.roll(5) {
		x := d.grown('s', d.roll(6))
		d.vary(&x)
		root.below = append(root.below, x)
	}
	s := scribe{d: d, r: newReader()}
	s.state = s.r.begin
	s.stats(root.below)
	s.text += []string{"", "", " ", " -- r", "\t--"}[d.roll(5)]
	root.To, root.Line = len(s.text), 1
	return s.text, listed(root)
}

func TestP3TreesOfChanceWrittenDown(t *testing.T) {
	t.Parallel()
	var d dice = 11
	kinds := map[int]int{}
	for range 800 {
		text, want := d.inscribed()
		if len(text) > impl.MaxText || impl.TreeOk(want).Code != 0 {
			continue
		}
		wantNodes(t, text, parsed(t, text), want)
		for _, n := range want.Nodes {
			kinds[n.Kind]++
		}
	}
	for _, k := range everyKind {
		if kinds[k] < 20 {
			t.Errorf("Kind %d came %d times", k, kinds[k])
		}
	}
}

func TestP6WrittenTextsSpoiltByASecondReading(t *testing.T) {
	var d dice = 12
	for range 60 {
		text, _ := d.inscribed()
		if len(text) > 400 {
			continue
		}
		r := newReader()
		for range 4 {
			spoilt := d.spoilt(text)
			wantRead(t, r, spoilt)
			wantGoesOn(t, r, spoilt)
		}
	}
}
