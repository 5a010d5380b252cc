package tests

import (
	"fmt"
	"strconv"
	"strings"
	"testing"

	"loop.example/warp/impl"
)

// penned is a second writing of chapter 4: the text of a node by those of the nodes below it.
// A block puts a tab ahead of each line within it, whatever it has come from: no string holds a newline.
func penned(x twig) string {
	if x.Kind >= impl.ENil {
		return pennedExpr(x)
	}
	b := x.below
	names := strings.Join(x.Names, ", ")
	switch x.Kind {
	case impl.SBlock:
		if len(b) == 0 {
			return "{}"
		}
		inside := ""
		for _, stat := range b {
			inside += "\n" + penned(stat)
		}
		return "{" + strings.ReplaceAll(inside, "\n", "\n\t") + "\n}"
	case impl.SLet:
		if len(b) == 0 {
			return "let " + names
		}
		return "let " + names + " = " + pennedList(b)
	case impl.SConst:
		return "const " + names + " = " + penned(b[0])
	case impl.SFn:
		return "fn " + names + pennedBody(b[0])
	case impl.SSet:
		return pennedList(b[:x.Num]) + " = " + pennedList(b[x.Num:])
	case impl.SDo:
		return penned(b[0])
	case impl.SDefer:
		return "defer " + penned(b[0])
	case impl.SIf:
		return pennedIf(b)
	case impl.SWhile:
		return "while " + penned(b[0]) + " " + penned(b[1])
	case impl.SFor:
		return "for " + names + " = " + pennedList(b[:len(b)-1]) + " " + penned(b[len(b)-1])
	case impl.SEach:
		return "for " + names + " in " + penned(b[0]) + " " + penned(b[1])
	case impl.SBreak:
		return "break"
	case impl.SNext:
		return "next"
	case impl.SReturn:
		return strings.TrimSuffix("return "+pennedList(b), " ")
	case impl.STry:
		return "try " + penned(b[0]) + " catch " + names + " " + penned(b[1])
	case impl.SThrow:
		return "throw " + penned(b[0])
	}
	panic(x.Kind)
}

func pennedIf(b []twig) string {
	s := "if " + penned(b[0]) + " " + penned(b[1])
	if len(b) < 3 {
		return s
	}
	if b[2].Kind == impl.SIf {
		return s + " el" + pennedIf(b[2].below)
	}
	return s + " else " + penned(b[2])
}

func pennedList(twigs []twig) string {
	var all []string
	for _, x := range twigs {
		all = append(all, penned(x))
	}
	return strings.Join(all, ", ")
}

func pennedBody(x twig) string {
	params := append([]string(nil), x.Names...)
	if x.Op == 1 {
		params = append(params, "...")
	}
	return "(" + strings.Join(params, ", ") + ") " + penned(x.below[0])
}

func pennedExpr(x twig) string {
	b := x.below
	switch x.Kind {
	case impl.ENil:
		return "nil"
	case impl.ETrue:
		return "true"
	case impl.EFalse:
		return "false"
	case impl.ERest:
		return "..."
	case impl.EInt:
		if x.Num < 0 {
			return fmt.Sprintf("0x%016x", uint64(x.Num))
		}
		return strconv.FormatInt(x.Num, 10)
	case impl.EFlt, impl.EName:
		return x.Text
	case impl.EStr:
		return impl.Quote(x.Text)
	case impl.EAnd, impl.EOr, impl.EBinary:
		p, joins := powerIn(x), signOf(x) == ".."
		left, right := powerIn(b[0]), powerIn(b[1])
		return pennedIn(b[0], left < p || joins && left == p) + " " + signOf(x) + " " + pennedIn(b[1], right < p || !joins && right == p)
	case impl.EUnary:
		sign := map[int]string{impl.OpNeg: "-", impl.OpFlip: "~", impl.OpNot: "not ", impl.OpLen: "#"}[x.Op]
		operand := pennedIn(b[0], signOf(b[0]) != "")
		if sign == "-" && operand[0] == '-' {
			sign = "- "
		}
		return sign + operand
	case impl.EIndex:
		return pennedBase(b[0]) + "[" + penned(b[1]) + "]"
	case impl.EField:
		return pennedBase(b[0]) + "." + x.Text
	case impl.ECall:
		return pennedBase(b[0]) + "(" + pennedList(b[1:]) + ")"
	case impl.ETable:
		return "{" + pennedList(b) + "}"
	case impl.EFn:
		return "fn" + pennedBody(x)
	case impl.EOne:
		return "(" + penned(b[0]) + ")"
	case impl.NItem:
		return penned(b[0])
	case impl.NPair:
		return "[" + penned(b[0]) + "] = " + penned(b[1])
	case impl.NNamed:
		return "." + x.Text + " = " + penned(b[0])
	}
	panic(x.Kind)
}

func pennedIn(x twig, parentheses bool) string {
	if parentheses {
		return "(" + penned(x) + ")"
	}
	return penned(x)
}

func pennedBase(x twig) string {
	switch x.Kind {
	case impl.EName, impl.EIndex, impl.EField, impl.ECall, impl.EOne:
		return penned(x)
	}
	return pennedIn(x, true)
}

// pennedText is the whole text of a root, however long it is.
func pennedText(root twig) string {
	s := ""
	for _, stat := range root.below {
		s += penned(stat) + "\n"
	}
	return s
}

func wantPenned(t *testing.T, root twig) {
	t.Helper()
	want := pennedText(root)
	if len(want) > 65536 {
		want = ""
	}
	wantSameText(t, impl.Print(listed(root)), want)
}

// wantSameText shows where two texts part.
func wantSameText(t *testing.T, got, want string) {
	t.Helper()
	if got == want {
		return
	}
	at := 0
	for at < len(got) && at < len(want) && got[at] == want[at] {
		at++
	}
	from := max(0, at-100)
	t.Fatalf("%d bytes, want %d; from byte %d on\n%.200q, want\n%.200q", len(got), len(want), from, got[from:], want[from:])
}

func TestP10TreesOfChanceByASecondWriting(t *testing.T) {
	t.Parallel()
	var d dice = 21
	kinds := map[int]int{}
	for range 3000 {
		root := kind(impl.SBlock)
		for range d.roll(5) {
			x := d.grown('s', d.roll(7))
			d.vary(&x)
			root.below = append(root.below, x)
		}
		tree := listed(root)
		if impl.TreeOk(tree).Code != 0 {
			continue
		}
		wantPenned(t, root)
		for _, n := range tree.Nodes {
			kinds[n.Kind]++
		}
	}
	for _, k := range everyKind {
		if kinds[k] < 50 {
			t.Errorf("Kind %d came %d times", k, kinds[k])
		}
	}
}
