package tests

import (
	"slices"
	"strings"
	"testing"

	"loop.example/warp/impl"
)

func wantNext(t *testing.T, text string, want ...int) {
	t.Helper()
	if got := impl.Next(text); !slices.Equal(got, want) {
		t.Errorf("Next(%.100q) = %v, want %v", text, got, want)
	}
}

// The Kinds that begin a statement, and those that begin an expression.
var statKinds = []int{1, 11, 13, 14, 18, 19, 20, 22, 23, 27, 28, 30, 31, 40, 42}
var exprKinds = []int{1, 2, 3, 4, 17, 18, 24, 25, 29, 40, 42, 49, 50, 62, 69}

func kindsOf(lists ...[]int) []int {
	kinds := slices.Concat(lists...)
	slices.Sort(kinds)
	return slices.Compact(kinds)
}

func TestP9WhatMayComeNext(t *testing.T) {
	infix := append([]int{10, 26}, span(61, 78)...)
	suffix := []int{40, 44, 48}
	ended := []int{5, 6}
	for text, want := range map[string][]int{
		"":                          kindsOf(statKinds, ended),
		";":                         kindsOf(statKinds, ended),
		"\n\n":                      kindsOf(statKinds, ended),
		"-- r":                      kindsOf(statKinds, ended),
		"f();":                      kindsOf(statKinds, ended),
		"f()\n":                     kindsOf(statKinds, ended),
		"{":                         kindsOf(statKinds, []int{5, 43}),
		"{\n":                       kindsOf(statKinds, []int{5, 43}),
		"{break":                    {5, 43},
		"{}":                        ended,
		"break":                     ended,
		"next ":                     ended,
		"let":                       {1},
		"let a":                     {5, 6, 46, 47},
		"let a,":                    {1},
		"let a =":                   exprKinds,
		"let a = b":                 kindsOf(ended, infix, suffix, []int{46}),
		"let a = 1":                 kindsOf(ended, infix, []int{46}),
		"let a = 1, 2":              kindsOf(ended, infix, []int{46}),
		"{let a = 1":                kindsOf([]int{5, 43, 46}, infix),
		"const":                     {1},
		"const a":                   {47},
		"const a =":                 exprKinds,
		"const a = nil":             kindsOf(ended, infix),
		"fn":                        {1},
		"fn f":                      {40},
		"fn f(":                     {1, 41, 49},
		"fn f(a":                    {41, 46},
		"fn f(a,":                   {1, 49},
		"fn f(...":                  {41},
		"fn f(a, ...":               {41},
		"fn f()":                    {42},
		"fn f() {}":                 ended,
		"x = fn":                    {40},
		"x = fn() {}":               kindsOf(ended, infix, []int{46}),
		"if":                        exprKinds,
		"if a":                      kindsOf(infix, suffix, []int{42}),
		"if 1\n":                    kindsOf(infix, []int{42}),
		"if a {}":                   {5, 6, 15, 16},
		"if a {} elif":              exprKinds,
		"if a {} elif b {}":         {5, 6, 15, 16},
		"if a {} else":              {42},
		"if a {} else {}":           ended,
		"{if a {}":                  {5, 15, 16, 43},
		"if a {}\n":                 kindsOf(statKinds, ended),
		"while":                     exprKinds,
		"while a {}":                ended,
		"for":                       {1},
		"for a":                     {21, 46, 47},
		"for a,":                    {1},
		"for a, b":                  {21, 46},
		"for a in":                  exprKinds,
		"for a in 1":                kindsOf(infix, []int{42}),
		"for a =":                   exprKinds,
		"for a = 1":                 kindsOf(infix, []int{46}),
		"for a = 1, 2":              kindsOf(infix, []int{42, 46}),
		"for a = 1, 2, 3":           kindsOf(infix, []int{42}),
		"return":                    kindsOf(ended, exprKinds),
		"return\n":                  kindsOf(statKinds, ended),
		"return 1":                  kindsOf(ended, infix, []int{46}),
		"{return":                   kindsOf(exprKinds, []int{5, 43}),
		"try":                       {42},
		"try {}":                    {12},
		"try {} catch":              {1},
		"try {} catch a":            {42, 46},
		"try {} catch a,":           {1},
		"try {} catch a, b":         {42},
		"throw":                     exprKinds,
		"defer":                     {1, 40},
		"defer f":                   suffix,
		"defer (f)":                 suffix,
		"defer f()":                 kindsOf(ended, suffix),
		"defer f().g":               suffix,
		"x":                         {40, 44, 46, 47, 48},
		"x\n\n":                     {40, 44, 46, 47, 48},
		"x.":                        {1},
		"x.y":                       {40, 44, 46, 47, 48},
		"x[y]":                      {40, 44, 46, 47, 48},
		"x[":                        exprKinds,
		"x[1":                       kindsOf(infix, []int{45}),
		"x,":                        {1, 40},
		"x, y":                      {40, 44, 46, 47, 48},
		"x, f()":                    suffix,
		"x, (y)":                    suffix,
		"x, f()()":                  suffix,
		"x, (y)()":                  suffix,
		"x, f().y":                  {40, 44, 46, 47, 48},
		"(":                         exprKinds,
		"(1":                        kindsOf(infix, []int{41}),
		"(f)":                       suffix,
		"(f).a":                     {40, 44, 46, 47, 48},
		"f(":                        kindsOf(exprKinds, []int{41}),
		"f(1":                       kindsOf(infix, []int{41, 46}),
		"f(1,":                      exprKinds,
		"f()":                       kindsOf(ended, suffix),
		"{f()":                      kindsOf(suffix, []int{5, 43}),
		"x = {":                     kindsOf(exprKinds, []int{43, 44, 48}),
		"x = {1":                    kindsOf(infix, []int{43, 46}),
		"x = {1,":                   kindsOf(exprKinds, []int{43, 44, 48}),
		"x = {[":                    exprKinds,
		"x = {[1]":                  {47},
		"x = {[1]=":                 exprKinds,
		"x = {.":                    {1},
		"x = {.a":                   {47},
		"x = {}":                    kindsOf(ended, infix, []int{46}),
		"x = -":                     exprKinds,
		"x = 1 +":                   exprKinds,
		"x = ...":                   kindsOf(ended, infix, []int{46}),
		"x = (a)":                   kindsOf(ended, infix, suffix, []int{46}),
		"x = (a\n":                  kindsOf(infix, suffix, []int{41}),
		"x = a -- r":                kindsOf(ended, infix, suffix, []int{46}),
		"f(fn() {":                  kindsOf(statKinds, []int{5, 43}),
		"x = \"" + fixed[10] + "\"": kindsOf(ended, infix, []int{46}),
	} {
		wantNext(t, text, want...)
	}
}

func TestP9NothingBehindWhatCannotStand(t *testing.T) {
	for _, text := range []string{
		"f() g", "x = \"", "x = \"q", "x = 1e", "x = 0x", "1", ")", "x = break", "if a {}\nelse", "x = a\n+", "x = ?", "let a b", "return 1 1",
		"x = ..", "(a) = ", "{}}", "f()\n.", "-", "x = 1.", "\x00", "x -", "break --\n 1",
	} {
		wantNext(t, text)
	}
}

func TestP9LongTexts(t *testing.T) {
	fill := strings.Repeat(" ", 65536-5)
	wantNext(t, "break"+fill, 5, 6)
	wantNext(t, "break"+fill+" ")
	wantNext(t, fill+"break\n")
	wantNext(t, strings.Repeat("\n", 65537))
	wantNext(t, strings.Repeat("{", 65536), kindsOf(statKinds, []int{5, 43})...)
	wantNext(t, strings.Repeat("{", 65537))
	wantNext(t, strings.Repeat("}", 65536))
	// a tree that is too large has tokens that can stand
	wantNext(t, "let "+strings.Repeat("n", 60000), 5, 6, 46, 47)
	wantNext(t, "{"+strings.Repeat("break;", 1000)+"break", 5, 43)
	wantNext(t, strings.Repeat("{", 1000)+"const", 1)
}

// wantNextIsParsed holds Next against what Parse says of the text with one more token of each Kind.
func wantNextIsParsed(t *testing.T, r *reader, text string) {
	t.Helper()
	got := impl.Next(text)
	if !slices.IsSorted(got) || len(slices.Compact(slices.Clone(got))) != len(got) || slices.Contains(got, impl.TLine) {
		t.Fatalf("Next(%q) = %v", text, got)
	}
	s := r.behind(text)
	if (s == nil) != (len(got) == 0) {
		t.Fatalf("Next(%q) = %v", text, got)
	}
	if s == nil {
		return
	}
	if may := slices.Contains(got, impl.TEnd); may != (impl.Parse(text).Code == 0) || may != r.may(s, impl.TEnd) {
		t.Fatalf("Next(%q) = %v: wrong about the end", text, got)
	}
	for _, kind := range tokenKinds {
		more := text + " " + written(kind) + " "
		p := impl.Parse(more)
		stands := p.Code == 0 || p.Code == 1 && p.At == len(more)
		if may := slices.Contains(got, kind); may != stands || may != r.may(s, kind) {
			t.Fatalf("Next(%q) = %v: wrong about %q", text, got, written(kind))
		}
	}
	for _, kind := range got {
		if kind != impl.TEnd && !slices.Contains(tokenKinds, kind) {
			t.Fatalf("Next(%q) = %v: %d is no Kind", text, got, kind)
		}
	}
}

func TestP9NextBehindEveryPieceOfEachForm(t *testing.T) {
	t.Parallel()
	r := newReader()
	seen := map[string]bool{}
	for _, f := range allForms() {
		for _, token := range impl.Scan(f.text).Tokens {
			// a remark that is not ended would take in what is put behind it
			if piece := f.text[:token.To]; !seen[piece] {
				seen[piece] = true
				wantNextIsParsed(t, r, piece)
			}
		}
		if !strings.Contains(f.text, "--") {
			wantNextIsParsed(t, r, f.text+"\n")
		}
	}
}

func TestP9NextOfTextsOfChance(t *testing.T) {
	t.Parallel()
	var d dice = 10
	for range 80 {
		r := newReader()
		text := ""
		for range 1 + d.roll(25) {
			wantNextIsParsed(t, r, text)
			kinds := slices.DeleteFunc(impl.Next(text), func(kind int) bool { return kind == impl.TEnd })
			text += " " + written(kinds[d.roll(len(kinds))])
			if d.roll(5) == 0 {
				text += "\n"
			}
		}
	}
}

func TestP9TheSameAnswerTwice(t *testing.T) {
	first := impl.Next("x = ")
	kept := slices.Clone(first)
	for i := range first {
		first[i] = 99
	}
	wantNext(t, "x = ", kept...)
}
