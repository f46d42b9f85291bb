package narrow_test

import (
	"fmt"
	"strings"
	"testing"

	"narrow/narrow"
)

func checkGraph(t *testing.T, promise, source, graph string, e narrow.Errno, place int) {
	t.Helper()
	gotGraph, gotE, gotPlace := narrow.Graph(source)
	if gotGraph != graph || gotE != e || gotPlace != place {
		t.Errorf("%s: Graph(%q) = %q, %d, %d, want %q, %d, %d", promise, source, gotGraph, gotE, gotPlace, graph, e, place)
	}
}

func TestGraphExamplesOfTheDocument(t *testing.T) {
	checkGraph(t, "P8", "a=?;(a:n{b=+aa;^b;}{^a;})", "a=?,01;a:n,02,04;b=+aa,03;^b,05;^a,05;", narrow.OK, 0)
	checkGraph(t, "P8", "[&a!b{>;}]", "a,01,02;b,02,02;", narrow.OK, 0)
	checkGraph(t, "P7", "a=;", "", narrow.ErrForm, 2)
}

func TestGraphLimits(t *testing.T) {
	full := strings.Repeat("a=b;", 45)
	_, e, place := narrow.Graph(full)
	if e != narrow.OK || place != 0 {
		t.Errorf("P7: 180 bytes: %d, %d", e, place)
	}
	checkGraph(t, "P7", full+"a", "", narrow.ErrLong, 0)
	checkGraph(t, "P7", full+"a=b;", "", narrow.ErrLong, 0)
	checkGraph(t, "P7", strings.Repeat("x", 181), "", narrow.ErrLong, 0)
	checkGraph(t, "P7", strings.Repeat("x", 180), "", narrow.ErrForm, 0)
	checkGraph(t, "P7", full[:179]+"x", "", narrow.ErrForm, 179)
	checkGraph(t, "P7", full[:179], "", narrow.ErrForm, 179)
	checkGraph(t, "P7", strings.Repeat("(a{", 60), "", narrow.ErrForm, 180)
}

// TestPlaces: a text that goes wrong, with a mark ahead of the byte that cannot stand there.
func TestPlaces(t *testing.T) {
	for _, marked := range []string{
		"@;", "@ ", "@\x00", "@\xff", "a@", "a@;", "a@:n;", "a@ =1;", "a=@", "a=@;", "a=@g;", "a=@t;", "a=@*;", "a=1@", "a=1@2;", "a=1;@;", "a=1;@ ", "a=1;@}", "a=1;@\x00",
		"a=b@b;", "a=?@?;", "a=C@b;", "a=+@;", "a=+b@;", "a=+bc@d;", "a=<@1;", "a=<b@", "a=A@;", "a=A@1;", "a=B@T;", "a=Bb@", "a=.@.;", "@g=1;", "@A=1;", "@1", "@*,01;",
		"^@;", "^@g;", "^a@b;", "^a@,01;", "a~@;", "a~@T;", "a~@", "a~n@n;", "!@", "!@!;", "!@a;", "!;@:",
		"(@", "(@)", "(@{", "(@;", "(@^a", "(a@", "(a@;", "(a@b{}{})", "(a@=1;", "(a:@", "(a:@{", "(a:@a{}{})", "(a:n@n", "(a{@", "(a{@)", "(a{@]", "(a{}@", "(a{}@)", "(a{}@ {", "(a{}{@", "(a{}{}@", "(a{}{}@;", "(a{}{}@]", "(a{}{})@)", "(a{}{})@}",
		"(!@{", "(!!@;", "(&@{", "(&a@{", "(&ab@c", "(|a@)", "(&|a@{", "(&|abc@d", "(!a:n@:", "(a{^a@}", "(a{^a;@;", "(a{a@}", "(a{}{a=@}",
		"[@", "[@{", "[@]", "[a@]", "[a{@", "[a{@)", "[a{}@)", "[a{}@{", "[a{}]@]", "[a{}]@;", "@{", "@}", "@]", "@)",
		"@>;", "@<;", "(a{@>;}{})", "(a{}{@<;})", "[a{}]@>;", "[@>;{}]", "[a{>@}]", "[a{>@>;}]", "[a{<@", "[a{<;@;", "[a{(b{>@b", "[a{>;}](b{@>;}{})", "[a{(b{>;}{<;@]", "[a{[b{}]>;}]@<;",
	} {
		before, behind, _ := strings.Cut(marked, "@")
		checkGraph(t, "P7", before+behind, "", narrow.ErrForm, len(before))
	}
}

func checkForm(t *testing.T, source string) {
	t.Helper()
	place := wrongPlace(sources, source)
	if place >= 0 {
		checkGraph(t, "P7", source, "", narrow.ErrForm, place)
		return
	}
	checkGraph(t, "P8", source, graphSecond(source), narrow.OK, 0)
}

// TestPlacesOfEachByte: every byte put in at every place of a source, and the source cut off there.
func TestPlacesOfEachByte(t *testing.T) {
	source := "[|!a:A&bf{a=1;b=+ac;(c{>;}{d=.e;<;})f~t;!;^a;}]b=<cd;c=?;c=Ba;"
	for at := range source {
		checkForm(t, source[:at])
		for b := 0; b < 256; b++ {
			checkForm(t, source[:at]+string([]byte{byte(b)})+source[at+1:])
			checkForm(t, source[:at]+string([]byte{byte(b)})+source[at:])
		}
	}
}

// TestNodesOfGraphs: each node stands in the graph as in the source.
func TestNodesOfGraphs(t *testing.T) {
	for _, node := range strings.Fields("a=0 f=9 b=T c=F d=Z e=C a=? a=f b=+cd e=<fa a=Aa b=Bc c=.d ^a ^f a~n b~t c~f d~z e~A f~B a~C") {
		checkGraph(t, "P8", node+";", node+",01;", narrow.OK, 0)
		checkGraph(t, "P8", "^e;"+node+";!;", "^e,01;"+node+",02;!;", narrow.OK, 0)
	}
	for _, test := range strings.Fields("a f a:n b:t c:f d:z e:A f:B a:C") {
		checkGraph(t, "P8", "("+test+"{!;}{^a;})", test+",01,02;!;^a,03;", narrow.OK, 0)
		checkGraph(t, "P8", "["+test+"{}]", test+",00,01;", narrow.OK, 0)
	}
}

func TestWays(t *testing.T) {
	for _, c := range []struct{ source, graph string }{
		{"", ""},
		{"!;!;", "!;!;"},
		{"(a{^a;}{^b;})^c;", "a,01,02;^a,03;^b,03;^c,04;"},
		{"(a{}{^b;})^c;", "a,02,01;^b,02;^c,03;"},
		{"(a{^a;}{})^c;", "a,01,02;^a,02;^c,03;"},
		{"(a{}{})^c;", "a,01,01;^c,02;"},
		{"(!!a{^a;}{})", "a,01,02;^a,02;"},
		{"(a{(b{^a;}{^b;})}{(c{}{^d;})})", "a,01,04;b,02,03;^a,06;^b,06;c,06,05;^d,06;"},
		{"(|&ab!c{^d;}{})", "a,01,02;b,03,02;c,04,03;^d,04;"},
		{"(&|ab!c{^d;}{})", "a,02,01;b,02,04;c,04,03;^d,04;"},
		{"(!|ab{^d;}{})", "a,03,01;b,03,02;^d,03;"},
		{"[|ab{^c;}]^d;", "a,02,01;b,02,03;^c,00;^d,04;"},
		{"[a{(b{^c;}{})}]", "a,01,03;b,02,00;^c,00;"},
		{"[a{<;}]", "a,00,01;"},
		{"[a{>;}]", "a,01,01;"},
		{"^a;[b{[c{<;}]}]", "^a,01;b,02,03;c,02,01;"},
		{"[a{[b{>;^c;}]^d;}]^e;", "a,01,04;b,03,03;^c,01;^d,00;^e,05;"},
		{"[a{[b{<;^c;}]>;^d;}]^e;", "a,01,04;b,01,04;^c,01;^d,00;^e,05;"},
		// What no run comes to has its ways too.
		{"[a{>;^b;<;^c;}]", "a,03,03;^b,00;^c,00;"},
		{"!;(a{^b;}{})", "!;a,02,03;^b,03;"},
		{"[a{!;}]", "a,01,02;!;"},
		{"[a{(b{<;}{>;})^c;}]^d;", "a,01,03;b,00,03;^c,00;^d,04;"},
	} {
		checkGraph(t, "P8", c.source, c.graph, narrow.OK, 0)
	}
}

// TestWaysOfManyNodes: as many nodes as a source can have.
func TestWaysOfManyNodes(t *testing.T) {
	checkGraph(t, "P8", strings.Repeat("!;", 90), strings.Repeat("!;", 90), narrow.OK, 0)
	want := ""
	for i := 0; i < 88; i++ {
		want += fmt.Sprintf("a,00,%02d;", i+1)
	}
	source := "[" + strings.Repeat("|", 87) + strings.Repeat("a", 88) + "{}]"
	checkGraph(t, "P8", source, want, narrow.OK, 0)
	if _, _, e := narrow.Walk(want, "", 300); e != narrow.OK {
		t.Errorf("P9: Walk of the graph of %q: %d", source, e)
	}
}

// TestGraphSecondWay: graphs of sources by the second way, places by the grammar, and what walks of them do.
func TestGraphSecondWay(t *testing.T) {
	d := dice{4}
	walks, wrongs := 0, 0
	for i := 0; i < 20000; i++ {
		source := d.statements(4, false)
		if d.below(4) == 0 {
			source = d.damaged(source)
		}
		if len(source) > 180 {
			continue
		}
		checkForm(t, source)
		graph, e, _ := narrow.Graph(source)
		if e != narrow.OK {
			wrongs++
			continue
		}
		input, fuel := d.text("00123456789TTFFZZAABBCCx ", d.below(12)), d.below(60)
		told, out, e := narrow.Walk(graph, input, fuel)
		wantTold, wantOut, wantE := runSecond(source, input, fuel)
		if told != wantTold || out != wantOut || e != wantE {
			t.Errorf("P8: Walk(%q, %q, %d) = %q, %q, %d, its source: %q, %q, %d", graph, input, fuel, told, out, e, wantTold, wantOut, wantE)
		}
		walks++
	}
	if walks < 5000 || wrongs < 1000 {
		t.Errorf("only %d walks, %d texts that are no sources", walks, wrongs)
	}
}
