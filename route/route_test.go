package route_test

import (
	"math/rand"
	"slices"
	"strings"
	"testing"
	"unsafe"

	"legate/api"
	"legate/name"
	"legate/route"
)

// topo is what is told in three parts: realms, links as "A>B", paths as "A>B:C,D"
// (of none on the way "A>B:").
func topo(realms, links, paths string) api.Topo {
	t := api.Topo{Realms: strings.Fields(realms)}
	for _, s := range strings.Fields(links) {
		from, to, _ := strings.Cut(s, ">")
		t.Links = append(t.Links, [2]string{from, to})
	}
	for _, s := range strings.Fields(paths) {
		ends, via, _ := strings.Cut(s, ":")
		from, to, _ := strings.Cut(ends, ">")
		p := api.Path{From: from, To: to}
		if via != "" {
			p.Via = strings.Split(via, ",")
		}
		t.Paths = append(t.Paths, p)
	}
	return t
}

// clone is the same in memory of its own, texts too.
func clone(t api.Topo) api.Topo {
	var c api.Topo
	for _, r := range t.Realms {
		c.Realms = append(c.Realms, strings.Clone(r))
	}
	for _, l := range t.Links {
		c.Links = append(c.Links, [2]string{strings.Clone(l[0]), strings.Clone(l[1])})
	}
	for _, p := range t.Paths {
		q := api.Path{From: strings.Clone(p.From), To: strings.Clone(p.To)}
		for _, r := range p.Via {
			q.Via = append(q.Via, strings.Clone(r))
		}
		c.Paths = append(c.Paths, q)
	}
	return c
}

func same(a, b api.Topo) bool {
	return slices.Equal(a.Realms, b.Realms) && slices.Equal(a.Links, b.Links) &&
		slices.EqualFunc(a.Paths, b.Paths, func(p, q api.Path) bool {
			return p.From == q.From && p.To == q.To && slices.Equal(p.Via, q.Via)
		})
}

// The model: realms, links and paths as counts, a way as a trail of Next.

func modelIs(t api.Topo) bool {
	realms, links, paths := map[string]int{}, map[[2]string]int{}, map[[2]string]int{}
	for _, r := range t.Realms {
		if name.Kind(r) == 0 {
			return false
		}
		realms[r]++
	}
	ok := len(t.Realms) >= 1 && len(t.Realms) <= 6 && len(realms) == len(t.Realms)
	pair := func(counts map[[2]string]int, from, to string) {
		counts[[2]string{from, to}]++
		ok = ok && realms[from] == 1 && realms[to] == 1 && from != to
	}
	for _, l := range t.Links {
		pair(links, l[0], l[1])
	}
	for _, p := range t.Paths {
		pair(paths, p.From, p.To)
		via := map[string]int{p.From: 1, p.To: 1}
		for _, r := range p.Via {
			via[r]++
			ok = ok && realms[r] == 1 && via[r] == 1
		}
		ok = ok && len(p.Via) <= 4
	}
	return ok && len(t.Links) <= 20 && len(links) == len(t.Links) && len(t.Paths) <= 8 && len(paths) == len(t.Paths)
}

func modelLinked(t api.Topo, from, to string) bool {
	for _, l := range t.Links {
		if l[0]+">"+l[1] == from+">"+to {
			return true
		}
	}
	return false
}

// modelVia is the way of a path of the two, and whether there is one; else what is
// between.
func modelVia(t api.Topo, from, to string) ([]string, bool) {
	for _, p := range t.Paths {
		if p.From+">"+p.To == from+">"+to {
			return p.Via, true
		}
	}
	return name.Between(from, to), false
}

func modelNext(t api.Topo, from, to string) string {
	if from == to {
		return ""
	}
	via, laid := modelVia(t, from, to)
	next := ""
	for i, r := range append(slices.Clone(via), to) {
		if modelLinked(t, from, r) && (i == 0 || !laid) {
			next = r
		}
	}
	return next
}

// modelWalk follows Next for more steps than there are realms.
func modelWalk(t api.Topo, from, to string) ([]string, bool) {
	var trail []string
	at := from
	for range 50 {
		if at == to || at == "" {
			break
		}
		at = modelNext(t, at, to)
		trail = append(trail, at)
	}
	if at != to || len(trail) > 6 {
		return nil, false
	}
	return trail[:max(len(trail)-1, 0)], true
}

func modelAllowed(t api.Topo, client, server string, l []string) bool {
	via, _ := modelVia(t, client, server)
	for _, r := range l {
		if !strings.Contains(","+strings.Join(via, ",")+",", ","+r+",") {
			return false
		}
	}
	return true
}

func wantIs(t *testing.T, what string, p api.Topo, want bool) {
	t.Helper()
	if got := route.Is(p); got != want {
		t.Errorf("%s: Is(%q) is %v", what, p, got)
	}
}

func wantLinked(t *testing.T, p api.Topo, from, to string, want bool) {
	t.Helper()
	if got := route.Linked(p, from, to); got != want {
		t.Errorf("Linked(%q, %q, %q) is %v", p, from, to, got)
	}
}

func wantVia(t *testing.T, p api.Topo, from, to string, want ...string) {
	t.Helper()
	if got := route.Via(p, from, to); !slices.Equal(got, want) {
		t.Errorf("Via(%q, %q, %q) is %q, not %q", p, from, to, got, want)
	}
}

// wantNext wants a realm; of nothing it wants none.
func wantNext(t *testing.T, p api.Topo, from, to, want string) {
	t.Helper()
	if got, ok := route.Next(p, from, to); got != want || ok != (want != "") {
		t.Errorf("Next(%q, %q, %q) is %q, %v, not %q", p, from, to, got, ok, want)
	}
}

func wantWalk(t *testing.T, p api.Topo, from, to string, want ...string) {
	t.Helper()
	if got, ok := route.Walk(p, from, to); !ok || !slices.Equal(got, want) {
		t.Errorf("Walk(%q, %q, %q) is %q, %v, not %q", p, from, to, got, ok, want)
	}
}

func wantNoWalk(t *testing.T, p api.Topo, from, to string) {
	t.Helper()
	if got, ok := route.Walk(p, from, to); ok || len(got) > 0 {
		t.Errorf("Walk(%q, %q, %q) is %q, %v", p, from, to, got, ok)
	}
}

func wantAllowed(t *testing.T, p api.Topo, client, server, l string, want bool) {
	t.Helper()
	if got := route.Allowed(p, client, server, strings.Fields(l)); got != want {
		t.Errorf("Allowed(%q, %q, %q, %q) is %v", p, client, server, l, got)
	}
}

// wantModel wants of each two realms what the model says, and of a realm that is
// none of these that it is Allowed only where it is between.
func wantModel(t *testing.T, p api.Topo) {
	t.Helper()
	for _, from := range p.Realms {
		for _, to := range p.Realms {
			wantLinked(t, p, from, to, modelLinked(p, from, to))
			via, _ := modelVia(p, from, to)
			wantVia(t, p, from, to, via...)
			wantNext(t, p, from, to, modelNext(p, from, to))
			if walk, ok := modelWalk(p, from, to); ok {
				wantWalk(t, p, from, to, walk...)
			} else {
				wantNoWalk(t, p, from, to)
			}
			wantAllowed(t, p, from, to, strings.Join(via, " "), true)
			for _, r := range append(slices.Concat(p.Realms, via), "NET") {
				wantAllowed(t, p, from, to, r, modelAllowed(p, from, to, []string{r}))
			}
		}
	}
}

// The chapter's example.
func TestExample(t *testing.T) {
	p := topo("A.EDU EDU B.EDU", "A.EDU>EDU EDU>B.EDU", "")
	wantIs(t, "the example", p, true)
	wantWalk(t, p, "A.EDU", "B.EDU", "EDU")
	wantNext(t, p, "A.EDU", "B.EDU", "EDU")
	wantNext(t, p, "EDU", "B.EDU", "B.EDU")
	wantVia(t, p, "A.EDU", "B.EDU", "EDU")
	wantAllowed(t, p, "A.EDU", "B.EDU", "EDU", true)
}

const sixRealms = "EDU MIT.EDU X.MIT.EDU /COM /COM/HP /COM/HP/X"

// noRealms is what is no realm, each for a reason of its own.
func noRealms() []string {
	return []string{
		"", " ", ".", "/", "edu", "Edu", "EDU.", ".EDU", "A..B", "/A//B", "/A/", "//A", "A/B", "/A.B", "ABCDEFGHI", "/ABCDEFGHI",
		"A.B.C.D.E", "/A/B/C/D/E", "EDU ", " EDU", "EDU1", "É", "EDU\x00", "\xff", "krbtgt/EDU", "A,B",
	}
}

// P7.1: from one realm to MaxRealms.
func TestIsByCountOfRealms(t *testing.T) {
	wantIs(t, "nothing", api.Topo{}, false)
	wantIs(t, "empty lists", api.Topo{Realms: []string{}, Links: [][2]string{}, Paths: []api.Path{}}, false)
	all := []string{"EDU", "/COM", "A.EDU", "/COM/A", "ABCDEFGH.B.C.D", "/A/B/C/ABCDEFGH", "NET", "X.NET"}
	for n := range len(all) + 1 {
		p := api.Topo{Realms: all[:n]}
		wantIs(t, "realms alone", p, n >= 1 && n <= api.MaxRealms)
		p.Links, p.Paths = [][2]string{}, []api.Path{}
		wantIs(t, "realms, and empty lists", p, n >= 1 && n <= api.MaxRealms)
	}
	for _, r := range all {
		wantIs(t, "one realm", api.Topo{Realms: []string{r}}, true)
	}
}

// P7.1: of what is no realm, at each place, and of one that comes twice, at each
// two.
func TestIsOfRealmsThatMayNotBe(t *testing.T) {
	for n := 1; n <= api.MaxRealms; n++ {
		for i := range n {
			for _, none := range noRealms() {
				l := strings.Fields(sixRealms)[:n]
				l[i] = none
				wantIs(t, "no realm", api.Topo{Realms: l}, false)
			}
			for j := range i {
				l := strings.Fields(sixRealms)[:n]
				l[i] = l[j]
				wantIs(t, "a realm twice", api.Topo{Realms: l}, false)
			}
		}
	}
	wantIs(t, "one name of two kinds", topo("COM /COM", "COM>/COM", ""), true)
}

// eachPair is each two realms that are not one, there and back.
func eachPair(realms []string) [][2]string {
	var l [][2]string
	for _, from := range realms {
		for _, to := range realms {
			if from != to {
				l = append(l, [2]string{from, to})
			}
		}
	}
	return l
}

// P7.1: up to MaxLinks links.
func TestIsByCountOfLinks(t *testing.T) {
	p := topo(sixRealms, "", "")
	all := eachPair(p.Realms)
	for n := range len(all) + 1 {
		p.Links = all[:n]
		wantIs(t, "links", p, n <= api.MaxLinks)
	}
}

// linkFaults is links that may not be, whatever stands beside them.
func linkFaults() [][2]string {
	l := [][2]string{{"NET", "EDU"}, {"EDU", "NET"}, {"NET", "NET"}, {"NET", "/NET"}, {"edu", "MIT.EDU"}, {"EDU", "mit.EDU"}, {"", "EDU"}, {"EDU", ""}, {"", ""}, {"EDU.", "EDU"}, {"COM", "EDU"}}
	for _, r := range strings.Fields(sixRealms) {
		l = append(l, [2]string{r, r})
	}
	return l
}

// P7.1: of links that may not be, at each place.
func TestIsOfLinksThatMayNotBe(t *testing.T) {
	p := topo(sixRealms, "", "")
	all := eachPair(p.Realms)[:api.MaxLinks]
	for i := range all {
		for _, n := range []int{i + 1, api.MaxLinks} {
			p.Links = slices.Clone(all[:n])
			for _, fault := range linkFaults() {
				p.Links[i] = fault
				wantIs(t, "a link that may not be", p, false)
			}
			for j := range i {
				p.Links[i] = all[j]
				wantIs(t, "a link twice", p, false)
			}
		}
	}
}

// P7.1: a link there and one back are two.
func TestIsOfLinksThereAndBack(t *testing.T) {
	wantIs(t, "there", topo("A B", "A>B", ""), true)
	wantIs(t, "back", topo("A B", "B>A", ""), true)
	wantIs(t, "there and back", topo("A B", "A>B B>A", ""), true)
	wantIs(t, "there twice", topo("A B", "A>B A>B", ""), false)
	wantIs(t, "there, back, there", topo("A B", "A>B B>A A>B", ""), false)
	wantIs(t, "to itself", topo("A", "A>A", ""), false)
	wantIs(t, "from none of these", topo("A", "B>A", ""), false)
	wantIs(t, "to none of these", topo("A", "A>B", ""), false)
	wantIs(t, "two of one beginning", topo("A B C", "A>B A>C", ""), true)
	wantIs(t, "two of one end", topo("A B C", "A>C B>C", ""), true)
}

// pathsOf is paths of such ends with nothing on the way.
func pathsOf(ends [][2]string) []api.Path {
	var l []api.Path
	for _, e := range ends {
		l = append(l, api.Path{From: e[0], To: e[1]})
	}
	return l
}

// P7.1: up to MaxPaths paths.
func TestIsByCountOfPaths(t *testing.T) {
	p := topo(sixRealms, "", "")
	all := pathsOf(eachPair(p.Realms))
	for n := range len(all) + 1 {
		p.Paths = all[:n]
		wantIs(t, "paths", p, n <= api.MaxPaths)
	}
}

// P7.1: of paths whose ends may not be, at each place.
func TestIsOfPathsThatMayNotBe(t *testing.T) {
	p := topo(sixRealms, "", "")
	all := pathsOf(eachPair(p.Realms)[:api.MaxPaths])
	for i := range all {
		for _, n := range []int{i + 1, api.MaxPaths} {
			p.Paths = slices.Clone(all[:n])
			for _, fault := range pathsOf(linkFaults()) {
				p.Paths[i] = fault
				wantIs(t, "a path that may not be", p, false)
			}
			for j := range i {
				p.Paths[i] = all[j]
				wantIs(t, "two paths of one From and To", p, false)
				p.Paths[i].Via = []string{"/COM/HP/X"}
				wantIs(t, "two paths of one From and To, with another Via", p, false)
			}
		}
	}
}

// P7.1: a path there and one back are two.
func TestIsOfPathsThereAndBack(t *testing.T) {
	wantIs(t, "there", topo("A B C", "", "A>B:C"), true)
	wantIs(t, "there and back", topo("A B C", "", "A>B:C B>A:C"), true)
	wantIs(t, "there and back, without any between", topo("A B C", "", "A>B: B>A:"), true)
	wantIs(t, "there twice", topo("A B C", "", "A>B:C A>B:C"), false)
	wantIs(t, "there twice, not one way", topo("A B C", "", "A>B:C A>B:"), false)
	wantIs(t, "there, back, there", topo("A B C", "", "A>B: B>A: A>B:C"), false)
	wantIs(t, "to itself", topo("A B C", "", "A>A:"), false)
	wantIs(t, "to itself, by another", topo("A B C", "", "A>A:B"), false)
	wantIs(t, "from none of these", topo("A B C", "", "D>A:B"), false)
	wantIs(t, "to none of these", topo("A B C", "", "A>D:B"), false)
	wantIs(t, "two of one From", topo("A B C", "", "A>B:C A>C:B"), true)
	wantIs(t, "two of one To", topo("A B C", "", "A>C:B B>C:A"), true)
	wantIs(t, "without links", topo("A B C", "", "A>C:B"), true)
	wantIs(t, "links and paths of the same ends", topo("A B", "A>B B>A", "A>B: B>A:"), true)
}

// P7.1: a Via has up to MaxVia realms, none twice, none of the path's own ends.
func TestIsOfVia(t *testing.T) {
	wantIs(t, "none", topo("A B C D E F", "", "A>B:"), true)
	wantIs(t, "one", topo("A B C D E F", "", "A>B:C"), true)
	wantIs(t, "MaxVia", topo("A B C D E F", "", "A>B:C,D,E,F"), true)
	wantIs(t, "MaxVia in another order", topo("A B C D E F", "", "B>A:F,D,C,E"), true)
	wantIs(t, "one more, there twice", topo("A B C D E F", "", "A>B:C,D,E,F,C"), false)
	wantIs(t, "one more, the From", topo("A B C D E F", "", "A>B:C,D,E,F,A"), false)
	wantIs(t, "one more, none of these", topo("A B C D E F", "", "A>B:C,D,E,F,G"), false)
	// Of a seventh realm one more could be; but then there are too many realms.
	wantIs(t, "one more of seven", topo("A B C D E F G", "", "A>B:C,D,E,F,G"), false)
	for n := 1; n <= api.MaxVia; n++ {
		for i := range n {
			for _, fault := range append(noRealms(), "A", "B", "G", "NET", "/C") {
				via := []string{"C", "D", "E", "F"}[:n]
				via[i] = fault
				p := topo("A B C D E F", "", "B>A: A>B: E>F:A,B")
				p.Paths[1].Via = via
				wantIs(t, "a Via that may not be", p, false)
			}
			for j := range i {
				via := []string{"C", "D", "E", "F"}[:n]
				via[i] = via[j]
				p := topo("A B C D E F", "", "")
				p.Paths = []api.Path{{From: "A", To: "B", Via: via}}
				wantIs(t, "a Via with one twice", p, false)
			}
		}
	}
	p := topo("A B C D E F", "", "A>B:")
	p.Paths[0].Via = []string{}
	wantIs(t, "an empty Via", p, true)
}

// P7.1: a fault in the last path, as in the first.
func TestIsOfViaInEachPath(t *testing.T) {
	p := topo(sixRealms, "", "")
	for i := range api.MaxPaths {
		p.Paths = pathsOf(eachPair(p.Realms)[:api.MaxPaths])
		p.Paths[i].Via = []string{"/COM/HP/X"}
		wantIs(t, "a Via", p, p.Paths[i].To != "/COM/HP/X")
		p.Paths[i].Via = []string{"NET"}
		wantIs(t, "a Via of none of these", p, false)
	}
}

// P7.1: Linked there is not Linked back, and a path is no link.
func TestLinked(t *testing.T) {
	p := topo("A.EDU EDU B.EDU /COM", "A.EDU>EDU EDU>B.EDU EDU>A.EDU /COM>EDU", "B.EDU>A.EDU:EDU A.EDU>/COM:")
	wantIs(t, "links", p, true)
	linked := []string{"A.EDU>EDU", "EDU>B.EDU", "EDU>A.EDU", "/COM>EDU"}
	for _, from := range p.Realms {
		for _, to := range p.Realms {
			wantLinked(t, p, from, to, slices.Contains(linked, from+">"+to))
		}
	}
	for _, r := range p.Realms {
		wantLinked(t, topo("A.EDU EDU B.EDU /COM", "", ""), r, "EDU", false)
	}
}

// P7.1: each link alone, beside all pairs.
func TestLinkedByOneLink(t *testing.T) {
	p := topo(sixRealms, "", "")
	all := eachPair(p.Realms)
	for _, one := range all {
		p.Links = [][2]string{one}
		for _, pair := range all {
			wantLinked(t, p, pair[0], pair[1], pair == one)
		}
		for _, r := range p.Realms {
			wantLinked(t, p, r, r, false)
		}
	}
	p.Links = all[:api.MaxLinks]
	for i, pair := range all {
		wantLinked(t, p, pair[0], pair[1], i < api.MaxLinks)
	}
}

// P7.2: Via where no path is laid down: what is between, among the realms or not.
func TestViaWithoutPath(t *testing.T) {
	p := topo("X.A.EDU Y.B.EDU EDU X.COM /COM/HP /COM/DEC", "X.A.EDU>Y.B.EDU", "EDU>X.COM:/COM/HP")
	wantIs(t, "realms", p, true)
	for _, r := range p.Realms {
		wantVia(t, p, r, r)
	}
	wantVia(t, p, "X.A.EDU", "Y.B.EDU", "A.EDU", "EDU", "B.EDU")
	wantVia(t, p, "Y.B.EDU", "X.A.EDU", "B.EDU", "EDU", "A.EDU")
	wantVia(t, p, "X.A.EDU", "EDU", "A.EDU")
	wantVia(t, p, "EDU", "X.A.EDU", "A.EDU")
	wantVia(t, p, "X.A.EDU", "X.COM", "A.EDU", "EDU", "COM")
	wantVia(t, p, "X.COM", "EDU", "COM")
	wantVia(t, p, "/COM/HP", "/COM/DEC", "/COM")
	wantVia(t, p, "/COM/HP", "X.COM", "/COM", "COM")
	wantVia(t, p, "X.COM", "/COM/DEC", "COM", "/COM")
	// The one that is laid down is so in its own direction.
	wantVia(t, p, "EDU", "X.COM", "/COM/HP")
}

// P7.2: Via where a path is laid down is just that, whatever is between or linked.
func TestViaWithPath(t *testing.T) {
	p := topo("A.EDU EDU B.EDU COM /X /Y", "A.EDU>EDU EDU>B.EDU A.EDU>B.EDU",
		"A.EDU>B.EDU:/X,COM,/Y B.EDU>A.EDU: COM>EDU:/X EDU>COM:B.EDU,/Y,A.EDU,/X /X>/Y:EDU /Y>A.EDU:")
	wantIs(t, "paths", p, true)
	wantVia(t, p, "A.EDU", "B.EDU", "/X", "COM", "/Y")
	wantVia(t, p, "B.EDU", "A.EDU")
	wantVia(t, p, "COM", "EDU", "/X")
	wantVia(t, p, "EDU", "COM", "B.EDU", "/Y", "A.EDU", "/X")
	wantVia(t, p, "/X", "/Y", "EDU")
	wantVia(t, p, "/Y", "/X")
	wantVia(t, p, "/Y", "A.EDU")
	wantVia(t, p, "A.EDU", "/Y", "EDU")
	wantVia(t, p, "A.EDU", "EDU")
	wantVia(t, p, "A.EDU", "COM", "EDU")
	wantVia(t, p, "A.EDU", "A.EDU")
}

// P7.2: there is no Next from a realm to itself.
func TestNextToItself(t *testing.T) {
	for _, links := range []string{"", "A.EDU>EDU EDU>A.EDU", "A.EDU>B.EDU B.EDU>A.EDU EDU>B.EDU"} {
		p := topo("A.EDU EDU B.EDU", links, "A.EDU>EDU: EDU>A.EDU:B.EDU")
		for _, r := range p.Realms {
			wantNext(t, p, r, r, "")
		}
	}
}

// P7.2: with a path there is one step, if it is Linked.
func TestNextWithPath(t *testing.T) {
	for _, x := range []struct{ links, path, want string }{
		{"A.EDU>COM", "A.EDU>B.EDU:COM", "COM"},
		{"A.EDU>COM", "A.EDU>B.EDU:COM,EDU", "COM"},
		{"A.EDU>COM A.EDU>EDU A.EDU>B.EDU", "A.EDU>B.EDU:COM,EDU", "COM"},
		{"A.EDU>EDU A.EDU>COM", "A.EDU>B.EDU:EDU", "EDU"},
		{"A.EDU>B.EDU", "A.EDU>B.EDU:", "B.EDU"},
		{"A.EDU>B.EDU A.EDU>EDU", "A.EDU>B.EDU:", "B.EDU"},
		{"", "A.EDU>B.EDU:COM", ""},
		{"", "A.EDU>B.EDU:", ""},
		{"COM>A.EDU", "A.EDU>B.EDU:COM", ""},
		{"B.EDU>A.EDU", "A.EDU>B.EDU:", ""},
		// Another way would be Linked.
		{"A.EDU>B.EDU", "A.EDU>B.EDU:COM", ""},
		{"A.EDU>EDU", "A.EDU>B.EDU:COM", ""},
		{"A.EDU>EDU", "A.EDU>B.EDU:COM,EDU", ""},
		{"A.EDU>EDU A.EDU>B.EDU", "A.EDU>B.EDU:COM,EDU", ""},
		{"A.EDU>EDU", "A.EDU>B.EDU:", ""},
		{"A.EDU>EDU A.EDU>COM", "A.EDU>B.EDU:", ""},
		{"COM>B.EDU A.EDU>EDU EDU>B.EDU", "A.EDU>B.EDU:COM", ""},
		// A path of other ends, or the other way round, is none of these two.
		{"A.EDU>EDU A.EDU>COM", "B.EDU>A.EDU:COM", "EDU"},
		{"A.EDU>EDU A.EDU>COM", "A.EDU>EDU:COM", "EDU"},
		{"A.EDU>EDU A.EDU>COM", "EDU>B.EDU:COM A.EDU>COM:B.EDU", "EDU"},
		{"A.EDU>EDU A.EDU>COM", "B.EDU>A.EDU: EDU>B.EDU: A.EDU>B.EDU:COM", "COM"},
	} {
		p := topo("A.EDU EDU B.EDU COM", x.links, x.path)
		wantIs(t, "a path", p, true)
		wantNext(t, p, "A.EDU", "B.EDU", x.want)
	}
}

// P7.2: without a path Next is the farthest that is Linked, of the end and what is
// between.
func TestNextWithoutPath(t *testing.T) {
	for _, x := range []struct{ links, want string }{
		{"", ""},
		{"X.A.EDU>Y.B.EDU", "Y.B.EDU"},
		{"X.A.EDU>B.EDU", "B.EDU"},
		{"X.A.EDU>EDU", "EDU"},
		{"X.A.EDU>A.EDU", "A.EDU"},
		{"X.A.EDU>A.EDU X.A.EDU>EDU", "EDU"},
		{"X.A.EDU>EDU X.A.EDU>A.EDU", "EDU"},
		{"X.A.EDU>A.EDU X.A.EDU>EDU X.A.EDU>B.EDU", "B.EDU"},
		{"X.A.EDU>A.EDU X.A.EDU>EDU X.A.EDU>B.EDU X.A.EDU>Y.B.EDU", "Y.B.EDU"},
		{"X.A.EDU>Y.B.EDU X.A.EDU>B.EDU X.A.EDU>EDU X.A.EDU>A.EDU", "Y.B.EDU"},
		{"X.A.EDU>Y.B.EDU X.A.EDU>A.EDU", "Y.B.EDU"},
		{"X.A.EDU>A.EDU X.A.EDU>B.EDU", "B.EDU"},
		// One that is not between; links of others; links back.
		{"X.A.EDU>COM", ""},
		{"X.A.EDU>COM X.A.EDU>A.EDU", "A.EDU"},
		{"X.A.EDU>COM COM>Y.B.EDU", ""},
		{"A.EDU>EDU EDU>B.EDU B.EDU>Y.B.EDU A.EDU>Y.B.EDU", ""},
		{"Y.B.EDU>X.A.EDU B.EDU>X.A.EDU EDU>X.A.EDU A.EDU>X.A.EDU", ""},
		{"Y.B.EDU>X.A.EDU X.A.EDU>A.EDU B.EDU>X.A.EDU", "A.EDU"},
	} {
		p := topo("X.A.EDU A.EDU EDU B.EDU Y.B.EDU COM", x.links, "")
		wantIs(t, "links", p, true)
		wantNext(t, p, "X.A.EDU", "Y.B.EDU", x.want)
	}
	p := topo("EDU COM /COM", "EDU>COM COM>/COM", "")
	wantNext(t, p, "EDU", "COM", "COM")
	wantNext(t, p, "COM", "EDU", "")
	wantNext(t, p, "EDU", "/COM", "")
	p = topo("X.COM COM /COM /COM/HP", "X.COM>COM COM>/COM /COM>/COM/HP", "")
	wantNext(t, p, "X.COM", "/COM/HP", "COM")
	wantNext(t, p, "COM", "/COM/HP", "/COM")
	wantNext(t, p, "/COM", "/COM/HP", "/COM/HP")
	wantNext(t, p, "X.COM", "/COM", "COM")
}

// P7.3: from a realm to itself there is nothing on the way.
func TestWalkToItself(t *testing.T) {
	for _, links := range []string{"", "A>B", "A>B B>A"} {
		p := topo("A B C", links, "A>C:B C>A:")
		for _, r := range p.Realms {
			wantWalk(t, p, r, r)
		}
	}
	wantWalk(t, topo("/COM", "", ""), "/COM", "/COM")
}

// P7.3: from realm to realm, by links and by paths.
func TestWalk(t *testing.T) {
	for _, x := range []struct{ links, paths, from, to, want string }{
		{"A>B", "", "A", "B", ""},
		{"A>B", "A>B:", "A", "B", ""},
		{"X.A.EDU>A.EDU A.EDU>EDU EDU>B.EDU B.EDU>Y.B.EDU", "", "X.A.EDU", "Y.B.EDU", "A.EDU EDU B.EDU"},
		{"X.A.EDU>A.EDU A.EDU>EDU EDU>B.EDU B.EDU>Y.B.EDU", "", "A.EDU", "Y.B.EDU", "EDU B.EDU"},
		{"X.A.EDU>A.EDU A.EDU>EDU EDU>B.EDU B.EDU>Y.B.EDU A.EDU>B.EDU", "", "X.A.EDU", "Y.B.EDU", "A.EDU B.EDU"},
		{"X.A.EDU>A.EDU A.EDU>EDU EDU>B.EDU B.EDU>Y.B.EDU X.A.EDU>Y.B.EDU", "", "X.A.EDU", "Y.B.EDU", ""},
		{"X.A.EDU>EDU X.A.EDU>A.EDU A.EDU>Y.B.EDU EDU>B.EDU B.EDU>Y.B.EDU", "", "X.A.EDU", "Y.B.EDU", "EDU B.EDU"},
		{"A>B B>C C>D", "A>D:B,C B>D:C", "A", "D", "B C"},
		{"A>B B>D", "A>D:B", "A", "D", "B"},
		// Each realm on the way goes by its own path, or none.
		{"A>B B>E E>D", "A>D:B,C B>D:E", "A", "D", "B E"},
		{"A>B B>D", "A>D:B,C", "A", "D", "B"},
		{"A>B B>D", "A>D:B,C B>D:", "A", "D", "B"},
		{"A>B B>C C>E E>D", "A>D:B B>D:C,F C>D:E,A E>D:", "A", "D", "B C E"},
		{"A>B B>C C>E E>F F>D", "A>D:B B>D:C C>D:E E>D:F", "A", "D", "B C E F"},
		{"A.EDU>COM COM>EDU EDU>B.EDU", "A.EDU>B.EDU:COM", "A.EDU", "B.EDU", "COM EDU"},
		{"A.EDU>COM COM>EDU EDU>B.EDU COM>B.EDU", "A.EDU>B.EDU:COM", "A.EDU", "B.EDU", "COM"},
		{"A.EDU>COM COM>EDU EDU>B.EDU", "A.EDU>B.EDU:COM COM>B.EDU:EDU", "A.EDU", "B.EDU", "COM EDU"},
		{"/COM/HP>/COM /COM>COM COM>X.COM", "", "/COM/HP", "X.COM", "/COM COM"},
	} {
		p := madeTopo(x.links, x.paths)
		wantIs(t, "a way", p, true)
		wantWalk(t, p, x.from, x.to, strings.Fields(x.want)...)
	}
}

// madeTopo has the realms of its links and paths.
func madeTopo(links, paths string) api.Topo {
	all := strings.FieldsFunc(links+" "+paths, func(c rune) bool { return strings.ContainsRune(" >:,", c) })
	slices.Sort(all)
	return topo(strings.Join(slices.Compact(all), " "), links, paths)
}

// P7.3: a way that breaks off is none, wherever it does.
func TestWalkBreaksOff(t *testing.T) {
	links := strings.Fields("X.A.EDU>A.EDU A.EDU>EDU EDU>B.EDU B.EDU>Y.B.EDU")
	for i := range links {
		p := topo("X.A.EDU A.EDU EDU B.EDU Y.B.EDU", strings.Join(slices.Delete(slices.Clone(links), i, i+1), " "), "")
		wantIs(t, "a way that breaks off", p, true)
		wantNoWalk(t, p, "X.A.EDU", "Y.B.EDU")
	}
	wantNoWalk(t, topo("A B", "", ""), "A", "B")
	wantNoWalk(t, topo("A B", "B>A", ""), "A", "B")
	wantNoWalk(t, topo("A B C", "A>C", "A>C:B"), "A", "C")
	wantNoWalk(t, topo("A B C", "A>B", "A>C:B"), "A", "C")
	wantNoWalk(t, topo("A B C", "A>B B>A", "A>C:B B>C:A"), "B", "C")
	// The farthest that is Linked is taken, though another one would come there.
	wantNoWalk(t, topo("X.A.EDU A.EDU EDU B.EDU", "X.A.EDU>EDU X.A.EDU>A.EDU A.EDU>B.EDU", ""), "X.A.EDU", "B.EDU")
}

// P7.3: a way on which a realm comes twice is none: the first one, or one behind it.
func TestWalkInCircles(t *testing.T) {
	for _, x := range []struct{ links, paths string }{
		{"A>B B>A", "A>D:B B>D:A"},
		{"A>B B>C C>A", "A>D:B B>D:C C>D:A"},
		{"A>B B>C C>B", "A>D:B B>D:C C>D:B"},
		{"A>B B>C C>E E>F F>A", "A>D:B B>D:C C>D:E E>D:F F>D:A"},
		{"A>B B>C C>E E>F F>B", "A>D:B B>D:C C>D:E E>D:F F>D:B"},
		{"A>B B>C C>E E>F F>C", "A>D:B B>D:C C>D:E E>D:F F>D:C"},
		{"A>B B>C C>E E>F F>E F>D", "A>D:B B>D:C C>D:E E>D:F F>D:E"},
	} {
		p := topo("A B C D E F", x.links, x.paths)
		wantIs(t, "a circle", p, true)
		wantNoWalk(t, p, "A", "D")
	}
}

// P7.3: MaxHops may be on the way, one more may not. With MaxRealms realms there
// are no more than four on any way, so this asks it of more realms than may be.
func TestWalkByMaxHops(t *testing.T) {
	chain := "D.C.B.A>C.B.A C.B.A>B.A B.A>A A>E E>F.E F.E>G.F.E G.F.E>H.G.F.E"
	p := madeTopo(chain, "")
	wantWalk(t, p, "D.C.B.A", "F.E", "C.B.A", "B.A", "A", "E")
	wantWalk(t, p, "D.C.B.A", "G.F.E", "C.B.A", "B.A", "A", "E", "F.E")
	wantWalk(t, p, "C.B.A", "H.G.F.E", "B.A", "A", "E", "F.E", "G.F.E")
	wantNoWalk(t, p, "D.C.B.A", "H.G.F.E")
	p = madeTopo("A>B B>C C>D D>E E>F F>G G>H", "A>G:B B>G:C C>G:D D>G:E E>G:F A>H:B B>H:C C>H:D D>H:E E>H:F F>H:G")
	wantWalk(t, p, "A", "G", "B", "C", "D", "E", "F")
	wantWalk(t, p, "B", "H", "C", "D", "E", "F", "G")
	wantNoWalk(t, p, "A", "H")
	// As many as may be of MaxRealms realms.
	wantWalk(t, madeTopo("A>B B>C C>D D>E E>F", "A>F:B B>F:C C>F:D D>F:E"), "A", "F", "B", "C", "D", "E")
	wantWalk(t, madeTopo("X.A.EDU>A.EDU A.EDU>EDU EDU>B.EDU B.EDU>Y.B.EDU Y.B.EDU>Z.Y.B.EDU", ""), "X.A.EDU", "Z.Y.B.EDU", "A.EDU", "EDU", "B.EDU", "Y.B.EDU")
}

// P7.3: all must be among what is between, as often and in whatever order.
func TestAllowedByBetween(t *testing.T) {
	p := topo("X.A.EDU A.EDU EDU B.EDU Y.B.EDU COM", "X.A.EDU>COM COM>Y.B.EDU", "")
	for l, want := range map[string]bool{
		"": true, "A.EDU": true, "EDU": true, "B.EDU": true, "A.EDU EDU B.EDU": true, "B.EDU EDU A.EDU": true, "EDU B.EDU": true, "EDU EDU EDU": true,
		"A.EDU EDU B.EDU A.EDU EDU B.EDU A.EDU EDU B.EDU": true,
		"X.A.EDU": false, "Y.B.EDU": false, "COM": false, "NET": false, "edu": false, "/EDU": false, "C.EDU": false, "DU": false, "A": false, "Z.A.EDU": false,
		"COM A.EDU EDU B.EDU": false, "A.EDU COM EDU B.EDU": false, "A.EDU EDU B.EDU COM": false, "A.EDU EDU B.EDU Y.B.EDU": false, "X.A.EDU A.EDU": false,
	} {
		wantAllowed(t, p, "X.A.EDU", "Y.B.EDU", l, want)
		wantAllowed(t, p, "Y.B.EDU", "X.A.EDU", l, want)
	}
	if !route.Allowed(p, "X.A.EDU", "Y.B.EDU", []string{}) || !route.Allowed(p, "X.A.EDU", "Y.B.EDU", nil) {
		t.Error("nothing that was passed is not Allowed")
	}
	if route.Allowed(p, "X.A.EDU", "Y.B.EDU", []string{""}) {
		t.Error("an empty text is Allowed")
	}
	// None is between realms that are one, or next to one another.
	wantAllowed(t, p, "EDU", "EDU", "", true)
	wantAllowed(t, p, "EDU", "EDU", "EDU", false)
	wantAllowed(t, p, "A.EDU", "EDU", "", true)
	wantAllowed(t, p, "A.EDU", "EDU", "A.EDU", false)
	wantAllowed(t, p, "A.EDU", "EDU", "EDU", false)
	// What is between may be none of the realms.
	wantAllowed(t, topo("X.A.EDU Y.B.EDU", "", ""), "X.A.EDU", "Y.B.EDU", "A.EDU B.EDU EDU", true)
	wantAllowed(t, topo("/A/B COM", "", ""), "/A/B", "COM", "/A", true)
}

// P7.3: where a path is laid down just its Via may be passed, not what is between.
func TestAllowedByPath(t *testing.T) {
	p := topo("A.EDU EDU B.EDU COM /X", "A.EDU>EDU EDU>B.EDU", "A.EDU>B.EDU:/X,COM B.EDU>COM:")
	for l, want := range map[string]bool{
		"": true, "COM": true, "/X": true, "/X COM": true, "COM /X COM": true,
		"EDU": false, "/X EDU": false, "EDU COM": false, "/X EDU COM": false, "A.EDU": false, "B.EDU": false, "NET": false,
	} {
		wantAllowed(t, p, "A.EDU", "B.EDU", l, want)
	}
	wantAllowed(t, p, "B.EDU", "A.EDU", "EDU", true)
	wantAllowed(t, p, "B.EDU", "A.EDU", "COM", false)
	wantAllowed(t, p, "B.EDU", "COM", "EDU", false)
	wantAllowed(t, p, "B.EDU", "COM", "", true)
	wantAllowed(t, p, "COM", "B.EDU", "EDU", true)
}

// P7.1 to P7.3: of three realms of one tree, and of three tops, all links and a few
// paths.
func TestEachFewLinks(t *testing.T) {
	for _, realms := range []string{"A.EDU EDU B.EDU", "X.A.EDU A.EDU EDU", "A B C", "/A /A/B C"} {
		p := topo(realms, "", "")
		all := eachPair(p.Realms)
		a, b, c := p.Realms[0], p.Realms[1], p.Realms[2]
		for _, paths := range [][]api.Path{
			nil, {{From: a, To: c}}, {{From: a, To: c, Via: []string{b}}},
			{{From: a, To: c, Via: []string{b}}, {From: b, To: c, Via: []string{a}}},
			{{From: b, To: c, Via: []string{a}}, {From: c, To: b}, {From: a, To: b, Via: []string{c}}},
		} {
			p.Paths = paths
			for set := range 1 << len(all) {
				p.Links = nil
				for i, pair := range all {
					if set>>i&1 == 1 {
						p.Links = append(p.Links, pair)
					}
				}
				wantIs(t, "few links", p, true)
				wantModel(t, p)
			}
		}
	}
}

// manyRealms is realms of a few trees of both kinds.
func manyRealms() []string {
	return []string{
		"EDU", "A.EDU", "B.EDU", "X.A.EDU", "Y.A.EDU", "Y.B.EDU", "W.X.A.EDU", "COM", "X.COM",
		"/COM", "/COM/HP", "/COM/DEC", "/COM/HP/X", "/EDU", "/EDU/A", "ABCDEFGH", "/ABCDEFGH",
	}
}

// randomTopo is one that may be.
func randomTopo(r *rand.Rand) api.Topo {
	all := manyRealms()
	r.Shuffle(len(all), func(i, j int) { all[i], all[j] = all[j], all[i] })
	p := api.Topo{Realms: all[:1+r.Intn(api.MaxRealms)]}
	pairs := eachPair(p.Realms)
	r.Shuffle(len(pairs), func(i, j int) { pairs[i], pairs[j] = pairs[j], pairs[i] })
	p.Links = slices.Clone(pairs[:r.Intn(min(len(pairs), api.MaxLinks)+1)])
	r.Shuffle(len(pairs), func(i, j int) { pairs[i], pairs[j] = pairs[j], pairs[i] })
	for _, pair := range pairs[:r.Intn(min(len(pairs), api.MaxPaths)+1)] {
		var via []string
		for _, i := range r.Perm(len(p.Realms)) {
			if x := p.Realms[i]; x != pair[0] && x != pair[1] && r.Intn(2) == 0 {
				via = append(via, x)
			}
		}
		p.Paths = append(p.Paths, api.Path{From: pair[0], To: pair[1], Via: via})
	}
	return p
}

// spoil changes a text of one, or puts one more into a list of it.
func spoil(r *rand.Rand, p *api.Topo) {
	texts := append(append(manyRealms(), p.Realms...), noRealms()[r.Intn(len(noRealms()))])
	text := func() string { return texts[r.Intn(len(texts))] }
	switch r.Intn(9) {
	case 0:
		p.Realms = append(p.Realms, text())
	case 1:
		p.Realms[r.Intn(len(p.Realms))] = text()
	case 2:
		p.Links = append(p.Links, [2]string{text(), text()})
	case 3:
		if len(p.Links) > 0 {
			p.Links[r.Intn(len(p.Links))][r.Intn(2)] = text()
		}
	case 4:
		p.Paths = append(p.Paths, api.Path{From: text(), To: text()})
	case 5, 6, 7, 8:
		if len(p.Paths) > 0 {
			spoilPath(r, &p.Paths[r.Intn(len(p.Paths))], text())
		}
	}
}

func spoilPath(r *rand.Rand, p *api.Path, text string) {
	switch n := r.Intn(4); {
	case n == 0:
		p.From = text
	case n == 1:
		p.To = text
	case n == 2 && len(p.Via) > 0:
		p.Via[r.Intn(len(p.Via))] = text
	default:
		p.Via = append(p.Via, text)
	}
}

// P7.1 to P7.3: what may be is as the model says; with a fault or two Is still is.
func TestRandomTopos(t *testing.T) {
	r := rand.New(rand.NewSource(71))
	for range 4000 {
		p := clone(randomTopo(r))
		wantIs(t, "one that may be", p, true)
		wantModel(t, p)
		for range 8 {
			spoiled := clone(p)
			for range 1 + r.Intn(2) {
				spoil(r, &spoiled)
			}
			wantIs(t, "one with faults", spoiled, modelIs(spoiled))
		}
	}
}

// P7.3: a Walk that is told is a Walk: each step is a link, no realm comes twice.
func TestWalksAreWays(t *testing.T) {
	r := rand.New(rand.NewSource(72))
	for range 4000 {
		p := randomTopo(r)
		for _, pair := range eachPair(p.Realms) {
			way, ok := route.Walk(p, pair[0], pair[1])
			if !ok {
				continue
			}
			whole := slices.Concat(pair[:1], way, pair[1:])
			for i, x := range whole[1:] {
				if !route.Linked(p, whole[i], x) || slices.Contains(whole[:i+1], x) {
					t.Fatalf("Walk(%q, %q, %q) is %q", p, pair[0], pair[1], way)
				}
			}
		}
	}
}

// many is one with each list far too long.
func many(r *rand.Rand) api.Topo {
	p := api.Topo{}
	texts := append(manyRealms(), noRealms()...)
	text := func() string { return texts[r.Intn(len(texts))] }
	for range 1 << 16 {
		p.Realms = append(p.Realms, text())
		p.Links = append(p.Links, [2]string{text(), text()})
		p.Paths = append(p.Paths, api.Path{From: text(), To: text(), Via: []string{text(), text()}})
	}
	p.Paths[0].Via = p.Realms
	return p
}

// W1: whatever is handed in, each call ends without a panic; Is tells what may not
// be.
func TestAnyTopos(t *testing.T) {
	r := rand.New(rand.NewSource(73))
	long := strings.Repeat("A.", 1<<20)
	topos := []api.Topo{
		{}, many(r), topo("A", "A>A", "A>A:A"), topo("A B", "A>B B>A A>A B>B", "A>B:A,B B>A:A,B,A"), topo("A B", "A>B", "A>B:B A>B:"),
		{Realms: []string{""}, Links: [][2]string{{}}, Paths: []api.Path{{}}}, {Realms: []string{long}}, {Realms: []string{"A"}, Links: [][2]string{{long, long}}},
		{Realms: []string{"A", "B"}, Paths: []api.Path{{From: long, To: long, Via: []string{long}}}},
		{Realms: []string{"A", "B"}, Paths: []api.Path{{From: "A", To: "B", Via: make([]string, 1<<16)}}},
	}
	for _, p := range topos {
		wantIs(t, "one that may not be", p, false)
		for _, from := range []string{"", "A", "B", "EDU", "edu", "/COM/HP", "\xff", long} {
			for _, to := range []string{"", "A", "B", "X.A.EDU", " ", "/COM", long} {
				route.Linked(p, from, to)
				route.Via(p, from, to)
				route.Walk(p, from, to)
				route.Allowed(p, from, to, []string{"", long, "EDU", "A"})
				wantNext(t, p, from, from, "")
				if next, ok := route.Next(p, from, to); !ok && next != "" {
					t.Errorf("Next(.., %.9q, %.9q) is none, and %.9q", from, to, next)
				}
			}
		}
	}
	p := topo("A.EDU EDU B.EDU", "A.EDU>EDU", "")
	wantAllowed(t, p, "A.EDU", "B.EDU", strings.Repeat("EDU ", 1<<20), true)
	wantAllowed(t, p, "A.EDU", "B.EDU", strings.Repeat("EDU ", 1<<20)+"COM", false)
	wantAllowed(t, p, "A.EDU", "B.EDU", long, false)
}

// share tells whether two texts have a byte of memory in common.
func share(a, b string) bool {
	if a == "" || b == "" {
		return false
	}
	p, q := uintptr(unsafe.Pointer(unsafe.StringData(a))), uintptr(unsafe.Pointer(unsafe.StringData(b)))
	return p < q+uintptr(len(b)) && q < p+uintptr(len(a))
}

func textsOf(p api.Topo) []string {
	l := slices.Clone(p.Realms)
	for _, x := range p.Links {
		l = append(l, x[:]...)
	}
	for _, x := range p.Paths {
		l = append(append(l, x.From, x.To), x.Via...)
	}
	return l
}

// P7.4, W6: no text that is answered shares memory with one that was handed in.
func TestTextsAreNewMemory(t *testing.T) {
	r := rand.New(rand.NewSource(74))
	for range 300 {
		p := clone(randomTopo(r))
		given := textsOf(p)
		for _, from := range p.Realms {
			for _, to := range p.Realms {
				from, to := strings.Clone(from), strings.Clone(to)
				next, _ := route.Next(p, from, to)
				way, _ := route.Walk(p, from, to)
				for _, got := range append(slices.Concat(way, route.Via(p, from, to)), next) {
					for _, in := range append(given, from, to) {
						if share(got, in) {
							t.Fatalf("of %q, %q, %q the answer %q is of memory that was handed in", p, from, to, got)
						}
					}
				}
			}
		}
	}
}

// roomy is one with spare room behind each list's end, and what stands there.
func roomy(p api.Topo) (api.Topo, func() bool) {
	rooms := [][]string{append(slices.Clone(p.Realms), "ROOM", "ROOM")}
	q := api.Topo{Realms: rooms[0][:len(p.Realms)]}
	links := append(slices.Clone(p.Links), [2]string{"ROOM", "ROOM"}, [2]string{"ROOM", "ROOM"})
	paths := append(slices.Clone(p.Paths), api.Path{From: "ROOM", To: "ROOM"}, api.Path{From: "ROOM", To: "ROOM"})
	for i, x := range p.Paths {
		room := append(slices.Clone(x.Via), "ROOM", "ROOM")
		rooms = append(rooms, room)
		paths[i].Via = room[:len(x.Via)]
	}
	q.Links, q.Paths = links[:len(p.Links)], paths[:len(p.Paths)]
	return q, func() bool {
		for _, room := range rooms {
			if !slices.Equal(room[len(room)-2:], []string{"ROOM", "ROOM"}) {
				return false
			}
		}
		for i := range 2 {
			if x := paths[len(p.Paths)+i]; links[len(p.Links)+i] != [2]string{"ROOM", "ROOM"} || x.From != "ROOM" || x.To != "ROOM" || x.Via != nil {
				return false
			}
		}
		return true
	}
}

// callEach calls all of the package, of each two realms.
func callEach(p api.Topo) {
	route.Is(p)
	for _, from := range p.Realms {
		for _, to := range p.Realms {
			route.Linked(p, from, to)
			route.Via(p, from, to)
			route.Next(p, from, to)
			route.Walk(p, from, to)
			route.Allowed(p, from, to, p.Realms)
		}
	}
}

// P7.4: what is handed in is not changed, nor is the room behind it.
func TestWhatIsHandedInStays(t *testing.T) {
	r := rand.New(rand.NewSource(75))
	for range 1000 {
		p := clone(randomTopo(r))
		if r.Intn(2) == 0 {
			spoil(r, &p)
		}
		was := clone(p)
		q, stays := roomy(p)
		callEach(q)
		if !same(q, was) || !stays() {
			t.Fatalf("%q became %q, or the room behind it changed", was, q)
		}
	}
	l := []string{"EDU", "COM", "ROOM", "ROOM"}
	p := topo("A.EDU EDU B.EDU", "", "")
	route.Allowed(p, "A.EDU", "B.EDU", l[:1])
	route.Allowed(p, "A.EDU", "B.EDU", l[:2])
	if !slices.Equal(l, []string{"EDU", "COM", "ROOM", "ROOM"}) {
		t.Errorf("Allowed made the list %q", l)
	}
}

// P7.4, W6, W7: each list that is answered is new, its spare room too: one may be
// changed, and all else stays; and what is handed in may be changed, and the
// answers stay.
func TestListsAreNewMemory(t *testing.T) {
	changeAll := func(l []string) {
		l = l[:cap(l)]
		for i := range l {
			l[i] = "CHANGED"
		}
	}
	r := rand.New(rand.NewSource(76))
	for range 1000 {
		p := clone(randomTopo(r))
		was := clone(p)
		for _, pair := range eachPair(p.Realms) {
			from, to := strings.Clone(pair[0]), strings.Clone(pair[1])
			via, _ := modelVia(was, from, to)
			walk, ok := modelWalk(was, from, to)
			gotVia, otherVia := route.Via(p, from, to), route.Via(p, from, to)
			gotWalk, _ := route.Walk(p, from, to)
			otherWalk, gotOk := route.Walk(p, from, to)
			changeAll(otherVia)
			changeAll(otherWalk)
			if !same(p, was) || !slices.Equal(gotVia, via) || gotOk != ok || !slices.Equal(gotWalk, walk) {
				t.Fatalf("behind a change of an answer: %q, Via %q, Walk %q", p, gotVia, gotWalk)
			}
		}
		for _, x := range p.Paths {
			got, want := route.Via(p, x.From, x.To), slices.Clone(x.Via)
			changeAll(x.Via)
			if !slices.Equal(got, want) {
				t.Fatalf("behind a change of what was handed in Via is %q", got)
			}
		}
	}
}

// P7.4: nothing is kept: of one after another each answer is of its own.
func TestNothingIsKept(t *testing.T) {
	p := topo("A.EDU EDU B.EDU COM", "A.EDU>EDU", "")
	wantNext(t, p, "A.EDU", "B.EDU", "EDU")
	p.Links[0] = [2]string{"A.EDU", "COM"}
	wantNext(t, p, "A.EDU", "B.EDU", "")
	p.Paths = topo("", "", "A.EDU>B.EDU:COM").Paths
	wantNext(t, p, "A.EDU", "B.EDU", "COM")
	wantAllowed(t, p, "A.EDU", "B.EDU", "COM", true)
	p.Paths[0].Via[0] = "EDU"
	wantVia(t, p, "A.EDU", "B.EDU", "EDU")
	wantNext(t, p, "A.EDU", "B.EDU", "")
	wantAllowed(t, p, "A.EDU", "B.EDU", "COM", false)
	p.Realms[0] = "EDU"
	wantIs(t, "a realm twice", p, false)
}
